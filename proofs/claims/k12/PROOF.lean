import PyProof.Rows.All
import Wide.All
import OpenK.AllK
import Wide.FinOn
import HandS.ForMost
import HandS.IsInst
import HandS.Strs
import HandS.ExcInit
import HandS.ExcField
import HandS.ExcIs
import HandS.TryOnly
import HandS.Lambda
import HandS.EndTab
import HandS.Flow
import HandS.SortInts
import HandS.SortRule
import HandS.SortKw
import KE.KTupSum
import HandS.NamedTupSort
import PyProof.P3Eq
import HandS.ReCall
import HandS.OwnEq
import HandS.TupAny
import HandS.Deep
import PyProof.InstNe
import KE.SortKeyHeap
import HandS.Walk
import KE.GoesEnum
import PyProof.P3In
import KE.KExcIs
import HandS.DictComp
import KE.GoesZip
import KE.KDictZip
import HandS.Zip
import PyProof.ReprRoads
import PyProof.CallFns
import HandS.Nested
import HandS.CallLocal
import HandS.Comp
import HandS.Exc
import HandS.Evl
import HandS.WordsExc
import HandS.Conv
import HandS.Style
import HandS.Flt
import HandS.FltList
import HandS.MakeKwOnly
import PyProof.Rows.StrJoinMade
import HandS.ClsMeth
import HandS.StrMore
import HandS.Steps
import KE.KCallOwn
import HandS.Text
import PyProof.Rows.StrDigits
import PyProof.StrLawsChain
import PyProof.NeKinds
import HandS.Dict
import KE.KNestM
import KE.OsRunLaw
import PySem.Challenge.RW_ringbars_k12_arms_and_arcs_bar_by_bar
set_option Elab.async false
set_option linter.all false
set_option maxRecDepth 100000
set_option maxHeartbeats 4000000
/-! ## rules of our own, for what the rings' program says and the layer has no rule for -/
namespace Rg
open PySem PySem.Spec PyProof.Rows L2

/-! ### f(k = v, ..), oj.m(k = v, ..) -/
section
variable {X : Cx} {CX : CXT} {k : Nat} {f C : Addr} {fd : FuncData} {ps ks : List Str} {sp : Sp} {E : XK} {x m : Str} {p pos apos : Pos} {oj : Expr} {kws : List Keyword} {ta : TE} {tkn : TA}
variable {g : List Value → List Value → List Value} {gV : List V → List V → List V}
theorem pe_callK0 (F : FnOk X.prog X.w X.K X.mg X.base CX k f fd ps sp) (hr : Room k X.A) (hg : Gl X x) (hmm : X.mg x = some (.ref f)) (hk : PySem.W.keepIn X.K (.ref f) = true) (hb : KBinds X.K fd ps ks g gV) (hx : Passes CX X E)
    (hkw : PK X kws tkn) (hall : (backToKw pos (keywordEach kws X.env)).all (·.1.isSome) = true := by rfl) (hks : (backToKw pos (keywordEach kws X.env)).filterMap (·.1) = ks := by rfl)
    (hdb : (x == ("__debug__" : Str)) = false := by decide)
    (hpl : ((backTo pos (starEach [] X.env)).any (·.1) || (backToKw pos (keywordEach kws X.env)).any (·.1.isNone)) = false := by rfl) :
    PE X (.Call (.Name x p) [] kws pos) (tCallK sp gV E tNil tkn) := by
  refine ⟨fun pns s σs Hh Qq Iv h => ?_⟩
  refine wpAny_Call_Name_kw (ld_glob Iv hg hmm ?_ hdb)
  refine PySem.W.callWith_KW0 (h₀ := X.base) Iv.ok.mod.kin hk hall ?_ hpl
  refine thn (hkw.run pos pns s σs Hh _ Iv h) fun kvs2 sh2 ⟨zvs, H2, I2, rlz, q2⟩ => ⟨I2.kIn, ?_⟩
  rw [hks]
  exact run_fnk (us := []) (vs := []) F hr hb hx I2 .nil rlz q2
/-- oj.m(k = v, ..) -/
def tMethK (C : Addr) (m : Str) (sp : Sp) (gV : List V → List V → List V) (E : XK) (ta : TE) (tkn : TA) : TE := fun σs Hh Qq => ta σs Hh fun x H1 => ∃ a dx fs, x = .ref a ∧ H1 a = some (.ins C dx fs) ∧ fs.lookup m = none ∧
  tkn σs H1 fun zvs H2 => sp (gV [.ref a] zvs) H2 Qq E
theorem pe_methK0 {pl : Sem Bool} (he : PE X oj ta) (c : Cls X.K C) (hmm : Meth X.K C m f) (F : FnOk X.prog X.w X.K X.mg X.base CX k f fd ps sp) (hr : Room k X.A) (hb : KBinds X.K fd ps ks g gV) (hx : Passes CX X E)
    (hkw : PK X kws tkn) (hall : (backToKw pos (keywordEach kws X.env)).all (·.1.isSome) = true := by rfl) (hks : (backToKw pos (keywordEach kws X.env)).filterMap (·.1) = ks := by rfl)
    (hpl : ((backTo pos (starEach [] X.env)).any (·.1) || (backToKw pos (keywordEach kws X.env)).any (·.1.isNone)) = false := by rfl)
    (ht : eval (.Call (.Attribute oj m apos) [] kws pos) X.env = (do
      let ov ← eval oj X.env
      standAt apos.atName
      let (f, first) ← holding [ov] (getMethod ov m pl)
      callWith pos f first (backTo pos (starEach [] X.env)) (backToKw pos (keywordEach kws X.env))) := by rfl) :
    PE X (.Call (.Attribute oj m apos) [] kws pos) (tMethK C m sp gV E ta tkn) := by
  refine ⟨fun pns s σs Hh Qq Iv h => ?_⟩
  refine PySem.W.methodCall_KW (pl := pl) (thn (he.run pns s σs Hh _ Iv h) fun u sh1 ⟨x, H1, I1, rlx, a, dx, fs, ex, eqa, l, qq⟩ => ?_) ht
  subst ex
  obtain rfl : u = Value.ref a := rlx
  refine getmeth_ok I1 eqa c hmm l ?_
  refine PySem.W.callWith_KW0 (first := [.ref a]) (h₀ := X.base) Iv.ok.mod.kin hmm.kp hall ?_ hpl
  refine thn (hkw.run pos pns sh1 σs H1 _ I1 qq) fun kvs2 sh2 ⟨zvs, H2, I2, rlz, q2⟩ => ⟨I2.kIn, ?_⟩
  rw [hks]
  exact run_fnk (us := [.ref a]) (vs := [.ref a]) F hr hb hx I2 (.cons rfl .nil) rlz q2
end

/-! ### len(oj), the instance's own __len__ -/
section
variable {X : Cx} {k : Nat} {f : Addr} {fd : FuncData} {sp : Sp}
def rLenO (K : PySem.W.Frag) (f : Addr) (sp : Sp) : List V → Hp → VK → Prop := fun vxs Hh Qq => ∃ a C dx fs, vxs = [.ref a] ∧ Hh a = some (.ins C dx fs) ∧ PySem.W.findIn K (.ref C) "__len__" = some (some (.ref f)) ∧ PySem.W.isFn K (.ref f) = true ∧
  sp [.ref a] Hh (fun v H' => ∃ n : Int, v = .int n ∧ 0 ≤ n ∧ n < 2 ^ 63 ∧ Qq (.int n) H') E0
theorem call_lenO (F : FnOk X.prog X.w X.K X.mg X.base CX0 k f fd ["self"] sp) (hr : Room (k + 1) X.A) (hb : Binds X.K fd ["self"] []) : CallR X (.builtin "len") (rLenO X.K f sp) := by
  intro pns s σs Hh vxs uvs Qq Iv r h
  obtain ⟨a, C, dx, fs, rfl, eqa, hs, hf, qq⟩ := h
  obtain ⟨u, rfl, rlu⟩ := vals1 r
  obtain rfl : u = Value.ref a := rlu
  obtain ⟨mA, O, _, _, _, _⟩ := ins_get Iv.hok eqa
  obtain ⟨m, fr⟩ := Iv.fr
  obtain ⟨od, hod⟩ : ∃ od, s.heap.get? dx = some od := let ⟨oj, _, _, e', _⟩ := O.ns; ⟨oj, e'⟩
  refine PySem.W.len_K fr Iv.ok.mod.kin (ox := PySem.W.instObj C dx) (C := C) (od := some od) ⟨O.obj, rfl, rfl, hod⟩ hs hf ?_
  have hlst : ([Value.ref a] ++ []).length = (["self"] : List Str).length := rfl
  refine wpAny_call (codeAny_mono (F.run X.A.in1 X.stack s Hh ⟨[.ref a], []⟩ [.ref a] [.ref a] _ E0 hr.in1 Iv.env0.in1 (hb s [.ref a] Iv.kIn hlst) (.cons rfl .nil) qq) fun r s' hsq => ?_)
  cases r with
  | error e => exact hsq.elim
  | ok fl =>
    cases fl with
    | ret u =>
      obtain ⟨v, H', I3, rlv, n, ev, h0, hh1, q3⟩ := Iv.after hsq
      subst ev
      obtain ⟨t, rfl⟩ := rlv
      exact ⟨⟨h0, hh1⟩, ⟨.int n, H', I3.tok _, ⟨_, rfl⟩, q3⟩⟩
    | next => exact False.elim hsq
    | brk => exact False.elim hsq
    | cont => exact False.elim hsq
end

/-! ### sum, max of a tuple of ints; vls index -/
section
variable {prog : Program} {w : World} {A : Around} {E : Value → Shared → Prop} {s : Shared} {l : Addr} {vls : List Value} {nms : List Int} {Qq : Value → Shared → Prop}
theorem isTuple_of {h : Heap} (x : IsTup h l vls.toArray) : h.IsTuple l vls.toArray := x
theorem sumT_raw (hcal : A.handled = none) (hlst : s.heap.IsTuple l vls.toArray) (hint : IntsAre vls nms)
    (h : ∀ h' tkn t', (∀ b oj, s.heap.get? b = some oj → h'.get? b = some oj) → Qq (.int nms.sum t') { s with heap := h', toks := tkn }) : wpAny (model prog w) A (call (.builtin "sum") [.ref l]) Qq E s := by
  obtain ⟨vxs, e⟩ := hint.allInts.items
  have hnn : numsOf (intItems vxs).toList = nms := by rw [← e]; exact hint.numsOf
  rw [nums_intItems] at hnn
  rw [e] at hlst
  refine PySem.W.ktm_sumG hcal hlst fun h' tkn t' hk => ?_
  have := h h' tkn t' hk
  rw [preSum_eq, List.take_of_length_le (by simp), hnn]; exact this
end
section
variable {X : Cx}
def rSumT (K : PySem.W.Frag) : List V → Hp → VK → Prop := fun vs Hh Qq => ∃ (a : Addr) (nms : List Int), vs = [V.ref a] ∧ SqT K Hh a (nms.map V.int) ∧ Qq (.int nms.sum) Hh
theorem cr_sumT (hc : X.calm = true) : CallR X (.builtin "sum") (rSumT X.K) := by
  intro pns s σs Hh vs uvs Qq Iv r h
  obtain ⟨a, nms, rfl, hs, qq⟩ := h
  obtain ⟨vls, rlv, hlst, _⟩ := Iv.tuple hs
  rw [Vals.ref1 r]
  exact sumT_raw (Iv.ok.hd hc) (isTuple_of hlst) rlv.ints fun h' tkn t' hk => ⟨.int _, Hh, Iv.kept hk, ⟨_, rfl⟩, qq⟩
end
end Rg
namespace Rg
open PySem PySem.Spec PyProof.Rows L2
/-! ### max of a tuple of ints, vls index, isinstance of a caught error with fields -/
section
variable {prog : Program} {w : World} {A : Around} {E : Value → Shared → Prop} {s : Shared} {l : Addr} {vls : List Value} {nms : List Int} {Qq : Value → Shared → Prop}
theorem max_intTup {vxs : Array (Int × Tok)} (hcal : A.handled = none) (ht : s.heap.IsTuple l (intItems vxs)) (hpos : 0 < vxs.size)
    (h : ∀ v h' tkn, (intItems vxs)[argBest (fun i j => decide (numAt vxs i > numAt vxs j)) (vxs.size - 1)]? = some v → (∀ b oj, s.heap.get? b = some oj → h'.get? b = some oj) → Qq v { s with heap := h', toks := tkn }) :
    wpAny (model prog w) A (call (.builtin "max") [.ref l]) Qq E s := by
  obtain ⟨oj, hob, hc, n, hd⟩ := id ht
  have hI : l ≠ s.heap.objs.size := Nat.ne_of_lt (Heap.lt_size hob)
  refine call_max_walk (wpAny_pyIter_tuple ht ?_)
  refine ⟨s.heap.objs.size, _, _, _, _, _, _, rfl, Walks.tuple (A := A.in1) hcal _ l hI (intItems vxs), ⟨⟨_, Heap.get?_push_size _ rfl, rfl, rfl⟩, ht.at fun oj e => Heap.get?_push_of_some _ e⟩, fun b hb => ?_, by simpa [intItems] using hpos, CmpOf.ints_gt (numAt vxs) (fun _ _ => intItems_at), fun v h' tkn hP hk => ?_⟩
  · rcases List.mem_cons.mp hb with rfl | hb
    · exact Heap.lt_size (Heap.get?_push_size _ rfl)
    · obtain rfl := List.mem_singleton.mp hb
      exact Heap.lt_size (Heap.get?_push_of_some _ hob)
  · refine h v h' tkn (by simpa [intItems] using hP) fun b oj e => ?_
    exact hk b oj (fun hb => absurd (Heap.lt_size e) ((List.mem_singleton.mp hb) ▸ Nat.lt_irrefl _)) (Heap.get?_push_of_some _ e)
theorem maxT_raw (hcal : A.handled = none) (hlst : s.heap.IsTuple l vls.toArray) (hint : IntsAre vls nms) (hpos : 0 < nms.length)
    (h : ∀ h' tkn M t', (∀ b oj, s.heap.get? b = some oj → h'.get? b = some oj) → M ∈ nms → (∀ a, a ∈ nms → a ≤ M) → Qq (.int M t') { s with heap := h', toks := tkn }) : wpAny (model prog w) A (call (.builtin "max") [.ref l]) Qq E s := by
  obtain ⟨vxs, e⟩ := hint.allInts.items
  have hnn : numsOf (intItems vxs).toList = nms := by rw [← e]; exact hint.numsOf
  rw [nums_intItems] at hnn
  subst hnn
  rw [e] at hlst
  have hsz : 0 < vxs.size := by simpa using hpos
  refine max_intTup hcal hlst hsz fun v h' tkn hval hk => ?_
  obtain ⟨t, rfl⟩ := intItems_at hval
  obtain ⟨hh1, hh2⟩ := argBest_gt (numAt vxs) (vxs.size - 1)
  refine h h' tkn _ t hk ?_ fun a ha => ?_
  · rw [numAt_eq]; exact PySem.getD_mem (by rw [List.length_map, Array.length_toList]; omega)
  · obtain ⟨j, hjj, rfl⟩ := mem_getD ha
    rw [List.length_map, Array.length_toList] at hjj
    rw [← numAt_eq]; exact hh2 j (by omega)
end
section
variable {X : Cx}
def rMaxT (K : PySem.W.Frag) : List V → Hp → VK → Prop := fun vs Hh Qq => ∃ (a : Addr) (nms : List Int), vs = [V.ref a] ∧ SqT K Hh a (nms.map V.int) ∧ 0 < nms.length ∧ ∀ m, m ∈ nms → (∀ y, y ∈ nms → y ≤ m) → Qq (.int m) Hh
theorem cr_maxT (hc : X.calm = true) : CallR X (.builtin "max") (rMaxT X.K) := by
  intro pns s σs Hh vs uvs Qq Iv r h
  obtain ⟨a, nms, rfl, hs, hpos, qq⟩ := h
  obtain ⟨vls, rlv, hlst, _⟩ := Iv.tuple hs
  rw [Vals.ref1 r]
  exact maxT_raw (Iv.ok.hd hc) (isTuple_of hlst) rlv.ints hpos fun h' tkn m t' hk hh1 hh2 => ⟨.int _, Hh, Iv.kept hk, ⟨_, rfl⟩, qq m hh1 hh2⟩
theorem flat_ints (yms : List Int) : (yms.map V.int).all flatV = true := by
  rw [List.all_map]
  exact List.all_eq_true.mpr fun _ _ => rfl
def rTIdx (K : PySem.W.Frag) : V → List V → Hp → VK → Prop := fun x vxs Hh Qq => ∃ (p : Addr) (yms : List Int) (z : Int) (j : Nat), x = .ref p ∧ vxs = [.int z] ∧ SqT K Hh p (yms.map V.int) ∧ yms[j]? = some z ∧ (∀ m, m < j → yms[m]? ≠ some z) ∧ Qq (.int (j : Nat)) Hh
theorem mt_tupIdx : MtR X "tuple.index" (rTIdx X.K) := by
  intro pns s σs Hh x vxs v uvs Qq Iv rlx rs h
  obtain ⟨p, yms, z, j, rfl, rfl, hsq, hatj, hnot, qq⟩ := h
  cases rlx
  obtain ⟨u, rfl, t, rfl⟩ := vals1 rs
  obtain ⟨vls, r, pl, hszz⟩ := Iv.tuple hsq
  obtain ⟨⟨cls, dct, dta, slt⟩, hob, hc, n, hd⟩ := pl
  simp only at hc hd
  subst hc
  subst hd
  have hlst : vls.toArray.size = yms.length := by rw [List.size_toArray, ← r.length, List.length_map]
  have hjj : j < vls.toArray.size := by rw [hlst]; exact (List.getElem?_eq_some_iff.mp hatj).1
  have at' : ∀ (m : Nat) (hmm : m < vls.toArray.size), ∃ y t', yms[m]? = some y ∧ vls.toArray[m] = Value.int y t' := fun m hmm => by
    have hm' : m < yms.length := by rw [← hlst]; exact hmm
    obtain ⟨w, hwv, t', hw'⟩ := r.get (i := m) (x := .int yms[m]) (by simp [hm'])
    refine ⟨yms[m], t', List.getElem?_eq_getElem hm', ?_⟩
    have e := (List.getElem?_eq_some_iff.mp hwv).2
    rw [← hw', ← e]
    simp
  refine call_meets PySem.F.slot_tuple_index ⟨_, hob, rfl⟩ PySem.F.entry_tuple_index (PySem.F.args_tuple_index_2 _ _) (TI.tuple_indexAt p vls.toArray n dct slt (.int z t) (eqU (.int z)) j hjj ?_ ?_)
    ⟨hob, fun w hwv => mem_eqAt (x := .int z) ⟨t, rfl⟩ rfl r (flat_ints yms) w (by simpa using hwv), ⟨.int (j : Nat), Hh, Iv.tok _, ⟨_, rfl⟩, qq⟩⟩
  · obtain ⟨y, t', hh1, hh2⟩ := at' j hjj
    rw [hatj] at hh1
    cases hh1
    rw [hh2]
    simp [eqU, eqV]
  · intro m hmm hlt
    obtain ⟨y, t', hh1, hh2⟩ := at' m hmm
    rw [hh2]
    have : y ≠ z := fun e => hnot m hlt (by rw [hh1, e])
    simp [eqU, eqV, this]
end
/-! isinstance(e, c), e the exception that the suite holds, with vls dict -/
def rIsED (K : PySem.W.Frag) (D a : Addr) : List V → Hp → VK → Prop := fun vxs Hh Qq => ∃ (c : V) (cv : Value) (b : Bool), vxs = [.ref a, c] ∧ (∀ u, RelV c u → u = cv) ∧ PySem.W.kitOne K (.ref D) cv = some b ∧ Qq (.bl b) Hh
end Rg
namespace Rg
open PySem PySem.Spec PyProof.Rows L2 SrtO
/-! ### sorted(t), t a tuple -/
section
variable {prog : Program} {w : World} {A : Around} {E : Value → Shared → Prop} {s : Shared} {l : Addr} {vs : List Value}
/-- the heap behind the collecting -/
abbrev colHeap (h : Heap) (vs : List Value) : Heap := (h.push (seqObj "list" #[] 0)).update h.objs.size (Obj.mapSeq (· ++ vs.toArray))
theorem col_tup {Qq : List Value → Shared → Prop} (hlst : s.heap.IsTuple l vs.toArray) (hszz : vs.length ≤ sizeLine) (h : Qq vs { s with heap := colHeap s.heap vs }) : wpAny (model prog w) A (collect (.ref l)) Qq E s := by
  obtain ⟨oj, hob, hc, n, hd⟩ := hlst
  have hnew : (s.heap.push (seqObj "list" #[] 0)).get? s.heap.objs.size = some (seqObj "list" #[] 0) := Heap.get?_push_size _ rfl
  have hold : (s.heap.push (seqObj "list" #[] 0)).get? l = some oj := Heap.get?_push_of_some _ hob
  have tt : (Value.type "tuple" == Value.type "tuple") = true := by rfl
  unfold collect
  refine wpAny_bind (wpAny_runValue (codeAny_builtin entry_proto_collect' ?_))
  show wpAny _ _ (do again (.builtin "list.__iadd__" ⟨[← newList [], .ref l], []⟩)) _ _ s
  refine wpAny_bind (wpAny_newList (wpAny_pure ⟨Code.quiet_builtin _ (by decide +kernel), codeAny_builtin entry_list_iadd' ?_⟩))
  show wpAny _ _ (Builtin.List.listExtendWith (.ref s.heap.objs.size) (.ref l) (.ref s.heap.objs.size)) _ _ { s with heap := s.heap.push (seqObj "list" #[] 0) }
  unfold Builtin.List.listExtendWith
  refine wpAny_bind (wpAny_typeOf (T := "tuple") ⟨oj, hold, hc⟩ ?_)
  rw [if_pos (by rw [tt]; simp)]
  refine wpAny_bind (listItems_at hold hd (wpAny_bind (listItems_at (xs := #[]) (n := 0) hnew rfl ?_)))
  rw [if_neg (by simp)]
  refine wpAny_bind (listUpdate_at (xs := #[]) (n := 0) hnew rfl (wpAny_pure ?_) (Nat.zero_le _) (by show (#[] ++ vs.toArray).size ≤ sizeLine + 1; simp only [Array.size_append, List.size_toArray, List.length_nil]; omega))
  show wpAny (model prog w) A (do
      let oj ← load s.heap.objs.size
      match oj.data with
      | .seq vxs _ => pure vxs.toList
      | _ => unsupported "internal:collect") Qq E { s with heap := colHeap s.heap vs }
  refine wpAny_bind (wpAny_load (get?_update_seq hnew _) ?_)
  show wpAny _ _ (pure ((#[] : Array Value) ++ vs.toArray).toList) Qq E _
  have e : ((#[] : Array Value) ++ vs.toArray).toList = vs := by simp
  rw [e]
  exact wpAny_pure h
theorem sorted_tup {ltv : Value → Value → Bool} {Qq : Value → Shared → Prop} (O : Swo ltv) (hlst : s.heap.IsTuple l vs.toArray) (hszz : vs.length ≤ sizeLine)
    (hS : 2 ≤ vs.length → ∀ (h₁ : Heap) (a : Addr), h₁.get? a = some (seqObj "list" vs.toArray 0) → (∀ b oj, s.heap.get? b = some oj → b ≠ a ∧ h₁.get? b = some oj) → SortableO prog w A.in1.in1 { s with heap := h₁ } a vs ltv)
    (h : ∀ out : List Value, Srtd ltv out → Stb ltv out vs → Qq (.ref (s.heap.objs.size + 1)) { s with heap := sortedAll s.heap vs out.toArray }) : wpAny (model prog w) A (call (.builtin "sorted") [.ref l]) Qq E s := by
  have size1 : (colHeap s.heap vs).objs.size = s.heap.objs.size + 1 := by rw [Heap.size_update, size_push']
  have at1 : ((colHeap s.heap vs).push (seqObj "list" vs.toArray 0)).get? (s.heap.objs.size + 1) = some (seqObj "list" vs.toArray 0) := size1 ▸ Heap.get?_push_size (colHeap s.heap vs) rfl
  have old : ∀ b oj, s.heap.get? b = some oj → b ≠ s.heap.objs.size + 1 ∧ ((colHeap s.heap vs).push (seqObj "list" vs.toArray 0)).get? b = some oj := fun b oj qq => by
    have lt : b < s.heap.objs.size := Heap.lt_size qq
    exact ⟨Nat.ne_of_lt (Nat.lt_succ_of_lt lt), Heap.get?_push_of_some _ ((Heap.get?_update_ne _ _ _ _ (Nat.ne_of_lt lt)).trans (Heap.get?_push_of_some _ qq))⟩
  refine Calls.call_function_entry kind_sorted plain_sorted entry_sorted (args_sorted1 _) ?_
  unfold Builtin.«sorted»
  refine wpAny_bind (m := checkCount "sorted" 1 1 _) (wpAny_pure (wpAny_bind (col_tup hlst hszz (wpAny_bind (wpAny_newList ?_ hszz)))))
  show wpAny _ _ _ _ _ { s with heap := (colHeap s.heap vs).push (seqObj "list" vs.toArray 0) }
  rw [size1]
  exact wpAny_bind (wpAny_holding (wpAny_call_entry slot_list_sort ⟨_, at1, rfl⟩ entry_list_sort (list_sort_ord O at1 hszz (fun hh2 => hS hh2 _ _ at1 old) fun out hs hb => ⟨_, rfl, wpAny_pure ⟨_, rfl, h out hs hb⟩⟩) (args_list_sort _)))
end
section
variable {X : Cx}
def rSortedT (K : PySem.W.Frag) : List V → Hp → VK → Prop := fun vs Hh Qq => ∃ (a : Addr) (nms : List Int), vs = [V.ref a] ∧ SqT K Hh a (nms.map V.int) ∧
  ∀ (ns' : List Int) (p : Addr), ns'.Perm nms → ns'.Pairwise (· ≤ ·) → Hh p = none → Qq (.ref p) (upd Hh p (.lst (ns'.map V.int)))
theorem cr_sortedT : CallR X (.builtin "sorted") (rSortedT X.K) := by
  intro pns s σs Hh vs uvs Qq Iv r h
  obtain ⟨a, nms, rfl, hs, qq⟩ := h
  obtain ⟨vls, rlv, hlst, hszz⟩ := Iv.tuple hs
  have hint := rlv.ints
  rw [List.length_map] at hszz
  rw [Vals.ref1 r]
  refine sorted_tup swo_int (isTuple_of hlst) (by rw [hint.length]; exact hszz) (fun hh2 h₁ a' _ _ => ints_sortable hint hh2) fun out hh1 hh2 => ?_
  obtain ⟨k1, k2, k3⟩ := ints_out hint hh1 hh2
  obtain ⟨ep, he'⟩ := PyProof.Rows.sortedAll_at s.heap vls out.toArray
  exact ⟨.ref _, upd Hh (s.heap.objs.size + 1) (.lst ((out.map iv).map V.int)), Iv.laid (t' := s.toks) (fun _ _ => PyProof.Rows.sortedAll_old) (Nat.le_succ _) ⟨by rw [List.length_map, k2.length_eq]; exact hszz, out, ep, vals_of_ints k1, he'⟩, rfl, qq _ _ k2 k3 (Iv.hok.fresh (Nat.le_succ _))⟩
end
end Rg
namespace Rg
open PySem PySem.Spec PyProof.Rows L2 SrtO
/-! ### sorted(vxs), vxs a list of pairs (k, t): k an int, t a tuple of ints -/
/-- at v a pair of x and a tuple of the ints nms -/
def Nest (h : Heap) (v : Value) (x : Int) (nms : List Int) : Prop := ∃ (a b : Addr) (oj : Obj) (t : Tok) (n : Nat) (vls : List Value), v = .ref a ∧ h.get? a = some oj ∧ oj.cls = .type "tuple" ∧ oj.data = .seq #[.int x t, .ref b] n ∧ IsTup h b vls.toArray ∧ IntsAre vls nms
theorem Nest.kept {h h' : Heap} {v : Value} {x : Int} {nms : List Int} (p : Nest h v x nms) (k : ∀ b oj, h.get? b = some oj → oj.cls = .type "tuple" → h'.get? b = some oj) : Nest h' v x nms := by
  obtain ⟨a, b, oj, t, n, vls, e, hob, hc, hd, ⟨ob, hb, hbc, hbd⟩, hint⟩ := p
  exact ⟨a, b, oj, t, n, vls, e, k _ _ hob hc, hc, hd, ⟨ob, k _ _ hb hbc, hbc, hbd⟩, hint⟩
theorem reads_ints {h : Heap} : ∀ {vs : List Value} {nms : List Int}, IntsAre vs nms → ∃ as, ReadsAll h vs (nms.map PyData.int) as
  | _, _, .nil => ⟨_, .nil⟩
  | _, _, .cons i t r => by
    obtain ⟨as, qq⟩ := reads_ints (h := h) r
    exact ⟨_, .cons (.int i t) qq⟩
theorem eqvA_ints : ∀ vxs yms : List Int, PyData.eqvAll (vxs.map PyData.int) (yms.map PyData.int) = decide (vxs = yms)
  | [], [] => by simp [PyData.eqvAll]
  | [], y :: yms => by simp [PyData.eqvAll]
  | x :: vxs, [] => by simp [PyData.eqvAll]
  | x :: vxs, y :: yms => by
    simp only [List.map_cons, PyData.eqvAll, eqvA_ints vxs yms, PyData.eqv]
    by_cases e : x = y <;> by_cases f : vxs = yms <;> simp [e, f]
theorem layA_ints : ∀ l : List Int, PyData.canLayAll0 (l.map PyData.int) = true
  | [] => by simp [PyData.canLayAll0]
  | i :: l => by simp [PyData.canLayAll0, PyData.canLay0, layA_ints l]
theorem depA_ints : ∀ l : List Int, PyData.depthAll (l.map PyData.int) = 0
  | [] => by simp [PyData.depthAll]
  | i :: l => by simp [PyData.depthAll, PyData.depth, depA_ints l]
theorem lex_self : ∀ l : List Int, HT.lexLt l l = false
  | [] => rfl
  | x :: l => by rw [HT.lexLt_cons, if_pos rfl]; exact lex_self l
section
variable {prog : Program} {w : World} {A : Around} {E : Value → Shared → Prop} {s : Shared}
theorem eq_tupInts {b c : Addr} {vls jts : List Value} {nms ms : List Int} (hb : IsTup s.heap b vls.toArray) (hc : IsTup s.heap c jts.toArray) (hint : IntsAre vls nms) (hjj : IntsAre jts ms) (hu : A.units + 1 < cLine) :
    SeqAt.EqAt A s (.ref b) (.ref c) (decide (nms = ms)) := by
  obtain ⟨o1, hh1, c1, n1, d1⟩ := hb
  obtain ⟨o2, hh2, c2, n2, d2⟩ := hc
  obtain ⟨as, r1⟩ := reads_ints (h := s.heap) hint
  obtain ⟨bs, r2⟩ := reads_ints (h := s.heap) hjj
  have qq := SeqAt.eqAt_reads (.tuple (nms.map PyData.int)) (.tuple (ms.map PyData.int)) A s (.ref b) (.ref c) _ _ (Reads.tuple hh1 c1 d1 r1) (Reads.tuple hh2 c2 d2 r2) (by simp only [PyData.canLay0]; exact layA_ints nms) (by simp only [PyData.canLay0]; exact layA_ints ms)
    (by simp only [PyData.depth, depA_ints]; omega)
  have e : PyData.eqv (.tuple (nms.map PyData.int)) (.tuple (ms.map PyData.int)) = decide (nms = ms) := by
    simp only [PyData.eqv]
    exact eqvA_ints nms ms
  rwa [e] at qq
theorem nest_cmp {vs : List Value} {k : Value → Int × List Int} (hp : ∀ v ∈ vs, Nest s.heap v (k v).1 (k v).2) (hu : A.units + 1 < cLine) :
    SrtO.Cmp prog w A s (tuples' true) (fun p => p.1 ∈ vs) (lt2 fun v u => HT.lexLt ((k v).1 :: (k v).2) ((k u).1 :: (k u).2)) := by
  intro p qq hmm hm'
  have hh1 := hp _ hmm
  have hh2 := hp _ hm'
  show wpAny (model prog w) A (keyLt' (tuples' true) p.1 qq.1) (fun r s' => s' = s ∧ r = HT.lexLt ((k p.1).1 :: (k p.1).2) ((k qq.1).1 :: (k qq.1).2)) (fun _ _ => False) s
  generalize (k p.1).1 = x at hh1 ⊢
  generalize (k p.1).2 = nms at hh1 ⊢
  generalize (k qq.1).1 = y at hh2 ⊢
  generalize (k qq.1).2 = ms at hh2 ⊢
  obtain ⟨a, b, oj, t, n, vls, e, hob, hc, hd, hb, hint⟩ := hh1
  obtain ⟨a', b', o', t', n', its', e', ho', hc', hd', hb', hi'⟩ := hh2
  rw [e, e', HT.lexLt_cons]
  refine PySem.W.kat_lt hob hd ho' hd' ?_
  show PySem.W.KatLex prog w A true (decide (2 < 2)) _ [(.int x t, .int y t'), (.ref b, .ref b')] 0 s
  refine PySem.W.kat_cons (SeqAt.EqAt.int_int x t y t' prog w _ _ (PySem.W.kat_go (fun e1 => PySem.W.kat_yes (PySem.W.kat_cons (eq_tupInts hb hb' hint hi' hu prog w _ _ (PySem.W.kat_go (fun ee2 => ?_) (fun ee2 => ?_))))) (fun e1 => ?_)))
  · have ex : x = y := by simpa using e1
    have ey : nms = ms := of_decide_eq_true ee2
    refine PySem.W.kat_yes (PySem.W.kat_nil ⟨rfl, ?_⟩)
    rw [if_pos ex, ey, lex_self]
    rfl
  · have ex : x = y := by simpa using e1
    rw [if_pos ex]
    exact PySem.W.kat_no (PySem.W.kat_one _ _ (HT.lt_tupInts hb hb' hint hi' (by omega) ⟨rfl, rfl⟩))
  · have ex : ¬ x = y := by simpa using e1
    rw [if_neg ex]
    exact PySem.W.kat_no (oneLt_int ⟨rfl, rfl⟩)
theorem nest_firsts {h : Heap} {k : Value → Int × List Int} : ∀ {vs : List Value}, (∀ v ∈ vs, Nest h v (k v).1 (k v).2) → ∃ fs : List Value, PySem.W.KatTups h vs fs ∧ fs.length = vs.length ∧ ∀ f ∈ fs, ∃ x t, f = Value.int x t
  | [], _ => ⟨[], PySem.W.KatTups.nil, rfl, fun _ z => nomatch z⟩
  | v :: vs, hp => by
    obtain ⟨fs, q1, q2, q3⟩ := nest_firsts fun v' z => hp v' (List.mem_cons_of_mem _ z)
    obtain ⟨a, b, oj, t, n, vls, e, hob, hc, hd, _⟩ := hp v (List.mem_cons_self ..)
    rw [e]
    refine ⟨.int _ t :: fs, PySem.W.KatTups.cons hob hc hd rfl q1, congrArg (· + 1) q2, fun f z => ?_⟩
    rcases List.mem_cons.mp z with z | z
    · exact ⟨_, t, z⟩
    · exact q3 f z
theorem nest_sortable {a : Addr} {vs : List Value} {k : Value → Int × List Int} (h0 : 0 < vs.length) (hu : A.units + 1 < cLine) (hp : ∀ v ∈ vs, Nest s.heap v (k v).1 (k v).2) (ha : ∀ oj, s.heap.get? a = some oj → oj.cls ≠ .type "tuple") :
    SortableO prog w A s a vs fun v u => HT.lexLt ((k v).1 :: (k v).2) ((k u).1 :: (k u).2) := by
  intro h' keep
  have hp' : ∀ v ∈ vs, Nest h' v (k v).1 (k v).2 := fun v z => (hp v z).kept fun b oj e c => keep b oj (fun z => ha oj (z ▸ e) c) e
  obtain ⟨fs, q1, q2, q3⟩ := nest_firsts hp'
  refine ⟨tuples' true, fun Qq E hsq => PySem.W.kat_kind (T := .type "int") q1 (by omega) (fun f z => ?_) (by rfl) ?_, nest_cmp hp' hu⟩
  · obtain ⟨x, t, e⟩ := q3 f z
    rw [e]
    exact PySem.W.Looks.now
  · rw [show (Value.type "int" != Value.type "tuple") = true by decide +kernel]
    exact hsq
end
section
variable {X : Cx}
/-- k says what stands at each item -/
def rSortedN (K : PySem.W.Frag) : List V → Hp → VK → Prop := fun vs Hh Qq => ∃ (a : Addr) (vxs : List V) (k : V → Int × List Int), vs = [V.ref a] ∧ SqL K Hh a vxs ∧ (∀ x ∈ vxs, ∃ t b, x = V.ref t ∧ Hh t = some (.tup [.int (k x).1, .ref b]) ∧ Hh b = some (.tup ((k x).2.map V.int))) ∧
  ∀ yms p, Srtd (fun v u => HT.lexLt ((k v).1 :: (k v).2) ((k u).1 :: (k u).2)) yms → yms.Perm vxs → Hh p = none → Qq (.ref p) (upd Hh p (.lst yms))
theorem cr_sortedN (hu : X.A.units + 64 < cLine) : CallR X (.builtin "sorted") (rSortedN X.K) := by
  intro pns s σs Hh vs uvs Qq Iv r h
  obtain ⟨a, vxs, k, rfl, hs, hx, qq⟩ := h
  obtain ⟨vls, rlv, hlst, hszz⟩ := Iv.list hs
  rw [Vals.ref1 r]
  obtain ⟨e1, ee2⟩ := refs_back rlv fun x m => let ⟨t, _, e, _⟩ := hx x m; ⟨t, e⟩
  have nst : ∀ v ∈ vls, Nest s.heap v (k (backV v)).1 (k (backV v)).2 := fun v hval => by
    obtain ⟨t, rfl⟩ := ee2 v hval
    obtain ⟨t', b, et, hh1, hh2⟩ := hx (V.ref t) (by rw [e1]; exact List.mem_map.mpr ⟨_, hval, rfl⟩)
    cases et
    obtain ⟨_, jts, r2, oj, hob, hc, n, hd⟩ := Iv.hok _ _ hh1
    obtain ⟨u1, u2, rfl, ⟨t1, rfl⟩, r3⟩ := vals2 r2
    obtain rfl : u2 = Value.ref b := r3
    obtain ⟨_, kts, r4, p4⟩ := Iv.hok _ _ hh2
    exact ⟨t, b, oj, t1, n, kts, rfl, hob, hc, hd, p4, r4.ints⟩
  refine sorted_ord (NtL.swo_lexL fun u : Value => (k (backV u)).1 :: (k (backV u)).2) hlst.isList (by rw [← rlv.length]; exact hszz) (fun hh2 h₁ a' ha kk => ?_) fun out hh1 hh2 => ?_
  · refine nest_sortable (s := { s with heap := h₁ }) (k := fun u => k (backV u)) (by omega) (show X.A.units + 1 + 1 + 1 < cLine by omega) (fun v hval => (nst v hval).kept fun b oj e _ => (kk b oj e).2) fun oj e c => ?_
    cases e.symm.trans ha
    exact absurd (Value.type.inj c) (by decide)
  · have h3 : ∀ u ∈ out, ∃ a, u = Value.ref a := fun u hu => ee2 u (hh2.perm.mem_iff.mp hu)
    have hp : (out.map backV).Perm vxs := by rw [e1]; exact hh2.perm.map backV
    obtain ⟨n, hnn⟩ := PyProof.Rows.sortedAll_at s.heap vls out.toArray
    exact ⟨.ref _, upd Hh (s.heap.objs.size + 1) (.lst (out.map backV)), Iv.laid (t' := s.toks) (fun _ _ => PyProof.Rows.sortedAll_old) (Nat.le_succ _) ⟨by rw [hp.length_eq]; exact hszz, out, n, vals_back h3, hnn⟩, rfl,
      qq _ _ (List.pairwise_map.mpr hh1) hp (Iv.hok.fresh (Nat.le_succ _))⟩
end
end Rg
namespace Rg
open PySem PySem.Spec PyProof.Rows L2
/-! tuple(list), whose object is known to have no dict: so that vls methods can be called -/
section
variable {X : Cx}
def rTupF (K : PySem.W.Frag) : List V → Hp → VK → Prop := fun vxs Hh Qq => ∃ p yms, vxs = [V.ref p] ∧ SqL K Hh p yms ∧ ∀ l oj, Hh l = none → oj.dict = none → Qq (.ref l) (upd Hh l (.frz oj (.tup yms)))
theorem cr_tupF : CallR X (.type "tuple") (rTupF X.K) := by
  intro pns s σs Hh vxs uvs Qq Iv r ⟨p, yms, e, hsq, qq⟩
  subst e
  obtain ⟨u, rfl, rlx⟩ := vals1 r
  cases rlx
  obtain ⟨vls, rlv, pl, sz⟩ := Iv.list hsq
  have hnn := rlv.length
  refine call_tuple_list pl.isList (fun hh1 kp => ?_) (by rw [List.size_toArray]; omega)
  have J : Inv X pns σs Hh { s with heap := hh1 } := Iv.kept (t' := s.toks) kp
  have J2 : Inv X pns σs (upd Hh hh1.objs.size (.frz { cls := .type "tuple", data := .seq vls.toArray } (.tup yms))) { s with heap := hh1.push { cls := .type "tuple", data := .seq vls.toArray } } :=
    J.laid (t' := s.toks) (fun b oj e => Heap.get?_push_of_some _ e) (Nat.le_refl _)
      (show ObjOk X.prog X.w _ _ _ (.frz _ (.tup yms)) from ⟨Heap.get?_push_size _ rfl, sz, vls, rlv, IsTup.new _ _⟩)
  exact ⟨.ref hh1.objs.size, _, J2, rfl, qq _ _ (J.hok.fresh (Nat.le_refl _)) rfl⟩
def tyTF (x : V) (Hh : Hp) : Prop := ∃ a oj yms, x = .ref a ∧ Hh a = some (.frz oj (.tup yms)) ∧ oj.dict = none
theorem ty_tf : TyOk X "tuple" tyTF := by
  intro pns σs Hh s x v Iv r ⟨a, oj, yms, e, h, hd⟩
  subst e
  cases r
  obtain ⟨e, _, vls, _, o2, ee2, hc, _⟩ := (show ObjOk X.prog X.w Hh s.heap a (.frz oj (.tup yms)) from Iv.hok a _ h)
  refine ⟨⟨_, ee2, hc⟩, fun b qq => ?_⟩
  cases qq
  exact ⟨oj, e, hd⟩
end
end Rg
namespace Rg
open PySem PySem.Spec PyProof.Rows L2
/-! ### x != y, x == y of instances whose class has an own == and no own != -/
section
variable {prog : Program} {w : World} {A : Around} {E : Value → Shared → Prop} {s : Shared} {K : PySem.W.Frag} {x C L f : Addr} {h₀ : Heap} {m : Str → Option Value} {ox : Obj} {od : Option Obj} {b tb : Value}
theorem boundNe {M : Model} {args : List Value} {Q : Option Value → Shared → Prop} (Xk : K.In s.heap) (Ia : PySem.W.InstAt s.heap x ox C od) (hs : PySem.W.findIn K (.ref C) "__ne__" = some (some (.builtin "object.__ne__")))
    (h : wpAny M A (call (.builtin "object.__ne__") (.ref x :: args)) (fun v => Q (some v)) E s) : wpAny M A (callSpecialIfBound? (.ref x) "__ne__" args) Q E s := by
  simp only [callSpecialIfBound?, bindSpecialIfBound?]
  refine wpAny_holding (wpAny_bind (wpAny_bind (wpAny_bind (Ia.type.here ((PySem.W.looks_findIn Xk hs).here ?_)))))
  dsimp only
  simp only [F.cmp_object.ne.bind]
  refine wpAny_bind (wpAny_askSetting (wpAny_ite ?_))
  have fin : wpAny M A (call (.builtin "object.__ne__") ([.ref x] ++ args) >>= fun v => pure (some v)) Q E s := wpAny_bind (wpAny_mono h (fun v s' h' => wpAny_pure h') fun _ _ h' => h')
  split
  · exact wpAny_bind (wpAny_pure (wpAny_pure fin))
  · exact wpAny_tryCatch (wpAny_bind (wpAny_pure (wpAny_pure fin)))
theorem checkNe {M : Model} {Q : Unit → Shared → Prop} (Xk : K.In s.heap) (Ia : PySem.W.InstAt s.heap x ox C od) (ho : PySem.W.subIn K (.ref C) (.type "object") = some true) (hq : Q () s) : wpAny M A (checkBuiltinCall "object.__ne__" ⟨[.ref x, b], []⟩) Q E s := by
  simp only [checkBuiltinCall, F.cmpKind_ne, F.cmpSplit_ne]
  refine wpAny_bind ?_
  unfold isInstance
  refine wpAny_bind (Ia.type.here ((PySem.W.looks_subIn Xk ho).here ?_))
  simp only [Bool.not_true, Bool.false_eq_true, if_false]
  have ha := F.cmpArgs_ne (.ref x) b
  cases hsig : Manifest.signature? "object.__ne__" with
  | none => exact wpAny_pure hq
  | some sig =>
    simp only [argsOk, hsig] at ha
    have h2 : Bind.checkArgs "object.__ne__" sig ⟨[.ref x, b], []⟩ = pure () := ha
    show wpAny M A (Bind.checkArgs "object.__ne__" sig ⟨[.ref x, b], []⟩) Q E _
    rw [h2]; exact wpAny_pure hq
theorem objNeK {Q : Fin → Shared → Prop} (Xk : K.In s.heap) (Ia : PySem.W.InstAt s.heap x ox C od) (hs : PySem.W.findIn K (.ref C) "__eq__" = some (some (.ref f))) (hf : PySem.W.isFn K (.ref f) = true) (hu : A.units < cLine)
    (h : wpAny (model prog w) A (call (.ref f) [.ref x, b]) (fun v s' => ∃ r, v = .bool r ∧ Q (.done (.ret (.bool (!r)))) s') E s) :
    wpAny (model prog w) A (Builtin.«object.__ne__» ⟨[.ref x, b], []⟩) Q E s := by
  unfold Builtin.«object.__ne__»
  repeat (first
    | with_reducible refine wpAny_cRoomFor hu ?_
    | (refine wpAny_bind (m := callSpecialIfBound? (.ref x) (Str.ofString "__eq__") [b])
        (PySem.W.ifBound_K Xk Ia hs hf (wpAny_mono h (fun r s' hr => by
          obtain ⟨b, rfl, hq⟩ := hr
          repeat (first | exact hq | exact wpAny_pure hq | exact wpAny_truthy_bool hq | (refine wpAny_bind (m := truthy (.bool _)) (wpAny_truthy_bool ?_)) | wp_step)) fun _ _ e => e)))
    | wp_step)
theorem neK {Q : Value → Shared → Prop} (hu : A.units + 1 < cLine) (Fr0 : Fr h₀ L s.heap m) (X₀ : K.In h₀) (Ia : PySem.W.InstAt s.heap x ox C od) (hb : PySem.W.Looks (model prog w) s.heap (typeOf b) tb) (hn : PySem.W.notFirst K C tb = true)
    (hne : PySem.W.findIn K (.ref C) "__ne__" = some (some (.builtin "object.__ne__"))) (ho : PySem.W.subIn K (.ref C) (.type "object") = some true) (hs : PySem.W.findIn K (.ref C) "__eq__" = some (some (.ref f))) (hf : PySem.W.isFn K (.ref f) = true)
    (h : wpAny (model prog w) A.in1 (call (.ref f) [.ref x, b]) (fun v s' => ∃ r, v = .bool r ∧ Q (.bool (!r)) s') E s) : wpAny (model prog w) A (richCompare .NotEq (.ref x) b) Q E s := by
  have Xk := X₀.keeps Fr0.keep
  have one : wpAny (model prog w) A (tryCompare (.ref x) "__ne__" b) (fun r s' => ∃ v, r = some v ∧ Q v s') E s := by
    unfold tryCompare
    refine wpAny_bind (boundNe Xk Ia hne (wpAny_call (codeAny_call_builtin F.cmp_object.ne.plain F.cmpEntry_ne (checkNe Xk Ia ho (objNeK (A := A.in1) Xk Ia hs hf hu (wpAny_mono h (fun v s' hv => ?_) fun _ _ e => e))))))
    obtain ⟨r, rfl, hq⟩ := hv
    exact ⟨r, rfl, wpAny_pure ⟨_, rfl, hq⟩⟩
  unfold richCompare
  simp only [oneThing_ref]
  refine wpAny_holding (wpAny_bind (wpAny_cRoomFor (Nat.lt_of_succ_lt hu) ?_))
  refine wpAny_bind (Ia.type.here (wpAny_bind (hb.here ?_)))
  split
  · rename_i q
    have e : PySem.W.subIn K tb (.ref C) = some false := by
      rcases Bool.or_eq_true_iff.mp hn with e | e
      · rw [beq_iff_eq.mp e] at q; simp at q
      · exact beq_iff_eq.mp e
    refine wpAny_bind ((PySem.W.looks_subIn Xk e).here ?_)
    simp only [Bool.false_eq_true, if_false]
    refine wpAny_bind (wpAny_mono one (fun r s' z => ?_) fun _ _ e => e)
    obtain ⟨v, rfl, hq⟩ := z
    exact wpAny_pure hq
  · refine wpAny_bind (wpAny_pure ?_)
    simp only [Bool.false_eq_true, if_false]
    refine wpAny_bind (wpAny_mono one (fun r s' z => ?_) fun _ _ e => e)
    obtain ⟨v, rfl, hq⟩ := z
    exact wpAny_pure hq
end
section
variable {X : Cx} {n : Nat} {C f : Addr} {fd : FuncData} {ps : List Str} {sp : Sp}
/-- both are instances of C; what the own == says of them, as a bool -/
def rInsEq (C : Addr) (sp : Sp) : R2 := fun x y H Q => ∃ a b dx dy fs gs, x = .ref a ∧ y = .ref b ∧ H a = some (.ins C dx fs) ∧ H b = some (.ins C dy gs) ∧ sp [.ref a, .ref b] H (fun v H' => ∃ r, v = .bl r ∧ Q (.bl r) H') E0
def rInsNe (C : Addr) (sp : Sp) : R2 := fun x y H Q => ∃ a b dx dy fs gs, x = .ref a ∧ y = .ref b ∧ H a = some (.ins C dx fs) ∧ H b = some (.ins C dy gs) ∧ sp [.ref a, .ref b] H (fun v H' => ∃ r, v = .bl r ∧ Q (.bl (!r)) H') E0
theorem op_insNe (F : FnOk X.prog X.w X.K X.mg X.base CX0 n f fd ps sp) (hne : PySem.W.findIn X.K (.ref C) "__ne__" = some (some (.builtin "object.__ne__"))) (ho : PySem.W.subIn X.K (.ref C) (.type "object") = some true)
    (hs : PySem.W.findIn X.K (.ref C) "__eq__" = some (some (.ref f))) (hf : PySem.W.isFn X.K (.ref f) = true) (hb : Binds X.K fd ps []) (hr : Room (n + 1) X.A) : OpR X (compareOp .NotEq) (rInsNe C sp) := by
  intro pins s σ H x y u v Q I rx ry ⟨a, b, dx, dy, fs, gs, ex, ey, ha, hb', hsp⟩
  subst ex ey
  cases rx
  cases ry
  obtain ⟨mA, J, _⟩ := ins_get I.hok ha
  obtain ⟨mB, J', _⟩ := ins_get I.hok hb'
  obtain ⟨od, J, _⟩ := J.look
  obtain ⟨od', J', _⟩ := J'.look
  obtain ⟨m, hF⟩ := I.fr
  show wpAny (model X.prog X.w) X.A (richCompare .NotEq (.ref a) (.ref b)) (EP X pins σ Q) X.xe s
  refine neK (tb := .ref C) (by have := hr.un; omega) hF I.ok.mod.kin J J'.type (by simp [PySem.W.notFirst]) hne ho hs hf ?_
  have hl := F.len _ _ _ _ hsp
  have r2 : Vals [V.ref a, V.ref b] [Value.ref a, Value.ref b] := .cons rfl (.cons rfl .nil)
  refine wpAny_call (codeAny_mono (F.run X.A.in1 X.stack s H ⟨[.ref a, .ref b], []⟩ [.ref a, .ref b] [.ref a, .ref b] _ E0 hr.in1 I.env0.in1 (by
    have := hb s [.ref a, .ref b] I.kIn (by simpa using hl)
    simpa using this) r2 hsp) fun r s' hq => ?_)
  cases r with
  | error e => exact hq.elim
  | ok fl =>
    cases fl with
    | ret w =>
      obtain ⟨z, H', I', rz, r0, ez, q⟩ := I.after hq
      subst ez
      cases rz
      exact ⟨r0, rfl, .bl (!r0), H', I', rfl, q⟩
    | next => exact False.elim hq
    | brk => exact False.elim hq
    | cont => exact False.elim hq
theorem op_insEq (F : FnOk X.prog X.w X.K X.mg X.base CX0 n f fd ps sp)
    (hs : PySem.W.findIn X.K (.ref C) "__eq__" = some (some (.ref f))) (hf : PySem.W.isFn X.K (.ref f) = true) (hb : Binds X.K fd ps []) (hr : Room n X.A) : OpR X (compareOp .Eq) (rInsEq C sp) := by
  intro pins s σ H x y u v Q I rx ry ⟨a, b, dx, dy, fs, gs, ex, ey, ha, hb', hsp⟩
  subst ex ey
  cases rx
  cases ry
  obtain ⟨mA, J, _⟩ := ins_get I.hok ha
  obtain ⟨mB, J', _⟩ := ins_get I.hok hb'
  obtain ⟨od, J, _⟩ := J.look
  obtain ⟨od', J', _⟩ := J'.look
  obtain ⟨m, hF⟩ := I.fr
  show wpAny (model X.prog X.w) X.A (richCompare .Eq (.ref a) (.ref b)) (EP X pins σ Q) X.xe s
  refine PySem.W.cmp_K (op := .Eq) (tb := .ref C) hr.units0 hF I.ok.mod.kin J J'.type (by simp [PySem.W.notFirst]) hs hf ?_
  have hl := F.len _ _ _ _ hsp
  have r2 : Vals [V.ref a, V.ref b] [Value.ref a, Value.ref b] := .cons rfl (.cons rfl .nil)
  refine wpAny_call (codeAny_mono (F.run X.A X.stack s H ⟨[.ref a, .ref b], []⟩ [.ref a, .ref b] [.ref a, .ref b] _ E0 hr I.env0 (by
    have := hb s [.ref a, .ref b] I.kIn (by simpa using hl)
    simpa using this) r2 hsp) fun r s' hq => ?_)
  cases r with
  | error e => exact hq.elim
  | ok fl =>
    cases fl with
    | ret w =>
      obtain ⟨z, H', I', rz, r0, ez, q⟩ := I.after hq
      subst ez
      cases rz
      exact ⟨.bl r0, H', I', rfl, q⟩
    | next => exact False.elim hq
    | brk => exact False.elim hq
    | cont => exact False.elim hq
end
end Rg
namespace Rg
open PySem PySem.Spec PyProof.Rows L2 LamX
/-! ### sorted(lots, key=lambda lot: (len(lot), lot)), lots tuples of ints -/
theorem reads_intsN {h : Heap} : ∀ {vs : List Value} {nms : List Int}, IntsAre vs nms → ReadsAll h vs (nms.map PyData.int) []
  | _, _, .nil => .nil
  | _, _, .cons i t r => .cons (.int i t) (reads_intsN r)
def lotKey (l : List Int) : PyData := .tuple [.int (l.length : Nat), .tuple (l.map PyData.int)]
theorem alike_lotKey (a b : List Int) : PySem.W.alike (lotKey a) (lotKey b) = true := by
  simp [lotKey, PySem.W.alike, PySem.W.alikeAll, PySem.W.alike_ints]
theorem depth_lotKey (a : List Int) : (lotKey a).depth ≤ 4 := by
  simp [lotKey, PyData.depth, PyData.depthAll, PySem.W.depth_ints]
theorem eqvA_ints8 : ∀ vxs yms : List Int, PyData.eqvAll (vxs.map PyData.int) (yms.map PyData.int) = decide (vxs = yms)
  | [], [] => by simp [PyData.eqvAll]
  | [], y :: yms => by simp [PyData.eqvAll]
  | x :: vxs, [] => by simp [PyData.eqvAll]
  | x :: vxs, y :: yms => by
    simp only [List.map_cons, PyData.eqvAll, eqvA_ints8 vxs yms, PyData.eqv]
    by_cases e : x = y <;> by_cases f : vxs = yms <;> simp [e, f]
/-- fewer bars first, then as tuples -/
def lotLe (a b : List Int) : Bool := !PySem.W.dataLt (lotKey b) (lotKey a)
section
variable {prog : Program} {w : World} {A : Around} {s : Shared} {h : Heap}
theorem lotkey_turn {tk : Nat} {f c' t : Addr} {q y : Str} {params : Arguments} {scope : Scope} {pm ctv : Value} {p1 p2 p3 p4 p5 : Pos} {x1 : Nat} {mg mb : Str → Option Value} {ns : List Int} {its : List Value}
    (hroom : A.depth < recursionLimit)
    (hf : h.get? f = some (PySem.W.kla_obj "<lambda>" q params (.Tuple [.Call (.Name "len" p1) [.Name y p2] [] p3, .Name y p4] x1 p5) scope [] pm c' ctv))
    (hco : scope.isCoroutine = false) (hgen : scope.isGenerator = false) (hk : scope.kind = .function)
    (hcell : ∀ x ∈ scope.names, x.2 ≠ .cell) (hy : scope.names.lookup y = some .local) (hlen : scope.names.lookup ("len" : Str) = some .globalImplicit)
    (hbind : ∀ v : Value, bindArgs (PySem.W.kla_fn "<lambda>" q params (.Tuple [.Call (.Name "len" p1) [.Name y p2] [] p3, .Name y p4] x1 p5) scope [] pm (.ref c') ctv) ⟨[v], []⟩ = pure [(y, v)])
    (hcd : h.CodeRec (.ref c') q) (hg : h.Ns mainGlobals mg) (hm : mg ("len" : Str) = none) (hb : h.Ns builtinsNs mb) (hmb : mb ("len" : Str) = some (.builtin "len")) (hnl : h.NoLimit)
    (ht : IsTup h t its.toArray) (hi : IntsAre its ns) (hz : its.length ≤ sizeLine) (hyd : (y == ("__debug__" : Str)) = false) :
    wpAny (model prog w) A (call (.ref f) [.ref t]) (PySem.W.KeyPure (lotKey ns) { s with heap := h, toks := tk }) (fun _ _ => False) { s with heap := h, toks := tk } := by
  refine wpAny_call (PySem.W.kla_callFunE hroom hf rfl hco hgen rfl hcd ?_)
  rw [hbind]
  refine wpAny_pure (wpAny_newFunctionEnv hcell (fun z hz => by rw [List.mem_singleton.mp hz]; exact hy) (fun h₁ hns hsb => ⟨hnl.fresh _ hsb, ?_⟩) hk)
  have kp : ∀ b o, h.get? b = some o → h₁.get? b = some o := fun b o e => hsb.extBut b o (Nat.ne_of_lt (Heap.lt_size e)) (Heap.get?_push_of_some _ e)
  show codeAny _ _ (.expr _ (PySem.W.envX q scope h.objs.size f (.ref c') [])) _ _
  refine PySem.W.kla_codeExpr ?_
  refine wpAny_Tuple_spliced ?_
  have rd : ∀ (A' : Around) (tk' : Nat) (pos : Pos) (Q : Value → Shared → Prop) (E : Value → Shared → Prop), Q (.ref t) { s with heap := h₁, toks := tk' } → wpAny (model prog w) A' (eval (.Name y pos) (PySem.W.envX q scope h.objs.size f (.ref c') [])) Q E { s with heap := h₁, toks := tk' } := fun A' tk' pos Q E hQ =>
    wpAny_Name (wpAny_loadName_local hk hy hns (by show ([(y, Value.ref t)].reverse).lookup y = _; simp) hQ) hyd
  refine Calls.spliced_cons (wpAny_Call_Name_kw (Calls.Name_function_global hk hlen (Calls.loadGlobal_builtin (hg.keeps kp) hm (hb.keeps kp) hmb ?_)))
  refine PyProof.Rows.callWith_builtin1 (Calls.spliced_cons (rd _ _ _ _ _ (Calls.spliced_nil ?_))) rfl rfl
  refine len_tuple (ht.keeps kp) ?_ ?_
  · have := line63
    simp only [List.size_toArray]
    omega
  refine Calls.spliced_cons (rd _ _ _ _ _ (Calls.spliced_nil ⟨by show 2 ≤ sizeLine; decide, ?_⟩))
  refine ⟨_, _, rfl, fun b o e => Heap.get?_push_of_some _ (kp b o e), ?_⟩
  obtain ⟨o, ho, hc, n, hd⟩ := ht.keeps kp
  refine Reads.tuple (Heap.get?_push_size _ rfl) rfl rfl ?_
  show ReadsAll _ [.int (its.toArray.size : Nat) _, .ref t] [.int (ns.length : Nat), .tuple (ns.map .int)] []
  have e1 : its.toArray.size = ns.length := by rw [List.size_toArray, hi.length]
  rw [e1]
  exact ReadsAll.cons (.int _ _) (ReadsAll.cons (Reads.tuple (Heap.get?_push_of_some _ ho) hc hd (reads_intsN hi)) .nil)
end
theorem each_vals : ∀ {out : List Value} {ys : List V}, PySem.W.EachIs (fun u x => RelV x u) out ys → Vals ys out
  | _, _, .nil => .nil
  | _, _, .cons r t => .cons r (each_vals t)
theorem vals_each : ∀ {ys : List V} {out : List Value}, Vals ys out → PySem.W.EachIs (fun u x => RelV x u) out ys
  | _, _, .nil => .nil
  | _, _, .cons r t => .cons r (vals_each t)
section
variable {X : Cx}
/-- sorted(e, key=the lambda) -/
def tSortLots (K : PySem.W.Frag) (T : List (Addr × Str)) (te : TE) : TE := fun σ H Q => te σ H fun v H1 => ∃ (a : Addr) (xs : List V) (k : V → List Int), v = .ref a ∧ SqL K H1 a xs ∧ (∀ x ∈ xs, ∃ t, x = V.ref t ∧ H1 t = some (.tup ((k x).map V.int))) ∧ Tabs T H1 ∧
  ∀ (H2 : Hp) (p : Addr) (ys : List V), ExtN H1 H2 → Tabs T H2 → ys.Perm xs → (ys.Pairwise fun u v => lotLe (k u) (k v) = true) → H2 p = none → Q (.ref p) (upd H2 p (.lst ys))
theorem pe_sortLots {T : List (Addr × Str)} {c P : Addr} {y : Str} {params : Arguments} {scope : Scope} {p p1 p2 p3 p4 p5 lpos kpos pos : Pos} {x1 : Nat} {e : Expr} {te : TE}
    (hdp : X.A.depth < recursionLimit) (hu : X.A.units + 64 < cLine) (hgS : Gl X ("sorted" : Str)) (hmS : X.mg ("sorted" : Str) = none) (hmL : X.mg ("len" : Str) = none) (he : PE X e te)
    (TB : TabB X.base X.mg c P) (hcode : X.env.code = .ref c) (hmT : (P, X.env.qual ++ "<lambda>") ∈ T) (huT : ∀ p ∈ T, p.1 = P → p.2 = X.env.qual ++ "<lambda>")
    (hdef : defaultsOf params X.env = ([], [])) (hco : scope.isCoroutine = false) (hgen : scope.isGenerator = false) (hk : scope.kind = .function)
    (hcell : ∀ x ∈ scope.names, x.2 ≠ .cell ∧ x.2 ≠ .free) (hy : scope.names.lookup y = some .local) (hlen : scope.names.lookup ("len" : Str) = some .globalImplicit) (hclo : cloFrom X.env.cells scope.names [] = [])
    (hbind : ∀ (q : Str) (pm cv ctv v : Value), bindArgs (PySem.W.kla_fn "<lambda>" q params (.Tuple [.Call (.Name "len" p1) [.Name y p2] [] p3, .Name y p4] x1 p5) scope [] pm cv ctv) ⟨[v], []⟩ = pure [(y, v)])
    (hyd : (y == ("__debug__" : Str)) = false := by decide)
    (hes : backTo pos (starEach [e] X.env) = [(false, eval e X.env)] := by rfl) :
    PE X (.Call (.Name "sorted" p) [e] [⟨some "key", .Lambda params (.Tuple [.Call (.Name "len" p1) [.Name y p2] [] p3, .Name y p4] x1 p5) scope lpos, kpos⟩] pos) (tSortLots X.K T te) := by
  refine ⟨fun pins s σ H Q I h => ?_⟩
  refine wpAny_Call_Name_kw (ld_blt I hgS hmS (u := .builtin "sorted") (by decide +kernel) ?_ (by decide) (by decide))
  refine PyProof.Rows.callWith_kw ?_ hes (by rw [hes]; rfl) rfl rfl
  rw [hes]
  refine Calls.spliced_cons (thn (he.run pins s σ H _ I h) fun u s1 ⟨v, H1, I1, r1, q1⟩ => Calls.spliced_nil ?_)
  obtain ⟨a, xs, k, rfl, hs, hx, hT, q⟩ := q1
  obtain rfl : u = Value.ref a := r1
  show wpAny _ _ (evalAll [do let v ← eval (.Lambda params (.Tuple [.Call (.Name "len" p1) [.Name y p2] [] p3, .Name y p4] x1 p5) scope lpos) X.env; standAt pos; pure v]) _ _ _
  refine wpAny_evalAll_cons (wpAny_bind ?_)
  refine lam_make2 I1 TB hcode hmT huT hT hdef (fun z hz ef => absurd ef (hcell z hz).2) fun f c' pm ctv H2 s2 I2 eN T2 hf hfn hfr hco2 => ?_
  rw [hclo] at hf
  refine wpAny_bind (wpAny_standAt (wpAny_pure ?_))
  refine wpAny_evalAll_nil ?_
  show wpAny _ _ (call (.builtin "sorted") [.ref a] [(Str.ofString "key", .ref f)]) _ _ s2
  have hs2 : SqL X.K H2 a xs := by
    rcases hs with (hs | ⟨o, hs⟩) | hs
    · exact .inl (.inl (eN _ _ hs (fun _ z => nomatch z)))
    · exact .inl (.inr ⟨o, eN _ _ hs (fun _ z => nomatch z)⟩)
    · exact .inr hs
  obtain ⟨its, rv, hl, hsz⟩ := I2.list hs2
  have hx2 : ∀ x ∈ xs, ∃ t, x = V.ref t ∧ H2 t = some (.tup ((k x).map V.int)) := fun x m => let ⟨t, e1, e2⟩ := hx x m; ⟨t, e1, eN _ _ e2 (fun _ z => nomatch z)⟩
  obtain ⟨⟨oc, cvs, ct, hoc, hdc, hvc⟩, _, _⟩ := I2.hok c' _ hco2
  obtain ⟨mb, hb1, hb2⟩ := I2.mod.blt
  refine PySem.W.sorted_key_data (β := V) (R := fun u x => RelV x u) (fun x => lotKey (k x)) hl.isList (vals_each rv) (PySem.W.AllAlike.of fun b b' => alike_lotKey _ _) (PySem.W.Sortable.tuples fun b => ⟨_, _, rfl⟩) hsz
    (fun x _ => by have := depth_lotKey (k x); omega) (PyProof.Rows.ksk_s1 _ _) (fun _ => PyProof.Rows.ksk_l1 _ _) (fun x => PyProof.Rows.ksk_t1 f x) ?_ ?_
  · intro v x hR hxm h' tk' hk'
    obtain ⟨t, rfl, ht⟩ := hx2 x hxm
    obtain rfl : v = Value.ref t := hR
    obtain ⟨hz, jts, rj, tj⟩ := I2.hok t _ ht
    refine lotkey_turn (hroom := hdp) (hk' _ _ hf) hco hgen hk (fun z hz => (hcell z hz).1) hy hlen (fun v => hbind _ _ _ _ v) ⟨c', oc, cvs, ct, rfl, hk' _ _ hoc, hdc, hvc⟩
      ((I2.mod.glob.keeps I2.bk).keeps hk') hmL ((hb1.keeps I2.bk).keeps hk') ((hb2 _ (by decide)).trans PySem.boot_len) (I2.nolimit.keeps hk') (tj.keeps hk') rj.ints (by rw [← rj.length]; exact hz) hyd
  · intro out cc h' tk' hk' hfr' hnew hol heach
    have hpm : (xs.mergeSort (PySem.W.dataLe false fun x => lotKey (k x))).Perm xs := List.mergeSort_perm ..
    refine ⟨.ref (s2.heap.objs.size + 1), upd H2 (s2.heap.objs.size + 1) (.lst (xs.mergeSort (PySem.W.dataLe false fun x => lotKey (k x)))), I2.laid (t' := tk') hk' (Nat.le_succ _) ?_, rfl, ?_⟩
    · exact ⟨by rw [hpm.length_eq]; exact hsz, out, cc, each_vals heach, hnew⟩
    · have nf : H2 (s2.heap.objs.size + 1) = none := I2.hok.fresh (Nat.le_succ _)
      refine q _ _ _ eN T2 hpm ?_ nf
      have z := PySem.W.sortLe_total (listOrd itemOrd) false (fun x : V => PySem.W.keyToks (lotKey (k x)))
      exact List.pairwise_mergeSort (le := PySem.W.dataLe false fun x => lotKey (k x)) (fun a b c => z.trans a b c) (fun a b => Bool.or_eq_true _ _ |>.mpr (z.total a b)) xs
end
end Rg
namespace Rg
open PySem PySem.Spec PyProof.Rows L2
/-! ### enumerate(t), t a tuple -/
theorem meets_enum1 {v : Value} {ob : Obj} {Hz : Heap → Prop} (B : Begins v ob Hz) :
    Meets (Builtin.«enumerate.__new__» ⟨[.type "enumerate", v], []⟩) (fun _ R s => Hz s.heap ∧
      R (.ok (.ret (.ref (s.heap.push ob).objs.size))) { s with heap := (s.heap.push ob).push { cls := .type "enumerate", data := .fields #[.none, .bool false, .ref s.heap.objs.size, rawInt 0, .none, .none] } }) :=
  .of_wp fun prog w A R s h => by
    obtain ⟨hp, gg, dd, tk, os⟩ := s
    obtain ⟨hz, h⟩ := h
    have hsub := sub_enumerate
    have go : ∀ {A' : Around} {E' : Value → Shared → Prop} {Q' : Value → Shared → Prop}, Q' (.ref hp.objs.size) ⟨hp.push ob, gg, dd, tk, os⟩ → wpAny (model prog w) A' (pyIter v) Q' E' ⟨hp, gg, dd, tk, os⟩ :=
      fun q => B.iter prog w _ _ ⟨hp, gg, dd, tk, os⟩ _ hz q
    wp_walk using go
    refine wpAny_stack_any fun st => wpAny_pure ?_
    split
    · rename_i c _ _ _ _ _
      cases (c == Value.type "enumerate")
      · wp_walk using go
        exact ⟨_, rfl, h⟩
      · wp_walk using go
        exact ⟨_, rfl, h⟩
    · wp_walk using go
      exact ⟨_, rfl, h⟩
section
variable {prog : Program} {w : World} {A : Around} {E : Value → Shared → Prop} {s : Shared}
theorem call_enum1 {v : Value} {ob : Obj} {Hz : Heap → Prop} {Q : Value → Shared → Prop} (B : Begins v ob Hz) (hz : Hz s.heap)
    (k : ∀ g, IsEnum g (s.heap.objs.size + 1) s.heap.objs.size 0 .none → g.get? s.heap.objs.size = some ob → (∀ c u, s.heap.get? c = some u → g.get? c = some u) → Q (.ref (s.heap.objs.size + 1)) { s with heap := g }) :
    wpAny (model prog w) A (call (.type "enumerate") [v]) Q E s := by
  refine callType_new F.called_enumerate (by decide) (F.typeCall_enumerate_1 _) (F.newCall_enumerate_1 _) (fun obj => F.args_object_init_2 obj _) F.entry_enumerate_new (meets_enum1 B) ⟨hz, ?_⟩
  have sz : (s.heap.push ob).objs.size = s.heap.objs.size + 1 := Heap.size_push ..
  show _ ∧ _
  rw [sz]
  have ie : IsEnum ((s.heap.push ob).push { cls := .type "enumerate", data := .fields #[.none, .bool false, .ref s.heap.objs.size, rawInt 0, .none, .none] }) (s.heap.objs.size + 1) s.heap.objs.size 0 .none := by
    have z := Heap.get?_push_size (s.heap.push ob) (o := { cls := .type "enumerate", data := .fields #[.none, .bool false, .ref s.heap.objs.size, rawInt 0, .none, .none] }) rfl
    rw [sz] at z
    exact z
  exact ⟨⟨_, ie, rfl⟩, k _ ie (Heap.get?_push_of_some _ (Heap.get?_push_size _ B.free)) fun c u x => Heap.get?_push_of_some _ (Heap.get?_push_of_some _ x)⟩
end
/-- the tuple at a as it stands at each turn, each item in a new pair -/
def IteT (K : PySem.W.Frag) (a : Addr) : It :=
  ⟨fun i H => ∃ (xs : List V) (x : V), SqT K H a xs ∧ xs[i]? = some x, fun i H v H' => ∃ T x, v = .ref T ∧ H T = none ∧ H' = upd H T (.tup [.int (i : Nat), x]) ∧ ∀ xs, SqT K H a xs → xs[i]? = some x, fun i H => ∃ xs : List V, SqT K H a xs ∧ xs.length ≤ i⟩
theorem turn_enumT {P : Program} {w : World} {K : PySem.W.Frag} {elts : List Expr} {kk : Nat} {tpos : Pos} (a e it : Addr) :
    Turn P w K (.Tuple elts kk tpos) (IteT K a) [e, it] e (fun i h => (∃ old, IsEnum h e it ((i : Nat) : Int) old) ∧ h.IsTupleIter it a i ∧ e ≠ it) where
  mem := List.mem_cons_self ..
  obj := by
    rintro i h ⟨⟨old, he⟩, ⟨o, ho, hc, hd⟩, _⟩ b hb
    rcases List.mem_cons.mp hb with z | z
    · rw [z]; exact ⟨_, he, fun v q => nomatch q⟩
    · rw [List.mem_singleton.mp z]; exact ⟨o, ho, fun v q => by rw [hd] at q; cases q⟩
  keep := by
    rintro i h h' ⟨⟨old, he⟩, hi, hne⟩ k
    exact ⟨⟨old, k e (by simp) _ he⟩, hi.at fun o q => k it (by simp) o q, hne⟩
  item := by
    intro X hP hw hK hc i pins s σ H E I hf st hg
    subst hP hw hK
    obtain ⟨⟨old, he⟩, hit, hne⟩ := st
    obtain ⟨xs, x, hq, hx⟩ := hg
    obtain ⟨its, rv, tp, hz⟩ := I.tuple hq
    obtain ⟨u, hu, ru⟩ := rv.get hx
    have hel : e < s.heap.objs.size := Heap.lt_size he
    have hil : it < s.heap.objs.size := by obtain ⟨_, q, _⟩ := hit; exact Heap.lt_size q
    obtain ⟨ot, hot, hct, nt, hdt⟩ := tp
    have nai : a ≠ it := fun z => by
      obtain ⟨oi, hoi, hci, _⟩ := hit
      rw [← z, hot] at hoi
      cases hoi
      rw [hct] at hci
      exact absurd (Value.type.inj hci) (by decide)
    have nae : a ≠ e := fun z => by
      have he' := he
      rw [IsEnum, ← z, hot] at he'
      cases he'
      exact absurd (Value.type.inj hct) (by decide)
    have hlt : i < its.toArray.size := by
      rw [List.size_toArray]
      exact (List.getElem?_eq_some_iff.mp hu).1
    refine wpAny_pyNext_enum_itemD (Draws.tuple (A := X.A.in1) (I.ok.hd hc) it a nai its.toArray) he ⟨hit, ⟨ot, hot, hct, nt, hdt⟩⟩ hlt hne (by simp [hne, Ne.symm nae]) fun u' g tk hP ho hst' hT hsz hk => ?_
    have eu : u' = u := by
      have h1 : its.toArray[i]? = some u' := hP
      rw [List.getElem?_toArray, hu] at h1
      exact (Option.some.inj h1).symm
    subst eu
    refine ⟨_, rfl, wpAny_letOwnedTupleGo_enum (s := { s with heap := g, toks := tk + 1 }) ho fun g2 he' sb => ?_⟩
    have hT2 : g2.get? s.heap.objs.size = some { cls := .type "tuple", data := .seq #[.int i tk, u'] } := (sb.2 _ (Nat.ne_of_gt hel)).trans hT
    have I1 : Inv X pins σ (upd H s.heap.objs.size (.tup [.int (i : Nat), x])) { s with heap := g2, toks := tk + 1 } :=
      I.turnedNew (ch := [e, it]) (fun b ob hb q => (sb.2 b (fun z => hb (by simp [z]))).trans (hk b ob (fun z => hb (by simp [z])) (fun z => hb (by simp [z])) q)) hf (Nat.le_refl _)
        ⟨by show 2 ≤ sizeLine; decide, [.int i tk, u'], .cons ⟨_, rfl⟩ (.cons ru .nil), ⟨_, hT2, rfl, _, rfl⟩⟩
    refine ⟨.ref s.heap.objs.size, _, I1, rfl, ⟨_, x, rfl, I.hok.fresh (Nat.le_refl _), rfl, fun ys hy => by rw [I.tuple_inj hy hq]; exact hx⟩, ⟨⟨u', ?_⟩, hst'.1.at fun o q => (sb.2 it (Ne.symm hne)).trans q, hne⟩, fun b hb => ?_⟩
    · have e1 : ((i + 1 : Nat) : Int) = (i : Int) + 1 := by omega
      rw [e1]
      exact he'
    · have hb' : b < s.heap.objs.size := by
        rcases List.mem_cons.mp hb with z | z
        · rw [z]; exact hel
        · rw [List.mem_singleton.mp z]; exact hil
      rw [upd_ne (Nat.ne_of_lt hb')]
      exact (hf b hb).1
  done := by
    intro X hP hw hK hc i pins s σ H E I hf st hg
    subst hP hw hK
    obtain ⟨⟨old, he⟩, hit, hne⟩ := st
    obtain ⟨xs, hq, hx⟩ := hg
    obtain ⟨its, rv, tp, hz⟩ := I.tuple hq
    obtain ⟨f0, f1, f2, f3, f4, f5⟩ := hf it (by simp)
    have hl := rv.length
    have hT : s.TypeIs (.ref e) "enumerate" := ⟨_, he, rfl⟩
    unfold pyNext
    refine wpAny_bind (wpAny_attempt (wpAny_callSpecial?_slot (name := Str.ofString "__next__") hT F.slot_enumerate_next
      (wpAny_call_entry F.slot_enumerate_next hT F.entry_enumerate_next ?_ (F.args_enumerate_next_1 _))))
    show wpAny _ _ (field (.ref e) 2 >>= _) _ _ _
    refine wpAny_bind (wpAny_field he rfl (x := .ref it) rfl ?_)
    refine wpAny_bind (wpAny_nextOf_tuple_end (I.ok.hd hc) hit tp (by simp; omega) fun g x eb hx' => ?_)
    obtain ⟨o, ho, hcl⟩ := hx'
    refine wpAny_bind (wpAny_isInstance (T := "StopIteration") (b := true) ⟨o, ho, hcl⟩ isSubtype_stop ?_)
    exact wpAny_pure ⟨rfl, I.turned (t' := s.toks) (fun b o hb q => eb b o hb q) f0 f1 f3 f4 f5⟩
  self := fun A i s Q E st h => let ⟨⟨_, he⟩, _⟩ := st; wpAny_pyIter_enum he h
def iEnumT (K : PySem.W.Frag) (ta : TA) : TI := fun σ H R => ta σ H fun vs H1 => ∃ a xs, vs = [.ref a] ∧ SqT K H1 a xs ∧ R (IteT K a) H1
theorem pi_enumT {X : Cx} {e : Expr} {ta : TA} {p pos tpos : Pos} {elts : List Expr} {kk : Nat} (hg : Gl X "enumerate") (hm : X.mg "enumerate" = none) (ha : PA X [e] ta) (hs : starEach [e] X.env = [(false, eval e X.env)] := by rfl) :
    PI X (.Tuple elts kk tpos) (.Call (.Name "enumerate" p) [e] [] pos) (iEnumT X.K ta) := by
  refine ⟨fun pins s σ H R I h => ?_⟩
  refine Call_ (ld_blt I hg hm boot_enumerate (PyProof.Rows.callWith_type1 (thn (ha.run pos pins s σ H _ I h) fun us s1 ⟨vs, H1, I1, r1, q1⟩ => ?_) hs rfl))
  obtain ⟨a, xs, rfl, hq, q⟩ := q1
  rw [Vals.ref1 r1]
  obtain ⟨its, rv, tp, hz⟩ := I1.tuple hq
  refine call_enum1 (begins_tuple a its.toArray) tp fun g he hit hk => wpAny_pyIter_enum he ?_
  have I2 : Inv X pins σ H1 { s1 with heap := g } := I1.kept (t' := s1.toks) hk
  refine ⟨s1.heap.objs.size + 1, [s1.heap.objs.size + 1, s1.heap.objs.size], _, _, H1, rfl, I2, turn_enumT a (s1.heap.objs.size + 1) s1.heap.objs.size, ⟨⟨.none, he⟩, ⟨_, hit, rfl, rfl⟩, Nat.succ_ne_self _⟩, fun b hb => ?_, q⟩
  have hle : s1.heap.objs.size ≤ b := by
    rcases List.mem_cons.mp hb with z | z
    · rw [z]; exact Nat.le_succ _
    · rw [List.mem_singleton.mp z]; exact Nat.le_refl _
  exact I1.fpOk hle (I1.hok.fresh hle)
theorem walk_enumT {K : PySem.W.Frag} {a : Addr} {xs : List V} : Walk (IteT K a) xs.length (fun H => SqT K H a xs) (YPair (fun i => some (.int (i : Nat))) (fun i => xs[i]?)) := by
  refine ⟨fun i _ hi q => ⟨xs, xs[i], q, List.getElem?_eq_getElem hi⟩, fun _ q => ⟨xs, q, Nat.le_refl _⟩, fun i H v H' _ q y => ?_⟩
  obtain ⟨T, x, y1, y2, y3, y4⟩ := y
  exact ⟨T, .int (i : Nat), x, y1, y2, y3, rfl, y4 xs q⟩
end Rg
namespace Rg
open PySem PySem.Spec PyProof.Rows L2
/-! ### x in a tuple of data -/
section
variable {X : Cx}
def rInDT (K : PySem.W.Frag) : R2 := fun x y Hh Qq => ∃ dx dxs, Dp K Hh x dx ∧ Dp K Hh y (.tuple dxs) ∧ SeqAt.shaped dx = true ∧ SeqAt.shaped (.tuple dxs) = true ∧ Qq (.bl (dxs.any fun z => PyData.eqv z dx)) Hh
theorem op_inDT (hu : X.A.units + 65 < cLine) : OpR X (compareOp .In) (rInDT X.K) := by
  intro pns s σs Hh x y v u Qq Iv rlx rly h
  obtain ⟨dx, dxs, hdx, hdy, sx, sy, qq⟩ := h
  obtain ⟨as, rd1⟩ := Dp.reads Iv dx x v hdx rlx
  obtain ⟨bs, rd2⟩ := Dp.reads Iv (.tuple dxs) y u hdy rly
  exact SeqAt.in_tuple_reads rd2 rd1 (SeqAt.canLay_of_shaped sy) (SeqAt.canLay_of_shaped sx) (room_in_shaped sx hu) ⟨.bl _, Hh, Iv, rfl, qq⟩
end
end Rg
namespace Rg
open PySem PySem.Spec PyProof.Rows L2
/-! ### an error that is kept behind its clause -/
/-- an error object of the class at C, its dict at dd -/
def errO (e C : Addr) (dd : Option Addr) : HO := .ext fun hp => ∃ (ob : Obj) (vs : Array Value), hp.get? e = some ob ∧ ob.cls = .ref C ∧ ob.dict = dd ∧ ob.data = .fields vs
theorem errO_at {P : Program} {w : World} {H : Hp} {hp : Heap} {e C : Addr} {dd : Option Addr} (hok : HOk P w H hp) (he : H e = some (errO e C dd)) : ∃ (ob : Obj) (vs : Array Value), hp.get? e = some ob ∧ ob.cls = .ref C ∧ ob.dict = dd ∧ ob.data = .fields vs := (hok e _ he).1
theorem errO_ok {P : Program} {w : World} {H : Hp} {hp : Heap} {e C : Addr} {dd : Option Addr} {ob : Obj} {vs : Array Value} (he : hp.get? e = some ob) (h1 : ob.cls = .ref C) (h2 : ob.dict = dd) (h3 : ob.data = .fields vs) : ObjOk P w H hp e (errO e C dd) :=
  ⟨⟨ob, vs, he, h1, h2, h3⟩, ⟨ob, he⟩, fun _ _ ⟨ob', vs', a, b, c, d⟩ st => ⟨ob', vs', st _ a, b, c, d⟩⟩
/-- a thing that was not tracked is tracked from now on -/
theorem inv_know {X : Cx} {pns : List (Addr × Obj)} {σs : L2.St} {Hh : Hp} {sh : Shared} {e : Addr} {u : HO} (Iv : Inv X pns σs Hh sh) (ne : Hh e = none) (old : e ∉ X.ex → ∀ ob, X.s_0.heap.get? e = some ob → False) (nl : e ≠ X.env.locals)
    (nc : ∀ y c, X.env.cells.lookup y = some c → c ≠ e) (np : ∀ p ∈ X.pn ++ pns, p.1 ≠ e) (ob : ObjOk X.prog X.w (upd Hh e u) sh.heap e u) : Inv X pns σs (upd Hh e u) sh := by
  have oth : ∀ b, b ≠ e → upd Hh e u b = Hh b := fun b hb => upd_ne hb
  have keepS : ∀ {b : Addr} {o : HO}, Hh b = some o → upd Hh e u b = some o := fun {b o} q => by rw [oth b (ne_of_none q ne)]; exact q
  refine ⟨Iv.ok, Iv.os, Iv.bare, ⟨Iv.base.keep, Iv.base.slot, fun b o a n x => ?_, Iv.base.there, fun b xs q => keepS (Iv.base.tups b xs q), fun b o z q => keepS (Iv.base.frzs b o z q), fun b ps q => ?_⟩, Iv.loc, Iv.cell, ?_, fun y c q => ?_, fun p hp => ?_, fun b o q => ?_, Iv.len⟩
  · by_cases hb : b = e
    · subst hb
      exact (old x o a).elim
    · rw [oth b hb]
      exact Iv.base.free b o a n x
  · obtain ⟨more, q'⟩ := Iv.base.tbls b ps q
    exact ⟨more, keepS q'⟩
  · rw [oth _ (Ne.symm nl)]
    exact Iv.free
  · rw [oth _ (nc y c q)]
    exact Iv.freeC y c q
  · obtain ⟨a1, a2, a3⟩ := Iv.pin p hp
    exact ⟨a1, by rw [oth _ (np p hp)]; exact a2, a3⟩
  · by_cases hb : b = e
    · subst hb
      rw [upd_same] at q
      cases q
      exact ob
    · rw [oth b hb] at q
      exact (Iv.hok b o q).stay (fun _ _ _ z => z) (fun c z => keepS z) fun c xs z => keepS z
end Rg
namespace Rg
open PySem PySem.Spec PyProof.Rows L2
/-- what the clause asks: the error is one of the class cv; it is tracked while the suite runs and from then on -/
def wKeep (K : PySem.W.Frag) (cv : Value) (ix : Nat) (tsu : TS) (De : Ends) : WX := fun cls dd σs Hh =>
  PySem.W.exmOne K cls cv = some true ∧ ∃ C : Addr, cls = .ref C ∧ ∀ e, Hh e = none → tsu { nx := fun τ J => De.nx (τ.set ix none) J, rt := De.rt, bk := fun τ J => De.bk (τ.set ix none) J, ct := fun τ J => De.ct (τ.set ix none) J } (σs.set ix (some (.ref e))) (upd Hh e (errO e C dd))
section
variable {X : Cx} {pns : List (Addr × Obj)} {σs : L2.St} {Hh : Hp} {sh : Shared}
theorem inv_in (Iv : Inv X pns σs Hh sh) (e : Addr) : Inv (X.suite e (X.pn ++ pns)) [] σs Hh sh :=
  ⟨Iv.ok.suite _ _, Iv.os, Iv.bare, Iv.base, Iv.loc, Iv.cell, Iv.free, Iv.freeC, fun p hp => Iv.pin p (by simpa using hp), Iv.hok, Iv.len⟩
theorem inv_out {e : Addr} (Iv : Inv (X.suite e (X.pn ++ pns)) [] σs Hh sh) (ok : X.Ok) : Inv X pns σs Hh sh :=
  ⟨ok, Iv.os, Iv.bare, Iv.base, Iv.loc, Iv.cell, Iv.free, Iv.freeC, fun p hp => Iv.pin p (by simpa using hp), Iv.hok, Iv.len⟩
end
section
variable {X : Cx} {y n : Str} {cv : Value} {ix : Nat} {bd su : List Stmt} {st0 : Stmt} {np po po' : Pos} {tbd : WX → TS} {tsu : TS}
theorem ps_try_keep (hstk : X.stack = X.env :: X.outer) (hfr0 : X.env.frame = some X.env.locals) (hnd : X.N.Nodup) (hix : X.N[ix]? = some n) (hnl : X.env.kindOf n = some .local) (hcl : Names X y cv)
    (hbd : ∀ (W : WX) (pn : List (Addr × Obj)) (xe : Value → Shared → Prop), Takes (X.tr pn xe) W → PassesOwn (model X.prog X.w) X.A X.env xe → PSs (X.tr pn xe) bd (tbd W))
    (hsu : ∀ (e : Addr) (pn : List (Addr × Obj)), PSs (X.suite e pn) (st0 :: su) tsu) :
    PS X (.Try bd [.ExceptHandler (some (.Name y np)) (some n) (st0 :: su) po'] [] [] po) (fun De σs Hh => tbd (wKeep X.K cv ix tsu De) De σs Hh) := by
  refine ⟨fun pns sh σs Hh De Iv hh => ?_⟩
  have ok := Iv.ok
  have hfr : X.A.frames = some (X.env :: X.outer) := by rw [ok.frames, hstk]
  have hbody := (hbd (wKeep X.K cv ix tsu De) (X.pn ++ pns) (fun e s1 => wpAny (model X.prog X.w) X.A (noteFrame e X.env) (fun _ s2 => wpAny (model X.prog X.w) X.A (setFlight e none) (fun _ s3 =>
    wpAny (model X.prog X.w) X.A (handleBy e X.env [.ExceptHandler (some (.Name y np)) (some n) (st0 :: su) po']) (SP X pns De) X.xe s3) X.xe s2) X.xe s1) (fun u sx xx => ?_) PassesOwn.looking).run [] sh σs Hh De (Iv.toTry _) hh
  · refine wpAny_Try_except (wpAny_mono hbody (fun fl s1 q => ?_) fun _ _ q => q)
    cases fl with
    | next =>
      obtain ⟨τ, J, Jv, q⟩ := q
      exact wpAny_execs_nil ⟨τ, J, Jv.ofTry ok, q⟩
    | brk => exact let ⟨τ, J, Jv, q⟩ := q; ⟨τ, J, Jv.ofTry ok, q⟩
    | cont => exact let ⟨τ, J, Jv, q⟩ := q; ⟨τ, J, Jv.ofTry ok, q⟩
    | ret u => exact let ⟨v, τ, J, Jv, r, q⟩ := q; ⟨v, τ, J, Jv.ofTry ok, r, q⟩
  -- the error is at e
  obtain ⟨e, B, sI, _, τ, J, cls, dd, rfl, Jv0, nb, up, sky, ne, os, ag, hb, C, rfl, hyes⟩ := xx
  have Jv : Inv X pns τ J sI := Jv0.ofTry ok
  rw [hstk] at sky
  refine Sky.land Zc.steady hfr hfr0 sky fun h3 fl3 up3 => ?_
  have K3 : Inv X pns τ J { sx with heap := h3 } := Jv.landed nb fl3.1 (up.trans up3) os ag
  obtain ⟨o3, v3, g3, z3, d3⟩ := fl3.there
  have enf : e ∉ frs X.stack := fun hm => by
    rw [hstk] at hm
    obtain ⟨_, o', e', hnf⟩ := fl3.2.2.1.mem hm
    rw [g3] at e'
    cases e'
    exact hnf _ d3
  have enl : e ≠ X.env.locals := fun z => enf (by rw [hstk]; exact List.mem_filterMap.mpr ⟨X.env, List.mem_cons_self, by rw [hfr0, z]⟩)
  have enF : e ∉ X.fs := fun hm => enf (by
    rw [hstk]
    obtain ⟨ev, he, q⟩ := List.mem_filterMap.mp hm
    exact List.mem_filterMap.mpr ⟨ev, List.mem_cons_of_mem _ he, q⟩)
  have gone : ∀ ob, sI.heap.get? e = some ob → False := fun ob q => by
    have a := nb e ob q enf
    rw [fl3.2.1] at a
    cases a
  -- tracked
  have know : ∀ {h4 : Heap} {o4 : Obj} {v4 : Array Value}, Inv X pns τ J { sx with heap := h4 } → h4.get? e = some o4 → Zc (.ref C) dd o4 → o4.data = .fields v4 → Inv X pns τ (upd J e (errO e C dd)) { sx with heap := h4 } := fun {h4 o4 v4} K4 g4 z4 d4 => by
    refine inv_know K4 ne (fun hx ob q => ?_) enl (fun x c q z => ?_) (fun p hp z => ?_) (errO_ok g4 z4.1 z4.2 d4)
    · obtain ⟨o', q'⟩ := Jv.base.there e ob q hx
      exact gone o' q'
    · obtain ⟨v, o', q', _⟩ := Jv.cell x c q
      rw [z] at q'
      exact gone _ q'
    · obtain ⟨q', _⟩ := Jv.pin p hp
      rw [z] at q'
      exact gone _ q'
  have test : ∀ {Q E : Value → Shared → Prop}, Q cv { sx with heap := h3 } → wpAny (model X.prog X.w) (X.A.mark (some (.ref e))) (eval (.Name y np) X.env) Q E { sx with heap := h3 } := fun {Q E} q => by
    have S3 := inv_in K3 e
    obtain ⟨hg, hdb, hm | ⟨hm, hv, hn⟩⟩ := hcl
    · exact ld_glob S3 hg hm q hdb
    · exact ld_blt S3 hg hm hv q hn hdb
  refine wpAny_handleBy_cons (codeAny_handlers_test (test ((PySem.W.exm_one (M := model X.prog X.w) K3.kIn (fun _ _ _ _ k q => wpAny_typeOf_ref (k _ _ g3) (by rw [z3.1]; exact q)) hb).here (codeAny_handlers_suite_as (HandSPX.lands_againZ fl3 fun h4 fl4 up4 => ?_))))) (by intro q; cases q)
  obtain ⟨o4, v4, g4, z4, d4⟩ := fl4.there
  have K4 := know (Jv.landed nb fl4.1 ((up.trans up3).trans up4) os ag) g4 z4 d4
  refine store_ok (X := X.suite e (X.pn ++ pns)) (v := .ref e) (inv_in K4 e) hnd hix (.inl hnl) rfl (fun s5 S5 => ?_) (.inr hnl)
  refine wpAny_mono ((hsu e _).run [] s5 _ _ _ S5 (hyes e ne)) (fun fl s6 q => ?_) fun _ _ z => z.elim
  have fin : ∀ {ρ : L2.St} {L : Hp} {Q : Shared → Prop}, Inv (X.suite e (X.pn ++ pns)) [] ρ L s6 → (∀ s7, Inv X pns (ρ.set ix none) L s7 → Q s7) → wpAny (model X.prog X.w) X.A (do bindName X.env n .none; unbindBehindTheSuite X.env n po') (fun _ s7 => Q s7) X.xe s6 :=
    fun {ρ L Q} S6 hq => gone_ok (inv_out S6 ok) hnd hix hnl hq
  cases fl with
  | next => exact let ⟨ρ, L, S6, q⟩ := q; fin S6 fun s7 I7 => ⟨_, _, I7, q⟩
  | brk => exact let ⟨ρ, L, S6, q⟩ := q; fin S6 fun s7 I7 => ⟨_, _, I7, q⟩
  | cont => exact let ⟨ρ, L, S6, q⟩ := q; fin S6 fun s7 I7 => ⟨_, _, I7, q⟩
  | ret u => exact let ⟨v, ρ, L, S6, r, q⟩ := q; fin S6 fun s7 I7 => ⟨_, _, _, I7, r, q⟩
end
end Rg
namespace Rg
open PySem PySem.Spec PyProof.Rows L2
theorem call_or {X : Cx} {fv : Value} {r1 r2 : List V → Hp → VK → Prop} (h1 : CallR X fv r1) (h2 : CallR X fv r2) : CallR X fv (fun xs Hh Qq => r1 xs Hh Qq ∨ r2 xs Hh Qq) := fun pns s σs Hh xs us Qq Iv rr h => h.elim (h1 pns s σs Hh xs us Qq Iv rr) (h2 pns s σs Hh xs us Qq Iv rr)
/-- an error that is kept: its object, its dict -/
def ErrV (Hh : Hp) (x : V) (C : Addr) (fs : List (Str × V)) : Prop := ∃ (e dd : Addr), x = .ref e ∧ Hh e = some (errO e C (some dd)) ∧ Hh dd = some (.xd fs)
theorem err_inst {P : Program} {w : World} {Hh : Hp} {hp : Heap} {e C dd : Addr} {fs : List (Str × V)} (hok : HOk P w Hh hp) (he : Hh e = some (errO e C (some dd))) (hd : Hh dd = some (.xd fs)) :
    ∃ (ob od : Obj) (mA : Str → Option Value), PySem.W.InstAt hp e ob C (some od) ∧ (∀ f, PySem.W.lookIn f od = some (mA f)) ∧ ∀ f, RelO (fs.lookup f) (mA f) := by
  obtain ⟨ob, vs, g, c1, c2, c3⟩ := errO_at hok he
  obtain ⟨mA, hns, hr⟩ := (show ObjOk P w Hh hp dd (.xd fs) from hok dd _ hd)
  obtain ⟨od, ho, hl⟩ := lookIn_ns hns
  exact ⟨ob, od, mA, ⟨g, c1, by unfold PySem.W.notCls; rw [c3] <;> rfl, by rw [c2]; exact ho⟩, hl, hr⟩
/-- isinstance(e, c), e an error that is kept -/
def rIsE (K : PySem.W.Frag) : List V → Hp → VK → Prop := fun xs Hh Qq => ∃ (x c : V) (cv : Value) (C : Addr) (fs : List (Str × V)) (b : Bool), xs = [x, c] ∧ (∀ u, RelV c u → u = cv) ∧ ExcC K C ∧ ErrV Hh x C fs ∧ PySem.W.kitOne K (.ref C) cv = some b ∧ Qq (.bl b) Hh
theorem cr_isE {X : Cx} : CallR X (.builtin "isinstance") (rIsE X.K) := by
  intro pns s σs Hh xs us Qq Iv rr ⟨x, c, cv, C, fs, b, ex, hcv, G, ⟨e, dd, ez, he, hd⟩, kit, q⟩
  subst ex ez
  obtain ⟨u1, u2, rfl, r1, r2⟩ := vals2 rr
  obtain rfl : u1 = Value.ref e := r1
  obtain rfl := hcv _ r2
  obtain ⟨ob, od, mA, J, _, _⟩ := err_inst Iv.hok he hd
  have hcl : (PySem.W.clsIn X.K C).isSome = true := by
    obtain ⟨cd, hc, _⟩ := PySem.W.any_some G.hd
    rw [hc]
    rfl
  exact PySem.W.kia_one (PySem.W.kitx_exc hcl G.hg G.hk G.hs G.ha G.hn G.ht G.hm) Iv.kIn J kit (fun z => nomatch z) fun tk => ⟨.bl b, Hh, Iv.kept (t' := tk) fun _ _ z => z, rfl, q⟩
/-- e.f, e an error that is kept -/
def tFldE (K : PySem.W.Frag) (te : TE) (f : Str) : TE := fun σs Hh Qq => te σs Hh fun x J => ∃ (C : Addr) (fs : List (Str × V)) (v : V), ErrV J x C fs ∧ XfC K C ∧ PySem.W.findIn K (.ref C) f = some none ∧ fs.lookup f = some v ∧ Qq v J
theorem pe_fldE {X : Cx} {ex : Expr} {te : TE} {po : Pos} {n : Str} (he : PE X ex te) (hb : attributeBase ex n X.env (eval ex X.env) = eval ex X.env := by rfl) : PE X (.Attribute ex n po) (tFldE X.K te n) := by
  refine ⟨fun pns s σs Hh Qq Iv h => attr_of hb (thn (he.run pns s σs Hh _ Iv h) fun u s1 hh => ?_)⟩
  obtain ⟨x, J, I1, rx, C, fs, v, ⟨e, dd, ez, g1, g2⟩, T, hno, l, q⟩ := hh
  subst ez
  obtain rfl : u = Value.ref e := rx
  obtain ⟨ob, od, mA, K1, hl, hr⟩ := err_inst I1.hok g1 g2
  obtain ⟨z, hz, rz⟩ := RelO.some_of (v := v) (o := mA n) (by rw [← l]; exact hr n)
  exact HandSPX.exc_get I1.kIn K1 T.ga T.gg T.exC (PySem.W.findObj_own T.hdC hno rfl (by rw [hl, hz])) (handed_of rz) ⟨v, J, I1.tok _, rz, q⟩
end Rg
namespace Rg
open PySem PySem.Spec PyProof.Rows L2
/-- name = {k: v for ..}, a plain local name -/
theorem sw_dc {kx vx : Expr} {gs : List Comprehension} {sc : Scope} {po py : Pos} {y : Str} {ln : Nat} {ev : Env} (hk : ev.scope.kind = .function) (hy : ev.scope.names.lookup y = some .local) (hl : (py.line == po.line) = true)
    (ha : (sc.names.any fun (n, k) => n == y && (k == .local || k == .cell)) = false) : swapsWith (.DictComp kx vx gs sc po) (some (.Name y py)) ln ev = pure true := by
  have k1 : ev.kindOf y = some .local := hy
  have k2 : ev.blockKind = .function := by unfold Env.blockKind; rw [hk]; rfl
  unfold swapsWith
  simp only [k2, k1, ha, Expr.pos, hl]
  rfl
section
variable {X : Cx}
theorem ps_setDc {ix : Nat} {y : Str} {py : Pos} {kx vx tg itx : Expr} {ifs : List Expr} {sc : Scope} {own : List (Str × Nat)} {po spo : Pos} {wi : TI} {g : TG} {tt : TT} {tk tv : TE} (hc : X.calm = true) (hN : X.N.Nodup) (hy : X.N[ix]? = some y) (hyl : X.env.scope.names.lookup y = some .local)
    (hsw : swapsWith (.DictComp kx vx [⟨tg, itx, ifs, 0⟩] sc po) (some (.Name y py)) spo.line X.env = pure true) (hi : PI X tg itx wi) (ok : BlkOk X.N X.env.scope sc own)
    (hg : ∀ (s : Shared) (H : Hp) (C : Addr) (cl : List (Str × Addr)) (fp : List Addr), PG (X.blk s H sc (compEnvC sc cl C X.env) fp) tg g) (ht : ∀ (s : Shared) (H : Hp) (C : Addr) (cl : List (Str × Addr)) (fp : List Addr), PTs (X.blk s H sc (compEnvC sc cl C X.env) fp) ifs tt)
    (hk : ∀ (s : Shared) (H : Hp) (C : Addr) (cl : List (Str × Addr)) (fp : List Addr), PE (X.blk s H sc (compEnvC sc cl C X.env) fp) kx tk) (he : ∀ (s : Shared) (H : Hp) (C : Addr) (cl : List (Str × Addr)) (fp : List Addr), PE (X.blk s H sc (compEnvC sc cl C X.env) fp) vx tv)
    (hs : ∀ x, foldedSetIterable itx X.env x = pure x := by intro _; rfl) : PS X (.Assign [.Name y py] (.DictComp kx vx [⟨tg, itx, ifs, 0⟩] sc po) spo) (tAsg (tDc wi g tt tk tv (own.map (·.2))) (gName ix)) := by
  refine ⟨fun pns sh σs Hh De Iv h => ?_⟩
  rw [exec_Assign_Name_used _ _ _ _ hsw]
  refine wpAny_bind (wpAny_standAt (wpAny_bind ?_))
  show wpAny _ X.A (do let _ ← comprehension (.DictComp kx vx [⟨tg, itx, ifs, 0⟩] sc po) sc X.env (firstIterPos [⟨tg, itx, ifs, 0⟩] po) newDict false (eval itx X.env) (some (assign (.Name y py) X.env))) _ _ sh
  have h2 : tDc wi g tt tk tv (own.map (·.2)) σs Hh (fun x J => gName ix x σs J De.nx) := h
  refine wpAny_bind (thn (dc_core (Qf := fun _ s' => SP X pns De .next s') hc hN Iv hi ok hg ht hk he hs h2 fun D C s' m J I' q hn f => ?_) fun _ s' hq => wpAny_pure (wpAny_pure hq))
  show wpAny _ _ (assign (.Name y py) X.env (.ref D)) _ _ _
  refine wpAny_assign_Name (store_ok2 (v := V.ref D) I' hN hy (.inl hyl) rfl (fun s2 I2 ⟨a, sb, ha⟩ => ?_) (.inr hyl))
  obtain ⟨f0, f1, f2, f3, f4, f5⟩ := f
  have ne : C ≠ a := ha.elim (fun z => by rw [z]; exact f1) fun z e => f4 y a z e.symm
  exact ⟨m, hn.sameBut sb ne, fun h3 sb3 => ⟨_, J, I2.turned (t' := s2.toks) (fun b o hb e => (sb3.2 b hb).trans e) f0 f1 f3 f4 f5, q⟩⟩
end
end Rg
namespace Rg
open PySem PySem.Spec PyProof.Rows L2
/-! ### the tuples of a zip that are kept -/
theorem tup_at {h h' : Heap} {a : Addr} {its : Array Value} (x : h.IsTuple a its) (e : ∀ o, h.get? a = some o → h'.get? a = some o) : h'.IsTuple a its := let ⟨o, ho, r⟩ := x; ⟨o, e _ ho, r⟩
theorem draws_tup {prog : Program} {w : World} {A : Around} (clear : A.handled = none) (it l : Addr) (apart : l ≠ it) (its : Array Value) : Draws prog w A it [it, l] its.size (fun j v => its[j]? = some v) (fun j h => h.IsTupleIter it l j ∧ h.IsTuple l its) where
  live := fun _ _ stand => let ⟨o, ho, _⟩ := stand.1; ⟨o, ho⟩
  frame := fun _ _ _ stand kept => ⟨stand.1.at fun o e => kept it (by simp) o e, tup_at stand.2 fun o e => kept l (by simp) o e⟩
  item := fun j s Q E hj stand hQ => by
    refine RZ.nextOf_tuple_item stand.1 stand.2 (x := its[j]) (by simp [hj]) fun h' it' same => ?_
    exact hQ _ h' s.toks (by simp [hj]) ⟨it', stand.2.extBut same.extBut apart⟩ same
  done := fun s Q E stand hE => RZ.nextOf_tuple_end clear stand.1 stand.2 (by simp) hE
section
variable {prog : Program} {w : World} {A : Around} {E : Value → Shared → Prop} {s : Shared} {z TI TO T L i1 i2 : Addr} {fp1 fp2 : List Addr} {n1 n2 j : Nat} {P1 P2 : Nat → Value → Prop} {St1 St2 : Nat → Heap → Prop} {b : Bool} {oT : Obj}
theorem zh_next {Q : Value → Shared → Prop} (S : ZipSep2 z TI TO i1 i2 fp1 fp2) (D1 : Draws prog w A i1 fp1 n1 P1 St1) (D2 : Draws prog w A i2 fp2 n2 P2 St2) (hz : IsZipHeld s.heap z TI TO T b) (hT : s.heap.get? T = some oT) (hTI : IsTupOf2 s.heap TI (.ref i1) (.ref i2)) (t1 : St1 j s.heap) (t2 : St2 j s.heap) (l1 : j < n1) (l2 : j < n2)
    (hQ : ∀ u v h' tk, P1 j u → P2 j v → IsZipHeld h' z TI TO T true → St1 (j + 1) h' → St2 (j + 1) h' → IsTupOf2 h' s.heap.objs.size u v → h'.objs.size = s.heap.objs.size + 1 → (∀ c o, c ≠ z → c ≠ i1 → c ≠ i2 → s.heap.get? c = some o → h'.get? c = some o) → Q (.ref s.heap.objs.size) { s with heap := h', toks := tk }) :
    wpAny (model prog w) A (Builtin.«zip.__next__» ⟨[.ref z], []⟩) (fun fin s' => ∃ v, fin = .done (.ret v) ∧ Q v s') E s := by
  obtain ⟨hp, g, d, tk0, os⟩ := s
  show wpAny _ _ (field (.ref z) 2 >>= _) _ _ _
  refine wpAny_bind (wpAny_field hz rfl (x := .bool false) rfl ?_)
  show wpAny _ _ (field (.ref z) 3 >>= _) _ _ _
  refine wpAny_bind (wpAny_field hz rfl (x := .ref TI) rfl ?_)
  refine wpAny_bind (wpAny_seqItems hTI rfl ?_)
  show wpAny _ _ (Builtin.SmallTypes.ownedTupleIsFree (.ref z) >>= _) _ _ _
  refine wpAny_bind (wpAny_tupleHeld_zip (s := ⟨hp, g, d, tk0, os⟩) hz hT fun k1 z1 c1 => ?_)
  replace c1 : Heap.SameBut z hp k1 := c1
  simp only [Bool.false_eq_true, if_false]
  refine wpAny_bind ?_
  rw [← Array.forIn_toList]
  simp only [List.forIn_cons, List.forIn_nil]
  refine wpAny_bind (wpAny_bind (wpAny_holding ?_))
  show wpAny _ _ (Builtin.SmallTypes.nextOf (.ref i1) >>= _) _ _ ⟨k1, g, d, tk0, os⟩
  refine wpAny_bind (D1.item j _ _ _ l1 (D1.over t1 c1 S.zf1) fun u k2 tk1 pu t1' c2 => wpAny_pure ?_)
  replace c2 : Heap.SameBut i1 k1 k2 := c2
  refine wpAny_pure ?_
  refine wpAny_bind (wpAny_bind (wpAny_holding ?_))
  show wpAny _ _ (Builtin.SmallTypes.nextOf (.ref i2) >>= _) _ _ ⟨k2, g, d, tk1, os⟩
  refine wpAny_bind (D2.item j _ _ _ l2 (D2.over (D2.over t2 c1 S.zf2) c2 S.sep1_2) fun v k3 tk2 pv t2' c3 => wpAny_pure ?_)
  replace c3 : Heap.SameBut i2 k2 k3 := c3
  refine wpAny_pure (wpAny_pure ?_)
  show wpAny _ _ (newTuple [u, v] >>= _) _ _ ⟨k3, g, d, tk2, os⟩
  refine wpAny_bind (wpAny_newTuple ?_)
  have size3 : k3.objs.size = hp.objs.size := by rw [c3.1, c2.1, c1.1]
  have z3 : IsZipHeld k3 z TI TO T true := c3.extBut _ _ S.zi2 (c2.extBut _ _ S.zi1 z1)
  have stay : ∀ c o, c ≠ z → c ≠ i1 → c ≠ i2 → hp.get? c = some o → k3.get? c = some o := fun c o a1 a2 a3 e => c3.extBut _ _ a3 (c2.extBut _ _ a2 (c1.extBut _ _ a1 e))
  refine wpAny_pure ⟨_, rfl, ?_⟩
  show Q (.ref k3.objs.size) _
  have at3 : IsTupOf2 (k3.push { cls := .type "tuple", data := .seq #[u, v] }) k3.objs.size u v := Heap.get?_push_size _ rfl
  have size4 : (k3.push { cls := .type "tuple", data := .seq #[u, v] }).objs.size = k3.objs.size + 1 := Heap.size_push ..
  rw [size3] at at3 size4 ⊢
  exact hQ u v _ tk2 pu pv (Heap.get?_push_of_some _ z3) (D1.frame _ _ _ (D1.over t1' c3 S.sep2_1) fun c _ o e => Heap.get?_push_of_some _ e) (D2.frame _ _ _ t2' fun c _ o e => Heap.get?_push_of_some _ e) at3 size4 fun c o a1 a2 a3 e => Heap.get?_push_of_some _ (stay c o a1 a2 a3 e)
theorem zh_stop {Q : Fin → Shared → Prop} (S : ZipSep2 z TI TO i1 i2 fp1 fp2) (D1 : Draws prog w A i1 fp1 n1 P1 St1) (D2 : Draws prog w A i2 fp2 n2 P2 St2) (hz : IsZipHeld s.heap z TI TO T b) (hT : s.heap.get? T = some oT) (hTI : IsTupOf2 s.heap TI (.ref i1) (.ref i2)) (t1 : St1 j s.heap) (t2 : St2 j s.heap) (l1 : j ≤ n1) (l2 : j ≤ n2) (over : j = n1 ∨ j = n2)
    (hE : ∀ h' tk e, (∀ c o, c ≠ z → c ≠ i1 → c ≠ i2 → s.heap.get? c = some o → h'.get? c = some o) → (∃ o, h'.get? e = some o ∧ o.cls = .type "StopIteration") → E (.ref e) { s with heap := h', toks := tk }) :
    wpAny (model prog w) A (Builtin.«zip.__next__» ⟨[.ref z], []⟩) Q E s := by
  obtain ⟨hp, g, d, tk0, os⟩ := s
  show wpAny _ _ (field (.ref z) 2 >>= _) _ _ _
  refine wpAny_bind (wpAny_field hz rfl (x := .bool false) rfl ?_)
  show wpAny _ _ (field (.ref z) 3 >>= _) _ _ _
  refine wpAny_bind (wpAny_field hz rfl (x := .ref TI) rfl ?_)
  refine wpAny_bind (wpAny_seqItems hTI rfl ?_)
  show wpAny _ _ (Builtin.SmallTypes.ownedTupleIsFree (.ref z) >>= _) _ _ _
  refine wpAny_bind (wpAny_tupleHeld_zip (s := ⟨hp, g, d, tk0, os⟩) hz hT fun k1 z1 c1 => ?_)
  replace c1 : Heap.SameBut z hp k1 := c1
  simp only [Bool.false_eq_true, if_false]
  refine wpAny_bind ?_
  rw [← Array.forIn_toList]
  simp only [List.forIn_cons, List.forIn_nil]
  refine wpAny_bind (wpAny_bind (wpAny_holding ?_))
  show wpAny _ _ (Builtin.SmallTypes.nextOf (.ref i1) >>= _) _ _ ⟨k1, g, d, tk0, os⟩
  by_cases c : j < n1
  · have e2 : j = n2 := by omega
    refine wpAny_bind (D1.item j _ _ _ c (D1.over t1 c1 S.zf1) fun u k2 tk1 pu t1' c2 => wpAny_pure ?_)
    replace c2 : Heap.SameBut i1 k1 k2 := c2
    refine wpAny_pure ?_
    refine wpAny_bind (wpAny_bind (wpAny_holding ?_))
    show wpAny _ _ (Builtin.SmallTypes.nextOf (.ref i2) >>= _) _ _ ⟨k2, g, d, tk1, os⟩
    refine wpAny_bind (D2.done ⟨k2, g, d, tk1, os⟩ _ _ (by rw [← e2]; exact D2.over (D2.over t2 c1 S.zf2) c2 S.sep1_2) fun q e hq he => ?_)
    exact hE q tk1 e (fun c o a1 a2 a3 x => hq c o a3 (c2.extBut _ _ a2 (c1.extBut _ _ a1 x))) he
  · have e1 : j = n1 := by omega
    refine wpAny_bind (D1.done ⟨k1, g, d, tk0, os⟩ _ _ (by rw [← e1]; exact D1.over t1 c1 S.zf1) fun q e hq he => ?_)
    exact hE q tk0 e (fun c o a1 a2 a3 x => hq c o a2 (c1.extBut _ _ a1 x)) he
/-- a zip whose tuples a list keeps -/
def ZSt (z TI TO i1 i2 L : Addr) (St1 St2 : Nat → Heap → Prop) (j : Nat) (h : Heap) : Prop := IsTupOf2 h TI (.ref i1) (.ref i2) ∧ St1 j h ∧ St2 j h ∧ ((IsZip h z TI TO .none ∧ ∃ a b, IsTupOf2 h TO a b) ∨ ∃ T f oT, IsZipHeld h z TI TO T f ∧ h.get? T = some oT ∧ T ≠ z ∧ T ≠ i1 ∧ T ≠ i2 ∧ T ≠ L)
theorem zst_type (st : ZSt z TI TO i1 i2 L St1 St2 j s.heap) : s.TypeIs (.ref z) "zip" := by
  rcases st.2.2.2 with ⟨hz, _⟩ | ⟨_, _, _, hz, _⟩
  · exact ⟨_, hz, rfl⟩
  · exact ⟨_, hz, rfl⟩
theorem zst_keep (D1 : Draws prog w A i1 fp1 n1 P1 St1) (D2 : Draws prog w A i2 fp2 n2 P2 St2) {h h' : Heap} (st : ZSt z TI TO i1 i2 L St1 St2 j h) (nz : z ≠ L) (nTI : TI ≠ L) (nTO : TO ≠ L) (nf1 : L ∉ fp1) (nf2 : L ∉ fp2) (k : ∀ c o, c ≠ L → h.get? c = some o → h'.get? c = some o) : ZSt z TI TO i1 i2 L St1 St2 j h' := by
  obtain ⟨a1, a2, a3, a4⟩ := st
  refine ⟨k _ _ nTI a1, D1.frame _ _ _ a2 fun c hc o e => k c o (fun q => nf1 (q ▸ hc)) e, D2.frame _ _ _ a3 fun c hc o e => k c o (fun q => nf2 (q ▸ hc)) e, ?_⟩
  rcases a4 with ⟨hz, a, b, hTO⟩ | ⟨T, f, oT, hz, hT, r1, r2, r3, r4⟩
  · exact .inl ⟨k _ _ nz hz, a, b, k _ _ nTO hTO⟩
  · exact .inr ⟨T, f, oT, k _ _ nz hz, k _ _ r4 hT, r1, r2, r3, r4⟩
theorem zst_item {Q : Option Value → Shared → Prop} (S : ZipSep2 z TI TO i1 i2 fp1 fp2) (D1 : Draws prog w A.in1 i1 fp1 n1 P1 St1) (D2 : Draws prog w A.in1 i2 fp2 n2 P2 St2) (st : ZSt z TI TO i1 i2 L St1 St2 j s.heap) (hL : L < s.heap.objs.size) (l1 : j < n1) (l2 : j < n2)
    (hQ : ∀ u v h' tk, P1 j u → P2 j v → ZSt z TI TO i1 i2 L St1 St2 (j + 1) h' → IsTupOf2 h' s.heap.objs.size u v → (∀ c o, c ≠ z → c ≠ TO → c ≠ i1 → c ≠ i2 → s.heap.get? c = some o → h'.get? c = some o) → Q (some (.ref s.heap.objs.size)) { s with heap := h', toks := tk }) :
    wpAny (model prog w) A (pyNext (.ref z)) Q E s := by
  have ty := zst_type st
  obtain ⟨hTI, t1, t2, a4⟩ := st
  have lt : ∀ {c o}, s.heap.get? c = some o → s.heap.objs.size ≠ c := fun e => Nat.ne_of_gt (Heap.lt_size e)
  have m1 : s.heap.objs.size ≠ i1 := by obtain ⟨_, e⟩ := D1.live _ _ t1; exact lt e
  have m2 : s.heap.objs.size ≠ i2 := by obtain ⟨_, e⟩ := D2.live _ _ t2; exact lt e
  rcases a4 with ⟨hz, a, b, hTO⟩ | ⟨T, f, oT, hz, hT, r1, r2, r3, r4⟩
  · refine wpAny_pyNext_zipD2_item S D1 D2 hz hTI hTO t1 t2 l1 l2 fun u v h' tk pu pv b1 b2 d1 d2 b5 b6 hk => ?_
    exact hQ u v h' tk pu pv ⟨hk _ _ S.TIz S.TITO S.TIi1 S.TIi2 hTI, d1, d2, .inr ⟨_, false, _, b1, b5, lt hz, m1, m2, Nat.ne_of_gt hL⟩⟩ b5 hk
  · unfold pyNext
    refine wpAny_bind (wpAny_attempt (wpAny_callSpecial?_slot (name := Str.ofString "__next__") ty F.slot_zip_next
      (wpAny_call_entry F.slot_zip_next ty F.entry_zip_next (zh_next S D1 D2 hz hT hTI t1 t2 l1 l2 fun u v h' tk pu pv b1 d1 d2 b5 b6 hk => wpAny_pure ?_) (F.args_zip_next_1 _))))
    exact hQ u v h' tk pu pv ⟨hk _ _ S.TIz S.TIi1 S.TIi2 hTI, d1, d2, .inr ⟨T, true, oT, b1, hk _ _ r1 r2 r3 hT, r1, r2, r3, r4⟩⟩ b5 fun c o q1 _ q3 q4 e => hk c o q1 q3 q4 e
theorem zst_done {Q : Option Value → Shared → Prop} (S : ZipSep2 z TI TO i1 i2 fp1 fp2) (D1 : Draws prog w A.in1 i1 fp1 n1 P1 St1) (D2 : Draws prog w A.in1 i2 fp2 n2 P2 St2) (st : ZSt z TI TO i1 i2 L St1 St2 j s.heap) (l1 : j ≤ n1) (l2 : j ≤ n2) (over : j = n1 ∨ j = n2)
    (hQ : ∀ h' tk, (∀ c o, c ≠ z → c ≠ TO → c ≠ i1 → c ≠ i2 → s.heap.get? c = some o → h'.get? c = some o) → Q none { s with heap := h', toks := tk }) : wpAny (model prog w) A (pyNext (.ref z)) Q E s := by
  have ty := zst_type st
  obtain ⟨hTI, t1, t2, a4⟩ := st
  rcases a4 with ⟨hz, a, b, hTO⟩ | ⟨T, f, oT, hz, hT, r1, r2, r3, r4⟩
  · exact wpAny_pyNext_zipD2_end S D1 D2 hz hTI hTO t1 t2 l1 l2 over hQ
  · unfold pyNext
    refine wpAny_bind (wpAny_attempt (wpAny_callSpecial?_slot (name := Str.ofString "__next__") ty F.slot_zip_next
      (wpAny_call_entry F.slot_zip_next ty F.entry_zip_next (zh_stop S D1 D2 hz hT hTI t1 t2 l1 l2 over fun h' tk e hk he => ?_) (F.args_zip_next_1 _))))
    obtain ⟨o, ho, hc⟩ := he
    refine wpAny_bind (wpAny_isInstance (T := "StopIteration") (b := true) ⟨o, ho, hc⟩ isSubtype_stop ?_)
    exact wpAny_pure (hQ _ _ fun c o q1 _ q3 q4 e => hk c o q1 q3 q4 e)
theorem zst_self {Q : Value → Shared → Prop} (st : ZSt z TI TO i1 i2 L St1 St2 j s.heap) (h : Q (.ref z) s) : wpAny (model prog w) A (pyIter (.ref z)) Q E s := by
  have ty := zst_type st
  refine wpAny_pyIter_slot ty F.slot_zip_iter (wpAny_call_entry F.slot_zip_iter ty F.entry_zip_iter ?_ (F.args_zip_iter_1 _))
  show wpAny _ _ (ret (.ref z)) _ _ s
  exact wpAny_pure ⟨_, rfl, "zip", _, ty, F.slot_zip_next.lookup, h⟩
end
/-- the addresses of the pairs given out so far -/
structure ZGo (P1 P2 : Nat → Value → Prop) (lo : Addr) (h : Heap) (as : List Addr) : Prop where
  up : as.Pairwise (· < ·)
  hi : ∀ a ∈ as, lo < a
  each : ∀ (k : Nat) (a : Addr), as[k]? = some a → ∃ u v, P1 k u ∧ P2 k v ∧ IsTupOf2 h a u v
end Rg
namespace Rg
open PySem PySem.Spec PyProof.Rows L2
theorem nolen_zp : typeLookup (.type "zip") "__len__" = pure none := by rw [typeLookup_type, builtinLookup_eq_fast]; kernel_rfl
theorem nohint_zp : typeLookup (.type "zip") "__length_hint__" = pure none := by rw [typeLookup_type, builtinLookup_eq_fast]; kernel_rfl
/-- all cells of the zip stand below L -/
structure ZLow (z TI TO L : Addr) (fp1 fp2 : List Addr) : Prop where
  z : z < L
  TI : TI < L
  TO : TO < L
  f1 : ∀ c ∈ fp1, c < L
  f2 : ∀ c ∈ fp2, c < L
section
variable {prog : Program} {w : World} {A : Around} {s : Shared} {R : Result → Shared → Prop} {z TI TO L i1 i2 : Addr} {fp1 fp2 : List Addr} {n1 n2 : Nat} {P1 P2 : Nat → Value → Prop} {St1 St2 : Nat → Heap → Prop}
theorem zl_keep (W : ZLow z TI TO L fp1 fp2) (D1 : Draws prog w A i1 fp1 n1 P1 St1) (D2 : Draws prog w A i2 fp2 n2 P2 St2) {j : Nat} {h h' : Heap} (st : ZSt z TI TO i1 i2 L St1 St2 j h) (k : ∀ c o, c ≠ L → h.get? c = some o → h'.get? c = some o) : ZSt z TI TO i1 i2 L St1 St2 j h' :=
  zst_keep D1 D2 st (Nat.ne_of_lt W.z) (Nat.ne_of_lt W.TI) (Nat.ne_of_lt W.TO) (fun q => Nat.lt_irrefl _ (W.f1 _ q)) (fun q => Nat.lt_irrefl _ (W.f2 _ q)) k
theorem zl_loop (S : ZipSep2 z TI TO i1 i2 fp1 fp2) (D1 : Draws prog w A.in1.in1 i1 fp1 n1 P1 St1) (D2 : Draws prog w A.in1.in1 i2 fp2 n2 P2 St2) (W : ZLow z TI TO L fp1 fp2) (hn : min n1 n2 ≤ sizeLine) (res : Value) {h0 : Heap}
    (hR : ∀ h' tk acc c as, (∀ b o, b ≠ L → b ≠ z → b ≠ TO → b ≠ i1 → b ≠ i2 → h0.get? b = some o → h'.get? b = some o) → h'.get? L = some { cls := .type "list", dict := none, data := .seq acc c, slots := #[] } → as.length = min n1 n2 → ZGo P1 P2 L h' as → acc.toList = as.map Value.ref → R (.ok (.ret res)) { s with heap := h', toks := tk }) :
    ∀ (m j : Nat) (h : Heap) (tk c : Nat) (acc : Array Value) (as : List Addr), min n1 n2 - j = m → j ≤ min n1 n2 → ZSt z TI TO i1 i2 L St1 St2 j h → (∀ b o, b ≠ L → b ≠ z → b ≠ TO → b ≠ i1 → b ≠ i2 → h0.get? b = some o → h.get? b = some o) →
      h.get? L = some { cls := .type "list", dict := none, data := .seq acc c, slots := #[] } → acc.toList = as.map Value.ref → as.length = j → ZGo P1 P2 L h as → codeAny (model prog w) A (.builtin "list.extend.loop" ⟨[.ref L, .ref z, res], []⟩) R { s with heap := h, toks := tk } := by
  have lz : L ≠ z := Nat.ne_of_gt W.z
  have lTO : L ≠ TO := Nat.ne_of_gt W.TO
  have li1 : L ≠ i1 := Nat.ne_of_gt (W.f1 _ S.mem1)
  have li2 : L ≠ i2 := Nat.ne_of_gt (W.f2 _ S.mem2)
  have off : ∀ {a : Addr}, L < a → a ≠ z ∧ a ≠ TO ∧ a ≠ i1 ∧ a ≠ i2 := fun {a} q => ⟨Nat.ne_of_gt (Nat.lt_trans W.z q), Nat.ne_of_gt (Nat.lt_trans W.TO q), Nat.ne_of_gt (Nat.lt_trans (W.f1 _ S.mem1) q), Nat.ne_of_gt (Nat.lt_trans (W.f2 _ S.mem2) q)⟩
  intro m
  induction m with
  | zero =>
    intro j h tk c acc as hm hj st keep hL full len G
    have le1 := Nat.min_le_left n1 n2
    have le2 := Nat.min_le_right n1 n2
    refine codeAny_builtin PySem.F.entry_extend_loop ?_
    rw [Around.under_plainId PySem.F.plain_extend_loop _]
    show wpAny _ A.in1 (pyNext (.ref z) >>= _) _ _ _
    refine wpAny_bind (zst_done (s := { s with heap := h, toks := tk }) (A := A.in1) S D1 D2 st (by omega) (by omega) (by omega) fun h' tk' ex => ?_)
    refine wpAny_pure (hR h' tk' acc c as (fun b o q0 q1 q2 q3 q4 e => ex b o q1 q2 q3 q4 (keep b o q0 q1 q2 q3 q4 e)) (ex L _ lz lTO li1 li2 hL) (by omega) ⟨G.up, G.hi, fun k a hk => ?_⟩ full)
    obtain ⟨u, v, pu, pv, e⟩ := G.each k a hk
    obtain ⟨o1, o2, o3, o4⟩ := off (G.hi a (List.mem_of_getElem? hk))
    exact ⟨u, v, pu, pv, ex a _ o1 o2 o3 o4 e⟩
  | succ m ih =>
    intro j h tk c acc as hm hj st keep hL full len G
    have le1 := Nat.min_le_left n1 n2
    have le2 := Nat.min_le_right n1 n2
    have size : acc.size = j := by rw [← Array.length_toList, full, List.length_map, len]
    have hLs : L < h.objs.size := Heap.lt_size hL
    refine codeAny_builtin PySem.F.entry_extend_loop ?_
    rw [Around.under_plainId PySem.F.plain_extend_loop _]
    show wpAny _ A.in1 (pyNext (.ref z) >>= _) _ _ _
    refine wpAny_bind (zst_item (s := { s with heap := h, toks := tk }) (A := A.in1) S D1 D2 st hLs (by omega) (by omega) fun u v h' tk' pu pv st' new ex => ?_)
    dsimp only at new ex ⊢
    have hL' := ex L _ lz lTO li1 li2 hL
    have up : ∀ b o, b ≠ L → h'.get? b = some o → (h'.update L (Obj.mapSeq (·.push (Value.ref h.objs.size)))).get? b = some o := fun b o hb e => (Heap.get?_update_other _ _ (Ne.symm hb)).trans e
    show wpAny _ A.in1 (updateSeq L (·.push (Value.ref h.objs.size)) >>= _) _ _ _
    refine wpAny_bind ?_
    refine wpAny_updateSeq hL' rfl (wpAny_pure ⟨plainId_quiet PySem.F.plain_extend_loop _, ih (j + 1) _ tk' _ (acc.push (Value.ref h.objs.size)) (as ++ [h.objs.size]) (by omega) (by omega) (zl_keep W D1 D2 st' up)
      (fun b o q0 q1 q2 q3 q4 e => up b o q0 (ex b o q1 q2 q3 q4 (keep b o q0 q1 q2 q3 q4 e))) (Heap.get?_update_self _ hL' rfl) (by rw [Array.toList_push, full, List.map_append]; rfl) (by rw [List.length_append, len]; rfl) ⟨?_, ?_, ?_⟩⟩) (by rw [size]; omega) (by show (acc.push (Value.ref h.objs.size)).size ≤ sizeLine + 1; rw [Array.size_push, size]; omega)
    · refine List.pairwise_append.mpr ⟨G.up, List.pairwise_singleton _ _, fun a ha b hb => ?_⟩
      rw [List.mem_singleton.mp hb]
      obtain ⟨k, hk⟩ := List.mem_iff_getElem?.mp ha
      obtain ⟨_, _, _, _, e⟩ := G.each k a hk
      exact Heap.lt_size e
    · intro a ha
      rcases List.mem_append.mp ha with ha | ha
      · exact G.hi a ha
      · rw [List.mem_singleton.mp ha]; exact hLs
    · intro k a hk
      rcases Nat.lt_trichotomy k as.length with q | q | q
      · rw [List.getElem?_append_left q] at hk
        obtain ⟨u', v', pu', pv', e⟩ := G.each k a hk
        have ha := G.hi a (List.mem_of_getElem? hk)
        obtain ⟨o1, o2, o3, o4⟩ := off ha
        exact ⟨u', v', pu', pv', up a _ (Nat.ne_of_gt ha) (ex a _ o1 o2 o3 o4 e)⟩
      · subst q
        have ha : h.objs.size = a := by simpa using hk
        subst ha
        rw [len]
        exact ⟨u, v, pu, pv, up _ _ (Nat.ne_of_gt hLs) new⟩
      · rw [List.getElem?_eq_none (by rw [List.length_append, List.length_singleton]; omega)] at hk
        cases hk
theorem zl_extend (S : ZipSep2 z TI TO i1 i2 fp1 fp2) (D1 : Draws prog w A.in1.in1 i1 fp1 n1 P1 St1) (D2 : Draws prog w A.in1.in1 i2 fp2 n2 P2 St2) (W : ZLow z TI TO L fp1 fp2) (hn : min n1 n2 ≤ sizeLine) (res : Value) (c0 : Nat) (st : ZSt z TI TO i1 i2 L St1 St2 0 s.heap) (hL : s.heap.get? L = some { cls := .type "list", data := .seq #[] c0 })
    (hR : ∀ h' tk acc c as, (∀ b o, b ≠ L → b ≠ z → b ≠ TO → b ≠ i1 → b ≠ i2 → s.heap.get? b = some o → h'.get? b = some o) → h'.get? L = some { cls := .type "list", dict := none, data := .seq acc c, slots := #[] } → as.length = min n1 n2 → ZGo P1 P2 L h' as → acc.toList = as.map Value.ref → R (.ok (.ret res)) { s with heap := h', toks := tk }) :
    wpAny (model prog w) A.in1 (Builtin.List.listExtendWith (.ref L) (.ref z) res)
      (fun fin s' => match fin with | .done f => R (.ok f) s' | .again c' => c'.quiet = true ∧ codeAny (model prog w) A c' R s') (fun e s' => R (.error e) s') s := by
  have ty := zst_type st
  have ne : L ≠ z := Nat.ne_of_gt W.z
  unfold Builtin.List.listExtendWith
  refine wpAny_bind (wpAny_typeOf (T := "zip") ty ?_)
  have q1 : Builtin.List.listSameRef (.ref L) (.ref z) = false := by simp [Builtin.List.listSameRef, ne]
  have q2 : (Value.type "zip" == Value.type "list") = false := by decide
  have q3 : (Value.type "zip" == Value.type "tuple") = false := by decide
  simp only [q1, q2, q3, Bool.or_false, Bool.false_eq_true, if_false]
  refine wpAny_bind (zst_self st ?_)
  refine wpAny_bind (wpAny_holding ?_)
  unfold Builtin.List.listLengthHint
  refine wpAny_bind (wpAny_specialOf ty nolen_zp ?_)
  show wpAny _ A.in1 (specialOf (Value.ref z) (Str.ofString "__length_hint__") >>= _) _ _ _
  refine wpAny_bind (wpAny_specialOf ty nohint_zp ?_)
  refine wpAny_pure ?_
  show wpAny _ A.in1 (rule "list.extend.makes-room" >>= fun _ => Builtin.List.listTouch (.ref L) >>= fun _ => again (.builtin "list.extend.loop" ⟨[.ref L, .ref z, res], []⟩)) _ _ _
  refine wpAny_bind (wpAny_rule ?_)
  refine wpAny_bind ?_
  show wpAny _ A.in1 (updateSeq L (·.push .none) >>= fun _ => updateSeq L (·.pop)) _ _ _
  refine wpAny_bind (wpAny_updateSeq hL rfl ?_)
  have hL2 := Heap.get?_update_self (Obj.mapSeq (·.push Value.none)) hL rfl
  refine wpAny_updateSeq (hz := by seq_fits) hL2 rfl ?_
  have hL3 := Heap.get?_update_self (Obj.mapSeq (·.pop)) hL2 rfl
  have oth : ∀ b o, b ≠ L → s.heap.get? b = some o → ((s.heap.update L (Obj.mapSeq (·.push Value.none))).update L (Obj.mapSeq (·.pop))).get? b = some o := fun b o hb e => (Heap.get?_update_other _ _ (Ne.symm hb)).trans ((Heap.get?_update_other _ _ (Ne.symm hb)).trans e)
  refine wpAny_pure ⟨plainId_quiet PySem.F.plain_extend_loop _, zl_loop (s := s) (h0 := s.heap) S D1 D2 W hn res hR _ 0 _ s.toks _ #[] [] rfl (Nat.zero_le _) (zl_keep W D1 D2 st oth) (fun b o q0 _ _ _ _ e => oth b o q0 e) hL3 rfl rfl ⟨List.Pairwise.nil, (fun _ q => nomatch q), fun k a q => by simp at q⟩⟩
theorem zl_call {E : Value → Shared → Prop} {Q : Value → Shared → Prop} (S : ZipSep2 z TI TO i1 i2 fp1 fp2) (D1 : Draws prog w A.in1.in1.in1 i1 fp1 n1 P1 St1) (D2 : Draws prog w A.in1.in1.in1 i2 fp2 n2 P2 St2) (W : ZLow z TI TO s.heap.objs.size fp1 fp2) (hn : min n1 n2 ≤ sizeLine) (st : ZSt z TI TO i1 i2 s.heap.objs.size St1 St2 0 s.heap)
    (hQ : ∀ h' tk acc c as, (∀ b o, b ≠ z → b ≠ TO → b ≠ i1 → b ≠ i2 → s.heap.get? b = some o → h'.get? b = some o) → h'.get? s.heap.objs.size = some { cls := .type "list", dict := none, data := .seq acc c, slots := #[] } → as.length = min n1 n2 → ZGo P1 P2 s.heap.objs.size h' as → acc.toList = as.map Value.ref → Q (.ref s.heap.objs.size) { s with heap := h', toks := tk }) :
    wpAny (model prog w) A (call (.type "list") [.ref z]) Q E s := by
  refine callType_codes (Q₁ := fun obj t => obj = .ref s.heap.objs.size ∧ t = { s with heap := s.heap.push { cls := .type "list", data := .seq #[] } }) PySem.F.called_list (PySem.F.typeCall_list_1 _) PySem.F.entry_list_init
    (code_list_new _ ⟨rfl, rfl⟩) fun obj t ht => ?_
  obtain ⟨rfl, rfl⟩ := ht
  have hL : (s.heap.push { cls := .type "list", data := .seq #[] }).get? s.heap.objs.size = some { cls := .type "list", data := .seq #[] } := Heap.get?_push_size _ rfl
  refine ⟨⟨_, hL, rfl⟩, PySem.F.args_list_init_2 _ _, ?_⟩
  show wpAny _ _ (do let old ← Builtin.List.listItems (.ref s.heap.objs.size); Builtin.List.listUpdate (.ref s.heap.objs.size) (fun _ => #[]); letGo old.toList.reverse; Builtin.List.listExtendWith (.ref s.heap.objs.size) (.ref z) .none) _ _ _
  refine wpAny_bind ?_
  unfold Builtin.List.listItems
  refine wpAny_bind (wpAny_seqItems hL rfl (wpAny_pure ?_))
  show wpAny _ _ (updateSeq s.heap.objs.size (fun _ => #[]) >>= fun _ => letGo (#[] : Array Value).toList.reverse >>= fun _ => Builtin.List.listExtendWith (.ref s.heap.objs.size) (.ref z) .none) _ _ _
  refine wpAny_bind (wpAny_updateSeq hL rfl ?_)
  have hL2 := Heap.get?_update_self (Obj.mapSeq (fun _ => (#[] : Array Value))) hL rfl
  have oth : ∀ b o, b ≠ s.heap.objs.size → s.heap.get? b = some o → ((s.heap.push { cls := .type "list", data := .seq #[] }).update s.heap.objs.size (Obj.mapSeq (fun _ => (#[] : Array Value)))).get? b = some o :=
    fun b o hb e => (Heap.get?_update_other _ _ (Ne.symm hb)).trans (Heap.get?_push_of_some _ e)
  refine wpAny_bind (wpAny_letGo ?_)
  refine zl_extend (A := A.in1) S D1 D2 W hn .none _ (zl_keep W D1 D2 st oth) hL2 fun h' tk acc c as hk hL' hl G hacc => ?_
  exact ⟨rfl, hQ h' tk acc c as (fun b o q1 q2 q3 q4 e => hk b o (Nat.ne_of_lt (Heap.lt_size e)) q1 q2 q3 q4 (oth b o (Nat.ne_of_lt (Heap.lt_size e)) e)) hL' hl G hacc⟩
end
end Rg
namespace Rg
open PySem PySem.Spec PyProof.Rows L2
/-! ### list(zip(x, y)), by the hand layer -/
/-- pairs tracked at their addresses -/
def putZ : Hp → List Addr → List (V × V) → Hp
  | H, a :: as, q :: qs => putZ (upd H a (.tup [q.1, q.2])) as qs
  | H, _, _ => H
theorem putZ_off {b : Addr} : ∀ (as : List Addr) (qs : List (V × V)) (H : Hp), b ∉ as → putZ H as qs b = H b
  | [], _, _, _ => rfl
  | _ :: _, [], _, _ => rfl
  | a :: as, q :: qs, H, h => by
    show putZ (upd H a (.tup [q.1, q.2])) as qs b = H b
    rw [putZ_off as qs _ (fun m => h (List.mem_cons_of_mem _ m)), upd_ne (fun m => h (by rw [m]; exact List.mem_cons_self))]
/-- where pairs stand -/
def PairsAt (H : Hp) : List Addr → List (V × V) → Prop := Paired fun (t : Addr) (q : V × V) => H t = some (.tup [q.1, q.2])
theorem putZ_at : ∀ (as : List Addr) (qs : List (V × V)) (H : Hp), as.length = qs.length → as.Nodup → PairsAt (putZ H as qs) as qs
  | [], [], _, _, _ => .nil
  | [], _ :: _, _, h, _ => by cases h
  | _ :: _, [], _, h, _ => by cases h
  | a :: as, q :: qs, H, h, hn => by
    have hn' := List.nodup_cons.mp hn
    refine .cons ?_ (putZ_at as qs (upd H a (.tup [q.1, q.2])) (Nat.succ.inj h) hn'.2)
    show putZ (upd H a (.tup [q.1, q.2])) as qs a = some (.tup [q.1, q.2])
    rw [putZ_off as qs _ hn'.1, upd_same]
theorem pairs_get {H : Hp} : ∀ {as : List Addr} {qs : List (V × V)}, PairsAt H as qs → ∀ {i : Nat} {a : Addr}, as[i]? = some a → ∃ q, qs[i]? = some q ∧ H a = some (.tup [q.1, q.2])
  | _, _, .nil, i, x, h => by cases h
  | _, _, .cons r t, 0, x, h => by
    cases h
    exact ⟨_, rfl, r⟩
  | _, _, .cons r t, i + 1, x, h => pairs_get t h
theorem pairs_mem {H : Hp} {as : List Addr} {qs : List (V × V)} (h : PairsAt H as qs) {a : Addr} (m : a ∈ as) : ∃ (i : Nat) (q : V × V), as[i]? = some a ∧ qs[i]? = some q ∧ H a = some (.tup [q.1, q.2]) := by
  obtain ⟨i, hi⟩ := List.mem_iff_getElem?.mp m
  obtain ⟨q, e1, e2⟩ := pairs_get h hi
  exact ⟨i, q, hi, e1, e2⟩
theorem refs_vals : ∀ as : List Addr, Vals (as.map V.ref) (as.map Value.ref)
  | [] => .nil
  | _ :: as => .cons rfl (refs_vals as)
theorem zip_get {α β : Type} : ∀ {xs : List α} {ys : List β} {i : Nat} {q : α × β}, (xs.zip ys)[i]? = some q → xs[i]? = some q.1 ∧ ys[i]? = some q.2
  | [], _, i, q, h => by simp at h
  | _ :: _, [], i, q, h => by simp at h
  | x :: xs, y :: ys, 0, q, h => by
    have e : (x, y) = q := by simpa using h
    subst e
    exact ⟨rfl, rfl⟩
  | x :: xs, y :: ys, i + 1, q, h => by
    have h' : (xs.zip ys)[i]? = some q := by simpa using h
    simpa using zip_get h'
theorem zip_laid {X : Cx} {pins : List (Addr × Obj)} {σ : L2.St} {H : Hp} {s : Shared} {h' : Heap} {tk : Nat} {xs ys : List V} {is js : List Value} {acc : Array Value} {c : Nat} {as : List Addr} {L : Addr} (I : Inv X pins σ H s) (hx : Vals xs is) (hy : Vals ys js) (hz : xs.length ≤ sizeLine) (above : s.heap.objs.size ≤ L)
    (keep : ∀ b o, s.heap.get? b = some o → h'.get? b = some o) (hL : h'.get? L = some { cls := .type "list", dict := none, data := .seq acc c, slots := #[] }) (len : as.length = min is.toArray.size js.toArray.size) (G : ZGo (fun i v => is.toArray[i]? = some v) (fun i v => js.toArray[i]? = some v) L h' as) (full : acc.toList = as.map Value.ref) :
    ∃ H' : Hp, Same H H' ∧ H L = none ∧ (∀ t ∈ as, H t = none) ∧ H' L = some (.lst (as.map V.ref)) ∧ PairsAt H' as (xs.zip ys) ∧ Inv X pins σ H' { s with heap := h', toks := tk } := by
  have l1 := hx.length
  have l2 := hy.length
  have lz : as.length = (xs.zip ys).length := by rw [List.length_zip, len]; simp only [List.size_toArray]; omega
  have nL : L ∉ as := fun m => Nat.lt_irrefl _ (G.hi _ m)
  have nd : as.Nodup := List.Pairwise.imp (fun {a b} (h : a < b) => Nat.ne_of_lt h) G.up
  have fresh : ∀ t ∈ as, H t = none := fun t m => I.hok.fresh (Nat.le_trans above (Nat.le_of_lt (G.hi t m)))
  have freshL : H L = none := I.hok.fresh above
  have at_ := putZ_at as (xs.zip ys) (upd H L (.lst (as.map V.ref))) lz nd
  have off : ∀ b, b ∉ as → b ≠ L → putZ (upd H L (.lst (as.map V.ref))) as (xs.zip ys) b = H b := fun b m n => by rw [putZ_off as _ _ m, upd_ne n]
  have low : ∀ b o, s.heap.get? b = some o → b ∉ as ∧ b ≠ L := fun b o e => ⟨fun m => absurd (Heap.lt_size e) (Nat.not_lt.mpr (Nat.le_trans above (Nat.le_of_lt (G.hi b m)))), Nat.ne_of_lt (Nat.lt_of_lt_of_le (Heap.lt_size e) above)⟩
  have kp : ∀ b u, H b = some u → (putZ (upd H L (.lst (as.map V.ref))) as (xs.zip ys)) b = some u := fun b u e => by
    rw [off b (fun m => by rw [fresh b m] at e; cases e) (fun m => by rw [m, freshL] at e; cases e)]
    exact e
  have eL : putZ (upd H L (.lst (as.map V.ref))) as (xs.zip ys) L = some (.lst (as.map V.ref)) := by rw [putZ_off as _ _ nL, upd_same]
  refine ⟨putZ (upd H L (.lst (as.map V.ref))) as (xs.zip ys), kp, freshL, fresh, eL, at_, ?_⟩
  refine I.call' (ch := []) rfl ⟨fun b o q _ _ _ => keep b o q, fun b o q _ _ _ => ⟨o.slots, keep b o q⟩, fun b o q n _ => ?_, fun b o q _ => ⟨o, keep b o q⟩, fun b us q => kp b _ q, fun b o u q => kp b _ q, fun b ps q => ⟨#[], by rw [kp b _ q]; simp⟩⟩ (fun b u q => ?_) I.bare fun b m => by simp at m
  · obtain ⟨m1, m2⟩ := low b o q
    rw [off b m1 m2]
    exact n
  · by_cases m : b ∈ as
    · obtain ⟨i, p, e1, e2, e3⟩ := pairs_mem at_ m
      rw [e3] at q
      cases q
      obtain ⟨x, y⟩ := p
      obtain ⟨f1, f2⟩ := zip_get e2
      obtain ⟨u, v, pu, pv, hT⟩ := G.each i b e1
      obtain ⟨u', hu, ru⟩ := hx.get f1
      obtain ⟨v', hv, rv⟩ := hy.get f2
      have eu : u' = u := by rw [List.getElem?_toArray, hu] at pu; exact Option.some.inj pu
      have ev : v' = v := by rw [List.getElem?_toArray, hv] at pv; exact Option.some.inj pv
      subst eu ev
      exact ⟨by show 2 ≤ sizeLine; decide, [u', v'], .cons ru (.cons rv .nil), ⟨_, hT, rfl, _, rfl⟩⟩
    · by_cases m2 : b = L
      · rw [m2] at q ⊢
        rw [eL] at q
        cases q
        refine ⟨by rw [List.length_map, lz, List.length_zip]; omega, acc.toList, c, by rw [full]; exact refs_vals as, ?_⟩
        rw [Array.toArray_toList]
        exact hL
      · rw [off b m m2] at q
        exact (I.hok b u q).stay (fun d v _ y => keep d v y) (fun d y => kp d _ y) fun d us y => kp d _ y
section
variable {X : Cx}
/-- two lists, or two tuples -/
def Seq2 (K : PySem.W.Frag) (H : Hp) (a b : Addr) (xs ys : List V) : Prop := (SqL K H a xs ∧ SqL K H b ys) ∨ (SqT K H a xs ∧ SqT K H b ys)
def tLZip (K : PySem.W.Frag) (ta : TA) : TE := fun σ H Q => ta σ H fun vs H1 => ∃ (a b : Addr) (xs ys : List V), vs = [.ref a, .ref b] ∧ Seq2 K H1 a b xs ys ∧
  ∀ (p : Addr) (ts : List Addr) (H' : Hp), Same H1 H' → H1 p = none → (∀ t ∈ ts, H1 t = none) → H' p = some (.lst (ts.map V.ref)) → PairsAt H' ts (xs.zip ys) → Q (.ref p) H'
theorem pe_listZip {e e2 : Expr} {ta : TA} {p p2 pos2 pos : Pos} (calm : X.calm = true) (gl : Gl X "list") (ml : X.mg "list" = none) (gz : Gl X "zip") (mz : X.mg "zip" = none) (ha : PA X [e, e2] ta)
    (st : starEach [.Call (.Name "zip" p2) [e, e2] [] pos2] X.env = (false, eval (.Call (.Name "zip" p2) [e, e2] [] pos2) X.env) :: starEach [] X.env := by rfl)
    (st2 : starEach [e, e2] X.env = (false, eval e X.env) :: starEach [e2] X.env := by rfl) (pl2 : (backTo pos2 (starEach [e2] X.env)).any (·.1) = false := by rfl) :
    PE X (.Call (.Name "list" p) [.Call (.Name "zip" p2) [e, e2] [] pos2] [] pos) (tLZip X.K ta) := by
  refine ⟨fun pins s σ H Q I h => ?_⟩
  refine wpAny_Call_Name_kw (ld_blt I gl ml (by decide +kernel : bootBuiltins "list" = some (.type "list")) ?_)
  refine PyProof.Rows.callWith_type1 ?_ st rfl
  rw [st]
  show wpAny _ _ (spliced ((false, eval (.Call (.Name "zip" p2) [e, e2] [] pos2) X.env) :: backTo pos (starEach [] X.env))) _ _ s
  refine Calls.spliced_cons ?_
  refine wpAny_Call_Name_kw (ld_blt I gz mz PyProof.Rows.boot_zip ?_)
  refine PyProof.Rows.callWith_type1 (thn (ha.run pos2 pins s σ H _ I h) fun us s1 ⟨vs, H1, I1, r1, q1⟩ => ?_) st2 pl2
  obtain ⟨a, b, xs, ys, ex, sq, q⟩ := q1
  subst ex
  cases r1 with
  | cons r rr =>
    cases rr with
    | cons r' rr =>
      cases rr
      cases r
      cases r'
      have clear := I1.ok.hd calm
      have fin : ∀ {is js : List Value} {St1 St2 : Nat → Heap → Prop} {h' : Heap}, Vals xs is → Vals ys js → xs.length ≤ sizeLine → ys.length ≤ sizeLine → a < s1.heap.objs.size → b < s1.heap.objs.size →
          Draws X.prog X.w X.A.in1.in1.in1 s1.heap.objs.size [s1.heap.objs.size, a] is.toArray.size (fun i v => is.toArray[i]? = some v) St1 → Draws X.prog X.w X.A.in1.in1.in1 (s1.heap.objs.size + 1) [s1.heap.objs.size + 1, b] js.toArray.size (fun i v => js.toArray[i]? = some v) St2 →
          IsZip h' (s1.heap.objs.size + 4) (s1.heap.objs.size + 2) (s1.heap.objs.size + 3) .none → IsPair h' (s1.heap.objs.size + 2) (.ref s1.heap.objs.size) (.ref (s1.heap.objs.size + 1)) → IsPair h' (s1.heap.objs.size + 3) .none .none → St1 0 h' → St2 0 h' → h'.objs.size = s1.heap.objs.size + 5 →
          (∀ c o, s1.heap.get? c = some o → h'.get? c = some o) → wpAny (model X.prog X.w) X.A (spliced (backTo pos (starEach [] X.env))) (fun vs s₁ => wpAny (model X.prog X.w) X.A (call (.type "list") (.ref (s1.heap.objs.size + 4) :: vs)) (EP X pins σ Q) X.xe s₁) X.xe { s1 with heap := h' } := by
        intro is js St1 St2 h' rx ry zx zy la lb D1 D2 hz hTI hTO t1 t2 size keep
        refine Calls.spliced_nil ?_
        have S := zip_sep2 (N := s1.heap.objs.size) (fp1 := [a]) (fp2 := [b]) (fun c m => by rw [List.mem_singleton.mp m]; exact la) (fun c m => by rw [List.mem_singleton.mp m]; exact lb)
        have lx := rx.length
        have W : ZLow (s1.heap.objs.size + 4) (s1.heap.objs.size + 2) (s1.heap.objs.size + 3) h'.objs.size [s1.heap.objs.size, a] [s1.heap.objs.size + 1, b] := by
          rw [size]
          refine ⟨show (s1.heap.objs.size + 4 : Nat) < s1.heap.objs.size + 5 by omega, show (s1.heap.objs.size + 2 : Nat) < s1.heap.objs.size + 5 by omega, show (s1.heap.objs.size + 3 : Nat) < s1.heap.objs.size + 5 by omega, fun c m => ?_, fun c m => ?_⟩
          · rcases List.mem_cons.mp m with e | m
            · rw [e]; exact show (s1.heap.objs.size : Nat) < s1.heap.objs.size + 5 by omega
            · rw [List.mem_singleton.mp m]; exact Nat.lt_of_lt_of_le la (Nat.le_add_right _ _)
          · rcases List.mem_cons.mp m with e | m
            · rw [e]; exact show (s1.heap.objs.size + 1 : Nat) < s1.heap.objs.size + 5 by omega
            · rw [List.mem_singleton.mp m]; exact Nat.lt_of_lt_of_le lb (Nat.le_add_right _ _)
        refine zl_call (s := { s1 with heap := h' }) S D1 D2 W (Nat.le_trans (Nat.min_le_left _ _) (by simp only [List.size_toArray]; omega)) ⟨hTI, t1, t2, .inl ⟨hz, _, _, hTO⟩⟩ fun h2 tk acc c as hk hL len G full => ?_
        have keep2 : ∀ b o, s1.heap.get? b = some o → h2.get? b = some o := fun d o x => by
          have l := Heap.lt_size x
          exact hk d o (Nat.ne_of_lt (Nat.lt_of_lt_of_le l (Nat.le_add_right _ _))) (Nat.ne_of_lt (Nat.lt_of_lt_of_le l (Nat.le_add_right _ _))) (Nat.ne_of_lt l) (Nat.ne_of_lt (Nat.lt_of_lt_of_le l (Nat.le_add_right _ _))) (keep d o x)
        obtain ⟨H', k1, k2, k3, k4, k5, J⟩ := zip_laid (tk := tk) I1 rx ry zx (by show s1.heap.objs.size ≤ h'.objs.size; rw [size]; exact Nat.le_add_right _ _) keep2 hL len G full
        exact ⟨.ref _, H', J, rfl, q _ as H' k1 k2 k3 k4 k5⟩
      rcases sq with ⟨hx, hy⟩ | ⟨hx, hy⟩
      · obtain ⟨is, rx, p1, zx⟩ := I1.list hx
        obtain ⟨js, ry, p2, zy⟩ := I1.list hy
        have d1 : Draws X.prog X.w X.A.in1.in1.in1 s1.heap.objs.size [s1.heap.objs.size, a] is.toArray.size (fun i v => is.toArray[i]? = some v) (fun j h => h.IsListIter s1.heap.objs.size a j ∧ h.IsList a is.toArray) := Draws.list (A := X.A.in1.in1.in1) clear _ a (Nat.ne_of_lt p1.lt) _
        have d2 : Draws X.prog X.w X.A.in1.in1.in1 (s1.heap.objs.size + 1) [s1.heap.objs.size + 1, b] js.toArray.size (fun i v => js.toArray[i]? = some v) (fun j h => h.IsListIter (s1.heap.objs.size + 1) b j ∧ h.IsList b js.toArray) := Draws.list (A := X.A.in1.in1.in1) clear _ b (Nat.ne_of_lt (Nat.lt_succ_of_lt p2.lt)) _
        refine call_zip_2 p1.isList p2.isList fun h' hz hTI hTO h1 h2 size keep => fin rx ry zx zy p1.lt p2.lt d1 d2 hz hTI hTO ⟨h1, p1.isList.at fun o e => keep _ o e⟩ ⟨h2, p2.isList.at fun o e => keep _ o e⟩ size keep
      · obtain ⟨is, rx, p1, zx⟩ := I1.tuple hx
        obtain ⟨js, ry, p2, zy⟩ := I1.tuple hy
        have la : a < s1.heap.objs.size := by obtain ⟨o1, ho1, _⟩ := id p1; exact Heap.lt_size ho1
        have lb : b < s1.heap.objs.size := by obtain ⟨o1, ho1, _⟩ := id p2; exact Heap.lt_size ho1
        have g1 : s1.heap.IsTuple a is.toArray := p1
        have g2 : s1.heap.IsTuple b js.toArray := p2
        have d1 : Draws X.prog X.w X.A.in1.in1.in1 s1.heap.objs.size [s1.heap.objs.size, a] is.toArray.size (fun i v => is.toArray[i]? = some v) (fun j h => h.IsTupleIter s1.heap.objs.size a j ∧ h.IsTuple a is.toArray) := draws_tup (A := X.A.in1.in1.in1) clear _ a (Nat.ne_of_lt la) _
        have d2 : Draws X.prog X.w X.A.in1.in1.in1 (s1.heap.objs.size + 1) [s1.heap.objs.size + 1, b] js.toArray.size (fun i v => js.toArray[i]? = some v) (fun j h => h.IsTupleIter (s1.heap.objs.size + 1) b j ∧ h.IsTuple b js.toArray) := draws_tup (A := X.A.in1.in1.in1) clear _ b (Nat.ne_of_lt (Nat.lt_succ_of_lt lb)) _
        refine RZ.call_zipT g1 g2 fun h' hz hTI hTO h1 h2 size keep => fin rx ry zx zy la lb d1 d2 hz hTI hTO ⟨h1, tup_at g1 fun o e => keep _ o e⟩ ⟨h2, tup_at g2 fun o e => keep _ o e⟩ size keep
/-! ### for .. in (x if c else y) -/
def iIf (tA : TT) (wa wb : TI) : TI := fun σ H R => tA σ H fun d H1 => if d = true then wa σ H1 R else wb σ H1 R
theorem pi_ifExp {c a b tg : Expr} {pos : Pos} {tA : TT} {wa wb : TI} (hc : PT X c tA) (ha : PI X tg a wa) (hb : PI X tg b wb) : PI X tg (.IfExp c a b pos) (iIf tA wa wb) := by
  refine ⟨fun pins s σ H R I h => ?_⟩
  refine wpAny_IfExp (thn (hc.run pins s σ H _ I h) fun d s1 ⟨H1, I1, q1⟩ => ?_)
  cases d with
  | true => exact ha.run pins s1 σ H1 R I1 q1
  | false => exact hb.run pins s1 σ H1 R I1 q1
/-! ### x not in a tuple of data -/
def rNotInDT (K : PySem.W.Frag) : R2 := fun x y Hh Qq => ∃ dx dxs, Dp K Hh x dx ∧ Dp K Hh y (.tuple dxs) ∧ SeqAt.shaped dx = true ∧ SeqAt.shaped (.tuple dxs) = true ∧ Qq (.bl (!dxs.any fun z => PyData.eqv z dx)) Hh
theorem op_notInDT (hu : X.A.units + 65 < cLine) : OpR X (compareOp .NotIn) (rNotInDT X.K) := by
  intro pns s σs Hh x y v u Qq Iv rlx rly h
  obtain ⟨dx, dxs, hdx, hdy, sx, sy, qq⟩ := h
  obtain ⟨as, rd1⟩ := Dp.reads Iv dx x v hdx rlx
  obtain ⟨bs, rd2⟩ := Dp.reads Iv (.tuple dxs) y u hdy rly
  exact SeqAt.notIn_tuple_reads rd2 rd1 (SeqAt.canLay_of_shaped sy) (SeqAt.canLay_of_shaped sx) (room_in_shaped sx hu) ⟨.bl _, Hh, Iv, rfl, qq⟩
end
end Rg
/-! repr of data, in defs that are called while no repr is under way -/
namespace Rg
open PySem PySem.Spec PyProof.Rows L2
/-- a def that is called where no guard is under way -/
structure FnG (Pr : Program) (wo : World) (Kf : PySem.W.Frag) (mgl : Str → Option Value) (bas : Heap) (Cx1 : CXT) (lev : Nat) (fa : Addr) (fdat : FuncData) (pars : List Str) (prom : Sp) : Prop where
  len : ∀ vvs Hq Qq Ee, prom vvs Hq Qq Ee → vvs.length = pars.length
  run : ∀ (A : Around) (outer : List Env) (s : Shared) (Hq : Hp) (args : Args) (uus : List Value) (vvs : List V) (Qq : VK) (Ee : XK), A.guards = some [] → Room lev A → Env0 Pr wo Kf mgl bas A outer s Hq → BindsTo s fdat args (pars.zip uus) → Vals vvs uus → prom vvs Hq Qq Ee →
    codeAny (model Pr wo) A (.call (.ref fa) args) (CR Cx1 outer Pr wo Hq s Qq Ee) s
theorem FnG.of {Pr : Program} {wo : World} {Kf : PySem.W.Frag} {mgl : Str → Option Value} {bas : Heap} {Cx1 : CXT} {lev : Nat} {fa : Addr} {fdat : FuncData} {pars : List Str} {prom : Sp} (F : FnOk Pr wo Kf mgl bas Cx1 lev fa fdat pars prom) : FnG Pr wo Kf mgl bas Cx1 lev fa fdat pars prom :=
  ⟨F.len, fun A outer s H args us vs Q E _ hroom en0 hbi rvs h => F.run A outer s H args us vs Q E hroom en0 hbi rvs h⟩
theorem fn_ofG {Cx1 : CXT} {Pr : Program} {wo : World} {Kf : PySem.W.Frag} {mgl : Str → Option Value} {bas : Heap} {lev : Nat} {fa : Addr} {nam qu : Str} {pms : Arguments} {bod : List Stmt} {sco : Scope} {dV kV doc pmv cdv ct oc : Value} {an od : Option Addr}
    {osl : Array (Option Value)} {Nm1 pars : List Str} {prom : Sp} (lku : Kf.lookup fa = some ⟨oc, od, .func (PySem.W.fnOf nam qu pms bod sco dV kV doc pmv an cdv ct), osl⟩) (hcode : PySem.W.codeIn Kf cdv qu = true) (Sc : FnScope Nm1 pars sco)
    (len : ∀ vvs Hq Qq Ee, prom vvs Hq Qq Ee → vvs.length = pars.length)
    (hbody : ∀ (A : Around) (outer : List Env) (s : Shared) (Hq : Hp) (vvs : List V) (Qq : VK) (Ee : XK), A.guards = some [] → Room lev (A.deeper (envOfC qu sco s.heap.objs.size fa cdv)) → prom vvs Hq Qq Ee →
      ∃ t, PSs (cxOf Cx1 Pr wo Kf mgl bas Nm1 qu sco fa cdv A outer s Hq Ee) bod t ∧ t { nx := fun _ HB => Qq .non HB, rt := Qq } (start Nm1 vvs) Hq) :
    FnG Pr wo Kf mgl bas Cx1 (lev + 1) fa (PySem.W.fnOf nam qu pms bod sco dV kV doc pmv an cdv ct) pars prom := by
  refine ⟨len, fun A outer s H args uus vvs Q E gua hroom en0 hbi rvs hpr => ?_⟩
  have hlen := len _ _ _ _ hpr
  have KIn : Kf.In s.heap := en0.mod.kin.keeps fun b o e => (en0.bs b o e).1
  have lims : s.heap.NoLimit := en0.mod.nolimit.keeps fun b o e => (en0.bs b o e).1
  have kinds : ∀ yy ∈ pars.zip uus, sco.names.lookup yy.1 = some .local ∨ (sco.names.lookup yy.1 = some .cell ∧ ((cellsFrom (s.heap.objs.size + 1) sco.names []).lookup yy.1).isSome = true) := fun ⟨nn, vv⟩ hy => by
    rcases Sc.par nn (List.of_mem_zip hy).1 with qq | qq
    · exact .inl qq
    · exact .inr ⟨qq, PySem.W.cellsFrom_some _ _ _ (.inl qq)⟩
  refine codeAny_call_function hroom.depth (KIn _ _ lku) rfl Sc.co Sc.gen rfl (PySem.W.codeRec_of KIn hcode) (hbi _ _ _ _ ?_)
  refine wpAny_newFunctionEnv_cells Sc.kind kinds fun env hen sB xc => ?_
  subst hen
  refine ⟨lims.keeps xc.toInCall.keep, codeAny_func ?_⟩
  obtain ⟨t, hpss, hend⟩ := hbody A outer s H vvs Q E gua (hroom.deeper _) hpr
  have Iv : Inv (cxOf Cx1 Pr wo Kf mgl bas Nm1 qu sco fa cdv A outer s H E) [] (start Nm1 vvs) H sB := inv_start Sc hroom.hd en0 hlen rvs xc
  refine wpAny_mono (hpss.run [] sB (start Nm1 vvs) H _ Iv hend) (fun flw sC hsB => ?_) fun e sC hsB => hsB
  have fine : ∀ {σB : L2.St} {HB : Hp} {vv : V} {uu : Value}, Inv (cxOf Cx1 Pr wo Kf mgl bas Nm1 qu sco fa cdv A outer s H E) [] σB HB sC → RelV vv uu → Q vv HB → CE outer Pr wo H s Q uu sC :=
    fun {σB HB vv uu} Jv rvu qq => ⟨vv, HB, Jv.os, Jv.bare, Jv.base, Jv.hok, rvu, qq⟩
  cases flw with
  | ret uu =>
    obtain ⟨vv, σB, HB, Jv, rvu, qq⟩ := hsB
    exact fine Jv rvu qq
  | next =>
    obtain ⟨σB, HB, Jv, qq⟩ := hsB
    exact fine (vv := V.non) (uu := Value.none) Jv rfl qq
  | brk =>
    obtain ⟨_, _, _, qq⟩ := hsB
    exact False.elim qq
  | cont =>
    obtain ⟨_, _, _, qq⟩ := hsB
    exact False.elim qq
/-- such a def by its name -/
structure DefAtG (Pr : Program) (wo : World) (Kf : PySem.W.Frag) (mgl : Str → Option Value) (bas : Heap) (Cx1 : CXT) (lev : Nat) (x : Str) (pars : List Str) (prom : Sp) (fa : Addr) (fdat : FuncData) : Prop where
  ok : FnG Pr wo Kf mgl bas Cx1 lev fa fdat pars prom
  g : mgl x = some (.ref fa)
  kp : PySem.W.keepIn Kf (.ref fa) = true
  b : Binds Kf fdat pars []
section
variable {X : Cx} {Cx1 : CXT} {lev : Nat} {fa : Addr} {fdat : FuncData} {pars : List Str} {prom : Sp} {dvs : List V} {dds : List Value} {Ee : XK} {x : Str} {po pos : Pos} {ex : Expr} {exs : List Expr} {tas : TA}
theorem run_fnG {pns : List (Addr × Obj)} {σs : L2.St} {Hh : Hp} {sh : Shared} {Qq : VK} {uus : List Value} {vvs : List V} (F : FnG X.prog X.w X.K X.mg X.base Cx1 lev fa fdat pars prom) (gX : X.A.guards = some []) (hroom : Room lev X.A) (hbi : Binds X.K fdat pars dds) (hds : Vals dvs dds) (hpas : Passes Cx1 X Ee)
    (Iv : Inv X pns σs Hh sh) (rvs : Vals vvs uus) (hpr : prom (vvs ++ dvs) Hh Qq Ee) : wpAny (model X.prog X.w) X.A (call (.ref fa) uus) (EP X pns σs Qq) X.xe sh := by
  have rall : Vals (vvs ++ dvs) (uus ++ dds) := rvs.append hds
  have hlen : (uus ++ dds).length = pars.length := by rw [← rall.length]; exact F.len _ _ _ _ hpr
  refine wpAny_call (codeAny_mono (F.run X.A X.stack sh Hh ⟨uus, []⟩ (uus ++ dds) (vvs ++ dvs) Qq Ee gX hroom Iv.env0 (hbi sh uus Iv.kIn hlen) rall hpr) fun res sC hsB => ?_)
  cases res with
  | error er => exact hpas pns σs Hh sh er sC Iv hsB
  | ok flw =>
    cases flw with
    | ret uu => exact Iv.after hsB
    | next => exact False.elim hsB
    | brk => exact False.elim hsB
    | cont => exact False.elim hsB
theorem pe_callG (F : FnG X.prog X.w X.K X.mg X.base Cx1 lev fa fdat pars prom) (gX : X.A.guards = some []) (hroom : Room lev X.A) (hgl : Gl X x) (hmg : X.mg x = some (.ref fa)) (hkp : PySem.W.keepIn X.K (.ref fa) = true) (hbi : Binds X.K fdat pars dds) (hds : Vals dvs dds) (hpas : Passes Cx1 X Ee)
    (hpa : PA X (ex :: exs) tas) (hdb : (x == ("__debug__" : Str)) = false := by decide) (hst : starEach (ex :: exs) X.env = (false, eval ex X.env) :: starEach exs X.env := by rfl) (hpl : (backTo pos (starEach exs X.env)).any (·.1) = false := by rfl) :
    PE X (.Call (.Name x po) (ex :: exs) [] pos) (tCall prom dvs Ee tas) := by
  refine ⟨fun pns sh σs Hh Qq Iv h => ?_⟩
  refine wpAny_Call_Name_kw (ld_glob Iv hgl hmg ?_ hdb)
  refine PySem.W.callWith_K (h₀ := X.base) Iv.ok.mod.kin hkp (thn (hpa.run pos pns sh σs Hh _ Iv h) fun uus s2 ⟨vvs, H2, I2, rvs, qq⟩ => ⟨I2.kIn, ?_⟩) hst hpl
  exact run_fnG F gX hroom hbi hds hpas I2 rvs qq
end
/-- repr of data, and of None -/
def rRepr (K : PySem.W.Frag) : List V → Hp → VK → Prop := fun xs Hh Qq => ∃ v : V, xs = [v] ∧ ((∃ (a : Addr) (d : PyData), v = .ref a ∧ Dp K Hh v d ∧ d.showable = true ∧ d.hasDict = false ∧ d.depth ≤ 60 ∧ d.shown.length ≤ sizeLine ∧ Qq (.str d.shown) Hh) ∨ (v = .non ∧ Qq (.str "None") Hh))
theorem cr_repr {X : Cx} (gX : X.A.guards = some []) (hu : X.A.units + 65 < cLine) : CallR X (.builtin "repr") (rRepr X.K) := by
  intro pns sh σs Hh xs us Qq Iv rr ⟨v, ex, h⟩
  subst ex
  obtain ⟨u, eu, ru⟩ := vals1 rr
  subst eu
  rcases h with ⟨a, d, ev, hd, sw, nd, dp, sz, q⟩ | ⟨ev, q⟩
  · subst ev
    obtain ⟨as, rd⟩ := Dp.reads Iv d (.ref a) u hd ru
    obtain rfl : u = Value.ref a := ru
    exact PySem.repr_of_reads' rd sw (fun z => by rw [nd] at z; cases z) gX (by omega) (fun _ _ z => z) (fun h' u2 tk kp => ⟨.str d.shown, Hh, Iv.kept (t' := tk) kp, ⟨_, rfl⟩, q⟩) sz
  · subst ev
    obtain rfl : u = Value.none := ru
    exact PySem.P.repr_of_none ⟨.str "None", Hh, Iv.tok _, ⟨_, rfl⟩, q⟩
end Rg
namespace LamX
open PySem PySem.Spec PyProof.Rows L2 Rg
theorem law_callG {Pr : Program} {wo : World} {Kf : PySem.W.Frag} {mgl mbl : Str → Option Value} {Cx1 : CXT} {lev : Nat} {fl ad : Addr} {tbs : List (Addr × Addr)} {fdat : FuncData} {xn : Str} {prom : Sp} {s₁ : Shared} {vvs : List Value} {nns : List Int}
    (KIn : Kf.In s₁.heap) (nsG : s₁.heap.Ns mainGlobals mgl) (nsB : s₁.heap.Ns builtinsNs mbl) (boo : ∀ xn : Str, xn ≠ "__name__" → mbl xn = bootBuiltins xn) (lims : s₁.heap.NoLimit) (gens0 : s₁.gens = #[])
    (tabT : ∀ pr ∈ tbs, s₁.heap.get? pr.2 = some { cls := .none, data := .fields #[] }) (tabN : ∀ pr ∈ tbs, Kf.lookup pr.2 = none) (tabC : ∀ pr ∈ tbs, PySem.W.CodeHd s₁.heap pr.1 pr.2)
    (bmod : ∃ (bm : Addr) (obm : Obj), mgl "__builtins__" = some (.ref bm) ∧ bm ≠ builtinsNs ∧ s₁.heap.get? bm = some obm ∧ obm.cls = .type "module" ∧ obm.dict = some builtinsNs ∧ obm.data = .plain)
    (adAt : s₁.heap.get? ad = some { cls := .type "list", data := .seq vvs.toArray }) (intsA : IntsAre vvs nns) (lenS : nns.length ≤ sizeLine) (hroom : Room lev callerA)
    (Fl : ∀ base : Heap, Kf.In base → base.Ns mainGlobals mgl → (∀ pr ∈ tbs, TabB base mgl pr.1 pr.2) → FnG Pr wo Kf mgl base Cx1 lev fl fdat [xn] prom) (bindL : ∀ (s : Shared) (uv : Value), BindsTo s fdat ⟨[uv], []⟩ [(xn, uv)])
    (hprom : ∀ Hq : Hp, (∀ pr ∈ tbs, Hq pr.2 = some (.tbl #[])) → SqL Kf Hq ad (nns.map V.int) → prom [.ref ad] Hq (fun vl _ => vl = .bl true) fun _ _ _ => False)
    (noEx : ∀ Hq ev sE, Cx1 [] Hq s₁ (fun _ _ _ => False) ev sE → False) :
    codeAny (model Pr wo) callerA (.call (.ref fl) ⟨[.ref ad], []⟩) (fun r sE => r = .ok (.ret (.bool true)) ∧ OldK s₁.heap sE.heap ∧ sE.os = s₁.os ∧ AllBare sE.gens) s₁ := by
  have rvv := vals_ints intsA
  have lvv := intsA.length
  have isTb : ∀ bd : Addr, bd ∈ tbs.map (·.2) → s₁.heap.get? bd = some { cls := .none, data := .fields #[] } := fun bd nsB => by
    obtain ⟨pr, hp, ev⟩ := List.mem_map.mp nsB
    rw [← ev]
    exact tabT pr hp
  have adT : ad ∉ tbs.map (·.2) := fun zz => by
    have qe := isTb ad zz
    rw [adAt] at qe
    have z' : Data.seq vvs.toArray _ = Data.fields #[] := congrArg Obj.data (Option.some.inj qe)
    cases z'
  have memTb : ∀ pr ∈ tbs, pr.2 ∈ tbs.map (·.2) := fun pr hp => List.mem_map.mpr ⟨pr, hp, rfl⟩
  have kern : ∀ Hq : Hp, (∀ pr ∈ tbs, Hq pr.2 = some (.tbl #[])) → (∀ bd, Hq bd = none ∨ bd ∈ tbs.map (·.2) ∨ ∃ oo xs, Hq bd = some (.frz oo (.lst xs))) → SqL Kf Hq ad (nns.map V.int) → HOk Pr wo Hq s₁.heap → (∀ bd, Hq bd ≠ none → bd = ad ∨ bd ∈ tbs.map (·.2)) → (Hq ad ≠ none → Kf.lookup ad = none) →
      codeAny (model Pr wo) callerA (.call (.ref fl) ⟨[.ref ad], []⟩) (fun r sE => r = .ok (.ret (.bool true)) ∧ OldK s₁.heap sE.heap ∧ sE.os = s₁.os ∧ AllBare sE.gens) s₁ := by
    intro Hq tabH onlyH sqH okH admH lkH
    have basOf : ∀ {bd : Addr} {oo : Obj}, s₁.heap.get? bd = some oo → Hq bd = none → (hidT s₁.heap Hq).get? bd = some oo := fun ev n => hidT_get ev n
    have noDt : ∀ {bd : Addr} {oo : Obj}, s₁.heap.get? bd = some oo → (∀ vvs n, oo.data ≠ .seq vvs n) → oo.data ≠ .fields #[] → Hq bd = none := fun {bd oo} ev h1 h2 => by
      cases qe : Hq bd with
      | none => rfl
      | some uv =>
        rcases admH bd (by rw [qe]; simp) with e' | e'
        · rw [e', adAt] at ev
          cases ev
          exact (h1 _ _ rfl).elim
        · rw [isTb bd e'] at ev
          cases ev
          exact (h2 rfl).elim
    have noAd : ∀ {bd : Addr} {oo : Obj} {es : Array DictEntry} {ep : Nat}, s₁.heap.get? bd = some oo → oo.data = .dict es ep → Hq bd = none := fun {bd oo es ep} ev d => by
      refine noDt ev (fun vvs n zz => ?_) fun zz => ?_
      · rw [d] at zz
        cases zz
      · rw [d] at zz
        cases zz
    have nsKp : ∀ {bd : Addr} {m : Str → Option Value}, s₁.heap.Ns bd m → (hidT s₁.heap Hq).Ns bd m := fun {bd m} ⟨oo, es, ep, ev, d, r⟩ => ⟨oo, es, ep, basOf ev (noAd ev d), d, r⟩
    have KbIn : Kf.In (hidT s₁.heap Hq) := fun bd oo ev => basOf (KIn bd oo ev) (by
      cases qe : Hq bd with
      | none => rfl
      | some uv =>
        rcases admH bd (by rw [qe]; simp) with e' | e'
        · rw [e'] at ev qe
          rw [lkH (by rw [qe]; simp)] at ev
          cases ev
        · obtain ⟨pr, hp, ep⟩ := List.mem_map.mp e'
          rw [← ep, tabN pr hp] at ev
          cases ev)
    have modM : L2.Mod Kf mgl (hidT s₁.heap Hq) := ⟨KbIn, nsKp nsG, ⟨mbl, nsKp nsB, boo⟩, let ⟨mc, h1, h2⟩ := lims; ⟨mc, nsKp h1, h2⟩⟩
    have tabB : ∀ pr ∈ tbs, TabB (hidT s₁.heap Hq) mgl pr.1 pr.2 := fun pr hp => by
      have hTp := tabT pr hp
      refine ⟨?_, ?_, fun zz => ?_⟩
      · obtain ⟨oo, fus, file, tf, flags, tg, inF, text, tt, e1, r1, r2, r3, r4, r5, r6, r7, r8, hne⟩ := tabC pr hp
        refine ⟨oo, fus, file, tf, flags, tg, inF, text, tt, basOf e1 (noDt e1 (fun vvs n zz => ?_) fun zz => ?_), r1, r2, r3, r4, r5, r6, r7, r8, hne⟩
        · rw [r2] at zz
          cases zz
        · rw [r2] at zz
          cases zz
          simp at r3
      · obtain ⟨bm, obm, b1, b2, b3, b4, b5, b6⟩ := bmod
        have nG : bm ≠ mainGlobals := fun qe => by
          obtain ⟨oo, es, ep, ev, hd, _⟩ := nsG
          rw [qe, ev] at b3
          cases b3
          rw [hd] at b6
          cases b6
        have nP : bm ≠ pr.2 := fun qe => by
          rw [qe, hTp] at b3
          cases b3
          cases b6
        refine ⟨bm, obm, b1, b2, nG, nP, basOf b3 (noDt b3 (fun vvs n zz => ?_) fun zz => ?_), b4, b5, b6⟩
        · rw [b6] at zz
          cases zz
        · rw [b6] at zz
          cases zz
      · obtain ⟨oo, es, ep, ev, hd, _⟩ := nsG
        rw [zz, hTp] at ev
        cases ev
        cases hd
    have en0 : Env0 Pr wo Kf mgl (hidT s₁.heap Hq) callerA [] s₁ Hq := ⟨rfl, modM, fun bd oo ev => of_hidT ev, Nat.le_of_eq (hidT_size _ _), trivial, fun bd nsB => absurd (show bd ∈ ([] : List Addr) from nsB) (by simp), okH, .of_eq gens0⟩
    refine codeAny_mono ((Fl _ KbIn (nsKp nsG) tabB).run callerA [] s₁ Hq ⟨[.ref ad], []⟩ [.ref ad] [.ref ad] _ _ rfl hroom en0 (bindL s₁ (.ref ad)) (.cons rfl .nil) (hprom Hq tabH sqH)) fun r sE h => ?_
    cases r with
    | error ev => exact (noEx Hq ev sE h).elim
    | ok flo =>
      cases flo with
      | next => exact False.elim h
      | brk => exact False.elim h
      | cont => exact False.elim h
      | ret uv =>
        obtain ⟨vl, HE, osE, barE, unE, okE, rr1, qe⟩ := h
        have qe1 : vl = .bl true := qe
        subst qe1
        obtain rfl : uv = Value.bool true := rr1
        have keyB : ∀ bd oo, bd ∉ tbs.map (·.2) → s₁.heap.get? bd = some oo → sE.heap.get? bd = some oo := fun bd oo nb ev => by
          cases qe : Hq bd with
          | none => exact unE.keep bd oo ev qe (by intro zz; exact absurd (show bd ∈ ([] : List Addr) from zz) (by simp)) (by simp)
          | some uv =>
            rcases onlyH bd with zz | zz | ⟨obm, xs, zz⟩
            · rw [qe] at zz; cases zz
            · exact absurd zz nb
            · have z2 := unE.frzs bd obm _ zz
              obtain ⟨e1, _⟩ := okH bd _ zz
              obtain ⟨e2, _⟩ := okE bd _ z2
              rw [ev] at e1; cases e1
              exact e2
        have grew : ∀ pr ∈ tbs, ∃ mor : Array Value, sE.heap.get? pr.2 = some { cls := .none, data := .fields mor } := fun pr hp => by
          obtain ⟨mor, zz⟩ := unE.tbls pr.2 #[] (tabH pr hp)
          exact ⟨_, okE pr.2 _ zz⟩
        refine ⟨rfl, ⟨fun bd oo ev => ?_, fun bd oo ev => ?_⟩, osE, barE⟩
        · by_cases nsB : bd ∈ tbs.map (·.2)
          · obtain ⟨pr, hp, ep⟩ := List.mem_map.mp nsB
            obtain ⟨mor, hmo⟩ := grew pr hp
            rw [← ep] at ev ⊢
            rw [tabT pr hp] at ev
            cases ev
            exact .inr (.inl ⟨((tabC pr hp).tab (tabT pr hp)).isCodeTable, rfl, #[], mor, rfl, by rw [Array.empty_append]; exact hmo⟩)
          · exact .inl (keyB bd oo nsB ev)
        · by_cases nsB : bd ∈ tbs.map (·.2)
          · obtain ⟨pr, hp, ep⟩ := List.mem_map.mp nsB
            obtain ⟨mor, hmo⟩ := grew pr hp
            rw [← ep]
            exact ⟨_, hmo⟩
          · exact ⟨oo, keyB bd oo nsB ev⟩
  cases lkA : Kf.lookup ad with
  | some oo =>
    have ev := KIn ad oo lkA
    rw [adAt] at ev
    cases ev
    refine kern (fun bd => if bd ∈ tbs.map (·.2) then some (.tbl #[]) else none) (fun pr hp => if_pos (memTb pr hp)) (fun bd => ?_) (.inr ⟨_, vvs.toArray, _, lkA, rfl, rfl, rfl, by rw [List.size_toArray, lvv]; exact lenS, by simpa using rvv⟩) (fun bd uv zz => ?_) (fun bd zz => ?_) fun zz => absurd (show (if ad ∈ tbs.map (·.2) then some (HO.tbl #[]) else none) = none from if_neg adT) zz
    · by_cases nsB : bd ∈ tbs.map (·.2)
      · exact .inr (.inl nsB)
      · exact .inl (if_neg nsB)
    · by_cases nsB : bd ∈ tbs.map (·.2)
      · have z' := (if_pos nsB).symm.trans zz
        cases z'
        exact isTb bd nsB
      · have z' := (if_neg nsB).symm.trans zz
        cases z'
    · by_cases nsB : bd ∈ tbs.map (·.2)
      · exact .inr nsB
      · exact absurd (if_neg nsB) zz
  | none =>
    refine kern (fun bd => if bd = ad then some (.frz { cls := .type "list", data := .seq vvs.toArray } (.lst (nns.map V.int))) else if bd ∈ tbs.map (·.2) then some (.tbl #[]) else none) (fun pr hp => (if_neg (show ¬ pr.2 = ad from fun zz => adT (by rw [← zz]; exact memTb pr hp))).trans (if_pos (memTb pr hp))) (fun bd => ?_)
      (.inl (.inr ⟨{ cls := .type "list", data := .seq vvs.toArray }, if_pos rfl⟩)) (fun bd uv zz => ?_) (fun bd zz => ?_) fun _ => lkA
    · by_cases nsB : bd = ad
      · exact .inr (.inr ⟨_, _, if_pos nsB⟩)
      · by_cases hb2 : bd ∈ tbs.map (·.2)
        · exact .inr (.inl hb2)
        · exact .inl ((if_neg nsB).trans (if_neg hb2))
    · by_cases nsB : bd = ad
      · have z' := (if_pos nsB).symm.trans zz
        cases z'
        rw [nsB]
        exact ⟨adAt, by rw [List.length_map]; exact lenS, vvs, _, rvv, adAt⟩
      · have z1 := (if_neg nsB).symm.trans zz
        by_cases hb2 : bd ∈ tbs.map (·.2)
        · have zq := (if_pos hb2).symm.trans z1
          cases zq
          exact isTb bd hb2
        · have zq := (if_neg hb2).symm.trans z1
          cases zq
    · by_cases nsB : bd = ad
      · exact .inl nsB
      · by_cases hb2 : bd ∈ tbs.map (·.2)
        · exact .inr hb2
        · exact absurd ((if_neg nsB).trans (if_neg hb2)) zz
/-- the law's promise, called where no guard is under way -/
def LawAtG (la : PySem.W.OpenLaw) (wo : World) (Kf : PySem.W.Frag) (Cx1 : CXT) (lev mo : Nat) (xn : Str) (mgl : Str → Option Value) (fl : Addr) (hp : Heap) : Prop :=
  ∃ (fdat : FuncData) (tbs : List (Addr × Addr)) (prom : Sp), (∀ pr ∈ tbs, hp.get? pr.2 = some { cls := .none, data := .fields #[] }) ∧ (∀ pr ∈ tbs, Kf.lookup pr.2 = none) ∧ (∀ pr ∈ tbs, PySem.W.CodeHd hp pr.1 pr.2) ∧ (∀ (s : Shared) (uv : Value), BindsTo s fdat ⟨[uv], []⟩ [(xn, uv)]) ∧
    (∀ (Hq : Hp) (ad : Addr) (nns : List Int), nns.length ≤ mo → (∀ zz ∈ nns, Builtin.Int.intBits zz ≤ 1048576) → (∀ pr ∈ tbs, Hq pr.2 = some (.tbl #[])) → SqL Kf Hq ad (nns.map V.int) → prom [.ref ad] Hq (fun vl _ => vl = .bl true) fun _ _ _ => False) ∧
    ∀ bas : Heap, Kf.In bas → bas.Ns mainGlobals mgl → (∀ pr ∈ tbs, TabB bas mgl pr.1 pr.2) → FnG la.prog wo Kf mgl bas Cx1 lev fl fdat [xn] prom
theorem walk_ofG {la : PySem.W.OpenLaw} {mo lev : Nat} {pq : Program} {loo : List Str} {XP : (Str → Option Value) → Heap → Prop} {YP : World → Heap → Prop} {dr : DefRec} {Kf : Params → PySem.W.Frag} {Cx1 : World → CXT} {xn : Str}
    (hmo : la.most = some mo) (hmo2 : mo ≤ sizeLine) (hdf : dr.params.defaults = []) (hroom : Room lev callerA) (hYP : ∀ (wo : World) (hp : Heap), YP wo hp → (Kf wo.params).In hp)
    (Fl : ∀ (wo : World) (mgl : Str → Option Value) (fl : Addr) (hp : Heap), YP wo hp → (Kf wo.params).In hp → hp.Ns mainGlobals mgl → mgl dr.name = some (.ref fl) → LawAtG la wo (Kf wo.params) (Cx1 wo) lev mo xn mgl fl hp)
    (noEx : ∀ (wo : World) (Hq : Hp) (s : Shared) (ev : Value) (sE : Shared), Cx1 wo [] Hq s (fun _ _ _ => False) ev sE → False) :
    PySem.W.WalkO pq loo XP YP la.row.toRowW dr [] (fun f vs => PySem.call f vs) := by
  refine Att.attach_callB hmo hdf fun wo s₀ sB mgl mbl fl ob pmv cdv doc ad vvs nns Gl Yp hob hdd hcode hmg hobj intsA hlen hbits hgens => ?_
  have KIn := hYP wo _ Yp
  obtain ⟨fdat, tbs, prom, tabT, tabN, tabC, hbi, hprom, hFl⟩ := Fl wo mgl fl _ Yp KIn Gl.T.g hmg
  exact law_callG KIn Gl.T.g Gl.T.b Gl.T.builtins Gl.T.nolimit hgens tabT tabN tabC Gl.T.bmain hobj intsA (Nat.le_trans hlen hmo2) hroom hFl hbi (fun Hq hH hS => hprom Hq ad nns hlen hbits hH hS) fun Hq ev sE => noEx wo Hq sB ev sE
end LamX
namespace Rg
open PySem PySem.Spec PyProof.Rows L2 LamX NdefX
/-! ### a lambda with parameters and no captured names, as a value -/
/-- the object at f is this lambda -/
def LamO (f : Addr) (q : Str) (params : Arguments) (body : Expr) (scope : Scope) (c : Addr) : HO := .ext fun h => ∃ (pmz ctvz : Value), h.get? f = some (PySem.W.kla_obj "<lambda>" q params body scope [] pmz c ctvz)
section
variable {X : Cx} {pins : List (Addr × Obj)} {σ : L2.St} {H : Hp} {s : Shared} {q : Str} {params : Arguments} {body : Expr} {scope : Scope}
theorem lamO_ne {f c : Addr} (ps : Array Value) : LamO f q params body scope c ≠ .tbl ps := fun z => by
  unfold LamO at z
  cases z
theorem lamO_at {P : Program} {w : World} {h : Heap} {f c : Addr} (hok : HOk P w H h) (e : H f = some (LamO f q params body scope c)) : ∃ (pmz ctvz : Value), h.get? f = some (PySem.W.kla_obj "<lambda>" q params body scope [] pmz c ctvz) := by
  obtain ⟨z, _, _⟩ := hok f _ e
  exact z
theorem inv_lam {c : Addr} {t' : Nat} {pmz ctvz : Value} (Iz : Inv X pins σ H s) :
    Inv X pins σ (upd H s.heap.objs.size (LamO s.heap.objs.size q params body scope c)) { s with heap := s.heap.push (PySem.W.kla_obj "<lambda>" q params body scope [] pmz c ctvz), toks := t' } := by
  refine Iz.laid (a := s.heap.objs.size) (fun b u e => Heap.get?_push_of_some _ e) (Nat.le_refl _) ?_
  have e : (s.heap.push (PySem.W.kla_obj "<lambda>" q params body scope [] pmz c ctvz)).get? s.heap.objs.size = some (PySem.W.kla_obj "<lambda>" q params body scope [] pmz c ctvz) := Heap.get?_push_size _ rfl
  exact ⟨⟨pmz, ctvz, e⟩, ⟨_, e⟩, fun h1 h2 ⟨p, t, z⟩ st => ⟨p, t, st _ z⟩⟩
theorem lam_makeV {T : List (Addr × Str)} {c P : Addr} {pos : Pos} {E : Value → Shared → Prop} {Q : Value → Shared → Prop} (Iz : Inv X pins σ H s) (TB : TabB X.base X.mg c P) (hcode : X.env.code = .ref c)
    (hm : (P, X.env.qual ++ "<lambda>") ∈ T) (hu : ∀ p ∈ T, p.1 = P → p.2 = X.env.qual ++ "<lambda>") (hTz : Tabs T H) (hdef : defaultsOf params X.env = ([], [])) (hfree : ∀ y ∈ scope.names, y.2 ≠ .free) (hclo : cloFrom X.env.cells scope.names [] = [])
    (h : ∀ (f c' : Addr) (H1 : Hp) (s' : Shared), Inv X pins σ H1 s' → ExtN H H1 → Tabs T H1 → H f = none → H1 f = some (LamO f (X.env.qual ++ "<lambda>") params body scope c') → H1 c' = some (CodeO c' (X.env.qual ++ "<lambda>")) → Q (.ref f) s') :
    wpAny (model X.prog X.w) X.A (eval (.Lambda params body scope pos) X.env) Q E s := by -- made
  obtain ⟨ps, hPz, ht, ha⟩ := hTz _ hm
  refine (PySem.W.kla_eval hdef ?_)
  have bPz : s.heap.BuiltinsAt X.mg P := TB.bm.keeps Iz.bk
  have hPz' : s.heap.get? P = some { cls := .none, data := .fields ps } := Iz.hok P _ hPz
  have hfr : ∀ y ∈ scope.names, y.2 = .free → ∃ c, X.env.cells.lookup y.1 = some c := fun y hy e => absurd e (hfree y hy)
  cases hc : (codeAmong pos ps.toList) with
  | none =>
    refine PySem.W.kla_makeFunction (mg := X.mg) (c := c) (P := P) (ps := ps) (closure_ok hfr) Iz.ok.glob (Iz.mod.glob.keeps Iz.bk) hcode (TB.code.keeps Iz.bk) hPz' ht hc TB.gP bPz fun c' ctvz h' tkz hxz hgez hltz hrecz htbz => ?_
    obtain ⟨c2, oc, vs, t, e2, hocz, hd, hvz⟩ := hrecz
    cases e2
    rw [hclo]
    have nCz : H c' = none := Iz.hok.fresh hgez
    have I1z := inv_table (t' := tkz) (more := #[rawInt pos.line, rawInt pos.col, .ref c']) (h' := h') Iz hPz (fun b o hb e => hxz b o hb e) htbz hgez ⟨oc, vs, t, hocz, hd, hvz⟩
    have hEz : ExtN H (upd (upd H P (.tbl (ps ++ #[rawInt pos.line, rawInt pos.col, .ref c']))) c' (CodeO c' (X.env.qual ++ "<lambda>"))) := fun b o e n => by
      rw [upd_ne (ne_of_none e nCz), upd_ne (fun z => n ps (Option.some.inj (e.symm.trans (by rw [z]; exact hPz))))]
      exact e
    have eLz : (ps ++ #[rawInt pos.line, rawInt pos.col, .ref c']).toList = ps.toList ++ [rawInt pos.line, rawInt pos.col, .ref c'] := by simp
    have T1z : Tabs T (upd (upd H P (.tbl (ps ++ #[rawInt pos.line, rawInt pos.col, .ref c']))) c' (CodeO c' (X.env.qual ++ "<lambda>"))) := fun p hp => by
      by_cases hb : p.1 = P
      · rw [hu p hp hb, hb]
        refine ⟨_, by rw [upd_ne (ne_of_none hPz nCz), upd_same], by rw [eLz]; exact PySem.TriplesOk_snoc _ _ _ _ ht, fun p' cvz hcvz => ?_⟩
        rw [eLz] at hcvz
        rcases among_app _ ht hcvz with z | z
        · obtain ⟨c0z, e1, e2⟩ := ha p' cvz z
          exact ⟨c0z, e1, hEz _ _ e2 codeO_ne⟩
        · exact ⟨c', z, upd_same⟩
      · obtain ⟨psz', a1z, a2z, a3z⟩ := hTz p hp
        refine ⟨psz', by rw [upd_ne (ne_of_none a1z nCz), upd_ne hb]; exact a1z, a2z, fun p' cvz hcvz => ?_⟩
        obtain ⟨c0z, e1, e2⟩ := a3z p' cvz hcvz
        exact ⟨c0z, e1, hEz _ _ e2 codeO_ne⟩
    have nFz := I1z.hok.fresh (Nat.le_refl _)
    have I2z := inv_lam (q := X.env.qual ++ "<lambda>") (params := params) (body := body) (scope := scope) (c := c') (t' := tkz) (pmz := (X.mg "__name__").getD .none) (ctvz := ctvz) I1z
    refine h h'.objs.size c' _ _ I2z (fun b o e n => ?_) (T1z.ext fun b o e => ?_) (Iz.hok.fresh (Nat.le_trans hgez (Nat.le_of_lt hltz))) upd_same ?_
    · have e1 := hEz b o e n
      exact (upd_ne (ne_of_none e1 nFz)).trans e1
    · exact (upd_ne (ne_of_none e nFz)).trans e
    · exact (upd_ne (Nat.ne_of_lt hltz)).trans upd_same
  | some cvz =>
    obtain ⟨c', e, hcoz⟩ := ha pos cvz hc
    subst e
    refine PySem.W.kla_makeFunctionHit (mg := X.mg) (c := c) (P := P) (ps := ps) (closure_ok hfr) Iz.ok.glob (Iz.mod.glob.keeps Iz.bk) hcode (TB.code.keeps Iz.bk) hPz' ht hc bPz fun ctvz h' tkz hxz hsz => ?_
    rw [hclo]
    have I1z : Inv X pins σ H { s with heap := h', toks := tkz } := Iz.kept hxz
    have nFz : H h'.objs.size = none := I1z.hok.fresh (Nat.le_refl _)
    have I2z := inv_lam (q := X.env.qual ++ "<lambda>") (params := params) (body := body) (scope := scope) (c := c') (t' := tkz) (pmz := (X.mg "__name__").getD .none) (ctvz := ctvz) I1z
    refine h h'.objs.size c' _ _ I2z (fun b o e n => ?_) (hTz.ext fun b o e => ?_) nFz upd_same ?_
    · exact (upd_ne (ne_of_none e nFz)).trans e
    · exact (upd_ne (ne_of_none e nFz)).trans e
    · exact (upd_ne (ne_of_none hcoz nFz)).trans hcoz
end
def tLamV (T : List (Addr × Str)) (q : Str) (params : Arguments) (body : Expr) (scope : Scope) : TE := fun _ H Q => Tabs T H ∧ ∀ (f c' : Addr) (H1 : Hp), ExtN H H1 → Tabs T H1 → H f = none → H1 f = some (LamO f q params body scope c') → H1 c' = some (CodeO c' q) → Q (.ref f) H1
theorem pe_lamval {X : Cx} {T : List (Addr × Str)} {c P : Addr} {params : Arguments} {body : Expr} {scope : Scope} {lpos : Pos} (TB : TabB X.base X.mg c P) (hcode : X.env.code = .ref c) (hm : (P, X.env.qual ++ "<lambda>") ∈ T) (hu : ∀ p ∈ T, p.1 = P → p.2 = X.env.qual ++ "<lambda>")
    (hdef : defaultsOf params X.env = ([], [])) (hfree : ∀ y ∈ scope.names, y.2 ≠ .free) (hclo : cloFrom X.env.cells scope.names [] = []) : PE X (.Lambda params body scope lpos) (tLamV T (X.env.qual ++ "<lambda>") params body scope) :=
  ⟨fun pins s σ H Q Iz h => lam_makeV Iz TB hcode hm hu h.1 hdef hfree hclo fun f c' H1 s' I1z e t n l c => ⟨.ref f, H1, I1z, rfl, h.2 f c' H1 e t n l c⟩⟩
/-! ### calling it -/
structure LOk (P : Program) (w : World) (K : PySem.W.Frag) (mg : Str → Option Value) (base : Heap) (CX : CXT) (k : Nat) (f c' : Addr) (q : Str) (params : Arguments) (body : Expr) (scope : Scope) (ps : List Str) (sp : Sp) : Prop where
  run : ∀ (A : Around) (outer : List Env) (s : Shared) (H : Hp) (us : List Value) (vs : List V) (Q : VK) (E : XK), Room k A → Env0 P w K mg base A outer s H → H f = some (LamO f q params body scope c') → H c' = some (CodeO c' q) →
    Vals vs us → sp vs H Q E → codeAny (model P w) A (.call (.ref f) ⟨us, []⟩) (CR CX outer P w H s Q E) s
abbrev lamF (q : Str) (params : Arguments) (scope : Scope) (c' : Addr) : NF := ⟨"<lambda>", q, params, [], scope, [], c'⟩
section
variable {CX : CXT} {P : Program} {w : World} {K : PySem.W.Frag} {mg : Str → Option Value} {base : Heap} {N ps : List Str} {f c' : Addr} {k : Nat} {sp : Sp} {q : Str} {params : Arguments} {body : Expr} {scope : Scope}
theorem lok_of (S : NScope N ps [] scope) (hb : ∀ (pmz ctvz : Value) (us : List Value), us.length = ps.length → bindArgs (PySem.W.kla_fn "<lambda>" q params body scope [] pmz (.ref c') ctvz) ⟨us, []⟩ = pure (ps.zip us)) (len : ∀ vs H Q E, sp vs H Q E → vs.length = ps.length)
    (hbodyz : ∀ (A : Around) (outer : List Env) (s : Shared) (H : Hp) (vs : List V) (Q : VK) (E : XK), Room k (A.deeper (envF (lamF q params scope c') f s.heap.objs.size)) → sp vs H Q E →
      ∃ t, PE (ncx CX P w K mg base N (lamF q params scope c') f A outer s H E) body t ∧ t (startF N vs []) H Q) :
    LOk P w K mg base CX (k + 1) f c' q params body scope ps sp := by
  refine ⟨fun A outer s H us vs Q E hr e0 hf hc r hspz => ?_⟩
  have hl := len _ _ _ _ hspz
  have limz : s.heap.NoLimit := e0.mod.nolimit.keeps fun b o e => (e0.bs b o e).1
  obtain ⟨pmz, ctvz, hoz⟩ := lamO_at e0.hok hf
  refine PySem.W.kla_callFunE hr.depth hoz rfl S.co S.gen rfl (codeO_at e0.hok hc) ?_
  rw [hb pmz ctvz us (by rw [← r.length]; exact hl)]
  refine wpAny_pure (wpAny_newFunctionEnv S.nocell (fun ⟨n, _⟩ hy => S.par n (List.of_mem_zip hy).1) (fun h₁z hnsz hsbz => ⟨limz.fresh _ hsbz, ?_⟩) S.kind)
  show codeAny _ _ (.expr body (envF (lamF q params scope c') f s.heap.objs.size)) _ _
  have kpz : ∀ b o, s.heap.get? b = some o → h₁z.get? b = some o := fun b o e => hsbz.extBut b o (Nat.ne_of_lt (Heap.lt_size e)) (Heap.get?_push_of_some _ e)
  obtain ⟨t, ht, hqz⟩ := hbodyz A outer s H vs Q E (hr.deeper _) hspz
  have C : CellsAt (lamF q params scope c').cl [] [] s.heap H := by
    refine ⟨rfl, fun y c e => ?_, fun x y c e => ?_, fun i y e => ?_⟩
    · exact nomatch (show ([] : List (Str × Addr)).lookup y = some c from e)
    · exact nomatch (show ([] : List (Str × Addr)).lookup x = some c from e)
    · cases i <;> cases e
  have J : Inv (ncx CX P w K mg base N (lamF q params scope c') f A outer s H E) [] (startF N vs []) H { s with heap := h₁z, toks := s.toks + (ps.zip us).length } := inv_startN S hr.hd e0 hl r C hnsz kpz
  refine PySem.W.kla_codeExpr (wpAny_mono (ht.run [] _ _ H Q J hqz) (fun v s' hqz => ?_) fun e s' hqz => hqz)
  obtain ⟨w', H', J', rv, q⟩ := hqz
  exact ⟨_, _, J'.os, J'.bare, J'.base, J'.hok, rv, q⟩
end
/-- x(..), x holds a def or the lambda -/
def tCallY (i : Nat) (fW : Addr) (q : Str) (params : Arguments) (body : Expr) (scope : Scope) (spW spL : Sp) (E : XK) (t : TA) : TE := fun σ H Q => ∃ f, σ[i]? = some (some (.ref f)) ∧
  ((f = fW ∧ t σ H fun vs H1 => spW vs H1 Q E) ∨ ∃ c', H f = some (LamO f q params body scope c') ∧ t σ H fun vs H1 => H1 f = some (LamO f q params body scope c') ∧ H1 c' = some (CodeO c' q) ∧ spL vs H1 Q E)
section
variable {X : Cx} {CX : CXT} {k i : Nat} {fW : Addr} {fdW : FuncData} {psW psL : List Str} {spW spL : Sp} {q : Str} {params : Arguments} {body : Expr} {scope : Scope} {E : XK} {x : Str} {p pos : Pos} {e : Expr} {es : List Expr} {t : TA}
theorem pe_callY (FW : FnOk X.prog X.w X.K X.mg X.base CX k fW fdW psW spW) (hkW : PySem.W.keepIn X.K (.ref fW) = true) (hbW : Binds X.K fdW psW []) (FL : ∀ f c', LOk X.prog X.w X.K X.mg X.base CX k f c' q params body scope psL spL) (hr : Room k X.A) (hNz : X.N[i]? = some x) (hvz : Vis X.env.scope x) (hxz : Passes CX X E) (ha : PA X (e :: es) t)
    (hdbz : (x == ("__debug__" : Str)) = false := by decide) (hcdz : (x == ("__classdict__" : Str)) = false := by decide)
    (he : starEach (e :: es) X.env = (false, eval e X.env) :: starEach es X.env := by rfl) (hpl : (backTo pos (starEach es X.env)).any (·.1) = false := by rfl) : PE X (.Call (.Name x p) (e :: es) [] pos) (tCallY i fW q params body scope spW spL E t) := by
  refine ⟨fun pins s σ H Q Iz h => ?_⟩
  obtain ⟨f, hs, ⟨rfl, ht⟩ | ⟨c', hf, ht⟩⟩ := h
  · refine (pe_callL (i := i) (f := f) (sp := spW) (dvs := []) (E := E) FW hr hNz hvz hkW hbW .nil hxz ha hdbz hcdz he hpl).run pins s σ H Q Iz ⟨hs, ?_⟩
    have e0 : (fun (vs : List V) (H1 : Hp) => spW (vs ++ []) H1 Q E) = fun vs H1 => spW vs H1 Q E := by
      funext vs H1
      rw [List.append_nil]
    show t σ H (fun vs H1 => spW (vs ++ []) H1 Q E)
    rw [e0]
    exact ht
  · refine wpAny_Call_Name_kw (thn ((pe_var (pos := p) hNz hvz hdbz hcdz).run pins s σ H (fun v H1 => v = .ref f ∧ H1 = H) Iz ⟨.ref f, hs, rfl, rfl⟩) fun u s1 ⟨v, H1, I1z, r1z, q1⟩ => ?_)
    obtain ⟨ev, eH⟩ := q1
    subst ev
    rw [eH] at I1z
    obtain rfl : u = Value.ref f := r1z
    have fa : ∀ {s2 : Shared} {H2 : Hp}, Inv X pins σ H2 s2 → H2 f = some (LamO f q params body scope c') → PySem.W.FnAt f s2.heap := fun I2z e => by
      obtain ⟨pmz, ctvz, hoz⟩ := lamO_at I2z.hok e
      exact ⟨_, _, _, _, hoz⟩
    refine PySem.W.callWith_F (first := []) (fa I1z hf) (thn (ha.run pos pins s1 σ H _ I1z ht) fun us s2 ⟨vs, H2, I2z, r, h1, h2, q⟩ => ⟨fa I2z h1, ?_⟩) he hpl
    show wpAny _ _ (call (Value.ref f) us) _ _ _
    refine wpAny_call (codeAny_mono ((FL f c').run X.A X.stack s2 H2 us vs Q E hr I2z.env0 h1 h2 r q) fun r s' hqz => ?_)
    cases r with
    | error e => exact hxz pins σ H2 s2 e s' I2z hqz
    | ok fl =>
      cases fl with
      | ret u => exact I2z.after hqz
      | next => exact False.elim hqz
      | brk => exact False.elim hqz
      | cont => exact False.elim hqz
end
end Rg
/-! a list comprehension whose element may raise -/
namespace Rg
open PySem PySem.Spec PyProof.Rows L2
open PySem.Sem (wp)
section
variable {M : Model} {A : Around} {env : Env} {s : Shared} {E : Value → Shared → Prop}
/-- behind the block; an exception goes on from the block's own env -/
def postX (M : Model) (A : Around) (E : Value → Shared → Prop) (Qq : Value → Shared → Prop) (acc : Value) (C : Addr) (ce : Env) (r : Result) (t : Shared) : Prop :=
  match r with
  | .ok _ => ∃ mm, t.heap.Ns C mm ∧ ∀ hh, Heap.SameBut C t.heap hh → Qq acc { t with heap := hh }
  | .error x => ∃ mm, t.heap.Ns C mm ∧ ∀ hh, Heap.SameBut C t.heap hh → wpAny M A (passOn "comprehension.variables-let-go" x ce : Sem Value) (fun _ _ => False) E { t with heap := hh }
theorem comp_freeX {e : Expr} {scope : Scope} {pos : Pos} {newAcc first : Sem Value} {g : Comprehension} {gs : List Comprehension} {cl : List (Str × Addr)} {Qq : Value → Shared → Prop}
    (hcl : clausesOf e = g :: gs) (hs : ∀ x, foldedSetIterable g.iter env x = pure x) (hclos : closureFor scope env = pure cl) (hkind : scope.kind = .function) (hnames : ∀ x ∈ scope.names, x.2 = .local → scope.names.lookup x.1 = some .local)
    (h : wpAny M A first (fun x s1 => wpAny M A (pyIter x) (fun it s2 => wpAny M A newAcc (fun acc s3 => wpAny M A (newFunctionEnv scope env.globals cl [] env.qual none .none (some env)) (fun cenv s4 =>
        codeAny M A (.compStart e 0 it acc { cenv with scope := relabel scope env }) (postX M A E Qq acc cenv.locals { cenv with scope := relabel scope env }) s4) E s3) E s2) E s1) E s) :
    wpAny M A (comprehension e scope env pos newAcc false first none) Qq E s := by
  unfold comprehension
  rw [hclos, hcl]
  refine wpAny_bind (wpAny_mono h (fun x s1 q1 => wpAny_bind (wpAny_standAt (wpAny_bind (wpAny_of_eq (hs x) (wpAny_bind (wpAny_holding (wpAny_mono q1 (fun it s2 q2 =>
    wpAny_standIf (wpAny_bind (wpAny_mono q2 (fun acc s3 q3 => wpAny_bind (wpAny_pure (wpAny_bind (wpAny_mono q3 (fun cenv s4 q4 => ?_) fun _ _ z => z)))) fun _ _ z => z)))
      fun _ _ z => z))))))) fun _ _ z => z)
  dsimp only
  have hv : ∀ x ∈ (scope.names.filter fun x => (x.2 == .local || x.2 == .cell) && x.1 != (".0" : Str)).reverse, x.2 = .local → Env.kindOf { cenv with scope := relabel scope env } x.1 = some .local := fun x hx hl =>
    lookup_relabel_local (hnames x (List.mem_filter.mp (List.mem_reverse.mp hx)).1 hl)
  refine wpAny_holding (wpAny_bind (wpAny_attempt (wpAny_holding (wpAny_run (codeAny_mono q4 fun r t hr => ?_)))))
  cases r with
  | ok f =>
    obtain ⟨mm, hn, hr⟩ := hr
    exact wpAny_bind (wpAny_holding (wpAny_comp_letGo (cenv := { cenv with scope := relabel scope env }) hkind _ t mm hv hn fun hh m2 _ sb => wpAny_pure (hr hh sb)))
  | error x =>
    obtain ⟨mm, hn, hr⟩ := hr
    exact wpAny_bind (wpAny_holding (wpAny_comp_letGo (cenv := { cenv with scope := relabel scope env }) hkind _ t mm hv hn fun hh m2 _ sb => wpAny_mono (hr hh sb) (fun _ _ f => f.elim) fun _ _ y => y))
end
theorem frames_at {base base2 h h2 : Heap} : ∀ {l : List Env}, h.FunFrames base l → (∀ L ∈ frs l, base2.get? L = none ∧ ∀ o, h.get? L = some o → ∃ sl, h2.get? L = some { o with slots := sl }) → h2.FunFrames base2 l
  | [], _, _ => trivial
  | env :: l, hh, hn => by
    obtain ⟨hk, ⟨L, o, hf, _, ho, hd⟩, hr⟩ := hh
    obtain ⟨n, k⟩ := hn L (List.mem_filterMap.mpr ⟨env, List.mem_cons_self, hf⟩)
    obtain ⟨sl, q⟩ := k o ho
    exact ⟨hk, ⟨L, _, hf, n, q, hd⟩, frames_at hr fun b hb => by
      obtain ⟨e2, he2, q2⟩ := List.mem_filterMap.mp hb
      exact hn b (List.mem_filterMap.mpr ⟨e2, List.mem_cons_of_mem _ he2, q2⟩)⟩
section
variable {X : Cx}
theorem lc_raise {pins pins9 : List (Addr × Obj)} {σ σ9 : L2.St} {H3 H9 : Hp} {s3 s9 t : Shared} {scope : Scope} {ce : Env} {fp : List Addr} {Ex : XK} {Qq : Value → Shared → Prop} {acc u : Value}
    (hst : X.stack = X.env :: X.outer) (hf : X.env.frame = some X.env.locals) (tk : Takes X fun cls d _ H => Ex cls d H) (I3 : Inv X pins σ H3 s3) (f3 : ∀ b ∈ fp, FpOk X pins H3 b ∧ b < s3.heap.objs.size)
    (I9 : Inv (X.blk s3 H3 scope ce fp) pins9 σ9 H9 s9) (cL : ce.locals = s3.heap.objs.size) (cF : ce.frame = X.env.frame) (c : L2.CX X.prog X.w X.stack H9 s9 Ex u t) :
    notedBy (model X.prog X.w) X.A ce (fun e t2 => postX (model X.prog X.w) X.A X.xe Qq acc s3.heap.objs.size ce (.error e) t2) u t := by
  obtain ⟨a, B, H2, cls, d, rfl, fl, hok, ub, na, os, ag, hE⟩ := c
  have hfr : X.A.frames = some (X.env :: X.outer) := by rw [I3.ok.frames, hst]
  have nCfr : s3.heap.objs.size ∉ frs X.stack := fun z => by
    rcases List.mem_cons.mp (I3.stkSub _ z) with e | e
    · have h1 := I3.lt
      rw [← e] at h1
      exact Nat.lt_irrefl _ h1
    · exact I3.nofs (Nat.le_refl _) e
  obtain ⟨mm, hn, _⟩ := I9.loc
  have hn : s9.heap.Ns ce.locals mm := hn
  rw [cL] at hn
  have fC : H9 s3.heap.objs.size = none := by
    have z : H9 ce.locals = none := I9.free
    rw [cL] at z
    exact z
  obtain ⟨oC, es, ep, hoC, rC⟩ := hn
  have hBC : B.get? s3.heap.objs.size = some oC := ub.keep _ oC hoC fC nCfr
  generalize hCC : s3.heap.objs.size = C at hoC fC nCfr hBC cL ⊢
  have ne : ∀ b, B.get? b = none → b ≠ C := fun b e z => by rw [z, hBC] at e; cases e
  have u9 : Un (frs X.stack) fp H3 H9 s3.heap s9.heap := I9.base
  have lo : ∀ b o, s3.heap.get? b = some o → b ≠ C := fun b o e z => by
    have := Heap.lt_size e
    rw [z, ← hCC] at this
    exact Nat.lt_irrefl _ this
  have en : noteFrame (.ref a) ce = noteFrame (.ref a) X.env := by
    unfold PySem.noteFrame PySem.frameOf
    rw [cF]
  show wpAny _ _ (noteFrame (.ref a) ce) _ _ t
  rw [en]
  have fl0 := fl
  rw [hst] at fl
  refine HandSPX.looks_onZ Zc.steady hfr hf fl fun h1 held up1 => ?_
  obtain ⟨hk, hen, hl, oe, vs, T, oT, ts, he, hz, hd, hv1, hnT, hTe, hT, hdT, ht3⟩ := held
  refine ⟨mm, ⟨oC, es, ep, hk _ _ hBC, rC⟩, fun h2 sb => ?_⟩
  obtain ⟨B2, b1, b2⟩ := restrict h2 fun b => (B.get? b).isSome
  have bB : ∀ b o, B2.get? b = some o → h2.get? b = some o ∧ (B.get? b).isSome = true := fun b o e => by
    cases q : (B.get? b).isSome with
    | false => rw [b2 b q] at e; cases e
    | true =>
      rw [b1 b q] at e
      exact ⟨e, rfl⟩
  have B2of : ∀ b o, b ≠ C → B.get? b = some o → B2.get? b = some o := fun b o nb e => by
    rw [b1 b (by simp [e]), sb.2 b nb]
    exact hk b o e
  have B2no : ∀ b, B.get? b = none → B2.get? b = none := fun b e => b2 b (by simp [e])
  have frN : ∀ L ∈ frs (X.env :: X.outer), B.get? L = none := fun L hL => (hl.mem hL).1
  have held2 : HandSPX.HeldZ B2 (X.env :: X.outer) a (Zc cls d) X.env.locals h2 :=
    ⟨fun b o e => (bB b o e).1, B2no a hen, frames_at hl (fun L hL => ⟨B2no L (frN L hL), fun o ho => ⟨o.slots, by rw [sb.2 L (ne L (frN L hL))]; exact ho⟩⟩), oe, vs, T, oT, ts,
      by rw [sb.2 a (ne a hen)]; exact he, hz, hd, hv1, B2no T hnT, hTe, by rw [sb.2 T (ne T hnT)]; exact hT, hdT, ht3⟩
  have hea2 : h2.get? a = some oe := by rw [sb.2 a (ne a hen)]; exact he
  unfold PySem.passOn
  refine wpAny_bind (wpAny_field hea2 hd hv1 ?_)
  rw [if_neg (by simp : ¬ ((Value.ref T == Value.none) = true))]
  have goOn : wpAny (model X.prog X.w) X.A (setFlight (.ref a) ce.frame) (fun _ s7 => wpAny (model X.prog X.w) X.A (throw (.ref a) : Sem Value) (fun _ _ => False) X.xe s7) X.xe { t with heap := h2 } := by
    rw [cF, hf]
    refine HandSPX.setFlight_onZ held2 fun h4 held4 up4 => wpAny_throw (tk _ _ ?_)
    obtain ⟨G, g1, g2⟩ := restrict h4 fun b => (B2.get? b).isSome || decide (b ∈ frs X.stack)
    have gB : ∀ b o, B2.get? b = some o → G.get? b = some o := fun b o e => by
      rw [g1 b (by simp [e])]
      exact held4.1 b o e
    have gF : ∀ b, b ∈ frs X.stack → G.get? b = h4.get? b := fun b hb => g1 b (by simp [hb])
    have og : ∀ b o, G.get? b = some o → h4.get? b = some o ∧ ((B2.get? b).isSome = true ∨ b ∈ frs X.stack) := fun b o e => by
      cases q : ((B2.get? b).isSome || decide (b ∈ frs X.stack)) with
      | false => cases ((g2 b q).symm.trans e)
      | true =>
        rw [g1 b q] at e
        exact And.intro e (by simpa [Bool.or_eq_true] using q)
    have frame : ∀ b ∈ frs X.stack, ∀ o, s9.heap.get? b = some o → ∃ sl, G.get? b = some { o with slots := sl } := fun b hb o e => by
      obtain ⟨sl, e1⟩ := ub.slot b o e hb
      obtain ⟨nB, o', e', nf⟩ := fl0.2.2.1.mem hb
      rw [e1] at e'
      cases e'
      obtain ⟨sl2, e2⟩ := up1 b _ e1 nf
      have e3 : h2.get? b = h1.get? b := sb.2 b (ne b nB)
      rw [e2] at e3
      obtain ⟨sl4, e4⟩ := up4 b _ e3 nf
      exact ⟨sl4, by rw [gF b hb]; exact e4⟩
    have un : Un (frs X.stack) fp H3 H2 s3.heap G := by
      refine ⟨fun b o e n hb hx => ?_, fun b o e n hb hx => ?_, fun b o e n hx => ?_, fun b o e hx => ?_, fun b xs e => ub.tups b xs (u9.tups b xs e), fun b o x e => ub.frzs b o x (u9.frzs b o x e), fun b ps e => ?_⟩
      · exact gB b o (B2of b o (lo b o e) (ub.keep b o (u9.keep b o e n hb hx) (u9.free b o e n hx) hb))
      · obtain ⟨sl, e1⟩ := u9.slot b o e n hb hx
        obtain ⟨sl2, e2⟩ := frame b hb _ e1
        exact ⟨sl2, e2⟩
      · obtain ⟨o', e1⟩ := u9.there b o e hx
        exact ub.free b o' e1 (u9.free b o e n hx)
      · obtain ⟨o', e1⟩ := u9.there b o e hx
        by_cases hb : b ∈ frs X.stack
        · obtain ⟨sl, e2⟩ := frame b hb _ e1
          exact ⟨_, e2⟩
        · obtain ⟨o2, e2⟩ := ub.there b o' e1 hb
          exact ⟨o2, gB b o2 (B2of b o2 (lo b o e) e2)⟩
      · obtain ⟨m1, e1⟩ := u9.tbls b ps e
        obtain ⟨mz, ez⟩ := ub.tbls b _ e1
        exact ⟨m1 ++ mz, by rw [ez, Array.append_assoc]⟩
    have fC2 : H2 C = none := ub.free C oC hoC fC
    have hokG : HOk X.prog X.w H2 G := fun b o q => (hok b o q).stay (fun c v hc r => gB c v (B2of c v (fun z => by
      rcases hc with hc | hc
      · rw [← hc, z, fC2] at q
        cases q
      · rw [z, fC2] at hc
        cases hc) r)) (fun _ r => r) fun _ _ r => r
    have J : Inv X pins σ H2 { s3 with heap := G, gens := t.gens, drawn := t.drawn, toks := t.toks } :=
      I3.call (ch := fp) un hokG ag fun b hb => ⟨(f3 b hb).1.2.2.2.1, (f3 b hb).1.2.1, (f3 b hb).1.2.2.2.2.1, (f3 b hb).1.2.2.2.2.2⟩
    have os3 : t.os = s3.os := os.trans I9.os
    refine ⟨a, B2, _, pins, σ, H2, cls, d, rfl, J, fun b o e hb => ?_, Heap.UpToSlots.of_keeps fun b o e => (og b o e).1, .inr (.inr (by rw [hst]; exact held4)), na, os3, ag, hE⟩
    obtain ⟨e', hh⟩ := og b o e
    rcases hh with hh | hh
    · obtain ⟨o', q⟩ := Option.isSome_iff_exists.mp hh
      have z := held4.1 b o' q
      rw [e'] at z
      cases z
      exact q
    · exact absurd hh hb
  first
    | exact (wpAny_bind (wpAny_pure (wpAny_bind goOn)))
    | exact wpAny_bind goOn
/-- [elt for target in iter if ..], elt may raise what Ex tells -/
theorem pe_lcX {Ex : XK} {elt tg iter : Expr} {ifs : List Expr} {scope : Scope} {own : List (Str × Nat)} {pos : Pos} {wi : TI} {g : TG} {tt : TT} {te : TE} (hst : X.stack = X.env :: X.outer) (hf : X.env.frame = some X.env.locals) (tk : Takes X fun cls d _ H => Ex cls d H)
    (hc : X.calm = true) (hN : X.N.Nodup) (hi : PI X tg iter wi) (ok : BlkOk X.N X.env.scope scope own) (hg : ∀ (s : Shared) (H : Hp) (C : Addr) (cl : List (Str × Addr)) (fp : List Addr), PG (X.blk s H scope (compEnvC scope cl C X.env) fp) tg g)
    (ht : ∀ (s : Shared) (H : Hp) (C : Addr) (cl : List (Str × Addr)) (fp : List Addr), PTs (X.blk s H scope (compEnvC scope cl C X.env) fp) ifs tt)
    (he : ∀ (s : Shared) (H : Hp) (C : Addr) (cl : List (Str × Addr)) (fp : List Addr) (E : Value → Shared → Prop), (∀ (pins : List (Addr × Obj)) (σ : L2.St) (H1 : Hp) (s1 : Shared) (u : Value) (s2 : Shared), Inv (X.blk s H scope (compEnvC scope cl C X.env) fp) pins σ H1 s1 → L2.CX X.prog X.w X.stack H1 s1 Ex u s2 → E u s2) →
      PE ((X.blk s H scope (compEnvC scope cl C X.env) fp).wish E) elt te) (hs : ∀ x, foldedSetIterable iter X.env x = pure x := by intro _; rfl) :
    PE X (.ListComp elt [⟨tg, iter, ifs, 0⟩] scope pos) (tLc wi g tt te (own.map (·.2))) := by -- as a value
  refine .mk (fun pins s σ H Q I h => ?_)
  rw [eval_ListComp]
  have hfq : ∀ y ∈ scope.names, y.2 = .free → ∃ c, X.env.cells.lookup y.1 = some c := fun y hy e => by
    exact (ok.free y hy e).elim (fun k => I.ok.has _ (.inl k)) fun k => I.ok.has _ (.inr k)
  refine comp_freeX rfl hs (closure_ok hfq) ok.kind (fun y hy e => by rw [ok.uniq y hy, e])
    (thn (hi.run pins s σ H _ I h) fun xw sa hxx => thn hxx fun itw sB hh2 => ?_)
  obtain ⟨it, fpp, tnn, Jt, Hb, e, Ib, Tt, stb, fb, q⟩ := hh2
  subst e
  refine wpAny_newObj_type (newEnv_comp (?_)) (by show 0 ≤ sizeLine; decide)
  generalize hDa : sB.heap.objs.size = D
  have hDnn : Hb D = none := Ib.hok.fresh (Nat.le_of_eq hDa)
  obtain ⟨Wm, ⟨m00, wa⟩, trn⟩ := q D hDnn
  generalize hs3a : ({ sB with heap := sB.heap.push { cls := .type "list", data := .seq ([] : List Value).toArray } } : Shared) = sc
  have Ic : Inv X pins σ (upd Hb D (.lst [])) sc := by
    rw [← hs3a]
    refine Ib.laid (t' := sB.toks) (fun b o e => Heap.get?_push_of_some _ e) (Nat.le_of_eq hDa) ⟨Nat.zero_le _, [], 0, .nil, ?_⟩
    rw [← hDa]
    exact (Heap.get?_push_size _ rfl)
  have hh3 : sc.heap = sB.heap.push { cls := .type "list", data := .seq ([] : List Value).toArray } := by rw [← hs3a]
  have szz : ∀ b ∈ fpp, b < sB.heap.objs.size := fun b hb => by
    obtain ⟨o, e, _⟩ := Tt.obj _ _ stb b hb
    exact Heap.lt_size e
  have fc : ∀ b ∈ fpp, FpOk X pins (upd Hb D (.lst [])) b ∧ b < sc.heap.objs.size := fun b hb => by
    have hlt := szz b hb
    refine ⟨⟨?_, (fb b hb).2⟩, by rw [hh3, Heap.size_push]; exact Nat.lt_succ_of_lt hlt⟩
    rw [upd_ne (by rw [← hDa]; exact Nat.ne_of_lt hlt)]
    exact (fb b hb).1
  have stc : tnn 0 sc.heap := Tt.keep _ _ _ stb fun b _ o e => by rw [hh3]; exact Heap.get?_push_of_some _ e
  have Id := block_start Ic ok hN fc
  have pgg := hg sc (upd Hb D (.lst [])) sc.heap.objs.size (cellsFrom (sc.heap.objs.size + 1) scope.names (cloFrom X.env.cells scope.names [])) fpp
  have ptt := ht sc (upd Hb D (.lst [])) sc.heap.objs.size (cellsFrom (sc.heap.objs.size + 1) scope.names (cloFrom X.env.cells scope.names [])) fpp
  have pee := he sc (upd Hb D (.lst [])) sc.heap.objs.size (cellsFrom (sc.heap.objs.size + 1) scope.names (cloFrom X.env.cells scope.names [])) fpp
  show codeAny _ _ (.compStart (.ListComp elt [⟨tg, iter, ifs, 0⟩] scope pos) 0 (.ref it) (.ref D) (compEnvC scope (cellsFrom (sc.heap.objs.size + 1) scope.names (cloFrom X.env.cells scope.names [])) sc.heap.objs.size X.env)) (postX (model X.prog X.w) X.A X.xe (EP X pins σ Q) (.ref D) sc.heap.objs.size (compEnvC scope (cellsFrom (sc.heap.objs.size + 1) scope.names (cloFrom X.env.cells scope.names [])) sc.heap.objs.size X.env)) { sc with heap := pushCells (sc.heap.push { cls := .type "dict", data := .dict #[] }) scope.names }
  have nfq : ∀ b ∈ fpp, (upd Hb D (.lst [])) b = none := fun b hb => (fc b hb).1.1
  generalize hcee : compEnvC scope (cellsFrom (sc.heap.objs.size + 1) scope.names (cloFrom X.env.cells scope.names [])) sc.heap.objs.size X.env = cen at Id pgg ptt pee ⊢
  have cLl : cen.locals = sc.heap.objs.size := by subst hcee; rfl
  have cFf : cen.frame = X.env.frame := by subst hcee; rfl
  generalize hHc : upd Hb D (.lst []) = Hc at Ic Id pgg ptt pee wa nfq fc
  generalize hs4a : ({ sc with heap := pushCells (sc.heap.push { cls := .type "dict", data := .dict #[] }) scope.names } : Shared) = sd at Id ⊢
  have std : tnn 0 sd.heap := Tt.keep _ _ _ stc fun b _ o e => by rw [← hs4a]; exact pushCells_keeps _ _ _ _ (Heap.get?_push_of_some _ e)
  have stt : ∀ {σ' : L2.St} {H' : Hp} {s' : Shared}, Inv (X.blk sc Hc scope cen fpp) [] σ' H' s' → (∀ b ∈ fpp, H' b = none) → ∀ b ∈ fpp, FpOk (X.blk sc Hc scope cen fpp) [] H' b := fun {σ' H' s'} I' hn b hb =>
    ⟨hn b hb, (I'.ok.exf b hb).1, (I'.ok.exfs b hb), .inl hb, fun x c e => (I'.ok.exf b hb).2 x c e, fun p hp => absurd (show p ∈ ([] : List (Addr × Obj)) ++ [] from hp) (by simp)⟩
  have lpp : codeAny (model X.prog X.w) X.A (.compLoop (.ListComp elt [⟨tg, iter, ifs, 0⟩] scope pos) 0 (.ref it) (.ref D) cen) (postX (model X.prog X.w) X.A X.xe (EP X pins σ Q) (.ref D) sc.heap.objs.size cen) sd := by
    refine compLoop_any (fun n s' => ∃ i H', Inv (X.blk sc Hc scope cen fpp) [] (wipe σ (own.map (·.2))) H' s' ∧ tnn i s'.heap ∧ (∀ b ∈ fpp, H' b = none) ∧ Wm i n H') ?_ m00 ⟨0, Hc, Id, std, nfq, wa⟩
    rintro n se ⟨i, He, Ie, ste, n5a, w5a⟩
    rcases trn i n He w5a with ⟨stpp, qq⟩ | ⟨goo, Nxx, hNxx, stp⟩
    · have tdd := Tt.done (X.blk sc Hc scope cen fpp) rfl rfl rfl hc i [] se _ He (fun _ _ => False) Ie (stt Ie n5a) ste stpp
      refine thnF tdd fun r sf ⟨hr, Ig⟩ => ?_
      subst hr
      have Ih : Inv X pins σ He sf := Ic.call' (ch := fpp) Ig.os Ig.base Ig.hok Ig.bare fun b hb => ⟨(fc b hb).1.2.2.2.1, (fc b hb).1.2.1, (fc b hb).1.2.2.2.2.1, (fc b hb).1.2.2.2.2.2⟩
      have nC : He sc.heap.objs.size = none := by
        have z : He cen.locals = none := Ig.free
        rw [cLl] at z
        exact z
      obtain ⟨m, hn, _⟩ := Ig.loc
      have hn : sf.heap.Ns cen.locals m := hn
      rw [cLl] at hn
      refine ⟨m, hn, fun hz sb => ?_⟩
      obtain ⟨z0, z1, z2, z3, z4, z5⟩ := Ic.fpOk (Nat.le_refl _) nC
      exact ⟨.ref D, He, Ih.turned (t' := sf.toks) (fun b o hb e => (sb.2 b hb).trans e) z0 z1 z3 z4 z5, rfl, qq⟩
    · have tii := Tt.item (X.blk sc Hc scope cen fpp) rfl rfl rfl hc i [] se _ He (fun _ _ => False) Ie (stt Ie n5a) ste goo
      refine thnF tii fun r sf ⟨u, hr, h6⟩ => ?_
      subst hr
      refine thnF h6 fun _ sg ⟨x, Hg, Ih, r7a, y7a, stg, n7a⟩ => ?_
      have Ihp := Ih.pinned (stt Ih n7a) (Tt.obj _ _ stg)
      refine thnF (pgg.run _ sg _ Hg x u _ Ihp r7a (stp x Hg y7a)) fun _ sh ⟨σh, Hh, Ij, hwx, q8a⟩ => ?_
      refine thnF (ptt.run _ sh σh Hh _ Ij q8a) fun b si ⟨Hi, Ik, q9a⟩ => ?_
      have fnn : ∀ {s' : Shared} {H' : Hp}, Inv (X.blk sc Hc scope cen fpp) ([] ++ pinsAt fpp sg.heap) σh H' s' → Nxx H' → ∃ m, m < n ∧ ∃ i H', Inv (X.blk sc Hc scope cen fpp) [] (wipe σ (own.map (·.2))) H' s' ∧ tnn i s'.heap ∧ (∀ b ∈ fpp, H' b = none) ∧ Wm i m H' := fun {s' H'} I' nxx => by
        obtain ⟨m', hm, w'⟩ := hNxx H' nxx
        have pinq : ∀ b ∈ fpp, ∀ o, sg.heap.get? b = some o → s'.heap.get? b = some o ∧ H' b = none := fun b hb o e =>
          let z := (I'.pin (b, o) (List.mem_append_right _ (List.mem_append_right _ (mem_pinsAt hb e))))
          ⟨z.1, z.2.1⟩
        have hll : (wipe σ (own.map (·.2))).length = σh.length := by rw [← hwx, wipe_length]
        refine ⟨m', hm, i + 1, H', (I'.unpinned (pins := [])).weak hll (fun j v e => ?_), Tt.keep _ _ _ stg fun b hb o e => (pinq b hb o e).1, fun b hb => ?_, w'⟩
        · rw [← hwx] at e
          exact (wipe_some e).1
        · obtain ⟨o, e, _⟩ := Tt.obj _ _ stg b hb
          exact (pinq b hb o e).2
      cases b with
      | false =>
        simp only [Bool.false_eq_true, if_false] at q9a ⊢
        exact fnn Ik q9a
      | true =>
        simp only [if_true] at q9a ⊢
        refine wpAny_mono ((pee (fun u t => ∃ pz σz Hz tz, Inv (X.blk sc Hc scope cen fpp) pz σz Hz tz ∧ L2.CX X.prog X.w X.stack Hz tz Ex u t) fun pz σz Hz tz u t J c => ⟨pz, σz, Hz, tz, J, c⟩).run _ si σh Hi _ (Ik.wish _) q9a) (fun z sj hq => ?_) fun u t ⟨pz, σz, Hz, tz, Jz, cz⟩ => lc_raise hst hf tk Ic fc Jz cLl cFf cz
        obtain ⟨yvv, Hj, Il', r10a, accx, hDz, hzz, nxx⟩ := hq
        have Il := Il'.unwish
        exact app_ok (X := X.blk sc Hc scope cen fpp) Il hDz hzz r10a fun sk Im => fnn Im nxx
  exact codeAny_compStart_list lpp (Tt.self X.A 0 _ _ _ std lpp)
end
end Rg
namespace Rg
open PySem PySem.Spec PyProof.Rows L2 LamX NdefX
/-! ### a lambda that holds cells of its maker's frame, kept as a value and called later in that frame -/
/-- the object at f is this lambda over the cells cl -/
def LamC (f : Addr) (q : Str) (ar : Arguments) (bo : Expr) (sco : Scope) (cl : List (Str × Addr)) (c : Addr) : HO := .ext fun h => ∃ (pmz ctvz : Value), h.get? f = some (PySem.W.kla_obj "<lambda>" q ar bo sco cl pmz c ctvz)
section
variable {X : Cx} {pins : List (Addr × Obj)} {σ : L2.St} {H : Hp} {s : Shared} {q : Str} {ar : Arguments} {bo : Expr} {sco : Scope} {cl : List (Str × Addr)}
theorem lamC_ne {f c : Addr} (ps : Array Value) : LamC f q ar bo sco cl c ≠ .tbl ps := fun z => by
  unfold LamC at z
  cases z
theorem lamC_at {P : Program} {w : World} {h : Heap} {f c : Addr} (hok : HOk P w H h) (e : H f = some (LamC f q ar bo sco cl c)) : ∃ (pmz ctvz : Value), h.get? f = some (PySem.W.kla_obj "<lambda>" q ar bo sco cl pmz c ctvz) := by
  obtain ⟨z, _, _⟩ := hok f _ e
  exact z
theorem inv_lamC {c : Addr} {t' : Nat} {pmz ctvz : Value} (Iz : Inv X pins σ H s) :
    Inv X pins σ (upd H s.heap.objs.size (LamC s.heap.objs.size q ar bo sco cl c)) { s with heap := s.heap.push (PySem.W.kla_obj "<lambda>" q ar bo sco cl pmz c ctvz), toks := t' } := by
  refine Iz.laid (a := s.heap.objs.size) (fun b u e => Heap.get?_push_of_some _ e) (Nat.le_refl _) ?_
  have e : (s.heap.push (PySem.W.kla_obj "<lambda>" q ar bo sco cl pmz c ctvz)).get? s.heap.objs.size = some (PySem.W.kla_obj "<lambda>" q ar bo sco cl pmz c ctvz) := Heap.get?_push_size _ rfl
  exact ⟨⟨pmz, ctvz, e⟩, ⟨_, e⟩, fun h1 h2 ⟨p, t, z⟩ st => ⟨p, t, st _ z⟩⟩
theorem lam_makeC {T : List (Addr × Str)} {c P : Addr} {pos : Pos} {E : Value → Shared → Prop} {Q : Value → Shared → Prop} (Iz : Inv X pins σ H s) (TB : TabB X.base X.mg c P) (hcode : X.env.code = .ref c)
    (hm : (P, X.env.qual ++ "<lambda>") ∈ T) (hu : ∀ p ∈ T, p.1 = P → p.2 = X.env.qual ++ "<lambda>") (hTz : Tabs T H) (hdef : defaultsOf ar X.env = ([], [])) (hfr : ∀ y ∈ sco.names, y.2 = .free → ∃ c, X.env.cells.lookup y.1 = some c)
    (h : ∀ (f c' : Addr) (H1 : Hp) (s' : Shared), Inv X pins σ H1 s' → ExtN H H1 → Tabs T H1 → H f = none → H1 f = some (LamC f (X.env.qual ++ "<lambda>") ar bo sco (cloFrom X.env.cells sco.names []) c') → H1 c' = some (CodeO c' (X.env.qual ++ "<lambda>")) → Q (.ref f) s') :
    wpAny (model X.prog X.w) X.A (eval (.Lambda ar bo sco pos) X.env) Q E s := by -- made
  obtain ⟨ps, hPz, ht, ha⟩ := hTz _ hm
  refine (PySem.W.kla_eval hdef ?_)
  have bPz : s.heap.BuiltinsAt X.mg P := TB.bm.keeps Iz.bk
  have hPz' : s.heap.get? P = some { cls := .none, data := .fields ps } := Iz.hok P _ hPz
  cases hc : (codeAmong pos ps.toList) with
  | none =>
    refine PySem.W.kla_makeFunction (mg := X.mg) (c := c) (P := P) (ps := ps) (closure_ok hfr) Iz.ok.glob (Iz.mod.glob.keeps Iz.bk) hcode (TB.code.keeps Iz.bk) hPz' ht hc TB.gP bPz fun c' ctvz h' tkz hxz hgez hltz hrecz htbz => ?_
    obtain ⟨c2, oc, vs, t, e2, hocz, hd, hvz⟩ := hrecz
    cases e2
    have nCz : H c' = none := Iz.hok.fresh hgez
    have I1z := inv_table (t' := tkz) (more := #[rawInt pos.line, rawInt pos.col, .ref c']) (h' := h') Iz hPz (fun b o hb e => hxz b o hb e) htbz hgez ⟨oc, vs, t, hocz, hd, hvz⟩
    have hEz : ExtN H (upd (upd H P (.tbl (ps ++ #[rawInt pos.line, rawInt pos.col, .ref c']))) c' (CodeO c' (X.env.qual ++ "<lambda>"))) := fun b o e n => by
      rw [upd_ne (ne_of_none e nCz), upd_ne (fun z => n ps (Option.some.inj (e.symm.trans (by rw [z]; exact hPz))))]
      exact e
    have eLz : (ps ++ #[rawInt pos.line, rawInt pos.col, .ref c']).toList = ps.toList ++ [rawInt pos.line, rawInt pos.col, .ref c'] := by simp
    have T1z : Tabs T (upd (upd H P (.tbl (ps ++ #[rawInt pos.line, rawInt pos.col, .ref c']))) c' (CodeO c' (X.env.qual ++ "<lambda>"))) := fun p hp => by
      by_cases hb : p.1 = P
      · rw [hu p hp hb, hb]
        refine ⟨_, by rw [upd_ne (ne_of_none hPz nCz), upd_same], by rw [eLz]; exact PySem.TriplesOk_snoc _ _ _ _ ht, fun p' cvz hcvz => ?_⟩
        rw [eLz] at hcvz
        rcases among_app _ ht hcvz with z | z
        · obtain ⟨c0z, e1, e2⟩ := ha p' cvz z
          exact ⟨c0z, e1, hEz _ _ e2 codeO_ne⟩
        · exact ⟨c', z, upd_same⟩
      · obtain ⟨psz', a1z, a2z, a3z⟩ := hTz p hp
        refine ⟨psz', by rw [upd_ne (ne_of_none a1z nCz), upd_ne hb]; exact a1z, a2z, fun p' cvz hcvz => ?_⟩
        obtain ⟨c0z, e1, e2⟩ := a3z p' cvz hcvz
        exact ⟨c0z, e1, hEz _ _ e2 codeO_ne⟩
    have nFz := I1z.hok.fresh (Nat.le_refl _)
    have I2z := inv_lamC (q := X.env.qual ++ "<lambda>") (ar := ar) (bo := bo) (sco := sco) (cl := cloFrom X.env.cells sco.names []) (c := c') (t' := tkz) (pmz := (X.mg "__name__").getD .none) (ctvz := ctvz) I1z
    refine h h'.objs.size c' _ _ I2z (fun b o e n => ?_) (T1z.ext fun b o e => ?_) (Iz.hok.fresh (Nat.le_trans hgez (Nat.le_of_lt hltz))) upd_same ?_
    · have e1 := hEz b o e n
      exact (upd_ne (ne_of_none e1 nFz)).trans e1
    · exact (upd_ne (ne_of_none e nFz)).trans e
    · exact (upd_ne (Nat.ne_of_lt hltz)).trans upd_same
  | some cvz =>
    obtain ⟨c', e, hcoz⟩ := ha pos cvz hc
    subst e
    refine PySem.W.kla_makeFunctionHit (mg := X.mg) (c := c) (P := P) (ps := ps) (closure_ok hfr) Iz.ok.glob (Iz.mod.glob.keeps Iz.bk) hcode (TB.code.keeps Iz.bk) hPz' ht hc bPz fun ctvz h' tkz hxz hsz => ?_
    have I1z : Inv X pins σ H { s with heap := h', toks := tkz } := Iz.kept hxz
    have nFz : H h'.objs.size = none := I1z.hok.fresh (Nat.le_refl _)
    have I2z := inv_lamC (q := X.env.qual ++ "<lambda>") (ar := ar) (bo := bo) (sco := sco) (cl := cloFrom X.env.cells sco.names []) (c := c') (t' := tkz) (pmz := (X.mg "__name__").getD .none) (ctvz := ctvz) I1z
    refine h h'.objs.size c' _ _ I2z (fun b o e n => ?_) (hTz.ext fun b o e => ?_) nFz upd_same ?_
    · exact (upd_ne (ne_of_none e nFz)).trans e
    · exact (upd_ne (ne_of_none e nFz)).trans e
    · exact (upd_ne (ne_of_none hcoz nFz)).trans hcoz
end
def tLamC (T : List (Addr × Str)) (q : Str) (ar : Arguments) (bo : Expr) (sco : Scope) (cl : List (Str × Addr)) : TE := fun _ H Q => Tabs T H ∧ ∀ (f c' : Addr) (H1 : Hp), ExtN H H1 → Tabs T H1 → H f = none → H1 f = some (LamC f q ar bo sco cl c') → H1 c' = some (CodeO c' q) → Q (.ref f) H1
theorem pe_lamcap {X : Cx} {T : List (Addr × Str)} {c P : Addr} {ar : Arguments} {bo : Expr} {sco : Scope} {lpos : Pos} (TB : TabB X.base X.mg c P) (hcode : X.env.code = .ref c) (hm : (P, X.env.qual ++ "<lambda>") ∈ T) (hu : ∀ p ∈ T, p.1 = P → p.2 = X.env.qual ++ "<lambda>")
    (hdef : defaultsOf ar X.env = ([], [])) (L : LamS X.env.scope sco) : PE X (.Lambda ar bo sco lpos) (tLamC T (X.env.qual ++ "<lambda>") ar bo sco (cloFrom X.env.cells sco.names [])) :=
  ⟨fun pins s σ H Q Iz h => lam_makeC Iz TB hcode hm hu h.1 hdef (L.has Iz.ok) fun f c' H1 s' I1z e t n l c => ⟨.ref f, H1, I1z, rfl, h.2 f c' H1 e t n l c⟩⟩
/-! ### it is called in a def that got it -/
/-- a lambda of no parameters with its reading -/
structure LamT where
  ar : Arguments
  bo : Expr
  sco : Scope
  t : XK → TE
structure LamR (X : Cx) (k : Nat) (l : LamT) : Prop where
  L : LamS X.env.scope l.sco
  bind : ∀ (q : Str) (cl : List (Str × Addr)) (pm cv ctv : Value), bindArgs (PySem.W.kla_fn "<lambda>" q l.ar l.bo l.sco cl pm cv ctv) ⟨[], []⟩ = pure []
  body : ∀ (A : Around) (outer : List Env) (s : Shared) (H : Hp) (E : XK) (f c' : Addr), Room k (A.deeper (lamEnv X l.sco s.heap.objs.size f c')) → PE (lamCx X A outer s H E l.sco f c') l.bo (l.t E)
section
variable {X : Cx} {pins : List (Addr × Obj)} {σ : L2.St} {H HZ : Hp} {s s1 : Shared}
theorem pe_actC {Cg : CXT} {Eg : XK} {Ng : List Str} {qg : Str} {sg : Scope} {g f c' : Addr} {cdg : Value} {l : LamT} {k i : Nat} {a : Str} {pn : List (Addr × Obj)} {xe : Value → Shared → Prop} {Wz : WX} {Ez : XK} {p1 p2 : Pos}
    (Iz : Inv X pins σ H s) (R : LamR X k l) (tk : Takes ((cxOf Cg X.prog X.w X.K X.mg X.base Ng qg sg g cdg X.A X.stack s H Eg).tr pn xe) Wz) (hWz : ∀ cls d σ' H', Ez cls d H' → Wz cls d σ' H') (hrz : Room (k + 1) (X.A.deeper (envOfC qg sg s.heap.objs.size g cdg)))
    (hNz : Ng[i]? = some a) (hvz : Vis sg a) (hd : (a == ("__debug__" : Str)) = false := by decide) (hcd : (a == ("__classdict__" : Str)) = false := by decide) :
    PE ((cxOf Cg X.prog X.w X.K X.mg X.base Ng qg sg g cdg X.A X.stack s H Eg).tr pn xe) (.Call (.Name a p1) [] [] p2)
      (fun σZ HZ Q => σZ[i]? = some (some (.ref f)) ∧ HZ c' = some (CodeO c' (X.env.qual ++ "<lambda>")) ∧ HZ f = some (LamC f (X.env.qual ++ "<lambda>") l.ar l.bo l.sco (cloFrom X.env.cells l.sco.names []) c') ∧ l.t Ez σ HZ Q) := by
  refine ⟨fun pinsY sY σY HY Qy IY h => ?_⟩
  obtain ⟨hs, hcz, hfz, htz⟩ := h
  refine wpAny_Call_Name_kw (thn ((pe_var (pos := p1) (i := i) hNz hvz hd hcd).run pinsY sY σY HY (fun v H1 => v = .ref f ∧ H1 = HY) IY ⟨.ref f, hs, rfl, rfl⟩) fun u s1 ⟨v, H1, I1z, r1z, qz⟩ => ?_)
  obtain ⟨ev, eH⟩ := qz
  subst ev
  rw [eH] at I1z
  obtain rfl : u = Value.ref f := r1z
  obtain ⟨pmz, ctvz, hoz⟩ := lamC_at I1z.hok hfz
  refine PySem.W.callWith_F0 ⟨_, _, _, _, hoz⟩ ?_
  have unz : Un (frs X.stack) [] H HY s.heap s1.heap := I1z.base
  obtain ⟨⟨oc, vs, t, hoc, hdc, hvc⟩, _, _⟩ := I1z.hok c' _ hcz
  have rcz : codeAny (model X.prog X.w) (X.A.deeper (envOfC qg sg s.heap.objs.size g cdg)) (.call (.ref f) ⟨[], []⟩) (CR (L2.CX X.prog X.w) (envOfC qg sg s.heap.objs.size g cdg :: X.stack) X.prog X.w HY s1 Qy Ez) s1 := by
    refine PySem.W.kla_callFunE hrz.depth hoz rfl R.L.co R.L.gen rfl ⟨c', oc, vs, t, rfl, hoc, hdc, hvc⟩ ?_
    rw [R.bind]
    refine wpAny_pure (wpAny_newFunctionEnv (fun y hy => (R.L.own y hy).2) (fun y hy => absurd hy (by simp)) (fun h₁z hnsz hsbz => ⟨I1z.nolimit.fresh _ hsbz, ?_⟩) R.L.kind)
    show codeAny _ _ (.expr l.bo (lamEnv X l.sco s1.heap.objs.size f c')) _ _
    have kpz : ∀ b o, s1.heap.get? b = some o → h₁z.get? b = some o := fun b o e => hsbz.extBut b o (Nat.ne_of_lt (Heap.lt_size e)) (Heap.get?_push_of_some _ e)
    have Jz : Inv (lamCx X (X.A.deeper (envOfC qg sg s.heap.objs.size g cdg)) (envOfC qg sg s.heap.objs.size g cdg :: X.stack) s1 HY Ez l.sco f c') [] σ HY { s1 with heap := h₁z, toks := s1.toks + ([] : List (Str × Value)).length } :=
      lam_start2 Iz R.L I1z.env0 hrz.hd unz hnsz kpz
    refine PySem.W.kla_codeExpr (wpAny_mono ((R.body _ _ s1 HY Ez f c' (hrz.deeper _)).run [] _ _ HY Qy Jz htz) (fun v s' hqz => ?_) fun e s' hqz => hqz)
    obtain ⟨w', H', J', rv, q⟩ := hqz
    exact ⟨_, _, J'.os, J'.bare, J'.base, J'.hok, rv, q⟩
  have hxz : Passes (L2.CX X.prog X.w) ((cxOf Cg X.prog X.w X.K X.mg X.base Ng qg sg g cdg X.A X.stack s H Eg).tr pn xe) Ez := passes_call tk hWz
  refine wpAny_call (codeAny_mono rcz fun r s' hqz => ?_)
  cases r with
  | error e => exact hxz pinsY σY HY s1 e s' I1z hqz
  | ok fl =>
    cases fl with
    | ret u => exact I1z.after hqz
    | next => exact False.elim hqz
    | brk => exact False.elim hqz
    | cont => exact False.elim hqz
/-- x(y), y holds one of the lambdas l j -/
def tLamL (TT : (XK → Hp → VK → Prop) → Hp → VK → Prop) (i n : Nat) (q : Str) (cells : List (Str × Addr)) (l : Nat → LamT) : TE := fun σ H Q => ∃ (j : Nat) (f c' : Addr), j < n ∧ σ[i]? = some (some (.ref f)) ∧ H f = some (LamC f q (l j).ar (l j).bo (l j).sco (cloFrom cells (l j).sco.names []) c') ∧ H c' = some (CodeO c' q) ∧
  TT (fun E H' Q' => H' f = some (LamC f q (l j).ar (l j).bo (l j).sco (cloFrom cells (l j).sco.names []) c') ∧ (l j).t E σ H' Q') H Q
theorem pe_lamlate {TT : (XK → Hp → VK → Prop) → Hp → VK → Prop} {x a y : Str} {g : Addr} {k i n : Nat} {pg : Arguments} {bg : List Stmt} {sg : Scope} {dV kV doc pm cdv ct oc : Value} {an od : Option Addr} {osl : Array (Option Value)} {Ng : List Str} {l : Nat → LamT} {p py pos : Pos}
    (hg : Gl X x) (hmz : X.mg x = some (.ref g)) (hkz : PySem.W.keepIn X.K (.ref g) = true)
    (lkz : X.K.lookup g = some ⟨oc, od, .func (PySem.W.fnOf x x pg bg sg dV kV doc pm an cdv ct), osl⟩) (hcz : PySem.W.codeIn X.K cdv x = true) (hbz : L2.Binds X.K (PySem.W.fnOf x x pg bg sg dV kV doc pm an cdv ct) [a] []) (Sg : FnScope Ng [a] sg) (hNg : Ng[0]? = some a) (hva : Vis sg a)
    (hG : GivesTo X Ng x sg g cdv bg a (X.env.qual ++ "<lambda>") TT) (hrz : Room (k + 2) X.A) (R : ∀ j, j < n → LamR X k (l j)) (hNy : X.N[i]? = some y) (hvy : Vis X.env.scope y)
    (hdb : (x == ("__debug__" : Str)) = false := by decide) (hd : (a == ("__debug__" : Str)) = false := by decide) (hcd : (a == ("__classdict__" : Str)) = false := by decide) (hdy : (y == ("__debug__" : Str)) = false := by decide) (hcy : (y == ("__classdict__" : Str)) = false := by decide) :
    PE X (.Call (.Name x p) [.Name y py] [] pos) (tLamL TT i n (X.env.qual ++ "<lambda>") X.env.cells l) := by
  refine ⟨fun pins s σ H Q Iz h => ?_⟩
  obtain ⟨j, f, c', hj, hs, hf, hco, hT⟩ := h
  refine wpAny_Call_Name_kw (ld_glob Iz hg hmz ?_ hdb)
  refine PySem.W.callWith_K (h₀ := X.base) Iz.ok.mod.kin hkz ?_ (by rfl) (by rfl)
  show wpAny _ _ (spliced ((false, eval (.Name y py) X.env) :: backTo pos (starEach [] X.env))) _ _ s
  refine Calls.spliced_cons (thn ((pe_var (pos := py) (i := i) hNy hvy hdy hcy).run pins s σ H (fun v H1 => v = .ref f ∧ H1 = H) Iz ⟨.ref f, hs, rfl, rfl⟩) fun u s1 ⟨v, H1, I1z, r1z, qz⟩ => ?_)
  obtain ⟨ev, eH⟩ := qz
  subst ev
  rw [eH] at I1z
  obtain rfl : u = Value.ref f := r1z
  refine Calls.spliced_nil ⟨I1z.kIn, ?_⟩
  have rcz : codeAny (model X.prog X.w) X.A (.call (.ref g) ⟨[.ref f], []⟩) (CR C8.CX0 X.stack X.prog X.w H s1 Q C8.E0) s1 := by
    refine run_ofS (N := Ng) (ps := [a]) (us := [.ref f]) (vs := [.ref f]) lkz hcz Sg hrz I1z.env0 (hbz s1 [.ref f] I1z.kIn rfl) (.cons rfl .nil) rfl fun hr' => ?_
    obtain ⟨t', ht', hq'⟩ := hG f c' s1 H Q (fun E H' Q' => H' f = some (LamC f (X.env.qual ++ "<lambda>") (l j).ar (l j).bo (l j).sco (cloFrom X.env.cells (l j).sco.names []) c') ∧ (l j).t E σ H' Q')
      (fun W pn xe E p1 p2 tk hW => pe_actC (i := 0) I1z (R j hj) tk hW hr' hNg hva hd hcd) hco hT
    exact ⟨t', ht'.nox, hq'⟩
  refine wpAny_call (codeAny_mono rcz fun r s2 hqz => ?_)
  cases r with
  | error e => exact (show False from hqz).elim
  | ok fl =>
    cases fl with
    | ret u => exact I1z.after hqz
    | next => exact False.elim hqz
    | brk => exact False.elim hqz
    | cont => exact False.elim hqz
end
end Rg
namespace Rg
open PySem PySem.Spec PyProof.Rows L2 LamX NdefX
section
variable {X : Cx}
/-- [elt for target in iter if ..], whose tests may look at how things stood in the frame when the list was begun -/
theorem pe_lcF {Ex : XK} {elt tg iter : Expr} {ifs : List Expr} {scope : Scope} {own : List (Str × Nat)} {pos : Pos} {wi : TI} {g : TG} {tt : TT} {te : TE} (hst : X.stack = X.env :: X.outer) (hf : X.env.frame = some X.env.locals) (tk : Takes X fun cls d _ H => Ex cls d H)
    (hc : X.calm = true) (hN : X.N.Nodup) (hi : PI X tg iter wi) (ok : BlkOk X.N X.env.scope scope own) (hg : ∀ (s : Shared) (H : Hp) (C : Addr) (cl : List (Str × Addr)) (fp : List Addr), PG (X.blk s H scope (compEnvC scope cl C X.env) fp) tg g)
    (ht : ∀ (pins0 : List (Addr × Obj)) (σ0 : L2.St) (s : Shared) (H : Hp) (C : Addr) (cl : List (Str × Addr)) (fp : List Addr), Inv X pins0 σ0 H s → (∀ b ∈ fp, FpOk X pins0 H b ∧ b < s.heap.objs.size) →
      PTs (X.blk s H scope (compEnvC scope cl C X.env) fp) ifs (fun σ1 H1 Q1 => wipe σ1 (own.map (·.2)) = wipe σ0 (own.map (·.2)) ∧ tt σ1 H1 Q1))
    (he : ∀ (s : Shared) (H : Hp) (C : Addr) (cl : List (Str × Addr)) (fp : List Addr) (E : Value → Shared → Prop), (∀ (pins : List (Addr × Obj)) (σ : L2.St) (H1 : Hp) (s1 : Shared) (u : Value) (s2 : Shared), Inv (X.blk s H scope (compEnvC scope cl C X.env) fp) pins σ H1 s1 → L2.CX X.prog X.w X.stack H1 s1 Ex u s2 → E u s2) →
      PE ((X.blk s H scope (compEnvC scope cl C X.env) fp).wish E) elt te) (hs : ∀ x, foldedSetIterable iter X.env x = pure x := by intro _; rfl) :
    PE X (.ListComp elt [⟨tg, iter, ifs, 0⟩] scope pos) (tLc wi g tt te (own.map (·.2))) := by -- as a value
  refine .mk (fun pins s σ H Q I h => ?_)
  rw [eval_ListComp]
  have hfq : ∀ y ∈ scope.names, y.2 = .free → ∃ c, X.env.cells.lookup y.1 = some c := fun y hy e => by
    exact (ok.free y hy e).elim (fun k => I.ok.has _ (.inl k)) fun k => I.ok.has _ (.inr k)
  refine comp_freeX rfl hs (closure_ok hfq) ok.kind (fun y hy e => by rw [ok.uniq y hy, e])
    (thn (hi.run pins s σ H _ I h) fun xw sa hxx => thn hxx fun itw sB hh2 => ?_)
  obtain ⟨it, fpp, tnn, Jt, Hb, e, Ib, Tt, stb, fb, q⟩ := hh2
  subst e
  refine wpAny_newObj_type (newEnv_comp (?_)) (by show 0 ≤ sizeLine; decide)
  generalize hDa : sB.heap.objs.size = D
  have hDnn : Hb D = none := Ib.hok.fresh (Nat.le_of_eq hDa)
  obtain ⟨Wm, ⟨m00, wa⟩, trn⟩ := q D hDnn
  generalize hs3a : ({ sB with heap := sB.heap.push { cls := .type "list", data := .seq ([] : List Value).toArray } } : Shared) = sc
  have Ic : Inv X pins σ (upd Hb D (.lst [])) sc := by
    rw [← hs3a]
    refine Ib.laid (t' := sB.toks) (fun b o e => Heap.get?_push_of_some _ e) (Nat.le_of_eq hDa) ⟨Nat.zero_le _, [], 0, .nil, ?_⟩
    rw [← hDa]
    exact (Heap.get?_push_size _ rfl)
  have hh3 : sc.heap = sB.heap.push { cls := .type "list", data := .seq ([] : List Value).toArray } := by rw [← hs3a]
  have szz : ∀ b ∈ fpp, b < sB.heap.objs.size := fun b hb => by
    obtain ⟨o, e, _⟩ := Tt.obj _ _ stb b hb
    exact Heap.lt_size e
  have fc : ∀ b ∈ fpp, FpOk X pins (upd Hb D (.lst [])) b ∧ b < sc.heap.objs.size := fun b hb => by
    have hlt := szz b hb
    refine ⟨⟨?_, (fb b hb).2⟩, by rw [hh3, Heap.size_push]; exact Nat.lt_succ_of_lt hlt⟩
    rw [upd_ne (by rw [← hDa]; exact Nat.ne_of_lt hlt)]
    exact (fb b hb).1
  have stc : tnn 0 sc.heap := Tt.keep _ _ _ stb fun b _ o e => by rw [hh3]; exact Heap.get?_push_of_some _ e
  have Id := block_start Ic ok hN fc
  have pgg := hg sc (upd Hb D (.lst [])) sc.heap.objs.size (cellsFrom (sc.heap.objs.size + 1) scope.names (cloFrom X.env.cells scope.names [])) fpp
  have ptt := ht pins σ sc (upd Hb D (.lst [])) sc.heap.objs.size (cellsFrom (sc.heap.objs.size + 1) scope.names (cloFrom X.env.cells scope.names [])) fpp Ic fc
  have pee := he sc (upd Hb D (.lst [])) sc.heap.objs.size (cellsFrom (sc.heap.objs.size + 1) scope.names (cloFrom X.env.cells scope.names [])) fpp
  show codeAny _ _ (.compStart (.ListComp elt [⟨tg, iter, ifs, 0⟩] scope pos) 0 (.ref it) (.ref D) (compEnvC scope (cellsFrom (sc.heap.objs.size + 1) scope.names (cloFrom X.env.cells scope.names [])) sc.heap.objs.size X.env)) (postX (model X.prog X.w) X.A X.xe (EP X pins σ Q) (.ref D) sc.heap.objs.size (compEnvC scope (cellsFrom (sc.heap.objs.size + 1) scope.names (cloFrom X.env.cells scope.names [])) sc.heap.objs.size X.env)) { sc with heap := pushCells (sc.heap.push { cls := .type "dict", data := .dict #[] }) scope.names }
  have nfq : ∀ b ∈ fpp, (upd Hb D (.lst [])) b = none := fun b hb => (fc b hb).1.1
  generalize hcee : compEnvC scope (cellsFrom (sc.heap.objs.size + 1) scope.names (cloFrom X.env.cells scope.names [])) sc.heap.objs.size X.env = cen at Id pgg ptt pee ⊢
  have cLl : cen.locals = sc.heap.objs.size := by subst hcee; rfl
  have cFf : cen.frame = X.env.frame := by subst hcee; rfl
  generalize hHc : upd Hb D (.lst []) = Hc at Ic Id pgg ptt pee wa nfq fc
  generalize hs4a : ({ sc with heap := pushCells (sc.heap.push { cls := .type "dict", data := .dict #[] }) scope.names } : Shared) = sd at Id ⊢
  have std : tnn 0 sd.heap := Tt.keep _ _ _ stc fun b _ o e => by rw [← hs4a]; exact pushCells_keeps _ _ _ _ (Heap.get?_push_of_some _ e)
  have stt : ∀ {σ' : L2.St} {H' : Hp} {s' : Shared}, Inv (X.blk sc Hc scope cen fpp) [] σ' H' s' → (∀ b ∈ fpp, H' b = none) → ∀ b ∈ fpp, FpOk (X.blk sc Hc scope cen fpp) [] H' b := fun {σ' H' s'} I' hn b hb =>
    ⟨hn b hb, (I'.ok.exf b hb).1, (I'.ok.exfs b hb), .inl hb, fun x c e => (I'.ok.exf b hb).2 x c e, fun p hp => absurd (show p ∈ ([] : List (Addr × Obj)) ++ [] from hp) (by simp)⟩
  have lpp : codeAny (model X.prog X.w) X.A (.compLoop (.ListComp elt [⟨tg, iter, ifs, 0⟩] scope pos) 0 (.ref it) (.ref D) cen) (postX (model X.prog X.w) X.A X.xe (EP X pins σ Q) (.ref D) sc.heap.objs.size cen) sd := by
    refine compLoop_any (fun n s' => ∃ i H', Inv (X.blk sc Hc scope cen fpp) [] (wipe σ (own.map (·.2))) H' s' ∧ tnn i s'.heap ∧ (∀ b ∈ fpp, H' b = none) ∧ Wm i n H') ?_ m00 ⟨0, Hc, Id, std, nfq, wa⟩
    rintro n se ⟨i, He, Ie, ste, n5a, w5a⟩
    rcases trn i n He w5a with ⟨stpp, qq⟩ | ⟨goo, Nxx, hNxx, stp⟩
    · have tdd := Tt.done (X.blk sc Hc scope cen fpp) rfl rfl rfl hc i [] se _ He (fun _ _ => False) Ie (stt Ie n5a) ste stpp
      refine thnF tdd fun r sf ⟨hr, Ig⟩ => ?_
      subst hr
      have Ih : Inv X pins σ He sf := Ic.call' (ch := fpp) Ig.os Ig.base Ig.hok Ig.bare fun b hb => ⟨(fc b hb).1.2.2.2.1, (fc b hb).1.2.1, (fc b hb).1.2.2.2.2.1, (fc b hb).1.2.2.2.2.2⟩
      have nC : He sc.heap.objs.size = none := by
        have z : He cen.locals = none := Ig.free
        rw [cLl] at z
        exact z
      obtain ⟨m, hn, _⟩ := Ig.loc
      have hn : sf.heap.Ns cen.locals m := hn
      rw [cLl] at hn
      refine ⟨m, hn, fun hz sb => ?_⟩
      obtain ⟨z0, z1, z2, z3, z4, z5⟩ := Ic.fpOk (Nat.le_refl _) nC
      exact ⟨.ref D, He, Ih.turned (t' := sf.toks) (fun b o hb e => (sb.2 b hb).trans e) z0 z1 z3 z4 z5, rfl, qq⟩
    · have tii := Tt.item (X.blk sc Hc scope cen fpp) rfl rfl rfl hc i [] se _ He (fun _ _ => False) Ie (stt Ie n5a) ste goo
      refine thnF tii fun r sf ⟨u, hr, h6⟩ => ?_
      subst hr
      refine thnF h6 fun _ sg ⟨x, Hg, Ih, r7a, y7a, stg, n7a⟩ => ?_
      have Ihp := Ih.pinned (stt Ih n7a) (Tt.obj _ _ stg)
      refine thnF (pgg.run _ sg _ Hg x u _ Ihp r7a (stp x Hg y7a)) fun _ sh ⟨σh, Hh, Ij, hwx, q8a⟩ => ?_
      refine thnF (ptt.run _ sh σh Hh _ Ij ⟨hwx, q8a⟩) fun b si ⟨Hi, Ik, q9a⟩ => ?_
      have fnn : ∀ {s' : Shared} {H' : Hp}, Inv (X.blk sc Hc scope cen fpp) ([] ++ pinsAt fpp sg.heap) σh H' s' → Nxx H' → ∃ m, m < n ∧ ∃ i H', Inv (X.blk sc Hc scope cen fpp) [] (wipe σ (own.map (·.2))) H' s' ∧ tnn i s'.heap ∧ (∀ b ∈ fpp, H' b = none) ∧ Wm i m H' := fun {s' H'} I' nxx => by
        obtain ⟨m', hm, w'⟩ := hNxx H' nxx
        have pinq : ∀ b ∈ fpp, ∀ o, sg.heap.get? b = some o → s'.heap.get? b = some o ∧ H' b = none := fun b hb o e =>
          let z := (I'.pin (b, o) (List.mem_append_right _ (List.mem_append_right _ (mem_pinsAt hb e))))
          ⟨z.1, z.2.1⟩
        have hll : (wipe σ (own.map (·.2))).length = σh.length := by rw [← hwx, wipe_length]
        refine ⟨m', hm, i + 1, H', (I'.unpinned (pins := [])).weak hll (fun j v e => ?_), Tt.keep _ _ _ stg fun b hb o e => (pinq b hb o e).1, fun b hb => ?_, w'⟩
        · rw [← hwx] at e
          exact (wipe_some e).1
        · obtain ⟨o, e, _⟩ := Tt.obj _ _ stg b hb
          exact (pinq b hb o e).2
      cases b with
      | false =>
        simp only [Bool.false_eq_true, if_false] at q9a ⊢
        exact fnn Ik q9a
      | true =>
        simp only [if_true] at q9a ⊢
        refine wpAny_mono ((pee (fun u t => ∃ pz σz Hz tz, Inv (X.blk sc Hc scope cen fpp) pz σz Hz tz ∧ L2.CX X.prog X.w X.stack Hz tz Ex u t) fun pz σz Hz tz u t J c => ⟨pz, σz, Hz, tz, J, c⟩).run _ si σh Hi _ (Ik.wish _) q9a) (fun z sj hq => ?_) fun u t ⟨pz, σz, Hz, tz, Jz, cz⟩ => lc_raise hst hf tk Ic fc Jz cLl cFf cz
        obtain ⟨yvv, Hj, Il', r10a, accx, hDz, hzz, nxx⟩ := hq
        have Il := Il'.unwish
        exact app_ok (X := X.blk sc Hc scope cen fpp) Il hDz hzz r10a fun sk Im => fnn Im nxx
  exact codeAny_compStart_list lpp (Tt.self X.A 0 _ _ _ std lpp)
/-- x(y) in a comprehension's test, y holds one of the lambdas l j of the frame around it -/
def tLamB (vs : List Nat) (TT : (XK → Hp → VK → Prop) → Hp → VK → Prop) (i n : Nat) (q : Str) (cells : List (Str × Addr)) (l : Nat → LamT) : TE := fun σ H Q => ∃ (j : Nat) (f c' : Addr), j < n ∧ σ[i]? = some (some (.ref f)) ∧ H f = some (LamC f q (l j).ar (l j).bo (l j).sco (cloFrom cells (l j).sco.names []) c') ∧ H c' = some (CodeO c' q) ∧
  TT (fun E H' Q' => H' f = some (LamC f q (l j).ar (l j).bo (l j).sco (cloFrom cells (l j).sco.names []) c') ∧ (l j).t E (wipe σ vs) H' Q') H Q
theorem pe_lamB {TT : (XK → Hp → VK → Prop) → Hp → VK → Prop} {x a y : Str} {g : Addr} {k i n : Nat} {pg : Arguments} {bg : List Stmt} {sg : Scope} {dV kV doc pm cdv ct oc : Value} {an od : Option Addr} {osl : Array (Option Value)} {Ng : List Str} {l : Nat → LamT} {p py pos : Pos}
    {pins0 : List (Addr × Obj)} {σ0 : L2.St} {s0 : Shared} {H0 : Hp} {scope : Scope} {C : Addr} {cl : List (Str × Addr)} {fp : List Addr} {vs : List Nat} (I0 : Inv X pins0 σ0 H0 s0) (f0 : ∀ b ∈ fp, FpOk X pins0 H0 b ∧ b < s0.heap.objs.size)
    (hg : Gl (X.blk s0 H0 scope (compEnvC scope cl C X.env) fp) x) (hmz : X.mg x = some (.ref g)) (hkz : PySem.W.keepIn X.K (.ref g) = true)
    (lkz : X.K.lookup g = some ⟨oc, od, .func (PySem.W.fnOf x x pg bg sg dV kV doc pm an cdv ct), osl⟩) (hcz : PySem.W.codeIn X.K cdv x = true) (hbz : L2.Binds X.K (PySem.W.fnOf x x pg bg sg dV kV doc pm an cdv ct) [a] []) (Sg : FnScope Ng [a] sg) (hNg : Ng[0]? = some a) (hva : Vis sg a)
    (hG : GivesTo X Ng x sg g cdv bg a (X.env.qual ++ "<lambda>") TT) (hrz : Room (k + 2) X.A) (R : ∀ j, j < n → LamR X k (l j)) (hNy : X.N[i]? = some y) (hvy : Vis (X.blk s0 H0 scope (compEnvC scope cl C X.env) fp).env.scope y)
    (hdb : (x == ("__debug__" : Str)) = false := by decide) (hd : (a == ("__debug__" : Str)) = false := by decide) (hcd : (a == ("__classdict__" : Str)) = false := by decide) (hdy : (y == ("__debug__" : Str)) = false := by decide) (hcy : (y == ("__classdict__" : Str)) = false := by decide) :
    PE (X.blk s0 H0 scope (compEnvC scope cl C X.env) fp) (.Call (.Name x p) [.Name y py] [] pos) (fun σ1 H1 Q1 => wipe σ1 vs = wipe σ0 vs ∧ tLamB vs TT i n (X.env.qual ++ "<lambda>") X.env.cells l σ1 H1 Q1) := by
  refine ⟨fun pins s σ H Q Iz h => ?_⟩
  obtain ⟨hw, j, f, c', hj, hs, hf, hco, hT⟩ := h
  refine wpAny_Call_Name_kw (ld_glob Iz hg hmz ?_ hdb)
  refine PySem.W.callWith_K (h₀ := X.base) Iz.ok.mod.kin hkz ?_ (by rfl) (by rfl)
  show wpAny _ _ (spliced ((false, eval (.Name y py) (compEnvC scope cl C X.env)) :: backTo pos (starEach [] (compEnvC scope cl C X.env)))) _ _ s
  refine Calls.spliced_cons (thn ((pe_var (X := X.blk s0 H0 scope (compEnvC scope cl C X.env) fp) (pos := py) (i := i) hNy hvy hdy hcy).run pins s σ H (fun v H1 => v = .ref f ∧ H1 = H) Iz ⟨.ref f, hs, rfl, rfl⟩) fun u s1 ⟨v, H1, I1z, r1z, qz⟩ => ?_)
  obtain ⟨ev, eH⟩ := qz
  subst ev
  rw [eH] at I1z
  obtain rfl : u = Value.ref f := r1z
  refine Calls.spliced_nil ⟨I1z.kIn, ?_⟩
  have Iw : Inv X pins0 σ0 H s1 := I0.call' (ch := fp) I1z.os I1z.base I1z.hok I1z.bare fun b hb => ⟨(f0 b hb).1.2.2.2.1, (f0 b hb).1.2.1, (f0 b hb).1.2.2.2.2.1, (f0 b hb).1.2.2.2.2.2⟩
  have Iv : Inv X pins0 (wipe σ vs) H s1 := by
    rw [hw]
    exact Iw.weak (by rw [wipe_length]) fun j v e => (wipe_some e).1
  have rcz : codeAny (model X.prog X.w) X.A (.call (.ref g) ⟨[.ref f], []⟩) (CR C8.CX0 X.stack X.prog X.w H s1 Q C8.E0) s1 := by
    refine run_ofS (N := Ng) (ps := [a]) (us := [.ref f]) (vs := [.ref f]) lkz hcz Sg hrz Iv.env0 (hbz s1 [.ref f] Iv.kIn rfl) (.cons rfl .nil) rfl fun hr' => ?_
    obtain ⟨t', ht', hq'⟩ := hG f c' s1 H Q (fun E H' Q' => H' f = some (LamC f (X.env.qual ++ "<lambda>") (l j).ar (l j).bo (l j).sco (cloFrom X.env.cells (l j).sco.names []) c') ∧ (l j).t E (wipe σ vs) H' Q')
      (fun W pn xe E p1 p2 tk hW => pe_actC (i := 0) Iv (R j hj) tk hW hr' hNg hva hd hcd) hco hT
    exact ⟨t', ht'.nox, hq'⟩
  refine wpAny_call (codeAny_mono rcz fun r s2 hqz => ?_)
  cases r with
  | error e => exact (show False from hqz).elim
  | ok fl =>
    cases fl with
    | ret u => exact I1z.after hqz
    | next => exact False.elim hqz
    | brk => exact False.elim hqz
    | cont => exact False.elim hqz
end
end Rg
namespace K
open PySem L2 Rg
open Evl (pss_cut)
def top (i : Nat) : Stmt := PySem.Challenge.pw_ringbars_k12_arms_and_arcs_bar_by_bar.main.body.getD i (.Pass ⟨0, 0, 0, 0⟩)
abbrev sWall : Stmt := top 0
abbrev sIsInteger : Stmt := top 2
abbrev sIsWithin : Stmt := top 3
abbrev sIsList : Stmt := top 4
abbrev sArePositive : Stmt := top 5
abbrev sBadRingInit : Stmt := inClass (top 8) 0
abbrev sBadNumberInit : Stmt := inClass (top 9) 0
abbrev sMissingInit : Stmt := inClass (top 10) 0
abbrev sTwiceInit : Stmt := inClass (top 12) 0
abbrev sTooManyInit : Stmt := inClass (top 13) 0
abbrev sBadTextInit : Stmt := inClass (top 14) 0
abbrev sWantNumber : Stmt := top 16
abbrev sWantCorner : Stmt := top 17
abbrev sWantTwoCorners : Stmt := top 18
abbrev sItemsOf : Stmt := top 21
abbrev sIntegerOf : Stmt := top 22
abbrev sItemAt : Stmt := top 23
abbrev sNumberAt : Stmt := top 24
abbrev sRingInit : Stmt := inClass (top 29) 0
abbrev sRingLen : Stmt := inClass (top 29) 1
abbrev sRingEq : Stmt := inClass (top 29) 2
abbrev sRingStr : Stmt := inClass (top 29) 3
abbrev sRingLengthOf : Stmt := inClass (top 29) 4
abbrev sRingSortOf : Stmt := inClass (top 29) 5
abbrev sRingWithLength : Stmt := inClass (top 29) 6
abbrev sRingBegunAt : Stmt := inClass (top 29) 7
abbrev sRingBackwards : Stmt := inClass (top 29) 8
abbrev sRingInOrder : Stmt := inClass (top 29) 9
abbrev sRingAsOne : Stmt := inClass (top 29) 10
abbrev sRingInTwo : Stmt := inClass (top 29) 11
abbrev sRingRead : Stmt := inClass (top 29) 12
abbrev sAreLengths : Stmt := top 30
abbrev sHasLevel : Stmt := top 31
abbrev sReadRing : Stmt := top 32
abbrev sWantRing : Stmt := top 33
abbrev sArcBars : Stmt := top 36
abbrev sArmRange : Stmt := top 37
abbrev sArcRange : Stmt := top 38
abbrev sLwPen : Stmt := top 40
abbrev sLwDraw : Stmt := top 41
abbrev sLwPick : Stmt := top 42
abbrev sLwReach : Stmt := top 43
abbrev sLwArc : Stmt := top 44
abbrev sLwMixed : Stmt := top 45
abbrev sLwHeard : Stmt := top 46
abbrev sLwLength : Stmt := top 47
abbrev sLwArmRight : Stmt := top 48
abbrev sLwArcsRight : Stmt := top 49
abbrev sLwRefusedRight : Stmt := top 50
abbrev sLaw : Stmt := top 51

/-- all but what stands at p is as it was -/
def But (p : Addr) (H H' : Hp) : Prop := ∀ b o, b ≠ p → H b = some o → H' b = some o
theorem But.refl (p : Addr) (H : Hp) : But p H H := fun _ _ _ h => h
theorem But.trans {p : Addr} {H H1 H2 : Hp} (a : But p H H1) (b : But p H1 H2) : But p H H2 := fun c o n h => b c o n (a c o n h)
theorem But.new {p q : Addr} {H H' : Hp} {o : HO} (a : But p H H') (n : H' q = none) : But p H (upd H' q o) := fun c u hc h => by
  have e := a c u hc h
  rw [upd_ne (ne_of_none e n)]
  exact e
theorem But.at {p : Addr} {H H' : Hp} {o : HO} (a : But p H H') : But p H (upd H' p o) := fun c u hc h => by
  rw [upd_ne hc]
  exact a c u hc h
theorem But.seq {K : PySem.W.Frag} {p a : Addr} {H H' : Hp} {xs : List V} (e : But p H H') (n : a ≠ p) (h : SqL K H a xs) : SqL K H' a xs := by
  rcases h with (h | ⟨o, h⟩) | h
  · exact .inl (.inl (e _ _ n h))
  · exact .inl (.inr ⟨o, e _ _ n h⟩)
  · exact .inr h
/-- the pen: its cells, how many were begun (at most n), what a great one has left -/
structure PenAt (K : PySem.W.Frag) (H : Hp) (p : Addr) (e : Addr × List Int) (n : Nat) : Prop where
  ex : ∃ (at' rest : Int), H p = some (.lst [.ref e.1, .int at', .int rest]) ∧ 0 ≤ at' ∧ at' ≤ n ∧ 0 ≤ rest
  sq : SqL K H e.1 (e.2.map V.int)
  np : e.1 ≠ p
  ln : e.2.length ≤ 62
theorem But.of {p : Addr} {H H' : Hp} (e : Same H H') : But p H H' := fun b o _ h => e b o h
theorem But.mut {p q : Addr} {H H' : Hp} {o : HO} (a : But p H H') (n : H q = none) : But p H (upd H' q o) := fun c u hc h => by
  have e := a c u hc h
  rw [upd_ne (ne_of_none h n)]
  exact e
theorem But.free {p q : Addr} {H H' : Hp} (a : But p H H') (hq : q ≠ p) (n : H' q = none) : H q = none := by
  cases e : H q with
  | none => rfl
  | some o =>
    rw [a q o hq e] at n
    cases n
theorem But.tup {K : PySem.W.Frag} {p a : Addr} {H H' : Hp} {xs : List V} (e : But p H H') (n : a ≠ p) (h : SqT K H a xs) : SqT K H' a xs := by
  rcases h with (h | ⟨o, h⟩) | h
  · exact .inl (.inl (e _ _ n h))
  · exact .inl (.inr ⟨o, e _ _ n h⟩)
  · exact .inr h
theorem _root_.L2.Same.new {q : Addr} {H H' : Hp} {o : HO} (a : Same H H') (n : H' q = none) : Same H (upd H' q o) := fun c u h => by
  have e := a c u h
  rw [upd_ne (ne_of_none e n)]
  exact e
theorem _root_.L2.Same.mut {q : Addr} {H H' : Hp} {o : HO} (a : Same H H') (n : H q = none) : Same H (upd H' q o) := fun c u h => by
  have e := a c u h
  rw [upd_ne (ne_of_none h n)]
  exact e
theorem _root_.L2.Same.tup {K : PySem.W.Frag} {a : Addr} {H H' : Hp} {xs : List V} (e : Same H H') (h : SqT K H a xs) : SqT K H' a xs := by
  rcases h with (h | ⟨o, h⟩) | h
  · exact .inl (.inl (e _ _ h))
  · exact .inl (.inr ⟨o, e _ _ h⟩)
  · exact .inr h
section
variable {K : PySem.W.Frag} {H H' : Hp} {p q : Addr} {e : Addr × List Int} {n m : Nat} {o : HO}
theorem PenAt.mono (h : PenAt K H p e n) (le : n ≤ m) : PenAt K H p e m := by
  obtain ⟨a, r, h1, h5, h6, h7⟩ := h.ex
  exact ⟨⟨a, r, h1, h5, by omega, h7⟩, h.sq, h.np, h.ln⟩
/-- the pen stands while all that is tracked stands -/
theorem PenAt.same (h : PenAt K H p e n) (s : Same H H') : PenAt K H' p e n := by
  obtain ⟨a, r, h1, h5, h6, h7⟩ := h.ex
  exact ⟨⟨a, r, s _ _ h1, h5, h6, h7⟩, s.seq h.sq, h.np, h.ln⟩
theorem PenAt.some (h : PenAt K H p e n) : ∃ xs, H p = some (.lst xs) := by
  obtain ⟨a, r, h1, _⟩ := h.ex
  exact ⟨_, h1⟩
theorem PenAt.ne (h : PenAt K H p e n) (z : H q = none) : q ≠ p := by
  obtain ⟨xs, h1⟩ := h.some
  exact (ne_of_none h1 z).symm
/-- the pen stands while a new thing is laid -/
theorem PenAt.put (h : PenAt K H p e n) (z : H q = none) : PenAt K (upd H q o) p e n := h.same (Same.new (Same.refl H) z)
/-- .. while a thing is written that was not there ahead -/
theorem PenAt.mut (h : PenAt K H p e m) (h2 : PenAt K H' p e n) (b : But p H H') (z : H q = none) : PenAt K (upd H' q o) p e n := by
  obtain ⟨a, r, h1, h5, h6, h7⟩ := h2.ex
  exact ⟨⟨a, r, by rw [upd_ne (h.ne z).symm]; exact h1, h5, h6, h7⟩, (b.mut z).seq h.np h.sq, h.np, h.ln⟩
end
/-- the built-ins that the text names -/
structure Bi (mg : Str → Option Value) : Prop where
  int : mg "int" = none
  len : mg "len" = none
  abs : mg "abs" = none
  list : mg "list" = none
  tuple : mg "tuple" = none
  bool : mg "bool" = none
  range : mg "range" = none
  sum : mg "sum" = none
  max : mg "max" = none
  all : mg "all" = none
  any : mg "any" = none
  sorted : mg "sorted" = none
  enumerate : mg "enumerate" = none
  isinstance : mg "isinstance" = none
section
variable {K : PySem.W.Frag}
theorem eqv_nil (l : List Int) : PyData.eqv (.list (l.map PyData.int)) (.list []) = l.isEmpty := by
  cases l <;> simp [PyData.eqv, PyData.eqvAll] <;> rfl
theorem dp_ints {H : Hp} : ∀ l : List Int, DpAll K H (l.map V.int) (l.map PyData.int)
  | [] => .nil
  | i :: l => .cons (.int i) (dp_ints l)
theorem lay_ints : ∀ l : List Int, PyData.canLayAll0 (l.map PyData.int) = true
  | [] => by simp [PyData.canLayAll0]
  | i :: l => by simp [PyData.canLayAll0, PyData.canLay0, lay_ints l]
theorem deep_ints : ∀ l : List Int, PyData.depthAll (l.map PyData.int) = 0
  | [] => by simp [PyData.depthAll]
  | i :: l => by simp [PyData.depthAll, PyData.depth, deep_ints l]
theorem shaped_ints (l : List Int) : SeqAt.shaped (.list (l.map PyData.int)) = true := by
  simp [SeqAt.shaped, PyData.canLay0, PyData.depth, lay_ints l, deep_ints l]
end
end K
namespace K
open PySem L2 Rg
open Evl (pss_cut)
/-- the kinds that are asked for -/
def kinds : List String := ["NoneType", "bool", "int", "str", "list", "tuple", "dict"]
theorem kit_int : ∀ k ∈ kinds, kitB k "int" = some (decide (k = "int" ∨ k = "bool")) := by decide +kernel
theorem kit_bool : ∀ k ∈ kinds, kitB k "bool" = some (decide (k = "bool")) := by decide +kernel
theorem kit_list : ∀ k ∈ kinds, kitB k "list" = some (decide (k = "list")) := by decide +kernel
theorem kit_tuple : ∀ k ∈ kinds, kitB k "tuple" = some (decide (k = "tuple")) := by decide +kernel
/-- v is of the kind k -/
def Knd (K : PySem.W.Frag) (H : Hp) (v : V) (k : String) : Prop := TyX K H v (.type k) ∧ k ∈ kinds
section
variable {P : Program} {w : World} {K : PySem.W.Frag} {mg : Str → Option Value} {base : Heap}
theorem Knd.int {H : Hp} {i : Int} : Knd K H (.int i) "int" := ⟨.base (.int i), by decide⟩
theorem tyx_same {H H' : Hp} {v : V} {t : Value} (h : TyX K H v t) (s : Same H H') : TyX K H' v t := by
  cases h with
  | base h =>
    refine .base ?_
    cases h with
    | non => exact .non
    | bl x => exact .bl x
    | int x => exact .int x
    | str x => exact .str x
    | flt x => exact .flt x
    | lst e => exact .lst (s _ _ e)
    | frz e => exact .frz (s _ _ e)
    | tup e => exact .tup (s _ _ e)
    | dK e => exact .dK (s _ _ e)
    | dT e => exact .dT (s _ _ e)
    | ins e cl ha hn htk hm => exact .ins (s _ _ e) cl ha hn htk hm
  | byt b => exact .byt b
  | set e => exact .set (s _ _ e)
  | kList e c => exact .kList e c
  | kTuple e c => exact .kTuple e c
  | kDict e c => exact .kDict e c
  | fTuple e => exact .fTuple (s _ _ e)
  | fDict e => exact .fDict (s _ _ e)
theorem Knd.same {H H' : Hp} {v : V} {k : String} (h : Knd K H v k) (s : Same H H') : Knd K H' v k := ⟨tyx_same h.1 s, h.2⟩
/-! ### is_integer -/
def spIsInt (K : PySem.W.Frag) : Sp := fun vs H Q _ => ∃ (v : V) (k : String), vs = [v] ∧ Knd K H v k ∧ Q (.bl (decide (k = "int"))) H
theorem scIsInt : FnScope ["value"] ["value"] (defScope sIsInteger) := ⟨rfl, rfl, rfl, by decide +kernel, rfl, by decide +kernel, by decide +kernel⟩
theorem ok_isInt {f : Addr} {fd : FuncData} (F : Fun K "is_integer" "is_integer" sIsInteger f fd) (T : Bi mg) : FnOk P w K mg base CX0 1 f fd ["value"] (spIsInt K) := by
  refine F.ok scIsInt (fun vs H Q E h => ?_) (fun cdv A outer s H vs Q E hr h => ?_)
  · obtain ⟨v, k, rfl, _⟩ := h
    rfl
  · refine ⟨_, pss_one (ps_ret (pe_and (pe_callB call_isi (by rfl) T.isinstance (by decide +kernel) (pa_cons (pv 0) (pa_cons (pe_bltn (v := .ty "int") (u := .type "int") (by rfl) T.int (by decide +kernel) rfl) pa_nil)))
      (pe_one (pe_not (pe_callB call_isi (by rfl) T.isinstance (by decide +kernel) (pa_cons (pv 0) (pa_cons (pe_bltn (v := .ty "bool") (u := .type "bool") (by rfl) T.bool (by decide +kernel) rfl) pa_nil))))))), ?_⟩
    obtain ⟨v, k, rfl, ⟨ty, hk⟩, q⟩ := h
    refine ⟨_, rfl, v, .ty "int", _, _, _, rfl, .ty _, ty, kit_ty (kit_int k hk), _, rfl, ?_⟩
    refine ite2 (fun c => ?_) (fun c => ?_)
    · refine ⟨_, rfl, v, .ty "bool", _, _, _, rfl, .ty _, ty, kit_ty (kit_bool k hk), _, rfl, ?_⟩
      have c' : k = "int" ∨ k = "bool" := of_decide_eq_true c
      have e : (!decide (k = "bool")) = decide (k = "int") := by
        rcases c' with rfl | rfl <;> decide
      rw [e]
      exact q
    · have c' : ¬ (k = "int" ∨ k = "bool") := fun z => c (decide_eq_true z)
      have e : decide (k = "int") = false := decide_eq_false fun z => c' (.inl z)
      rw [e] at q
      exact q
/-! ### is_list -/
def spIsList (K : PySem.W.Frag) : Sp := fun vs H Q _ => ∃ (v : V) (k : String), vs = [v] ∧ Knd K H v k ∧ ∀ H', Same H H' → Q (.bl (decide (k = "list" ∨ k = "tuple"))) H'
theorem scIsList : FnScope ["value"] ["value"] (defScope sIsList) := ⟨rfl, rfl, rfl, by decide +kernel, rfl, by decide +kernel, by decide +kernel⟩
theorem ok_isList {f : Addr} {fd : FuncData} (F : Fun K "is_list" "is_list" sIsList f fd) (T : Bi mg) : FnOk P w K mg base CX0 1 f fd ["value"] (spIsList K) := by
  refine F.ok scIsList (fun vs H Q E h => ?_) (fun cdv A outer s H vs Q E hr h => ?_)
  · obtain ⟨v, k, rfl, _⟩ := h
    rfl
  · refine ⟨_, pss_one (ps_ret (pe_callB call_isiT (by rfl) T.isinstance (by decide +kernel) (pa_cons (pv 0) (pa_cons (pe_tup (pa_cons (pe_bltn (v := .ty "list") (u := .type "list") (by rfl) T.list (by decide +kernel) rfl) (pa_cons (pe_bltn (v := .ty "tuple") (u := .type "tuple") (by rfl) T.tuple (by decide +kernel) rfl) pa_nil))) pa_nil)))), ?_⟩
    obtain ⟨v, k, rfl, ⟨ty, hk⟩, q⟩ := h
    refine ⟨_, rfl, (by show 2 ≤ sizeLine; decide), fun p hp => ?_⟩
    have s1 : Same H (upd H p (.tup [.ty "list", .ty "tuple"])) := (Same.refl H).new hp
    refine ⟨v, p, [.ty "list", .ty "tuple"], _, _, decide (k = "list" ∨ k = "tuple"), rfl, upd_same, .cons (.ty _) (.cons (.ty _) .nil), tyx_same ty s1, kitAny_cons (kit_ty (kit_list k hk)) (fun e => kitAny_cons (b := decide (k = "tuple")) (r := decide (k = "list" ∨ k = "tuple")) (kit_ty (kit_tuple k hk)) (fun e' => ?_) fun e' => ?_) fun e => ?_, q _ s1⟩
    · have h1 : ¬ k = "list" := of_decide_eq_false e
      have h2 : ¬ k = "tuple" := of_decide_eq_false e'
      rw [kitAny_nil, decide_eq_false (fun z => z.elim h1 h2)]
    · exact decide_eq_true (.inr (of_decide_eq_true e'))
    · exact decide_eq_true (.inl (of_decide_eq_true e))
end
end K
namespace K
open PySem L2 Rg
open Evl (pss_cut)
theorem iteDT {c A B : Prop} [Decidable c] (hc : c) (h : A) : if decide c = true then A else B := by
  rw [if_pos (decide_eq_true hc)]; exact h
theorem iteDF {c A B : Prop} [Decidable c] (hc : ¬ c) (h : B) : if decide c = true then A else B := by
  rw [if_neg (by rw [decide_eq_false hc]; exact Bool.false_ne_true)]; exact h
theorem iteBT {c : Bool} {A B : Prop} (hc : c = true) (h : A) : if c = true then A else B := by
  rw [if_pos hc]; exact h
theorem iteBF {c : Bool} {A B : Prop} (hc : c = false) (h : B) : if c = true then A else B := by
  rw [if_neg (by rw [hc]; exact Bool.false_ne_true)]; exact h
theorem sm {n : Nat} (h : n ≤ 10000) : n < sizeLine := Nat.lt_of_le_of_lt h (by decide)
/-- a def of the text, by its name -/
structure DefAt (P : Program) (w : World) (K : PySem.W.Frag) (mg : Str → Option Value) (base : Heap) (CX : CXT) (k : Nat) (x : Str) (ps : List Str) (sp : Sp) (f : Addr) (fd : FuncData) : Prop where
  ok : FnOk P w K mg base CX k f fd ps sp
  g : mg x = some (.ref f)
  kp : PySem.W.keepIn K (.ref f) = true
  b : Binds K fd ps []
section
variable {P : Program} {w : World} {K : PySem.W.Frag} {mg : Str → Option Value} {base : Heap}
/-- two promises of one def -/
theorem fn_or {CX : CXT} {k : Nat} {f : Addr} {fd : FuncData} {ps : List Str} {sp sp' : Sp} (F : FnOk P w K mg base CX k f fd ps sp) (G : FnOk P w K mg base CX k f fd ps sp') : FnOk P w K mg base CX k f fd ps (fun vs H Q E => sp vs H Q E ∨ sp' vs H Q E) :=
  ⟨fun vs H Q E h => h.elim (F.len vs H Q E) (G.len vs H Q E), fun A outer s H args us vs Q E hr e0 hb hv h => h.elim (F.run A outer s H args us vs Q E hr e0 hb hv) (G.run A outer s H args us vs Q E hr e0 hb hv)⟩
/-! ### is_within, of ints -/
def spWithin : Sp := fun vs H Q _ => ∃ (v lo hi : Int), vs = [.int v, .int lo, .int hi] ∧ Q (.bl (decide (lo ≤ v) && decide (v ≤ hi))) H
theorem scWithin : FnScope ["value", "least", "most"] ["value", "least", "most"] (defScope sIsWithin) := ⟨rfl, rfl, rfl, by decide +kernel, rfl, by decide +kernel, by decide +kernel⟩
theorem ok_within {f fI : Addr} {fd fdI : FuncData} (F : Fun K "is_within" "is_within" sIsWithin f fd) (G : DefAt P w K mg base CX0 1 "is_integer" ["value"] (spIsInt K) fI fdI) : FnOk P w K mg base CX0 2 f fd ["value", "least", "most"] spWithin := by
  refine F.ok scWithin (fun vs H Q E h => ?_) (fun cdv A outer s H vs Q E hr h => ?_)
  · obtain ⟨v, lo, hi, rfl, _⟩ := h
    rfl
  · refine ⟨_, pss_cons (ps_if (pt_not (pt_val (pe_call G.ok hr rfl G.g G.kp G.b .nil pass0 (pa_cons (pv 0) pa_nil)))) (pss_one (ps_ret pe_bl)) pss_nil)
      (pss_one (ps_ret (pe_and (pe_or (pe_cmpR op_isN (pv 1) pe_non (nomark _)) (pe_one (pe_cmpR op_ge (pv 0) (pv 1) (nomark _)))) (pe_one (pe_or (pe_cmpR op_isN (pv 2) pe_non (nomark _)) (pe_one (pe_cmpR op_le (pv 0) (pv 2) (nomark _)))))))), ?_⟩
    obtain ⟨v, lo, hi, rfl, q⟩ := h
    refine ⟨_, rfl, V.int v, "int", rfl, Knd.int, _, rfl, iteNS rfl ?_⟩
    refine ⟨_, rfl, rfl, _, rfl, iteDF (fun z => nomatch z) ⟨_, rfl, _, rfl, _, _, rfl, rfl, _, rfl, ?_⟩⟩
    refine ite2 (fun c => ?_) (fun c => ?_)
    · have c' : lo ≤ v := of_decide_eq_true c
      refine ⟨_, rfl, rfl, _, rfl, iteDF (fun z => nomatch z) ⟨_, rfl, _, rfl, _, _, rfl, rfl, ?_⟩⟩
      rw [decide_eq_true c', Bool.true_and] at q
      exact q
    · have c' : ¬ lo ≤ v := fun z => c (decide_eq_true z)
      rw [decide_eq_false c', Bool.false_and] at q
      exact q
/-! ### is_numbers -/
theorem all_map_bl (xs : List V) (g : V → Bool) : ((xs.map g).all id) = xs.all g := by
  rw [List.all_map]; rfl
end
end K
namespace K
open PySem L2 Rg
open Evl (pss_cut)
def spDraw (K : PySem.W.Frag) : Sp := fun vs H Q _ => ∃ (p : Addr) (e : Addr × List Int) (many : Int) (n : Nat), vs = [.ref p, .int many] ∧ 1 ≤ many ∧ many ≤ 1000000 ∧ n < 1000000 ∧ PenAt K H p e n ∧
  ∀ (r : Int) (H' : Hp), 0 ≤ r → r < many → But p H H' → PenAt K H' p e (n + 1) → Q (.int r) H'
section
variable {P : Program} {w : World} {K : PySem.W.Frag} {mg : Str → Option Value} {base : Heap}
abbrev nDraw : List Str := ["_law_pen_here", "_law_many", "_law_digit", "_law_at", "_law_cell", "_law_great", "_law_mixed_here"]
theorem scDraw : FnScope nDraw ["_law_pen_here", "_law_many"] (defScope sLwDraw) := ⟨rfl, rfl, rfl, by decide +kernel, rfl, by decide +kernel, by decide +kernel⟩
theorem ok_draw {f : Addr} {fd : FuncData} (F : Fun K "_law_draw" "_law_draw" sLwDraw f fd) (T : Bi mg) : FnOk P w K mg base CX0 2 f fd ["_law_pen_here", "_law_many"] (spDraw K) := by
  refine F.ok scDraw (fun vs H Q E h => ?_) (fun cdv A outer s H vs Q E hr h => ?_)
  · obtain ⟨p, e, many, n, rfl, _⟩ := h
    rfl
  · have nd := scDraw.nd
    refine ⟨_, pss_cons (ps_if (pt_cmpR op_gt (pe_ix ix_list (pv 0) pe_int (fun _ _ => rfl)) pe_int (nomark _))
        (pss_cons (ps_set (i := 2) nd rfl (Or.inl rfl) (pe_op op_mod (pe_callTy call_int1 (by rfl) T.int (by decide +kernel) (pa_cons (pe_ix ix_list (pv 0) pe_int (fun _ _ => rfl)) pa_nil)) (pv 1)))
        (pss_cons (ps_asg (pe_op op_fdiv (pe_callTy call_int1 (by rfl) T.int (by decide +kernel) (pa_cons (pe_ix ix_list (pv 0) pe_int (fun _ _ => rfl)) pa_nil)) (pv 1)) (pg_sub (pv 0) pe_int set_list))
        (pss_one (ps_ret (pv 2))))) pss_nil)
      (pss_cons (ps_set (i := 3) nd rfl (Or.inl rfl) (pe_ix ix_list (pv 0) pe_int (fun _ _ => rfl)))
      (pss_cons (ps_asg (pe_op op_add (pv 3) pe_int) (pg_sub (pv 0) pe_int set_list))
      (pss_cons (ps_set (i := 4) nd rfl (Or.inl rfl) (pe_op op_add (pe_op op_mul pe_int (pv 3)) pe_int))
      (pss_cut (ps_if (pt_cmpR (op_neD hr.units) (pe_ix ix_list (pv 0) pe_int (fun _ _ => rfl)) (pe_lst pa_nil) (nomark _))
        (pss_one (ps_set (i := 4) nd rfl (Or.inl rfl) (pe_ix ix_list (pe_ix ix_list (pv 0) pe_int (fun _ _ => rfl)) (pe_op op_mod (pe_callTy call_int1 (by rfl) T.int (by decide +kernel) (pa_cons (pv 3) pa_nil)) (pe_callB call_len_seq (by rfl) T.len PySem.boot_len (pa_cons (pe_ix ix_list (pv 0) pe_int (fun _ _ => rfl)) pa_nil))) (fun _ _ => rfl)))) pss_nil)
      (pss_cut (ps_if (PW.pt (pw_and (pt_cmpR op_lt (pv 3) (pe_callB call_len_seq (by rfl) T.len PySem.boot_len (pa_cons (pe_ix ix_list (pv 0) pe_int (fun _ _ => rfl)) pa_nil)) (nomark _))
          (pw_and1 (pt_cmpR op_ge (pe_callB call_abs (by rfl) T.abs (by decide +kernel) (pa_cons (pv 4) pa_nil)) (pe_op op_pow pe_int pe_int) (nomark _)))))
        (pss_cons (ps_set (i := 5) nd rfl (Or.inl rfl) (pe_op op_add (pe_op op_mul pe_int (pe_op op_sub (pe_callB call_abs (by rfl) T.abs (by decide +kernel) (pa_cons (pv 4) pa_nil)) (pe_op op_pow pe_int pe_int))) (pe_callTy call_int1 (by rfl) T.int (by decide +kernel) (pa_cons (pe_cmpR op_lt (pv 4) pe_int (nomark _)) pa_nil))))
        (pss_cons (ps_asg (pe_op op_fdiv (pe_callTy call_int1 (by rfl) T.int (by decide +kernel) (pa_cons (pv 5) pa_nil)) (pv 1)) (pg_sub (pv 0) pe_int set_list))
        (pss_one (ps_ret (pe_op op_mod (pe_callTy call_int1 (by rfl) T.int (by decide +kernel) (pa_cons (pv 5) pa_nil)) (pv 1)))))) pss_nil)
      (pss_cut (ps_set (i := 6) nd rfl (Or.inl rfl) (pe_op op_mod (pe_callTy call_int1 (by rfl) T.int (by decide +kernel) (pa_cons (pe_op op_pow (pe_op op_add (pe_op op_add (pe_op op_mod (pe_callTy call_int1 (by rfl) T.int (by decide +kernel) (pa_cons (pv 4) pa_nil)) pe_int) (pe_op op_mul pe_int (pv 3))) pe_int) pe_int) pa_nil)) pe_int))
      (pss_cons (ps_set (i := 6) nd rfl (Or.inl rfl) (pe_op op_mod (pe_callTy call_int1 (by rfl) T.int (by decide +kernel) (pa_cons (pe_op op_pow (pe_op op_add (pe_op op_add (pe_op op_mul (pv 6) (pe_op op_add (pe_op op_mul pe_int (pv 3)) pe_int)) (pe_op op_mul (pe_op op_mul pe_int (pv 3)) (pv 3))) pe_int) pe_int) pa_nil)) pe_int))
      (pss_one (ps_ret (pe_op op_mod (pe_callTy call_int1 (by rfl) T.int (by decide +kernel) (pa_cons (pe_op op_fdiv (pv 6) pe_int) pa_nil)) (pv 1))))))))))), ?_⟩
    obtain ⟨p, ⟨c, cells⟩, many, n, rfl, m1, m2, hn, ⟨⟨at0, rest, hp, a0, a1, r0⟩, hc, hcp, hcl⟩, k⟩ := h
    dsimp only at hp hc hcp hcl
    have mp : (0 : Int) < many := by omega
    have md : (0 : Int) < many ∧ many < 1073741824 := ⟨mp, by omega⟩
    refine ⟨_, rfl, p, _, _, _, rfl, rfl, SqL.of hp, atI_nat (j := 2) rfl, _, _, rfl, rfl, _, rfl, ?_⟩
    refine ite2 (fun hg => ?_) (fun hg => ?_)
    · have g0 : rest > 0 := of_decide_eq_true hg
      refine ⟨_, rfl, p, _, _, _, rfl, rfl, SqL.of hp, atI_nat (j := 2) rfl, .inl ⟨_, rfl, _, rfl, _, _, rfl, rfl, mp, ?_⟩⟩
      refine ⟨_, rfl, p, _, _, _, rfl, rfl, SqL.of hp, atI_nat (j := 2) rfl, .inl ⟨_, rfl, _, rfl, _, _, rfl, rfl, md, _, rfl, p, _, _, 2, rfl, rfl, hp, rfl, ?_⟩⟩
      refine ⟨_, rfl, ?_⟩
      have b1 : But p H (upd H p (.lst [.ref c, .int at0, .int (rest / many)])) := (But.refl p H).at
      exact k _ _ (Int.emod_nonneg _ (by omega)) (Int.emod_lt_of_pos _ mp) b1 ⟨⟨at0, rest / many, upd_same, a0, by omega, Int.ediv_nonneg r0 (by omega)⟩, b1.seq hcp hc, hcp, hcl⟩
    · refine ⟨_, rfl, p, _, _, _, rfl, rfl, SqL.of hp, atI_nat (j := 1) rfl, ?_⟩
      refine ⟨_, rfl, _, _, rfl, rfl, _, rfl, p, _, _, 1, rfl, rfl, hp, rfl, ?_⟩
      have h1 : upd H p (.lst [.ref c, .int (at0 + 1), .int rest]) p = some (.lst [.ref c, .int (at0 + 1), .int rest]) := upd_same
      have b1 : But p H (upd H p (.lst [.ref c, .int (at0 + 1), .int rest])) := (But.refl p H).at
      refine ⟨_, rfl, _, _, rfl, rfl, .inl ⟨by decide, by decide⟩, _, _, rfl, rfl, ?_⟩
      refine ⟨fun σ' H' => ∃ cell : Int, σ' = [some (.ref p), some (.int many), none, some (.int at0), some (.int cell), none, none] ∧ But p H H' ∧ H' p = some (.lst [.ref c, .int (at0 + 1), .int rest]), ?_, ?_⟩
      · refine ⟨_, rfl, p, _, _, _, rfl, rfl, SqL.of h1, atI_nat (j := 0) rfl, (by decide), fun q hq => ?_⟩
        have hqp : p ≠ q := ne_of_none h1 hq
        have b2 : But p H (upd (upd H p (.lst [.ref c, .int (at0 + 1), .int rest])) q (.lst [])) := b1.new hq
        have h2 : upd (upd H p (.lst [.ref c, .int (at0 + 1), .int rest])) q (.lst []) p = some (.lst [.ref c, .int (at0 + 1), .int rest]) := by rw [upd_ne hqp]; exact h1
        refine ⟨_, _, .lst (b2.seq hcp hc) (dp_ints cells), .lst (SqL.of upd_same) .nil, shaped_ints _, rfl, _, rfl, ?_⟩
        rw [eqv_nil]
        cases e : cells.isEmpty with
        | true =>
          refine iteF ?_
          exact ⟨_, rfl, b2, h2⟩
        | false =>
          have hl : 0 < cells.length := by
            cases cells with
            | nil => cases e
            | cons z zs => simp
          refine iteT ?_
          have hlt : (at0 % (cells.length : Int)).toNat < cells.length := by
            have := Int.emod_lt_of_pos at0 (show (0 : Int) < cells.length by omega)
            have := Int.emod_nonneg at0 (show (cells.length : Int) ≠ 0 by omega)
            omega
          have hix : (cells.map V.int)[(at0 % (cells.length : Int)).toNat]? = some (V.int (cells[(at0 % (cells.length : Int)).toNat])) := by
            rw [List.getElem?_map, List.getElem?_eq_getElem hlt]
            rfl
          refine ⟨_, rfl, p, _, _, _, rfl, rfl, SqL.of h2, atI_nat (j := 0) rfl, _, rfl, .inl ⟨_, rfl, _, rfl, p, _, _, _, rfl, rfl, SqL.of h2, atI_nat (j := 0) rfl, c, _, rfl, .inl (b2.seq hcp hc), ?_⟩⟩
          rw [List.length_map]
          refine ⟨_, _, rfl, rfl, (by omega), c, _, _, _, rfl, rfl, b2.seq hcp hc, at_of (j := (at0 % (cells.length : Int)).toNat) (by
            have := Int.emod_nonneg at0 (show (cells.length : Int) ≠ 0 by omega)
            omega) hix, ?_⟩
          exact ⟨_, rfl, b2, h2⟩
      · rintro σ' H' ⟨cell, rfl, b2, h2⟩
        have pw : CPow 10 18 := ⟨by decide, by decide, by decide⟩
        refine ⟨fun σ' H'' => σ' = [some (.ref p), some (.int many), none, some (.int at0), some (.int cell), none, none] ∧ But p H H'' ∧ H'' p = some (.lst [.ref c, .int (at0 + 1), .int rest]), ?_, ?_⟩
        · refine ⟨_, rfl, _, rfl, p, _, _, _, rfl, rfl, SqL.of h2, atI_nat (j := 0) rfl, c, _, rfl, .inl (b2.seq hcp hc), _, _, rfl, rfl, _, rfl, ?_⟩
          refine ite2 (fun _ => ?_) (fun _ => iteF ?_)
          · refine ⟨_, rfl, _, rfl, _, _, rfl, rfl, pw, _, _, rfl, rfl, _, rfl, ?_⟩
            refine ite2 (fun hge => ?_) (fun _ => ?_)
            · have ge := of_decide_eq_true hge
              have ge2 : (10 : Int) ^ (18 : Int).toNat ≤ if cell < 0 then -cell else cell := ge
              have gr0 : 0 ≤ (2 * ((if cell < 0 then -cell else cell) - (10 : Int) ^ (18 : Int).toNat) + (if decide (cell < 0) = true then 1 else 0) : Int) := by
                split <;> omega
              refine ⟨_, rfl, _, rfl, _, _, rfl, rfl, pw, _, _, rfl, rfl, _, _, rfl, rfl, .inl ⟨by decide, by decide⟩, _, rfl, _, _, rfl, rfl, .inr ⟨_, rfl, _, _, rfl, rfl, ?_⟩⟩
              refine ⟨_, rfl, .inl ⟨_, rfl, _, rfl, _, _, rfl, rfl, md, _, rfl, p, _, _, 2, rfl, rfl, h2, rfl, ?_⟩⟩
              refine ⟨_, rfl, .inl ⟨_, rfl, _, rfl, _, _, rfl, rfl, mp, ?_⟩⟩
              exact k _ _ (Int.emod_nonneg _ (by omega)) (Int.emod_lt_of_pos _ mp) b2.at ⟨⟨at0 + 1, _, upd_same, by omega, by omega, Int.ediv_nonneg gr0 (by omega)⟩, (b2.at).seq hcp hc, hcp, hcl⟩
            · exact ⟨rfl, b2, h2⟩
          · exact ⟨rfl, b2, h2⟩
        · rintro σ'' H'' ⟨rfl, b3, h3⟩
          refine ⟨fun σ' H4 => ∃ x : Int, 0 ≤ x ∧ x < 2147483563 ∧ σ' = [some (.ref p), some (.int many), none, some (.int at0), some (.int cell), none, some (.int x)] ∧ H4 = H'', ?_, ?_⟩
          · have q0 := Int.emod_nonneg cell (show (2147483587 : Int) ≠ 0 by decide)
            have q1 := Int.emod_lt_of_pos cell (show (0 : Int) < 2147483587 by decide)
            have pw5 : CPow (cell % 2147483587 + 59771 * at0 + 1283) 5 := ⟨by decide, by decide, by omega⟩
            refine ⟨_, rfl, .inl ⟨_, rfl, _, _, rfl, rfl, (by show (0 : Int) < 2147483587; decide), _, rfl, _, _, rfl, rfl, .inl ⟨by decide, by decide⟩, _, _, rfl, rfl, _, _, rfl, rfl, _, _, rfl, rfl, pw5, .inl ⟨_, rfl, _, _, rfl, rfl, (by show (0 : Int) < 2147483563; decide), ?_⟩⟩⟩
            exact ⟨_, Int.emod_nonneg _ (by decide), Int.emod_lt_of_pos _ (by decide), rfl, rfl⟩
          · rintro σ' H4 ⟨x, x0, x1, rfl, rfl⟩
            have e1 : x * (2 * at0 + 1877) ≤ 2147483563 * 2001877 := Int.mul_le_mul (by omega) (by omega) (by omega) (by decide)
            have e2 : 0 ≤ x * (2 * at0 + 1877) := Int.mul_nonneg x0 (by omega)
            have e3 : 61441 * at0 * at0 ≤ 61441000000 * 1000000 := Int.mul_le_mul (by omega) (by omega) a0 (by decide)
            have e4 : 0 ≤ 61441 * at0 * at0 := Int.mul_nonneg (by omega) a0
            have pw3 : CPow (x * (2 * at0 + 1877) + 61441 * at0 * at0 + 57301) 3 := ⟨by decide, by decide, by omega⟩
            refine ⟨_, rfl, _, rfl, _, _, rfl, rfl, .inl ⟨by decide, by decide⟩, _, _, rfl, rfl, _, _, rfl, rfl, .inl ⟨by omega, by omega⟩, _, rfl, _, _, rfl, rfl, .inl ⟨by decide, by decide⟩, _, rfl, _, _, rfl, rfl, .inr ⟨by omega, by omega⟩, _, _, rfl, rfl, _, _, rfl, rfl, _, _, rfl, rfl, pw3, .inl ⟨_, rfl, _, _, rfl, rfl, (by show (0 : Int) < 2147483549; decide), ?_⟩⟩
            refine ⟨_, rfl, _, _, rfl, rfl, ⟨by decide, by decide⟩, .inl ⟨_, rfl, _, rfl, _, _, rfl, rfl, mp, ?_⟩⟩
            exact k _ _ (Int.emod_nonneg _ (by omega)) (Int.emod_lt_of_pos _ mp) b3 ⟨⟨at0 + 1, rest, h3, by omega, by omega, r0⟩, b3.seq hcp hc, hcp, hcl⟩
end
end K
namespace K
open PySem L2 Rg
open Evl (pss_cut)
theorem int_at {l : List Int} {i : Nat} {v : V} (h : (l.map V.int)[i]? = some v) : ∃ z, l[i]? = some z ∧ v = .int z := by
  rw [List.getElem?_map] at h
  cases e : l[i]? with
  | none => rw [e] at h; cases h
  | some z => rw [e] at h; exact ⟨z, rfl, (Option.some.inj h).symm⟩
theorem take_snoc {α : Type} {l : List α} {i : Nat} {z : α} (h : l[i]? = some z) : l.take i ++ [z] = l.take (i + 1) := by
  rw [List.take_succ, h]; rfl
theorem sz {n : Nat} (h : n ≤ 100000) : n ≤ sizeLine := Nat.le_trans h (by decide)
theorem szl {n : Nat} (h : n < 100000) : n < sizeLine := Nat.lt_of_lt_of_le h (by decide)
theorem cutV_to (xs : List V) (k : Nat) : cutV xs none (some (k : Int)) = xs.take k := by
  unfold cutV
  rw [HT.sIx_none, HT.sIx_nat, List.drop_zero, Nat.sub_zero]
  rcases Nat.le_total k xs.length with h | h
  · rw [Nat.min_eq_left h]
  · rw [Nat.min_eq_right h, List.take_length, List.take_of_length_le h]
section
variable {P : Program} {w : World} {K : PySem.W.Frag} {mg : Str → Option Value} {base : Heap}
/-! ### the pen -/
def spPen (K : PySem.W.Frag) : Sp := fun vs H Q _ => ∃ (a : Addr) (ns : List Int), vs = [.ref a] ∧ SqL K H a (ns.map V.int) ∧ ns.length ≤ 63 ∧
  ∀ (p : Addr) (e : Addr × List Int) (H' : Hp), Same H H' → H p = none → PenAt K H' p e 0 → Q (.ref p) H'
abbrev nPen : List Str := ["_law_script", "_law_cell"]
theorem scPen : FnScope nPen ["_law_script"] (defScope sLwPen) := ⟨rfl, rfl, rfl, by decide +kernel, rfl, by decide +kernel, by decide +kernel⟩
theorem ok_pen {f : Addr} {fd : FuncData} (F : Fun K "_law_pen" "_law_pen" sLwPen f fd) (T : Bi mg) : FnOk P w K mg base CX0 2 f fd ["_law_script"] (spPen K) := by
  refine F.ok scPen (fun vs H Q E h => ?_) (fun cdv A outer s H vs Q E hr h => ?_)
  · obtain ⟨a, ns, rfl, _⟩ := h
    rfl
  · have nd := scPen.nd
    refine ⟨_, pss_one (ps_ret (pe_lst (pa_cons (pe_lc (own := [("_law_cell", 1)]) (g := gName 1) (tt := tYes) rfl nd (pi_list (pe_slice sl_list (pv 0) po_none (po_some pe_int)))
      (blkOk_by (N := nPen) (sc := defScope sLwPen) (by decide +kernel)) (fun _ _ _ _ _ => pg_name (i := 1) nd rfl (Or.inl rfl)) (fun _ _ _ _ _ => pts_nil)
      (fun _ _ _ _ _ => pe_callTy call_int1 (by rfl) T.int (by decide +kernel) (pa_cons (pv 1) pa_nil))) (pa_cons pe_int (pa_cons pe_int pa_nil))))), ?_⟩
    obtain ⟨a, ns, rfl, hS, hl, k⟩ := h
    refine ⟨_, rfl, _, rfl, a, _, rfl, hS, fun q hq => ?_⟩
    have e0 : cutV (ns.map V.int) none (some 58) = (ns.take 58).map V.int := by
      rw [show (58 : Int) = ((58 : Nat) : Int) from rfl, cutV_to, List.map_take]
    rw [e0]
    refine ⟨q, rfl, ⟨_, SqL.of upd_same⟩, fun D hD => ?_⟩
    have hqD : q ≠ D := ne_of_none upd_same hD
    have sD : Same (upd H q (.lst ((ns.take 58).map V.int))) (upd (upd H q (.lst ((ns.take 58).map V.int))) D (.lst [])) := (Same.refl _).new hD
    refine lc_list (K := K) (a := q) (xs := (ns.take 58).map V.int) (fun i H' => Same (upd H q (.lst ((ns.take 58).map V.int))) H' ∧ H' D = some (.lst (((ns.take 58).take i).map V.int)))
      ⟨sD, upd_same⟩ (fun i H' _ p => p.1.seq (SqL.of upd_same)) ?_ ?_
    · rintro i x H' hi ⟨s1, h1⟩
      obtain ⟨z, hz, rfl⟩ := int_at hi
      refine ⟨rfl, _, rfl, .inl ⟨_, rfl, _, h1, szl (by rw [List.length_map, List.length_take, List.length_take]; omega), s1.mut hD, ?_⟩⟩
      rw [← take_snoc hz, List.map_append]
      exact upd_same
    · rintro H' ⟨s1, h1⟩
      rw [List.length_map, List.take_length] at h1
      refine ⟨(by show 3 ≤ sizeLine; decide), fun p hp => ?_⟩
      have nD : H D = none := by
        rw [upd_ne hqD.symm] at hD
        exact hD
      have s2 : Same H H' := fun b o e => s1 b o (by rw [upd_ne (ne_of_none e hq)]; exact e)
      refine k p (D, ns.take 58) _ (s2.new hp) (s2.free hp) ⟨⟨0, 0, upd_same, by decide, by decide, by decide⟩, SqL.of (by rw [upd_ne (ne_of_none h1 hp)]; exact h1), ne_of_none h1 hp, by rw [List.length_take]; omega⟩
end
end K
namespace K
open PySem L2 Rg
open Evl (pss_cut)
section
variable {P : Program} {w : World} {K : PySem.W.Frag} {mg : Str → Option Value} {base : Heap}
/-! ### one of some things -/
def spPick (K : PySem.W.Frag) : Sp := fun vs H Q _ => ∃ (p l : Addr) (e : Addr × List Int) (xs : List V) (n : Nat), vs = [.ref p, .ref l] ∧ SqL K H l xs ∧ l ≠ p ∧ 1 ≤ xs.length ∧ xs.length ≤ 1000 ∧ n < 1000000 ∧ PenAt K H p e n ∧
  ∀ (i : Nat) (v : V) (H' : Hp), xs[i]? = some v → But p H H' → PenAt K H' p e (n + 1) → Q v H'
abbrev nPick : List Str := ["_law_pen_here", "_law_some"]
theorem scPick : FnScope nPick ["_law_pen_here", "_law_some"] (defScope sLwPick) := ⟨rfl, rfl, rfl, by decide +kernel, rfl, by decide +kernel, by decide +kernel⟩
/-- the draw as a def called by its name -/
structure DrawAt (P : Program) (w : World) (K : PySem.W.Frag) (mg : Str → Option Value) (base : Heap) (f : Addr) (fd : FuncData) : Prop where
  ok : FnOk P w K mg base CX0 2 f fd ["_law_pen_here", "_law_many"] (spDraw K)
  g : mg "_law_draw" = some (.ref f)
  kp : PySem.W.keepIn K (.ref f) = true
  b : Binds K fd ["_law_pen_here", "_law_many"] []
theorem ok_pick {f fD : Addr} {fd fdD : FuncData} (F : Fun K "_law_pick" "_law_pick" sLwPick f fd) (T : Bi mg) (D : DrawAt P w K mg base fD fdD) : FnOk P w K mg base CX0 3 f fd ["_law_pen_here", "_law_some"] (spPick K) := by
  refine F.ok scPick (fun vs H Q E h => ?_) (fun cdv A outer s H vs Q E hr h => ?_)
  · obtain ⟨p, l, e, xs, n, rfl, _⟩ := h
    rfl
  · have nd := scPick.nd
    refine ⟨_, pss_one (ps_ret (pe_ix ix_list (pv 1) (pe_call D.ok hr rfl D.g D.kp D.b .nil pass0 (pa_cons (pv 0) (pa_cons (pe_callB call_len_seq (by rfl) T.len PySem.boot_len (pa_cons (pv 1) pa_nil)) pa_nil))) (fun _ _ => rfl))), ?_⟩
    obtain ⟨p, l, e, xs, n, rfl, hl, hlp, l1, l2, hn, pen, k⟩ := h
    refine ⟨_, rfl, _, rfl, _, rfl, l, xs, rfl, .inl hl, p, e, _, n, rfl, by omega, by omega, hn, pen, fun r H' r0 r1 b pen' => ?_⟩
    have hr : r.toNat < xs.length := by omega
    exact ⟨l, xs, r, _, rfl, rfl, b.seq hlp hl, at_of (j := r.toNat) (by omega) (List.getElem?_eq_getElem hr), k _ _ _ (List.getElem?_eq_getElem hr) b pen'⟩
end
end K
namespace K
open PySem L2 Rg
open Evl (pss_cut)
section
variable {P : Program} {w : World} {K : PySem.W.Frag} {mg : Str → Option Value} {base : Heap}
/-! ### errors with one field -/
def spIni (K : PySem.W.Frag) (f : Str) : Sp := fun vs H Q _ => ∃ (a C : Addr) (v : V), vs = [.ref a, v] ∧ OexC K C ∧ PySem.W.findIn K (.ref C) f = some none ∧ H a = some (exo a C none) ∧
  ∀ d, H d = none → d ≠ a → Q .non (upd (upd H d (exd d [(f, v)])) a (exo a C (some d)))
theorem scMissing : FnScope ["self", "value"] ["self", "value"] (defScope sMissingInit) := ⟨rfl, rfl, rfl, by decide +kernel, rfl, by decide +kernel, by decide +kernel⟩
theorem scTwice : FnScope ["self", "value"] ["self", "value"] (defScope sTwiceInit) := ⟨rfl, rfl, rfl, by decide +kernel, rfl, by decide +kernel, by decide +kernel⟩
theorem scBadNum : FnScope ["self", "part"] ["self", "part"] (defScope sBadNumberInit) := ⟨rfl, rfl, rfl, by decide +kernel, rfl, by decide +kernel, by decide +kernel⟩
theorem ok_badNumI {f : Addr} {fd : FuncData} (F : Fun K "__init__" "BadNumber.__init__" sBadNumberInit f fd) : FnOk P w K mg base CX0 1 f fd ["self", "part"] (spIni K "part") := by
  refine F.ok scBadNum (fun vs H Q E h => ?_) (fun cdv A outer s H vs Q E hr h => ?_)
  · obtain ⟨a, C, v, rfl, _⟩ := h
    rfl
  · refine ⟨_, pss_one (ps_ost (pv 0) (pv 1)), ?_⟩
    obtain ⟨a, C, v, rfl, o, n, ha, k⟩ := h
    exact ⟨_, rfl, _, rfl, a, C, rfl, o, n, .inl ⟨ha, fun d h1 h2 => k d h1 h2⟩⟩
theorem ok_missingI {f : Addr} {fd : FuncData} (F : Fun K "__init__" "Missing.__init__" sMissingInit f fd) : FnOk P w K mg base CX0 1 f fd ["self", "value"] (spIni K "value") := by
  refine F.ok scMissing (fun vs H Q E h => ?_) (fun cdv A outer s H vs Q E hr h => ?_)
  · obtain ⟨a, C, v, rfl, _⟩ := h
    rfl
  · refine ⟨_, pss_one (ps_ost (pv 0) (pv 1)), ?_⟩
    obtain ⟨a, C, v, rfl, o, n, ha, k⟩ := h
    exact ⟨_, rfl, _, rfl, a, C, rfl, o, n, .inl ⟨ha, fun d h1 h2 => k d h1 h2⟩⟩
theorem ok_twiceI {f : Addr} {fd : FuncData} (F : Fun K "__init__" "Twice.__init__" sTwiceInit f fd) : FnOk P w K mg base CX0 1 f fd ["self", "value"] (spIni K "value") := by
  refine F.ok scTwice (fun vs H Q E h => ?_) (fun cdv A outer s H vs Q E hr h => ?_)
  · obtain ⟨a, C, v, rfl, _⟩ := h
    rfl
  · refine ⟨_, pss_one (ps_ost (pv 0) (pv 1)), ?_⟩
    obtain ⟨a, C, v, rfl, o, n, ha, k⟩ := h
    exact ⟨_, rfl, _, rfl, a, C, rfl, o, n, .inl ⟨ha, fun d h1 h2 => k d h1 h2⟩⟩
/-- the class x of errors with the field f, at C, its __init__ at fI -/
structure ErrAt (P : Program) (w : World) (K : PySem.W.Frag) (mg : Str → Option Value) (base : Heap) (x f : Str) (C fI : Addr) (fdI : FuncData) : Prop where
  oex : OexC K C
  ic : PySem.W.findIn K (.ref C) "__init__" = some (some (.ref fI))
  ti : PySem.W.typeIn K (.ref fI) = some (.type "function")
  nf : PySem.W.findIn K (.ref C) f = some none
  g : mg x = some (.ref C)
  b : Binds K fdI ["self", f] []
  ok : FnOk P w K mg base CX0 1 fI fdI ["self", f] (spIni K f)
/-- an error of the class at C with the field f holding v leaves; what was tracked stands -/
def Errs (E : XK) (C : Addr) (f : Str) (v : V) (H : Hp) : Prop := ∀ (d : Addr) (H' : Hp), Same H H' → H d = none → H' d = some (.xd [(f, v)]) → E (.ref C) (some d) H'
theorem Errs.later {E : XK} {C : Addr} {f : Str} {v : V} {H H1 : Hp} (h : Errs E C f v H) (s : Same H H1) : Errs E C f v H1 := fun d H' s' n e => h d H' (s.trans s') (s.free n) e
/-- the making of such an error, as a raise asks it -/
theorem err_made {E : XK} {C : Addr} {f : Str} {v : V} {H : Hp} (o : OexC K C) (n : PySem.W.findIn K (.ref C) f = some none) (h : Errs E C f v H) :
    ([v] : List V).length ≤ 1000 ∧ ∀ a, H a = none → spIni K f (.ref a :: ([v] ++ [])) (upd H a (exo a C none))
      (fun u H2 => u = .non ∧ ∃ (d : Addr) (fs : List (Str × V)), H2 a = some (exo a C (some d)) ∧ H2 d = some (exd d fs) ∧ H d = none ∧ E (.ref C) (some d) (upd (del H2 a) d (.xd fs))) (fun _ _ _ => False) := by
  refine ⟨(by show 1 ≤ 1000; decide), fun a ha => ⟨a, C, v, rfl, o, n, upd_same, fun d hd hda => ⟨rfl, d, [(f, v)], upd_same, by rw [upd_ne hda, upd_same], ?_, ?_⟩⟩⟩
  · rw [upd_ne hda] at hd
    exact hd
  · rw [upd_ne hda] at hd
    refine h d _ (fun b u e => ?_) hd upd_same
    have hba : b ≠ a := ne_of_none e ha
    have hbd : b ≠ d := ne_of_none e hd
    rw [upd_ne hbd, del_ne hba, upd_ne hba, upd_ne hbd, upd_ne hba]
    exact e
/-! ### want_bar -/
end
end K
namespace K
open PySem L2 Rg
open Evl (pss_cut)
/-- each from 1 to m -/
def Bd (m : Int) (ls : List Int) : Prop := ∀ x ∈ ls, 1 ≤ x ∧ x ≤ m
theorem Bd.snoc {m x : Int} {ls : List Int} (h : Bd m ls) (h1 : 1 ≤ x) (h2 : x ≤ m) : Bd m (ls ++ [x]) := fun y hy => by
  rcases List.mem_append.mp hy with z | z
  · exact h y z
  · rw [List.mem_singleton.mp z]
    exact ⟨h1, h2⟩
theorem Bd.le {m k : Int} {ls : List Int} (h : Bd m ls) (hk : m ≤ k) : Bd k ls := fun x hx => ⟨(h x hx).1, by have := (h x hx).2; omega⟩
theorem Bd.set {m x : Int} {ls : List Int} {i : Nat} (h : Bd m ls) (h1 : 1 ≤ x) (h2 : x ≤ m) : Bd m (ls.set i x) := fun y hy => by
  rcases List.mem_or_eq_of_mem_set hy with z | z
  · exact h y z
  · rw [z]; exact ⟨h1, h2⟩
theorem Bd.sum {m : Int} : ∀ {ls : List Int}, Bd m ls → (ls.length : Int) ≤ ls.sum ∧ ls.sum ≤ m * ls.length
  | [], _ => by simp
  | x :: ls, h => by
    have ih := Bd.sum (m := m) (ls := ls) fun y hy => h y (List.mem_cons_of_mem _ hy)
    have hx := h x (List.mem_cons_self ..)
    rw [List.sum_cons, List.length_cons]
    have e : m * ((ls.length + 1 : Nat) : Int) = m * ls.length + m := by push_cast; rw [Int.mul_add, Int.mul_one]
    rw [e]
    push_cast
    omega
theorem ixN_at {n : Nat} {r : Int} (h0 : 0 ≤ r) (h1 : r < n) : ixN n r = some r.toNat := by
  unfold ixN
  rw [if_pos h0, if_pos h1]
theorem int_get {ls : List Int} {i : Nat} (h : i < ls.length) : (ls.map V.int)[i]? = some (V.int ls[i]) := by
  rw [List.getElem?_map, List.getElem?_eq_getElem h]; rfl
theorem set_map (ls : List Int) (i : Nat) (x : Int) : (ls.map V.int).set i (V.int x) = (ls.set i x).map V.int := by
  rw [List.map_set]
theorem erase_sum : ∀ {ls : List Int} {i : Nat} (h : i < ls.length), (ls.eraseIdx i).sum = ls.sum - ls[i]
  | x :: ls, 0, h => by simp [List.sum_cons]; omega
  | x :: ls, i + 1, h => by
    have h' : i < ls.length := by simpa using h
    have ih := erase_sum h'
    rw [List.eraseIdx_cons_succ, List.sum_cons, List.sum_cons, ih, List.getElem_cons_succ]
    omega
theorem abs_sum {m : Int} (hm : 0 ≤ m) : ∀ {ls : List Int}, (∀ x ∈ ls, -m ≤ x ∧ x ≤ m) → -(m * ls.length) ≤ ls.sum ∧ ls.sum ≤ m * ls.length
  | [], _ => by simp
  | x :: ls, h => by
    have ih := abs_sum hm (ls := ls) fun y hy => h y (List.mem_cons_of_mem _ hy)
    have hx := h x (List.mem_cons_self ..)
    have e : m * ((ls.length + 1 : Nat) : Int) = m * ls.length + m := by push_cast; rw [Int.mul_add, Int.mul_one]
    rw [List.sum_cons, List.length_cons, e]
    omega
section
variable {P : Program} {w : World} {K : PySem.W.Frag} {mg : Str → Option Value} {base : Heap}
end
end K
namespace K
open PySem L2 Rg
open Evl (pss_cut)
/-! ### what a ring tells -/
def sumsOf (ls : List Int) : List Int := ls.foldl (fun s l => s ++ s.map (· + l)) [0]
def levelB (ls : List Int) : Bool := (sumsOf ls).any fun o => decide (2 * o = ls.sum)
def closesB (ls : List Int) : Bool := ls.all fun x => decide (2 * x ≤ ls.sum)
def lsum (ls ns : List Int) : Int := (ns.map fun b => ls.getD b.toNat 0).sum
def sortV (ls ns : List Int) : Str := if 2 * lsum ls ns = ls.sum then "level" else if 2 * lsum ls ns < ls.sum then "short" else "long"
theorem sums_take {ls : List Int} {i : Nat} {z : Int} (h : ls[i]? = some z) : sumsOf (ls.take (i + 1)) = sumsOf (ls.take i) ++ (sumsOf (ls.take i)).map (· + z) := by
  unfold sumsOf
  rw [← take_snoc h, List.foldl_append]
  rfl
theorem sums_len : ∀ (ls : List Int) (i : Nat), i ≤ ls.length → (sumsOf (ls.take i)).length = 2 ^ i
  | ls, 0, _ => rfl
  | ls, i + 1, h => by
    have hz : ls[i]? = some ls[i] := List.getElem?_eq_getElem h
    rw [sums_take hz, List.length_append, List.length_map, sums_len ls i (by omega), Nat.pow_succ]
    omega
theorem closes_max {ls : List Int} {m : Int} (hm : m ∈ ls) (hx : ∀ y ∈ ls, y ≤ m) : decide (2 * m ≤ ls.sum) = closesB ls := by
  unfold closesB
  by_cases c : 2 * m ≤ ls.sum
  · rw [decide_eq_true c]
    refine (List.all_eq_true.mpr fun y hy => decide_eq_true ?_).symm
    have := hx y hy
    omega
  · rw [decide_eq_false c]
    cases e : ls.all fun x => decide (2 * x ≤ ls.sum) with
    | false => rfl
    | true => exact absurd (of_decide_eq_true (List.all_eq_true.mp e m hm)) c
theorem dec_int (a b : Int) : decide (V.int a = V.int b) = decide (a = b) := by
  by_cases e : a = b
  · rw [e]; simp
  · rw [decide_eq_false e, decide_eq_false fun z => e (V.int.inj z)]
theorem all_any (l : List Int) (g : Int → Bool) : (l.map g).any id = l.any g := by
  rw [List.any_map]; rfl
/-- the attributes of a ring, in the order in which __init__ stores them -/
def rf (t : Addr) (ls : List Int) : List (Str × V) := putF "is_clear" (.bl (!levelB ls)) (putF "closes" (.bl (closesB ls)) (putF "total" (.int ls.sum) (putF "lengths" (.ref t) [])))
theorem n1 : ¬ (("lengths" : Str) = "total") := by decide +kernel
theorem n2 : ¬ (("lengths" : Str) = "closes") := by decide +kernel
theorem n3 : ¬ (("lengths" : Str) = "is_clear") := by decide +kernel
theorem n4 : ¬ (("total" : Str) = "closes") := by decide +kernel
theorem n5 : ¬ (("total" : Str) = "is_clear") := by decide +kernel
theorem n6 : ¬ (("closes" : Str) = "is_clear") := by decide +kernel
theorem rf_lengths (t : Addr) (ls : List Int) : (rf t ls).lookup ("lengths" : Str) = some (.ref t) := by
  unfold rf
  rw [lookup_putF, if_neg n3, lookup_putF, if_neg n2, lookup_putF, if_neg n1, lookup_putF, if_pos rfl]
theorem rf_total (t : Addr) (ls : List Int) : (rf t ls).lookup ("total" : Str) = some (.int ls.sum) := by
  unfold rf
  rw [lookup_putF, if_neg n5, lookup_putF, if_neg n4, lookup_putF, if_pos rfl]
theorem rf_closes (t : Addr) (ls : List Int) : (rf t ls).lookup ("closes" : Str) = some (.bl (closesB ls)) := by
  unfold rf
  rw [lookup_putF, if_neg n6, lookup_putF, if_pos rfl]
theorem rf_clear (t : Addr) (ls : List Int) : (rf t ls).lookup ("is_clear" : Str) = some (.bl (!levelB ls)) := by
  unfold rf
  rw [lookup_putF, if_pos rfl]
theorem rf_no (t : Addr) (ls : List Int) {m : Str} (h1 : ¬ m = "lengths") (h2 : ¬ m = "total") (h3 : ¬ m = "closes") (h4 : ¬ m = "is_clear") : (rf t ls).lookup m = none := by
  unfold rf
  rw [lookup_putF, if_neg h4, lookup_putF, if_neg h3, lookup_putF, if_neg h2, lookup_putF, if_neg h1]
  rfl
section
variable {P : Program} {w : World} {K : PySem.W.Frag} {mg : Str → Option Value} {base : Heap}
def RingAt (K : PySem.W.Frag) (C : Addr) (H : Hp) (r : Addr) (ls : List Int) : Prop := ∃ dx t, H r = some (.ins C dx (rf t ls)) ∧ SqT K H t (ls.map V.int) ∧ ∃ o : Obj, H t = some (.frz o (.tup (ls.map V.int))) ∧ o.dict = none
theorem RingAt.same {C : Addr} {H H' : Hp} {r : Addr} {ls : List Int} (h : RingAt K C H r ls) (s : Same H H') : RingAt K C H' r ls := by
  obtain ⟨dx, t, h1, h2, o, h3, h4⟩ := h
  exact ⟨dx, t, s _ _ h1, s.tup h2, o, s _ _ h3, h4⟩
/-- the class Ring as the top has made it -/
structure RingC (K : PySem.W.Frag) (mg : Str → Option Value) (C : Addr) : Prop where
  cl : Cls K C
  nL : NoAttr K C "lengths"
  nT : NoAttr K C "total"
  nC : NoAttr K C "closes"
  nI : NoAttr K C "is_clear"
  g : mg "Ring" = some (.ref C)
  ha : PySem.W.findIn K (.ref C) "__class__" = some (some (.builtin "object.__class__"))
  hn : PySem.W.specialIn K (.builtin "object.__class__") "__get__" = some (some (.builtin "getset_descriptor.__get__"))
  ht : PySem.W.takesIn K (.builtin "object.__class__") = some true
  hm : PySem.W.mroIn K C (.type "object") = some true
structure Nm (mg : Str → Option Value) : Prop where
  mostL : ∃ t, mg "MOST_LENGTH" = some (.int 1000000 t)
  leastB : ∃ t, mg "LEAST_BARS" = some (.int 3 t)
  mostB : ∃ t, mg "MOST_BARS" = some (.int 8 t)
/-! ### are_lengths -/
def spAreL (K : PySem.W.Frag) : Sp := fun vs H Q _ => ∃ (a : Addr) (ls : List Int), vs = [.ref a] ∧ Knd K H (.ref a) "list" ∧ SqL K H a (ls.map V.int) ∧ ls.length ≤ 1000 ∧ Bd 1000000 ls ∧ ∀ H', Same H H' → Q (.bl true) H'
abbrev nAreL : List Str := ["value", "one"]
theorem scAreL : FnScope nAreL ["value"] (defScope sAreLengths) := ⟨rfl, rfl, rfl, by decide +kernel, rfl, by decide +kernel, by decide +kernel⟩
theorem all_true {bs : List Bool} (h : ∀ b ∈ bs, b = true) : bs.all id = true := List.all_eq_true.mpr fun b hb => h b hb
theorem ok_areL {f fW fL : Addr} {fd fdW fdL : FuncData} (F : Fun K "are_lengths" "are_lengths" sAreLengths f fd) (T : Bi mg) (N : Nm mg) (W : DefAt P w K mg base CX0 2 "is_within" ["value", "least", "most"] spWithin fW fdW) (L : DefAt P w K mg base CX0 1 "is_list" ["value"] (spIsList K) fL fdL) : FnOk P w K mg base CX0 3 f fd ["value"] (spAreL K) := by
  refine F.ok scAreL (fun vs H Q E h => ?_) (fun cdv A outer s H vs Q E hr h => ?_)
  · obtain ⟨a, ls, rfl, _⟩ := h
    rfl
  · obtain ⟨tM, hM⟩ := N.mostL
    refine ⟨_, pss_one (ps_ret (pe_and (pe_call L.ok (hr.mono (by decide)) rfl L.g L.kp L.b .nil pass0 (pa_cons (pv 0) pa_nil)) (pe_one (pe_callB (cr_all rfl) (by rfl) T.all (by decide +kernel) (pa_cons (pe_lc (own := [("one", 1)]) (g := gName 1) (tt := tYes) rfl scAreL.nd (pi_list (pv 0))
      (blkOk_by (N := nAreL) (sc := defScope sAreLengths) (by decide +kernel)) (fun _ _ _ _ _ => pg_name (i := 1) scAreL.nd rfl (Or.inl rfl)) (fun _ _ _ _ _ => pts_nil) (fun _ _ _ _ _ => pe_call W.ok hr rfl W.g W.kp W.b .nil pass0 (pa_cons (pv 1) (pa_cons pe_int (pa_cons (pe_glob (v := .int 1000000) rfl hM ⟨_, rfl⟩) pa_nil))))) pa_nil))))), ?_⟩
    obtain ⟨a, ls, rfl, hk, hs, hl, hb, q⟩ := h
    refine ⟨_, rfl, _, "list", rfl, hk, fun H1 s1 => ⟨_, rfl, iteDT (.inl rfl) ?_⟩⟩
    refine ⟨_, rfl, a, rfl, ⟨_, s1.seq hs⟩, fun D hD => ?_⟩
    have hD0 := s1.free hD
    refine lc_list (K := K) (a := a) (xs := ls.map V.int) (fun i H' => Same H H' ∧ ∃ bs : List Bool, (∀ b ∈ bs, b = true) ∧ bs.length ≤ i ∧ H' D = some (.lst (bs.map V.bl))) ⟨s1.new hD, [], (fun b hb => nomatch hb), Nat.le_refl _, upd_same⟩ (fun i H' _ p => p.1.seq hs) ?_ ?_
    · rintro i x H' hi ⟨s2, bs, h1, h2, h3⟩
      obtain ⟨z, hz, rfl⟩ := int_at hi
      have hil : i < ls.length := (List.getElem?_eq_some_iff.mp hz).1
      have hzb := hb z (List.mem_of_getElem? hz)
      refine ⟨rfl, _, rfl, z, 1, 1000000, rfl, _, h3, (by rw [List.length_map]; exact sm (by omega)), s2.mut hD0, bs ++ [true], fun b hb => ?_, by rw [List.length_append, List.length_singleton]; omega, ?_⟩
      · rcases List.mem_append.mp hb with m | m
        · exact h1 b m
        · exact List.mem_singleton.mp m
      · rw [upd_same, List.map_append, decide_eq_true hzb.1, decide_eq_true hzb.2]
        rfl
    · rintro H' ⟨s2, bs, h1, h2, h3⟩
      refine ⟨D, bs, rfl, SqL.of h3, ?_⟩
      rw [all_true h1]
      exact q H' s2
/-! ### has_level -/
def spHasL (K : PySem.W.Frag) : Sp := fun vs H Q _ => ∃ (t : Addr) (ls : List Int), vs = [.ref t] ∧ SqT K H t (ls.map V.int) ∧ ls.length ≤ 8 ∧ ∀ H', Same H H' → Q (.bl (levelB ls)) H'
abbrev nHasL : List Str := ["lengths", "sums", "length", "one"]
theorem scHasL : FnScope nHasL ["lengths"] (defScope sHasLevel) := ⟨rfl, rfl, rfl, by decide +kernel, rfl, by decide +kernel, by decide +kernel⟩
theorem ok_hasL {f : Addr} {fd : FuncData} (F : Fun K "has_level" "has_level" sHasLevel f fd) (T : Bi mg) : FnOk P w K mg base CX0 2 f fd ["lengths"] (spHasL K) := by
  refine F.ok scHasL (fun vs H Q E h => ?_) (fun cdv A outer s H vs Q E hr h => ?_)
  · obtain ⟨a, ls, rfl, _⟩ := h
    rfl
  · have nd := scHasL.nd
    refine ⟨_, pss_cons (ps_set (i := 1) nd rfl (Or.inl rfl) (pe_lst (pa_cons pe_int pa_nil)))
      (pss_cons (ps_for PassesOwn.never rfl (pi_tup (pv 0)) (pg_name (i := 2) nd rfl (Or.inr rfl)) (pss_one (ps_set (i := 1) nd rfl (Or.inl rfl) (pe_op op_cat (pv 1) (pe_lc (own := [("one", 3)]) (g := gName 3) (tt := tYes) rfl nd (pi_list (pv 1))
        (blkOk_by (N := nHasL) (sc := defScope sHasLevel) (by decide +kernel)) (fun _ _ _ _ _ => pg_name (i := 3) nd rfl (Or.inl rfl)) (fun _ _ _ _ _ => pts_nil) (fun _ _ _ _ _ => pe_op op_add (pv 3) (pv 2)))))))
      (pss_one (ps_ret (pe_callB (cr_any rfl) (by rfl) T.any (by decide +kernel) (pa_cons (pe_lc (own := [("one", 3)]) (g := gName 3) (tt := tYes) rfl nd (pi_list (pv 1))
        (blkOk_by (N := nHasL) (sc := defScope sHasLevel) (by decide +kernel)) (fun _ _ _ _ _ => pg_name (i := 3) nd rfl (Or.inl rfl)) (fun _ _ _ _ _ => pts_nil) (fun _ _ _ _ _ => pe_cmpR op_eq (pe_op op_mul pe_int (pv 3)) (pe_callB (r := rSumT K) (cr_sumT (by rfl)) (by rfl) T.sum (by decide +kernel) (pa_cons (pv 0) pa_nil)) (nomark _))) pa_nil))))), ?_⟩
    obtain ⟨t, ls, rfl, hs, hl, q⟩ := h
    refine ⟨(by show 1 ≤ sizeLine; decide), fun l0 hl0 => ?_⟩
    have s0 : Same H (upd H l0 (.lst [.int 0])) := (Same.refl H).new hl0
    have pw : ∀ i, i ≤ ls.length → (sumsOf (ls.take i)).length ≤ 256 := fun i hi => by
      rw [sums_len ls i hi]
      exact Nat.pow_le_pow_right (by decide) (show i ≤ 8 by omega)
    refine ⟨_, rfl, t, rfl, ⟨_, s0.tup hs⟩, for_tup (K := K) (a := t) (xs := ls.map V.int) (fun i σ H' => ∃ (l : Addr) (z : Option V), σ = [some (.ref t), some (.ref l), z, none] ∧ Same H H' ∧ H' l = some (.lst ((sumsOf (ls.take i)).map V.int)))
      ⟨l0, none, rfl, s0, upd_same⟩ (fun i σ H' _ ⟨_, _, _, s, _⟩ => s.tup hs) ?_ ?_⟩
    · rintro i x σ H' hi ⟨l, z, rfl, s1, h1⟩
      obtain ⟨z, hz, rfl⟩ := int_at hi
      have hil : i < ls.length := (List.getElem?_eq_some_iff.mp hz).1
      have p1 := pw i (by omega)
      refine ⟨_, rfl, _, rfl, l, rfl, ⟨_, SqL.of h1⟩, fun D hD => ?_⟩
      have hlD : l ≠ D := ne_of_none h1 hD
      refine lc_list (K := K) (a := l) (xs := (sumsOf (ls.take i)).map V.int) (fun j H2 => Same H' H2 ∧ H2 D = some (.lst ((((sumsOf (ls.take i)).take j).map (· + z)).map V.int))) ⟨(Same.refl H').new hD, upd_same⟩ (fun j H2 _ p => p.1.seq (SqL.of h1)) ?_ ?_
      · rintro j y H2 hj ⟨s2, h2⟩
        obtain ⟨o, ho, rfl⟩ := int_at hj
        refine ⟨rfl, _, rfl, _, rfl, _, _, rfl, rfl, _, h2, (by rw [List.length_map, List.length_map, List.length_take]; exact sm (by omega)), s2.mut hD, ?_⟩
        rw [upd_same, ← take_snoc ho, List.map_append, List.map_append]
        rfl
      · rintro H2 ⟨s2, h2⟩
        rw [List.length_map, List.take_length] at h2
        refine ⟨l, D, _, _, rfl, rfl, s2 _ _ h1, h2, (by rw [List.length_map, List.length_map, List.length_map]; exact Nat.le_of_lt (sm (by omega))), fun p hp => ⟨p, _, rfl, (s1.trans s2).new hp, ?_⟩⟩
        rw [upd_same, sums_take hz, List.map_append]
    · rintro σ H' ⟨l, z, rfl, s1, h1⟩
      rw [List.length_map, List.take_length] at h1
      have p1 := pw ls.length (Nat.le_refl _)
      rw [List.take_length] at p1
      refine ⟨_, rfl, l, rfl, ⟨_, SqL.of h1⟩, fun D hD => ?_⟩
      refine lc_list (K := K) (a := l) (xs := (sumsOf ls).map V.int) (fun j H2 => Same H' H2 ∧ H2 D = some (.lst ((((sumsOf ls).take j).map fun o => decide (2 * o = ls.sum)).map V.bl))) ⟨(Same.refl H').new hD, upd_same⟩ (fun j H2 _ p => p.1.seq (SqL.of h1)) ?_ ?_
      · rintro j y H2 hj ⟨s2, h2⟩
        obtain ⟨o, ho, rfl⟩ := int_at hj
        refine ⟨rfl, _, rfl, _, _, rfl, rfl, .inl ⟨by decide, by decide⟩, _, rfl, t, ls, rfl, (s1.trans s2).tup hs, rfl, _, h2, (by rw [List.length_map, List.length_map, List.length_take]; exact sm (by omega)), s2.mut hD, ?_⟩
        rw [upd_same, ← take_snoc ho, List.map_append, List.map_append, dec_int]
        rfl
      · rintro H2 ⟨s2, h2⟩
        rw [List.length_map, List.take_length] at h2
        refine ⟨D, _, rfl, SqL.of h2, ?_⟩
        rw [all_any]
        exact q H2 (s1.trans s2)
/-! ### Ring.__init__ -/
def spRI (K : PySem.W.Frag) (C : Addr) : Sp := fun vs H Q _ => ∃ (r l dx : Addr) (ls : List Int), vs = [.ref r, .ref l] ∧ H r = some (.ins C dx []) ∧ Knd K H (.ref l) "list" ∧ SqL K H l (ls.map V.int) ∧ 3 ≤ ls.length ∧ ls.length ≤ 8 ∧ Bd 1000000 ls ∧
  ∀ H', RingAt K C H' r ls → (∀ b o, H b = some o → b ≠ r → H' b = some o) → Q .non H'
theorem scRI : FnScope ["self", "lengths"] ["self", "lengths"] (defScope sRingInit) := ⟨rfl, rfl, rfl, by decide +kernel, rfl, by decide +kernel, by decide +kernel⟩
theorem ok_ri {C f fA fH : Addr} {fd fdA fdH : FuncData} (F : Fun K "__init__" "Ring.__init__" sRingInit f fd) (T : Bi mg) (N : Nm mg) (R : RingC K mg C) (A' : DefAt P w K mg base CX0 3 "are_lengths" ["value"] (spAreL K) fA fdA) (L : DefAt P w K mg base CX0 2 "has_level" ["lengths"] (spHasL K) fH fdH) : FnOk P w K mg base CX0 4 f fd ["self", "lengths"] (spRI K C) := by
  refine F.ok scRI (fun vs H Q E h => ?_) (fun cdv A outer s H vs Q E hr h => ?_)
  · obtain ⟨r, l, dx, ls, rfl, _⟩ := h
    rfl
  · obtain ⟨t3, h3⟩ := N.leastB
    obtain ⟨t8, h8⟩ := N.mostB
    refine ⟨_, pss_cons (ps_if (pt_not (pt_val (pe_call A'.ok hr rfl A'.g A'.kp A'.b .nil pass0 (pa_cons (pv 1) pa_nil)))) (pss_one ps_never) pss_nil)
      (pss_cons (ps_if (pt_cmpR op_lt (pe_callB call_len_seq (by rfl) T.len PySem.boot_len (pa_cons (pv 1) pa_nil)) (pe_glob (v := .int 3) rfl h3 ⟨_, rfl⟩) (nomark _)) (pss_one ps_never) pss_nil)
      (pss_cons (ps_if (pt_cmpR op_gt (pe_callB call_len_seq (by rfl) T.len PySem.boot_len (pa_cons (pv 1) pa_nil)) (pe_glob (v := .int 8) rfl h8 ⟨_, rfl⟩) (nomark _)) (pss_one ps_never) pss_nil)
      (pss_cons (ps_fld (pv 0) (pe_callTy cr_tupF (by rfl) T.tuple (by decide +kernel) (pa_cons (pv 1) pa_nil)) rfl)
      (pss_cons (ps_fld (pv 0) (pe_callB (cr_sumT rfl) (by rfl) T.sum (by decide +kernel) (pa_cons (pe_fld (pv 0) rfl) pa_nil)) rfl)
      (pss_cons (ps_fld (pv 0) (pe_cmpR op_le (pe_op op_mul pe_int (pe_callB (cr_maxT rfl) (by rfl) T.max (by decide +kernel) (pa_cons (pe_fld (pv 0) rfl) pa_nil))) (pe_fld (pv 0) rfl) (nomark _)) rfl)
      (pss_one (ps_fld (pv 0) (pe_not (pe_call L.ok (hr.mono (by decide)) rfl L.g L.kp L.b .nil pass0 (pa_cons (pe_fld (pv 0) rfl) pa_nil))) rfl))))))), ?_⟩
    obtain ⟨r, l, dx, ls, rfl, hr0, hk, hs, l3, l8, hb, q⟩ := h
    refine ⟨_, rfl, l, ls, rfl, hk, hs, by omega, hb, fun H1 s1 => ⟨_, rfl, iteF ?_⟩⟩
    refine ⟨_, rfl, l, _, rfl, .inl (s1.seq hs), _, _, rfl, rfl, _, rfl, iteDF (by rw [List.length_map]; omega) ?_⟩
    refine ⟨_, rfl, l, _, rfl, .inl (s1.seq hs), _, _, rfl, rfl, _, rfl, iteDF (by rw [List.length_map]; omega) ?_⟩
    have hr1 := s1 _ _ hr0
    refine ⟨_, rfl, l, _, rfl, s1.seq hs, fun t o ht hd => ?_⟩
    have nrt : r ≠ t := ne_of_none hr1 ht
    have ht0 := s1.free ht
    have tup0 : ∀ u, upd (upd H1 t (.frz o (.tup (ls.map V.int)))) r u t = some (.frz o (.tup (ls.map V.int))) := fun u => by rw [upd_ne nrt.symm, upd_same]
    refine ⟨_, rfl, r, C, dx, [], rfl, (by rw [upd_ne nrt]; exact hr1), R.cl, R.nL, (by show 0 < 1000; decide), ?_⟩
    -- self.total
    refine ⟨_, rfl, r, C, dx, _, _, rfl, upd_same, R.cl, R.nL, (by rw [lookup_putF, if_pos rfl]), t, ls, rfl, .inl (.inr ⟨o, tup0 _⟩), _, rfl, r, C, dx, _, rfl, upd_same, R.cl, R.nT, (by show 1 < 1000; decide), ?_⟩
    rw [upd_upd]
    -- self.closes
    refine ⟨_, rfl, r, C, dx, _, _, rfl, upd_same, R.cl, R.nL, (by rw [lookup_putF, if_neg n1, lookup_putF, if_pos rfl]), t, ls, rfl, .inl (.inr ⟨o, tup0 _⟩), by omega, fun m hm hx => ?_⟩
    refine ⟨_, _, rfl, rfl, .inl ⟨by decide, by decide⟩, _, rfl, r, C, dx, _, _, rfl, upd_same, R.cl, R.nT, (by rw [lookup_putF, if_pos rfl]), _, _, rfl, rfl, _, rfl, r, C, dx, _, rfl, upd_same, R.cl, R.nC, ?_, ?_⟩
    · have e1 := length_putF "total" (V.int ls.sum) (putF "lengths" (V.ref t) [])
      have e2 := length_putF "lengths" (V.ref t) []
      simp only [List.length_nil] at e2
      omega
    dsimp only
    rw [upd_upd, closes_max hm hx]
    -- self.is_clear
    refine ⟨_, rfl, r, C, dx, _, _, rfl, upd_same, R.cl, R.nL, (by rw [lookup_putF, if_neg n2, lookup_putF, if_neg n1, lookup_putF, if_pos rfl]), t, ls, rfl, .inl (.inr ⟨o, tup0 _⟩), l8, fun H5 s5 => ⟨_, rfl, _, rfl, r, C, dx, _, rfl, s5 _ _ upd_same, R.cl, R.nI, ?_, ?_⟩⟩
    · have e1 := length_putF "total" (V.int ls.sum) (putF "lengths" (V.ref t) [])
      have e2 := length_putF "lengths" (V.ref t) []
      have e3 := length_putF "closes" (V.bl (closesB ls)) (putF "total" (V.int ls.sum) (putF "lengths" (V.ref t) []))
      simp only [List.length_nil] at e2
      omega
    · have tf := s5 _ _ (tup0 _)
      refine q _ ⟨dx, t, upd_same, .inl (.inr ⟨o, by rw [upd_ne nrt.symm]; exact tf⟩), o, by rw [upd_ne nrt.symm]; exact tf, hd⟩ fun b o e hbr => ?_
      rw [upd_ne hbr]
      refine s5 _ _ ?_
      rw [upd_ne hbr, upd_ne (ne_of_none (s1 _ _ e) ht)]
      exact s1 _ _ e
end
end K
namespace K
open PySem L2 Rg
open Evl (pss_cut)
theorem perm_sum {a b : List Int} (h : a.Perm b) : a.sum = b.sum := by
  induction h with
  | nil => rfl
  | cons x _ ih => rw [List.sum_cons, List.sum_cons, ih]
  | swap x y l => simp only [List.sum_cons]; omega
  | trans _ _ ih1 ih2 => exact ih1.trans ih2
section
variable {P : Program} {w : World} {K : PySem.W.Frag} {mg : Str → Option Value} {base : Heap}
/-- a ring, of whose tuple of lengths nothing is known but its items -/
def RingW (K : PySem.W.Frag) (C : Addr) (H : Hp) (r : Addr) (ls : List Int) : Prop := ∃ dx t, H r = some (.ins C dx (rf t ls)) ∧ SqT K H t (ls.map V.int)
theorem RingAt.weak {C : Addr} {H : Hp} {r : Addr} {ls : List Int} (h : RingAt K C H r ls) : RingW K C H r ls := let ⟨dx, t, h1, h2, _⟩ := h; ⟨dx, t, h1, h2⟩
/-! ### len(ring) -/
def spRLen (K : PySem.W.Frag) (C : Addr) : Sp := fun vs H Q _ => ∃ (r : Addr) (ls : List Int), vs = [.ref r] ∧ RingW K C H r ls ∧ Q (.int ls.length) H
theorem scRLen : FnScope ["self"] ["self"] (defScope sRingLen) := ⟨rfl, rfl, rfl, by decide +kernel, rfl, by decide +kernel, by decide +kernel⟩
theorem ok_rlen {C f : Addr} {fd : FuncData} (F : Fun K "__len__" "Ring.__len__" sRingLen f fd) (T : Bi mg) (R : RingC K mg C) : FnOk P w K mg base CX0 1 f fd ["self"] (spRLen K C) := by
  refine F.ok scRLen (fun vs H Q E h => ?_) (fun cdv A outer s H vs Q E hr h => ?_)
  · obtain ⟨r, ls, rfl, _⟩ := h
    rfl
  · refine ⟨_, pss_one (ps_ret (pe_callB call_len_seq (by rfl) T.len PySem.boot_len (pa_cons (pe_fld (pv 0) rfl) pa_nil))), ?_⟩
    obtain ⟨r, ls, rfl, ⟨dx, t, hr0, ht⟩, q⟩ := h
    refine ⟨_, rfl, r, C, dx, _, _, rfl, hr0, R.cl, R.nL, rf_lengths _ _, t, _, rfl, .inr ht, ?_⟩
    rw [List.length_map]
    exact q
end
end K
namespace K
open PySem L2 Rg
open Evl (pss_cut)
section
variable {P : Program} {w : World} {K : PySem.W.Frag} {mg : Str → Option Value} {base : Heap}
theorem kit_self {K : PySem.W.Frag} {C : Addr} : PySem.W.kitOne K (.ref C) (.ref C) = some true := by
  unfold PySem.W.kitOne
  simp
/-- what is no ring: a value of a kind that is no Ring -/
def NoR (K : PySem.W.Frag) (C : Addr) (H : Hp) (v : V) : Prop := ∃ k : String, TyX K H v (.type k) ∧ PySem.W.kitOne K (.type k) (.ref C) = some false
theorem NoR.same {C : Addr} {H H' : Hp} {v : V} (h : NoR K C H v) (s : Same H H') : NoR K C H' v := let ⟨k, a, b⟩ := h; ⟨k, tyx_same a s, b⟩
def spWantR (K : PySem.W.Frag) (C cR : Addr) : Sp := fun vs H Q E => ∃ (v : V) (part : Str), vs = [v, .str part] ∧ ((∃ r ls, v = .ref r ∧ RingW K C H r ls ∧ Q .non H) ∨ (NoR K C H v ∧ Errs E cR "part" (.str part) H))
theorem scWantR : FnScope ["value", "part"] ["value", "part"] (defScope sWantRing) := ⟨rfl, rfl, rfl, by decide +kernel, rfl, by decide +kernel, by decide +kernel⟩
theorem ok_wantR {C cR f fI : Addr} {fd fdI : FuncData} (F : Fun K "want_ring" "want_ring" sWantRing f fd) (T : Bi mg) (R : RingC K mg C) (B : ErrAt P w K mg base "BadRing" "part" cR fI fdI) : FnOk P w K mg base (L2.CX P w) 3 f fd ["value", "part"] (spWantR K C cR) := by
  refine F.okX scWantR (fun vs H Q E h => ?_) (fun cdv A outer s H vs Q E hr h => ?_)
  · obtain ⟨v, part, rfl, _⟩ := h
    rfl
  · refine ⟨_, pss_one (ps_if (pt_not (pt_val (pe_callB call_isi (by rfl) T.isinstance (by decide +kernel) (pa_cons (pv 0) (pa_cons (pe_glob (v := .ref C) rfl R.g rfl) pa_nil)))))
      (pss_one (ps_raise rfl (takes_of rfl rfl rfl rfl) (pmk_oex B.oex B.ic B.ti B.ok hr B.b .nil pass0 rfl B.g (pa_cons (pv 1) pa_nil)))) pss_nil), ?_⟩
    obtain ⟨v, part, rfl, h⟩ := h
    rcases h with ⟨r, ls, rfl, ⟨dx, t, hr0, ht⟩, q⟩ | ⟨⟨k, ty, kit⟩, er⟩
    · refine ⟨_, rfl, .ref r, .ref C, _, _, _, rfl, .own C, .base (.ins hr0 R.cl R.ha R.hn R.ht R.hm), kit_self, ?_⟩
      exact ⟨_, rfl, iteF q⟩
    · refine ⟨_, rfl, v, .ref C, _, _, _, rfl, .own C, ty, kit, ?_⟩
      exact ⟨_, rfl, iteT ⟨_, rfl, err_made B.oex B.nf er⟩⟩
end
end K
namespace K
open PySem L2 Rg
open Evl (pss_cut)
theorem ne_bb {a b : Bool} (h : a = b) : (!decide (V.bl a = V.bl b)) = false := by rw [h, decide_eq_true rfl]; rfl
theorem ne_vv (v : V) : (!decide (v = v)) = false := by rw [decide_eq_true rfl]; rfl
theorem at_back {α : Type} {xs : List α} {v : α} (hl : 0 < xs.length) (h : xs[xs.length - 1]? = some v) : atI xs (-1) = some v := by
  unfold atI ixN
  rw [if_neg (by decide), if_pos (by omega), show ((-1 : Int) + (xs.length : Int)).toNat = xs.length - 1 by omega]
  exact h
theorem shaped_nil : SeqAt.shaped (.list []) = true := shaped_ints []
theorem Bd.app {m : Int} {a b : List Int} (h : Bd m a) (k : Bd m b) : Bd m (a ++ b) := fun x hx => (List.mem_append.mp hx).elim (h x) (k x)
theorem Bd.take {m : Int} {a : List Int} (i : Nat) (h : Bd m a) : Bd m (a.take i) := fun x hx => h x (List.mem_of_mem_take hx)
theorem Bd.drop {m : Int} {a : List Int} (i : Nat) (h : Bd m a) : Bd m (a.drop i) := fun x hx => h x (List.mem_of_mem_drop hx)
theorem Bd.one {m x : Int} (h1 : 1 ≤ x) (h2 : x ≤ m) : Bd m [x] := fun y hy => by rw [List.mem_singleton.mp hy]; exact ⟨h1, h2⟩
theorem getD_mem {ls : List Int} {i : Nat} (h : i < ls.length) : ls.getD i 0 ∈ ls := by
  rw [List.getD_eq_getElem?_getD, List.getElem?_eq_getElem h]
  exact List.getElem_mem h
theorem Bd.get {m : Int} {ls : List Int} (h : Bd m ls) {i : Nat} (hi : i < ls.length) : 1 ≤ ls.getD i 0 ∧ ls.getD i 0 ≤ m := h _ (getD_mem hi)
theorem cut_from (xs : List V) {z : Int} {k : Nat} (hz : z = (k : Int)) : cutV xs (some z) none = xs.drop k := by
  subst hz
  unfold cutV
  rw [HT.sIx_nat, HT.sIx_none]
  by_cases h : k ≤ xs.length
  · rw [Nat.min_eq_left h, List.take_of_length_le (by rw [List.length_drop]; omega)]
  · rw [Nat.min_eq_right (by omega), List.drop_eq_nil_of_le (Nat.le_refl _), List.drop_eq_nil_of_le (show xs.length ≤ k by omega), List.take_nil]
theorem getL {ls : List Int} {z : Int} {i : Nat} (hz : z = (i : Int)) (h1 : i < ls.length) : atI (ls.map V.int) z = some (V.int (ls.getD i 0)) := by
  subst hz
  have h : (ls.map V.int)[i]? = some (V.int (ls.getD i 0)) := by rw [int_get h1, List.getD_eq_getElem?_getD, List.getElem?_eq_getElem h1]; rfl
  exact atI_nat h
theorem get_z {ls : List Int} {z : Int} (h0 : 0 ≤ z) (h1 : z < ls.length) : atI (ls.map V.int) z = some (V.int (ls.getD z.toNat 0)) := getL (i := z.toNat) (by omega) (by omega)
theorem eqvA_pd (a b : List Int) : PyData.eqv (.list (a.map PyData.int)) (.list (b.map PyData.int)) = decide (a = b) := by
  simp [PyData.eqv, Rg.eqvA_ints8]
section
variable {P : Program} {w : World} {K : PySem.W.Frag} {mg : Str → Option Value} {base : Heap}
theorem RingW.same {C : Addr} {H H' : Hp} {r : Addr} {ls : List Int} (h : RingW K C H r ls) (s : Same H H') : RingW K C H' r ls := by
  obtain ⟨dx, t, h1, h2⟩ := h
  exact ⟨dx, t, s _ _ h1, s.tup h2⟩
/-- a new ring is told, all that was tracked stands -/
def NewA (K : PySem.W.Frag) (C : Addr) (ls : List Int) (H : Hp) (Q : VK) : Prop := ∀ r H', RingAt K C H' r ls → Same H H' → H r = none → Q (.ref r) H'
theorem NewA.later {C : Addr} {ls : List Int} {H H1 : Hp} {Q : VK} (h : NewA K C ls H Q) (s : Same H H1) : NewA K C ls H1 Q := fun r H' a b c => h r H' a (s.trans b) (s.free c)
/-! ### is_within of anything -/
/-- what is_within tells of a value of the kind k -/
def winB (k : String) (lo hi : Int) (v : V) : Bool := decide (k = "int") && match v with
  | .int i => decide (lo ≤ i) && decide (i ≤ hi)
  | _ => false
def spWithinO (K : PySem.W.Frag) : Sp := fun vs H Q _ => ∃ (v : V) (k : String) (lo hi : Int), vs = [v, .int lo, .int hi] ∧ Knd K H v k ∧ k ≠ "int" ∧ Q (.bl false) H
theorem ok_withinO {f fI : Addr} {fd fdI : FuncData} (F : Fun K "is_within" "is_within" sIsWithin f fd) (G : DefAt P w K mg base CX0 1 "is_integer" ["value"] (spIsInt K) fI fdI) : FnOk P w K mg base CX0 2 f fd ["value", "least", "most"] (spWithinO K) := by
  refine F.ok scWithin (fun vs H Q E h => ?_) (fun cdv A outer s H vs Q E hr h => ?_)
  · obtain ⟨v, k, lo, hi, rfl, _⟩ := h
    rfl
  · refine ⟨_, pss_cons (ps_if (pt_not (pt_val (pe_call G.ok hr rfl G.g G.kp G.b .nil pass0 (pa_cons (pv 0) pa_nil)))) (pss_one (ps_ret pe_bl)) pss_nil) (pss_one ps_never), ?_⟩
    obtain ⟨v, k, lo, hi, rfl, hk, nk, q⟩ := h
    refine ⟨_, rfl, v, k, rfl, hk, _, rfl, ?_⟩
    rw [decide_eq_false nk]
    exact iteT q
/-- a value, of a kind, that is an int just if the kind says so -/
def KndI (K : PySem.W.Frag) (H : Hp) (v : V) (k : String) : Prop := Knd K H v k ∧ (k = "int" → ∃ i, v = .int i)
def spWithinG (K : PySem.W.Frag) : Sp := fun vs H Q _ => ∃ (v : V) (k : String) (lo hi : Int), vs = [v, .int lo, .int hi] ∧ KndI K H v k ∧ Q (.bl (winB k lo hi v)) H
theorem ok_withinG {f fI : Addr} {fd fdI : FuncData} (F : Fun K "is_within" "is_within" sIsWithin f fd) (G : DefAt P w K mg base CX0 1 "is_integer" ["value"] (spIsInt K) fI fdI) : FnOk P w K mg base CX0 2 f fd ["value", "least", "most"] (spWithinG K) := by
  refine (fn_or (ok_within F G) (ok_withinO F G)).imp fun vs H Q E h => ?_
  obtain ⟨v, k, lo, hi, rfl, ⟨hk, hi'⟩, q⟩ := h
  by_cases c : k = "int"
  · obtain ⟨i, rfl⟩ := hi' c
    refine .inl ⟨i, lo, hi, rfl, ?_⟩
    unfold winB at q
    rw [decide_eq_true c, Bool.true_and] at q
    exact q
  · refine .inr ⟨v, k, lo, hi, rfl, hk, c, ?_⟩
    unfold winB at q
    rw [decide_eq_false c, Bool.false_and] at q
    exact q
/-! ### want_number of anything -/
theorem madeL2 {C l : Addr} {E : XK} {H : Hp} {ls : List Int} {R : Addr → VK} (hs : H l = some (.lst (ls.map V.int))) (l3 : 3 ≤ ls.length) (l8 : ls.length ≤ 8) (bd : Bd 1000000 ls) (h : ∀ r H', RingAt K C H' r ls → Same H H' → H r = none → R r .non H') :
    ∀ x dx, H x = none → H dx = none → dx ≠ x → spRI K C (.ref x :: ([.ref l] ++ [])) (upd (upd H dx (.own x)) x (.ins C dx [])) (R x) E := by
  intro x dx hx hdx _
  have s0 : Same H (upd (upd H dx (.own x)) x (.ins C dx [])) := fun b o q => by
    rw [upd_ne (ne_of_none q hx), upd_ne (ne_of_none q hdx)]
    exact q
  exact ⟨x, l, dx, ls, rfl, upd_same, ⟨.base (.lst (s0 _ _ hs)), by decide⟩, SqL.of (s0 _ _ hs), l3, l8, bd, fun H' ring kp => h x H' ring (fun b o e => kp b o (s0 b o e) (ne_of_none e hx)) hx⟩
/-- the making of a Ring of a right list -/
structure RingP (P : Program) (w : World) (K : PySem.W.Frag) (mg : Str → Option Value) (base : Heap) (C fI : Addr) (fdI : FuncData) : Prop where
  made : Mk K C fI
  ok : FnOk P w K mg base CX0 4 fI fdI ["self", "lengths"] (spRI K C)
  b : Binds K fdI ["self", "lengths"] []
theorem sl_to {a : Addr} {ls : List Int} {i : Nat} {H : Hp} {Q : VK} (hs : SqT K H a (ls.map V.int)) (hi : i < ls.length) (k : ∀ t, H t = none → Q (.ref t) (upd H t (.tup ((ls.take i).map V.int)))) : rSlA K (.ref a) none (some (i : Int)) H Q := by
  refine ⟨a, _, rfl, hs, fun ⟨_, e2⟩ => ?_, fun _ p hp => ?_⟩
  · rw [HT.sIx_nat, List.length_map] at e2
    omega
  · rw [cutV_to, ← List.map_take]
    exact k p hp
theorem sl_from {a : Addr} {ls : List Int} {z : Int} {i : Nat} {H : Hp} {Q : VK} (hs : SqT K H a (ls.map V.int)) (hz : z = ((i + 1 : Nat) : Int)) (h0 : 0 < ls.length) (k : ∀ t, H t = none → Q (.ref t) (upd H t (.tup ((ls.drop (i + 1)).map V.int)))) : rSlA K (.ref a) (some z) none H Q := by
  refine ⟨a, _, rfl, hs, fun ⟨e1, _⟩ => ?_, fun _ p hp => ?_⟩
  · subst hz
    rw [HT.sIx_nat, List.length_map] at e1
    omega
  · rw [cut_from _ hz, ← List.map_drop]
    exact k p hp
theorem catI {a b : Addr} {xs ys : List Int} {H : Hp} {Q : VK} (ha : H a = some (.tup (xs.map V.int))) (hb : H b = some (.tup (ys.map V.int))) (hl : xs.length + ys.length ≤ 1000) (k : ∀ t H', H' t = some (.tup ((xs ++ ys).map V.int)) → Same H H' → Q (.ref t) H') : rCatA K (.ref a) (.ref b) H Q := by
  refine ⟨a, b, _, _, rfl, rfl, .inl (.inl ha), .inl (.inl hb), by rw [List.length_map, List.length_map]; exact Nat.le_of_lt (sm (by omega)), fun e => k b H ?_ (Same.refl H), fun _ e => k a H ?_ (Same.refl H), fun _ _ p hp => k p _ ?_ ((Same.refl H).new hp)⟩
  · rw [List.map_eq_nil_iff.mp e]; exact hb
  · rw [List.map_eq_nil_iff.mp e, List.append_nil]; exact ha
  · rw [upd_same, List.map_append]
end
end K
namespace K
open PySem L2 Rg LamX
open Evl (pss_cut)
theorem par_imp {α β : Type} {R S : α → β → Prop} (i : ∀ a b, R a b → S a b) : ∀ {xs : List α} {ys : List β}, Paired R xs ys → Paired S xs ys
  | _, _, .nil => .nil
  | _, _, .cons h t => .cons (i _ _ h) (par_imp i t)
def rLenS (K : PySem.W.Frag) : List V → Hp → VK → Prop := fun xs H Q => ∃ p ys, xs = [.ref p] ∧ (SqL K H p ys ∨ SqT K H p ys) ∧ Q (.int ys.length) H
def rTupOf (K : PySem.W.Frag) : List V → Hp → VK → Prop := fun xs H Q => ∃ p ys, xs = [V.ref p] ∧ ((SqL K H p ys ∧ ∀ l, H l = none → Q (.ref l) (upd H l (.tup ys))) ∨ SqT K H p ys ∧ Q (.ref p) H)
section
variable {P : Program} {w : World} {K : PySem.W.Frag} {mg : Str → Option Value} {base : Heap}
theorem KndI.int {H : Hp} {i : Int} : KndI K H (.int i) "int" := ⟨Knd.int, fun _ => ⟨i, rfl⟩⟩
theorem winB_int {lo hi i : Int} : winB "int" lo hi (.int i) = (decide (lo ≤ i) && decide (i ≤ hi)) := rfl
/-! ### is_within with no upper end -/
def posB (k : String) (v : V) : Bool := decide (k = "int") && match v with
  | .int i => decide (1 ≤ i)
  | _ => false
def spWithinP (K : PySem.W.Frag) : Sp := fun vs H Q _ => ∃ (v : V) (k : String), vs = [v, .int 1, .non] ∧ KndI K H v k ∧ Q (.bl (posB k v)) H
theorem ok_withinP {f fI : Addr} {fd fdI : FuncData} (F : Fun K "is_within" "is_within" sIsWithin f fd) (G : DefAt P w K mg base CX0 1 "is_integer" ["value"] (spIsInt K) fI fdI) : FnOk P w K mg base CX0 2 f fd ["value", "least", "most"] (spWithinP K) := by
  refine F.ok scWithin (fun vs H Q E h => ?_) (fun cdv A outer s H vs Q E hr h => ?_)
  · obtain ⟨v, k, rfl, _⟩ := h
    rfl
  · refine ⟨_, pss_cons (ps_if (pt_not (pt_val (pe_call G.ok hr rfl G.g G.kp G.b .nil pass0 (pa_cons (pv 0) pa_nil)))) (pss_one (ps_ret pe_bl)) pss_nil)
      (pss_one (ps_ret (pe_and (pe_or (pe_cmpR op_isN (pv 1) pe_non (nomark _)) (pe_one (pe_cmpR op_ge (pv 0) (pv 1) (nomark _)))) (pe_one (pe_or (pe_cmpR op_isN (pv 2) pe_non (nomark _)) (pe_one (pe_cmpR op_le (pv 0) (pv 2) (nomark _)))))))), ?_⟩
    obtain ⟨v, k, rfl, ⟨hk, hi⟩, q⟩ := h
    refine ⟨_, rfl, v, k, rfl, hk, _, rfl, ?_⟩
    by_cases c : k = "int"
    · obtain ⟨i, rfl⟩ := hi c
      subst c
      refine iteNS rfl ?_
      refine ⟨_, rfl, rfl, _, rfl, iteDF (fun z => nomatch z) ⟨_, rfl, _, rfl, _, _, rfl, rfl, _, rfl, ?_⟩⟩
      unfold posB at q
      refine ite2 (fun c1 => ?_) (fun c1 => ?_)
      · refine ⟨_, rfl, rfl, _, rfl, iteDT rfl ?_⟩
        have c' : (1 : Int) ≤ i := of_decide_eq_true c1
        simp only [decide_eq_true c', Bool.and_true, decide_true] at q
        exact q
      · have c' : ¬ (1 : Int) ≤ i := fun z => c1 (decide_eq_true z)
        simp only [decide_eq_false c', Bool.and_false] at q
        exact q
    · rw [decide_eq_false c]
      unfold posB at q
      rw [decide_eq_false c, Bool.false_and] at q
      exact iteT q
/-! ### are_positive -/
abbrev nPos : List Str := ["value", "one"]
theorem scPos : FnScope nPos ["value"] (defScope sArePositive) := ⟨rfl, rfl, rfl, by decide +kernel, rfl, by decide +kernel, by decide +kernel⟩
/-- a value: no list or tuple | of items, each of a kind -/
def PosV (K : PySem.W.Frag) (H : Hp) (v : V) (r : Option (List V × (V → String))) : Prop := match r with
  | none => ∃ k, Knd K H v k ∧ k ≠ "list" ∧ k ≠ "tuple"
  | some (xs, kf) => ∃ a, v = .ref a ∧ ((Knd K H (.ref a) "list" ∧ SqL K H a xs) ∨ (Knd K H (.ref a) "tuple" ∧ SqT K H a xs)) ∧ xs.length ≤ 1000 ∧ ∀ x ∈ xs, KndI K H x (kf x)
def posR (r : Option (List V × (V → String))) : Bool := match r with
  | none => false
  | some (xs, kf) => xs.all fun x => posB (kf x) x
def spPosO (K : PySem.W.Frag) : Sp := fun vs H Q _ => ∃ (v : V) (k : String), vs = [v] ∧ Knd K H v k ∧ k ≠ "list" ∧ k ≠ "tuple" ∧ ∀ H', Same H H' → Q (.bl false) H'
theorem ok_posO {f fW fL : Addr} {fd fdW fdL : FuncData} (F : Fun K "are_positive" "are_positive" sArePositive f fd) (T : Bi mg) (W : DefAt P w K mg base CX0 2 "is_within" ["value", "least", "most"] (spWithinP K) fW fdW) (L : DefAt P w K mg base CX0 1 "is_list" ["value"] (spIsList K) fL fdL) : FnOk P w K mg base CX0 3 f fd ["value"] (spPosO K) := by
  refine F.ok scPos (fun vs H Q E h => ?_) (fun cdv A outer s H vs Q E hr h => ?_)
  · obtain ⟨v, k, rfl, _⟩ := h
    rfl
  · refine ⟨_, pss_one (ps_ret (pe_and (pe_call L.ok (hr.mono (by decide)) rfl L.g L.kp L.b .nil pass0 (pa_cons (pv 0) pa_nil)) (pe_one (pe_callB (cr_all rfl) (by rfl) T.all (by decide +kernel) (pa_cons (pe_lc (own := [("one", 1)]) (g := gName 1) (tt := tYes) rfl scPos.nd (pi_list (pv 0))
      (blkOk_by (N := nPos) (sc := defScope sArePositive) (by decide +kernel)) (fun _ _ _ _ _ => pg_name (i := 1) scPos.nd rfl (Or.inl rfl)) (fun _ _ _ _ _ => pts_nil) (fun _ _ _ _ _ => pe_call W.ok hr rfl W.g W.kp W.b .nil pass0 (pa_cons (pv 1) (pa_cons pe_int (pa_cons pe_non pa_nil))))) pa_nil))))), ?_⟩
    obtain ⟨v, k, rfl, hk, n1, n2, q⟩ := h
    refine ⟨_, rfl, v, k, rfl, hk, fun H1 s1 => ⟨_, rfl, iteDF (fun z => z.elim n1 n2) (q H1 s1)⟩⟩
def spPosL (K : PySem.W.Frag) : Sp := fun vs H Q _ => ∃ (a : Addr) (xs : List V) (kf : V → String), vs = [.ref a] ∧ Knd K H (.ref a) "list" ∧ SqL K H a xs ∧ xs.length ≤ 1000 ∧ (∀ x ∈ xs, KndI K H x (kf x)) ∧ ∀ H', Same H H' → Q (.bl (xs.all fun x => posB (kf x) x)) H'
theorem ok_posL {f fW fL : Addr} {fd fdW fdL : FuncData} (F : Fun K "are_positive" "are_positive" sArePositive f fd) (T : Bi mg) (W : DefAt P w K mg base CX0 2 "is_within" ["value", "least", "most"] (spWithinP K) fW fdW) (L : DefAt P w K mg base CX0 1 "is_list" ["value"] (spIsList K) fL fdL) : FnOk P w K mg base CX0 3 f fd ["value"] (spPosL K) := by
  refine F.ok scPos (fun vs H Q E h => ?_) (fun cdv A outer s H vs Q E hr h => ?_)
  · obtain ⟨a, xs, kf, rfl, _⟩ := h
    rfl
  · refine ⟨_, pss_one (ps_ret (pe_and (pe_call L.ok (hr.mono (by decide)) rfl L.g L.kp L.b .nil pass0 (pa_cons (pv 0) pa_nil)) (pe_one (pe_callB (cr_all rfl) (by rfl) T.all (by decide +kernel) (pa_cons (pe_lc (own := [("one", 1)]) (g := gName 1) (tt := tYes) rfl scPos.nd (pi_list (pv 0))
      (blkOk_by (N := nPos) (sc := defScope sArePositive) (by decide +kernel)) (fun _ _ _ _ _ => pg_name (i := 1) scPos.nd rfl (Or.inl rfl)) (fun _ _ _ _ _ => pts_nil) (fun _ _ _ _ _ => pe_call W.ok hr rfl W.g W.kp W.b .nil pass0 (pa_cons (pv 1) (pa_cons pe_int (pa_cons pe_non pa_nil))))) pa_nil))))), ?_⟩
    obtain ⟨a, xs, kf, rfl, hk, hs, hl, hx, q⟩ := h
    refine ⟨_, rfl, _, "list", rfl, hk, fun H1 s1 => ⟨_, rfl, iteDT (.inl rfl) ?_⟩⟩
    refine ⟨_, rfl, a, rfl, ⟨_, s1.seq hs⟩, fun D hD => ?_⟩
    have hD0 := s1.free hD
    refine lc_list (K := K) (a := a) (xs := xs) (fun i H' => Same H H' ∧ H' D = some (.lst (((xs.take i).map fun x => posB (kf x) x).map V.bl))) ⟨s1.new hD, upd_same⟩ (fun i H' _ p => p.1.seq hs) ?_ ?_
    · rintro i x H' hi ⟨s2, h3⟩
      have hil : i < xs.length := (List.getElem?_eq_some_iff.mp hi).1
      have kx := hx x (List.mem_of_getElem? hi)
      refine ⟨rfl, _, rfl, x, kf x, rfl, ⟨kx.1.same s2, kx.2⟩, _, h3, (by rw [List.length_map, List.length_map, List.length_take]; exact sm (by omega)), s2.mut hD0, ?_⟩
      rw [upd_same, ← take_snoc hi, List.map_append, List.map_append]
      rfl
    · rintro H' ⟨s2, h3⟩
      rw [List.take_length] at h3
      refine ⟨D, _, rfl, SqL.of h3, ?_⟩
      rw [List.all_map]
      exact q H' s2
def spPosT (K : PySem.W.Frag) : Sp := fun vs H Q _ => ∃ (a : Addr) (xs : List V) (kf : V → String), vs = [.ref a] ∧ Knd K H (.ref a) "tuple" ∧ SqT K H a xs ∧ xs.length ≤ 1000 ∧ (∀ x ∈ xs, KndI K H x (kf x)) ∧ ∀ H', Same H H' → Q (.bl (xs.all fun x => posB (kf x) x)) H'
theorem ok_posT {f fW fL : Addr} {fd fdW fdL : FuncData} (F : Fun K "are_positive" "are_positive" sArePositive f fd) (T : Bi mg) (W : DefAt P w K mg base CX0 2 "is_within" ["value", "least", "most"] (spWithinP K) fW fdW) (L : DefAt P w K mg base CX0 1 "is_list" ["value"] (spIsList K) fL fdL) : FnOk P w K mg base CX0 3 f fd ["value"] (spPosT K) := by
  refine F.ok scPos (fun vs H Q E h => ?_) (fun cdv A outer s H vs Q E hr h => ?_)
  · obtain ⟨a, xs, kf, rfl, _⟩ := h
    rfl
  · refine ⟨_, pss_one (ps_ret (pe_and (pe_call L.ok (hr.mono (by decide)) rfl L.g L.kp L.b .nil pass0 (pa_cons (pv 0) pa_nil)) (pe_one (pe_callB (cr_all rfl) (by rfl) T.all (by decide +kernel) (pa_cons (pe_lc (own := [("one", 1)]) (g := gName 1) (tt := tYes) rfl scPos.nd (pi_tup (pv 0))
      (blkOk_by (N := nPos) (sc := defScope sArePositive) (by decide +kernel)) (fun _ _ _ _ _ => pg_name (i := 1) scPos.nd rfl (Or.inl rfl)) (fun _ _ _ _ _ => pts_nil) (fun _ _ _ _ _ => pe_call W.ok hr rfl W.g W.kp W.b .nil pass0 (pa_cons (pv 1) (pa_cons pe_int (pa_cons pe_non pa_nil))))) pa_nil))))), ?_⟩
    obtain ⟨a, xs, kf, rfl, hk, hs, hl, hx, q⟩ := h
    refine ⟨_, rfl, _, "tuple", rfl, hk, fun H1 s1 => ⟨_, rfl, iteDT (.inr rfl) ?_⟩⟩
    refine ⟨_, rfl, a, rfl, ⟨_, s1.tup hs⟩, fun D hD => ?_⟩
    have hD0 := s1.free hD
    refine lc_tup (K := K) (a := a) (xs := xs) (fun i H' => Same H H' ∧ H' D = some (.lst (((xs.take i).map fun x => posB (kf x) x).map V.bl))) ⟨s1.new hD, upd_same⟩ (fun i H' _ p => p.1.tup hs) ?_ ?_
    · rintro i x H' hi ⟨s2, h3⟩
      have hil : i < xs.length := (List.getElem?_eq_some_iff.mp hi).1
      have kx := hx x (List.mem_of_getElem? hi)
      refine ⟨rfl, _, rfl, x, kf x, rfl, ⟨kx.1.same s2, kx.2⟩, _, h3, (by rw [List.length_map, List.length_map, List.length_take]; exact sm (by omega)), s2.mut hD0, ?_⟩
      rw [upd_same, ← take_snoc hi, List.map_append, List.map_append]
      rfl
    · rintro H' ⟨s2, h3⟩
      rw [List.take_length] at h3
      refine ⟨D, _, rfl, SqL.of h3, ?_⟩
      rw [List.all_map]
      exact q H' s2
def spPos (K : PySem.W.Frag) : Sp := fun vs H Q _ => ∃ (v : V) (r : Option (List V × (V → String))), vs = [v] ∧ PosV K H v r ∧ ∀ H', Same H H' → Q (.bl (posR r)) H'
theorem ok_pos {k : Nat} {f : Addr} {fd : FuncData} (F1 : FnOk P w K mg base CX0 k f fd ["value"] (spPosO K)) (F2 : FnOk P w K mg base CX0 k f fd ["value"] (spPosL K)) (F3 : FnOk P w K mg base CX0 k f fd ["value"] (spPosT K)) : FnOk P w K mg base CX0 k f fd ["value"] (spPos K) :=
  (fn_or F1 (fn_or F2 F3)).imp fun vs H Q E ⟨v, r, e, h, q⟩ => by
    cases r with
    | none =>
      obtain ⟨k, hk, a, b⟩ := h
      exact .inl ⟨v, k, e, hk, a, b, q⟩
    | some z =>
      obtain ⟨xs, kf⟩ := z
      obtain ⟨a, ev, h, l, z⟩ := h
      rw [ev] at e
      rcases h with ⟨h1, h2⟩ | ⟨h1, h2⟩
      · exact .inr (.inl ⟨a, xs, kf, e, h1, h2, l, z, q⟩)
      · exact .inr (.inr ⟨a, xs, kf, e, h1, h2, l, z, q⟩)
/-! ### want_number, want_corner -/
def spNumG (K : PySem.W.Frag) (C : Addr) : Sp := fun vs H Q E => ∃ (v : V) (k : String) (lo hi : Int) (part : Str), vs = [v, .int lo, .int hi, .str part] ∧ KndI K H v k ∧ ((winB k lo hi v = true ∧ Q .non H) ∨ (winB k lo hi v = false ∧ Errs E C "part" (.str part) H))
theorem scWantNum : FnScope ["value", "least", "most", "part"] ["value", "least", "most", "part"] (defScope sWantNumber) := ⟨rfl, rfl, rfl, by decide +kernel, rfl, by decide +kernel, by decide +kernel⟩
theorem ok_numG {f fW C fI : Addr} {fd fdW fdI : FuncData} (F : Fun K "want_number" "want_number" sWantNumber f fd) (W : DefAt P w K mg base CX0 2 "is_within" ["value", "least", "most"] (spWithinG K) fW fdW) (B : ErrAt P w K mg base "BadNumber" "part" C fI fdI) :
    FnOk P w K mg base (L2.CX P w) 3 f fd ["value", "least", "most", "part"] (spNumG K C) := by
  refine F.okX scWantNum (fun vs H Q E h => ?_) (fun cdv A outer s H vs Q E hr h => ?_)
  · obtain ⟨v, k, lo, hi, part, rfl, _⟩ := h
    rfl
  · refine ⟨_, pss_one (ps_if (pt_not (pt_val (pe_call W.ok hr rfl W.g W.kp W.b .nil pass0 (pa_cons (pv 0) (pa_cons (pv 1) (pa_cons (pv 2) pa_nil))))))
      (pss_one (ps_raise rfl (takes_of rfl rfl rfl rfl) (pmk_oex B.oex B.ic B.ti B.ok hr B.b .nil pass0 rfl B.g (pa_cons (pv 3) pa_nil)))) pss_nil), ?_⟩
    obtain ⟨v, k, lo, hi, part, rfl, hk, h⟩ := h
    refine ⟨_, rfl, _, rfl, _, rfl, v, k, lo, hi, rfl, hk, _, rfl, ?_⟩
    rcases h with ⟨e, q⟩ | ⟨e, q⟩
    · rw [e]; exact iteF q
    · rw [e]; exact iteT ⟨_, rfl, err_made B.oex B.nf q⟩
def spCorn (K : PySem.W.Frag) (C : Addr) : Sp := fun vs H Q E => ∃ (v : V) (k : String) (many : Int), vs = [v, .int many] ∧ KndI K H v k ∧ ((winB k 0 (many - 1) v = true ∧ Q .non H) ∨ (winB k 0 (many - 1) v = false ∧ Errs E C "value" v H))
theorem scCorn : FnScope ["value", "many"] ["value", "many"] (defScope sWantCorner) := ⟨rfl, rfl, rfl, by decide +kernel, rfl, by decide +kernel, by decide +kernel⟩
theorem ok_corn {f fW C fI : Addr} {fd fdW fdI : FuncData} (F : Fun K "want_corner" "want_corner" sWantCorner f fd) (W : DefAt P w K mg base CX0 2 "is_within" ["value", "least", "most"] (spWithinG K) fW fdW) (B : ErrAt P w K mg base "NoCorner" "value" C fI fdI) :
    FnOk P w K mg base (L2.CX P w) 3 f fd ["value", "many"] (spCorn K C) := by
  refine F.okX scCorn (fun vs H Q E h => ?_) (fun cdv A outer s H vs Q E hr h => ?_)
  · obtain ⟨v, k, many, rfl, _⟩ := h
    rfl
  · refine ⟨_, pss_one (ps_if (pt_not (pt_val (pe_call W.ok hr rfl W.g W.kp W.b .nil pass0 (pa_cons (pv 0) (pa_cons pe_int (pa_cons (pe_op op_sub (pv 1) pe_int) pa_nil))))))
      (pss_one (ps_raise rfl (takes_of rfl rfl rfl rfl) (pmk_oex B.oex B.ic B.ti B.ok hr B.b .nil pass0 rfl B.g (pa_cons (pv 0) pa_nil)))) pss_nil), ?_⟩
    obtain ⟨v, k, many, rfl, hk, h⟩ := h
    refine ⟨_, rfl, _, rfl, _, _, rfl, rfl, v, k, 0, many - 1, rfl, hk, _, rfl, ?_⟩
    rcases h with ⟨e, q⟩ | ⟨e, q⟩
    · rw [e]; exact iteF q
    · rw [e]; exact iteT ⟨_, rfl, err_made B.oex B.nf q⟩
/-- two corners are wanted: one is none | the other is none | they are one | k -/
def CornR (K : PySem.W.Frag) (cN cT : Addr) (E : XK) (H : Hp) (v u : V) (many : Int) (q : Int → Int → Prop) : Prop :=
  (∃ k, KndI K H v k ∧ winB k 0 (many - 1) v = false ∧ Errs E cN "value" v H) ∨
  ∃ i : Int, v = .int i ∧ 0 ≤ i ∧ i < many ∧ ((∃ k, KndI K H u k ∧ winB k 0 (many - 1) u = false ∧ Errs E cN "value" u H) ∨ ∃ j : Int, u = .int j ∧ 0 ≤ j ∧ j < many ∧ ((i = j ∧ Errs E cT "value" (.int j) H) ∨ (i ≠ j ∧ q i j)))
def sp2C (K : PySem.W.Frag) (cN cT : Addr) : Sp := fun vs H Q E => ∃ (v u : V) (many : Int), vs = [v, u, .int many] ∧ CornR K cN cT E H v u many fun _ _ => Q .non H
theorem sc2C : FnScope ["one", "other", "many"] ["one", "other", "many"] (defScope sWantTwoCorners) := ⟨rfl, rfl, rfl, by decide +kernel, rfl, by decide +kernel, by decide +kernel⟩
theorem ok_2c {f fC cN cT fI : Addr} {fd fdC fdI : FuncData} (F : Fun K "want_two_corners" "want_two_corners" sWantTwoCorners f fd) (C : DefAt P w K mg base (L2.CX P w) 3 "want_corner" ["value", "many"] (spCorn K cN) fC fdC) (B : ErrAt P w K mg base "Twice" "value" cT fI fdI) :
    FnOk P w K mg base (L2.CX P w) 4 f fd ["one", "other", "many"] (sp2C K cN cT) := by
  refine F.okX sc2C (fun vs H Q E h => ?_) (fun cdv A outer s H vs Q E hr h => ?_)
  · obtain ⟨v, u, many, rfl, _⟩ := h
    rfl
  · refine ⟨_, pss_cons (ps_expr (pe_call C.ok hr rfl C.g C.kp C.b .nil (passes_call (takes_of rfl rfl rfl rfl) (fun _ _ _ _ h => h)) (pa_cons (pv 0) (pa_cons (pv 2) pa_nil))))
      (pss_cons (ps_expr (pe_call C.ok hr rfl C.g C.kp C.b .nil (passes_call (takes_of rfl rfl rfl rfl) (fun _ _ _ _ h => h)) (pa_cons (pv 1) (pa_cons (pv 2) pa_nil))))
      (pss_one (ps_if (pt_cmpR op_eq (pv 0) (pv 1) (nomark _)) (pss_one (ps_raise rfl (takes_of rfl rfl rfl rfl) (pmk_oex B.oex B.ic B.ti B.ok (hr.mono (by decide)) B.b .nil pass0 rfl B.g (pa_cons (pv 1) pa_nil)))) pss_nil))), ?_⟩
    obtain ⟨v, u, many, rfl, h⟩ := h
    rcases h with ⟨k, hk, e, er⟩ | ⟨i, rfl, i0, i1, h⟩
    · exact ⟨_, rfl, _, rfl, v, k, many, rfl, hk, .inr ⟨e, er⟩⟩
    have wi : winB "int" 0 (many - 1) (.int i) = true := by rw [winB_int, decide_eq_true i0, decide_eq_true (show i ≤ many - 1 by omega)]; rfl
    refine ⟨_, rfl, _, rfl, .int i, "int", many, rfl, KndI.int, .inl ⟨wi, ?_⟩⟩
    rcases h with ⟨k, hk, e, er⟩ | ⟨j, rfl, j0, j1, h⟩
    · exact ⟨_, rfl, _, rfl, u, k, many, rfl, hk, .inr ⟨e, er⟩⟩
    have wj : winB "int" 0 (many - 1) (.int j) = true := by rw [winB_int, decide_eq_true j0, decide_eq_true (show j ≤ many - 1 by omega)]; rfl
    refine ⟨_, rfl, _, rfl, .int j, "int", many, rfl, KndI.int, .inl ⟨wj, ?_⟩⟩
    refine ⟨_, rfl, _, rfl, rfl, _, rfl, ?_⟩
    rcases h with ⟨e, er⟩ | ⟨e, q⟩
    · exact iteDT (by rw [e]) ⟨_, rfl, err_made B.oex B.nf er⟩
    · exact iteDF (fun z => e (V.int.inj z)) q
end
end K
namespace K
open PySem L2 Rg LamX
open Evl (pss_cut)
structure Nm2 (mg : Str → Option Value) : Prop where
  arm : ∃ t, mg "MOST_ARM" = some (.int 20 t)
def arcB (m i j : Int) : List Int := (List.range ((j - i) % m).toNat).map fun s : Nat => (i + (s : Int)) % m
/-- the greatest of them -/
def mx (ls : List Int) : Int := ls.foldl max 0
theorem mx_aux : ∀ (ls : List Int) (a : Int), (∀ x ∈ ls, x ≤ ls.foldl max a) ∧ a ≤ ls.foldl max a ∧ (ls.foldl max a = a ∨ ls.foldl max a ∈ ls)
  | [], a => ⟨(fun _ h => nomatch h), Int.le_refl _, .inl rfl⟩
  | x :: ls, a => by
    obtain ⟨h1, h2, h3⟩ := mx_aux ls (max a x)
    rw [List.foldl_cons]
    refine ⟨fun y hy => ?_, by omega, ?_⟩
    · rcases List.mem_cons.mp hy with rfl | hy
      · omega
      · exact h1 y hy
    · rcases h3 with h3 | h3
      · rw [h3]
        rcases Int.le_total a x with h | h
        · exact .inr (by rw [Int.max_eq_right h]; exact List.mem_cons_self ..)
        · exact .inl (Int.max_eq_left h)
      · exact .inr (List.mem_cons_of_mem _ h3)
theorem mx_eq {ls : List Int} {m : Int} (hm : m ∈ ls) (hx : ∀ y ∈ ls, y ≤ m) (h1 : ∀ x ∈ ls, 1 ≤ x) : m = mx ls := by
  obtain ⟨a, b, c⟩ := mx_aux ls 0
  have := a m hm
  have := h1 m hm
  rcases c with c | c
  · unfold mx; omega
  · have := hx _ c
    unfold mx; omega
theorem mx_mem {ls : List Int} (h : ls ≠ []) (h1 : ∀ x ∈ ls, 1 ≤ x) : mx ls ∈ ls ∧ ∀ y ∈ ls, y ≤ mx ls := by
  obtain ⟨a, b, c⟩ := mx_aux ls 0
  refine ⟨?_, a⟩
  rcases c with c | c
  · cases ls with
    | nil => exact absurd rfl h
    | cons x ls =>
      have := a x (List.mem_cons_self ..)
      have := h1 x (List.mem_cons_self ..)
      omega
  · exact c
def armLo (ls : List Int) : Int := max 0 (2 * mx ls - ls.sum)
section
variable {P : Program} {w : World} {K : PySem.W.Frag} {mg : Str → Option Value} {base : Heap}
/-! ### arc_bars -/
def AskB (K : PySem.W.Frag) (cB cN cT : Addr) (E : XK) (H : Hp) (a v u : V) (q : Int → Int → Int → Prop) : Prop :=
  (∃ k, KndI K H a k ∧ winB k 3 8 a = false ∧ Errs E cB "part" (.str "many") H) ∨ ∃ m : Int, a = .int m ∧ 3 ≤ m ∧ m ≤ 8 ∧ CornR K cN cT E H v u m (q m)
def spAB (K : PySem.W.Frag) (cB cN cT : Addr) : Sp := fun vs H Q E => ∃ a v u : V, vs = [a, v, u] ∧ AskB K cB cN cT E H a v u fun m i j => ∀ p H', Same H H' → H p = none → H' p = some (.tup ((arcB m i j).map V.int)) → Q (.ref p) H'
abbrev nAB : List Str := ["many", "one", "other", "step"]
theorem scAB : FnScope nAB ["many", "one", "other"] (defScope sArcBars) := ⟨rfl, rfl, rfl, by decide +kernel, rfl, by decide +kernel, by decide +kernel⟩
theorem ok_ab {f fN fC cB cN cT : Addr} {fd fdN fdC : FuncData} (F : Fun K "arc_bars" "arc_bars" sArcBars f fd) (T : Bi mg) (N : Nm mg) (NU : DefAt P w K mg base (L2.CX P w) 3 "want_number" ["value", "least", "most", "part"] (spNumG K cB) fN fdN)
    (C2 : DefAt P w K mg base (L2.CX P w) 4 "want_two_corners" ["one", "other", "many"] (sp2C K cN cT) fC fdC) : FnOk P w K mg base (L2.CX P w) 5 f fd ["many", "one", "other"] (spAB K cB cN cT) := by
  refine F.okX scAB (fun vs H Q E h => ?_) (fun cdv A outer s H vs Q E hr h => ?_)
  · obtain ⟨a, v, u, rfl, _⟩ := h
    rfl
  · have nd := scAB.nd
    obtain ⟨t1, h1⟩ := N.leastB
    obtain ⟨t2, h2⟩ := N.mostB
    refine ⟨_, pss_cons (ps_expr (pe_call NU.ok (hr.mono (by decide)) rfl NU.g NU.kp NU.b .nil (passes_call (takes_of rfl rfl rfl rfl) (fun _ _ _ _ h => h)) (pa_cons (pv 0) (pa_cons (pe_glob (v := .int 3) rfl h1 ⟨_, rfl⟩) (pa_cons (pe_glob (v := .int 8) rfl h2 ⟨_, rfl⟩) (pa_cons pe_str pa_nil))))))
      (pss_cons (ps_expr (pe_call C2.ok hr rfl C2.g C2.kp C2.b .nil (passes_call (takes_of rfl rfl rfl rfl) (fun _ _ _ _ h => h)) (pa_cons (pv 1) (pa_cons (pv 2) (pa_cons (pv 0) pa_nil)))))
      (pss_one (ps_ret (pe_callTy (r := rTupOf K) call_tuple_of (by rfl) T.tuple (by decide +kernel) (pa_cons (pe_lc (own := [("step", 3)]) (g := gName 3) (tt := tYes) (te := tOp (rI (fun _ j => 0 < j) fun i j => .int (i % j)) (tOp (rI0 fun i j => .int (i + j)) (tVar 1) (tVar 3)) (tVar 0)) rfl nd (pi_range1 (by rfl) T.range (pa_cons (pe_op op_mod (pe_op op_sub (pv 2) (pv 1)) (pv 0)) pa_nil))
        (blkOk_by (N := nAB) (sc := defScope sArcBars) (by decide +kernel)) (fun _ _ _ _ _ => pg_name (i := 3) nd rfl (Or.inl rfl)) (fun _ _ _ _ _ => pts_nil) (fun _ _ _ _ _ => pe_op op_mod (pe_op op_add (pv 1) (pv 3)) (pv 0))) pa_nil))))), ?_⟩
    obtain ⟨a, v, u, rfl, h⟩ := h
    rcases h with ⟨k, hk, e, er⟩ | ⟨m, rfl, m3, m8, h⟩
    · exact ⟨_, rfl, a, k, 3, 8, "many", rfl, hk, .inr ⟨e, er⟩⟩
    have wm : winB "int" 3 8 (.int m) = true := by rw [winB_int, decide_eq_true m3, decide_eq_true m8]; rfl
    refine ⟨_, rfl, .int m, "int", 3, 8, "many", rfl, KndI.int, .inl ⟨wm, ?_⟩⟩
    refine ⟨_, rfl, _, rfl, _, rfl, v, u, m, rfl, ?_⟩
    refine h.imp_right fun ⟨i, ev, i0, i1, z⟩ => ⟨i, ev, i0, i1, z.imp_right fun ⟨j, eu, j0, j1, z⟩ => ⟨j, eu, j0, j1, z.imp_right fun ⟨ne, q⟩ => ⟨ne, ?_⟩⟩⟩
    subst ev eu
    have d0 := Int.emod_nonneg (j - i) (show m ≠ 0 by omega)
    have d1 := Int.emod_lt_of_pos (j - i) (show 0 < m by omega)
    refine ⟨_, rfl, _, rfl, _, _, rfl, rfl, _, rfl, _, _, rfl, rfl, (by show 0 < m; omega), _, rfl, by omega, by omega, fun D hD => ?_⟩
    refine lc_range (lo := 0) (n := ((j - i) % m).toNat) (fun k H' => Same H H' ∧ H' D = some (.lst (((List.range k).map fun s : Nat => (i + (s : Int)) % m).map V.int))) ⟨(Same.refl H).new hD, upd_same⟩ ?_ ?_
    · rintro k H' hk ⟨s1, h1⟩
      rw [Int.zero_add]
      refine ⟨rfl, _, rfl, _, rfl, _, _, rfl, rfl, _, rfl, _, _, rfl, rfl, (by show 0 < m; omega), _, h1, (by rw [List.length_map, List.length_map, List.length_range]; exact sm (by omega)), s1.mut hD, ?_⟩
      rw [upd_same, List.range_succ, List.map_append, List.map_append]
      rfl
    · rintro H1 ⟨s1, h1⟩
      refine ⟨D, _, rfl, .inl ⟨SqL.of h1, fun t nt => ?_⟩⟩
      exact q t _ (s1.new nt) (s1.free nt) upd_same
/-! ### arm_range -/
def SqE (H : Hp) (l : Addr) (xs : List V) : Prop := H l = some (.lst xs) ∨ H l = some (.tup xs)
theorem SqE.same {H H' : Hp} {l : Addr} {xs : List V} (h : SqE H l xs) (s : Same H H') : SqE H' l xs := h.imp (s _ _) (s _ _)
def spAR (K : PySem.W.Frag) (cB : Addr) : Sp := fun vs H Q E => ∃ v : V, vs = [v] ∧
  ((∃ r, PosV K H v r ∧ (posR r = false ∨ ∃ xs kf, r = some (xs, kf) ∧ posR r = true ∧ ¬ (1 ≤ xs.length ∧ xs.length ≤ 20)) ∧ Errs E cB "part" (.str "lengths") H) ∨
   ∃ (a : Addr) (ls : List Int), v = .ref a ∧ SqE H a (ls.map V.int) ∧ 1 ≤ ls.length ∧ ls.length ≤ 20 ∧ (∀ x ∈ ls, 1 ≤ x) ∧ ∀ p H', Same H H' → H p = none → H' p = some (.tup [.int (armLo ls), .int ls.sum]) → Q (.ref p) H')
abbrev nAR : List Str := ["lengths", "total"]
theorem scAR : FnScope nAR ["lengths"] (defScope sArmRange) := ⟨rfl, rfl, rfl, by decide +kernel, rfl, by decide +kernel, by decide +kernel⟩
theorem ok_ar {f fP fI cB : Addr} {fd fdP fdI : FuncData} (F : Fun K "arm_range" "arm_range" sArmRange f fd) (T : Bi mg) (N : Nm2 mg) (PO : DefAt P w K mg base CX0 3 "are_positive" ["value"] (spPos K) fP fdP) (B : ErrAt P w K mg base "BadNumber" "part" cB fI fdI) :
    FnOk P w K mg base (L2.CX P w) 4 f fd ["lengths"] (spAR K cB) := by
  refine F.okX scAR (fun vs H Q E h => ?_) (fun cdv A outer s H vs Q E hr h => ?_)
  · obtain ⟨v, rfl, _⟩ := h
    rfl
  · have nd := scAR.nd
    obtain ⟨t1, h1⟩ := N.arm
    refine ⟨_, pss_cons (ps_if (PW.pt (pw_or (pt_not (pt_val (pe_call PO.ok (hr.mono (by decide)) rfl PO.g PO.kp PO.b .nil pass0 (pa_cons (pv 0) pa_nil)))) (pw_or1 (pt_not (pt_chain op_le op_le pe_int (pe_callB (r := rLenS K) call_len_seq (by rfl) T.len PySem.boot_len (pa_cons (pv 0) pa_nil)) (pe_glob (v := .int 20) rfl h1 ⟨_, rfl⟩))))))
        (pss_one (ps_raise rfl (takes_of rfl rfl rfl rfl) (pmk_oex B.oex B.ic B.ti B.ok (hr.mono (by decide)) B.b .nil pass0 rfl B.g (pa_cons pe_str pa_nil)))) pss_nil)
      (pss_cons (ps_set (i := 1) nd rfl (Or.inl rfl) (pe_callB (call_or (cr_sum rfl) (cr_sumT rfl)) (by rfl) T.sum (by decide +kernel) (pa_cons (pv 0) pa_nil)))
      (pss_one (ps_ret (pe_tup (pa_cons (pe_callB (call_max2 rfl) (by rfl) T.max (by decide +kernel) (pa_cons pe_int (pa_cons (pe_op op_sub (pe_op op_mul pe_int (pe_callB (call_or (cr_max rfl) (cr_maxT rfl)) (by rfl) T.max (by decide +kernel) (pa_cons (pv 0) pa_nil))) (pv 1)) pa_nil))) (pa_cons (pv 1) pa_nil)))))), ?_⟩
    obtain ⟨v, rfl, h⟩ := h
    rcases h with ⟨r, hv, bad, er⟩ | ⟨a, ls, rfl, ha, l1, l20, p1, q⟩
    · refine ⟨_, rfl, v, r, rfl, hv, fun H1 s1 => ⟨_, rfl, ?_⟩⟩
      have er1 := er.later s1
      rcases bad with b | ⟨xs, kf, rfl, b, nl⟩
      · rw [b]
        exact iteT (err_made B.oex B.nf er1)
      · rw [b]
        obtain ⟨a, rfl, hs, _⟩ := hv
        have hs1 : SqL K H1 a xs ∨ SqT K H1 a xs := hs.imp (fun z => s1.seq z.2) (fun z => s1.tup z.2)
        refine iteF ⟨_, rfl, a, xs, rfl, hs1, _, _, rfl, rfl, _, rfl, ?_⟩
        by_cases c1 : (1 : Int) ≤ (xs.length : Nat)
        · refine iteDT c1 ⟨_, _, rfl, rfl, _, rfl, ?_⟩
          rw [decide_eq_false (show ¬ ((xs.length : Nat) : Int) ≤ 20 by omega)]
          exact iteT (err_made B.oex B.nf er1)
        · refine iteDF c1 ⟨_, rfl, iteT (err_made B.oex B.nf er1)⟩
    · have hv : PosV K H (.ref a) (some (ls.map V.int, fun _ => "int")) := by
        refine ⟨a, rfl, ?_, by rw [List.length_map]; omega, fun x m => ?_⟩
        · rcases ha with h | h
          · exact .inl ⟨⟨.base (.lst h), by decide⟩, SqL.of h⟩
          · exact .inr ⟨⟨.base (.tup h), by decide⟩, .inl (.inl h)⟩
        · obtain ⟨i, _, rfl⟩ := List.mem_map.mp m
          exact KndI.int
      have pr : posR (some (ls.map V.int, fun _ => "int")) = true := by
        show ((ls.map V.int).all fun x => posB "int" x) = true
        rw [List.all_map, List.all_eq_true]
        intro x hx
        show (decide ("int" = "int") && decide ((1 : Int) ≤ x)) = true
        rw [decide_eq_true (p1 x hx)]
        rfl
      refine ⟨_, rfl, _, _, rfl, hv, fun H1 s1 => ⟨_, rfl, ?_⟩⟩
      rw [pr]
      have ha1 := ha.same s1
      have hs1 : SqL K H1 a (ls.map V.int) ∨ SqT K H1 a (ls.map V.int) := ha1.imp SqL.of fun h => .inl (.inl h)
      refine iteF ⟨_, rfl, a, _, rfl, hs1, _, _, rfl, rfl, _, rfl, ?_⟩
      rw [List.length_map]
      refine iteDT (show (1 : Int) ≤ (ls.length : Nat) by omega) ⟨_, _, rfl, rfl, _, rfl, ?_⟩
      rw [decide_eq_true (show ((ls.length : Nat) : Int) ≤ 20 by omega)]
      refine iteF ?_
      refine ⟨_, rfl, ?_⟩
      have sm' : ∀ {Q' : VK}, Q' (.int ls.sum) H1 → (rSum K [.ref a] H1 Q' ∨ rSumT K [.ref a] H1 Q') := fun z => hs1.imp (fun h => ⟨a, ls, rfl, h, z⟩) fun h => ⟨a, ls, rfl, h, z⟩
      have mx' : ∀ {Q' : VK}, Q' (.int (mx ls)) H1 → (rMax K [.ref a] H1 Q' ∨ rMaxT K [.ref a] H1 Q') := fun z => hs1.imp (fun h => ⟨a, ls, rfl, h, by omega, fun m hm hx => by rw [mx_eq hm hx p1]; exact z⟩) fun h => ⟨a, ls, rfl, h, by omega, fun m hm hx => by rw [mx_eq hm hx p1]; exact z⟩
      refine sm' ?_
      refine ⟨_, rfl, mx' ⟨_, _, rfl, rfl, .inl ⟨by decide, by decide⟩, _, rfl, _, _, rfl, rfl, _, _, rfl, _, rfl, (by show 2 ≤ sizeLine; decide), fun p np => ?_⟩⟩
      have em : (if 2 * mx ls - ls.sum > 0 then 2 * mx ls - ls.sum else 0) = armLo ls := by
        unfold armLo
        split <;> omega
      rw [em]
      exact q p _ (s1.new np) (s1.free np) upd_same
end
end K
namespace K
open PySem L2 Rg LamX
open Evl (pss_cut)
def arcL (ls : List Int) (i j : Int) : List Int := (arcB ls.length i j).map fun b => ls.getD b.toNat 0
theorem arcB_mem {m i j b : Int} (m0 : 0 < m) (h : b ∈ arcB m i j) : 0 ≤ b ∧ b < m := by
  obtain ⟨s, _, rfl⟩ := List.mem_map.mp h
  exact ⟨Int.emod_nonneg _ (by omega), Int.emod_lt_of_pos _ m0⟩
theorem arcB_len (m i j : Int) : (arcB m i j).length = ((j - i) % m).toNat := by
  unfold arcB
  rw [List.length_map, List.length_range]
theorem arc_len {m i j : Int} (i0 : 0 ≤ i) (i1 : i < m) (j0 : 0 ≤ j) (j1 : j < m) (ne : i ≠ j) : 1 ≤ ((j - i) % m).toNat ∧ (((j - i) % m).toNat : Int) < m := by
  have d0 := Int.emod_nonneg (j - i) (show m ≠ 0 by omega)
  have d1 := Int.emod_lt_of_pos (j - i) (show 0 < m by omega)
  have d2 : (j - i) % m ≠ 0 := fun z => by
    have := Int.dvd_of_emod_eq_zero z
    obtain ⟨c, hc⟩ := this
    have : c = 0 := by
      rcases Int.lt_trichotomy c 0 with h | h | h
      · have := Int.mul_le_mul_of_nonneg_left (show c ≤ -1 by omega) (show 0 ≤ m by omega)
        omega
      · exact h
      · have := Int.mul_le_mul_of_nonneg_left (show 1 ≤ c by omega) (show 0 ≤ m by omega)
        omega
    rw [this, Int.mul_zero] at hc
    omega
  omega
theorem arcL_pos {ls : List Int} {i j : Int} (bd : Bd 1000000 ls) (l0 : 0 < ls.length) : ∀ x ∈ arcL ls i j, 1 ≤ x := fun x h => by
  obtain ⟨b, hb, rfl⟩ := List.mem_map.mp h
  have := arcB_mem (by omega) hb
  exact (bd.get (by omega)).1
section
variable {P : Program} {w : World} {K : PySem.W.Frag} {mg : Str → Option Value} {base : Heap}
/-! ### arc_range -/
def spAG (K : PySem.W.Frag) (C cR cN cT : Addr) : Sp := fun vs H Q E => ∃ v a b : V, vs = [v, a, b] ∧
  ((NoR K C H v ∧ Errs E cR "part" (.str "ring") H) ∨ ∃ (r : Addr) (ls : List Int), v = .ref r ∧ RingAt K C H r ls ∧ 3 ≤ ls.length ∧ ls.length ≤ 8 ∧ Bd 1000000 ls ∧
    CornR K cN cT E H a b ls.length fun i j => ∀ p H', Same H H' → H p = none → H' p = some (.tup [.int (armLo (arcL ls i j)), .int (arcL ls i j).sum]) → Q (.ref p) H')
abbrev nAG : List Str := ["ring", "one", "other", "bars", "bar"]
theorem scAG : FnScope nAG ["ring", "one", "other"] (defScope sArcRange) := ⟨rfl, rfl, rfl, by decide +kernel, rfl, by decide +kernel, by decide +kernel⟩
theorem KndI.same {H H' : Hp} {v : V} {k : String} (h : KndI K H v k) (s : Same H H') : KndI K H' v k := ⟨h.1.same s, h.2⟩
theorem CornR.imp {cN cT : Addr} {E : XK} {H : Hp} {v u : V} {m : Int} {q q' : Int → Int → Prop} (h : CornR K cN cT E H v u m q) (i : ∀ i j, 0 ≤ i → i < m → 0 ≤ j → j < m → i ≠ j → q i j → q' i j) : CornR K cN cT E H v u m q' :=
  h.imp_right fun ⟨x, e, x0, x1, z⟩ => ⟨x, e, x0, x1, z.imp_right fun ⟨y, e, y0, y1, z⟩ => ⟨y, e, y0, y1, z.imp_right fun ⟨ne, z⟩ => ⟨ne, i x y x0 x1 y0 y1 ne z⟩⟩⟩
theorem ok_ag {C cR cB cN cT f fN fR fA fM : Addr} {fd fdN fdR fdA fdM : FuncData} (F : Fun K "arc_range" "arc_range" sArcRange f fd) (T : Bi mg) (R : RingC K mg C)
    (NM : Meth K C "__len__" fN) (NL : FnOk P w K mg base CX0 1 fN fdN ["self"] (spRLen K C)) (NB : Binds K fdN ["self"] []) (WR : DefAt P w K mg base (L2.CX P w) 3 "want_ring" ["value", "part"] (spWantR K C cR) fR fdR)
    (AB : DefAt P w K mg base (L2.CX P w) 5 "arc_bars" ["many", "one", "other"] (spAB K cB cN cT) fA fdA) (AR : DefAt P w K mg base (L2.CX P w) 4 "arm_range" ["lengths"] (spAR K cB) fM fdM) :
    FnOk P w K mg base (L2.CX P w) 6 f fd ["ring", "one", "other"] (spAG K C cR cN cT) := by
  refine F.okX scAG (fun vs H Q E h => ?_) (fun cdv A outer s H vs Q E hr h => ?_)
  · obtain ⟨v, a, b, rfl, _⟩ := h
    rfl
  · have nd := scAG.nd
    refine ⟨_, pss_cons (ps_expr (pe_call WR.ok (hr.mono (by decide)) rfl WR.g WR.kp WR.b .nil (passes_call (takes_of rfl rfl rfl rfl) (fun _ _ _ _ h => h)) (pa_cons (pv 0) (pa_cons pe_str pa_nil))))
      (pss_cons (ps_set (i := 3) nd rfl (Or.inl rfl) (pe_call AB.ok hr rfl AB.g AB.kp AB.b .nil (passes_call (takes_of rfl rfl rfl rfl) (fun _ _ _ _ h => h)) (pa_cons (pe_callB (call_lenO NL (hr.mono (by decide)) NB) (by rfl) T.len PySem.boot_len (pa_cons (pv 0) pa_nil)) (pa_cons (pv 1) (pa_cons (pv 2) pa_nil)))))
      (pss_one (ps_ret (pe_call AR.ok (hr.mono (by decide)) rfl AR.g AR.kp AR.b .nil (passes_call (takes_of rfl rfl rfl rfl) (fun _ _ _ _ h => h)) (pa_cons (pe_lc (own := [("bar", 4)]) (g := gName 4) (tt := tYes) (te := tOp (rIxT K) (tFld K (tVar 0) "lengths") (tVar 4)) rfl nd (pi_tup (pv 3)) (blkOk_by (N := nAG) (sc := defScope sArcRange) (by decide +kernel)) (fun _ _ _ _ _ => pg_name (i := 4) nd rfl (Or.inl rfl)) (fun _ _ _ _ _ => pts_nil)
        (fun _ _ _ _ _ => pe_ix (r := rIxT K) ix_tup (pe_fld (pv 0) rfl) (pv 4) (fun _ _ => rfl))) pa_nil))))), ?_⟩
    obtain ⟨v, a, b, rfl, ⟨no, er⟩ | ⟨r, ls, rfl, ra, l3, l8, bd, ask⟩⟩ := h
    · exact ⟨_, rfl, v, "ring", rfl, .inr ⟨no, er⟩⟩
    refine ⟨_, rfl, .ref r, "ring", rfl, .inl ⟨r, ls, rfl, ra.weak, ?_⟩⟩
    obtain ⟨dx, t, hr0, ht0⟩ := id ra.weak
    refine ⟨_, rfl, r, C, dx, _, rfl, hr0, NM.at_, NM.fn, r, ls, rfl, ra.weak, _, rfl, by omega, by omega, ?_⟩
    refine ⟨_, rfl, _, rfl, .int (ls.length : Nat), a, b, rfl, .inr ⟨(ls.length : Nat), rfl, by omega, by omega, CornR.imp ask fun i j i0 i1 j0 j1 ne q p H1 s1 np hp => ?_⟩⟩
    refine ⟨_, rfl, p, rfl, ⟨_, .inl (.inl hp)⟩, fun D hD => ?_⟩
    have ln := arc_len i0 i1 j0 j1 ne
    have al := arcB_len (ls.length : Nat) i j
    refine lc_tup (K := K) (a := p) (xs := (arcB (ls.length : Nat) i j).map V.int) (fun k H' => Same H1 H' ∧ H' D = some (.lst (((arcL ls i j).take k).map V.int))) ⟨(Same.refl H1).new hD, upd_same⟩ (fun k H' _ q => .inl (.inl (q.1 _ _ hp))) ?_ ?_
    · rintro k x H' hk ⟨s2, h2⟩
      obtain ⟨y, hy, rfl⟩ : ∃ y, (arcB (ls.length : Nat) i j)[k]? = some y ∧ x = .int y := by
        rw [List.getElem?_map] at hk
        cases c : (arcB (ls.length : Nat) i j)[k]? with
        | none => rw [c] at hk; cases hk
        | some y => rw [c] at hk; cases hk; exact ⟨y, rfl, rfl⟩
      have yb := arcB_mem (show 0 < ((ls.length : Nat) : Int) by omega) (List.mem_of_getElem? hy)
      have s02 := s1.trans s2
      have kl : k < (arcB (ls.length : Nat) i j).length := (List.getElem?_eq_some_iff.mp hy).1
      refine ⟨rfl, _, rfl, r, C, dx, _, _, rfl, s02 _ _ hr0, R.cl, R.nL, rf_lengths _ _, _, rfl, t, _, y, .int (ls.getD y.toNat 0), rfl, rfl, s02.tup ht0, get_z yb.1 yb.2, _, h2, ?_, s2.mut hD, ?_⟩
      · rw [List.length_map, List.length_take]
        exact sm (by omega)
      · have hy2 : (arcL ls i j)[k]? = some (ls.getD y.toNat 0) := by
          unfold arcL
          rw [List.getElem?_map, hy]
          rfl
        rw [upd_same, ← take_snoc hy2, List.map_append]
        rfl
    · rintro H2 ⟨s2, h2⟩
      have ll : (arcL ls i j).length = ((j - i) % ((ls.length : Nat) : Int)).toNat := by unfold arcL; rw [List.length_map, al]
      rw [List.length_map, al, ← ll, List.take_length] at h2
      refine ⟨.ref D, rfl, .inr ⟨D, arcL ls i j, rfl, .inl h2, by omega, by omega, arcL_pos bd (by omega), fun p2 H3 s3 np2 hp2 => ?_⟩⟩
      exact q p2 H3 ((s1.trans s2).trans s3) ((s1.trans s2).free np2) hp2
/-! ### the law's reach -/
theorem call_max3I {X : Cx} (hc : X.calm = true) : CallR X (.builtin "max") (fun xs H Q => ∃ i j k, xs = [.int i, .int j, .int k] ∧ Q (.int (max (max i j) k)) H) := by
  intro pins s σ H xs us Q I r ⟨i, j, k, e, q⟩
  refine call_max3Nu hc pins s σ H xs us Q I r ⟨.int i, .int j, .int k, .int (max (max i j) k), e, ?_, q⟩
  have two : ∀ a b : Int, nuMax2 (.int a) (.int b) = some (.int (max a b)) := fun a b => by
    show some (if decide (a < b) = true then V.int b else V.int a) = _
    by_cases c : a < b
    · rw [if_pos (decide_eq_true c), Int.max_eq_right (by omega)]
    · rw [if_neg (by simpa using c), Int.max_eq_left (by omega)]
  show (nuMax2 (.int i) (.int j)).bind (fun m => nuMax2 m (.int k)) = _
  rw [two]
  exact two _ _
theorem armLo_snoc {ls : List Int} {x : Int} (h1 : ∀ y ∈ ls, 1 ≤ y) (hx : 1 ≤ x) : armLo (ls ++ [x]) = max (max 0 (armLo ls - x)) (x - ls.sum) := by
  have e : mx (ls ++ [x]) = max (mx ls) x := by
    unfold mx
    rw [List.foldl_append]
    rfl
  unfold armLo
  rw [e, List.sum_append, List.sum_singleton]
  omega
theorem armLo_one {x : Int} (hx : 1 ≤ x) : armLo [x] = x := by
  unfold armLo mx
  rw [List.foldl_cons, List.foldl_nil, List.sum_singleton]
  omega
def spRE (K : PySem.W.Frag) : Sp := fun vs H Q _ => ∃ (a : Addr) (ls : List Int), vs = [.ref a] ∧ H a = some (.lst (ls.map V.int)) ∧ 1 ≤ ls.length ∧ ls.length ≤ 1000 ∧ (∀ x ∈ ls, 1 ≤ x) ∧ ∀ p H', Same H H' → H p = none → H' p = some (.tup [.int (armLo ls), .int ls.sum]) → Q (.ref p) H'
abbrev nRE : List Str := ["_law_lengths", "_law_low", "_law_high", "_law_length_here"]
theorem scRE : FnScope nRE ["_law_lengths"] (defScope sLwReach) := ⟨rfl, rfl, rfl, by decide +kernel, rfl, by decide +kernel, by decide +kernel⟩
theorem ok_re {f : Addr} {fd : FuncData} (F : Fun K "_law_reach" "_law_reach" sLwReach f fd) (T : Bi mg) : FnOk P w K mg base CX0 1 f fd ["_law_lengths"] (spRE K) := by
  refine F.ok scRE (fun vs H Q E h => ?_) (fun cdv A outer s H vs Q E hr h => ?_)
  · obtain ⟨a, ls, rfl, _⟩ := h
    rfl
  · have nd := scRE.nd
    refine ⟨_, pss_cons (ps_par (i := 1) (j := 2) (by rfl) nd rfl rfl (by decide) rfl rfl (pa_cons (pe_ix (r := rIxL K) ix_list (pv 0) pe_int (fun _ _ => rfl)) (pa_cons (pe_ix (r := rIxL K) ix_list (pv 0) pe_int (fun _ _ => rfl)) pa_nil)) (by rfl))
      (pss_cons (ps_for PassesOwn.never rfl (pi_list (pe_slice sl_list (pv 0) (po_some pe_int) po_none)) (pg_name (i := 3) nd rfl (Or.inl rfl))
        (pss_one (ps_par (i := 1) (j := 2) (by rfl) nd rfl rfl (by decide) rfl rfl (pa_cons (pe_callB (call_max3I rfl) (by rfl) T.max (by decide +kernel) (pa_cons pe_int (pa_cons (pe_op op_sub (pv 1) (pv 3)) (pa_cons (pe_op op_sub (pv 3) (pv 2)) pa_nil)))) (pa_cons (pe_op op_add (pv 2) (pv 3)) pa_nil)) (by rfl))))
      (pss_one (ps_ret (pe_tup (pa_cons (pv 1) (pa_cons (pv 2) pa_nil)))))), ?_⟩
    obtain ⟨a, ls, rfl, ha, l1, l1000, p1, q⟩ := h
    obtain ⟨x0, rest, rfl⟩ : ∃ x0 rest, ls = x0 :: rest := by
      cases ls with
      | nil => exact absurd l1 (by decide)
      | cons x r => exact ⟨x, r, rfl⟩
    have a0 : atI ((x0 :: rest).map V.int) 0 = some (.int x0) := at_of (j := 0) rfl rfl
    refine ⟨_, rfl, a, _, 0, _, rfl, rfl, SqL.of ha, a0, _, rfl, a, _, 0, _, rfl, rfl, SqL.of ha, a0, _, _, rfl, ?_⟩
    refine ⟨_, rfl, 1, rfl, ?_⟩
    delta tNoPart
    refine ⟨a, _, rfl, SqL.of ha, fun z nz => ?_⟩
    rw [show cutV ((x0 :: rest).map V.int) (some 1) none = rest.map V.int from cut_from _ (k := 1) rfl]
    have s1 : Same H (upd H z (.lst (rest.map V.int))) := (Same.refl H).new nz
    have hz : upd H z (.lst (rest.map V.int)) z = some (.lst (rest.map V.int)) := upd_same
    generalize upd H z (.lst (rest.map V.int)) = H1 at s1 hz ⊢
    refine ⟨z, rfl, ⟨_, SqL.of hz⟩, ?_⟩
    refine for_list (K := K) (a := z) (xs := rest.map V.int) (fun i σ H' => H' = H1 ∧ ∃ o, σ = [some (.ref a), some (.int (armLo (x0 :: rest.take i))), some (.int (x0 :: rest.take i).sum), o]) ?_ (fun i σ H' _ h => by rw [h.1]; exact SqL.of hz) ?_ ?_
    · refine ⟨rfl, none, ?_⟩
      rw [List.take_zero, armLo_one (p1 x0 (List.mem_cons_self ..)), List.sum_singleton]
      rfl
    · rintro i v σ H' hi ⟨rfl, o, rfl⟩
      obtain ⟨y, hy, rfl⟩ : ∃ y, rest[i]? = some y ∧ v = .int y := by
        rw [List.getElem?_map] at hi
        cases c : rest[i]? with
        | none => rw [c] at hi; cases hi
        | some y => rw [c] at hi; cases hi; exact ⟨y, rfl, rfl⟩
      have y1 := p1 y (List.mem_cons_of_mem _ (List.mem_of_getElem? hy))
      have pt : ∀ x ∈ x0 :: rest.take i, 1 ≤ x := fun x m => p1 x (by
        rcases List.mem_cons.mp m with rfl | m
        · exact List.mem_cons_self ..
        · exact List.mem_cons_of_mem _ (List.mem_of_mem_take m))
      have e1 : x0 :: rest.take (i + 1) = (x0 :: rest.take i) ++ [y] := by rw [← take_snoc hy]; rfl
      refine ⟨_, rfl, _, rfl, _, _, rfl, rfl, _, rfl, _, rfl, _, _, rfl, rfl, _, _, _, rfl, _, rfl, _, rfl, _, _, rfl, rfl, _, _, rfl, ?_⟩
      refine ⟨rfl, some (.int y), ?_⟩
      rw [e1, armLo_snoc pt y1, List.sum_append, List.sum_singleton]
      rfl
    · rintro σ H' ⟨rfl, o, rfl⟩
      rw [List.length_map, List.take_length]
      refine ⟨_, rfl, _, rfl, (by show 2 ≤ sizeLine; decide), fun p np => ?_⟩
      exact q p _ (s1.new np) (s1.free np) upd_same
end
end K
namespace K
open PySem L2 Rg LamX
open Evl (pss_cut)
section
variable {P : Program} {w : World} {K : PySem.W.Frag} {mg : Str → Option Value} {base : Heap}
/-! ### _law_mixed -/
def spMixed (K : PySem.W.Frag) : Sp := fun vs H Q _ => ∃ (p l : Addr) (e : Addr × List Int) (xs : List V) (n : Nat), vs = [.ref p, .ref l] ∧ SqL K H l xs ∧ l ≠ p ∧ xs.length ≤ 30 ∧ n < 900000 ∧ PenAt K H p e n ∧
  ∀ (q : Addr) (ys : List V) (H' : Hp), ys.Perm xs → H q = none → But p H H' → H' q = some (.lst ys) → PenAt K H' p e (n + xs.length) → Q (.ref q) H'
abbrev nMixed : List Str := ["_law_pen_here", "_law_some", "_law_left", "_law_found", "_law_turn"]
theorem scMixed : FnScope nMixed ["_law_pen_here", "_law_some"] (defScope sLwMixed) := ⟨rfl, rfl, rfl, by decide +kernel, rfl, by decide +kernel, by decide +kernel⟩
theorem perm_take {l d : List V} {i : Nat} {x : V} (h : l[i]? = some x) : (d ++ [x] ++ l.eraseIdx i).Perm (d ++ l) := by
  obtain ⟨hi, rfl⟩ := List.getElem?_eq_some_iff.mp h
  rw [List.append_assoc]
  refine List.Perm.append_left d ?_
  rw [List.eraseIdx_eq_take_drop_succ]
  have e : l = l.take i ++ l[i] :: l.drop (i + 1) := by
    rw [List.getElem_cons_drop, List.take_append_drop]
  calc [l[i]] ++ (l.take i ++ l.drop (i + 1)) = l[i] :: (l.take i ++ l.drop (i + 1)) := rfl
    _ |>.Perm (l.take i ++ l[i] :: l.drop (i + 1)) := List.perm_middle.symm
    _ |>.Perm l := by rw [← e]
theorem ok_mixed {f fD : Addr} {fd fdD : FuncData} (F : Fun K "_law_mixed" "_law_mixed" sLwMixed f fd) (T : Bi mg) (D : DrawAt P w K mg base fD fdD) : FnOk P w K mg base CX0 3 f fd ["_law_pen_here", "_law_some"] (spMixed K) := by
  refine F.ok scMixed (fun vs H Q E h => ?_) (fun cdv A outer s H vs Q E hr h => ?_)
  · obtain ⟨p, l, e, xs, n, rfl, _⟩ := h
    rfl
  · have nd := scMixed.nd
    refine ⟨_, pss_cons (ps_par (i := 2) (j := 3) (by rfl) nd rfl rfl (by decide) rfl rfl (pa_cons (pe_callTy call_list_of (by rfl) T.list (by decide +kernel) (pa_cons (pv 1) pa_nil)) (pa_cons (pe_lst pa_nil) pa_nil)) (by rfl))
      (pss_cons (ps_for PassesOwn.never rfl (pi_range1 (by rfl) T.range (pa_cons (pe_callB call_len_seq (by rfl) T.len PySem.boot_len (pa_cons (pv 1) pa_nil)) pa_nil)) (pg_name (i := 4) nd rfl (Or.inl rfl))
        (pss_one (ps_expr (pe_bm PySem.F.plainAttrs_list PySem.F.slot_list_append PySem.F.type_list_append mt_append (pv 3)
          (pa_cons (pe_bm PySem.F.plainAttrs_list PySem.F.slot_list_pop PySem.F.type_list_pop mt_popAt (pv 2)
            (pa_cons (pe_call D.ok hr rfl D.g D.kp D.b .nil pass0 (pa_cons (pv 0) (pa_cons (pe_callB call_len_seq (by rfl) T.len PySem.boot_len (pa_cons (pv 2) pa_nil)) pa_nil))) pa_nil)) pa_nil)))))
      (pss_one (ps_ret (pv 3)))), ?_⟩
    obtain ⟨p, l, e, xs, n, rfl, hl, hlp, hxl, hn, pen, k⟩ := h
    refine ⟨_, rfl, l, xs, rfl, .inl hl, fun a ha => ⟨by show 0 ≤ sizeLine; decide, fun g hg => ?_⟩⟩
    have hga : g ≠ a := (ne_of_none upd_same hg).symm
    have hg0 : H g = none := by
      rw [upd_ne hga] at hg
      exact hg
    have s1 : Same H (upd H a (.lst xs)) := (Same.refl H).new ha
    have s2 : Same H (upd (upd H a (.lst xs)) g (.lst [])) := s1.new hg
    refine ⟨_, _, rfl, _, rfl, l, xs, rfl, .inl (s2.seq hl), _, rfl, by omega, by omega, ?_⟩
    refine for_range (lo := 0) (n := ((xs.length : Nat) : Int).toNat) (fun i σ H' => ∃ (rest done : List V) (t : Option V), σ = [some (.ref p), some (.ref l), some (.ref a), some (.ref g), t] ∧ But p H H' ∧ H' a = some (.lst rest) ∧ H' g = some (.lst done) ∧
      (done ++ rest).Perm xs ∧ done.length = i ∧ PenAt K H' p e (n + i)) ⟨xs, [], none, rfl, But.of s2, by rw [upd_ne hga.symm, upd_same], upd_same, List.Perm.refl _, rfl, pen.same s2⟩ ?_ ?_
    · rintro i σ H' hi ⟨rest, done, t, rfl, b, h1, h2, pm, dl, pen'⟩
      have hi' : i < xs.length := by omega
      have hlen := pm.length_eq
      rw [List.length_append] at hlen
      have hap : a ≠ p := pen.ne ha
      have hgp : g ≠ p := pen.ne hg0
      have r1 : 1 ≤ rest.length := by omega
      refine ⟨_, rfl, .inl ⟨rfl, _, SqL.of h2⟩, _, rfl, .inl ⟨rfl, _, SqL.of h1⟩, _, rfl, _, rfl, a, rest, rfl, .inl (SqL.of h1), p, e, _, n + i, rfl, by omega, by omega, by omega, pen', fun r H2 r0 rl b2 pen2 => ?_⟩
      have hrl : r.toNat < rest.length := by omega
      have e1 : H2 a = some (.lst rest) := b2 a _ hap h1
      have e2 : H2 g = some (.lst done) := b2 g _ hgp h2
      refine ⟨a, rest, r, r.toNat, rest[r.toNat], rfl, rfl, e1, by omega, by omega, seqIndex_of r0 rl, List.getElem?_eq_getElem hrl, g, done, _, rfl, rfl, by rw [upd_ne hga]; exact e2, szl (by omega), ?_⟩
      have b3 : But p H (upd (upd H2 a (.lst (rest.eraseIdx r.toNat))) g (.lst (done ++ [rest[r.toNat]]))) := ((b.trans b2).mut ha).mut hg0
      refine ⟨rest.eraseIdx r.toNat, done ++ [rest[r.toNat]], _, rfl, b3, by rw [upd_ne hga.symm, upd_same], upd_same, (perm_take (List.getElem?_eq_getElem hrl)).trans pm, by rw [List.length_append, dl]; rfl, ?_⟩
      exact pen.mut (pen.mut pen2 (b.trans b2) ha) ((b.trans b2).mut ha) hg0
    · rintro σ H' ⟨rest, done, t, rfl, b, h1, h2, pm, dl, pen'⟩
      have hlen := pm.length_eq
      rw [List.length_append] at hlen
      have er : rest = [] := List.eq_nil_of_length_eq_zero (by omega)
      subst er
      rw [List.append_nil] at pm
      refine ⟨_, rfl, k g done H' pm hg0 b h2 (by simpa using pen')⟩
/-! ### _law_arc -/
def spLA (K : PySem.W.Frag) : Sp := fun vs H Q _ => ∃ m i j : Int, vs = [.int m, .int i, .int j] ∧ 0 < m ∧ m ≤ 8 ∧ ∀ p H', Same H H' → H p = none → H' p = some (.lst ((arcB m i j).map V.int)) → Q (.ref p) H'
abbrev nLA : List Str := ["_law_many", "_law_one", "_law_other", "_law_step"]
theorem scLA : FnScope nLA ["_law_many", "_law_one", "_law_other"] (defScope sLwArc) := ⟨rfl, rfl, rfl, by decide +kernel, rfl, by decide +kernel, by decide +kernel⟩
theorem ok_la {f : Addr} {fd : FuncData} (F : Fun K "_law_arc" "_law_arc" sLwArc f fd) (T : Bi mg) : FnOk P w K mg base CX0 1 f fd ["_law_many", "_law_one", "_law_other"] (spLA K) := by
  refine F.ok scLA (fun vs H Q E h => ?_) (fun cdv A outer s H vs Q E hr h => ?_)
  · obtain ⟨m, i, j, rfl, _⟩ := h
    rfl
  · have nd := scLA.nd
    refine ⟨_, pss_one (ps_ret (pe_lc (own := [("_law_step", 3)]) (g := gName 3) (tt := tYes) (te := tOp (rI (fun _ j => 0 < j) fun i j => .int (i % j)) (tCB (fun xs H Q => (∃ i, xs = [V.int i] ∧ Q (V.int i) H) ∨ ∃ k, xs = [V.bl k] ∧ Q (V.int (if k = true then 1 else 0)) H) (tCons (tOp (rI0 fun i j => .int (i + j)) (tVar 1) (tVar 3)) tNil)) (tVar 0)) rfl nd (pi_range1 (by rfl) T.range (pa_cons (pe_op op_mod (pe_callTy call_int1 (by rfl) T.int (by decide +kernel) (pa_cons (pe_op op_sub (pv 2) (pv 1)) pa_nil)) (pv 0)) pa_nil))
        (blkOk_by (N := nLA) (sc := defScope sLwArc) (by decide +kernel)) (fun _ _ _ _ _ => pg_name (i := 3) nd rfl (Or.inl rfl)) (fun _ _ _ _ _ => pts_nil) (fun _ _ _ _ _ => pe_op op_mod (pe_callTy call_int1 (by rfl) T.int (by decide +kernel) (pa_cons (pe_op op_add (pv 1) (pv 3)) pa_nil)) (pv 0)))), ?_⟩
    obtain ⟨m, i, j, rfl, m0, m8, q⟩ := h
    have d0 := Int.emod_nonneg (j - i) (show m ≠ 0 by omega)
    have d1 := Int.emod_lt_of_pos (j - i) m0
    refine ⟨_, rfl, _, rfl, _, _, rfl, rfl, .inl ⟨_, rfl, _, rfl, _, _, rfl, rfl, m0, _, rfl, by omega, by omega, fun D hD => ?_⟩⟩
    refine lc_range (lo := 0) (n := ((j - i) % m).toNat) (fun k H' => Same H H' ∧ H' D = some (.lst (((List.range k).map fun s : Nat => (i + (s : Int)) % m).map V.int))) ⟨(Same.refl H).new hD, upd_same⟩ ?_ ?_
    · rintro k H' hk ⟨s1, h1⟩
      rw [Int.zero_add]
      refine ⟨rfl, _, rfl, _, rfl, _, _, rfl, rfl, .inl ⟨_, rfl, _, rfl, _, _, rfl, rfl, m0, _, h1, (by rw [List.length_map, List.length_map, List.length_range]; exact sm (by omega)), s1.mut hD, ?_⟩⟩
      rw [upd_same, List.range_succ, List.map_append, List.map_append]
      rfl
    · rintro H1 ⟨s1, h1⟩
      exact q D H1 s1 hD h1
/-! ### _law_length -/
def spLG (K : PySem.W.Frag) : Sp := fun vs H Q _ => ∃ (p : Addr) (e : Addr × List Int) (n : Nat), vs = [.ref p] ∧ n < 800000 ∧ PenAt K H p e n ∧ ∀ (x : Int) (H' : Hp), 1 ≤ x → x ≤ 1000000 → But p H H' → PenAt K H' p e (n + 2) → Q (.int x) H'
abbrev nLG : List Str := ["_law_pen_here", "_law_way"]
theorem scLG : FnScope nLG ["_law_pen_here"] (defScope sLwLength) := ⟨rfl, rfl, rfl, by decide +kernel, rfl, by decide +kernel, by decide +kernel⟩
theorem ok_lg {f fD : Addr} {fd fdD : FuncData} (F : Fun K "_law_length" "_law_length" sLwLength f fd) (D : DrawAt P w K mg base fD fdD) : FnOk P w K mg base CX0 3 f fd ["_law_pen_here"] (spLG K) := by
  refine F.ok scLG (fun vs H Q E h => ?_) (fun cdv A outer s H vs Q E hr h => ?_)
  · obtain ⟨p, e, n, rfl, _⟩ := h
    rfl
  · have nd := scLG.nd
    refine ⟨_, pss_cons (ps_set (i := 1) nd rfl (Or.inl rfl) (pe_call D.ok hr rfl D.g D.kp D.b .nil pass0 (pa_cons (pv 0) (pa_cons pe_int pa_nil))))
      (pss_cons (ps_if (pt_cmpR op_lt (pv 1) pe_int (nomark _)) (pss_one (ps_ret (pe_op op_add pe_int (pe_call D.ok hr rfl D.g D.kp D.b .nil pass0 (pa_cons (pv 0) (pa_cons pe_int pa_nil)))))) pss_nil)
      (pss_one (ps_ret (pe_ifExp (pt_cmpR op_eq (pv 1) pe_int (nomark _)) (pe_op op_add pe_int (pe_call D.ok hr rfl D.g D.kp D.b .nil pass0 (pa_cons (pv 0) (pa_cons pe_int pa_nil)))) (pe_op op_add pe_int (pe_call D.ok hr rfl D.g D.kp D.b .nil pass0 (pa_cons (pv 0) (pa_cons (pe_op op_pow pe_int pe_int) pa_nil)))))))), ?_⟩
    obtain ⟨p, e, n, rfl, hn, pen, q⟩ := h
    refine ⟨_, rfl, p, e, 6, n, rfl, by decide, by decide, by omega, pen, fun r H1 r0 r1 b1 pen1 => ?_⟩
    refine ⟨_, rfl, _, _, rfl, rfl, _, rfl, ?_⟩
    by_cases c : r < 4
    · refine iteDT c ⟨_, rfl, p, e, 9, n + 1, rfl, by decide, by decide, by omega, pen1, fun x H2 x0 x1 b2 pen2 => ⟨_, _, rfl, rfl, ?_⟩⟩
      exact q _ H2 (by omega) (by omega) (b1.trans b2) pen2
    · refine iteDF c ⟨_, rfl, rfl, _, rfl, ?_⟩
      by_cases c2 : r = 4
      · refine iteDT (by rw [c2]) ⟨_, rfl, p, e, 60, n + 1, rfl, by decide, by decide, by omega, pen1, fun x H2 x0 x1 b2 pen2 => ⟨_, _, rfl, rfl, ?_⟩⟩
        exact q _ H2 (by omega) (by omega) (b1.trans b2) pen2
      · refine iteDF (fun z => c2 (V.int.inj z)) ⟨_, rfl, _, _, rfl, rfl, ⟨by decide, by decide, by decide⟩, p, e, _, n + 1, rfl, by decide, by decide, by omega, pen1, fun x H2 x0 x1 b2 pen2 => ⟨_, _, rfl, rfl, ?_⟩⟩
        have x1 : x < 1000000 := x1
        exact q _ H2 (by omega) (by omega) (b1.trans b2) pen2
end
end K
namespace K
open PySem PySem.Spec PyProof.Rows L2 Rg LamX
open Evl (pss_cut)
/-- isinstance(e, (A, B)), e an error that is kept -/
def rIsET (K : PySem.W.Frag) : List V → Hp → VK → Prop := fun xs Hh Qq => ∃ (x : V) (tp : Addr) (cs : List V) (us : List Value) (C : Addr) (fs : List (Str × V)) (b : Bool), xs = [x, .ref tp] ∧ Hh tp = some (.tup cs) ∧ Paired ClsV cs us ∧ ExcC K C ∧ ErrV Hh x C fs ∧ PySem.W.kitAny K (.ref C) us = some b ∧ Qq (.bl b) Hh
theorem cr_isET {X : Cx} : CallR X (.builtin "isinstance") (rIsET X.K) := by
  intro pns s σs Hh xs us Qq Iv rr ⟨x, tp, cs, cv, C, fs, b, ex, hT, hk, G, ⟨e, dd, ez, he, hd⟩, kit, q⟩
  subst ex ez
  obtain ⟨u1, u2, rfl, r1, r2⟩ := vals2 rr
  obtain rfl : u1 = Value.ref e := r1
  cases (show u2 = Value.ref tp from r2)
  obtain ⟨_, its, rv, o, h1, h2, n, h3⟩ := (show ObjOk X.prog X.w Hh s.heap tp (.tup cs) from Iv.hok tp _ hT)
  have e3 := ClsV.all hk rv
  subst e3
  obtain ⟨oc, odt, dt, sl⟩ := o
  simp only at h2 h3
  subst h2 h3
  obtain ⟨ob, od, mA, J, _, _⟩ := err_inst Iv.hok he hd
  have hcl : (PySem.W.clsIn X.K C).isSome = true := by
    obtain ⟨cd, hc, _⟩ := PySem.W.any_some G.hd
    rw [hc]
    rfl
  exact PySem.W.kia_tup (PySem.W.kitx_exc hcl G.hg G.hk G.hs G.ha G.hn G.ht G.hm) Iv.kIn J h1 kit (fun z => nomatch z) fun tk => ⟨.bl b, Hh, Iv.kept (t' := tk) fun _ _ z => z, rfl, q⟩
theorem kit_fst {K : PySem.W.Frag} {t c : Value} {r : List Value} (h : PySem.W.kitOne K t c = some true) : PySem.W.kitAny K t (c :: r) = some true := by
  unfold PySem.W.kitAny
  rw [h]
theorem kit_skip {K : PySem.W.Frag} {t c : Value} {r : List Value} {b : Bool} (h : PySem.W.kitOne K t c = some false) (h2 : PySem.W.kitAny K t r = some b) : PySem.W.kitAny K t (c :: r) = some b := by
  unfold PySem.W.kitAny
  rw [h]
  exact h2
structure Hs where
  b : Addr
  r : Addr
  n : Addr
  t : Addr
structure HeardC (K : PySem.W.Frag) (mg : Str → Option Value) (c : Hs) (eR : Addr) : Prop where
  gRE : mg "RingError" = some (.ref eR)
  gb : mg "BadNumber" = some (.ref c.b)
  eb : ExcC K c.b
  xb : XfC K c.b
  mb : PySem.W.exmOne K (.ref c.b) (.ref eR) = some true
  fb : PySem.W.findIn K (.ref c.b) "part" = some none
  ob : PySem.W.kitOne K (.type "NoneType") (.ref c.b) = some false
  gr : mg "BadRing" = some (.ref c.r)
  er : ExcC K c.r
  xr : XfC K c.r
  mr : PySem.W.exmOne K (.ref c.r) (.ref eR) = some true
  fr : PySem.W.findIn K (.ref c.r) "part" = some none
  or : PySem.W.kitOne K (.type "NoneType") (.ref c.r) = some false
  gn : mg "NoCorner" = some (.ref c.n)
  en : ExcC K c.n
  xn : XfC K c.n
  mn : PySem.W.exmOne K (.ref c.n) (.ref eR) = some true
  fn : PySem.W.findIn K (.ref c.n) "value" = some none
  on : PySem.W.kitOne K (.type "NoneType") (.ref c.n) = some false
  gt : mg "Twice" = some (.ref c.t)
  et : ExcC K c.t
  xt : XfC K c.t
  mt : PySem.W.exmOne K (.ref c.t) (.ref eR) = some true
  ft : PySem.W.findIn K (.ref c.t) "value" = some none
  ot : PySem.W.kitOne K (.type "NoneType") (.ref c.t) = some false
  krb : PySem.W.kitOne K (.ref c.r) (.ref c.b) = some false
  knb : PySem.W.kitOne K (.ref c.n) (.ref c.b) = some false
  knr : PySem.W.kitOne K (.ref c.n) (.ref c.r) = some false
  ktb : PySem.W.kitOne K (.ref c.t) (.ref c.b) = some false
  ktr : PySem.W.kitOne K (.ref c.t) (.ref c.r) = some false
  ktn : PySem.W.kitOne K (.ref c.t) (.ref c.n) = some false
inductive HTells (c : Hs) : Addr → Str → Str → Prop where
  | b : HTells c c.b "part" "number"
  | r : HTells c c.r "part" "ring"
  | n : HTells c c.n "value" "corner"
  | t : HTells c c.t "value" "twice"
/-- one of the errors comes: a tuple tells which, and its field -/
def Told (c : Hs) (Q : VK) : XK := fun cls d H' => ∃ (C dd : Addr) (n tag : Str) (v : V), cls = .ref C ∧ d = some dd ∧ H' dd = some (.xd [(n, v)]) ∧ HTells c C n tag ∧ ∀ p H2, Same H' H2 → H2 p = some (.tup [.str tag, v]) → Q (.ref p) H2
def THeard (c : Hs) : (XK → Hp → VK → Prop) → Hp → VK → Prop := fun tl H Q => ∀ R : VK, (∀ (v : V) (H' : Hp), (∀ H2, Same H' H2 → Q .non H2) → R v H') → tl (Told c Q) H R
theorem takes_len {X : Cx} {W : WX} (t : Takes X W) : Takes X fun c d σ H => σ.length = X.N.length → W c d σ H := fun u s' ⟨a, B, sI, pins, σ, H, cls, d, e, I, nb, up, sky, na, os, ag, w⟩ =>
  t u s' ⟨a, B, sI, pins, σ, H, cls, d, e, I, nb, up, sky, na, os, ag, w I.len⟩
abbrev nHeard : List Str := ["_law_ask", "_law_caught", "error"]
theorem scHeard : FnScope nHeard ["_law_ask"] (defScope sLwHeard) := ⟨rfl, rfl, rfl, by decide +kernel, rfl, by decide +kernel, by decide +kernel⟩
theorem errV_s {H H' : Hp} {x : V} {C : Addr} {fs : List (Str × V)} (h : ErrV H x C fs) (s : Same H H') : ErrV H' x C fs := let ⟨e, d, a, b, c⟩ := h; ⟨e, d, a, s _ _ b, s _ _ c⟩
theorem heard_gives {X : Cx} {c : Hs} {eR g : Addr} {cdg : Value} {q : Str} (T : Bi X.mg) (Hc : HeardC X.K X.mg c eR) : GivesTo X nHeard "_law_heard" (defScope sLwHeard) g cdg (defBody sLwHeard) "_law_ask" q (THeard c) := by
  intro f c' s H Q tl act hc h
  have nd := scHeard.nd
  refine ⟨_, pss_cons (ps_set (i := 1) nd rfl (Or.inl rfl) pe_non)
    (pss_cons (ps_try_keep (X := (cxOf C8.CX0 X.prog X.w X.K X.mg X.base nHeard "_law_heard" (defScope sLwHeard) g cdg X.A X.stack s H C8.E0).nox) (cv := .ref eR) (ix := 2)
      (tbd := fun W D σ H => ∃ Ech : XK, (∀ cls d σ' H', Ech cls d H' → σ'.length = 3 → W cls d σ' H') ∧ σ[0]? = some (some (.ref f)) ∧ H c' = some (CodeO c' q) ∧ tl Ech H fun _ H' => D.nx σ H')
      rfl rfl nd rfl rfl ⟨rfl, rfl, .inl Hc.gRE⟩ (fun W pn xe tk _ => ?_) (fun e pn => pss_one (ps_set (i := 1) nd rfl (Or.inl rfl) (pv 2))))
    (pss_cons (ps_if (pt_val (pe_callB (call_or call_isiT cr_isET) (by rfl) T.isinstance (by decide +kernel) (pa_cons (pv 1) (pa_cons (pe_tup (pa_cons (pe_glob (v := .ref c.b) rfl Hc.gb rfl) (pa_cons (pe_glob (v := .ref c.r) rfl Hc.gr rfl) pa_nil))) pa_nil)))) (pss_one (ps_ret (pe_tup (pa_cons (pe_ifExp (pt_val (pe_callB cr_isE (by rfl) T.isinstance (by decide +kernel) (pa_cons (pv 1) (pa_cons (pe_glob (v := .ref c.b) rfl Hc.gb rfl) pa_nil)))) pe_str pe_str) (pa_cons (pe_fldE (pv 1)) pa_nil))))) pss_nil)
    (pss_cons (ps_if (pt_val (pe_callB (call_or call_isiT cr_isET) (by rfl) T.isinstance (by decide +kernel) (pa_cons (pv 1) (pa_cons (pe_tup (pa_cons (pe_glob (v := .ref c.n) rfl Hc.gn rfl) (pa_cons (pe_glob (v := .ref c.t) rfl Hc.gt rfl) pa_nil))) pa_nil)))) (pss_one (ps_ret (pe_tup (pa_cons (pe_ifExp (pt_val (pe_callB cr_isE (by rfl) T.isinstance (by decide +kernel) (pa_cons (pv 1) (pa_cons (pe_glob (v := .ref c.n) rfl Hc.gn rfl) pa_nil)))) pe_str pe_str) (pa_cons (pe_fldE (pv 1)) pa_nil))))) pss_nil)
    (pss_one (ps_ret (pe_ifExp (pt_cmpR op_isN (pv 1) pe_non (nomark _)) pe_non (pe_tup (pa_cons pe_str (pa_cons pe_str pa_nil))))))))), ?_⟩
  · refine ⟨fun pins s' σ H' D I h' => ?_⟩
    obtain ⟨Ech, hW, h1, h2, h3⟩ := h'
    exact (pss_one (ps_expr (act _ pn xe Ech _ _ (takes_len tk) hW))).run pins s' σ H' D I ⟨h1, h2, h3⟩
  · refine ⟨Told c Q, ?_, rfl, hc, ?_⟩
    · rintro cls d σ' H' ⟨C, dd, nm, tag, v, rfl, rfl, hdd, te, k⟩ hl
      obtain ⟨x0, x1, x2, rfl⟩ : ∃ x0 x1 x2, σ' = [x0, x1, x2] := by
        match σ', hl with
        | [x0, x1, x2], _ => exact ⟨x0, x1, x2, rfl⟩
      cases te
      · refine ⟨Hc.mb, c.b, rfl, fun e ne => ?_⟩
        have s1 : Same H' (upd H' e (errO e c.b (some dd))) := (Same.refl H').new ne
        have ev : ErrV (upd H' e (errO e c.b (some dd))) (.ref e) c.b [("part", v)] := ⟨e, dd, rfl, upd_same, s1 _ _ hdd⟩
        generalize upd H' e (errO e c.b (some dd)) = H1 at s1 ev ⊢
        refine ⟨_, rfl, _, rfl, (by show 2 ≤ sizeLine; decide), fun tbr ntbr => ?_⟩
        have ztbr : Same H1 (upd H1 tbr (.tup [.ref c.b, .ref c.r])) := (Same.refl H1).new ntbr
        have htbr : upd H1 tbr (.tup [.ref c.b, .ref c.r]) tbr = some (.tup [.ref c.b, .ref c.r]) := upd_same
        generalize upd H1 tbr (.tup [.ref c.b, .ref c.r]) = H2 at ztbr htbr ⊢
        have s2 := s1.trans ztbr
        have ev := errV_s ev ztbr
        refine .inr ⟨.ref e, tbr, _, _, c.b, _, true, rfl, htbr, (.cons (.own _) (.cons (.own _) .nil)), Hc.eb, ev, (kit_fst kit_self), _, rfl, iteT ?_⟩
        refine ⟨_, rfl, .ref e, .ref c.b, .ref c.b, c.b, _, true, rfl, fun _ z => z, Hc.eb, ev, kit_self, _, rfl, iteT ?_⟩
        refine ⟨_, rfl, c.b, _, v, ev, Hc.xb, Hc.fb, by simp [List.lookup], (by show 2 ≤ sizeLine; decide), fun p hp => ?_⟩
        exact k p _ (s2.new hp) upd_same
      · refine ⟨Hc.mr, c.r, rfl, fun e ne => ?_⟩
        have s1 : Same H' (upd H' e (errO e c.r (some dd))) := (Same.refl H').new ne
        have ev : ErrV (upd H' e (errO e c.r (some dd))) (.ref e) c.r [("part", v)] := ⟨e, dd, rfl, upd_same, s1 _ _ hdd⟩
        generalize upd H' e (errO e c.r (some dd)) = H1 at s1 ev ⊢
        refine ⟨_, rfl, _, rfl, (by show 2 ≤ sizeLine; decide), fun tbr ntbr => ?_⟩
        have ztbr : Same H1 (upd H1 tbr (.tup [.ref c.b, .ref c.r])) := (Same.refl H1).new ntbr
        have htbr : upd H1 tbr (.tup [.ref c.b, .ref c.r]) tbr = some (.tup [.ref c.b, .ref c.r]) := upd_same
        generalize upd H1 tbr (.tup [.ref c.b, .ref c.r]) = H2 at ztbr htbr ⊢
        have s2 := s1.trans ztbr
        have ev := errV_s ev ztbr
        refine .inr ⟨.ref e, tbr, _, _, c.r, _, true, rfl, htbr, (.cons (.own _) (.cons (.own _) .nil)), Hc.er, ev, (kit_skip Hc.krb (kit_fst kit_self)), _, rfl, iteT ?_⟩
        refine ⟨_, rfl, .ref e, .ref c.b, .ref c.b, c.r, _, false, rfl, fun _ z => z, Hc.er, ev, Hc.krb, _, rfl, iteF ?_⟩
        refine ⟨_, rfl, c.r, _, v, ev, Hc.xr, Hc.fr, by simp [List.lookup], (by show 2 ≤ sizeLine; decide), fun p hp => ?_⟩
        exact k p _ (s2.new hp) upd_same
      · refine ⟨Hc.mn, c.n, rfl, fun e ne => ?_⟩
        have s1 : Same H' (upd H' e (errO e c.n (some dd))) := (Same.refl H').new ne
        have ev : ErrV (upd H' e (errO e c.n (some dd))) (.ref e) c.n [("value", v)] := ⟨e, dd, rfl, upd_same, s1 _ _ hdd⟩
        generalize upd H' e (errO e c.n (some dd)) = H1 at s1 ev ⊢
        refine ⟨_, rfl, _, rfl, (by show 2 ≤ sizeLine; decide), fun tbr ntbr => ?_⟩
        have ztbr : Same H1 (upd H1 tbr (.tup [.ref c.b, .ref c.r])) := (Same.refl H1).new ntbr
        have htbr : upd H1 tbr (.tup [.ref c.b, .ref c.r]) tbr = some (.tup [.ref c.b, .ref c.r]) := upd_same
        generalize upd H1 tbr (.tup [.ref c.b, .ref c.r]) = H2 at ztbr htbr ⊢
        have s2 := s1.trans ztbr
        have ev := errV_s ev ztbr
        refine .inr ⟨.ref e, tbr, _, _, c.n, _, false, rfl, htbr, (.cons (.own _) (.cons (.own _) .nil)), Hc.en, ev, (kit_skip Hc.knb (kit_skip Hc.knr rfl)), _, rfl, iteF ?_⟩
        refine ⟨_, rfl, (by show 2 ≤ sizeLine; decide), fun tnt ntnt => ?_⟩
        have ztnt : Same H2 (upd H2 tnt (.tup [.ref c.n, .ref c.t])) := (Same.refl H2).new ntnt
        have htnt : upd H2 tnt (.tup [.ref c.n, .ref c.t]) tnt = some (.tup [.ref c.n, .ref c.t]) := upd_same
        generalize upd H2 tnt (.tup [.ref c.n, .ref c.t]) = H3 at ztnt htnt ⊢
        have s3 := s2.trans ztnt
        have ev := errV_s ev ztnt
        refine .inr ⟨.ref e, tnt, _, _, c.n, _, true, rfl, htnt, (.cons (.own _) (.cons (.own _) .nil)), Hc.en, ev, (kit_fst kit_self), _, rfl, iteT ?_⟩
        refine ⟨_, rfl, .ref e, .ref c.n, .ref c.n, c.n, _, true, rfl, fun _ z => z, Hc.en, ev, kit_self, _, rfl, iteT ?_⟩
        refine ⟨_, rfl, c.n, _, v, ev, Hc.xn, Hc.fn, by simp [List.lookup], (by show 2 ≤ sizeLine; decide), fun p hp => ?_⟩
        exact k p _ (s3.new hp) upd_same
      · refine ⟨Hc.mt, c.t, rfl, fun e ne => ?_⟩
        have s1 : Same H' (upd H' e (errO e c.t (some dd))) := (Same.refl H').new ne
        have ev : ErrV (upd H' e (errO e c.t (some dd))) (.ref e) c.t [("value", v)] := ⟨e, dd, rfl, upd_same, s1 _ _ hdd⟩
        generalize upd H' e (errO e c.t (some dd)) = H1 at s1 ev ⊢
        refine ⟨_, rfl, _, rfl, (by show 2 ≤ sizeLine; decide), fun tbr ntbr => ?_⟩
        have ztbr : Same H1 (upd H1 tbr (.tup [.ref c.b, .ref c.r])) := (Same.refl H1).new ntbr
        have htbr : upd H1 tbr (.tup [.ref c.b, .ref c.r]) tbr = some (.tup [.ref c.b, .ref c.r]) := upd_same
        generalize upd H1 tbr (.tup [.ref c.b, .ref c.r]) = H2 at ztbr htbr ⊢
        have s2 := s1.trans ztbr
        have ev := errV_s ev ztbr
        refine .inr ⟨.ref e, tbr, _, _, c.t, _, false, rfl, htbr, (.cons (.own _) (.cons (.own _) .nil)), Hc.et, ev, (kit_skip Hc.ktb (kit_skip Hc.ktr rfl)), _, rfl, iteF ?_⟩
        refine ⟨_, rfl, (by show 2 ≤ sizeLine; decide), fun tnt ntnt => ?_⟩
        have ztnt : Same H2 (upd H2 tnt (.tup [.ref c.n, .ref c.t])) := (Same.refl H2).new ntnt
        have htnt : upd H2 tnt (.tup [.ref c.n, .ref c.t]) tnt = some (.tup [.ref c.n, .ref c.t]) := upd_same
        generalize upd H2 tnt (.tup [.ref c.n, .ref c.t]) = H3 at ztnt htnt ⊢
        have s3 := s2.trans ztnt
        have ev := errV_s ev ztnt
        refine .inr ⟨.ref e, tnt, _, _, c.t, _, true, rfl, htnt, (.cons (.own _) (.cons (.own _) .nil)), Hc.et, ev, (kit_skip Hc.ktn (kit_fst kit_self)), _, rfl, iteT ?_⟩
        refine ⟨_, rfl, .ref e, .ref c.n, .ref c.n, c.t, _, false, rfl, fun _ z => z, Hc.et, ev, Hc.ktn, _, rfl, iteF ?_⟩
        refine ⟨_, rfl, c.t, _, v, ev, Hc.xt, Hc.ft, by simp [List.lookup], (by show 2 ≤ sizeLine; decide), fun p hp => ?_⟩
        exact k p _ (s3.new hp) upd_same
    · refine h _ fun v H' k => ?_
      refine ⟨_, rfl, (by show 2 ≤ sizeLine; decide), fun t nt => ?_⟩
      have z1 : Same H' (upd H' t (.tup [.ref c.b, .ref c.r])) := (Same.refl H').new nt
      have h1 : upd H' t (.tup [.ref c.b, .ref c.r]) t = some (.tup [.ref c.b, .ref c.r]) := upd_same
      generalize upd H' t (.tup [.ref c.b, .ref c.r]) = H1 at z1 h1 ⊢
      refine .inl ⟨.non, t, _, _, _, false, rfl, h1, .cons (.own _) (.cons (.own _) .nil), .base .non, kit_skip Hc.ob (kit_skip Hc.or rfl), _, rfl, iteF ?_⟩
      refine ⟨_, rfl, (by show 2 ≤ sizeLine; decide), fun t2 nt2 => ?_⟩
      have z2 : Same H1 (upd H1 t2 (.tup [.ref c.n, .ref c.t])) := (Same.refl H1).new nt2
      have h2 : upd H1 t2 (.tup [.ref c.n, .ref c.t]) t2 = some (.tup [.ref c.n, .ref c.t]) := upd_same
      generalize upd H1 t2 (.tup [.ref c.n, .ref c.t]) = H2 at z2 h2 ⊢
      refine .inl ⟨.non, t2, _, _, _, false, rfl, h2, .cons (.own _) (.cons (.own _) .nil), .base .non, kit_skip Hc.on (kit_skip Hc.ot rfl), _, rfl, iteF ?_⟩
      exact ⟨_, rfl, rfl, _, rfl, iteDT rfl (k _ (z1.trans z2))⟩
end K
namespace L2
open PySem PySem.Spec PyProof.Rows Rg
variable {P : Program} {w : World} {K : PySem.W.Frag} {mg : Str → Option Value} {base : Heap}
theorem Fun.okG {x qual : Str} {st : Stmt} {f : Addr} {fd : FuncData} {N ps : List Str} {k : Nat} {sp : Sp} (F : Fun K x qual st f fd) (S : FnScope N ps (defScope st)) (len : ∀ vs H Q E, sp vs H Q E → vs.length = ps.length)
    (hbody : ∀ (cdv : Value) (A : Around) (outer : List Env) (s : Shared) (H : Hp) (vs : List V) (Q : VK) (E : XK), A.guards = some [] → Room k (A.deeper (envOfC qual (defScope st) s.heap.objs.size f cdv)) → sp vs H Q E →
      ∃ t, PSs (cxOf CX0 P w K mg base N qual (defScope st) f cdv A outer s H E).nox (defBody st) t ∧ t { nx := fun _ H' => Q .non H', rt := Q } (start N vs) H) : FnG P w K mg base CX0 (k + 1) f fd ps sp := by
  obtain ⟨oc, od, kV, doc, pm, an, cdv, ct, osl, rfl, lk, hcd⟩ := F.ex
  refine fn_ofG lk hcd S len fun A outer s H vs Q E ga hr hsp => ?_
  obtain ⟨t, h, q⟩ := hbody cdv A outer s H vs Q E ga hr hsp
  exact ⟨t, h.nox, q⟩
end L2
namespace K
open PySem L2 Rg LamX
open Evl (pss_cut)
abbrev gK1 {α : Type} : List α → List α → List α := fun us ws => match us, ws with
  | [], [r] => [r]
  | _, _ => []
abbrev gK3 {α : Type} : List α → List α → List α := fun us ws => match us, ws with
  | [], [v, l, r] => [r, l, v]
  | _, _ => []
structure Bi2 (mg : Str → Option Value) : Prop where
  repr : mg "repr" = none
  str : mg "str" = none
/-- a promise that no error is told in -/
theorem fn_calm {P : Program} {w : World} {K : PySem.W.Frag} {mg : Str → Option Value} {base : Heap} {k : Nat} {f : Addr} {fd : FuncData} {ps : List Str} {sp : Sp} (F : FnOk P w K mg base (L2.CX P w) k f fd ps sp) : FnOk P w K mg base CX0 k f fd ps (fun vs H Q _ => sp vs H Q fun _ _ _ => False) :=
  ⟨fun vs H Q E h => F.len _ _ _ _ h, fun A outer s H args us vs Q E hr e0 hb hv h => codeAny_mono (F.run A outer s H args us vs Q (fun _ _ _ => False) hr e0 hb hv h) fun r s' hq => by
    cases r with
    | ok fl => cases fl <;> exact hq
    | error e =>
      obtain ⟨_, _, _, _, _, _, _, _, _, _, _, _, z⟩ := hq
      exact z⟩
/-! ### what is shown of two numbers -/
def twoD (a b : Int) : PyData := .tuple [.int a, .int b]
theorem log_big {i : Int} (h0 : 0 ≤ i) (h : i < 10 ^ 40) : i.natAbs.log2 < 133 := by
  by_cases c : i = 0
  · rw [c]; decide
  · exact (Nat.log2_lt (by omega)).mpr (Nat.lt_of_lt_of_le (show i.natAbs < 10 ^ 40 by omega) (by decide))
theorem smd_two {a b : Int} (a0 : 0 ≤ a) (a1 : a < 10 ^ 40) (b0 : 0 ≤ b) (b1 : b < 10 ^ 40) : (twoD a b).showable = true ∧ (twoD a b).hasDict = false ∧ (twoD a b).depth ≤ 60 ∧ (twoD a b).shown.length ≤ sizeLine := by
  have la := log_big a0 a1
  have lb := log_big b0 b1
  have wa : PyData.weight (.int a) ≤ 134 := by
    rw [PyData.weight]
    split <;> omega
  have wb : PyData.weight (.int b) ≤ 134 := by
    rw [PyData.weight]
    split <;> omega
  unfold twoD
  refine ⟨?_, ?_, ?_, ?_⟩
  · simp only [PyData.showable, PyData.showableAll, Bool.and_true, Bool.and_eq_true, decide_eq_true_eq]
    omega
  · simp [PyData.hasDict, PyData.hasDictAll]
  · simp [PyData.depth, PyData.depthAll]
  · have cl : PyData.canLay0 (.tuple [.int a, .int b]) = true := by simp [PyData.canLay0, PyData.canLayAll0]
    have sa : (PyData.shown (.int a)).length ≤ 40 := PyProof.Rows.toString_length_le a0 (by decide) a1
    have sb : (PyData.shown (.int b)).length ≤ 40 := PyProof.Rows.toString_length_le b0 (by decide) b1
    have is : PyData.intsShort 40 (.tuple [.int a, .int b]) = true := by
      simp only [PyData.intsShort, PyData.intsShortAll, Bool.and_true, Bool.and_eq_true, decide_eq_true_eq]
      exact ⟨sa, sb⟩
    have := PyData.shown_le 40 (by decide) _ (PyData.leavesShort_of_canLay0 40 _ cl is)
    have w2 : PyData.weight (.tuple [.int a, .int b]) ≤ 270 := by
      rw [PyData.weight, PyData.weightAll, PyData.weightAll, PyData.weightAll]
      omega
    refine Nat.le_trans this (Nat.le_trans (show (40 + 2) * PyData.weight (.tuple [.int a, .int b]) + 40 ≤ 20000 by omega) (by decide))
theorem two_shaped (a b : Int) : SeqAt.shaped (twoD a b) = true := by
  unfold twoD
  simp [SeqAt.shaped, PyData.canLay0, PyData.canLayAll0, PyData.depth, PyData.depthAll]
theorem two_eqv (a b c d : Int) : PyData.eqv (twoD a b) (twoD c d) = (decide (a = c) && decide (b = d)) := by
  unfold twoD
  simp [PyData.eqv, PyData.eqvAll]
  rfl
theorem two_dp {K : PySem.W.Frag} {H : Hp} {t : Addr} {a b : Int} (h : H t = some (.tup [.int a, .int b])) : Dp K H (.ref t) (twoD a b) := .tup (.inl (.inl h)) (.cons (.int a) (.cons (.int b) .nil))
theorem armLo_perm {a b : List Int} (p : a.Perm b) (ha : ∀ x ∈ a, 1 ≤ x) : armLo a = armLo b := by
  by_cases c : a = []
  · subst c
    rw [List.nil_perm.mp p]
  · have hb : ∀ x ∈ b, 1 ≤ x := fun x h => ha x (p.mem_iff.mpr h)
    have cb : b ≠ [] := fun z => c (by rw [z] at p; exact List.perm_nil.mp p)
    have e : mx a = mx b := mx_eq (p.mem_iff.mp (mx_mem c ha).1) (fun y hy => (mx_mem c ha).2 y (p.mem_iff.mpr hy)) hb
    unfold armLo
    rw [e, perm_sum p]
theorem armLo_both {x y : Int} {r : List Int} (hx : 1 ≤ x) (hy : 1 ≤ y) (hr : ∀ z ∈ r, 1 ≤ z) : armLo (x :: y :: r) ≤ armLo ((x + y) :: r) ∧ ((x + y) :: r).sum = (x :: y :: r).sum := by
  have h1 : ∀ z ∈ x :: y :: r, 1 ≤ z := fun z m => by
    rcases List.mem_cons.mp m with rfl | m
    · exact hx
    · rcases List.mem_cons.mp m with rfl | m
      · exact hy
      · exact hr z m
  have h2 : ∀ z ∈ (x + y) :: r, 1 ≤ z := fun z m => by
    rcases List.mem_cons.mp m with rfl | m
    · omega
    · exact hr z m
  obtain ⟨a1, a2⟩ := mx_mem (List.cons_ne_nil _ _) h1
  obtain ⟨b1, b2⟩ := mx_mem (List.cons_ne_nil _ _) h2
  have le : mx (x :: y :: r) ≤ mx ((x + y) :: r) := by
    have := b2 (x + y) (List.mem_cons_self ..)
    rcases List.mem_cons.mp a1 with e | m
    · omega
    · rcases List.mem_cons.mp m with e | m
      · omega
      · exact b2 _ (List.mem_cons_of_mem _ m)
  have es : ((x + y) :: r).sum = (x :: y :: r).sum := by
    rw [List.sum_cons, List.sum_cons, List.sum_cons]
    omega
  refine ⟨?_, es⟩
  unfold armLo
  rw [es]
  omega
theorem par_perm {α β : Type} {R : α → β → Prop} {zs xs : List α} (h : zs.Perm xs) : ∀ {ol : List β}, Paired R xs ol → ∃ os, Paired R zs os ∧ os.Perm ol := by
  induction h with
  | nil => exact fun {ol} p => ⟨ol, p, List.Perm.refl _⟩
  | cons x _ ih =>
    intro ol p
    cases p with
    | cons h t =>
      obtain ⟨os, a, b⟩ := ih t
      exact ⟨_, .cons h a, b.cons _⟩
  | swap x y l =>
    intro ol p
    cases p with
    | cons h t =>
      cases t with
      | cons k u => exact ⟨_, .cons k (.cons h u), .swap ..⟩
  | trans _ _ h1 h2 =>
    intro ol p
    obtain ⟨os, a, b⟩ := h2 p
    obtain ⟨os2, a2, b2⟩ := h1 a
    exact ⟨os2, a2, b2.trans b⟩
theorem perm_ints {ys : List V} {l : List Int} (h : ys.Perm (l.map V.int)) : ∃ ns : List Int, ys = ns.map V.int ∧ ns.Perm l := by
  have p : Paired (fun (v : V) (i : Int) => v = .int i) (l.map V.int) l := by
    clear h
    induction l with
    | nil => exact .nil
    | cons x l ih => exact .cons rfl ih
  obtain ⟨ns, a, b⟩ := par_perm h p
  refine ⟨ns, ?_, b⟩
  clear h b p
  induction a with
  | nil => rfl
  | cons h _ ih => rw [List.map_cons, ← ih, h]
theorem armLo_nn (ls : List Int) : 0 ≤ armLo ls := by unfold armLo; omega
end K
namespace K
open PySem L2 Rg LamX
open Evl (pss_cut)
section
variable {P : Program} {w : World} {K : PySem.W.Frag} {mg : Str → Option Value} {base : Heap}
def spARc (K : PySem.W.Frag) : Sp := fun vs H Q _ => ∃ (a : Addr) (ls : List Int), vs = [.ref a] ∧ SqE H a (ls.map V.int) ∧ 1 ≤ ls.length ∧ ls.length ≤ 20 ∧ (∀ x ∈ ls, 1 ≤ x) ∧ ∀ p H', Same H H' → H p = none → H' p = some (.tup [.int (armLo ls), .int ls.sum]) → Q (.ref p) H'
theorem ok_arc {cB f : Addr} {fd : FuncData} {k : Nat} (F : FnOk P w K mg base (L2.CX P w) k f fd ["lengths"] (spAR K cB)) : FnOk P w K mg base CX0 k f fd ["lengths"] (spARc K) :=
  (fn_calm F).imp fun vs H Q E ⟨a, ls, e, ha, l1, l20, p1, q⟩ => ⟨.ref a, e, .inr ⟨a, ls, rfl, ha, l1, l20, p1, q⟩⟩
def spAM (K : PySem.W.Frag) : Sp := fun vs H Q _ => ∃ (p : Addr) (e : Addr × List Int) (n : Nat), vs = [.ref p] ∧ n < 700000 ∧ PenAt K H p e n ∧ ∀ H', But p H H' → PenAt K H' p e (n + 100) → Q (.bl true) H'
abbrev nAM : List Str := ["_law_pen_here", "_law_lengths", "_law_kept", "_law_told", "_law_both", "_law_bar"]
theorem scAM : FnScope nAM ["_law_pen_here"] (defScope sLwArmRight) := ⟨rfl, rfl, rfl, by decide +kernel, rfl, by decide +kernel, by decide +kernel⟩
theorem ok_am {f fD fPK fLG fMX fAR fRE : Addr} {fd fdD fdPK fdLG fdMX fdAR fdRE : FuncData} {g1 : List Value → List Value → List Value} (F : Fun K "_law_arm_right" "_law_arm_right" sLwArmRight f fd) (T : Bi mg) (B2 : Bi2 mg) (D : DrawAt P w K mg base fD fdD) (PK : DefAt P w K mg base CX0 3 "_law_pick" ["_law_pen_here", "_law_some"] (spPick K) fPK fdPK)
    (LG : DefAt P w K mg base CX0 3 "_law_length" ["_law_pen_here"] (spLG K) fLG fdLG) (MX : DefAt P w K mg base CX0 3 "_law_mixed" ["_law_pen_here", "_law_some"] (spMixed K) fMX fdMX) (AR : DefAt P w K mg base CX0 4 "arm_range" ["lengths"] (spARc K) fAR fdAR) (KAR : KBinds K fdAR ["lengths"] ["lengths"] g1 gK1)
    (RE : DefAt P w K mg base CX0 1 "_law_reach" ["_law_lengths"] (spRE K) fRE fdRE) : FnG P w K mg base CX0 6 f fd ["_law_pen_here"] (spAM K) := by
  refine F.okG scAM (fun vs H Q E h => ?_) (fun cdv A outer s H vs Q E ga hr h => ?_)
  · obtain ⟨p, e, n, rfl, _⟩ := h
    rfl
  · have nd := scAM.nd
    have gX : (A.deeper (PyProof.Rows.envOfC "_law_arm_right" (defScope sLwArmRight) s.heap.objs.size f cdv)).guards = some [] := ga
    have hu65 : (A.deeper (PyProof.Rows.envOfC "_law_arm_right" (defScope sLwArmRight) s.heap.objs.size f cdv)).units + 65 < cLine := by have := hr.un; omega
    refine ⟨_, (pss_cons (ps_setLc (i := 1) (own := [("_law_bar", 5)]) (g := gName 5) (tt := tYes) (te := tCall (spLG K) [] E0 (tCons (tVar 0) tNil)) rfl nd rfl rfl (sw_true rfl rfl rfl (by decide +kernel)) (pi_range1 (by rfl) T.range (pa_cons (pe_call PK.ok (hr.mono (by decide)) rfl PK.g PK.kp PK.b .nil pass0 (pa_cons (pv 0) (pa_cons (pe_lst (pa_cons pe_int (pa_cons pe_int (pa_cons pe_int (pa_cons pe_int (pa_cons pe_int (pa_cons pe_int (pa_cons pe_int pa_nil)))))))) pa_nil))) pa_nil)) (blkOk_by (N := nAM) (sc := defScope sLwArmRight) (by decide +kernel)) (fun _ _ _ _ _ => pg_name (i := 5) nd rfl (Or.inl rfl)) (fun _ _ _ _ _ => pts_nil) (fun _ _ _ _ _ => pe_call LG.ok (hr.mono (by decide)) rfl LG.g LG.kp LG.b .nil pass0 (pa_cons (pv 0) pa_nil)))
      (pss_cut (ps_if (pt_cmpR op_eq (pe_call D.ok (hr.mono (by decide)) rfl D.g D.kp D.b .nil pass0 (pa_cons (pv 0) (pa_cons pe_int pa_nil))) pe_int (nomark _)) (pss_one (ps_asg (pe_op op_add (pe_op op_pow pe_int pe_int) (pe_ix (r := rIxL K) ix_list (pv 1) pe_int (fun _ _ => rfl))) (pg_sub (pv 1) pe_int set_list))) pss_nil)
      (pss_cons (ps_par (i := 2) (j := 3) (by rfl) nd rfl rfl (by decide) rfl rfl (pa_cons (pe_callTy call_list_of (by rfl) T.list (by decide +kernel) (pa_cons (pv 1) pa_nil)) (pa_cons (pe_callK0 AR.ok (hr.mono (by decide)) rfl AR.g AR.kp KAR pass0 (pk_cons (pv 1) pk_nil)) pa_nil)) (by rfl))
      (pss_cons (ps_if (PW.pt (pw_or (pt_not (pt_val (pe_callB call_isi (by rfl) T.isinstance (by decide +kernel) (pa_cons (pv 3) (pa_cons (pe_bltn (v := .ty "tuple") (u := .type "tuple") (by rfl) T.tuple (by decide +kernel) rfl) pa_nil))))) (pw_or (pt_cmpR op_ne (pe_callB (cr_repr gX hu65) (by rfl) B2.repr (by decide +kernel) (pa_cons (pv 3) pa_nil)) (pe_callB (cr_repr gX hu65) (by rfl) B2.repr (by decide +kernel) (pa_cons (pe_call RE.ok (hr.mono (by decide)) rfl RE.g RE.kp RE.b .nil pass0 (pa_cons (pv 1) pa_nil)) pa_nil)) (nomark _)) (pw_or1 (pt_cmpR (op_neD hr.units) (pv 1) (pv 2) (nomark _)))))) (pss_one ps_never) pss_nil)
      (pss_cons (ps_if (PW.pt (pw_or (pt_cmpR (op_neD hr.units) (pe_call AR.ok (hr.mono (by decide)) rfl AR.g AR.kp AR.b .nil pass0 (pa_cons (pe_callTy (r := rTupOf K) call_tuple_of (by rfl) T.tuple (by decide +kernel) (pa_cons (pe_call MX.ok (hr.mono (by decide)) rfl MX.g MX.kp MX.b .nil pass0 (pa_cons (pv 0) (pa_cons (pv 1) pa_nil))) pa_nil)) pa_nil)) (pv 3) (nomark _)) (pw_or1 (pt_cmpR (op_neD hr.units) (pe_call AR.ok (hr.mono (by decide)) rfl AR.g AR.kp AR.b .nil pass0 (pa_cons (pe_revL (pv 1)) pa_nil)) (pv 3) (nomark _))))) (pss_one ps_never) pss_nil)
      (pss_cons (ps_if (pt_cmpR op_eq (pe_callB (r := rLenS K) call_len_seq (by rfl) T.len PySem.boot_len (pa_cons (pv 1) pa_nil)) pe_int (nomark _)) (pss_one (ps_ret (pe_cmpR (op_eqD hr.units) (pv 3) (pe_tup (pa_cons (pe_ix (r := rIxL K) ix_list (pv 1) pe_int (fun _ _ => rfl)) (pa_cons (pe_ix (r := rIxL K) ix_list (pv 1) pe_int (fun _ _ => rfl)) pa_nil))) (nomark _)))) pss_nil)
      (pss_cons (ps_set (i := 4) nd rfl (Or.inl rfl) (pe_call AR.ok (hr.mono (by decide)) rfl AR.g AR.kp AR.b .nil pass0 (pa_cons (pe_op op_cat (pe_lst (pa_cons (pe_op op_add (pe_ix (r := rIxL K) ix_list (pv 1) pe_int (fun _ _ => rfl)) (pe_ix (r := rIxL K) ix_list (pv 1) pe_int (fun _ _ => rfl))) pa_nil)) (pe_slice sl_list (pv 1) (po_some pe_int) po_none)) pa_nil)))
      (pss_one (ps_ret (pe_and (pe_cmpR op_ge (pe_ix (r := rIxT K) ix_tup (pv 4) pe_int (fun _ _ => rfl)) (pe_ix (r := rIxT K) ix_tup (pv 3) pe_int (fun _ _ => rfl)) (nomark _)) (pe_one (pe_cmpR op_eq (pe_ix (r := rIxT K) ix_tup (pv 4) pe_int (fun _ _ => rfl)) (pe_ix (r := rIxT K) ix_tup (pv 3) pe_int (fun _ _ => rfl)) (nomark _))))))))))))), ?_⟩
    obtain ⟨p, e, n, rfl, hn, pen, q⟩ := h
    refine ⟨_, rfl, (by show 7 ≤ sizeLine; decide), fun u nu => ?_⟩
    have npu := pen.ne nu
    have s1 : Same H (upd H u (.lst [.int 1, .int 2, .int 3, .int 4, .int 5, .int 7, .int 20])) := (Same.refl H).new nu
    have hu1 : upd H u (.lst [.int 1, .int 2, .int 3, .int 4, .int 5, .int 7, .int 20]) u = some (.lst [.int 1, .int 2, .int 3, .int 4, .int 5, .int 7, .int 20]) := upd_same
    generalize upd H u (.lst [.int 1, .int 2, .int 3, .int 4, .int 5, .int 7, .int 20]) = H1 at s1 hu1 ⊢
    have pen1 := pen.same s1
    refine ⟨p, u, e, _, n, rfl, SqL.of hu1, npu, (by show 1 ≤ 7; decide), (by show 7 ≤ 1000; decide), by omega, pen1, fun i0 v0 H2 hv0 b2 pen2 => ?_⟩
    obtain ⟨m, rfl, m1, m20⟩ : ∃ m : Nat, v0 = .int (m : Nat) ∧ 1 ≤ m ∧ m ≤ 20 := by
      have hm := List.mem_of_getElem? hv0
      simp only [List.mem_cons, List.not_mem_nil, or_false] at hm
      rcases hm with z | z | z | z | z | z | z
      · exact ⟨1, z, by decide, by decide⟩
      · exact ⟨2, z, by decide, by decide⟩
      · exact ⟨3, z, by decide, by decide⟩
      · exact ⟨4, z, by decide, by decide⟩
      · exact ⟨5, z, by decide, by decide⟩
      · exact ⟨7, z, by decide, by decide⟩
      · exact ⟨20, z, by decide, by decide⟩
    have b02 : But p H H2 := (But.of s1).trans b2
    refine ⟨_, rfl, by omega, by omega, fun D hD => ?_⟩
    have hDp : D ≠ p := pen2.ne hD
    have hD0 : H D = none := b02.free hDp hD
    refine lc_range (lo := 0) (n := ((m : Nat) : Int).toNat) (fun j G => ∃ ls : List Int, ls.length = j ∧ (∀ x ∈ ls, 1 ≤ x ∧ x ≤ 1000000) ∧ G D = some (.lst (ls.map V.int)) ∧ But p H G ∧ PenAt K G p e (n + 1 + 2 * j)) ⟨[], rfl, (fun x hx => nomatch hx), upd_same, b02.mut hD0, pen.mut pen2 b02 hD0⟩ ?_ ?_
    · rintro j G hj ⟨ls, ll, bd, hd, b, pen'⟩
      rw [Int.toNat_natCast] at hj
      refine ⟨rfl, _, rfl, p, e, n + 1 + 2 * j, rfl, by omega, pen', fun x G4 x1 x2 b4 pen4 => ⟨_, b4 D _ hDp hd, szl (by rw [List.length_map]; omega), ls ++ [x], by rw [List.length_append, ll]; rfl, fun y hy => ?_, ?_, (b.trans b4).mut hD0, (pen.mut pen4 (b.trans b4) hD0).mono (by omega)⟩⟩
      · rcases List.mem_append.mp hy with hy | hy
        · exact bd y hy
        · rw [List.mem_singleton.mp hy]; exact ⟨x1, x2⟩
      · rw [List.map_append]
        exact upd_same
    rintro H3 ⟨ls, ll, bd, hd3, b3, pen3⟩
    rw [Int.toNat_natCast] at ll pen3
    refine ⟨fun σ' G => ∃ ms : List Int, ms.length = m ∧ (∀ x ∈ ms, 1 ≤ x ∧ x ≤ 10 ^ 31) ∧ σ' = [some (.ref p), some (.ref D), none, none, none, none] ∧ But p H G ∧ G D = some (.lst (ms.map V.int)) ∧ PenAt K G p e (n + 45), ?_, ?_⟩
    · refine ⟨_, rfl, p, e, 8, _, rfl, by decide, by decide, by omega, pen3, fun r2 H4 r2a r2b b4 pen4 => ⟨rfl, _, rfl, ?_⟩⟩
      have hd4 := b4 _ _ hDp hd3
      have b34 := b3.trans b4
      have le6 : ∀ x ∈ ls, 1 ≤ x ∧ x ≤ 10 ^ 31 := fun x hx => ⟨(bd x hx).1, Int.le_trans (bd x hx).2 (by decide)⟩
      by_cases c : r2 = 0
      · refine iteDT (by rw [c]) ?_
        obtain ⟨x0, rest, rfl⟩ : ∃ x0 rest, ls = x0 :: rest := by
          cases ls with
          | nil => exact absurd ll (by show ¬ 0 = m; omega)
          | cons x r => exact ⟨x, r, rfl⟩
        have x0b := bd x0 (List.mem_cons_self ..)
        have a0 : atI ((x0 :: rest).map V.int) 0 = some (.int x0) := at_of (j := 0) rfl rfl
        refine ⟨_, _, rfl, rfl, ⟨by decide, by decide, by decide⟩, _, rfl, D, _, 0, _, rfl, rfl, SqL.of hd4, a0, _, _, rfl, rfl, _, rfl, D, _, 0, 0, rfl, rfl, hd4, ixN_at (by decide) (by rw [List.length_map]; omega), ?_⟩
        refine ⟨((10 : Int) ^ (30 : Int).toNat + x0) :: rest, ll, fun y hy => ?_, rfl, b34.mut hD0, ?_, (pen.mut pen4 b34 hD0).mono (by omega)⟩
        · rcases List.mem_cons.mp hy with rfl | hy
          · have : (10 : Int) ^ (30 : Int).toNat + 1000000 ≤ 10 ^ 31 := by decide
            have : (1 : Int) ≤ (10 : Int) ^ (30 : Int).toNat := by decide
            omega
          · exact le6 y (List.mem_cons_of_mem _ hy)
        · exact upd_same
      · exact iteDF (fun z => c (V.int.inj z)) ⟨ls, ll, le6, rfl, b34, hd4, pen4.mono (by omega)⟩
    rintro σ' H4 ⟨ms, ml, bdm, rfl, b04, hd4, pen4⟩
    have p1 : ∀ x ∈ ms, 1 ≤ x := fun x h => (bdm x h).1
    clear hd3 pen3 b3 ll bd
    have sum_le : ∀ {zs : List Int}, (∀ x ∈ zs, 1 ≤ x ∧ x ≤ 10 ^ 31) → 0 ≤ zs.sum ∧ zs.sum ≤ 10 ^ 31 * zs.length := fun {zs} h => by
      induction zs with
      | nil => exact ⟨Int.le_refl _, by simp⟩
      | cons x zs ih =>
        have := ih fun y hy => h y (List.mem_cons_of_mem _ hy)
        have := h x (List.mem_cons_self ..)
        rw [List.sum_cons, List.length_cons]
        omega
    have sb := sum_le bdm
    have lo_le : armLo ms ≤ 10 ^ 32 := by
      have := (bdm _ (mx_mem (fun z => by rw [z] at ml; exact absurd ml (by show ¬ 0 = m; omega)) p1).1).2
      have := sb.1
      unfold armLo
      omega
    have lo0 := armLo_nn ms
    have smd := smd_two lo0 (Int.lt_of_le_of_lt lo_le (by decide)) sb.1 (Int.lt_of_le_of_lt (Int.le_trans sb.2 (show 10 ^ 31 * (ms.length : Int) ≤ 10 ^ 31 * 20 by omega)) (by decide))
    have hp4 := pen4.some
    have b04' := b04
    refine ⟨_, rfl, D, _, rfl, .inl (SqL.of hd4), fun kq nk => ?_⟩
    have s5 : Same H4 (upd H4 kq (.lst (ms.map V.int))) := (Same.refl H4).new nk
    have hk5 : upd H4 kq (.lst (ms.map V.int)) kq = some (.lst (ms.map V.int)) := upd_same
    have kp := pen4.ne nk
    generalize upd H4 kq (.lst (ms.map V.int)) = H5 at s5 hk5 ⊢
    have hd5 := s5 _ _ hd4
    refine ⟨_, rfl, D, ms, rfl, .inl hd5, by omega, by omega, p1, fun t1 H6 s6 nt1 ht1 => ?_⟩
    have s46 := s5.trans s6
    have hd6 := s46 _ _ hd4
    refine ⟨_, _, rfl, ?_⟩
    refine ⟨_, rfl, .ref t1, .ty "tuple", _, _, _, rfl, .ty _, .base (.tup ht1), kit_ty (kit_tuple "tuple" (by decide)), _, rfl, ?_⟩
    rw [decide_eq_true rfl]
    refine iteF ?_
    refine ⟨_, rfl, _, rfl, .inl ⟨t1, twoD (armLo ms) ms.sum, rfl, two_dp ht1, smd.1, smd.2.1, smd.2.2.1, smd.2.2.2, ?_⟩⟩
    refine ⟨_, rfl, D, ms, rfl, hd6, by omega, by omega, p1, fun t2 H7 s7 nt2 ht2 => ?_⟩
    refine ⟨_, rfl, .inl ⟨t2, twoD (armLo ms) ms.sum, rfl, two_dp ht2, smd.1, smd.2.1, smd.2.2.1, smd.2.2.2, rfl, _, rfl, iteNS rfl ?_⟩⟩
    have s47 := s46.trans s7
    have hd7 := s47 _ _ hd4
    have hk7 := (s6.trans s7) _ _ hk5
    have ht7 := s7 _ _ ht1
    refine ⟨_, rfl, _, rfl, .list (ms.map PyData.int), .list (ms.map PyData.int), .lst (SqL.of hd7) (dp_ints _), .lst (SqL.of hk7) (dp_ints _), shaped_ints _, shaped_ints _, _, rfl, ?_⟩
    rw [eqvA_pd, decide_eq_true rfl]
    refine iteF ?_
    have pen7 := pen4.same s47
    -- mixed
    refine ⟨_, rfl, _, rfl, p, D, e, ms.map V.int, n + 45, rfl, SqL.of hd7, hDp, by rw [List.length_map]; omega, by omega, pen7, fun q1 ys H8 pm nq b8 hq pen8 => ?_⟩
    obtain ⟨ns, rfl, pn⟩ := perm_ints pm
    rw [List.length_map] at pen8
    obtain ⟨px7, hp7⟩ := pen7.some
    have ht8 : H8 t1 = some (.tup [.int (armLo ms), .int ms.sum]) := b8 _ _ (fun z => by rw [z, hp7] at ht7; cases ht7) ht7
    have hd8 := b8 _ _ hDp hd7
    have p2 : ∀ x ∈ ns, 1 ≤ x := fun x h => p1 x (pn.mem_iff.mp h)
    have nl := pn.length_eq
    refine ⟨q1, _, rfl, .inl ⟨SqL.of hq, fun t3 nt3 => ?_⟩⟩
    have s9 : Same H8 (upd H8 t3 (.tup (ns.map V.int))) := (Same.refl H8).new nt3
    have ht3 : upd H8 t3 (.tup (ns.map V.int)) t3 = some (.tup (ns.map V.int)) := upd_same
    generalize upd H8 t3 (.tup (ns.map V.int)) = H9 at s9 ht3 ⊢
    refine ⟨t3, ns, rfl, .inr ht3, by omega, by omega, p2, fun t4 H10 s10 nt4 ht4 => ?_⟩
    rw [armLo_perm pn p2, perm_sum pn] at ht4
    have s810 := s9.trans s10
    refine ⟨_, rfl, _, _, two_dp ht4, two_dp (s810 _ _ ht8), two_shaped _ _, two_shaped _ _, _, rfl, ?_⟩
    rw [two_eqv, decide_eq_true rfl, decide_eq_true rfl]
    refine iteF ?_
    -- from the other end
    have hd10 := s810 _ _ hd8
    refine ⟨_, rfl, D, _, rfl, SqL.of hd10, fun rv nrv => ?_⟩
    have s11 : Same H10 (upd H10 rv (.lst (ms.map V.int).reverse)) := (Same.refl H10).new nrv
    have hrv : upd H10 rv (.lst (ms.map V.int).reverse) rv = some (.lst (ms.reverse.map V.int)) := by rw [upd_same, List.map_reverse]
    generalize upd H10 rv (.lst (ms.map V.int).reverse) = H11 at s11 hrv ⊢
    have p3 : ∀ x ∈ ms.reverse, 1 ≤ x := fun x h => p1 x (List.mem_reverse.mp h)
    refine ⟨rv, ms.reverse, rfl, .inl hrv, by rw [List.length_reverse]; omega, by rw [List.length_reverse]; omega, p3, fun t5 H12 s12 nt5 ht5 => ?_⟩
    rw [armLo_perm (List.reverse_perm ms) p3, perm_sum (List.reverse_perm ms)] at ht5
    have s812 := (s810.trans s11).trans s12
    have ht12 := s812 _ _ ht8
    have hd12 := s812 _ _ hd8
    have b012 : But p H H12 := (((b04.trans (But.of s47)).trans b8).trans (But.of s812))
    have pen12 := pen8.same s812
    refine ⟨_, rfl, _, _, two_dp ht5, two_dp ht12, two_shaped _ _, two_shaped _ _, _, rfl, ?_⟩
    rw [two_eqv, decide_eq_true rfl, decide_eq_true rfl]
    refine iteF ?_
    -- one bar
    refine ⟨_, rfl, D, _, rfl, .inl (SqL.of hd12), rfl, _, rfl, ?_⟩
    rw [List.length_map]
    obtain ⟨x0, rest, rfl⟩ : ∃ x0 rest, ms = x0 :: rest := by
      cases ms with
      | nil => exact absurd ml (by show ¬ 0 = m; omega)
      | cons x r => exact ⟨x, r, rfl⟩
    have a0 : atI ((x0 :: rest).map V.int) 0 = some (.int x0) := at_of (j := 0) rfl rfl
    have x01 := p1 x0 (List.mem_cons_self ..)
    by_cases c1 : rest = []
    · subst c1
      refine iteDT rfl ?_
      refine ⟨_, rfl, _, rfl, D, _, 0, _, rfl, rfl, SqL.of hd12, a0, _, rfl, D, _, 0, _, rfl, rfl, SqL.of hd12, a0, (by show 2 ≤ sizeLine; decide), fun t6 nt6 => ?_⟩
      have s13 : Same H12 (upd H12 t6 (.tup [.int x0, .int x0])) := (Same.refl H12).new nt6
      have ht6 : upd H12 t6 (.tup [.int x0, .int x0]) t6 = some (.tup [.int x0, .int x0]) := upd_same
      generalize upd H12 t6 (.tup [.int x0, .int x0]) = H13 at s13 ht6 ⊢
      refine ⟨_, _, two_dp (s13 _ _ ht12), two_dp ht6, two_shaped _ _, two_shaped _ _, ?_⟩
      rw [two_eqv, decide_eq_true (armLo_one x01), decide_eq_true (List.sum_singleton)]
      exact q H13 (b012.trans (But.of s13)) ((pen12.same s13).mono (by simp only [List.length_cons, List.length_nil]; omega))
    · obtain ⟨x1, rest2, rfl⟩ : ∃ x1 r, rest = x1 :: r := by
        cases rest with
        | nil => exact absurd rfl c1
        | cons x r => exact ⟨x, r, rfl⟩
      refine iteDF (fun z => by have z := V.int.inj z; rw [List.length_cons, List.length_cons] at z; omega) ?_
      have a1 : atI ((x0 :: x1 :: rest2).map V.int) 1 = some (.int x1) := at_of (j := 1) rfl rfl
      have x11 := p1 x1 (List.mem_cons_of_mem _ (List.mem_cons_self ..))
      have pr2 : ∀ z ∈ rest2, 1 ≤ z := fun z hz => p1 z (List.mem_cons_of_mem _ (List.mem_cons_of_mem _ hz))
      refine ⟨_, rfl, D, _, 0, _, rfl, rfl, SqL.of hd12, a0, _, rfl, D, _, 1, _, rfl, rfl, SqL.of hd12, a1, _, _, rfl, rfl, (by show 1 ≤ sizeLine; decide), fun z6 nz6 => ?_⟩
      have s13 : Same H12 (upd H12 z6 (.lst [.int (x0 + x1)])) := (Same.refl H12).new nz6
      have hz6 : upd H12 z6 (.lst [.int (x0 + x1)]) z6 = some (.lst [.int (x0 + x1)]) := upd_same
      generalize upd H12 z6 (.lst [.int (x0 + x1)]) = H13 at s13 hz6 ⊢
      have hd13 := s13 _ _ hd12
      refine ⟨_, rfl, 2, rfl, ?_⟩
      delta tNoPart
      refine ⟨D, _, rfl, SqL.of hd13, fun z7 nz7 => ?_⟩
      rw [show cutV ((x0 :: x1 :: rest2).map V.int) (some 2) none = rest2.map V.int from cut_from _ (k := 2) rfl]
      have s14 : Same H13 (upd H13 z7 (.lst (rest2.map V.int))) := (Same.refl H13).new nz7
      have hz7 : upd H13 z7 (.lst (rest2.map V.int)) z7 = some (.lst (rest2.map V.int)) := upd_same
      generalize upd H13 z7 (.lst (rest2.map V.int)) = H14 at s14 hz7 ⊢
      refine ⟨z6, z7, _, _, rfl, rfl, s14 _ _ hz6, hz7, Nat.le_of_lt (sm (by rw [List.length_map]; simp only [List.length_cons, List.length_nil] at ml ⊢; omega)), fun z8 nz8 => ?_⟩
      have s15 : Same H14 (upd H14 z8 (.lst ([.int (x0 + x1)] ++ rest2.map V.int))) := (Same.refl H14).new nz8
      have hz8 : upd H14 z8 (.lst ([.int (x0 + x1)] ++ rest2.map V.int)) z8 = some (.lst (((x0 + x1) :: rest2).map V.int)) := upd_same
      generalize upd H14 z8 (.lst ([.int (x0 + x1)] ++ rest2.map V.int)) = H15 at s15 hz8 ⊢
      have p8 : ∀ z ∈ (x0 + x1) :: rest2, 1 ≤ z := fun z hz => by
        rcases List.mem_cons.mp hz with rfl | hz
        · omega
        · exact pr2 z hz
      refine ⟨z8, (x0 + x1) :: rest2, rfl, .inl hz8, by rw [List.length_cons]; omega, by simp only [List.length_cons] at ml ⊢; omega, p8, fun t8 H16 s16 nt8 ht8' => ?_⟩
      have s1216 := ((s13.trans s14).trans s15).trans s16
      have ht16 := s1216 _ _ ht12
      obtain ⟨le, es⟩ := armLo_both x01 x11 pr2
      refine ⟨_, rfl, t8, _, 0, _, rfl, rfl, .inl (.inl ht8'), at_of (j := 0) rfl rfl, _, rfl, t1, _, 0, _, rfl, rfl, .inl (.inl ht16), at_of (j := 0) rfl rfl, _, _, rfl, rfl, _, rfl, iteDT le ?_⟩
      refine ⟨_, rfl, t8, _, 1, _, rfl, rfl, .inl (.inl ht8'), at_of (j := 1) rfl rfl, _, rfl, t1, _, 1, _, rfl, rfl, .inl (.inl ht16), at_of (j := 1) rfl rfl, rfl, ?_⟩
      rw [es, decide_eq_true rfl]
      exact q H16 (b012.trans (But.of s1216)) ((pen12.same s1216).mono (by omega))
end
end K
namespace Rg
open PySem PySem.Spec PyProof.Rows L2
/-! ### str(oj), the instance's own __str__ -/
section
variable {X : Cx} {k : Nat} {f : Addr} {fd : FuncData} {sp : Sp}
def rStrO (K : PySem.W.Frag) (f : Addr) (sp : Sp) : List V → Hp → VK → Prop := fun vxs Hh Qq => ∃ a C dx fs, vxs = [.ref a] ∧ Hh a = some (.ins C dx fs) ∧ PySem.W.findIn K (.ref C) "__str__" = some (some (.ref f)) ∧ PySem.W.isFn K (.ref f) = true ∧
  sp [.ref a] Hh (fun v H' => ∃ y : Str, v = .str y ∧ Qq (.str y) H') E0
theorem call_strO (F : FnOk X.prog X.w X.K X.mg X.base CX0 k f fd ["self"] sp) (hr : Room (k + 2) X.A) (hb : Binds X.K fd ["self"] []) : CallR X (.type "str") (rStrO X.K f sp) := by
  intro pns s σs Hh vxs uvs Qq Iv r h
  obtain ⟨a, C, dx, fs, rfl, eqa, hs, hf, qq⟩ := h
  obtain ⟨u, rfl, rlu⟩ := vals1 r
  obtain rfl : u = Value.ref a := rlu
  obtain ⟨mA, O, _, _, _, _⟩ := ins_get Iv.hok eqa
  obtain ⟨od, hod⟩ : ∃ od, s.heap.get? dx = some od := let ⟨oj, _, _, e', _⟩ := O.ns; ⟨oj, e'⟩
  have hu := hr.units
  refine PySem.W.kso_call (K := X.K) (ox := PySem.W.instObj C dx) (C := C) (od := some od) (by show X.A.units + 1 + 1 < cLine; omega) Iv.kIn ⟨O.obj, rfl, rfl, hod⟩ hs hf ?_
  have hlst : ([Value.ref a] ++ []).length = (["self"] : List Str).length := rfl
  refine wpAny_call (codeAny_mono (F.run X.A.in1.in1 X.stack s Hh ⟨[.ref a], []⟩ [.ref a] [.ref a] _ E0 hr.in1.in1 Iv.env0.in1.in1 (hb s [.ref a] Iv.kIn hlst) (.cons rfl .nil) qq) fun r s' hsq => ?_)
  cases r with
  | error e => exact hsq.elim
  | ok fl =>
    cases fl with
    | ret u =>
      obtain ⟨v, H', I3, rlv, y, ev, q3⟩ := Iv.after hsq
      subst ev
      obtain ⟨t, rfl⟩ := rlv
      exact ⟨.str y, H', I3, ⟨t, rfl⟩, q3⟩
    | next => exact False.elim hsq
    | brk => exact False.elim hsq
    | cont => exact False.elim hsq
end

end Rg
namespace K
open PySem L2 Rg LamX
open Evl (pss_cut)
def numT (i : Int) : Str := Str.ofString (toString i)
def textN (ls : List Int) : Str := Txt.join ⟨#[32]⟩ (ls.map numT)
theorem num_len {i : Int} (h1 : 1 ≤ i) (h2 : i ≤ 1000000) : (numT i).length ≤ 7 := PyProof.Rows.toString_length_le (by omega) (by decide) (by omega)
theorem spc_eq : (" " : Str) = ⟨#[32]⟩ := by decide +kernel
section
variable {P : Program} {w : World} {K : PySem.W.Frag} {mg : Str → Option Value} {base : Heap}
theorem log_small {i : Int} (h1 : 1 ≤ i) (h2 : i ≤ 1000000) : i.natAbs.log2 < 1920 := by
  refine (Nat.log2_lt (by omega)).mpr (Nat.lt_of_lt_of_le (show i.natAbs < 2 ^ 20 by omega) (Nat.pow_le_pow_right (by decide) (by decide)))
theorem sum_small {ls : List Int} (bd : Bd 1000000 ls) : ((ls.map numT).map (·.length)).sum ≤ 7 * ls.length := by
  induction ls with
  | nil => exact Nat.le_refl _
  | cons a l ih =>
    have ba := bd a (List.mem_cons_self ..)
    have := num_len ba.1 ba.2
    have := ih fun x hx => bd x (List.mem_cons_of_mem _ hx)
    rw [List.map_cons, List.map_cons, List.sum_cons, List.length_cons]
    omega
def spStrR (K : PySem.W.Frag) (C : Addr) : Sp := fun vs H Q _ => ∃ (r : Addr) (ls : List Int), vs = [.ref r] ∧ RingW K C H r ls ∧ ls.length ≤ 8 ∧ Bd 1000000 ls ∧ ∀ H', Same H H' → Q (.str (textN ls)) H'
abbrev nStrR : List Str := ["self", "length"]
theorem scStrR : FnScope nStrR ["self"] (defScope sRingStr) := ⟨rfl, rfl, rfl, by decide +kernel, rfl, by decide +kernel, by decide +kernel⟩
theorem ok_strR {C f : Addr} {fd : FuncData} (F : Fun K "__str__" "Ring.__str__" sRingStr f fd) (Ts : mg "str" = none) (R : RingC K mg C) : FnOk P w K mg base CX0 2 f fd ["self"] (spStrR K C) := by
  refine F.ok scStrR (fun vs H Q E h => ?_) (fun cdv A outer s H vs Q E hr h => ?_)
  · obtain ⟨r, ls, rfl, _⟩ := h
    rfl
  · have nd := scStrR.nd
    refine ⟨_, pss_one (ps_ret (pe_join pe_str (pe_lc (own := [("length", 1)]) (g := gName 1) (tt := tYes) rfl nd (pi_tup (pe_fld (pv 0) rfl))
        (blkOk_by (N := nStrR) (sc := defScope sRingStr) (by decide +kernel)) (fun _ _ _ _ _ => pg_name (i := 1) nd rfl (Or.inl rfl)) (fun _ _ _ _ _ => pts_nil) (fun _ _ _ _ _ => pe_callTy call_str_int (by rfl) Ts (by decide +kernel) (pa_cons (pv 1) pa_nil))))), ?_⟩
    obtain ⟨r, ls, rfl, ⟨dx, t, hr0, ht⟩, l8, bd, q⟩ := h
    refine ⟨⟨_, rfl⟩, _, rfl, r, C, dx, _, _, rfl, hr0, R.cl, R.nL, rf_lengths _ _, t, rfl, ⟨_, ht⟩, fun D hD => ?_⟩
    refine lc_tup (K := K) (a := t) (xs := ls.map V.int) (fun i H' => Same H H' ∧ H' D = some (.lst (((ls.take i).map numT).map V.str))) ⟨(Same.refl H).new hD, upd_same⟩ (fun i H' _ q => q.1.tup ht) ?_ ?_
    · rintro i x H' hi ⟨s2, h2⟩
      obtain ⟨z, hz, rfl⟩ := int_at hi
      have bz := bd z (List.mem_of_getElem? hz)
      have hil : i < ls.length := (List.getElem?_eq_some_iff.mp hz).1
      refine ⟨rfl, _, rfl, z, rfl, log_small bz.1 bz.2, _, h2, (by rw [List.length_map, List.length_map, List.length_take]; exact sm (by omega)), s2.mut hD, ?_⟩
      rw [upd_same, ← take_snoc hz, List.map_append, List.map_append]
      rfl
    · rintro H' ⟨s2, h2⟩
      rw [List.length_map, List.take_length] at h2
      refine ⟨_, D, _, rfl, rfl, .inl (SqL.of h2), ?_, ?_⟩
      · have := sum_small bd
        rw [List.length_map]
        show _ + ls.length * 1 ≤ 16777216
        omega
      · rw [spc_eq]
        exact q _ s2
/-! ### without errors -/
def spABc (K : PySem.W.Frag) : Sp := fun vs H Q _ => ∃ m i j : Int, vs = [.int m, .int i, .int j] ∧ 3 ≤ m ∧ m ≤ 8 ∧ 0 ≤ i ∧ i < m ∧ 0 ≤ j ∧ j < m ∧ i ≠ j ∧ ∀ p H', Same H H' → H p = none → H' p = some (.tup ((arcB m i j).map V.int)) → Q (.ref p) H'
theorem ok_abc {cB cN cT f : Addr} {fd : FuncData} {k : Nat} (F : FnOk P w K mg base (L2.CX P w) k f fd ["many", "one", "other"] (spAB K cB cN cT)) : FnOk P w K mg base CX0 k f fd ["many", "one", "other"] (spABc K) :=
  (fn_calm F).imp fun vs H Q E ⟨m, i, j, e, m3, m8, i0, i1, j0, j1, ne, q⟩ => ⟨.int m, .int i, .int j, e, .inr ⟨m, rfl, m3, m8, .inr ⟨i, rfl, i0, i1, .inr ⟨j, rfl, j0, j1, .inr ⟨ne, q⟩⟩⟩⟩⟩
def spAGc (K : PySem.W.Frag) (C : Addr) : Sp := fun vs H Q _ => ∃ (r : Addr) (ls : List Int) (i j : Int), vs = [.ref r, .int i, .int j] ∧ RingAt K C H r ls ∧ 3 ≤ ls.length ∧ ls.length ≤ 8 ∧ Bd 1000000 ls ∧ 0 ≤ i ∧ i < ls.length ∧ 0 ≤ j ∧ j < ls.length ∧ i ≠ j ∧
  ∀ p H', Same H H' → H p = none → H' p = some (.tup [.int (armLo (arcL ls i j)), .int (arcL ls i j).sum]) → Q (.ref p) H'
theorem ok_agc {C cR cN cT f : Addr} {fd : FuncData} {k : Nat} (F : FnOk P w K mg base (L2.CX P w) k f fd ["ring", "one", "other"] (spAG K C cR cN cT)) : FnOk P w K mg base CX0 k f fd ["ring", "one", "other"] (spAGc K C) :=
  (fn_calm F).imp fun vs H Q E ⟨r, ls, i, j, e, ra, l3, l8, bd, i0, i1, j0, j1, ne, q⟩ => ⟨.ref r, .int i, .int j, e, .inr ⟨r, ls, rfl, ra, l3, l8, bd, .inr ⟨i, rfl, i0, i1, .inr ⟨j, rfl, j0, j1, .inr ⟨ne, q⟩⟩⟩⟩⟩
end
/-! ### the two arcs are all bars -/
def rgI (m : Nat) : List Int := (List.range m).map fun (i : Nat) => (i : Int)
def permB (a b : List Int) : Bool := a.isPerm b
theorem arcs_all : ((List.range 9).all fun m : Nat => (List.range m).all fun i : Nat => (List.range m).all fun j : Nat => decide (m < 3 ∨ i = j) || permB (arcB m i j ++ arcB m j i) (rgI m)) = true := by decide +kernel
theorem arcs_perm {m : Nat} {i j : Int} (m3 : 3 ≤ m) (m8 : m ≤ 8) (i0 : 0 ≤ i) (i1 : i < m) (j0 : 0 ≤ j) (j1 : j < m) (ne : i ≠ j) : (arcB m i j ++ arcB m j i).Perm (rgI m) := by
  have h := List.all_eq_true.mp arcs_all m (List.mem_range.mpr (by omega))
  have h := List.all_eq_true.mp h i.toNat (List.mem_range.mpr (by omega))
  have h := List.all_eq_true.mp h j.toNat (List.mem_range.mpr (by omega))
  rw [show ((i.toNat : Nat) : Int) = i by omega, show ((j.toNat : Nat) : Int) = j by omega, decide_eq_false (by omega), Bool.false_or] at h
  exact List.isPerm_iff.mp h
theorem rgI_asc (m : Nat) : (rgI m).Pairwise (· ≤ ·) := by
  unfold rgI
  rw [List.pairwise_map]
  exact List.pairwise_lt_range.imp fun h => by omega
theorem sorted_one {a b : List Int} (p : a.Perm b) (ha : a.Pairwise (· ≤ ·)) (hb : b.Pairwise (· ≤ ·)) : a = b := List.Perm.eq_of_pairwise (fun x y _ _ h1 h2 => Int.le_antisymm h1 h2) ha hb p
theorem arc_step {m : Nat} {i s : Int} (i0 : 0 ≤ i) (i1 : i < m) (s1 : 1 ≤ s) (s2 : s < m) : 0 ≤ (i + s) % m ∧ (i + s) % m < m ∧ i ≠ (i + s) % m ∧ (((i + s) % m - i) % m).toNat = s.toNat := by
  have m0 : (m : Int) ≠ 0 := by omega
  have a := Int.emod_nonneg (i + s) m0
  have b := Int.emod_lt_of_pos (i + s) (show (0 : Int) < m by omega)
  have e : (i + s) % m = i + s ∨ (i + s) % m = i + s - m := by
    by_cases c : i + s < m
    · exact .inl (Int.emod_eq_of_lt (by omega) c)
    · right
      rw [← Int.sub_emod_right, Int.emod_eq_of_lt (by omega) (by omega)]
  rcases e with e | e
  · rw [e] at a b ⊢
    refine ⟨a, b, by omega, ?_⟩
    rw [show i + s - i = s by omega, Int.emod_eq_of_lt (by omega) (by omega)]
  · rw [e] at a b ⊢
    refine ⟨a, b, by omega, ?_⟩
    rw [show i + s - m - i = s - m by omega, Int.sub_emod_right, Int.emod_eq_of_lt (by omega) (by omega)]
theorem eqvT (a b : List Int) : PyData.eqv (.tuple (a.map PyData.int)) (.tuple (b.map PyData.int)) = decide (a = b) := by
  have := eqvA_pd a b
  simp only [PyData.eqv] at this ⊢
  exact this
theorem shapedT (l : List Int) : SeqAt.shaped (.tuple (l.map PyData.int)) = true := by
  have := shaped_ints l
  simp only [SeqAt.shaped, PyData.canLay0, PyData.depth] at this ⊢
  exact this
theorem catV {K : PySem.W.Frag} {a b : Addr} {xs ys : List V} {H : Hp} {Q : VK} (ha : H a = some (.tup xs)) (hb : H b = some (.tup ys)) (hl : xs.length + ys.length ≤ 1000) (k : ∀ t H', H' t = some (.tup (xs ++ ys)) → Same H H' → Q (.ref t) H') : rCatA K (.ref a) (.ref b) H Q := by
  refine ⟨a, b, _, _, rfl, rfl, .inl (.inl ha), .inl (.inl hb), Nat.le_of_lt (sm (by omega)), fun e => k b H ?_ (Same.refl H), fun _ e => k a H ?_ (Same.refl H), fun _ _ p hp => k p _ upd_same ((Same.refl H).new hp)⟩
  · rw [e]; exact hb
  · rw [e, List.append_nil]; exact ha
theorem rgV_rgI (n : Nat) : rgV 0 ((n : Nat) : Int) = (rgI n).map V.int := by
  unfold rgV rgI
  rw [List.map_map]
  simp
end K
namespace K
open PySem L2 Rg LamX
open Evl (pss_cut)
structure StrM (P : Program) (w : World) (K : PySem.W.Frag) (mg : Str → Option Value) (base : Heap) (C f : Addr) (fd : FuncData) : Prop where
  ok : FnOk P w K mg base CX0 2 f fd ["self"] (spStrR K C)
  b : Binds K fd ["self"] []
  at_ : PySem.W.findIn K (.ref C) "__str__" = some (some (.ref f))
  fn : PySem.W.isFn K (.ref f) = true
section
variable {P : Program} {w : World} {K : PySem.W.Frag} {mg : Str → Option Value} {base : Heap}
def spAS (K : PySem.W.Frag) : Sp := fun vs H Q _ => ∃ (p : Addr) (e : Addr × List Int) (n : Nat), vs = [.ref p] ∧ n < 700000 ∧ PenAt K H p e n ∧ ∀ H', But p H H' → PenAt K H' p e (n + 100) → Q (.bl true) H'
abbrev nAS : List Str := ["_law_pen_here", "_law_many", "_law_lengths", "_law_ring", "_law_turn", "_law_one", "_law_step", "_law_other", "_law_bars", "_law_back", "_law_due", "_law_bar", "_law_length_here"]
theorem scAS : FnScope nAS ["_law_pen_here"] (defScope sLwArcsRight) := ⟨rfl, rfl, rfl, by decide +kernel, rfl, by decide +kernel, by decide +kernel⟩
theorem ok_as {C f fD fR fLG fLA fAB fAG fAR fRE fS : Addr} {fd fdD fdR fdLG fdLA fdAB fdAG fdAR fdRE fdS : FuncData} {g1 g2 : List Value → List Value → List Value} (F : Fun K "_law_arcs_right" "_law_arcs_right" sLwArcsRight f fd) (T : Bi mg) (B2 : Bi2 mg) (D : DrawAt P w K mg base fD fdD)
    (R : RingP P w K mg base C fR fdR) (RG : RingC K mg C) (LG : DefAt P w K mg base CX0 3 "_law_length" ["_law_pen_here"] (spLG K) fLG fdLG) (LA : DefAt P w K mg base CX0 1 "_law_arc" ["_law_many", "_law_one", "_law_other"] (spLA K) fLA fdLA)
    (AB : DefAt P w K mg base CX0 5 "arc_bars" ["many", "one", "other"] (spABc K) fAB fdAB) (KAB : KBinds K fdAB ["many", "one", "other"] ["other", "one", "many"] g1 gK3) (AG : DefAt P w K mg base CX0 6 "arc_range" ["ring", "one", "other"] (spAGc K C) fAG fdAG) (KAG : KBinds K fdAG ["ring", "one", "other"] ["other", "one", "ring"] g2 gK3)
    (AR : DefAt P w K mg base CX0 4 "arm_range" ["lengths"] (spARc K) fAR fdAR) (RE : DefAt P w K mg base CX0 1 "_law_reach" ["_law_lengths"] (spRE K) fRE fdRE) (SR : StrM P w K mg base C fS fdS) : FnG P w K mg base CX0 8 f fd ["_law_pen_here"] (spAS K) := by
  refine F.okG scAS (fun vs H Q E h => ?_) (fun cdv A outer s H vs Q E ga hr h => ?_)
  · obtain ⟨p, e, n, rfl, _⟩ := h
    rfl
  · have nd := scAS.nd
    have gX : (A.deeper (PyProof.Rows.envOfC "_law_arcs_right" (defScope sLwArcsRight) s.heap.objs.size f cdv)).guards = some [] := ga
    have hu65 : (A.deeper (PyProof.Rows.envOfC "_law_arcs_right" (defScope sLwArcsRight) s.heap.objs.size f cdv)).units + 65 < cLine := by have := hr.un; omega
    refine ⟨_, (pss_cons (ps_set (i := 1) nd rfl (Or.inl rfl) (pe_op op_add pe_int (pe_call D.ok (hr.mono (by decide)) rfl D.g D.kp D.b .nil pass0 (pa_cons (pv 0) (pa_cons pe_int pa_nil)))))
      (pss_cons (ps_set (i := 2) nd rfl (Or.inr rfl) (pe_lc (own := [("_law_bar", 11)]) (g := gName 11) (tt := tYes) (te := tCall (spLG K) [] E0 (tCons (tVar 0) tNil)) rfl nd (pi_range1 (by rfl) T.range (pa_cons (pv 1) pa_nil)) (blkOk_by (N := nAS) (sc := defScope sLwArcsRight) (by decide +kernel)) (fun _ _ _ _ _ => pg_name (i := 11) nd rfl (Or.inl rfl)) (fun _ _ _ _ _ => pts_nil) (fun _ _ _ _ _ => pe_call LG.ok (hr.mono (by decide)) rfl LG.g LG.kp LG.b .nil pass0 (pa_cons (pv 0) pa_nil))))
      (pss_cons (ps_set (i := 3) nd rfl (Or.inl rfl) (pe_make R.made R.ok (hr.mono (by decide)) (by rfl) RG.g R.b .nil pass0 (pa_cons (pv 2) pa_nil)))
      (pss_cons (ps_for PassesOwn.never rfl (pi_range1 (by rfl) T.range (pa_cons pe_int pa_nil)) (pg_name (i := 4) nd rfl (Or.inl rfl)) (pss_cons (ps_par (i := 5) (j := 6) (by rfl) nd rfl rfl (by decide) rfl rfl (pa_cons (pe_call D.ok (hr.mono (by decide)) rfl D.g D.kp D.b .nil pass0 (pa_cons (pv 0) (pa_cons (pv 1) pa_nil))) (pa_cons (pe_op op_add pe_int (pe_call D.ok (hr.mono (by decide)) rfl D.g D.kp D.b .nil pass0 (pa_cons (pv 0) (pa_cons (pe_op op_sub (pv 1) pe_int) pa_nil)))) pa_nil)) (by rfl))
      (pss_cons (ps_set (i := 7) nd rfl (Or.inl rfl) (pe_op op_mod (pe_callTy call_int1 (by rfl) T.int (by decide +kernel) (pa_cons (pe_op op_add (pv 5) (pv 6)) pa_nil)) (pv 1)))
      (pss_cons (ps_par (i := 8) (j := 9) (by rfl) nd rfl rfl (by decide) rfl rfl (pa_cons (pe_call AB.ok (hr.mono (by decide)) rfl AB.g AB.kp AB.b .nil pass0 (pa_cons (pv 1) (pa_cons (pv 5) (pa_cons (pv 7) pa_nil)))) (pa_cons (pe_callK0 AB.ok (hr.mono (by decide)) rfl AB.g AB.kp KAB pass0 (pk_cons (pv 5) (pk_cons (pv 7) (pk_cons (pv 1) pk_nil)))) pa_nil)) (by rfl))
      (pss_cons (ps_if (PW.pt (pw_or (pt_cmpR (op_neD hr.units) (pv 8) (pe_callTy (r := rTupOf K) call_tuple_of (by rfl) T.tuple (by decide +kernel) (pa_cons (pe_call LA.ok (hr.mono (by decide)) rfl LA.g LA.kp LA.b .nil pass0 (pa_cons (pv 1) (pa_cons (pv 5) (pa_cons (pv 7) pa_nil)))) pa_nil)) (nomark _)) (pw_or (pt_not (pt_val (pe_callB call_isi (by rfl) T.isinstance (by decide +kernel) (pa_cons (pv 8) (pa_cons (pe_bltn (v := .ty "tuple") (u := .type "tuple") (by rfl) T.tuple (by decide +kernel) rfl) pa_nil))))) (pw_or1 (pt_cmpR op_ne (pe_callB (r := rLenS K) call_len_seq (by rfl) T.len PySem.boot_len (pa_cons (pv 8) pa_nil)) (pv 6) (nomark _)))))) (pss_one ps_never) pss_nil)
      (pss_cons (ps_if (pt_cmpR (op_neD hr.units) (pe_callB cr_sortedI (by rfl) T.sorted (by decide +kernel) (pa_cons (pe_callTy call_list_of (by rfl) T.list (by decide +kernel) (pa_cons (pe_op op_catA (pv 8) (pv 9)) pa_nil)) pa_nil)) (pe_listRg rfl (by rfl) T.list (prg_1 (by rfl) T.range (pv 1))) (nomark _)) (pss_one ps_never) pss_nil)
      (pss_cons (ps_set (i := 10) nd rfl (Or.inl rfl) (pe_call RE.ok (hr.mono (by decide)) rfl RE.g RE.kp RE.b .nil pass0 (pa_cons (pe_lc (own := [("_law_bar", 11)]) (g := gName 11) (tt := tYes) (te := tOp (rIxL K) (tVar 2) (tVar 11)) rfl nd (pi_tup (pv 8)) (blkOk_by (N := nAS) (sc := defScope sLwArcsRight) (by decide +kernel)) (fun _ _ _ _ _ => pg_name (i := 11) nd rfl (Or.inl rfl)) (fun _ _ _ _ _ => pts_nil) (fun _ _ _ _ _ => pe_ix (r := rIxL K) ix_list (pv 2) (pv 11) (fun _ _ => rfl))) pa_nil)))
      (pss_cons (ps_if (PW.pt (pw_or (pt_cmpR op_ne (pe_callB (cr_repr gX hu65) (by rfl) B2.repr (by decide +kernel) (pa_cons (pe_call AG.ok (hr.mono (by decide)) rfl AG.g AG.kp AG.b .nil pass0 (pa_cons (pv 3) (pa_cons (pv 5) (pa_cons (pv 7) pa_nil)))) pa_nil)) (pe_callB (cr_repr gX hu65) (by rfl) B2.repr (by decide +kernel) (pa_cons (pv 10) pa_nil)) (nomark _)) (pw_or1 (pt_cmpR (op_neD hr.units) (pe_callK0 AG.ok (hr.mono (by decide)) rfl AG.g AG.kp KAG pass0 (pk_cons (pv 7) (pk_cons (pv 5) (pk_cons (pv 3) pk_nil)))) (pv 10) (nomark _))))) (pss_one ps_never) pss_nil)
      (pss_one (ps_if (pt_cmpR (op_neD hr.units) (pe_call AR.ok (hr.mono (by decide)) rfl AR.g AR.kp AR.b .nil pass0 (pa_cons (pe_lc (own := [("_law_bar", 11)]) (g := gName 11) (tt := tYes) (te := tOp (rIxL K) (tVar 2) (tVar 11)) rfl nd (pi_tup (pv 8)) (blkOk_by (N := nAS) (sc := defScope sLwArcsRight) (by decide +kernel)) (fun _ _ _ _ _ => pg_name (i := 11) nd rfl (Or.inl rfl)) (fun _ _ _ _ _ => pts_nil) (fun _ _ _ _ _ => pe_ix (r := rIxL K) ix_list (pv 2) (pv 11) (fun _ _ => rfl))) pa_nil)) (pv 10) (nomark _)) (pss_one ps_never) pss_nil))))))))))
      (pss_one (ps_ret (pe_cmpR op_eq (pe_callTy (call_strO SR.ok (hr.mono (by decide)) SR.b) (by rfl) B2.str (by decide +kernel) (pa_cons (pv 3) pa_nil)) (pe_join pe_str (pe_lc (own := [("_law_length_here", 12)]) (g := gName 12) (tt := tYes) rfl nd (pi_list (pv 2)) (blkOk_by (N := nAS) (sc := defScope sLwArcsRight) (by decide +kernel)) (fun _ _ _ _ _ => pg_name (i := 12) nd rfl (Or.inl rfl)) (fun _ _ _ _ _ => pts_nil) (fun _ _ _ _ _ => pe_callTy call_str_int (by rfl) B2.str (by decide +kernel) (pa_cons (pv 12) pa_nil)))) (nomark _)))))))), ?_⟩
    obtain ⟨p, e, n, rfl, hn, pen, q⟩ := h
    refine ⟨_, rfl, p, e, 6, n, rfl, by decide, by decide, by omega, pen, fun r0 H1 r0a r0b b1 pen1 => ⟨_, _, rfl, rfl, ?_⟩⟩
    obtain ⟨m, em, m3, m8⟩ : ∃ m : Nat, (3 : Int) + r0 = (m : Nat) ∧ 3 ≤ m ∧ m ≤ 8 := ⟨(3 + r0).toNat, by omega, by omega, by omega⟩
    show gName 1 (V.int (3 + r0)) _ _ _
    rw [em]
    refine ⟨_, rfl, _, rfl, by omega, by omega, fun D hD => ?_⟩
    have hDp : D ≠ p := pen1.ne hD
    have hD0 : H D = none := b1.free hDp hD
    refine lc_range (lo := 0) (n := ((m : Nat) : Int).toNat) (fun j G => ∃ ls : List Int, ls.length = j ∧ Bd 1000000 ls ∧ G D = some (.lst (ls.map V.int)) ∧ But p H G ∧ PenAt K G p e (n + 1 + 2 * j)) ⟨[], rfl, (fun x hx => nomatch hx), upd_same, b1.mut hD0, pen.mut pen1 b1 hD0⟩ ?_ ?_
    · rintro j G hj ⟨ls, ll, bd, hd, b, pen'⟩
      rw [Int.toNat_natCast] at hj
      refine ⟨rfl, _, rfl, p, e, n + 1 + 2 * j, rfl, by omega, pen', fun x G4 x1 x2 b4 pen4 => ⟨_, b4 D _ hDp hd, szl (by rw [List.length_map]; omega), ls ++ [x], by rw [List.length_append, ll]; rfl, bd.snoc x1 x2, ?_, (b.trans b4).mut hD0, (pen.mut pen4 (b.trans b4) hD0).mono (by omega)⟩⟩
      rw [List.map_append]
      exact upd_same
    rintro H3 ⟨ls, ll, bd, hd3, b3, pen3⟩
    rw [Int.toNat_natCast] at ll pen3
    have l3 : 3 ≤ ls.length := by omega
    have l8 : ls.length ≤ 8 := by omega
    refine ⟨_, rfl, madeL2 hd3 l3 l8 bd fun r H4 ra4 s4 nr => ⟨rfl, ?_⟩⟩
    have b04 : But p H H4 := b3.trans (But.of s4)
    have pen4 := pen3.same s4
    have hd4 := s4 _ _ hd3
    subst ll
    have pos := fun x hx => (bd x hx).1
    refine ⟨_, rfl, by decide, by decide, ?_⟩
    refine for_range (lo := 0) (n := (3 : Int).toNat) (fun k σ G => But p H G ∧ PenAt K G p e (n + 17 + 2 * k) ∧ G D = some (.lst (ls.map V.int)) ∧ RingAt K C G r ls ∧ ∃ z4 z5 z6 z7 z8 z9 z10 : Option V, σ = [some (.ref p), some (.int (ls.length : Nat)), some (.ref D), some (.ref r), z4, z5, z6, z7, z8, z9, z10, none, none])
      ⟨b04, pen4.mono (by omega), hd4, ra4, _, _, _, _, _, _, _, rfl⟩ ?_ ?_
    · rintro k σ G hk ⟨bG, penG, hdG, raG, z4, z5, z6, z7, z8, z9, z10, rfl⟩
      have hk3 : k < 3 := hk
      refine ⟨_, rfl, _, rfl, p, e, (ls.length : Nat), _, rfl, by omega, by omega, by omega, penG, fun i H1 i0 i1 b1 pen1 => ⟨_, rfl, _, rfl, _, _, rfl, rfl, p, e, _, _, rfl, by omega, by omega, by omega, pen1, fun s0 H2 s0a s0b b2 pen2 => ⟨_, _, rfl, rfl, _, _, rfl, ?_⟩⟩⟩
      obtain ⟨j0, j1, ne, el⟩ := arc_step (m := ls.length) i0 i1 (show 1 ≤ 1 + s0 by omega) (show 1 + s0 < (ls.length : Nat) by omega)
      have bG2 := b1.trans b2
      obtain ⟨pxG, hpG⟩ := penG.some
      have hd2 := bG2 _ _ hDp hdG
      have ra2 : RingAt K C H2 r ls := by
        obtain ⟨dx, t, h1, h2, o, h3, h4⟩ := raG
        refine ⟨dx, t, bG2 _ _ (fun z => by rw [z, hpG] at h1; cases h1) h1, ?_, o, bG2 _ _ (fun z => by rw [z, hpG] at h3; cases h3) h3, h4⟩
        rcases h2 with (z | ⟨o, z⟩) | z
        · exact .inl (.inl (bG2 _ _ (fun q => by rw [q, hpG] at z; cases z) z))
        · exact .inl (.inr ⟨o, bG2 _ _ (fun q => by rw [q, hpG] at z; cases z) z⟩)
        · exact .inr z
      refine ⟨_, rfl, _, rfl, _, _, rfl, rfl, .inl ⟨_, rfl, _, rfl, _, _, rfl, rfl, (by show (0 : Int) < (ls.length : Nat); omega), ?_⟩⟩
      show gName 7 (V.int ((i + (1 + s0)) % ((ls.length : Nat) : Int))) _ _ _
      generalize hj : (i + (1 + s0)) % ((ls.length : Nat) : Int) = j at j0 j1 ne el ⊢
      refine ⟨_, rfl, _, rfl, _, rfl, (ls.length : Nat), i, j, rfl, by omega, by omega, i0, i1, j0, j1, ne, fun t1 H3 s3 n1 h1 => ?_⟩
      refine ⟨_, rfl, _, rfl, _, rfl, (ls.length : Nat), j, i, rfl, by omega, by omega, j0, j1, i0, i1, fun z => ne z.symm, fun t2 H4 s4 n2 h2 => ⟨_, _, rfl, ?_⟩⟩
      have h14 := s4 _ _ h1
      -- as told by steps
      refine ⟨_, rfl, _, rfl, _, rfl, _, rfl, (ls.length : Nat), i, j, rfl, by omega, by omega, fun q1 H5 s5 nq hq => ⟨q1, _, rfl, .inl ⟨SqL.of hq, fun t3 nt3 => ?_⟩⟩⟩
      have s6 : Same H5 (upd H5 t3 (.tup ((arcB (ls.length : Nat) i j).map V.int))) := (Same.refl H5).new nt3
      have ht3 : upd H5 t3 (.tup ((arcB (ls.length : Nat) i j).map V.int)) t3 = some (.tup ((arcB (ls.length : Nat) i j).map V.int)) := upd_same
      generalize upd H5 t3 (.tup ((arcB (ls.length : Nat) i j).map V.int)) = H6 at s6 ht3 ⊢
      have s46 := s5.trans s6
      have h16 := s46 _ _ h14
      refine ⟨_, _, .tup (.inl (.inl h16)) (dp_ints _), .tup (.inl (.inl ht3)) (dp_ints _), shapedT _, shapedT _, _, rfl, ?_⟩
      rw [eqvT, decide_eq_true rfl]
      refine iteF ?_
      refine ⟨_, rfl, .ref t1, .ty "tuple", _, _, _, rfl, .ty _, .base (.tup h16), kit_ty (kit_tuple "tuple" (by decide)), _, rfl, ?_⟩
      rw [decide_eq_true rfl]
      refine iteF ?_
      refine ⟨_, rfl, t1, _, rfl, .inr (.inl (.inl h16)), _, rfl, rfl, _, rfl, ?_⟩
      have ea : ((arcB ((ls.length : Nat) : Int) i j).map V.int).length = (1 + s0).toNat := by rw [List.length_map, arcB_len, el]
      refine iteNS (by rw [ea]; congr 1; omega) ?_
      -- both are all bars
      have h26 := s46 _ _ h2
      have al := arcB_len ((ls.length : Nat) : Int) i j
      have bl := arcB_len ((ls.length : Nat) : Int) j i
      have ln := arc_len i0 i1 j0 j1 ne
      have ln2 := arc_len j0 j1 i0 i1 fun z => ne z.symm
      refine ⟨_, rfl, _, rfl, catV h16 h26 (by rw [List.length_map, List.length_map]; omega) fun t4 H7 ht4 s7 => ?_⟩
      rw [← List.map_append] at ht4
      refine ⟨t4, _, rfl, .inr (.inl (.inl ht4)), fun q2 nq2 => ?_⟩
      have s8 : Same H7 (upd H7 q2 (.lst ((arcB (ls.length : Nat) i j ++ arcB (ls.length : Nat) j i).map V.int))) := (Same.refl H7).new nq2
      have hq2 : upd H7 q2 (.lst ((arcB (ls.length : Nat) i j ++ arcB (ls.length : Nat) j i).map V.int)) q2 = some (.lst ((arcB (ls.length : Nat) i j ++ arcB (ls.length : Nat) j i).map V.int)) := upd_same
      generalize upd H7 q2 (.lst ((arcB (ls.length : Nat) i j ++ arcB (ls.length : Nat) j i).map V.int)) = H8 at s8 hq2 ⊢
      refine ⟨q2, _, rfl, SqL.of hq2, fun bs q3 pb ob nq3 => ?_⟩
      rw [sorted_one (pb.trans (arcs_perm (by omega) l8 i0 i1 j0 j1 ne)) ob (rgI_asc _)]
      have s9 : Same H8 (upd H8 q3 (.lst ((rgI ls.length).map V.int))) := (Same.refl H8).new nq3
      have hq3 : upd H8 q3 (.lst ((rgI ls.length).map V.int)) q3 = some (.lst ((rgI ls.length).map V.int)) := upd_same
      generalize upd H8 q3 (.lst ((rgI ls.length).map V.int)) = H9 at s9 hq3 ⊢
      refine ⟨_, rfl, _, rfl, RgOk.of_le (by omega) (by omega) (by omega) (by omega), fun q4 nq4 => ?_⟩
      rw [rgV_rgI]
      have s10 : Same H9 (upd H9 q4 (.lst ((rgI ls.length).map V.int))) := (Same.refl H9).new nq4
      have hq4 : upd H9 q4 (.lst ((rgI ls.length).map V.int)) q4 = some (.lst ((rgI ls.length).map V.int)) := upd_same
      generalize upd H9 q4 (.lst ((rgI ls.length).map V.int)) = H10 at s10 hq4 ⊢
      refine ⟨_, _, .lst (SqL.of (s10 _ _ hq3)) (dp_ints _), .lst (SqL.of hq4) (dp_ints _), shaped_ints _, shaped_ints _, _, rfl, ?_⟩
      rw [eqvA_pd, decide_eq_true rfl]
      refine iteF ?_
      have s410 := (((s46.trans s7).trans s8).trans s9).trans s10
      have h1a := s410 _ _ h14
      have s210 := (s3.trans s4).trans s410
      have hda := s210 _ _ hd2
      have raa := ra2.same s210
      have ll : (arcL ls i j).length = ((j - i) % ((ls.length : Nat) : Int)).toNat := by unfold arcL; rw [List.length_map, al]
      have ap := arcL_pos (i := i) (j := j) bd (by omega)
      refine ⟨_, rfl, t1, rfl, ⟨_, .inl (.inl h1a)⟩, fun D5 nD5 => ?_⟩
      refine lc_tup (K := K) (a := t1) (xs := (arcB (ls.length : Nat) i j).map V.int) (fun k H' => Same H10 H' ∧ H' D5 = some (.lst (((arcL ls i j).take k).map V.int))) ⟨(Same.refl H10).new nD5, upd_same⟩ (fun k H' _ q => .inl (.inl (q.1 _ _ h1a))) ?_ ?_
      · rintro k x H' hk ⟨s2, h2⟩
        obtain ⟨y, hy, rfl⟩ : ∃ y, (arcB (ls.length : Nat) i j)[k]? = some y ∧ x = .int y := by
          rw [List.getElem?_map] at hk
          cases c : (arcB (ls.length : Nat) i j)[k]? with
          | none => rw [c] at hk; cases hk
          | some y => rw [c] at hk; cases hk; exact ⟨y, rfl, rfl⟩
        have yb := arcB_mem (show 0 < ((ls.length : Nat) : Int) by omega) (List.mem_of_getElem? hy)
        have kl : k < (arcB (ls.length : Nat) i j).length := (List.getElem?_eq_some_iff.mp hy).1
        refine ⟨rfl, _, rfl, _, rfl, D, _, y, .int (ls.getD y.toNat 0), rfl, rfl, SqL.of (s2 _ _ hda), get_z yb.1 yb.2, _, h2, ?_, s2.mut nD5, ?_⟩
        · rw [List.length_map, List.length_take]
          exact sm (by omega)
        · have hy2 : (arcL ls i j)[k]? = some (ls.getD y.toNat 0) := by
            unfold arcL
            rw [List.getElem?_map, hy]
            rfl
          rw [upd_same, ← take_snoc hy2, List.map_append]
          rfl
      rintro H11 ⟨s11, hD5⟩
      rw [List.length_map, al, ← ll, List.take_length] at hD5
      refine ⟨D5, arcL ls i j, rfl, hD5, by omega, by omega, ap, fun t5 H12 s12 nt5 ht5 => ?_⟩
      have s1012 := s11.trans s12
      have ra12 := raa.same s1012
      have h1b := s1012 _ _ h1a
      have hdb := s1012 _ _ hda
      -- as arc_range tells
      have a1 : ∀ x ∈ arcL ls i j, 1 ≤ x ∧ x ≤ 1000000 := fun x h => by
        obtain ⟨b, hb, rfl⟩ := List.mem_map.mp h
        have := arcB_mem (by omega) hb
        exact bd.get (by omega)
      have sb : 0 ≤ (arcL ls i j).sum ∧ (arcL ls i j).sum ≤ 1000000 * (arcL ls i j).length := by
        have z := Bd.sum (m := 1000000) (ls := arcL ls i j) a1
        exact ⟨by omega, z.2⟩
      have ml := mx_mem (fun z => by rw [z] at ll; rw [List.length_nil] at ll; omega) ap
      have lo0 := armLo_nn (arcL ls i j)
      have lo1 : armLo (arcL ls i j) ≤ 2000000 := by
        have := (a1 _ ml.1).2
        unfold armLo
        omega
      have smd := smd_two lo0 (Int.lt_of_le_of_lt lo1 (by decide)) sb.1 (Int.lt_of_le_of_lt (show (arcL ls i j).sum ≤ 8000000 by omega) (by decide))
      refine ⟨_, rfl, _, rfl, _, rfl, r, ls, i, j, rfl, ra12, l3, l8, bd, i0, i1, j0, j1, ne, fun t6 H13 s13 nt6 ht6 => ?_⟩
      refine ⟨_, rfl, .inl ⟨t6, twoD _ _, rfl, two_dp ht6, smd.1, smd.2.1, smd.2.2.1, smd.2.2.2, ?_⟩⟩
      have ht5' := s13 _ _ ht5
      refine ⟨_, rfl, _, rfl, .inl ⟨t5, twoD _ _, rfl, two_dp ht5', smd.1, smd.2.1, smd.2.2.1, smd.2.2.2, rfl, _, rfl, iteNS rfl ?_⟩⟩
      refine ⟨_, rfl, _, rfl, _, rfl, r, ls, i, j, rfl, ra12.same s13, l3, l8, bd, i0, i1, j0, j1, ne, fun t7 H14 s14 nt7 ht7 => ?_⟩
      have s1214 := s13.trans s14
      refine ⟨_, rfl, _, _, two_dp ht7, two_dp (s1214 _ _ ht5), two_shaped _ _, two_shaped _ _, _, rfl, ?_⟩
      rw [two_eqv, decide_eq_true rfl, decide_eq_true rfl]
      refine iteF ?_
      have h1c := s1214 _ _ h1b
      have hdc := s1214 _ _ hdb
      refine ⟨_, rfl, t1, rfl, ⟨_, .inl (.inl h1c)⟩, fun D6 nD6 => ?_⟩
      refine lc_tup (K := K) (a := t1) (xs := (arcB (ls.length : Nat) i j).map V.int) (fun k H' => Same H14 H' ∧ H' D6 = some (.lst (((arcL ls i j).take k).map V.int))) ⟨(Same.refl H14).new nD6, upd_same⟩ (fun k H' _ q => .inl (.inl (q.1 _ _ h1c))) ?_ ?_
      · rintro k x H' hk ⟨s2, h2⟩
        obtain ⟨y, hy, rfl⟩ : ∃ y, (arcB (ls.length : Nat) i j)[k]? = some y ∧ x = .int y := by
          rw [List.getElem?_map] at hk
          cases c : (arcB (ls.length : Nat) i j)[k]? with
          | none => rw [c] at hk; cases hk
          | some y => rw [c] at hk; cases hk; exact ⟨y, rfl, rfl⟩
        have yb := arcB_mem (show 0 < ((ls.length : Nat) : Int) by omega) (List.mem_of_getElem? hy)
        have kl : k < (arcB (ls.length : Nat) i j).length := (List.getElem?_eq_some_iff.mp hy).1
        refine ⟨rfl, _, rfl, _, rfl, D, _, y, .int (ls.getD y.toNat 0), rfl, rfl, SqL.of (s2 _ _ hdc), get_z yb.1 yb.2, _, h2, ?_, s2.mut nD6, ?_⟩
        · rw [List.length_map, List.length_take]
          exact sm (by omega)
        · have hy2 : (arcL ls i j)[k]? = some (ls.getD y.toNat 0) := by
            unfold arcL
            rw [List.getElem?_map, hy]
            rfl
          rw [upd_same, ← take_snoc hy2, List.map_append]
          rfl
      rintro H15 ⟨s15, hD6⟩
      rw [List.length_map, al, ← ll, List.take_length] at hD6
      refine ⟨D6, arcL ls i j, rfl, .inl hD6, by omega, by omega, ap, fun t8 H16 s16 nt8 ht8 => ?_⟩
      have s1216 := (s1214.trans s15).trans s16
      refine ⟨_, rfl, _, _, two_dp ht8, two_dp (s1216 _ _ ht5), two_shaped _ _, two_shaped _ _, _, rfl, ?_⟩
      rw [two_eqv, decide_eq_true rfl, decide_eq_true rfl]
      refine iteF ?_
      have s216 := (s210.trans s1012).trans s1216
      exact ⟨bG.trans (bG2.trans (But.of s216)), (pen2.same s216).mono (by omega), s216 _ _ hd2, ra2.same s216, _, _, _, _, _, _, _, rfl⟩
    · rintro σ G ⟨bG, penG, hdG, raG, z4, z5, z6, z7, z8, z9, z10, rfl⟩
      obtain ⟨dx, t, hr0, _⟩ := id raG.weak
      refine ⟨_, rfl, r, C, dx, _, rfl, hr0, SR.at_, SR.fn, r, ls, rfl, raG.weak, l8, bd, fun H1 s1 => ⟨_, rfl, ?_⟩⟩
      have hd1 := s1 _ _ hdG
      refine ⟨⟨_, rfl⟩, _, rfl, D, rfl, ⟨_, SqL.of hd1⟩, fun D7 nD7 => ?_⟩
      refine lc_list (K := K) (a := D) (xs := ls.map V.int) (fun i H' => Same H1 H' ∧ H' D7 = some (.lst (((ls.take i).map numT).map V.str))) ⟨(Same.refl H1).new nD7, upd_same⟩ (fun i H' _ q => SqL.of (q.1 _ _ hd1)) ?_ ?_
      · rintro i x H' hi ⟨s2, h2⟩
        obtain ⟨z, hz, rfl⟩ : ∃ y, ls[i]? = some y ∧ x = .int y := by
          rw [List.getElem?_map] at hi
          cases c : ls[i]? with
          | none => rw [c] at hi; cases hi
          | some y => rw [c] at hi; cases hi; exact ⟨y, rfl, rfl⟩
        have bz := bd z (List.mem_of_getElem? hz)
        refine ⟨rfl, _, rfl, z, rfl, log_small bz.1 bz.2, _, h2, (by rw [List.length_map, List.length_map, List.length_take]; exact sm (by omega)), s2.mut nD7, ?_⟩
        rw [upd_same, ← take_snoc hz, List.map_append, List.map_append]
        rfl
      · rintro H' ⟨s2, h2⟩
        rw [List.length_map, List.take_length] at h2
        refine ⟨_, D7, _, rfl, rfl, .inl (SqL.of h2), ?_, ?_⟩
        · have := sum_small bd
          rw [List.length_map]
          show _ + ls.length * 1 ≤ 16777216
          omega
        · rw [spc_eq]
          refine ⟨rfl, ?_⟩
          rw [show V.str (Txt.join ⟨#[32]⟩ (ls.map numT)) = V.str (textN ls) from rfl, decide_eq_true rfl]
          exact q H' ((bG.trans (But.of s1)).trans (But.of s2)) (((penG.same s1).same s2).mono (by show n + 17 + 2 * 3 ≤ n + 100; omega))
end
end K
namespace Rg
open PySem PySem.Spec PyProof.Rows L2
/-! ### x != y of two tuples that hold one and the same thing -/
section
variable {X : Cx}
def rNeS1 (K : PySem.W.Frag) : R2 := fun x y H Q => ∃ a b u : Addr, x = .ref a ∧ y = .ref b ∧ SqT K H a [.ref u] ∧ SqT K H b [.ref u] ∧ Q (.bl false) H
theorem op_neS1 (hu : X.A.units + 64 < cLine) : OpR X (compareOp .NotEq) (rNeS1 X.K) := by
  intro pins s σ H x y v u Q I rx ry ⟨a, b, r, ex, ey, ha, hb, q⟩
  subst ex ey
  cases rx
  cases ry
  obtain ⟨its, r1, t1, z1⟩ := I.tuple ha
  obtain ⟨its2, r2, t2, z2⟩ := I.tuple hb
  rw [Vals.ref1 r1] at t1
  rw [Vals.ref1 r2] at t2
  show wpAny (model X.prog X.w) X.A (richCompare .NotEq (.ref a) (.ref b)) (EP X pins σ Q) X.xe s
  have z := SeqAt.RcNeAt.tuples (A := X.A) (e := fun _ => true) (isTuple_of t1) (isTuple_of t2) (by omega) (fun j h1 h2 => by
    have j0 : j = 0 := by
      have : j < 1 := h1
      omega
    subst j0
    exact SeqAt.EqAt.same _)
  exact z X.prog X.w X.xe _ ⟨.bl false, H, I, rfl, q⟩
end
end Rg
namespace Rg
open PySem PySem.Spec PyProof.Rows L2
/-! ### a list compared with an empty list, whatever it holds -/
section
variable {X : Cx}
def rNeE (K : PySem.W.Frag) : R2 := fun x y H Q => ∃ (a b : Addr) (xs : List V), x = .ref a ∧ y = .ref b ∧ SqL K H a xs ∧ SqL K H b [] ∧ Q (.bl (!xs.isEmpty)) H
def rEqE (K : PySem.W.Frag) : R2 := fun x y H Q => ∃ (a b : Addr) (xs : List V), x = .ref a ∧ y = .ref b ∧ SqL K H a xs ∧ SqL K H b [] ∧ Q (.bl xs.isEmpty) H
theorem op_neE (hu : X.A.units + 64 < cLine) : OpR X (compareOp .NotEq) (rNeE X.K) := by
  intro pins s σ H x y v u Q I rx ry ⟨a, b, xs, ex, ey, ha, hb, q⟩
  subst ex ey
  cases rx
  cases ry
  obtain ⟨its, r1, t1, z1⟩ := I.list ha
  obtain ⟨its2, r2, t2, z2⟩ := I.list hb
  cases r2
  show wpAny (model X.prog X.w) X.A (richCompare .NotEq (.ref a) (.ref b)) (EP X pins σ Q) X.xe s
  cases r1 with
  | nil =>
    have z := SeqAt.RcNeAt.lists (A := X.A) (e := fun _ => true) t1.isList t2.isList rfl (by omega) (fun j h1 h2 => absurd h1 (Nat.not_lt_zero _))
    exact z X.prog X.w X.xe _ ⟨.bl false, H, I, rfl, q⟩
  | cons r rr =>
    have z := SeqAt.RcNeAt.lists_lengths (A := X.A) t1.isList t2.isList (by simp) (by omega)
    exact z X.prog X.w X.xe _ ⟨.bl true, H, I, rfl, q⟩
theorem op_eqE (hu : X.A.units + 64 < cLine) : OpR X (compareOp .Eq) (rEqE X.K) := by
  intro pins s σ H x y v u Q I rx ry ⟨a, b, xs, ex, ey, ha, hb, q⟩
  subst ex ey
  cases rx
  cases ry
  obtain ⟨its, r1, t1, z1⟩ := I.list ha
  obtain ⟨its2, r2, t2, z2⟩ := I.list hb
  cases r2
  show wpAny (model X.prog X.w) X.A (richCompare .Eq (.ref a) (.ref b)) (EP X pins σ Q) X.xe s
  cases r1 with
  | nil =>
    have z := SeqAt.RcAt.lists (A := X.A) (e := fun _ => true) t1.isList t2.isList rfl (by omega) (fun j h1 h2 => absurd h1 (Nat.not_lt_zero _))
    exact z X.prog X.w X.xe _ ⟨.bl true, H, I, rfl, q⟩
  | cons r rr =>
    have z := SeqAt.RcAt.lists_lengths (A := X.A) t1.isList t2.isList (by simp) (by omega)
    exact z X.prog X.w X.xe _ ⟨.bl false, H, I, rfl, q⟩
end
end Rg
namespace K
open PySem L2 Rg LamX NdefX
open Evl (pss_cut)
abbrev qRf : Str := "_law_refused_right.<locals>.<lambda>"
abbrev T1 (P1 : Addr) : List (Addr × Str) := [(P1, qRf)]
/-- the lambda of the k-th row -/
def rowE (k : Nat) : Expr := match k, (defBody sLwRefusedRight).getD (5 + k) (.Pass ⟨0, 0, 0, 0⟩) with
  | 0, .Assign _ (.List [.Tuple [l, _] _ _] _) _ => l
  | _, .Expr (.Call _ [.Tuple [l, _] _ _] _ _) _ => l
  | _, _ => .Tuple [] 0 ⟨0, 0, 0, 0⟩
def rowA (k : Nat) : Arguments := match rowE k with
  | .Lambda a _ _ _ => a
  | _ => { posonlyargs := [], args := [], vararg := none, kwonlyargs := [], kw_defaults := [], kwarg := none, defaults := [] }
def rowB (k : Nat) : Expr := match rowE k with
  | .Lambda _ b _ _ => b
  | _ => .Tuple [] 0 ⟨0, 0, 0, 0⟩
def rowS (k : Nat) : Scope := match rowE k with
  | .Lambda _ _ s _ => s
  | _ => { kind := .function, names := [], isGenerator := false, isCoroutine := false }
def rowT (K : PySem.W.Frag) (C : Addr) (hc : Hs) : Nat → XK → TE
  | 0 => fun E => tCall (spAR K hc.b) [] E (tCons (tVar 6) tNil)
  | 1 => fun E => tCall (spAR K hc.b) [] E (tCons (tOp rRep (tLst (tCons (tC (.int 1)) tNil)) (tC (.int 20))) tNil)
  | 2 => fun E => tCall (spAB K hc.b hc.n hc.t) [] E (tCons (tVar 5) (tCons (tVar 3) (tCons (tVar 3) tNil)))
  | 3 => fun E => tCall (spAB K hc.b hc.n hc.t) [] E (tCons (tVar 1) (tCons (tVar 3) (tCons (tC .non) tNil)))
  | 4 => fun E => tCall (spAB K hc.b hc.n hc.t) [] E (tCons (tVar 1) (tCons (tC (.int 0)) (tCons (tVar 3) tNil)))
  | 5 => fun E => tCall (spAB K hc.b hc.n hc.t) [] E (tCons (tVar 1) (tCons (tVar 3) (tCons (tVar 3) tNil)))
  | 6 => fun E => tCall (spAB K hc.b hc.n hc.t) [] E (tCons (tVar 1) (tCons (tC (.int 2)) (tCons (tC (.int 2)) tNil)))
  | 7 => fun E => tCall (spAG K C hc.r hc.n hc.t) [] E (tCons (tVar 4) (tCons (tVar 3) (tCons (tVar 3) tNil)))
  | 8 => fun E => tCall (spAG K C hc.r hc.n hc.t) [] E (tCons (tVar 2) (tCons (tVar 3) (tCons (tC (.int 0)) tNil)))
  | 9 => fun E => tCall (spAG K C hc.r hc.n hc.t) [] E (tCons (tVar 2) (tCons (tC (.int 1)) (tCons (tVar 3) tNil)))
  | 10 => fun E => tCall (spAG K C hc.r hc.n hc.t) [] E (tCons (tVar 2) (tCons (tVar 3) (tCons (tUn (rU fun i => .int (-i)) (tC (.int 7))) tNil)))
  | 11 => fun E => tCall (spAG K C hc.r hc.n hc.t) [] E (tCons (tVar 2) (tCons (tC (.int 1)) (tCons (tC (.int 1)) tNil)))
  | _ => fun _ => tC .non
def rowL (K : PySem.W.Frag) (C : Addr) (hc : Hs) (k : Nat) : LamT := ⟨rowA k, rowB k, rowS k, rowT K C hc k⟩
structure FunC (K : PySem.W.Frag) (x qual : Str) (st : Stmt) (f : Addr) (fd : FuncData) (c : Addr) : Prop where
  ex : ∃ (oc : Value) (od : Option Addr) (kV doc pm : Value) (an : Option Addr) (ct : Value) (osl : Array (Option Value)),
    fd = PySem.W.fnOf x qual (defArgs st) (defBody st) (defScope st) .none kV doc pm an (.ref c) ct ∧ K.lookup f = some ⟨oc, od, .func fd, osl⟩ ∧ PySem.W.codeIn K (.ref c) qual = true
theorem FunC.ok {P : Program} {w : World} {K : PySem.W.Frag} {mg : Str → Option Value} {base : Heap} {x qual : Str} {st : Stmt} {f c : Addr} {fd : FuncData} {N ps : List Str} {k : Nat} {sp : Sp} (F : FunC K x qual st f fd c) (S : FnScope N ps (defScope st)) (len : ∀ vs H Q E, sp vs H Q E → vs.length = ps.length)
    (hbody : ∀ (A : Around) (outer : List Env) (s : Shared) (H : Hp) (vs : List V) (Q : VK) (E : XK), Room k (A.deeper (PyProof.Rows.envOfC qual (defScope st) s.heap.objs.size f (.ref c))) → sp vs H Q E →
      ∃ t, PSs (cxOf CX0 P w K mg base N qual (defScope st) f (.ref c) A outer s H E).nox (defBody st) t ∧ t { nx := fun _ H' => Q .non H', rt := Q } (L2.start N vs) H) : FnOk P w K mg base CX0 (k + 1) f fd ps sp := by
  obtain ⟨oc, od, kV, doc, pm, an, ct, osl, rfl, lk, hcd⟩ := F.ex
  exact fn_of lk hcd S len fun A outer s H vs Q E hr hsp => by
    obtain ⟨t, h, q⟩ := hbody A outer s H vs Q E hr hsp
    exact ⟨t, h.nox, q⟩
abbrev nRR : List Str := ["_law_pen_here", "_law_many", "_law_ring", "_law_no", "_law_odd", "_law_size", "_law_bad", "_law_rows", "_law_ask", "_law_due"]
theorem scRR : FnScope nRR ["_law_pen_here"] (defScope sLwRefusedRight) := ⟨rfl, rfl, rfl, by decide +kernel, rfl, by decide +kernel, by decide +kernel⟩
section
variable {P : Program} {w : World} {K : PySem.W.Frag} {mg : Str → Option Value} {base : Heap}
theorem row_ok {C fAR fAB fAG cd f : Addr} {fdAR fdAB fdAG : FuncData} {hc : Hs} {A : Around} {outer : List Env} {s : Shared} {H : Hp} {E : XK} (AR : DefAt P w K mg base (L2.CX P w) 4 "arm_range" ["lengths"] (spAR K hc.b) fAR fdAR) (AB : DefAt P w K mg base (L2.CX P w) 5 "arc_bars" ["many", "one", "other"] (spAB K hc.b hc.n hc.t) fAB fdAB)
    (AG : DefAt P w K mg base (L2.CX P w) 6 "arc_range" ["ring", "one", "other"] (spAG K C hc.r hc.n hc.t) fAG fdAG) : ∀ j, j < 12 → LamR (cxOf CX0 P w K mg base nRR "_law_refused_right" (defScope sLwRefusedRight) f (.ref cd) A outer s H E).nox 8 (rowL K C hc j)
  | 0, _ => ⟨lamS_by (sc := defScope sLwRefusedRight) (scope := rowS 0) (by decide +kernel), fun _ _ _ _ _ => rfl, fun Az oz sz Hz Ez fz c2 hr2 => (pe_call (X := lamCx (cxOf CX0 P w K mg base nRR "_law_refused_right" (defScope sLwRefusedRight) f (.ref cd) A outer s H E).nox Az oz sz Hz Ez (rowS 0) fz c2) (x := "arm_range") AR.ok (hr2.mono (by decide)) rfl AR.g AR.kp AR.b .nil (passes_call (takes_of rfl rfl rfl rfl) (fun _ _ _ _ h => h)) (pa_cons (pv 6) pa_nil))⟩
  | 1, _ => ⟨lamS_by (sc := defScope sLwRefusedRight) (scope := rowS 1) (by decide +kernel), fun _ _ _ _ _ => rfl, fun Az oz sz Hz Ez fz c2 hr2 => (pe_call (X := lamCx (cxOf CX0 P w K mg base nRR "_law_refused_right" (defScope sLwRefusedRight) f (.ref cd) A outer s H E).nox Az oz sz Hz Ez (rowS 1) fz c2) (x := "arm_range") AR.ok (hr2.mono (by decide)) rfl AR.g AR.kp AR.b .nil (passes_call (takes_of rfl rfl rfl rfl) (fun _ _ _ _ h => h)) (pa_cons (pe_op op_rep (pe_lst (pa_cons pe_int pa_nil)) pe_int) pa_nil))⟩
  | 2, _ => ⟨lamS_by (sc := defScope sLwRefusedRight) (scope := rowS 2) (by decide +kernel), fun _ _ _ _ _ => rfl, fun Az oz sz Hz Ez fz c2 hr2 => (pe_call (X := lamCx (cxOf CX0 P w K mg base nRR "_law_refused_right" (defScope sLwRefusedRight) f (.ref cd) A outer s H E).nox Az oz sz Hz Ez (rowS 2) fz c2) (x := "arc_bars") AB.ok (hr2.mono (by decide)) rfl AB.g AB.kp AB.b .nil (passes_call (takes_of rfl rfl rfl rfl) (fun _ _ _ _ h => h)) (pa_cons (pv 5) (pa_cons (pv 3) (pa_cons (pv 3) pa_nil))))⟩
  | 3, _ => ⟨lamS_by (sc := defScope sLwRefusedRight) (scope := rowS 3) (by decide +kernel), fun _ _ _ _ _ => rfl, fun Az oz sz Hz Ez fz c2 hr2 => (pe_call (X := lamCx (cxOf CX0 P w K mg base nRR "_law_refused_right" (defScope sLwRefusedRight) f (.ref cd) A outer s H E).nox Az oz sz Hz Ez (rowS 3) fz c2) (x := "arc_bars") AB.ok (hr2.mono (by decide)) rfl AB.g AB.kp AB.b .nil (passes_call (takes_of rfl rfl rfl rfl) (fun _ _ _ _ h => h)) (pa_cons (pv 1) (pa_cons (pv 3) (pa_cons pe_non pa_nil))))⟩
  | 4, _ => ⟨lamS_by (sc := defScope sLwRefusedRight) (scope := rowS 4) (by decide +kernel), fun _ _ _ _ _ => rfl, fun Az oz sz Hz Ez fz c2 hr2 => (pe_call (X := lamCx (cxOf CX0 P w K mg base nRR "_law_refused_right" (defScope sLwRefusedRight) f (.ref cd) A outer s H E).nox Az oz sz Hz Ez (rowS 4) fz c2) (x := "arc_bars") AB.ok (hr2.mono (by decide)) rfl AB.g AB.kp AB.b .nil (passes_call (takes_of rfl rfl rfl rfl) (fun _ _ _ _ h => h)) (pa_cons (pv 1) (pa_cons pe_int (pa_cons (pv 3) pa_nil))))⟩
  | 5, _ => ⟨lamS_by (sc := defScope sLwRefusedRight) (scope := rowS 5) (by decide +kernel), fun _ _ _ _ _ => rfl, fun Az oz sz Hz Ez fz c2 hr2 => (pe_call (X := lamCx (cxOf CX0 P w K mg base nRR "_law_refused_right" (defScope sLwRefusedRight) f (.ref cd) A outer s H E).nox Az oz sz Hz Ez (rowS 5) fz c2) (x := "arc_bars") AB.ok (hr2.mono (by decide)) rfl AB.g AB.kp AB.b .nil (passes_call (takes_of rfl rfl rfl rfl) (fun _ _ _ _ h => h)) (pa_cons (pv 1) (pa_cons (pv 3) (pa_cons (pv 3) pa_nil))))⟩
  | 6, _ => ⟨lamS_by (sc := defScope sLwRefusedRight) (scope := rowS 6) (by decide +kernel), fun _ _ _ _ _ => rfl, fun Az oz sz Hz Ez fz c2 hr2 => (pe_call (X := lamCx (cxOf CX0 P w K mg base nRR "_law_refused_right" (defScope sLwRefusedRight) f (.ref cd) A outer s H E).nox Az oz sz Hz Ez (rowS 6) fz c2) (x := "arc_bars") AB.ok (hr2.mono (by decide)) rfl AB.g AB.kp AB.b .nil (passes_call (takes_of rfl rfl rfl rfl) (fun _ _ _ _ h => h)) (pa_cons (pv 1) (pa_cons pe_int (pa_cons pe_int pa_nil))))⟩
  | 7, _ => ⟨lamS_by (sc := defScope sLwRefusedRight) (scope := rowS 7) (by decide +kernel), fun _ _ _ _ _ => rfl, fun Az oz sz Hz Ez fz c2 hr2 => (pe_call (X := lamCx (cxOf CX0 P w K mg base nRR "_law_refused_right" (defScope sLwRefusedRight) f (.ref cd) A outer s H E).nox Az oz sz Hz Ez (rowS 7) fz c2) (x := "arc_range") AG.ok (hr2.mono (by decide)) rfl AG.g AG.kp AG.b .nil (passes_call (takes_of rfl rfl rfl rfl) (fun _ _ _ _ h => h)) (pa_cons (pv 4) (pa_cons (pv 3) (pa_cons (pv 3) pa_nil))))⟩
  | 8, _ => ⟨lamS_by (sc := defScope sLwRefusedRight) (scope := rowS 8) (by decide +kernel), fun _ _ _ _ _ => rfl, fun Az oz sz Hz Ez fz c2 hr2 => (pe_call (X := lamCx (cxOf CX0 P w K mg base nRR "_law_refused_right" (defScope sLwRefusedRight) f (.ref cd) A outer s H E).nox Az oz sz Hz Ez (rowS 8) fz c2) (x := "arc_range") AG.ok (hr2.mono (by decide)) rfl AG.g AG.kp AG.b .nil (passes_call (takes_of rfl rfl rfl rfl) (fun _ _ _ _ h => h)) (pa_cons (pv 2) (pa_cons (pv 3) (pa_cons pe_int pa_nil))))⟩
  | 9, _ => ⟨lamS_by (sc := defScope sLwRefusedRight) (scope := rowS 9) (by decide +kernel), fun _ _ _ _ _ => rfl, fun Az oz sz Hz Ez fz c2 hr2 => (pe_call (X := lamCx (cxOf CX0 P w K mg base nRR "_law_refused_right" (defScope sLwRefusedRight) f (.ref cd) A outer s H E).nox Az oz sz Hz Ez (rowS 9) fz c2) (x := "arc_range") AG.ok (hr2.mono (by decide)) rfl AG.g AG.kp AG.b .nil (passes_call (takes_of rfl rfl rfl rfl) (fun _ _ _ _ h => h)) (pa_cons (pv 2) (pa_cons pe_int (pa_cons (pv 3) pa_nil))))⟩
  | 10, _ => ⟨lamS_by (sc := defScope sLwRefusedRight) (scope := rowS 10) (by decide +kernel), fun _ _ _ _ _ => rfl, fun Az oz sz Hz Ez fz c2 hr2 => (pe_call (X := lamCx (cxOf CX0 P w K mg base nRR "_law_refused_right" (defScope sLwRefusedRight) f (.ref cd) A outer s H E).nox Az oz sz Hz Ez (rowS 10) fz c2) (x := "arc_range") AG.ok (hr2.mono (by decide)) rfl AG.g AG.kp AG.b .nil (passes_call (takes_of rfl rfl rfl rfl) (fun _ _ _ _ h => h)) (pa_cons (pv 2) (pa_cons (pv 3) (pa_cons (pe_un un_neg pe_int) pa_nil))))⟩
  | 11, _ => ⟨lamS_by (sc := defScope sLwRefusedRight) (scope := rowS 11) (by decide +kernel), fun _ _ _ _ _ => rfl, fun Az oz sz Hz Ez fz c2 hr2 => (pe_call (X := lamCx (cxOf CX0 P w K mg base nRR "_law_refused_right" (defScope sLwRefusedRight) f (.ref cd) A outer s H E).nox Az oz sz Hz Ez (rowS 11) fz c2) (x := "arc_range") AG.ok (hr2.mono (by decide)) rfl AG.g AG.kp AG.b .nil (passes_call (takes_of rfl rfl rfl rfl) (fun _ _ _ _ h => h)) (pa_cons (pv 2) (pa_cons pe_int (pa_cons pe_int pa_nil))))⟩
  | n + 12, h => absurd h (by omega)
end
end K
namespace K
open PySem L2 Rg LamX NdefX
open Evl (pss_cut)
/-! ### what is told wrongly -/
/-- no corner of m, with what it is as data -/
def NoV (p : Addr) (m : Int) (H : Hp) (v : V) (d : PyData) : Prop := (∃ z : Int, v = .int z ∧ d = .int z ∧ ¬ (0 ≤ z ∧ z < m)) ∨ (v = .non ∧ d = .none) ∨ (v = .bl true ∧ d = .bool true) ∨ (v = .str "0" ∧ d = .str "0") ∨ ∃ a, v = .ref a ∧ a ≠ p ∧ H a = some (.lst [.int 0]) ∧ d = .list [.int 0]
/-- of no kind that is a Ring -/
def OddV (p : Addr) (H : Hp) (v : V) : Prop := v = .non ∨ v = .int 5 ∨ (∃ z, v = .str z) ∨ ∃ (a : Addr) (xs : List V), v = .ref a ∧ a ≠ p ∧ (H a = some (.lst xs) ∨ H a = some (.tup xs))
/-- no number of bars -/
def SizV (p : Addr) (H : Hp) (v : V) : Prop := (∃ z : Int, v = .int z ∧ ¬ (3 ≤ z ∧ z ≤ 8)) ∨ v = .non ∨ v = .bl true ∨ (∃ z, v = .str z) ∨ ∃ (a : Addr) (xs : List V), v = .ref a ∧ a ≠ p ∧ H a = some (.lst xs)
/-- an item of a list -/
def ItK (p : Addr) (H : Hp) (x : V) (k : String) : Prop := (∃ i, x = .int i ∧ k = "int") ∨ (x = .non ∧ k = "NoneType") ∨ (x = .bl true ∧ k = "bool") ∨ ∃ (a : Addr) (xs : List V), x = .ref a ∧ a ≠ p ∧ H a = some (.lst xs) ∧ k = "list"
/-- no lengths of an arm -/
def BadA (p : Addr) (H : Hp) (v : V) : Prop := v = .non ∨ v = .int 5 ∨ (∃ z, v = .str z) ∨ (∃ a, v = .ref a ∧ H a = some (.dK [])) ∨
  ∃ (a : Addr) (xs : List V) (kf : V → String), v = .ref a ∧ a ≠ p ∧ (H a = some (.lst xs) ∨ H a = some (.tup xs)) ∧ xs.length ≤ 1000 ∧ (∀ x ∈ xs, ItK p H x (kf x)) ∧ ((xs.all fun x => posB (kf x) x) = false ∨ ¬ (1 ≤ xs.length ∧ xs.length ≤ 20))
structure KitT (K : PySem.W.Frag) (C : Addr) : Prop where
  kN : PySem.W.kitOne K (.type "NoneType") (.ref C) = some false
  kI : PySem.W.kitOne K (.type "int") (.ref C) = some false
  kS : PySem.W.kitOne K (.type "str") (.ref C) = some false
  kL : PySem.W.kitOne K (.type "list") (.ref C) = some false
  kT : PySem.W.kitOne K (.type "tuple") (.ref C) = some false
/-- all but the pen and the tables stands -/
def Kp (p : Addr) (H H' : Hp) : Prop := ∀ b o, H b = some o → b ≠ p → (∀ ps, o ≠ .tbl ps) → H' b = some o
theorem Kp.of {p : Addr} {H H' : Hp} (s : ExtN H H') : Kp p H H' := fun b o h _ t => s b o h t
theorem Kp.but {p : Addr} {H H' : Hp} (s : But p H H') : Kp p H H' := fun b o h n _ => s b o n h
theorem Kp.trans {p : Addr} {H H1 H2 : Hp} (a : Kp p H H1) (s : Kp p H1 H2) : Kp p H H2 := fun b o q n t => s b o (a b o q n t) n t
theorem Kp.lst {p a : Addr} {H H' : Hp} {us : List V} (k : Kp p H H') (n : a ≠ p) (h : H a = some (.lst us)) : H' a = some (.lst us) := k _ _ h n (fun _ z => nomatch z)
theorem Kp.tup {p a : Addr} {H H' : Hp} {us : List V} (k : Kp p H H') (n : a ≠ p) (h : H a = some (.tup us)) : H' a = some (.tup us) := k _ _ h n (fun _ z => nomatch z)
section
variable {K : PySem.W.Frag} {p : Addr} {px : List V} {H H' : Hp} {v : V}
theorem NoV.kp {m : Int} {d : PyData} (h : NoV p m H v d) (k : Kp p H H') : NoV p m H' v d :=
  h.imp_right fun h => h.imp_right fun h => h.imp_right fun h => h.imp_right fun ⟨a, e, n, z, q⟩ => ⟨a, e, n, k.lst n z, q⟩
theorem OddV.kp (h : OddV p H v) (k : Kp p H H') : OddV p H' v :=
  h.imp_right fun h => h.imp_right fun h => h.imp_right fun ⟨a, xs, e, n, z⟩ => ⟨a, xs, e, n, z.imp (k.lst n) (k.tup n)⟩
theorem SizV.kp (h : SizV p H v) (k : Kp p H H') : SizV p H' v :=
  h.imp_right fun h => h.imp_right fun h => h.imp_right fun h => h.imp_right fun ⟨a, xs, e, n, z⟩ => ⟨a, xs, e, n, k.lst n z⟩
theorem ItK.kp {k : String} (h : ItK p H v k) (s : Kp p H H') : ItK p H' v k :=
  h.imp_right fun h => h.imp_right fun h => h.imp_right fun ⟨a, xs, e, n, z, q⟩ => ⟨a, xs, e, n, s.lst n z, q⟩
theorem BadA.kp (h : BadA p H v) (s : Kp p H H') (hp : H p = some (.lst px)) : BadA p H' v :=
  h.imp_right fun h => h.imp_right fun h => h.imp_right fun h => h.imp (fun ⟨a, e, z⟩ => ⟨a, e, s _ _ z (fun q => by rw [q, hp] at z; cases z) (fun _ q => nomatch q)⟩)
    fun ⟨a, xs, kf, e, n, z, l, it, q⟩ => ⟨a, xs, kf, e, n, z.imp (s.lst n) (s.tup n), l, fun x hx => (it x hx).kp s, q⟩
theorem kndI_no {k : String} (h : Knd K H v k) (n : k ≠ "int") : KndI K H v k := ⟨h, fun z => absurd z n⟩
theorem NoV.bad {m : Int} {d : PyData} (h : NoV p m H v d) : ∃ k, KndI K H v k ∧ winB k 0 (m - 1) v = false := by
  rcases h with ⟨z, rfl, _, n⟩ | ⟨rfl, _⟩ | ⟨rfl, _⟩ | ⟨rfl, _⟩ | ⟨a, rfl, _, z, _⟩
  · refine ⟨"int", KndI.int, ?_⟩
    rw [winB_int]
    by_cases c : 0 ≤ z
    · rw [decide_eq_true c, decide_eq_false (show ¬ z ≤ m - 1 by omega)]; rfl
    · rw [decide_eq_false c]; rfl
  · exact ⟨"NoneType", kndI_no ⟨.base .non, by decide⟩ (by decide), rfl⟩
  · exact ⟨"bool", kndI_no ⟨.base (.bl true), by decide⟩ (by decide), rfl⟩
  · exact ⟨"str", kndI_no ⟨.base (.str _), by decide⟩ (by decide), rfl⟩
  · exact ⟨"list", kndI_no ⟨.base (.lst z), by decide⟩ (by decide), rfl⟩
theorem SizV.bad (h : SizV p H v) : ∃ k, KndI K H v k ∧ winB k 3 8 v = false := by
  rcases h with ⟨z, rfl, n⟩ | rfl | rfl | ⟨z, rfl⟩ | ⟨a, xs, rfl, _, z⟩
  · refine ⟨"int", KndI.int, ?_⟩
    rw [winB_int]
    by_cases c : 3 ≤ z
    · rw [decide_eq_true c, decide_eq_false (show ¬ z ≤ 8 by omega)]; rfl
    · rw [decide_eq_false c]; rfl
  · exact ⟨"NoneType", kndI_no ⟨.base .non, by decide⟩ (by decide), rfl⟩
  · exact ⟨"bool", kndI_no ⟨.base (.bl true), by decide⟩ (by decide), rfl⟩
  · exact ⟨"str", kndI_no ⟨.base (.str _), by decide⟩ (by decide), rfl⟩
  · exact ⟨"list", kndI_no ⟨.base (.lst z), by decide⟩ (by decide), rfl⟩
theorem OddV.no {C : Addr} (G : KitT K C) (h : OddV p H v) : NoR K C H v := by
  rcases h with rfl | rfl | ⟨z, rfl⟩ | ⟨a, xs, rfl, _, h | h⟩
  · exact ⟨_, .base .non, G.kN⟩
  · exact ⟨_, .base (.int _), G.kI⟩
  · exact ⟨_, .base (.str _), G.kS⟩
  · exact ⟨_, .base (.lst h), G.kL⟩
  · exact ⟨_, .base (.tup h), G.kT⟩
theorem ItK.knd {k : String} (h : ItK p H v k) : KndI K H v k := by
  rcases h with ⟨i, rfl, rfl⟩ | ⟨rfl, rfl⟩ | ⟨rfl, rfl⟩ | ⟨a, xs, rfl, _, z, rfl⟩
  · exact KndI.int
  · exact kndI_no ⟨.base .non, by decide⟩ (by decide)
  · exact kndI_no ⟨.base (.bl true), by decide⟩ (by decide)
  · exact kndI_no ⟨.base (.lst z), by decide⟩ (by decide)
theorem BadA.bad (h : BadA p H v) : ∃ r, PosV K H v r ∧ (posR r = false ∨ ∃ xs kf, r = some (xs, kf) ∧ posR r = true ∧ ¬ (1 ≤ xs.length ∧ xs.length ≤ 20)) := by
  rcases h with rfl | rfl | ⟨z, rfl⟩ | ⟨a, rfl, z⟩ | ⟨a, xs, kf, rfl, _, z, l, it, q⟩
  · exact ⟨none, ⟨"NoneType", ⟨.base .non, by decide⟩, by decide, by decide⟩, .inl rfl⟩
  · exact ⟨none, ⟨"int", ⟨.base (.int _), by decide⟩, by decide, by decide⟩, .inl rfl⟩
  · exact ⟨none, ⟨"str", ⟨.base (.str _), by decide⟩, by decide, by decide⟩, .inl rfl⟩
  · exact ⟨none, ⟨"dict", ⟨.base (.dK z), by decide⟩, by decide, by decide⟩, .inl rfl⟩
  · refine ⟨some (xs, kf), ⟨a, rfl, z.imp (fun h => ⟨⟨.base (.lst h), by decide⟩, SqL.of h⟩) (fun h => ⟨⟨.base (.tup h), by decide⟩, .inl (.inl h)⟩), l, fun x hx => (it x hx).knd⟩, ?_⟩
    cases c : posR (some (xs, kf)) with
    | false => exact .inl rfl
    | true =>
      rcases q with q | q
      · have c : (xs.all fun x => posB (kf x) x) = true := c
        rw [q] at c
        cases c
      · exact .inr ⟨xs, kf, rfl, rfl, q⟩
/-- ('corner', no) is itself -/
theorem NoV.data {m : Int} {d : PyData} (h : NoV p m H v d) : Dp K H v d ∧ SeqAt.shaped (.tuple [.str "corner", d]) = true ∧ PyData.eqv (.tuple [.str "corner", d]) (.tuple [.str "corner", d]) = true := by
  rcases h with ⟨z, rfl, rfl, n⟩ | ⟨rfl, rfl⟩ | ⟨rfl, rfl⟩ | ⟨rfl, rfl⟩ | ⟨a, rfl, _, z, rfl⟩
  · refine ⟨.int _, by simp [SeqAt.shaped, PyData.canLay0, PyData.canLayAll0, PyData.depth, PyData.depthAll]; decide +kernel, by simp [PyData.eqv, PyData.eqvAll]⟩
  · exact ⟨.non, by decide +kernel, by decide +kernel⟩
  · exact ⟨.bl _, by decide +kernel, by decide +kernel⟩
  · exact ⟨.str _, by decide +kernel, by decide +kernel⟩
  · exact ⟨.lst (SqL.of z) (.cons (.int 0) .nil), by decide +kernel, by decide +kernel⟩
end
end K
namespace K
open PySem L2 Rg LamX NdefX
open Evl (pss_cut)
/-! ### what the rows are told -/
structure RowF (K : PySem.W.Frag) (C p : Addr) (m : Int) (r : Addr) (ls : List Int) (vN vO vS vB : V) (d : PyData) (H : Hp) : Prop where
  m0 : 3 ≤ m
  m1 : m ≤ 8
  ring : RingAt K C H r ls
  len : (ls.length : Int) = m
  bd : Bd 1000000 ls
  no : NoV p m H vN d
  odd : OddV p H vO
  siz : SizV p H vS
  bad : BadA p H vB
/-- what a row is due -/
def dueR (vN : V) : Nat → Option (Str × V)
  | 0 => some ("number", .str "lengths")
  | 1 => none
  | 2 => some ("number", .str "many")
  | 3 => some ("corner", vN)
  | 4 => some ("corner", vN)
  | 5 => some ("corner", vN)
  | 6 => some ("twice", .int 2)
  | 7 => some ("ring", .str "ring")
  | 8 => some ("corner", vN)
  | 9 => some ("corner", vN)
  | 10 => some ("corner", vN)
  | _ => some ("twice", .int 1)
def DueQ (vN : V) (j : Nat) (H : Hp) (Q : VK) : Prop := match dueR vN j with
  | none => ∀ H2, ExtN H H2 → Q .non H2
  | some (tag, v) => ∀ q H2, ExtN H H2 → H2 q = some (.tup [.str tag, v]) → Q (.ref q) H2
theorem told_of {c : Hs} {Q : VK} {H : Hp} {C : Addr} {n tag : Str} {v : V} (t : HTells c C n tag) (h : ∀ q H2, ExtN H H2 → H2 q = some (.tup [.str tag, v]) → Q (.ref q) H2) : Errs (Told c Q) C n v H :=
  fun d H' s _ hd => ⟨C, d, n, tag, v, rfl, rfl, hd, t, fun p H2 s2 h2 => h p H2 (fun b o e _ => s2 b o (s b o e)) h2⟩
theorem row_reads {K : PySem.W.Frag} {C p r : Addr} {hc : Hs} {m : Int} {ls : List Int} {vN vO vS vB : V} {d : PyData} {H : Hp} {σ : L2.St} {Q : VK} (F : RowF K C p m r ls vN vO vS vB d H) (G : KitT K C)
    (h1 : σ[1]? = some (some (.int m))) (h2 : σ[2]? = some (some (.ref r))) (h3 : σ[3]? = some (some vN)) (h4 : σ[4]? = some (some vO)) (h5 : σ[5]? = some (some vS)) (h6 : σ[6]? = some (some vB)) :
    ∀ j, j < 12 → DueQ vN j H Q → THeard hc (fun E H' Q' => H' = H ∧ rowT K C hc j E σ H' Q') H Q := by
  intro j hj hQ R hR
  refine ⟨rfl, ?_⟩
  obtain ⟨m0, m1, ring, len, bd, no, odd, siz, bad⟩ := F
  obtain ⟨kn, n1, n2⟩ := no.bad (K := K)
  match j, hj with
  | 0, _ =>
    obtain ⟨r, q1, q2⟩ := bad.bad (K := K)
    exact ⟨vB, h6, vB, rfl, .inl ⟨r, q1, q2, told_of .b hQ⟩⟩
  | 1, _ =>
    refine ⟨by decide, fun p0 n0 => ⟨p0, 20, [.int 1], rfl, rfl, by simp [upd], by decide, by decide, by decide, fun q n1 => ⟨.ref q, rfl, .inr ⟨q, List.replicate 20 1, rfl, .inl (by simp [upd]), by decide, by decide, by decide, fun p2 H3 s _ _ => hR _ H3 fun H4 s4 => hQ H4 fun b o e _ => ?_⟩⟩⟩⟩
    have e0 : b ≠ p0 := fun z => by rw [z, n0] at e; cases e
    have e1 : upd H p0 (.lst [.int 1]) b = some o := by simp [upd, e0]; exact e
    have e2 : b ≠ q := fun z => by rw [z, n1] at e1; cases e1
    exact s4 _ _ (s _ _ (by simp only [upd, e2, if_false]; exact e1))
  | 2, _ =>
    obtain ⟨k, q1, q2⟩ := siz.bad (K := K)
    exact ⟨vS, h5, vN, h3, vN, h3, vS, vN, vN, rfl, .inl ⟨k, q1, q2, told_of .b hQ⟩⟩
  | 3, _ => exact ⟨.int m, h1, vN, h3, .int m, vN, .non, rfl, .inr ⟨m, rfl, m0, m1, .inl ⟨kn, n1, n2, told_of .n hQ⟩⟩⟩
  | 4, _ => exact ⟨.int m, h1, vN, h3, .int m, .int 0, vN, rfl, .inr ⟨m, rfl, m0, m1, .inr ⟨0, rfl, by omega, by omega, .inl ⟨kn, n1, n2, told_of .n hQ⟩⟩⟩⟩
  | 5, _ => exact ⟨.int m, h1, vN, h3, vN, h3, .int m, vN, vN, rfl, .inr ⟨m, rfl, m0, m1, .inl ⟨kn, n1, n2, told_of .n hQ⟩⟩⟩
  | 6, _ => exact ⟨.int m, h1, .int m, .int 2, .int 2, rfl, .inr ⟨m, rfl, m0, m1, .inr ⟨2, rfl, by omega, by omega, .inr ⟨2, rfl, by omega, by omega, .inl ⟨rfl, told_of .t hQ⟩⟩⟩⟩⟩
  | 7, _ => exact ⟨vO, h4, vN, h3, vN, h3, vO, vN, vN, rfl, .inl ⟨odd.no G, told_of .r hQ⟩⟩
  | 8, _ => exact ⟨.ref r, h2, vN, h3, .ref r, vN, .int 0, rfl, .inr ⟨r, ls, rfl, ring, by omega, by omega, bd, .inl ⟨kn, n1, by rw [len]; exact n2, told_of .n hQ⟩⟩⟩
  | 9, _ => exact ⟨.ref r, h2, vN, h3, .ref r, .int 1, vN, rfl, .inr ⟨r, ls, rfl, ring, by omega, by omega, bd, .inr ⟨1, rfl, by omega, by omega, .inl ⟨kn, n1, by rw [len]; exact n2, told_of .n hQ⟩⟩⟩⟩
  | 10, _ => exact ⟨.ref r, h2, vN, h3, 7, rfl, .ref r, vN, .int (-7), rfl, .inr ⟨r, ls, rfl, ring, by omega, by omega, bd, .inl ⟨kn, n1, by rw [len]; exact n2, told_of .n hQ⟩⟩⟩
  | 11, _ => exact ⟨.ref r, h2, .ref r, .int 1, .int 1, rfl, .inr ⟨r, ls, rfl, ring, by omega, by omega, bd, .inr ⟨1, rfl, by omega, by omega, .inr ⟨1, rfl, by omega, by omega, .inl ⟨rfl, told_of .t hQ⟩⟩⟩⟩⟩
  | n + 12, h => exact absurd h (by omega)
end K
namespace K
open PySem L2 Rg LamX NdefX
open Evl (pss_cut)
section
variable {K : PySem.W.Frag}
/-- what a row holds as due -/
def DueAt (vN : V) (j : Nat) (H : Hp) (w : V) : Prop := match dueR vN j with
  | none => w = .non
  | some (tag, v) => ∃ q, w = .ref q ∧ H q = some (.tup [.str tag, v])
theorem DueAt.ext {vN w : V} {j : Nat} {H H' : Hp} (h : DueAt vN j H w) (s : ExtN H H') : DueAt vN j H' w := by
  unfold DueAt at h ⊢
  generalize dueR vN j = x at h ⊢
  cases x with
  | none => exact h
  | some x => exact let ⟨q, e, z⟩ := h; ⟨q, e, s _ _ z fun _ y => nomatch y⟩
theorem ne_pair {tag : Str} {v : V} {d : PyData} {q q' : Addr} {H : Hp} {Q : VK} (h1 : H q = some (.tup [.str tag, v])) (h2 : H q' = some (.tup [.str tag, v])) (hd : Dp K H v d) (sh : SeqAt.shaped (.tuple [.str tag, d]) = true) (eq : PyData.eqv (.tuple [.str tag, d]) (.tuple [.str tag, d]) = true) (hQ : Q (.bl false) H) : rNeD K (.ref q) (.ref q') H Q :=
  ⟨_, _, .tup (SqT.of h1) (.cons (.str _) (.cons hd .nil)), .tup (SqT.of h2) (.cons (.str _) (.cons hd .nil)), sh, sh, by rw [eq]; exact hQ⟩
theorem non_ne {H : Hp} {Q : VK} (hQ : Q (.bl false) H) : rNeD K .non .non H Q := ⟨_, _, .non, .non, by decide +kernel, by decide +kernel, hQ⟩
theorem due_pair {tag : Str} {v w : V} {d : PyData} {H : Hp} {Q : VK} (h : ∃ q, w = .ref q ∧ H q = some (.tup [.str tag, v])) (hd : ∀ H2, ExtN H H2 → Dp K H2 v d) (sh : SeqAt.shaped (.tuple [.str tag, d]) = true) (eq : PyData.eqv (.tuple [.str tag, d]) (.tuple [.str tag, d]) = true) (hQ : ∀ H2, ExtN H H2 → Q (.bl false) H2) :
    ∀ q H2, ExtN H H2 → H2 q = some (.tup [.str tag, v]) → rNeD K (.ref q) w H2 Q := by
  intro q H2 s hq
  obtain ⟨q', rfl, z⟩ := h
  exact ne_pair hq (s _ _ z fun _ y => nomatch y) (hd _ s) sh eq (hQ _ s)
/-- what a row tells is its due -/
theorem due_ok {p : Addr} {m : Int} {vN w : V} {d : PyData} {H : Hp} {Q : VK} (hN : NoV p m H vN d) (hQ : ∀ H2, ExtN H H2 → Q (.bl false) H2) : ∀ j, j < 12 → DueAt vN j H w → DueQ vN j H (fun x H2 => rNeD K x w H2 Q)
  | 0, _, h => due_pair h (fun _ _ => .str _) (by decide +kernel) (by decide +kernel) hQ
  | 1, _, h => fun H2 s => by
    obtain rfl : w = .non := h
    exact non_ne (hQ _ s)
  | 2, _, h => due_pair h (fun _ _ => .str _) (by decide +kernel) (by decide +kernel) hQ
  | 3, _, h => due_pair h (fun _ s => (hN.kp (Kp.of s)).data.1) (hN.data (K := K)).2.1 (hN.data (K := K)).2.2 hQ
  | 4, _, h => due_pair h (fun _ s => (hN.kp (Kp.of s)).data.1) (hN.data (K := K)).2.1 (hN.data (K := K)).2.2 hQ
  | 5, _, h => due_pair h (fun _ s => (hN.kp (Kp.of s)).data.1) (hN.data (K := K)).2.1 (hN.data (K := K)).2.2 hQ
  | 6, _, h => due_pair h (fun _ _ => .int _) (by decide +kernel) (by decide +kernel) hQ
  | 7, _, h => due_pair h (fun _ _ => .str _) (by decide +kernel) (by decide +kernel) hQ
  | 8, _, h => due_pair h (fun _ s => (hN.kp (Kp.of s)).data.1) (hN.data (K := K)).2.1 (hN.data (K := K)).2.2 hQ
  | 9, _, h => due_pair h (fun _ s => (hN.kp (Kp.of s)).data.1) (hN.data (K := K)).2.1 (hN.data (K := K)).2.2 hQ
  | 10, _, h => due_pair h (fun _ s => (hN.kp (Kp.of s)).data.1) (hN.data (K := K)).2.1 (hN.data (K := K)).2.2 hQ
  | 11, _, h => due_pair h (fun _ _ => .int _) (by decide +kernel) (by decide +kernel) hQ
  | n + 12, h, _ => absurd h (by omega)
theorem RingAt.ext {C : Addr} {H H' : Hp} {r : Addr} {ls : List Int} (h : RingAt K C H r ls) (s : ExtN H H') : RingAt K C H' r ls := by
  obtain ⟨dx, t, h1, h2, o, h3, h4⟩ := h
  have z1 := s _ _ h1 (fun _ y => nomatch y)
  have z3 := s _ _ h3 (fun _ y => nomatch y)
  exact ⟨dx, t, z1, .inl (.inr ⟨o, z3⟩), o, z3, h4⟩
theorem RowF.ext {C p r : Addr} {m : Int} {ls : List Int} {vN vO vS vB : V} {d : PyData} {H H' : Hp} {px : List V} (F : RowF K C p m r ls vN vO vS vB d H) (s : ExtN H H') (hp : H p = some (.lst px)) : RowF K C p m r ls vN vO vS vB d H' :=
  ⟨F.m0, F.m1, F.ring.ext s, F.len, F.bd, F.no.kp (Kp.of s), F.odd.kp (Kp.of s), F.siz.kp (Kp.of s), F.bad.kp (Kp.of s) hp⟩
end
end K
namespace K
open PySem L2 Rg LamX NdefX
section
variable {p : Addr} {H : Hp}
/-! ### what the picks give -/
theorem pick_no {m z1 z2 : Int} {a : Addr} {v : V} {i : Nat} (m0 : 3 ≤ m) (m1 : m ≤ 8) (hz : 8 < z1) (hz2 : z2 = m + 3) (n : a ≠ p) (h : H a = some (.lst [.int 0])) (e : ([.int m, .int (-1), .non, .bl true, .str "0", .ref a, .int z1, .int z2] : List V)[i]? = some v) : ∃ d, NoV p m H v d := by
  have e := List.mem_of_getElem? e
  simp only [List.mem_cons, List.not_mem_nil, or_false] at e
  rcases e with rfl | rfl | rfl | rfl | rfl | rfl | rfl | rfl
  · exact ⟨_, .inl ⟨_, rfl, rfl, by omega⟩⟩
  · exact ⟨_, .inl ⟨_, rfl, rfl, by omega⟩⟩
  · exact ⟨_, .inr (.inl ⟨rfl, rfl⟩)⟩
  · exact ⟨_, .inr (.inr (.inl ⟨rfl, rfl⟩))⟩
  · exact ⟨_, .inr (.inr (.inr (.inl ⟨rfl, rfl⟩)))⟩
  · exact ⟨_, .inr (.inr (.inr (.inr ⟨_, rfl, n, h, rfl⟩)))⟩
  · exact ⟨_, .inl ⟨_, rfl, rfl, by omega⟩⟩
  · exact ⟨_, .inl ⟨_, rfl, rfl, by omega⟩⟩
theorem pick_odd {a b : Addr} {xs ys : List V} {v : V} {i : Nat} (n : a ≠ p) (h : H a = some (.lst xs)) (n2 : b ≠ p) (h2 : H b = some (.tup ys)) (e : ([.non, .int 5, .str "1 1 1", .ref a, .ref b] : List V)[i]? = some v) : OddV p H v := by
  have e := List.mem_of_getElem? e
  simp only [List.mem_cons, List.not_mem_nil, or_false] at e
  rcases e with rfl | rfl | rfl | rfl | rfl
  · exact .inl rfl
  · exact .inr (.inl rfl)
  · exact .inr (.inr (.inl ⟨_, rfl⟩))
  · exact .inr (.inr (.inr ⟨_, _, rfl, n, .inl h⟩))
  · exact .inr (.inr (.inr ⟨_, _, rfl, n2, .inr h2⟩))
theorem pick_siz {a : Addr} {xs : List V} {z : Int} {v : V} {i : Nat} (hz : 8 < z) (n : a ≠ p) (h : H a = some (.lst xs)) (e : ([.int 2, .int 9, .int 0, .non, .bl true, .str "5", .int (-3), .ref a, .int z] : List V)[i]? = some v) : SizV p H v := by
  have e := List.mem_of_getElem? e
  simp only [List.mem_cons, List.not_mem_nil, or_false] at e
  rcases e with rfl | rfl | rfl | rfl | rfl | rfl | rfl | rfl | rfl
  · exact .inl ⟨_, rfl, by omega⟩
  · exact .inl ⟨_, rfl, by omega⟩
  · exact .inl ⟨_, rfl, by omega⟩
  · exact .inr (.inl rfl)
  · exact .inr (.inr (.inl rfl))
  · exact .inr (.inr (.inr (.inl ⟨_, rfl⟩)))
  · exact .inl ⟨_, rfl, by omega⟩
  · exact .inr (.inr (.inr (.inr ⟨_, _, rfl, n, h⟩)))
  · exact .inl ⟨_, rfl, by omega⟩
def kfV : V → String
  | .int _ => "int"
  | .non => "NoneType"
  | .bl _ => "bool"
  | _ => "list"
theorem bad_lst {a : Addr} {xs : List V} (n : a ≠ p) (h : H a = some (.lst xs) ∨ H a = some (.tup xs)) (l : xs.length ≤ 1000) (it : ∀ x ∈ xs, ItK p H x (kfV x)) (q : (xs.all fun x => posB (kfV x) x) = false ∨ ¬ (1 ≤ xs.length ∧ xs.length ≤ 20)) : BadA p H (.ref a) :=
  .inr (.inr (.inr (.inr ⟨_, _, kfV, rfl, n, h, l, it, q⟩)))
theorem itK_int {i : Int} : ItK p H (.int i) (kfV (.int i)) := .inl ⟨_, rfl, rfl⟩
theorem pick_bad {a1 a2 a3 a4 a5 a6 a7 a8 a9 a10 a11 : Addr} {v : V} {i : Nat} (n1 : a1 ≠ p) (h1 : H a1 = some (.lst [])) (n2 : a2 ≠ p) (h2 : H a2 = some (.tup [])) (n3 : a3 ≠ p) (h3 : H a3 = some (.lst [.int 0])) (n4 : a4 ≠ p) (h4 : H a4 = some (.lst [.int 1, .int (-1)])) (n5 : a5 ≠ p) (h5 : H a5 = some (.lst [.bl true]))
    (n6 : a6 ≠ p) (h6 : H a6 = some (.lst (List.replicate 21 (.int 1)))) (n7 : a7 ≠ p) (h7 : H a7 = some (.lst [.int 1, .non])) (h8 : H a8 = some (.dK [])) (n9 : a9 ≠ p) (h9 : H a9 = some (.lst [.ref a10])) (n10 : a10 ≠ p) (h10 : H a10 = some (.lst [.int 1])) (n11 : a11 ≠ p) (h11 : H a11 = some (.lst [.int 1, .int 2, .int 0]))
    (e : ([.non, .ref a1, .ref a2, .ref a3, .ref a4, .ref a5, .str "12", .int 5, .ref a6, .ref a7, .ref a8, .ref a9, .ref a11] : List V)[i]? = some v) : BadA p H v := by
  have e := List.mem_of_getElem? e
  simp only [List.mem_cons, List.not_mem_nil, or_false] at e
  rcases e with rfl | rfl | rfl | rfl | rfl | rfl | rfl | rfl | rfl | rfl | rfl | rfl | rfl
  · exact .inl rfl
  · exact bad_lst n1 (.inl h1) (by decide) (fun _ z => nomatch z) (.inr (by decide))
  · exact bad_lst n2 (.inr h2) (by decide) (fun _ z => nomatch z) (.inr (by decide))
  · exact bad_lst n3 (.inl h3) (by decide) (List.forall_mem_cons.mpr ⟨itK_int, fun _ z => nomatch z⟩) (.inl rfl)
  · exact bad_lst n4 (.inl h4) (by decide) (List.forall_mem_cons.mpr ⟨itK_int, List.forall_mem_cons.mpr ⟨itK_int, fun _ z => nomatch z⟩⟩) (.inl rfl)
  · exact bad_lst n5 (.inl h5) (by decide) (List.forall_mem_cons.mpr ⟨.inr (.inr (.inl ⟨rfl, rfl⟩)), fun _ z => nomatch z⟩) (.inl rfl)
  · exact .inr (.inr (.inl ⟨_, rfl⟩))
  · exact .inr (.inl rfl)
  · exact bad_lst n6 (.inl h6) (by decide) (fun x z => by rw [(List.mem_replicate.mp z).2]; exact itK_int) (.inr (by decide))
  · exact bad_lst n7 (.inl h7) (by decide) (List.forall_mem_cons.mpr ⟨itK_int, List.forall_mem_cons.mpr ⟨.inr (.inl ⟨rfl, rfl⟩), fun _ z => nomatch z⟩⟩) (.inl rfl)
  · exact .inr (.inr (.inr (.inl ⟨_, rfl, h8⟩)))
  · exact bad_lst n9 (.inl h9) (Nat.le_of_ble_eq_true rfl) (List.forall_mem_cons.mpr ⟨.inr (.inr (.inr ⟨_, _, rfl, n10, h10, rfl⟩)), fun _ z => nomatch z⟩) (.inl rfl)
  · exact bad_lst n11 (.inl h11) (by decide) (List.forall_mem_cons.mpr ⟨itK_int, List.forall_mem_cons.mpr ⟨itK_int, List.forall_mem_cons.mpr ⟨itK_int, fun _ z => nomatch z⟩⟩⟩) (.inl rfl)
end
end K
namespace K
open PySem L2 Rg LamX NdefX
theorem extn_mut {H H' : Hp} {D : Addr} {o : HO} (e : ExtN H H') (n : H D = none) : ExtN H (upd H' D o) := fun b u h t => by
  rw [upd_ne (fun z => by rw [z, n] at h; cases h)]
  exact e b u h t
theorem tabS_but {h : Addr} {xs : List V} {H H' : Hp} {P : Addr} {q : Str} (t : TabS H P q) (b : But h H H') (hh : H h = some (.lst xs)) : TabS H' P q := by
  obtain ⟨ps, h1, h2, h3⟩ := t
  refine ⟨ps, b _ _ (fun e => ?_) h1, h2, fun pos cv hc => ?_⟩
  · rw [e, hh] at h1
    cases h1
  · obtain ⟨c, e1, e2⟩ := h3 pos cv hc
    refine ⟨c, e1, b _ _ (fun e => ?_) e2⟩
    rw [e, hh] at e2
    cases e2
theorem tabs_but {h : Addr} {xs : List V} {H H' : Hp} {T : List (Addr × Str)} (t : Tabs T H) (b : But h H H') (hh : H h = some (.lst xs)) : Tabs T H' := fun p hp => tabS_but (t p hp) b hh
theorem tabs_mut {D : Addr} {us ws : List V} {H : Hp} {T : List (Addr × Str)} (t : Tabs T H) (hh : H D = some (.lst us)) : Tabs T (upd H D (.lst ws)) := tabs_but t (fun b o n e => by rw [upd_ne n]; exact e) hh
theorem RingAt.kp {K : PySem.W.Frag} {C p : Addr} {px : List V} {H H' : Hp} {r : Addr} {ls : List Int} (h : RingAt K C H r ls) (s : Kp p H H') (hp : H p = some (.lst px)) : RingAt K C H' r ls := by
  obtain ⟨dx, t, h1, h2, o, h3, h4⟩ := h
  have z1 := s _ _ h1 (fun z => by rw [z, hp] at h1; cases h1) (fun _ y => nomatch y)
  have z3 := s _ _ h3 (fun z => by rw [z, hp] at h3; cases h3) (fun _ y => nomatch y)
  exact ⟨dx, t, z1, .inl (.inr ⟨o, z3⟩), o, z3, h4⟩
theorem ones (m : Nat) : (List.replicate ((m : Nat) : Int).toNat [V.int 1]).flatten = (List.replicate m (1 : Int)).map V.int := by
  rw [Int.toNat_natCast, List.map_replicate]
  induction m with
  | zero => rfl
  | succ m ih => rw [List.replicate_succ, List.replicate_succ, List.flatten_cons, ih]; rfl
theorem par_app {α β : Type} {R : α → β → Prop} : ∀ {xs : List α} {ys : List β} {zs : List α} {ws : List β}, Paired R xs ys → Paired R zs ws → Paired R (xs ++ zs) (ys ++ ws)
  | _, _, _, _, .nil, q => q
  | _, _, _, _, .cons h t, q => .cons h (par_app t q)
theorem par_len {α β : Type} {R : α → β → Prop} : ∀ {xs : List α} {ys : List β}, Paired R xs ys → xs.length = ys.length
  | _, _, .nil => rfl
  | _, _, .cons _ t => congrArg (· + 1) (par_len t)
theorem par_get {α β : Type} {R : α → β → Prop} : ∀ {xs : List α} {ys : List β}, Paired R xs ys → ∀ {i : Nat} {x : α}, xs[i]? = some x → ∃ y, ys[i]? = some y ∧ R x y
  | _, _, .cons h t, 0, x, e => ⟨_, rfl, by cases e; exact h⟩
  | _, _, .cons h t, i + 1, x, e => par_get t (by simpa using e)

/-! ### the rows: a lambda and its due each -/
def RowQ (q : Str) (cells : List (Str × Addr)) (l : Nat → LamT) (vN : V) (H : Hp) (v : V) (j : Nat) : Prop := ∃ (b f c' : Addr) (w : V), v = .ref b ∧ H b = some (.tup [.ref f, w]) ∧ H f = some (LamC f q (l j).ar (l j).bo (l j).sco (cloFrom cells (l j).sco.names []) c') ∧ H c' = some (CodeO c' q) ∧ DueAt vN j H w
def RS (q : Str) (cells : List (Str × Addr)) (l : Nat → LamT) (vN : V) (D : Addr) (us : List V) (js : List Nat) (H : Hp) : Prop := H D = some (.lst us) ∧ Paired (RowQ q cells l vN H) us js
section
variable {q : Str} {cells : List (Str × Addr)} {l : Nat → LamT} {vN : V} {H H' : Hp} {v : V} {j : Nat}
theorem RowQ.ext (h : RowQ q cells l vN H v j) (s : ExtN H H') : RowQ q cells l vN H' v j := by
  obtain ⟨b, f, c', w, e, h1, h2, h3, h4⟩ := h
  exact ⟨b, f, c', w, e, s _ _ h1 (fun _ z => nomatch z), s _ _ h2 lamC_ne, s _ _ h3 codeO_ne, h4.ext s⟩
theorem DueAt.at {D : Addr} {us ws : List V} {w : V} (h : DueAt vN j H w) (hD : H D = some (.lst us)) : DueAt vN j (upd H D (.lst ws)) w := by
  unfold DueAt at h ⊢
  generalize dueR vN j = x at h ⊢
  cases x with
  | none => exact h
  | some x => exact let ⟨q, e, z⟩ := h; ⟨q, e, by rw [upd_ne fun y => by rw [y, hD] at z; cases z]; exact z⟩
theorem RowQ.at {D : Addr} {us ws : List V} (h : RowQ q cells l vN H v j) (hD : H D = some (.lst us)) : RowQ q cells l vN (upd H D (.lst ws)) v j := by
  obtain ⟨b, f, c', w, e, h1, h2, h3, h4⟩ := h
  refine ⟨b, f, c', w, e, ?_, ?_, ?_, h4.at hD⟩
  · rw [upd_ne fun y => by rw [y, hD] at h1; cases h1]
    exact h1
  · rw [upd_ne fun y => by rw [y, hD] at h2; cases h2]
    exact h2
  · rw [upd_ne fun y => by rw [y, hD] at h3; cases h3]
    exact h3
/-- one row more -/
theorem row_push {T : List (Addr × Str)} {MB G : Hp} {D b f c' : Addr} {us : List V} {js : List Nat} {w : V} (xG : ExtN MB G) (nD : MB D = none) (ts : RS q cells l vN D us js G) (x : ExtN G H) (t : Tabs T H)
    (hb : H b = some (.tup [.ref f, w])) (hf : H f = some (LamC f q (l j).ar (l j).bo (l j).sco (cloFrom cells (l j).sco.names []) c')) (hc : H c' = some (CodeO c' q)) (hw : DueAt vN j H w) :
    ExtN MB (upd H D (.lst (us ++ [.ref b]))) ∧ Tabs T (upd H D (.lst (us ++ [.ref b]))) ∧ RS q cells l vN D (us ++ [.ref b]) (js ++ [j]) (upd H D (.lst (us ++ [.ref b]))) := by
  have hD := x _ _ ts.1 (fun _ z => nomatch z)
  exact ⟨extn_mut (xG.trans x) nD, tabs_mut t hD, upd_same, par_app (par_imp (fun _ _ z => (z.ext x).at hD) ts.2) (.cons (RowQ.at ⟨b, f, c', w, rfl, hb, hf, hc, hw⟩ hD) .nil)⟩
end
theorem DueQ.mono {vN : V} {j : Nat} {H : Hp} {Q Q' : VK} (m : ∀ v H, Q v H → Q' v H) (h : DueQ vN j H Q) : DueQ vN j H Q' := by
  unfold DueQ at h ⊢
  generalize dueR vN j = x at h ⊢
  cases x with
  | none => exact fun H2 s => m _ _ (h H2 s)
  | some x => exact fun q H2 s z => m _ _ (h q H2 s z)
end K
namespace K
open PySem L2 Rg LamX NdefX
open Evl (pss_cut)
section
variable {P : Program} {w : World} {K : PySem.W.Frag} {mg : Str → Option Value} {base : Heap}
abbrev cellsOf (A : Around) (s : Shared) (f cd : Addr) : List (Str × Addr) := (PyProof.Rows.envOfC "_law_refused_right" (defScope sLwRefusedRight) s.heap.objs.size f (.ref cd)).cells
def spRR (K : PySem.W.Frag) (T : List (Addr × Str)) : Sp := fun vs H Q _ => ∃ (p : Addr) (e : Addr × List Int) (n : Nat), vs = [.ref p] ∧ n < 700000 ∧ PenAt K H p e n ∧ Tabs T H ∧ ∀ H', Q (.bl true) H'
theorem ok_rr {C P1 cd eR f fD fR fPK fAR fAB fAG fH : Addr} {fd fdD fdR fdPK fdAR fdAB fdAG fdH : FuncData} {hc : Hs} (F : FunC K "_law_refused_right" "_law_refused_right" sLwRefusedRight f fd cd) (T : Bi mg) (D : DrawAt P w K mg base fD fdD) (R : RingP P w K mg base C fR fdR) (RG : RingC K mg C)
    (PK : DefAt P w K mg base CX0 3 "_law_pick" ["_law_pen_here", "_law_some"] (spPick K) fPK fdPK) (AR : DefAt P w K mg base (L2.CX P w) 4 "arm_range" ["lengths"] (spAR K hc.b) fAR fdAR) (AB : DefAt P w K mg base (L2.CX P w) 5 "arc_bars" ["many", "one", "other"] (spAB K hc.b hc.n hc.t) fAB fdAB)
    (AG : DefAt P w K mg base (L2.CX P w) 6 "arc_range" ["ring", "one", "other"] (spAG K C hc.r hc.n hc.t) fAG fdAG) (Hc : HeardC K mg hc eR) (TB : TabB base mg cd P1) (hmT : (P1, qRf) ∈ T1 P1) (hu : ∀ p ∈ T1 P1, p.1 = P1 → p.2 = qRf)
    (KC : KitT K C) (FH : Fun K "_law_heard" "_law_heard" sLwHeard fH fdH) (BH : Binds K fdH ["_law_ask"] []) (GH : mg "_law_heard" = some (.ref fH)) : FnOk P w K mg base CX0 12 f fd ["_law_pen_here"] (spRR K (T1 P1)) := by
  refine F.ok scRR (fun vs H Q E h => ?_) (fun A outer s H vs Q E hr h => ?_)
  · obtain ⟨p, e, n, rfl, _⟩ := h
    rfl
  · have nd := scRR.nd
    obtain ⟨oc, od, kV, doc, pm, an, cdv, ct, osl, rfl, lk, hcd⟩ := FH.ex
    have RL := row_ok (hc := hc) (cd := cd) (f := f) (A := A) (outer := outer) (s := s) (H := H) (E := E) AR AB AG
    refine ⟨_, (pss_cons (ps_set (i := 1) nd rfl (Or.inr rfl) (pe_op op_add pe_int (pe_call D.ok (hr.mono (by decide)) rfl D.g D.kp D.b .nil pass0 (pa_cons (pv 0) (pa_cons pe_int pa_nil)))))
      (pss_cons (ps_asg (pe_tup (pa_cons (pe_make R.made R.ok (hr.mono (by decide)) (by rfl) RG.g R.b .nil pass0 (pa_cons (pe_op op_rep (pe_lst (pa_cons pe_int pa_nil)) (pv 1)) pa_nil)) (pa_cons (pe_call PK.ok (hr.mono (by decide)) rfl PK.g PK.kp PK.b .nil pass0 (pa_cons (pv 0) (pa_cons (pe_lst (pa_cons (pv 1) (pa_cons (pe_un un_neg pe_int) (pa_cons pe_non (pa_cons pe_bl (pa_cons pe_str (pa_cons (pe_lst (pa_cons pe_int pa_nil)) (pa_cons (pe_op op_pow pe_int pe_int) (pa_cons (pe_op op_add (pv 1) pe_int) pa_nil))))))))) pa_nil))) pa_nil))) (pg_tup (by rfl) (pgs_cons (pg_name (i := 2) nd rfl (Or.inr rfl)) (pgs_cons (pg_name (i := 3) nd rfl (Or.inr rfl)) pgs_nil))))
      (pss_cons (ps_set (i := 4) nd rfl (Or.inr rfl) (pe_call PK.ok (hr.mono (by decide)) rfl PK.g PK.kp PK.b .nil pass0 (pa_cons (pv 0) (pa_cons (pe_lst (pa_cons pe_non (pa_cons pe_int (pa_cons pe_str (pa_cons (pe_lst (pa_cons pe_int (pa_cons pe_int (pa_cons pe_int pa_nil)))) (pa_cons (pe_tup (pa_cons (pv 2) pa_nil)) pa_nil)))))) pa_nil))))
      (pss_cons (ps_set (i := 5) nd rfl (Or.inr rfl) (pe_call PK.ok (hr.mono (by decide)) rfl PK.g PK.kp PK.b .nil pass0 (pa_cons (pv 0) (pa_cons (pe_lst (pa_cons pe_int (pa_cons pe_int (pa_cons pe_int (pa_cons pe_non (pa_cons pe_bl (pa_cons pe_str (pa_cons (pe_un un_neg pe_int) (pa_cons (pe_lst (pa_cons pe_int pa_nil)) (pa_cons (pe_op op_pow pe_int pe_int) pa_nil)))))))))) pa_nil))))
      (pss_cons (ps_set (i := 6) nd rfl (Or.inr rfl) (pe_call PK.ok (hr.mono (by decide)) rfl PK.g PK.kp PK.b .nil pass0 (pa_cons (pv 0) (pa_cons (pe_lst (pa_cons pe_non (pa_cons (pe_lst pa_nil) (pa_cons (pe_tup pa_nil) (pa_cons (pe_lst (pa_cons pe_int pa_nil)) (pa_cons (pe_lst (pa_cons pe_int (pa_cons (pe_un un_neg pe_int) pa_nil))) (pa_cons (pe_lst (pa_cons pe_bl pa_nil)) (pa_cons pe_str (pa_cons pe_int (pa_cons (pe_op op_rep (pe_lst (pa_cons pe_int pa_nil)) pe_int) (pa_cons (pe_lst (pa_cons pe_int (pa_cons pe_non pa_nil))) (pa_cons pe_dnewK (pa_cons (pe_lst (pa_cons (pe_lst (pa_cons pe_int pa_nil)) pa_nil)) (pa_cons (pe_lst (pa_cons pe_int (pa_cons pe_int (pa_cons pe_int pa_nil)))) pa_nil)))))))))))))) pa_nil))))
      (pss_cons (ps_set (i := 7) nd rfl (Or.inl rfl) (pe_lst (pa_cons (pe_tup (pa_cons (pe_lamcap (T := T1 P1) TB rfl hmT hu rfl (lamS_by (sc := defScope sLwRefusedRight) (by decide +kernel))) (pa_cons (pe_tup (pa_cons pe_str (pa_cons pe_str pa_nil))) pa_nil))) pa_nil)))
      (pss_cons (ps_expr (pe_bm PySem.F.plainAttrs_list PySem.F.slot_list_append PySem.F.type_list_append mt_append (pv 7) (pa_cons (pe_tup (pa_cons (pe_lamcap (T := T1 P1) TB rfl hmT hu rfl (lamS_by (sc := defScope sLwRefusedRight) (by decide +kernel))) (pa_cons pe_non pa_nil))) pa_nil)))
      (pss_cons (ps_expr (pe_bm PySem.F.plainAttrs_list PySem.F.slot_list_append PySem.F.type_list_append mt_append (pv 7) (pa_cons (pe_tup (pa_cons (pe_lamcap (T := T1 P1) TB rfl hmT hu rfl (lamS_by (sc := defScope sLwRefusedRight) (by decide +kernel))) (pa_cons (pe_tup (pa_cons pe_str (pa_cons pe_str pa_nil))) pa_nil))) pa_nil)))
      (pss_cons (ps_expr (pe_bm PySem.F.plainAttrs_list PySem.F.slot_list_append PySem.F.type_list_append mt_append (pv 7) (pa_cons (pe_tup (pa_cons (pe_lamcap (T := T1 P1) TB rfl hmT hu rfl (lamS_by (sc := defScope sLwRefusedRight) (by decide +kernel))) (pa_cons (pe_tup (pa_cons pe_str (pa_cons (pv 3) pa_nil))) pa_nil))) pa_nil)))
      (pss_cons (ps_expr (pe_bm PySem.F.plainAttrs_list PySem.F.slot_list_append PySem.F.type_list_append mt_append (pv 7) (pa_cons (pe_tup (pa_cons (pe_lamcap (T := T1 P1) TB rfl hmT hu rfl (lamS_by (sc := defScope sLwRefusedRight) (by decide +kernel))) (pa_cons (pe_tup (pa_cons pe_str (pa_cons (pv 3) pa_nil))) pa_nil))) pa_nil)))
      (pss_cons (ps_expr (pe_bm PySem.F.plainAttrs_list PySem.F.slot_list_append PySem.F.type_list_append mt_append (pv 7) (pa_cons (pe_tup (pa_cons (pe_lamcap (T := T1 P1) TB rfl hmT hu rfl (lamS_by (sc := defScope sLwRefusedRight) (by decide +kernel))) (pa_cons (pe_tup (pa_cons pe_str (pa_cons (pv 3) pa_nil))) pa_nil))) pa_nil)))
      (pss_cons (ps_expr (pe_bm PySem.F.plainAttrs_list PySem.F.slot_list_append PySem.F.type_list_append mt_append (pv 7) (pa_cons (pe_tup (pa_cons (pe_lamcap (T := T1 P1) TB rfl hmT hu rfl (lamS_by (sc := defScope sLwRefusedRight) (by decide +kernel))) (pa_cons (pe_tup (pa_cons pe_str (pa_cons pe_int pa_nil))) pa_nil))) pa_nil)))
      (pss_cons (ps_expr (pe_bm PySem.F.plainAttrs_list PySem.F.slot_list_append PySem.F.type_list_append mt_append (pv 7) (pa_cons (pe_tup (pa_cons (pe_lamcap (T := T1 P1) TB rfl hmT hu rfl (lamS_by (sc := defScope sLwRefusedRight) (by decide +kernel))) (pa_cons (pe_tup (pa_cons pe_str (pa_cons pe_str pa_nil))) pa_nil))) pa_nil)))
      (pss_cons (ps_expr (pe_bm PySem.F.plainAttrs_list PySem.F.slot_list_append PySem.F.type_list_append mt_append (pv 7) (pa_cons (pe_tup (pa_cons (pe_lamcap (T := T1 P1) TB rfl hmT hu rfl (lamS_by (sc := defScope sLwRefusedRight) (by decide +kernel))) (pa_cons (pe_tup (pa_cons pe_str (pa_cons (pv 3) pa_nil))) pa_nil))) pa_nil)))
      (pss_cons (ps_expr (pe_bm PySem.F.plainAttrs_list PySem.F.slot_list_append PySem.F.type_list_append mt_append (pv 7) (pa_cons (pe_tup (pa_cons (pe_lamcap (T := T1 P1) TB rfl hmT hu rfl (lamS_by (sc := defScope sLwRefusedRight) (by decide +kernel))) (pa_cons (pe_tup (pa_cons pe_str (pa_cons (pv 3) pa_nil))) pa_nil))) pa_nil)))
      (pss_cons (ps_expr (pe_bm PySem.F.plainAttrs_list PySem.F.slot_list_append PySem.F.type_list_append mt_append (pv 7) (pa_cons (pe_tup (pa_cons (pe_lamcap (T := T1 P1) TB rfl hmT hu rfl (lamS_by (sc := defScope sLwRefusedRight) (by decide +kernel))) (pa_cons (pe_tup (pa_cons pe_str (pa_cons (pv 3) pa_nil))) pa_nil))) pa_nil)))
      (pss_cons (ps_expr (pe_bm PySem.F.plainAttrs_list PySem.F.slot_list_append PySem.F.type_list_append mt_append (pv 7) (pa_cons (pe_tup (pa_cons (pe_lamcap (T := T1 P1) TB rfl hmT hu rfl (lamS_by (sc := defScope sLwRefusedRight) (by decide +kernel))) (pa_cons (pe_tup (pa_cons pe_str (pa_cons pe_int pa_nil))) pa_nil))) pa_nil)))
      (pss_one (ps_ret (pe_cmpR (op_eqE hr.units) (pe_lcF (Ex := fun _ _ _ => False) (own := [("_law_ask", 8), ("_law_due", 9)]) (g := (gTup K 2 (gCons (gName 8) (gCons (gName 9) gNil)))) (tt := tTest (tOp (rNeD K) (tLamB [8, 9] (THeard hc) 8 12 qRf (cellsOf A s f cd) (rowL K C hc)) (tVar 9))) (te := tVar 9) rfl rfl L2.takes0 rfl nd (pi_list (pv 7))
        (blkOk_by (N := nRR) (sc := defScope sLwRefusedRight) (by decide +kernel)) (fun _ _ _ _ _ => pg_tup rfl (pgs_cons (pg_name (i := 8) nd rfl (Or.inl rfl)) (pgs_cons (pg_name (i := 9) nd rfl (Or.inl rfl)) pgs_nil)))
        (fun pins0 σ0 s0 H0 C0 cl fp I0 f0 => pts_one (pt_cmpR (op_neD hr.units) (pe_lamB (vs := [8, 9]) (i := 8) (n := 12) (k := 8) (Ng := nHeard) (a := "_law_ask") (x := "_law_heard") (y := "_law_ask") (C := C0) (cl := cl) I0 f0 (by rfl) GH FH.kp lk hcd BH scHeard rfl (Or.inl rfl) (heard_gives T Hc) (hr.mono (by decide)) RL rfl (by exact Or.inl rfl)) (pv 9) (nomark _)))
        (fun _ _ _ _ _ _ _ => pv 9)) (pe_lst pa_nil) (nomark _))))))))))))))))))))), ?_⟩
    obtain ⟨p, e, n, rfl, hn, pen, tab, q⟩ := h
    refine ⟨_, rfl, p, e, 6, n, rfl, by decide, by decide, by omega, pen, fun r0 H1 r0a r0b b1 pen1 => ⟨_, _, rfl, rfl, ?_⟩⟩
    obtain ⟨m, em, m3, m8⟩ : ∃ m : Nat, (3 : Int) + r0 = (m : Nat) ∧ 3 ≤ m ∧ m ≤ 8 := ⟨(3 + r0).toNat, by omega, by omega, by omega⟩
    show gName 1 (V.int (3 + r0)) _ _ _
    rw [em]
    obtain ⟨px, hpx⟩ := pen.some
    have tab : Tabs (T1 P1) H1 := tabs_but tab b1 hpx
    have pen := pen1
    refine ⟨(by show 1 ≤ sizeLine; decide), fun o1 n1 => ?_⟩
    have a1 : Same H1 (upd H1 o1 (.lst [.int 1])) := (Same.refl H1).new n1
    have q1 : o1 ≠ p := pen.ne n1
    have v1 : upd H1 o1 (.lst [.int 1]) o1 = some (.lst [.int 1]) := upd_same
    generalize upd H1 o1 (.lst [.int 1]) = J1 at a1 v1 ⊢
    have pen := pen.same a1
    have tab := tab.ext a1
    refine ⟨_, rfl, o1, _, _, rfl, rfl, v1, by omega, by omega, (by rw [Int.toNat_natCast]; show 1 * m ≤ sizeLine; exact Nat.le_of_lt (sm (by omega))), fun o2 n2 => ?_⟩
    rw [ones]
    have a2 : Same J1 (upd J1 o2 (.lst ((List.replicate m (1 : Int)).map V.int))) := (Same.refl J1).new n2
    have q2 : o2 ≠ p := pen.ne n2
    have v2 : upd J1 o2 (.lst ((List.replicate m (1 : Int)).map V.int)) o2 = some (.lst ((List.replicate m (1 : Int)).map V.int)) := upd_same
    generalize upd J1 o2 (.lst ((List.replicate m (1 : Int)).map V.int)) = J2 at a2 v2 ⊢
    have pen := pen.same a2
    have tab := tab.ext a2
    have v1 := a2 _ _ v1
    refine madeL2 (ls := List.replicate m 1) v2 (by rw [List.length_replicate]; omega) (by rw [List.length_replicate]; omega) (fun x hx => by rw [(List.mem_replicate.mp hx).2]; omega) fun r J3 ring a3 nr => ⟨rfl, ?_⟩
    have pen := pen.same a3
    have tab := tab.ext a3
    have kp : Kp p J3 J3 := Kp.of (ExtN.of (Same.refl J3))
    obtain ⟨px3, hp3⟩ := pen.some
    have pen3 := pen
    refine ⟨_, rfl, _, rfl, 1, rfl, (by show 1 ≤ sizeLine; decide), fun o4 n4 => ?_⟩
    have a4 : Same J3 (upd J3 o4 (.lst [.int 0])) := (Same.refl J3).new n4
    have q4 : o4 ≠ p := pen.ne n4
    have v4 : upd J3 o4 (.lst [.int 0]) o4 = some (.lst [.int 0]) := upd_same
    generalize upd J3 o4 (.lst [.int 0]) = J4 at a4 v4 ⊢
    have pen := pen.same a4
    have tab := tab.ext a4
    have kp := kp.trans (Kp.of (ExtN.of a4))
    refine ⟨_, _, rfl, rfl, ⟨by decide, by decide, by decide⟩, _, rfl, _, _, rfl, rfl, (by show 8 ≤ sizeLine; decide), fun o5 n5 => ?_⟩
    have a5 : Same J4 (upd J4 o5 (.lst [.int m, .int (-1), .non, .bl true, .str "0", .ref o4, .int (10 ^ Int.toNat 20), .int (m + 3)])) := (Same.refl J4).new n5
    have q5 : o5 ≠ p := pen.ne n5
    have v5 : upd J4 o5 (.lst [.int m, .int (-1), .non, .bl true, .str "0", .ref o4, .int (10 ^ Int.toNat 20), .int (m + 3)]) o5 = some (.lst [.int m, .int (-1), .non, .bl true, .str "0", .ref o4, .int (10 ^ Int.toNat 20), .int (m + 3)]) := upd_same
    generalize upd J4 o5 (.lst [.int m, .int (-1), .non, .bl true, .str "0", .ref o4, .int (10 ^ Int.toNat 20), .int (m + 3)]) = J5 at a5 v5 ⊢
    have pen := pen.same a5
    have tab := tab.ext a5
    have kp := kp.trans (Kp.of (ExtN.of a5))
    have v4 := a5 _ _ v4
    obtain ⟨px, hpx⟩ := pen.some
    refine ⟨p, o5, e, _, n + 1, rfl, SqL.of v5, q5, (by show 1 ≤ 8; decide), (by show 8 ≤ 1000; decide), by omega, pen, fun iN vN GN hN bN pen => ?_⟩
    have tab := tabs_but tab bN hpx
    have kp := kp.trans (Kp.but bN)
    have kN : Kp p GN GN := Kp.of (ExtN.of (Same.refl GN))
    have v4 := bN _ _ q4 v4
    have v5 := bN _ _ q5 v5
    obtain ⟨px, hpx⟩ := pen.some
    obtain ⟨d, noN⟩ : ∃ d, NoV p m GN vN d := pick_no (by omega) (by omega) (by decide) rfl q4 v4 hN
    refine ⟨(by show 2 ≤ sizeLine; decide), fun o6 n6 => ?_⟩
    have a6 : Same GN (upd GN o6 (.tup [.ref r, vN])) := (Same.refl GN).new n6
    have q6 : o6 ≠ p := pen.ne n6
    have v6 : upd GN o6 (.tup [.ref r, vN]) o6 = some (.tup [.ref r, vN]) := upd_same
    generalize upd GN o6 (.tup [.ref r, vN]) = J6 at a6 v6 ⊢
    have pen := pen.same a6
    have tab := tab.ext a6
    have kp := kp.trans (Kp.of (ExtN.of a6))
    have kN := kN.trans (Kp.of (ExtN.of a6))
    refine ⟨o6, _, rfl, SqT.of v6, rfl, _, _, rfl, _, _, rfl, rfl, ?_⟩
    refine ⟨_, rfl, (by show 3 ≤ sizeLine; decide), fun o7 n7 => ?_⟩
    have a7 : Same J6 (upd J6 o7 (.lst [.int 1, .int 1, .int 1])) := (Same.refl J6).new n7
    have q7 : o7 ≠ p := pen.ne n7
    have v7 : upd J6 o7 (.lst [.int 1, .int 1, .int 1]) o7 = some (.lst [.int 1, .int 1, .int 1]) := upd_same
    generalize upd J6 o7 (.lst [.int 1, .int 1, .int 1]) = J7 at a7 v7 ⊢
    have pen := pen.same a7
    have tab := tab.ext a7
    have kp := kp.trans (Kp.of (ExtN.of a7))
    have kN := kN.trans (Kp.of (ExtN.of a7))
    refine ⟨_, rfl, (by show 1 ≤ sizeLine; decide), fun o8 n8 => ?_⟩
    have a8 : Same J7 (upd J7 o8 (.tup [.ref r])) := (Same.refl J7).new n8
    have q8 : o8 ≠ p := pen.ne n8
    have v8 : upd J7 o8 (.tup [.ref r]) o8 = some (.tup [.ref r]) := upd_same
    generalize upd J7 o8 (.tup [.ref r]) = J8 at a8 v8 ⊢
    have pen := pen.same a8
    have tab := tab.ext a8
    have kp := kp.trans (Kp.of (ExtN.of a8))
    have kN := kN.trans (Kp.of (ExtN.of a8))
    have v7 := a8 _ _ v7
    refine ⟨(by show 5 ≤ sizeLine; decide), fun o9 n9 => ?_⟩
    have a9 : Same J8 (upd J8 o9 (.lst [.non, .int 5, .str "1 1 1", .ref o7, .ref o8])) := (Same.refl J8).new n9
    have q9 : o9 ≠ p := pen.ne n9
    have v9 : upd J8 o9 (.lst [.non, .int 5, .str "1 1 1", .ref o7, .ref o8]) o9 = some (.lst [.non, .int 5, .str "1 1 1", .ref o7, .ref o8]) := upd_same
    generalize upd J8 o9 (.lst [.non, .int 5, .str "1 1 1", .ref o7, .ref o8]) = J9 at a9 v9 ⊢
    have pen := pen.same a9
    have tab := tab.ext a9
    have kp := kp.trans (Kp.of (ExtN.of a9))
    have kN := kN.trans (Kp.of (ExtN.of a9))
    have v7 := a9 _ _ v7
    have v8 := a9 _ _ v8
    obtain ⟨px, hpx⟩ := pen.some
    refine ⟨p, o9, e, _, n + 2, rfl, SqL.of v9, q9, (by show 1 ≤ 5; decide), (by show 5 ≤ 1000; decide), by omega, pen, fun iO vO GO hO bO pen => ?_⟩
    have tab := tabs_but tab bO hpx
    have kp := kp.trans (Kp.but bO)
    have kN := kN.trans (Kp.but bO)
    have kO : Kp p GO GO := Kp.of (ExtN.of (Same.refl GO))
    have v7 := bO _ _ q7 v7
    have v8 := bO _ _ q8 v8
    have v9 := bO _ _ q9 v9
    obtain ⟨px, hpx⟩ := pen.some
    have odO : OddV p GO vO := pick_odd q7 v7 q8 v8 hO
    refine ⟨_, rfl, 3, rfl, (by show 1 ≤ sizeLine; decide), fun o10 n10 => ?_⟩
    have a10 : Same GO (upd GO o10 (.lst [.int 5])) := (Same.refl GO).new n10
    have q10 : o10 ≠ p := pen.ne n10
    have v10 : upd GO o10 (.lst [.int 5]) o10 = some (.lst [.int 5]) := upd_same
    generalize upd GO o10 (.lst [.int 5]) = J10 at a10 v10 ⊢
    have pen := pen.same a10
    have tab := tab.ext a10
    have kp := kp.trans (Kp.of (ExtN.of a10))
    have kN := kN.trans (Kp.of (ExtN.of a10))
    have kO := kO.trans (Kp.of (ExtN.of a10))
    refine ⟨_, _, rfl, rfl, ⟨by decide, by decide, by decide⟩, (by show 9 ≤ sizeLine; decide), fun o11 n11 => ?_⟩
    have a11 : Same J10 (upd J10 o11 (.lst [.int 2, .int 9, .int 0, .non, .bl true, .str "5", .int (-3), .ref o10, .int (10 ^ Int.toNat 30)])) := (Same.refl J10).new n11
    have q11 : o11 ≠ p := pen.ne n11
    have v11 : upd J10 o11 (.lst [.int 2, .int 9, .int 0, .non, .bl true, .str "5", .int (-3), .ref o10, .int (10 ^ Int.toNat 30)]) o11 = some (.lst [.int 2, .int 9, .int 0, .non, .bl true, .str "5", .int (-3), .ref o10, .int (10 ^ Int.toNat 30)]) := upd_same
    generalize upd J10 o11 (.lst [.int 2, .int 9, .int 0, .non, .bl true, .str "5", .int (-3), .ref o10, .int (10 ^ Int.toNat 30)]) = J11 at a11 v11 ⊢
    have pen := pen.same a11
    have tab := tab.ext a11
    have kp := kp.trans (Kp.of (ExtN.of a11))
    have kN := kN.trans (Kp.of (ExtN.of a11))
    have kO := kO.trans (Kp.of (ExtN.of a11))
    have v10 := a11 _ _ v10
    obtain ⟨px, hpx⟩ := pen.some
    refine ⟨p, o11, e, _, n + 3, rfl, SqL.of v11, q11, (by show 1 ≤ 9; decide), (by show 9 ≤ 1000; decide), by omega, pen, fun iS vS GS hS bS pen => ?_⟩
    have tab := tabs_but tab bS hpx
    have kp := kp.trans (Kp.but bS)
    have kN := kN.trans (Kp.but bS)
    have kO := kO.trans (Kp.but bS)
    have kS : Kp p GS GS := Kp.of (ExtN.of (Same.refl GS))
    have v10 := bS _ _ q10 v10
    have v11 := bS _ _ q11 v11
    obtain ⟨px, hpx⟩ := pen.some
    have siS : SizV p GS vS := pick_siz (by decide) q10 v10 hS
    refine ⟨_, rfl, (by show 0 ≤ sizeLine; decide), fun o12 n12 => ?_⟩
    have a12 : Same GS (upd GS o12 (.lst [])) := (Same.refl GS).new n12
    have q12 : o12 ≠ p := pen.ne n12
    have v12 : upd GS o12 (.lst []) o12 = some (.lst []) := upd_same
    generalize upd GS o12 (.lst []) = J12 at a12 v12 ⊢
    have pen := pen.same a12
    have tab := tab.ext a12
    have kp := kp.trans (Kp.of (ExtN.of a12))
    have kN := kN.trans (Kp.of (ExtN.of a12))
    have kO := kO.trans (Kp.of (ExtN.of a12))
    have kS := kS.trans (Kp.of (ExtN.of a12))
    refine ⟨(by show 0 ≤ sizeLine; decide), fun o13 n13 => ?_⟩
    have a13 : Same J12 (upd J12 o13 (.tup [])) := (Same.refl J12).new n13
    have q13 : o13 ≠ p := pen.ne n13
    have v13 : upd J12 o13 (.tup []) o13 = some (.tup []) := upd_same
    generalize upd J12 o13 (.tup []) = J13 at a13 v13 ⊢
    have pen := pen.same a13
    have tab := tab.ext a13
    have kp := kp.trans (Kp.of (ExtN.of a13))
    have kN := kN.trans (Kp.of (ExtN.of a13))
    have kO := kO.trans (Kp.of (ExtN.of a13))
    have kS := kS.trans (Kp.of (ExtN.of a13))
    have v12 := a13 _ _ v12
    refine ⟨(by show 1 ≤ sizeLine; decide), fun o14 n14 => ?_⟩
    have a14 : Same J13 (upd J13 o14 (.lst [.int 0])) := (Same.refl J13).new n14
    have q14 : o14 ≠ p := pen.ne n14
    have v14 : upd J13 o14 (.lst [.int 0]) o14 = some (.lst [.int 0]) := upd_same
    generalize upd J13 o14 (.lst [.int 0]) = J14 at a14 v14 ⊢
    have pen := pen.same a14
    have tab := tab.ext a14
    have kp := kp.trans (Kp.of (ExtN.of a14))
    have kN := kN.trans (Kp.of (ExtN.of a14))
    have kO := kO.trans (Kp.of (ExtN.of a14))
    have kS := kS.trans (Kp.of (ExtN.of a14))
    have v12 := a14 _ _ v12
    have v13 := a14 _ _ v13
    refine ⟨1, rfl, (by show 2 ≤ sizeLine; decide), fun o15 n15 => ?_⟩
    have a15 : Same J14 (upd J14 o15 (.lst [.int 1, .int (-1)])) := (Same.refl J14).new n15
    have q15 : o15 ≠ p := pen.ne n15
    have v15 : upd J14 o15 (.lst [.int 1, .int (-1)]) o15 = some (.lst [.int 1, .int (-1)]) := upd_same
    generalize upd J14 o15 (.lst [.int 1, .int (-1)]) = J15 at a15 v15 ⊢
    have pen := pen.same a15
    have tab := tab.ext a15
    have kp := kp.trans (Kp.of (ExtN.of a15))
    have kN := kN.trans (Kp.of (ExtN.of a15))
    have kO := kO.trans (Kp.of (ExtN.of a15))
    have kS := kS.trans (Kp.of (ExtN.of a15))
    have v12 := a15 _ _ v12
    have v13 := a15 _ _ v13
    have v14 := a15 _ _ v14
    refine ⟨(by show 1 ≤ sizeLine; decide), fun o16 n16 => ?_⟩
    have a16 : Same J15 (upd J15 o16 (.lst [.bl true])) := (Same.refl J15).new n16
    have q16 : o16 ≠ p := pen.ne n16
    have v16 : upd J15 o16 (.lst [.bl true]) o16 = some (.lst [.bl true]) := upd_same
    generalize upd J15 o16 (.lst [.bl true]) = J16 at a16 v16 ⊢
    have pen := pen.same a16
    have tab := tab.ext a16
    have kp := kp.trans (Kp.of (ExtN.of a16))
    have kN := kN.trans (Kp.of (ExtN.of a16))
    have kO := kO.trans (Kp.of (ExtN.of a16))
    have kS := kS.trans (Kp.of (ExtN.of a16))
    have v12 := a16 _ _ v12
    have v13 := a16 _ _ v13
    have v14 := a16 _ _ v14
    have v15 := a16 _ _ v15
    refine ⟨(by show 1 ≤ sizeLine; decide), fun o17 n17 => ?_⟩
    have a17 : Same J16 (upd J16 o17 (.lst [.int 1])) := (Same.refl J16).new n17
    have q17 : o17 ≠ p := pen.ne n17
    have v17 : upd J16 o17 (.lst [.int 1]) o17 = some (.lst [.int 1]) := upd_same
    generalize upd J16 o17 (.lst [.int 1]) = J17 at a17 v17 ⊢
    have pen := pen.same a17
    have tab := tab.ext a17
    have kp := kp.trans (Kp.of (ExtN.of a17))
    have kN := kN.trans (Kp.of (ExtN.of a17))
    have kO := kO.trans (Kp.of (ExtN.of a17))
    have kS := kS.trans (Kp.of (ExtN.of a17))
    have v12 := a17 _ _ v12
    have v13 := a17 _ _ v13
    have v14 := a17 _ _ v14
    have v15 := a17 _ _ v15
    have v16 := a17 _ _ v16
    refine ⟨o17, 21, _, rfl, rfl, v17, by decide, by decide, (by show 21 ≤ sizeLine; decide), fun o18 n18 => ?_⟩
    rw [show (List.replicate (Int.toNat 21) [V.int 1]).flatten = List.replicate 21 (.int 1) from rfl]
    have a18 : Same J17 (upd J17 o18 (.lst (List.replicate 21 (.int 1)))) := (Same.refl J17).new n18
    have q18 : o18 ≠ p := pen.ne n18
    have v18 : upd J17 o18 (.lst (List.replicate 21 (.int 1))) o18 = some (.lst (List.replicate 21 (.int 1))) := upd_same
    generalize upd J17 o18 (.lst (List.replicate 21 (.int 1))) = J18 at a18 v18 ⊢
    have pen := pen.same a18
    have tab := tab.ext a18
    have kp := kp.trans (Kp.of (ExtN.of a18))
    have kN := kN.trans (Kp.of (ExtN.of a18))
    have kO := kO.trans (Kp.of (ExtN.of a18))
    have kS := kS.trans (Kp.of (ExtN.of a18))
    have v12 := a18 _ _ v12
    have v13 := a18 _ _ v13
    have v14 := a18 _ _ v14
    have v15 := a18 _ _ v15
    have v16 := a18 _ _ v16
    have v17 := a18 _ _ v17
    refine ⟨(by show 2 ≤ sizeLine; decide), fun o19 n19 => ?_⟩
    have a19 : Same J18 (upd J18 o19 (.lst [.int 1, .non])) := (Same.refl J18).new n19
    have q19 : o19 ≠ p := pen.ne n19
    have v19 : upd J18 o19 (.lst [.int 1, .non]) o19 = some (.lst [.int 1, .non]) := upd_same
    generalize upd J18 o19 (.lst [.int 1, .non]) = J19 at a19 v19 ⊢
    have pen := pen.same a19
    have tab := tab.ext a19
    have kp := kp.trans (Kp.of (ExtN.of a19))
    have kN := kN.trans (Kp.of (ExtN.of a19))
    have kO := kO.trans (Kp.of (ExtN.of a19))
    have kS := kS.trans (Kp.of (ExtN.of a19))
    have v12 := a19 _ _ v12
    have v13 := a19 _ _ v13
    have v14 := a19 _ _ v14
    have v15 := a19 _ _ v15
    have v16 := a19 _ _ v16
    have v17 := a19 _ _ v17
    have v18 := a19 _ _ v18
    refine fun o20 n20 => ?_
    have a20 : Same J19 (upd J19 o20 (.dK [])) := (Same.refl J19).new n20
    have q20 : o20 ≠ p := pen.ne n20
    have v20 : upd J19 o20 (.dK []) o20 = some (.dK []) := upd_same
    generalize upd J19 o20 (.dK []) = J20 at a20 v20 ⊢
    have pen := pen.same a20
    have tab := tab.ext a20
    have kp := kp.trans (Kp.of (ExtN.of a20))
    have kN := kN.trans (Kp.of (ExtN.of a20))
    have kO := kO.trans (Kp.of (ExtN.of a20))
    have kS := kS.trans (Kp.of (ExtN.of a20))
    have v12 := a20 _ _ v12
    have v13 := a20 _ _ v13
    have v14 := a20 _ _ v14
    have v15 := a20 _ _ v15
    have v16 := a20 _ _ v16
    have v17 := a20 _ _ v17
    have v18 := a20 _ _ v18
    have v19 := a20 _ _ v19
    refine ⟨(by show 1 ≤ sizeLine; decide), fun o21 n21 => ?_⟩
    have a21 : Same J20 (upd J20 o21 (.lst [.int 1])) := (Same.refl J20).new n21
    have q21 : o21 ≠ p := pen.ne n21
    have v21 : upd J20 o21 (.lst [.int 1]) o21 = some (.lst [.int 1]) := upd_same
    generalize upd J20 o21 (.lst [.int 1]) = J21 at a21 v21 ⊢
    have pen := pen.same a21
    have tab := tab.ext a21
    have kp := kp.trans (Kp.of (ExtN.of a21))
    have kN := kN.trans (Kp.of (ExtN.of a21))
    have kO := kO.trans (Kp.of (ExtN.of a21))
    have kS := kS.trans (Kp.of (ExtN.of a21))
    have v12 := a21 _ _ v12
    have v13 := a21 _ _ v13
    have v14 := a21 _ _ v14
    have v15 := a21 _ _ v15
    have v16 := a21 _ _ v16
    have v17 := a21 _ _ v17
    have v18 := a21 _ _ v18
    have v19 := a21 _ _ v19
    have v20 := a21 _ _ v20
    refine ⟨(by show 1 ≤ sizeLine; decide), fun o22 n22 => ?_⟩
    have a22 : Same J21 (upd J21 o22 (.lst [.ref o21])) := (Same.refl J21).new n22
    have q22 : o22 ≠ p := pen.ne n22
    have v22 : upd J21 o22 (.lst [.ref o21]) o22 = some (.lst [.ref o21]) := upd_same
    generalize upd J21 o22 (.lst [.ref o21]) = J22 at a22 v22 ⊢
    have pen := pen.same a22
    have tab := tab.ext a22
    have kp := kp.trans (Kp.of (ExtN.of a22))
    have kN := kN.trans (Kp.of (ExtN.of a22))
    have kO := kO.trans (Kp.of (ExtN.of a22))
    have kS := kS.trans (Kp.of (ExtN.of a22))
    have v12 := a22 _ _ v12
    have v13 := a22 _ _ v13
    have v14 := a22 _ _ v14
    have v15 := a22 _ _ v15
    have v16 := a22 _ _ v16
    have v17 := a22 _ _ v17
    have v18 := a22 _ _ v18
    have v19 := a22 _ _ v19
    have v20 := a22 _ _ v20
    have v21 := a22 _ _ v21
    refine ⟨(by show 3 ≤ sizeLine; decide), fun o23 n23 => ?_⟩
    have a23 : Same J22 (upd J22 o23 (.lst [.int 1, .int 2, .int 0])) := (Same.refl J22).new n23
    have q23 : o23 ≠ p := pen.ne n23
    have v23 : upd J22 o23 (.lst [.int 1, .int 2, .int 0]) o23 = some (.lst [.int 1, .int 2, .int 0]) := upd_same
    generalize upd J22 o23 (.lst [.int 1, .int 2, .int 0]) = J23 at a23 v23 ⊢
    have pen := pen.same a23
    have tab := tab.ext a23
    have kp := kp.trans (Kp.of (ExtN.of a23))
    have kN := kN.trans (Kp.of (ExtN.of a23))
    have kO := kO.trans (Kp.of (ExtN.of a23))
    have kS := kS.trans (Kp.of (ExtN.of a23))
    have v12 := a23 _ _ v12
    have v13 := a23 _ _ v13
    have v14 := a23 _ _ v14
    have v15 := a23 _ _ v15
    have v16 := a23 _ _ v16
    have v17 := a23 _ _ v17
    have v18 := a23 _ _ v18
    have v19 := a23 _ _ v19
    have v20 := a23 _ _ v20
    have v21 := a23 _ _ v21
    have v22 := a23 _ _ v22
    refine ⟨(by show 13 ≤ sizeLine; decide), fun o24 n24 => ?_⟩
    have a24 : Same J23 (upd J23 o24 (.lst [.non, .ref o12, .ref o13, .ref o14, .ref o15, .ref o16, .str "12", .int 5, .ref o18, .ref o19, .ref o20, .ref o22, .ref o23])) := (Same.refl J23).new n24
    have q24 : o24 ≠ p := pen.ne n24
    have v24 : upd J23 o24 (.lst [.non, .ref o12, .ref o13, .ref o14, .ref o15, .ref o16, .str "12", .int 5, .ref o18, .ref o19, .ref o20, .ref o22, .ref o23]) o24 = some (.lst [.non, .ref o12, .ref o13, .ref o14, .ref o15, .ref o16, .str "12", .int 5, .ref o18, .ref o19, .ref o20, .ref o22, .ref o23]) := upd_same
    generalize upd J23 o24 (.lst [.non, .ref o12, .ref o13, .ref o14, .ref o15, .ref o16, .str "12", .int 5, .ref o18, .ref o19, .ref o20, .ref o22, .ref o23]) = J24 at a24 v24 ⊢
    have pen := pen.same a24
    have tab := tab.ext a24
    have kp := kp.trans (Kp.of (ExtN.of a24))
    have kN := kN.trans (Kp.of (ExtN.of a24))
    have kO := kO.trans (Kp.of (ExtN.of a24))
    have kS := kS.trans (Kp.of (ExtN.of a24))
    have v12 := a24 _ _ v12
    have v13 := a24 _ _ v13
    have v14 := a24 _ _ v14
    have v15 := a24 _ _ v15
    have v16 := a24 _ _ v16
    have v17 := a24 _ _ v17
    have v18 := a24 _ _ v18
    have v19 := a24 _ _ v19
    have v20 := a24 _ _ v20
    have v21 := a24 _ _ v21
    have v22 := a24 _ _ v22
    have v23 := a24 _ _ v23
    obtain ⟨px, hpx⟩ := pen.some
    refine ⟨p, o24, e, _, n + 4, rfl, SqL.of v24, q24, (by show 1 ≤ 13; decide), (by show 13 ≤ 1000; decide), by omega, pen, fun iB vB GB hB bB pen => ?_⟩
    have tab := tabs_but tab bB hpx
    have kp := kp.trans (Kp.but bB)
    have kN := kN.trans (Kp.but bB)
    have kO := kO.trans (Kp.but bB)
    have kS := kS.trans (Kp.but bB)
    have kB : Kp p GB GB := Kp.of (ExtN.of (Same.refl GB))
    have v12 := bB _ _ q12 v12
    have v13 := bB _ _ q13 v13
    have v14 := bB _ _ q14 v14
    have v15 := bB _ _ q15 v15
    have v16 := bB _ _ q16 v16
    have v17 := bB _ _ q17 v17
    have v18 := bB _ _ q18 v18
    have v19 := bB _ _ q19 v19
    have v20 := bB _ _ q20 v20
    have v21 := bB _ _ q21 v21
    have v22 := bB _ _ q22 v22
    have v23 := bB _ _ q23 v23
    have v24 := bB _ _ q24 v24
    obtain ⟨px, hpx⟩ := pen.some
    have baB : BadA p GB vB := pick_bad q12 v12 q13 v13 q14 v14 q15 v15 q16 v16 q18 v18 q19 v19 v20 q22 v22 q21 v21 q23 v23 hB
    have F : RowF K C p m r (List.replicate m 1) vN vO vS vB d GB := ⟨by omega, by omega, ring.kp kp hp3, by rw [List.length_replicate], fun x hx => by rw [(List.mem_replicate.mp hx).2]; omega, noN.kp kN, odO.kp kO, siS.kp kS, baB⟩
    refine ⟨tab, fun f0 c0 M0 x0 tab nf0 hf0 hc0 => ?_⟩
    have hf0 : M0 f0 = some (LamC f0 qRf (rowL K C hc 0).ar (rowL K C hc 0).bo (rowL K C hc 0).sco (cloFrom (cellsOf A s f cd) (rowL K C hc 0).sco.names []) c0) := hf0
    refine ⟨(by show 2 ≤ sizeLine; decide), fun d0 nd0 => ?_⟩
    have y0 : Same M0 (upd M0 d0 (.tup [.str "number", .str "lengths"])) := (Same.refl M0).new nd0
    have hd0 : upd M0 d0 (.tup [.str "number", .str "lengths"]) d0 = some (.tup [.str "number", .str "lengths"]) := upd_same
    generalize upd M0 d0 (.tup [.str "number", .str "lengths"]) = D0 at y0 hd0 ⊢
    have hf0 := y0 _ _ hf0
    have hc0 := y0 _ _ hc0
    have tab := tab.ext y0
    have x0 := x0.trans (ExtN.of y0)
    refine ⟨(by show 2 ≤ sizeLine; decide), fun b0 nb0 => ?_⟩
    have z0 : Same D0 (upd D0 b0 (.tup [.ref f0, .ref d0])) := (Same.refl D0).new nb0
    have hb0 : upd D0 b0 (.tup [.ref f0, .ref d0]) b0 = some (.tup [.ref f0, .ref d0]) := upd_same
    generalize upd D0 b0 (.tup [.ref f0, .ref d0]) = B0 at z0 hb0 ⊢
    have hf0 := z0 _ _ hf0
    have hc0 := z0 _ _ hc0
    have tab := tab.ext z0
    have x0 := x0.trans (ExtN.of z0)
    have hd0 := z0 _ _ hd0
    have hw0 : DueAt vN 0 B0 (.ref d0) := ⟨d0, rfl, hd0⟩
    refine ⟨(by show 1 ≤ sizeLine; decide), fun D nD => ?_⟩
    have F := F.ext x0 hpx
    have hpx := x0 _ _ hpx (fun _ z => nomatch z)
    have xG : ExtN B0 (upd B0 D (.lst [.ref b0])) := ExtN.of ((Same.refl B0).new nD)
    have ts : RS qRf (cellsOf A s f cd) (rowL K C hc) vN D [.ref b0] [0] (upd B0 D (.lst [.ref b0])) := ⟨upd_same, .cons (RowQ.ext ⟨b0, f0, c0, _, rfl, hb0, hf0, hc0, hw0⟩ xG) .nil⟩
    have tab := tab.ext ((Same.refl B0).new nD (o := .lst [.ref b0]))
    generalize upd B0 D (.lst [.ref b0]) = G0 at xG ts tab ⊢
    refine ⟨_, rfl, .inl ⟨rfl, _, SqL.of ts.1⟩, tab, fun f1 c1 M1 x1 tab nf1 hf1 hc1 => ?_⟩
    have hf1 : M1 f1 = some (LamC f1 qRf (rowL K C hc 1).ar (rowL K C hc 1).bo (rowL K C hc 1).sco (cloFrom (cellsOf A s f cd) (rowL K C hc 1).sco.names []) c1) := hf1
    refine ⟨(by show 2 ≤ sizeLine; decide), fun b1 nb1 => ?_⟩
    have z1 : Same M1 (upd M1 b1 (.tup [.ref f1, .non])) := (Same.refl M1).new nb1
    have hb1 : upd M1 b1 (.tup [.ref f1, .non]) b1 = some (.tup [.ref f1, .non]) := upd_same
    generalize upd M1 b1 (.tup [.ref f1, .non]) = B1 at z1 hb1 ⊢
    have hf1 := z1 _ _ hf1
    have hc1 := z1 _ _ hc1
    have tab := tab.ext z1
    have x1 := x1.trans (ExtN.of z1)
    have hw1 : DueAt vN 1 B1 (.non) := rfl
    have hD1 := x1 _ _ ts.1 (fun _ z => nomatch z)
    obtain ⟨xG, tab, ts⟩ := row_push xG nD ts x1 tab hb1 hf1 hc1 hw1
    refine ⟨D, _, _, rfl, rfl, hD1, (by show 1 < sizeLine; decide), ?_⟩
    generalize upd B1 D (.lst ([.ref b0] ++ [.ref b1])) = G1 at xG ts tab ⊢
    refine ⟨_, rfl, .inl ⟨rfl, _, SqL.of ts.1⟩, tab, fun f2 c2 M2 x2 tab nf2 hf2 hc2 => ?_⟩
    have hf2 : M2 f2 = some (LamC f2 qRf (rowL K C hc 2).ar (rowL K C hc 2).bo (rowL K C hc 2).sco (cloFrom (cellsOf A s f cd) (rowL K C hc 2).sco.names []) c2) := hf2
    refine ⟨(by show 2 ≤ sizeLine; decide), fun d2 nd2 => ?_⟩
    have y2 : Same M2 (upd M2 d2 (.tup [.str "number", .str "many"])) := (Same.refl M2).new nd2
    have hd2 : upd M2 d2 (.tup [.str "number", .str "many"]) d2 = some (.tup [.str "number", .str "many"]) := upd_same
    generalize upd M2 d2 (.tup [.str "number", .str "many"]) = D2 at y2 hd2 ⊢
    have hf2 := y2 _ _ hf2
    have hc2 := y2 _ _ hc2
    have tab := tab.ext y2
    have x2 := x2.trans (ExtN.of y2)
    refine ⟨(by show 2 ≤ sizeLine; decide), fun b2 nb2 => ?_⟩
    have z2 : Same D2 (upd D2 b2 (.tup [.ref f2, .ref d2])) := (Same.refl D2).new nb2
    have hb2 : upd D2 b2 (.tup [.ref f2, .ref d2]) b2 = some (.tup [.ref f2, .ref d2]) := upd_same
    generalize upd D2 b2 (.tup [.ref f2, .ref d2]) = B2 at z2 hb2 ⊢
    have hf2 := z2 _ _ hf2
    have hc2 := z2 _ _ hc2
    have tab := tab.ext z2
    have x2 := x2.trans (ExtN.of z2)
    have hd2 := z2 _ _ hd2
    have hw2 : DueAt vN 2 B2 (.ref d2) := ⟨d2, rfl, hd2⟩
    have hD2 := x2 _ _ ts.1 (fun _ z => nomatch z)
    obtain ⟨xG, tab, ts⟩ := row_push xG nD ts x2 tab hb2 hf2 hc2 hw2
    refine ⟨D, _, _, rfl, rfl, hD2, (by show 2 < sizeLine; decide), ?_⟩
    generalize upd B2 D (.lst (([.ref b0] ++ [.ref b1]) ++ [.ref b2])) = G2 at xG ts tab ⊢
    refine ⟨_, rfl, .inl ⟨rfl, _, SqL.of ts.1⟩, tab, fun f3 c3 M3 x3 tab nf3 hf3 hc3 => ?_⟩
    have hf3 : M3 f3 = some (LamC f3 qRf (rowL K C hc 3).ar (rowL K C hc 3).bo (rowL K C hc 3).sco (cloFrom (cellsOf A s f cd) (rowL K C hc 3).sco.names []) c3) := hf3
    refine ⟨_, rfl, (by show 2 ≤ sizeLine; decide), fun d3 nd3 => ?_⟩
    have y3 : Same M3 (upd M3 d3 (.tup [.str "corner", vN])) := (Same.refl M3).new nd3
    have hd3 : upd M3 d3 (.tup [.str "corner", vN]) d3 = some (.tup [.str "corner", vN]) := upd_same
    generalize upd M3 d3 (.tup [.str "corner", vN]) = D3 at y3 hd3 ⊢
    have hf3 := y3 _ _ hf3
    have hc3 := y3 _ _ hc3
    have tab := tab.ext y3
    have x3 := x3.trans (ExtN.of y3)
    refine ⟨(by show 2 ≤ sizeLine; decide), fun b3 nb3 => ?_⟩
    have z3 : Same D3 (upd D3 b3 (.tup [.ref f3, .ref d3])) := (Same.refl D3).new nb3
    have hb3 : upd D3 b3 (.tup [.ref f3, .ref d3]) b3 = some (.tup [.ref f3, .ref d3]) := upd_same
    generalize upd D3 b3 (.tup [.ref f3, .ref d3]) = B3 at z3 hb3 ⊢
    have hf3 := z3 _ _ hf3
    have hc3 := z3 _ _ hc3
    have tab := tab.ext z3
    have x3 := x3.trans (ExtN.of z3)
    have hd3 := z3 _ _ hd3
    have hw3 : DueAt vN 3 B3 (.ref d3) := ⟨d3, rfl, hd3⟩
    have hD3 := x3 _ _ ts.1 (fun _ z => nomatch z)
    obtain ⟨xG, tab, ts⟩ := row_push xG nD ts x3 tab hb3 hf3 hc3 hw3
    refine ⟨D, _, _, rfl, rfl, hD3, (by show 3 < sizeLine; decide), ?_⟩
    generalize upd B3 D (.lst ((([.ref b0] ++ [.ref b1]) ++ [.ref b2]) ++ [.ref b3])) = G3 at xG ts tab ⊢
    refine ⟨_, rfl, .inl ⟨rfl, _, SqL.of ts.1⟩, tab, fun f4 c4 M4 x4 tab nf4 hf4 hc4 => ?_⟩
    have hf4 : M4 f4 = some (LamC f4 qRf (rowL K C hc 4).ar (rowL K C hc 4).bo (rowL K C hc 4).sco (cloFrom (cellsOf A s f cd) (rowL K C hc 4).sco.names []) c4) := hf4
    refine ⟨_, rfl, (by show 2 ≤ sizeLine; decide), fun d4 nd4 => ?_⟩
    have y4 : Same M4 (upd M4 d4 (.tup [.str "corner", vN])) := (Same.refl M4).new nd4
    have hd4 : upd M4 d4 (.tup [.str "corner", vN]) d4 = some (.tup [.str "corner", vN]) := upd_same
    generalize upd M4 d4 (.tup [.str "corner", vN]) = D4 at y4 hd4 ⊢
    have hf4 := y4 _ _ hf4
    have hc4 := y4 _ _ hc4
    have tab := tab.ext y4
    have x4 := x4.trans (ExtN.of y4)
    refine ⟨(by show 2 ≤ sizeLine; decide), fun b4 nb4 => ?_⟩
    have z4 : Same D4 (upd D4 b4 (.tup [.ref f4, .ref d4])) := (Same.refl D4).new nb4
    have hb4 : upd D4 b4 (.tup [.ref f4, .ref d4]) b4 = some (.tup [.ref f4, .ref d4]) := upd_same
    generalize upd D4 b4 (.tup [.ref f4, .ref d4]) = B4 at z4 hb4 ⊢
    have hf4 := z4 _ _ hf4
    have hc4 := z4 _ _ hc4
    have tab := tab.ext z4
    have x4 := x4.trans (ExtN.of z4)
    have hd4 := z4 _ _ hd4
    have hw4 : DueAt vN 4 B4 (.ref d4) := ⟨d4, rfl, hd4⟩
    have hD4 := x4 _ _ ts.1 (fun _ z => nomatch z)
    obtain ⟨xG, tab, ts⟩ := row_push xG nD ts x4 tab hb4 hf4 hc4 hw4
    refine ⟨D, _, _, rfl, rfl, hD4, (by show 4 < sizeLine; decide), ?_⟩
    generalize upd B4 D (.lst (((([.ref b0] ++ [.ref b1]) ++ [.ref b2]) ++ [.ref b3]) ++ [.ref b4])) = G4 at xG ts tab ⊢
    refine ⟨_, rfl, .inl ⟨rfl, _, SqL.of ts.1⟩, tab, fun f5 c5 M5 x5 tab nf5 hf5 hc5 => ?_⟩
    have hf5 : M5 f5 = some (LamC f5 qRf (rowL K C hc 5).ar (rowL K C hc 5).bo (rowL K C hc 5).sco (cloFrom (cellsOf A s f cd) (rowL K C hc 5).sco.names []) c5) := hf5
    refine ⟨_, rfl, (by show 2 ≤ sizeLine; decide), fun d5 nd5 => ?_⟩
    have y5 : Same M5 (upd M5 d5 (.tup [.str "corner", vN])) := (Same.refl M5).new nd5
    have hd5 : upd M5 d5 (.tup [.str "corner", vN]) d5 = some (.tup [.str "corner", vN]) := upd_same
    generalize upd M5 d5 (.tup [.str "corner", vN]) = D5 at y5 hd5 ⊢
    have hf5 := y5 _ _ hf5
    have hc5 := y5 _ _ hc5
    have tab := tab.ext y5
    have x5 := x5.trans (ExtN.of y5)
    refine ⟨(by show 2 ≤ sizeLine; decide), fun b5 nb5 => ?_⟩
    have z5 : Same D5 (upd D5 b5 (.tup [.ref f5, .ref d5])) := (Same.refl D5).new nb5
    have hb5 : upd D5 b5 (.tup [.ref f5, .ref d5]) b5 = some (.tup [.ref f5, .ref d5]) := upd_same
    generalize upd D5 b5 (.tup [.ref f5, .ref d5]) = B5 at z5 hb5 ⊢
    have hf5 := z5 _ _ hf5
    have hc5 := z5 _ _ hc5
    have tab := tab.ext z5
    have x5 := x5.trans (ExtN.of z5)
    have hd5 := z5 _ _ hd5
    have hw5 : DueAt vN 5 B5 (.ref d5) := ⟨d5, rfl, hd5⟩
    have hD5 := x5 _ _ ts.1 (fun _ z => nomatch z)
    obtain ⟨xG, tab, ts⟩ := row_push xG nD ts x5 tab hb5 hf5 hc5 hw5
    refine ⟨D, _, _, rfl, rfl, hD5, (by show 5 < sizeLine; decide), ?_⟩
    generalize upd B5 D (.lst ((((([.ref b0] ++ [.ref b1]) ++ [.ref b2]) ++ [.ref b3]) ++ [.ref b4]) ++ [.ref b5])) = G5 at xG ts tab ⊢
    refine ⟨_, rfl, .inl ⟨rfl, _, SqL.of ts.1⟩, tab, fun f6 c6 M6 x6 tab nf6 hf6 hc6 => ?_⟩
    have hf6 : M6 f6 = some (LamC f6 qRf (rowL K C hc 6).ar (rowL K C hc 6).bo (rowL K C hc 6).sco (cloFrom (cellsOf A s f cd) (rowL K C hc 6).sco.names []) c6) := hf6
    refine ⟨(by show 2 ≤ sizeLine; decide), fun d6 nd6 => ?_⟩
    have y6 : Same M6 (upd M6 d6 (.tup [.str "twice", .int 2])) := (Same.refl M6).new nd6
    have hd6 : upd M6 d6 (.tup [.str "twice", .int 2]) d6 = some (.tup [.str "twice", .int 2]) := upd_same
    generalize upd M6 d6 (.tup [.str "twice", .int 2]) = D6 at y6 hd6 ⊢
    have hf6 := y6 _ _ hf6
    have hc6 := y6 _ _ hc6
    have tab := tab.ext y6
    have x6 := x6.trans (ExtN.of y6)
    refine ⟨(by show 2 ≤ sizeLine; decide), fun b6 nb6 => ?_⟩
    have z6 : Same D6 (upd D6 b6 (.tup [.ref f6, .ref d6])) := (Same.refl D6).new nb6
    have hb6 : upd D6 b6 (.tup [.ref f6, .ref d6]) b6 = some (.tup [.ref f6, .ref d6]) := upd_same
    generalize upd D6 b6 (.tup [.ref f6, .ref d6]) = B6 at z6 hb6 ⊢
    have hf6 := z6 _ _ hf6
    have hc6 := z6 _ _ hc6
    have tab := tab.ext z6
    have x6 := x6.trans (ExtN.of z6)
    have hd6 := z6 _ _ hd6
    have hw6 : DueAt vN 6 B6 (.ref d6) := ⟨d6, rfl, hd6⟩
    have hD6 := x6 _ _ ts.1 (fun _ z => nomatch z)
    obtain ⟨xG, tab, ts⟩ := row_push xG nD ts x6 tab hb6 hf6 hc6 hw6
    refine ⟨D, _, _, rfl, rfl, hD6, (by show 6 < sizeLine; decide), ?_⟩
    generalize upd B6 D (.lst (((((([.ref b0] ++ [.ref b1]) ++ [.ref b2]) ++ [.ref b3]) ++ [.ref b4]) ++ [.ref b5]) ++ [.ref b6])) = G6 at xG ts tab ⊢
    refine ⟨_, rfl, .inl ⟨rfl, _, SqL.of ts.1⟩, tab, fun f7 c7 M7 x7 tab nf7 hf7 hc7 => ?_⟩
    have hf7 : M7 f7 = some (LamC f7 qRf (rowL K C hc 7).ar (rowL K C hc 7).bo (rowL K C hc 7).sco (cloFrom (cellsOf A s f cd) (rowL K C hc 7).sco.names []) c7) := hf7
    refine ⟨(by show 2 ≤ sizeLine; decide), fun d7 nd7 => ?_⟩
    have y7 : Same M7 (upd M7 d7 (.tup [.str "ring", .str "ring"])) := (Same.refl M7).new nd7
    have hd7 : upd M7 d7 (.tup [.str "ring", .str "ring"]) d7 = some (.tup [.str "ring", .str "ring"]) := upd_same
    generalize upd M7 d7 (.tup [.str "ring", .str "ring"]) = D7 at y7 hd7 ⊢
    have hf7 := y7 _ _ hf7
    have hc7 := y7 _ _ hc7
    have tab := tab.ext y7
    have x7 := x7.trans (ExtN.of y7)
    refine ⟨(by show 2 ≤ sizeLine; decide), fun b7 nb7 => ?_⟩
    have z7 : Same D7 (upd D7 b7 (.tup [.ref f7, .ref d7])) := (Same.refl D7).new nb7
    have hb7 : upd D7 b7 (.tup [.ref f7, .ref d7]) b7 = some (.tup [.ref f7, .ref d7]) := upd_same
    generalize upd D7 b7 (.tup [.ref f7, .ref d7]) = B7 at z7 hb7 ⊢
    have hf7 := z7 _ _ hf7
    have hc7 := z7 _ _ hc7
    have tab := tab.ext z7
    have x7 := x7.trans (ExtN.of z7)
    have hd7 := z7 _ _ hd7
    have hw7 : DueAt vN 7 B7 (.ref d7) := ⟨d7, rfl, hd7⟩
    have hD7 := x7 _ _ ts.1 (fun _ z => nomatch z)
    obtain ⟨xG, tab, ts⟩ := row_push xG nD ts x7 tab hb7 hf7 hc7 hw7
    refine ⟨D, _, _, rfl, rfl, hD7, (by show 7 < sizeLine; decide), ?_⟩
    generalize upd B7 D (.lst ((((((([.ref b0] ++ [.ref b1]) ++ [.ref b2]) ++ [.ref b3]) ++ [.ref b4]) ++ [.ref b5]) ++ [.ref b6]) ++ [.ref b7])) = G7 at xG ts tab ⊢
    refine ⟨_, rfl, .inl ⟨rfl, _, SqL.of ts.1⟩, tab, fun f8 c8 M8 x8 tab nf8 hf8 hc8 => ?_⟩
    have hf8 : M8 f8 = some (LamC f8 qRf (rowL K C hc 8).ar (rowL K C hc 8).bo (rowL K C hc 8).sco (cloFrom (cellsOf A s f cd) (rowL K C hc 8).sco.names []) c8) := hf8
    refine ⟨_, rfl, (by show 2 ≤ sizeLine; decide), fun d8 nd8 => ?_⟩
    have y8 : Same M8 (upd M8 d8 (.tup [.str "corner", vN])) := (Same.refl M8).new nd8
    have hd8 : upd M8 d8 (.tup [.str "corner", vN]) d8 = some (.tup [.str "corner", vN]) := upd_same
    generalize upd M8 d8 (.tup [.str "corner", vN]) = D8 at y8 hd8 ⊢
    have hf8 := y8 _ _ hf8
    have hc8 := y8 _ _ hc8
    have tab := tab.ext y8
    have x8 := x8.trans (ExtN.of y8)
    refine ⟨(by show 2 ≤ sizeLine; decide), fun b8 nb8 => ?_⟩
    have z8 : Same D8 (upd D8 b8 (.tup [.ref f8, .ref d8])) := (Same.refl D8).new nb8
    have hb8 : upd D8 b8 (.tup [.ref f8, .ref d8]) b8 = some (.tup [.ref f8, .ref d8]) := upd_same
    generalize upd D8 b8 (.tup [.ref f8, .ref d8]) = B8 at z8 hb8 ⊢
    have hf8 := z8 _ _ hf8
    have hc8 := z8 _ _ hc8
    have tab := tab.ext z8
    have x8 := x8.trans (ExtN.of z8)
    have hd8 := z8 _ _ hd8
    have hw8 : DueAt vN 8 B8 (.ref d8) := ⟨d8, rfl, hd8⟩
    have hD8 := x8 _ _ ts.1 (fun _ z => nomatch z)
    obtain ⟨xG, tab, ts⟩ := row_push xG nD ts x8 tab hb8 hf8 hc8 hw8
    refine ⟨D, _, _, rfl, rfl, hD8, (by show 8 < sizeLine; decide), ?_⟩
    generalize upd B8 D (.lst (((((((([.ref b0] ++ [.ref b1]) ++ [.ref b2]) ++ [.ref b3]) ++ [.ref b4]) ++ [.ref b5]) ++ [.ref b6]) ++ [.ref b7]) ++ [.ref b8])) = G8 at xG ts tab ⊢
    refine ⟨_, rfl, .inl ⟨rfl, _, SqL.of ts.1⟩, tab, fun f9 c9 M9 x9 tab nf9 hf9 hc9 => ?_⟩
    have hf9 : M9 f9 = some (LamC f9 qRf (rowL K C hc 9).ar (rowL K C hc 9).bo (rowL K C hc 9).sco (cloFrom (cellsOf A s f cd) (rowL K C hc 9).sco.names []) c9) := hf9
    refine ⟨_, rfl, (by show 2 ≤ sizeLine; decide), fun d9 nd9 => ?_⟩
    have y9 : Same M9 (upd M9 d9 (.tup [.str "corner", vN])) := (Same.refl M9).new nd9
    have hd9 : upd M9 d9 (.tup [.str "corner", vN]) d9 = some (.tup [.str "corner", vN]) := upd_same
    generalize upd M9 d9 (.tup [.str "corner", vN]) = D9 at y9 hd9 ⊢
    have hf9 := y9 _ _ hf9
    have hc9 := y9 _ _ hc9
    have tab := tab.ext y9
    have x9 := x9.trans (ExtN.of y9)
    refine ⟨(by show 2 ≤ sizeLine; decide), fun b9 nb9 => ?_⟩
    have z9 : Same D9 (upd D9 b9 (.tup [.ref f9, .ref d9])) := (Same.refl D9).new nb9
    have hb9 : upd D9 b9 (.tup [.ref f9, .ref d9]) b9 = some (.tup [.ref f9, .ref d9]) := upd_same
    generalize upd D9 b9 (.tup [.ref f9, .ref d9]) = B9 at z9 hb9 ⊢
    have hf9 := z9 _ _ hf9
    have hc9 := z9 _ _ hc9
    have tab := tab.ext z9
    have x9 := x9.trans (ExtN.of z9)
    have hd9 := z9 _ _ hd9
    have hw9 : DueAt vN 9 B9 (.ref d9) := ⟨d9, rfl, hd9⟩
    have hD9 := x9 _ _ ts.1 (fun _ z => nomatch z)
    obtain ⟨xG, tab, ts⟩ := row_push xG nD ts x9 tab hb9 hf9 hc9 hw9
    refine ⟨D, _, _, rfl, rfl, hD9, (by show 9 < sizeLine; decide), ?_⟩
    generalize upd B9 D (.lst ((((((((([.ref b0] ++ [.ref b1]) ++ [.ref b2]) ++ [.ref b3]) ++ [.ref b4]) ++ [.ref b5]) ++ [.ref b6]) ++ [.ref b7]) ++ [.ref b8]) ++ [.ref b9])) = G9 at xG ts tab ⊢
    refine ⟨_, rfl, .inl ⟨rfl, _, SqL.of ts.1⟩, tab, fun f10 c10 M10 x10 tab nf10 hf10 hc10 => ?_⟩
    have hf10 : M10 f10 = some (LamC f10 qRf (rowL K C hc 10).ar (rowL K C hc 10).bo (rowL K C hc 10).sco (cloFrom (cellsOf A s f cd) (rowL K C hc 10).sco.names []) c10) := hf10
    refine ⟨_, rfl, (by show 2 ≤ sizeLine; decide), fun d10 nd10 => ?_⟩
    have y10 : Same M10 (upd M10 d10 (.tup [.str "corner", vN])) := (Same.refl M10).new nd10
    have hd10 : upd M10 d10 (.tup [.str "corner", vN]) d10 = some (.tup [.str "corner", vN]) := upd_same
    generalize upd M10 d10 (.tup [.str "corner", vN]) = D10 at y10 hd10 ⊢
    have hf10 := y10 _ _ hf10
    have hc10 := y10 _ _ hc10
    have tab := tab.ext y10
    have x10 := x10.trans (ExtN.of y10)
    refine ⟨(by show 2 ≤ sizeLine; decide), fun b10 nb10 => ?_⟩
    have z10 : Same D10 (upd D10 b10 (.tup [.ref f10, .ref d10])) := (Same.refl D10).new nb10
    have hb10 : upd D10 b10 (.tup [.ref f10, .ref d10]) b10 = some (.tup [.ref f10, .ref d10]) := upd_same
    generalize upd D10 b10 (.tup [.ref f10, .ref d10]) = B10 at z10 hb10 ⊢
    have hf10 := z10 _ _ hf10
    have hc10 := z10 _ _ hc10
    have tab := tab.ext z10
    have x10 := x10.trans (ExtN.of z10)
    have hd10 := z10 _ _ hd10
    have hw10 : DueAt vN 10 B10 (.ref d10) := ⟨d10, rfl, hd10⟩
    have hD10 := x10 _ _ ts.1 (fun _ z => nomatch z)
    obtain ⟨xG, tab, ts⟩ := row_push xG nD ts x10 tab hb10 hf10 hc10 hw10
    refine ⟨D, _, _, rfl, rfl, hD10, (by show 10 < sizeLine; decide), ?_⟩
    generalize upd B10 D (.lst (((((((((([.ref b0] ++ [.ref b1]) ++ [.ref b2]) ++ [.ref b3]) ++ [.ref b4]) ++ [.ref b5]) ++ [.ref b6]) ++ [.ref b7]) ++ [.ref b8]) ++ [.ref b9]) ++ [.ref b10])) = G10 at xG ts tab ⊢
    refine ⟨_, rfl, .inl ⟨rfl, _, SqL.of ts.1⟩, tab, fun f11 c11 M11 x11 tab nf11 hf11 hc11 => ?_⟩
    have hf11 : M11 f11 = some (LamC f11 qRf (rowL K C hc 11).ar (rowL K C hc 11).bo (rowL K C hc 11).sco (cloFrom (cellsOf A s f cd) (rowL K C hc 11).sco.names []) c11) := hf11
    refine ⟨(by show 2 ≤ sizeLine; decide), fun d11 nd11 => ?_⟩
    have y11 : Same M11 (upd M11 d11 (.tup [.str "twice", .int 1])) := (Same.refl M11).new nd11
    have hd11 : upd M11 d11 (.tup [.str "twice", .int 1]) d11 = some (.tup [.str "twice", .int 1]) := upd_same
    generalize upd M11 d11 (.tup [.str "twice", .int 1]) = D11 at y11 hd11 ⊢
    have hf11 := y11 _ _ hf11
    have hc11 := y11 _ _ hc11
    have tab := tab.ext y11
    have x11 := x11.trans (ExtN.of y11)
    refine ⟨(by show 2 ≤ sizeLine; decide), fun b11 nb11 => ?_⟩
    have z11 : Same D11 (upd D11 b11 (.tup [.ref f11, .ref d11])) := (Same.refl D11).new nb11
    have hb11 : upd D11 b11 (.tup [.ref f11, .ref d11]) b11 = some (.tup [.ref f11, .ref d11]) := upd_same
    generalize upd D11 b11 (.tup [.ref f11, .ref d11]) = B11 at z11 hb11 ⊢
    have hf11 := z11 _ _ hf11
    have hc11 := z11 _ _ hc11
    have tab := tab.ext z11
    have x11 := x11.trans (ExtN.of z11)
    have hd11 := z11 _ _ hd11
    have hw11 : DueAt vN 11 B11 (.ref d11) := ⟨d11, rfl, hd11⟩
    have hD11 := x11 _ _ ts.1 (fun _ z => nomatch z)
    obtain ⟨xG, tab, ts⟩ := row_push xG nD ts x11 tab hb11 hf11 hc11 hw11
    refine ⟨D, _, _, rfl, rfl, hD11, (by show 11 < sizeLine; decide), ?_⟩
    generalize upd B11 D (.lst ((((((((((([.ref b0] ++ [.ref b1]) ++ [.ref b2]) ++ [.ref b3]) ++ [.ref b4]) ++ [.ref b5]) ++ [.ref b6]) ++ [.ref b7]) ++ [.ref b8]) ++ [.ref b9]) ++ [.ref b10]) ++ [.ref b11])) = G11 at xG ts tab ⊢
    have F := F.ext xG hpx
    have hpx := xG _ _ hpx (fun _ z => nomatch z)
    generalize ((((((((((([V.ref b0] ++ [V.ref b1]) ++ [V.ref b2]) ++ [V.ref b3]) ++ [V.ref b4]) ++ [V.ref b5]) ++ [V.ref b6]) ++ [V.ref b7]) ++ [V.ref b8]) ++ [V.ref b9]) ++ [V.ref b10]) ++ [V.ref b11]) = us at ts
    refine ⟨_, rfl, D, rfl, ⟨us, SqL.of ts.1⟩, fun DD hDD => ?_⟩
    have fr : ExtN G11 (upd G11 DD (.lst [])) := ExtN.of ((Same.refl G11).new hDD)
    refine lc_list (K := K) (a := D) (xs := us) (fun i H' => ExtN G11 H' ∧ H' DD = some (.lst [])) ⟨fr, upd_same⟩ (fun i H' _ z => SqL.of (z.1 _ _ ts.1 (fun _ z => nomatch z))) ?_ ?_
    · rintro i x Hx hx ⟨xx, hdd⟩
      obtain ⟨j, hj, b, f', c', w, rfl, hb, hf, hc', hw⟩ := par_get (par_imp (fun _ _ z => z.ext xx) ts.2) hx
      have lt : j < 12 := by
        have := List.mem_of_getElem? hj
        simp only [List.cons_append, List.nil_append, List.mem_cons, List.not_mem_nil, or_false] at this
        omega
      have Fx := F.ext xx hpx
      refine ⟨b, _, rfl, SqT.of hb, rfl, _, _, rfl, _, _, rfl, rfl, rfl, ?_⟩
      refine ⟨j, f', c', lt, rfl, hf, hc', fun R hR => ⟨hf, (row_reads Fx KC rfl rfl rfl rfl rfl rfl j lt (DueQ.mono (fun v H z => ⟨_, rfl, z⟩) (due_ok Fx.no (fun H2 s => ⟨false, rfl, xx.trans s, s _ _ hdd (fun _ z => nomatch z)⟩) j lt hw)) R hR).2⟩⟩
    · rintro Hx ⟨xx, hdd⟩
      refine ⟨(by show 0 ≤ sizeLine; decide), fun e0 ne0 => ?_⟩
      have se : Same Hx (upd Hx e0 (.lst [])) := (Same.refl Hx).new ne0
      exact ⟨DD, e0, [], rfl, rfl, SqL.of (se _ _ hdd), SqL.of upd_same, q _⟩
end
end K
namespace K
open PySem L2 Rg LamX
open Evl (pss_cut)
section
variable {P : Program} {w : World} {K : PySem.W.Frag} {mg : Str → Option Value} {base : Heap}
/-! ### the law -/
abbrev nLW : List Str := ["_law_script", "_law_pen_here", "_law_turn"]
theorem scLaw : FnScope nLW ["_law_script"] (defScope sLaw) := ⟨rfl, rfl, rfl, by decide +kernel, rfl, by decide +kernel, by decide +kernel⟩
def spLaw (K : PySem.W.Frag) (T : List (Addr × Str)) : Sp := fun vs H Q _ => ∃ (a : Addr) (ns : List Int), vs = [.ref a] ∧ SqL K H a (ns.map V.int) ∧ ns.length ≤ 63 ∧ Tabs T H ∧ ∀ H', Q (.bl true) H'
theorem ok_law {P1 f fP fAM fAS fRR : Addr} {fd fdP fdAM fdAS fdRR : FuncData} (F : Fun K "law" "law" sLaw f fd) (T : Bi mg)
    (PN : DefAt P w K mg base CX0 2 "_law_pen" ["_law_script"] (spPen K) fP fdP) (AM : DefAtG P w K mg base CX0 6 "_law_arm_right" ["_law_pen_here"] (spAM K) fAM fdAM) (AS : DefAtG P w K mg base CX0 8 "_law_arcs_right" ["_law_pen_here"] (spAS K) fAS fdAS)
    (RR : DefAt P w K mg base CX0 12 "_law_refused_right" ["_law_pen_here"] (spRR K (T1 P1)) fRR fdRR) :
    FnG P w K mg base CX0 13 f fd ["_law_script"] (spLaw K (T1 P1)) := by
  refine F.okG scLaw (fun vs H Q E h => ?_) (fun cdv A outer s H vs Q E ga hr h => ?_)
  · obtain ⟨a, ns, rfl, _⟩ := h
    rfl
  · have nd := scLaw.nd
    have gX : (A.deeper (PyProof.Rows.envOfC "law" (defScope sLaw) s.heap.objs.size f cdv)).guards = some [] := ga
    refine ⟨_, (pss_cons (ps_set (i := 1) nd rfl (Or.inl rfl) (pe_call PN.ok (hr.mono (by decide)) rfl PN.g PN.kp PN.b .nil pass0 (pa_cons (pv 0) pa_nil)))
      (pss_cons (ps_for PassesOwn.never rfl (pi_range1 (by rfl) T.range (pa_cons pe_int pa_nil)) (pg_name (i := 2) nd rfl (Or.inl rfl))
        (pss_one (ps_if (PW.pt (pw_or (pt_not (pt_val (pe_callG AM.ok gX (hr.mono (by decide)) rfl AM.g AM.kp AM.b .nil pass0 (pa_cons (pv 1) pa_nil)))) (pw_or1 (pt_not (pt_val (pe_callG AS.ok gX (hr.mono (by decide)) rfl AS.g AS.kp AS.b .nil pass0 (pa_cons (pv 1) pa_nil))))))) (pss_one ps_never) pss_nil)))
      (pss_one (ps_ret (pe_call RR.ok (hr.mono (by decide)) rfl RR.g RR.kp RR.b .nil pass0 (pa_cons (pv 1) pa_nil)))))), ?_⟩
    obtain ⟨a, ns, rfl, hs, hl, tab, q⟩ := h
    refine ⟨_, rfl, a, ns, rfl, hs, hl, fun p e H1 s1 np pen1 => ?_⟩
    have tab1 := tab.ext s1
    refine ⟨_, rfl, by decide, by decide, ?_⟩
    refine for_range (lo := 0) (n := (3 : Int).toNat) (fun i σ H' => PenAt K H' p e (i * 200) ∧ Tabs (T1 P1) H' ∧ ∃ z2 : Option V, σ = [some (.ref a), some (.ref p), z2])
      ⟨by simpa using pen1, tab1, _, rfl⟩ ?_ ?_
    · rintro i σ H1 hi ⟨pen1, tab1, z2, rfl⟩
      have hi3 : i < 3 := hi
      refine ⟨_, rfl, p, e, _, rfl, by omega, pen1, fun H2 b2 pen2 => ⟨_, rfl, iteF ?_⟩⟩
      obtain ⟨px1, hp1⟩ := pen1.some
      have tab2 := tabs_but tab1 b2 hp1
      refine ⟨_, rfl, p, e, _, rfl, by omega, pen2, fun H3 b3 pen3 => ⟨_, rfl, iteF ?_⟩⟩
      obtain ⟨px2, hp2⟩ := pen2.some
      exact ⟨pen3.mono (by omega), tabs_but tab2 b3 hp2, _, rfl⟩
    · rintro σ H' ⟨pen, tab, z2, rfl⟩
      exact ⟨_, rfl, p, e, _, rfl, by decide, pen, tab, q⟩
end
end K
/-! the head by one kernel run, with the empty tables of the makers behind the written part -/
namespace K
open PySem
def tabF (ts : List Addr) : PySem.W.Frag := ts.map fun P => (P, PySem.W.tabObj #[])
theorem tabF_fst : ∀ ts : List Addr, (tabF ts).map (·.1) = ts
  | [] => rfl
  | P :: ts => congrArg (P :: ·) (tabF_fst ts)
theorem tabF_at : ∀ {ts : List Addr} {P : Addr}, P ∈ ts → List.lookup P (tabF ts) = some (PySem.W.tabObj #[])
  | Q :: ts, P, h => by
    show List.lookup P ((Q, PySem.W.tabObj #[]) :: tabF ts) = _
    rw [List.lookup_cons]
    by_cases c : P = Q
    · rw [c]
      simp
    · rw [show (P == Q) = false from beq_eq_false_iff_ne.mpr c]
      exact tabF_at ((List.mem_cons.mp h).resolve_left c)
section
variable {K : Params → PySem.W.Frag} {as ts : List Addr} {e : ∀ P, as ++ ts = (K P ++ tabF ts).map (·.1)} {w : World} {h : Heap}
theorem kk_in_of (Y : (PySem.W.kHook (fun P => K P ++ tabF ts) (as ++ ts) e).says w h) : (K w.params).In h := fun a o q => (show (K w.params ++ tabF ts).In h from Y) a o (by
  show List.lookup a (K w.params ++ tabF ts) = _
  rw [List.lookup_append, show List.lookup a (K w.params) = some o from q]
  rfl)
theorem kk_out_of (_ : (PySem.W.kHook (fun P => K P ++ tabF ts) (as ++ ts) e).says w h) {P : Addr} (hP : P ∉ as) : (K w.params).lookup P = none := by
  have q := e w.params
  rw [List.map_append, tabF_fst] at q
  have q2 : as = (K w.params).map (·.1) := List.append_cancel_right q
  show List.lookup P (K w.params) = none
  rw [q2] at hP
  clear q q2
  generalize K w.params = l at hP
  induction l with
  | nil => rfl
  | cons x l ih =>
    obtain ⟨a, o⟩ := x
    rw [List.lookup_cons]
    rw [List.map_cons] at hP
    rw [show (P == a) = false from beq_eq_false_iff_ne.mpr fun z => hP (by rw [z]; exact List.mem_cons_self ..)]
    exact ih fun z => hP (List.mem_cons_of_mem _ z)
theorem kk_tabs_of (Y : (PySem.W.kHook (fun P => K P ++ tabF ts) (as ++ ts) e).says w h) {P : Addr} (hP : P ∈ ts) (hn : P ∉ as) : h.get? P = some (PySem.W.tabObj #[]) := (show (K w.params ++ tabF ts).In h from Y) P _ (by
  show List.lookup P (K w.params ++ tabF ts) = _
  rw [List.lookup_append, show List.lookup P (K w.params) = none from kk_out_of Y hn, tabF_at hP]
  rfl)
end
end K
/-! the head by three kernel runs: the looks, the view (law alone), the written part -/
namespace K
open PySem PySem.W PySem.Calls PyProof.Rows HeadRun
def lo12_0 : List PySem.Str := ["_wall", "__name__", "is_integer", "is_within", "is_list", "are_positive", "__name__", "RingError", "BadRing", "BadNumber", "Missing", "NoCorner", "Twice", "TooMany", "BadText", "__name__", "want_number", "want_corner", "want_two_corners", "__name__", "MOST_DIGITS", "items_of", "integer_of", "item_at", "number_at", "__name__", "LEAST_BARS", "MOST_BARS", "MOST_LENGTH", "Ring", "are_lengths", "has_level"]
def lo12_1 : List PySem.Str := ["read_ring", "want_ring", "__name__", "MOST_ARM", "arc_bars", "arm_range", "arc_range", "__name__", "_law_pen", "_law_draw", "_law_pick", "_law_reach", "_law_arc", "_law_mixed", "_law_heard", "_law_length", "_law_arm_right", "_law_arcs_right", "_law_refused_right"]
def lo12 : List PySem.Str := lo12_0 ++ lo12_1
abbrev rr12 : OpenRow := OpenLaw.row PySem.Challenge.rw_ringbars_k12_arms_and_arcs_bar_by_bar
abbrev qv12 : Program := view rr12.prog [51]
def topD (p : Program) (i : Nat) : DefRec := match p.main.body[i]? with
  | some (.FunctionDef n a b _ _ _ sc _ _ pos) => ⟨n, a, b, sc, pos⟩
  | _ => ⟨"law", ⟨[], [], none, [], [], none, []⟩, [], ⟨.function, [], false, false, []⟩, default⟩
abbrev d12 : DefRec := topD rr12.prog 51
theorem d12_name : d12.name = ("law" : PySem.Str) := by kernel_rfl
theorem seen12 (w : World) (os : OsState) : (endF (stepQ (denQ tabQ) rr12.prog w) 14736 rr12.prog w os).map (fun s => seenQ qv12 lo12 (importedModules rr12.prog.main.body) (fun s => xlAt qv12 [] s && recOk (RowW.records rr12.toRowW) s) s.abs) = some (openGood qv12 lo12) := by kernel_rfl
theorem looks12 (w : World) (os : OsState) : (endF (stepQ (denQ tabQ) rr12.prog w) 14736 rr12.prog w os).map (fun s => looksF rr12.prog (boot_heap w.params) s.abs) = some true := by kernel_rfl
theorem map3 {α β γ δ : Type} {o : Option α} {A : α → β} {B : α → γ} {C : α → δ} {a : β} {b : γ} {c : δ} (h1 : o.map A = some a) (h2 : o.map B = some b) (h3 : o.map C = some c) : o.map (fun s => (A s, B s, C s)) = some (a, b, c) := by
  cases o with
  | none => cases h1
  | some x =>
    cases h1
    cases h2
    cases h3
    rfl
section
variable {Kf : Params → Frag} {as ts : List Addr}
theorem left12 (e : ∀ P, as ++ ts = (Kf P ++ tabF ts).map (·.1)) (ob : ∀ (w : World) (os : OsState), (endF (stepQ (denQ tabQ) rr12.prog w) 14736 rr12.prog w os).map (fun s => (as ++ ts).map (getT s)) = some ((Kf w.params ++ tabF ts).map fun x => some x.2)) :
    LeftO rr12.prog qv12 lo12 (fun s => xlAt qv12 [] s && recOk (RowW.records rr12.toRowW) s) (Hook.obs (kHook (fun P => Kf P ++ tabF ts) (as ++ ts) e)) (Hook.val (kHook (fun P => Kf P ++ tabF ts) (as ++ ts) e)) 15436 true :=
  left_oneK (M := 14736) (by kernel_rfl) (by rfl) (fun s => by kernel_rfl) (by rfl) fun w os => map3 (looks12 w os) (seen12 w os) (ob w os)
theorem head12 (e : ∀ P, as ++ ts = (Kf P ++ tabF ts).map (·.1)) (ob : ∀ (w : World) (os : OsState), (endF (stepQ (denQ tabQ) rr12.prog w) 14736 rr12.prog w os).map (fun s => (as ++ ts).map (getT s)) = some ((Kf w.params ++ tabF ts).map fun x => some x.2))
    (hw : rr12.toRowW.promised) (call : WalkO qv12 lo12 (XL qv12 []) (Hook.says (kHook (fun P => Kf P ++ tabF ts) (as ++ ts) e)) rr12.toRowW d12 [] fun f vs => PySem.call f vs) : rr12.Holds :=
  holds_open (r := rr12) (q := qv12) (loose := lo12) (XP := XL qv12 []) (YP := Hook.says (kHook (fun P => Kf P ++ tabF ts) (as ++ ts) e)) (d := d12) (kwd := []) (left12 e ob) (Hook.of _) (Hook.keeps _) (fun s z => xl_of s (Bool.and_eq_true_iff.mp z).1) XL.keeps (by kernel_rfl) (by kernel_rfl) (by kernel_rfl) (fun s z => recFacts_of (Bool.and_eq_true_iff.mp z).2) (by kernel_rfl) (by first | assumption | decide +kernel) (by decide +kernel) ⟨rfl, rfl, rfl, rfl, rfl, by decide +kernel⟩ hw call
end
end K
namespace K
open PySem L2 Rg LamX
theorem kb_one {K : PySem.W.Frag} {fd : FuncData} (h : ∀ (b : Value) (s : Shared), BindsTo s fd ⟨[], [("lengths", b)]⟩ [("lengths", b)]) : KBinds K fd ["lengths"] ["lengths"] gK1 gK1 := by
  refine ⟨fun s us ws _ hl => ?_, fun {vs us zs ws} r1 r2 => ?_⟩
  · match us, ws, hl with
    | [], [b], _ => exact h b s
  · cases r1 with
    | nil =>
      cases r2 with
      | nil => exact .nil
      | cons y t2 =>
        cases t2 with
        | nil => exact .cons y .nil
        | cons _ _ => exact .nil
    | cons _ _ => exact .nil
theorem kb_ab {K : PySem.W.Frag} {fd : FuncData} (h : ∀ (v a b : Value) (s : Shared), BindsTo s fd ⟨[], [("other", v), ("one", a), ("many", b)]⟩ [("many", b), ("one", a), ("other", v)]) : KBinds K fd ["many", "one", "other"] ["other", "one", "many"] gK3 gK3 := by
  refine ⟨fun s us ws _ hl => ?_, fun {vs us zs ws} r1 r2 => ?_⟩
  · match us, ws, hl with
    | [], [v, a, b], _ => exact h v a b s
  · cases r1 with
    | nil =>
      cases r2 with
      | nil => exact .nil
      | cons x t =>
        cases t with
        | nil => exact .nil
        | cons y t2 =>
          cases t2 with
          | nil => exact .nil
          | cons z t3 =>
            cases t3 with
            | nil => exact .cons z (.cons y (.cons x .nil))
            | cons _ _ => exact .nil
    | cons _ _ => exact .nil
theorem kb_ag {K : PySem.W.Frag} {fd : FuncData} (h : ∀ (v a b : Value) (s : Shared), BindsTo s fd ⟨[], [("other", v), ("one", a), ("ring", b)]⟩ [("ring", b), ("one", a), ("other", v)]) : KBinds K fd ["ring", "one", "other"] ["other", "one", "ring"] gK3 gK3 := by
  refine ⟨fun s us ws _ hl => ?_, fun {vs us zs ws} r1 r2 => ?_⟩
  · match us, ws, hl with
    | [], [v, a, b], _ => exact h v a b s
  · cases r1 with
    | nil =>
      cases r2 with
      | nil => exact .nil
      | cons x t =>
        cases t with
        | nil => exact .nil
        | cons y t2 =>
          cases t2 with
          | nil => exact .nil
          | cons z t3 =>
            cases t3 with
            | nil => exact .cons z (.cons y (.cons x .nil))
            | cons _ _ => exact .nil
    | cons _ _ => exact .nil
section
variable {P : Program} {w : World} {K : PySem.W.Frag} {mg : Str → Option Value} {base : Heap}
theorem scBadRing : FnScope ["self", "part"] ["self", "part"] (defScope sBadRingInit) := ⟨rfl, rfl, rfl, by decide +kernel, rfl, by decide +kernel, by decide +kernel⟩
theorem ok_badRingI {f : Addr} {fd : FuncData} (F : Fun K "__init__" "BadRing.__init__" sBadRingInit f fd) : FnOk P w K mg base CX0 1 f fd ["self", "part"] (spIni K "part") := by
  refine F.ok scBadRing (fun vs H Q E h => ?_) (fun cdv A outer s H vs Q E hr h => ?_)
  · obtain ⟨a, C, v, rfl, _⟩ := h
    rfl
  · refine ⟨_, pss_one (ps_ost (pv 0) (pv 1)), ?_⟩
    obtain ⟨a, C, v, rfl, o, n, ha, k⟩ := h
    exact ⟨_, rfl, _, rfl, a, C, rfl, o, n, .inl ⟨ha, fun d h1 h2 => k d h1 h2⟩⟩
end
theorem code_hd {K : PySem.W.Frag} {c P : Addr} {o : Obj} (l : K.lookup c = some o) (h : PySem.W.codeHdIn [(c, o)] c P = true) : PySem.W.codeHdIn K c P = true := by
  have e : List.lookup c [(c, o)] = some o := by simp [List.lookup]
  unfold PySem.W.codeHdIn at h ⊢
  rw [e] at h
  rw [l]
  exact h
theorem lookup_out {K : PySem.W.Frag} {P : Addr} : ∀ {as : List Addr}, as = K.map (·.1) → P ∉ as → K.lookup P = none := by
  intro as e h
  subst e
  induction K with
  | nil => rfl
  | cons x r ih =>
    obtain ⟨a, o⟩ := x
    rw [List.map_cons, List.mem_cons, not_or] at h
    have hne : (P == a) = false := by simpa using h.1
    rw [List.lookup_cons, hne]
    exact ih h.2
theorem out_of {K : Params → PySem.W.Frag} {as : List Addr} {e : ∀ P, as = (K P).map (·.1)} {ts : List Addr} {w : World} {h : Heap} (_ : (PySem.W.kmHook K as e ts).says w h) {P : Addr} (hP : P ∉ as) : (K w.params).lookup P = none := lookup_out (e w.params) hP


theorem all_mk {l : PySem.W.OpenLaw} {w : World} {K : PySem.W.Frag} {h : Heap} {mg : Str → Option Value} {fa : Addr} (X : K.In h) (G : h.Ns mainGlobals mg) (hfa : mg "law" = some (.ref fa))
    {C eX eB eR eN eT f0 f1 f2 f3 f4 f5 f6 f7 f8 f9 f10 f11 f12 f13 f14 f15 f16 f17 f18 f19 f20 f21 f22 f23 cRR f24 fm0 fm1 fm2 fm3 fm4 fm5 fm6 P1 : Addr} {od0 an0 od1 an1 od2 an2 od3 an3 od4 an4 od5 an5 od6 an6 od7 an7 od8 an8 od9 an9 od10 an10 od11 an11 od12 an12 od13 an13 od14 an14 od15 an15 od16 an16 od17 an17 od18 an18 od19 an19 od20 an20 od21 an21 od22 an22 od23 an23 od24 an24 odm0 anm0 odm1 anm1 odm2 anm2 odm3 anm3 odm4 anm4 odm5 anm5 odm6 anm6 odc1 : Option Addr} {sl0 sl1 sl2 sl3 sl4 sl5 sl6 sl7 sl8 sl9 sl10 sl11 sl12 sl13 sl14 sl15 sl16 sl17 sl18 sl19 sl20 sl21 sl22 sl23 sl24 slm0 slm1 slm2 slm3 slm4 slm5 slm6 slc1 : Array (Option Value)} {oc0 kV0 dc0 pm0 ct0 cd0 oc1 kV1 dc1 pm1 ct1 cd1 oc2 kV2 dc2 pm2 ct2 cd2 oc3 kV3 dc3 pm3 ct3 cd3 oc4 kV4 dc4 pm4 ct4 cd4 oc5 kV5 dc5 pm5 ct5 cd5 oc6 kV6 dc6 pm6 ct6 cd6 oc7 kV7 dc7 pm7 ct7 cd7 oc8 kV8 dc8 pm8 ct8 cd8 oc9 kV9 dc9 pm9 ct9 cd9 oc10 kV10 dc10 pm10 ct10 cd10 oc11 kV11 dc11 pm11 ct11 cd11 oc12 kV12 dc12 pm12 ct12 cd12 oc13 kV13 dc13 pm13 ct13 cd13 oc14 kV14 dc14 pm14 ct14 cd14 oc15 kV15 dc15 pm15 ct15 cd15 oc16 kV16 dc16 pm16 ct16 cd16 oc17 kV17 dc17 pm17 ct17 cd17 oc18 kV18 dc18 pm18 ct18 cd18 oc19 kV19 dc19 pm19 ct19 cd19 oc20 kV20 dc20 pm20 ct20 cd20 oc21 kV21 dc21 pm21 ct21 cd21 oc22 kV22 dc22 pm22 ct22 cd22 oc23 kV23 dc23 pm23 ct23 oc24 kV24 dc24 pm24 ct24 cd24 ocm0 kVm0 dcm0 pmm0 ctm0 cdm0 ocm1 kVm1 dcm1 pmm1 ctm1 cdm1 ocm2 kVm2 dcm2 pmm2 ctm2 cdm2 ocm3 kVm3 dcm3 pmm3 ctm3 cdm3 ocm4 kVm4 dcm4 pmm4 ctm4 cdm4 ocm5 kVm5 dcm5 pmm5 ctm5 cdm5 ocm6 kVm6 dcm6 pmm6 ctm6 cdm6 : Value} {tkMOST_LENGTH tkLEAST_BARS tkMOST_BARS tkMOST_ARM : Tok} {vsc1 : Array Value}
    {nmeB nmeR nmeN nmeT qqeB qqeR qqeN qqeT : Str} {NeB NeR NeN NeT : Addr} {bseB bseR bseN bseT : List Value} {bmeB bmeR bmeN bmeT : List Value} {sneB sneR sneN sneT : List Str} {subeB subeR subeN subeT : List Value} {abeB abeR abeN abeT : Bool} {coleB coleR coleN coleT : Option Bool} {ddeB ddeR ddeN ddeT : Option Addr} {k0eB k1eB k2eB k3eB k5eB k0eR k1eR k2eR k3eR k5eR k0eN k1eN k2eN k3eN k5eN k0eT k1eT k2eT k3eT k5eT : Option Value}
    (aC : PySem.W.nsIn K mainGlobals "Ring" = some (some (.ref C)))
    (aeX : PySem.W.nsIn K mainGlobals "RingError" = some (some (.ref eX)))
    (aeB : PySem.W.nsIn K mainGlobals "BadNumber" = some (some (.ref eB)))
    (aeR : PySem.W.nsIn K mainGlobals "BadRing" = some (some (.ref eR)))
    (aeN : PySem.W.nsIn K mainGlobals "NoCorner" = some (some (.ref eN)))
    (aeT : PySem.W.nsIn K mainGlobals "Twice" = some (some (.ref eT)))
    (a0 : PySem.W.nsIn K mainGlobals "is_integer" = some (some (.ref f0)))
    (l0 : K.lookup f0 = some ⟨oc0, od0, .func (PySem.W.fnOf "is_integer" "is_integer" (defArgs sIsInteger) (defBody sIsInteger) (defScope sIsInteger) .none kV0 dc0 pm0 an0 cd0 ct0), sl0⟩)
    (c0 : PySem.W.codeIn K cd0 "is_integer" = true)
    (k0 : PySem.W.keepIn K (.ref f0) = true)
    (a1 : PySem.W.nsIn K mainGlobals "is_within" = some (some (.ref f1)))
    (l1 : K.lookup f1 = some ⟨oc1, od1, .func (PySem.W.fnOf "is_within" "is_within" (defArgs sIsWithin) (defBody sIsWithin) (defScope sIsWithin) .none kV1 dc1 pm1 an1 cd1 ct1), sl1⟩)
    (c1 : PySem.W.codeIn K cd1 "is_within" = true)
    (k1 : PySem.W.keepIn K (.ref f1) = true)
    (a2 : PySem.W.nsIn K mainGlobals "is_list" = some (some (.ref f2)))
    (l2 : K.lookup f2 = some ⟨oc2, od2, .func (PySem.W.fnOf "is_list" "is_list" (defArgs sIsList) (defBody sIsList) (defScope sIsList) .none kV2 dc2 pm2 an2 cd2 ct2), sl2⟩)
    (c2 : PySem.W.codeIn K cd2 "is_list" = true)
    (k2 : PySem.W.keepIn K (.ref f2) = true)
    (a3 : PySem.W.nsIn K mainGlobals "are_positive" = some (some (.ref f3)))
    (l3 : K.lookup f3 = some ⟨oc3, od3, .func (PySem.W.fnOf "are_positive" "are_positive" (defArgs sArePositive) (defBody sArePositive) (defScope sArePositive) .none kV3 dc3 pm3 an3 cd3 ct3), sl3⟩)
    (c3 : PySem.W.codeIn K cd3 "are_positive" = true)
    (k3 : PySem.W.keepIn K (.ref f3) = true)
    (a4 : PySem.W.nsIn K mainGlobals "are_lengths" = some (some (.ref f4)))
    (l4 : K.lookup f4 = some ⟨oc4, od4, .func (PySem.W.fnOf "are_lengths" "are_lengths" (defArgs sAreLengths) (defBody sAreLengths) (defScope sAreLengths) .none kV4 dc4 pm4 an4 cd4 ct4), sl4⟩)
    (c4 : PySem.W.codeIn K cd4 "are_lengths" = true)
    (k4 : PySem.W.keepIn K (.ref f4) = true)
    (a5 : PySem.W.nsIn K mainGlobals "has_level" = some (some (.ref f5)))
    (l5 : K.lookup f5 = some ⟨oc5, od5, .func (PySem.W.fnOf "has_level" "has_level" (defArgs sHasLevel) (defBody sHasLevel) (defScope sHasLevel) .none kV5 dc5 pm5 an5 cd5 ct5), sl5⟩)
    (c5 : PySem.W.codeIn K cd5 "has_level" = true)
    (k5 : PySem.W.keepIn K (.ref f5) = true)
    (a6 : PySem.W.nsIn K mainGlobals "want_number" = some (some (.ref f6)))
    (l6 : K.lookup f6 = some ⟨oc6, od6, .func (PySem.W.fnOf "want_number" "want_number" (defArgs sWantNumber) (defBody sWantNumber) (defScope sWantNumber) .none kV6 dc6 pm6 an6 cd6 ct6), sl6⟩)
    (c6 : PySem.W.codeIn K cd6 "want_number" = true)
    (k6 : PySem.W.keepIn K (.ref f6) = true)
    (a7 : PySem.W.nsIn K mainGlobals "want_corner" = some (some (.ref f7)))
    (l7 : K.lookup f7 = some ⟨oc7, od7, .func (PySem.W.fnOf "want_corner" "want_corner" (defArgs sWantCorner) (defBody sWantCorner) (defScope sWantCorner) .none kV7 dc7 pm7 an7 cd7 ct7), sl7⟩)
    (c7 : PySem.W.codeIn K cd7 "want_corner" = true)
    (k7 : PySem.W.keepIn K (.ref f7) = true)
    (a8 : PySem.W.nsIn K mainGlobals "want_two_corners" = some (some (.ref f8)))
    (l8 : K.lookup f8 = some ⟨oc8, od8, .func (PySem.W.fnOf "want_two_corners" "want_two_corners" (defArgs sWantTwoCorners) (defBody sWantTwoCorners) (defScope sWantTwoCorners) .none kV8 dc8 pm8 an8 cd8 ct8), sl8⟩)
    (c8 : PySem.W.codeIn K cd8 "want_two_corners" = true)
    (k8 : PySem.W.keepIn K (.ref f8) = true)
    (a9 : PySem.W.nsIn K mainGlobals "want_ring" = some (some (.ref f9)))
    (l9 : K.lookup f9 = some ⟨oc9, od9, .func (PySem.W.fnOf "want_ring" "want_ring" (defArgs sWantRing) (defBody sWantRing) (defScope sWantRing) .none kV9 dc9 pm9 an9 cd9 ct9), sl9⟩)
    (c9 : PySem.W.codeIn K cd9 "want_ring" = true)
    (k9 : PySem.W.keepIn K (.ref f9) = true)
    (a10 : PySem.W.nsIn K mainGlobals "arc_bars" = some (some (.ref f10)))
    (l10 : K.lookup f10 = some ⟨oc10, od10, .func (PySem.W.fnOf "arc_bars" "arc_bars" (defArgs sArcBars) (defBody sArcBars) (defScope sArcBars) .none kV10 dc10 pm10 an10 cd10 ct10), sl10⟩)
    (c10 : PySem.W.codeIn K cd10 "arc_bars" = true)
    (k10 : PySem.W.keepIn K (.ref f10) = true)
    (a11 : PySem.W.nsIn K mainGlobals "arm_range" = some (some (.ref f11)))
    (l11 : K.lookup f11 = some ⟨oc11, od11, .func (PySem.W.fnOf "arm_range" "arm_range" (defArgs sArmRange) (defBody sArmRange) (defScope sArmRange) .none kV11 dc11 pm11 an11 cd11 ct11), sl11⟩)
    (c11 : PySem.W.codeIn K cd11 "arm_range" = true)
    (k11 : PySem.W.keepIn K (.ref f11) = true)
    (a12 : PySem.W.nsIn K mainGlobals "arc_range" = some (some (.ref f12)))
    (l12 : K.lookup f12 = some ⟨oc12, od12, .func (PySem.W.fnOf "arc_range" "arc_range" (defArgs sArcRange) (defBody sArcRange) (defScope sArcRange) .none kV12 dc12 pm12 an12 cd12 ct12), sl12⟩)
    (c12 : PySem.W.codeIn K cd12 "arc_range" = true)
    (k12 : PySem.W.keepIn K (.ref f12) = true)
    (a13 : PySem.W.nsIn K mainGlobals "_law_pen" = some (some (.ref f13)))
    (l13 : K.lookup f13 = some ⟨oc13, od13, .func (PySem.W.fnOf "_law_pen" "_law_pen" (defArgs sLwPen) (defBody sLwPen) (defScope sLwPen) .none kV13 dc13 pm13 an13 cd13 ct13), sl13⟩)
    (c13 : PySem.W.codeIn K cd13 "_law_pen" = true)
    (k13 : PySem.W.keepIn K (.ref f13) = true)
    (a14 : PySem.W.nsIn K mainGlobals "_law_draw" = some (some (.ref f14)))
    (l14 : K.lookup f14 = some ⟨oc14, od14, .func (PySem.W.fnOf "_law_draw" "_law_draw" (defArgs sLwDraw) (defBody sLwDraw) (defScope sLwDraw) .none kV14 dc14 pm14 an14 cd14 ct14), sl14⟩)
    (c14 : PySem.W.codeIn K cd14 "_law_draw" = true)
    (k14 : PySem.W.keepIn K (.ref f14) = true)
    (a15 : PySem.W.nsIn K mainGlobals "_law_pick" = some (some (.ref f15)))
    (l15 : K.lookup f15 = some ⟨oc15, od15, .func (PySem.W.fnOf "_law_pick" "_law_pick" (defArgs sLwPick) (defBody sLwPick) (defScope sLwPick) .none kV15 dc15 pm15 an15 cd15 ct15), sl15⟩)
    (c15 : PySem.W.codeIn K cd15 "_law_pick" = true)
    (k15 : PySem.W.keepIn K (.ref f15) = true)
    (a16 : PySem.W.nsIn K mainGlobals "_law_mixed" = some (some (.ref f16)))
    (l16 : K.lookup f16 = some ⟨oc16, od16, .func (PySem.W.fnOf "_law_mixed" "_law_mixed" (defArgs sLwMixed) (defBody sLwMixed) (defScope sLwMixed) .none kV16 dc16 pm16 an16 cd16 ct16), sl16⟩)
    (c16 : PySem.W.codeIn K cd16 "_law_mixed" = true)
    (k16 : PySem.W.keepIn K (.ref f16) = true)
    (a17 : PySem.W.nsIn K mainGlobals "_law_length" = some (some (.ref f17)))
    (l17 : K.lookup f17 = some ⟨oc17, od17, .func (PySem.W.fnOf "_law_length" "_law_length" (defArgs sLwLength) (defBody sLwLength) (defScope sLwLength) .none kV17 dc17 pm17 an17 cd17 ct17), sl17⟩)
    (c17 : PySem.W.codeIn K cd17 "_law_length" = true)
    (k17 : PySem.W.keepIn K (.ref f17) = true)
    (a18 : PySem.W.nsIn K mainGlobals "_law_reach" = some (some (.ref f18)))
    (l18 : K.lookup f18 = some ⟨oc18, od18, .func (PySem.W.fnOf "_law_reach" "_law_reach" (defArgs sLwReach) (defBody sLwReach) (defScope sLwReach) .none kV18 dc18 pm18 an18 cd18 ct18), sl18⟩)
    (c18 : PySem.W.codeIn K cd18 "_law_reach" = true)
    (k18 : PySem.W.keepIn K (.ref f18) = true)
    (a19 : PySem.W.nsIn K mainGlobals "_law_arc" = some (some (.ref f19)))
    (l19 : K.lookup f19 = some ⟨oc19, od19, .func (PySem.W.fnOf "_law_arc" "_law_arc" (defArgs sLwArc) (defBody sLwArc) (defScope sLwArc) .none kV19 dc19 pm19 an19 cd19 ct19), sl19⟩)
    (c19 : PySem.W.codeIn K cd19 "_law_arc" = true)
    (k19 : PySem.W.keepIn K (.ref f19) = true)
    (a20 : PySem.W.nsIn K mainGlobals "_law_arm_right" = some (some (.ref f20)))
    (l20 : K.lookup f20 = some ⟨oc20, od20, .func (PySem.W.fnOf "_law_arm_right" "_law_arm_right" (defArgs sLwArmRight) (defBody sLwArmRight) (defScope sLwArmRight) .none kV20 dc20 pm20 an20 cd20 ct20), sl20⟩)
    (c20 : PySem.W.codeIn K cd20 "_law_arm_right" = true)
    (k20 : PySem.W.keepIn K (.ref f20) = true)
    (a21 : PySem.W.nsIn K mainGlobals "_law_arcs_right" = some (some (.ref f21)))
    (l21 : K.lookup f21 = some ⟨oc21, od21, .func (PySem.W.fnOf "_law_arcs_right" "_law_arcs_right" (defArgs sLwArcsRight) (defBody sLwArcsRight) (defScope sLwArcsRight) .none kV21 dc21 pm21 an21 cd21 ct21), sl21⟩)
    (c21 : PySem.W.codeIn K cd21 "_law_arcs_right" = true)
    (k21 : PySem.W.keepIn K (.ref f21) = true)
    (a22 : PySem.W.nsIn K mainGlobals "_law_heard" = some (some (.ref f22)))
    (l22 : K.lookup f22 = some ⟨oc22, od22, .func (PySem.W.fnOf "_law_heard" "_law_heard" (defArgs sLwHeard) (defBody sLwHeard) (defScope sLwHeard) .none kV22 dc22 pm22 an22 cd22 ct22), sl22⟩)
    (c22 : PySem.W.codeIn K cd22 "_law_heard" = true)
    (k22 : PySem.W.keepIn K (.ref f22) = true)
    (a23 : PySem.W.nsIn K mainGlobals "_law_refused_right" = some (some (.ref f23)))
    (l23 : K.lookup f23 = some ⟨oc23, od23, .func (PySem.W.fnOf "_law_refused_right" "_law_refused_right" (defArgs sLwRefusedRight) (defBody sLwRefusedRight) (defScope sLwRefusedRight) .none kV23 dc23 pm23 an23 (.ref cRR) ct23), sl23⟩)
    (c23 : PySem.W.codeIn K (.ref cRR) "_law_refused_right" = true)
    (k23 : PySem.W.keepIn K (.ref f23) = true)
    (a24 : PySem.W.nsIn K mainGlobals "law" = some (some (.ref f24)))
    (l24 : K.lookup f24 = some ⟨oc24, od24, .func (PySem.W.fnOf "law" "law" (defArgs sLaw) (defBody sLaw) (defScope sLaw) .none kV24 dc24 pm24 an24 cd24 ct24), sl24⟩)
    (c24 : PySem.W.codeIn K cd24 "law" = true)
    (k24 : PySem.W.keepIn K (.ref f24) = true)
    (am0 : PySem.W.findIn K (.ref C) "__init__" = some (some (.ref fm0)))
    (im0 : PySem.W.isFn K (.ref fm0) = true)
    (lm0 : K.lookup fm0 = some ⟨ocm0, odm0, .func (PySem.W.fnOf "__init__" "Ring.__init__" (defArgs sRingInit) (defBody sRingInit) (defScope sRingInit) .none kVm0 dcm0 pmm0 anm0 cdm0 ctm0), slm0⟩)
    (cm0 : PySem.W.codeIn K cdm0 "Ring.__init__" = true)
    (km0 : PySem.W.keepIn K (.ref fm0) = true)
    (am1 : PySem.W.findIn K (.ref C) "__len__" = some (some (.ref fm1)))
    (im1 : PySem.W.isFn K (.ref fm1) = true)
    (lm1 : K.lookup fm1 = some ⟨ocm1, odm1, .func (PySem.W.fnOf "__len__" "Ring.__len__" (defArgs sRingLen) (defBody sRingLen) (defScope sRingLen) .none kVm1 dcm1 pmm1 anm1 cdm1 ctm1), slm1⟩)
    (cm1 : PySem.W.codeIn K cdm1 "Ring.__len__" = true)
    (km1 : PySem.W.keepIn K (.ref fm1) = true)
    (am2 : PySem.W.findIn K (.ref C) "__str__" = some (some (.ref fm2)))
    (im2 : PySem.W.isFn K (.ref fm2) = true)
    (lm2 : K.lookup fm2 = some ⟨ocm2, odm2, .func (PySem.W.fnOf "__str__" "Ring.__str__" (defArgs sRingStr) (defBody sRingStr) (defScope sRingStr) .none kVm2 dcm2 pmm2 anm2 cdm2 ctm2), slm2⟩)
    (cm2 : PySem.W.codeIn K cdm2 "Ring.__str__" = true)
    (km2 : PySem.W.keepIn K (.ref fm2) = true)
    (am3 : PySem.W.findIn K (.ref eB) "__init__" = some (some (.ref fm3)))
    (im3 : PySem.W.isFn K (.ref fm3) = true)
    (lm3 : K.lookup fm3 = some ⟨ocm3, odm3, .func (PySem.W.fnOf "__init__" "BadNumber.__init__" (defArgs sBadNumberInit) (defBody sBadNumberInit) (defScope sBadNumberInit) .none kVm3 dcm3 pmm3 anm3 cdm3 ctm3), slm3⟩)
    (cm3 : PySem.W.codeIn K cdm3 "BadNumber.__init__" = true)
    (km3 : PySem.W.keepIn K (.ref fm3) = true)
    (tim3 : PySem.W.typeIn K (.ref fm3) = some (.type "function"))
    (am4 : PySem.W.findIn K (.ref eR) "__init__" = some (some (.ref fm4)))
    (im4 : PySem.W.isFn K (.ref fm4) = true)
    (lm4 : K.lookup fm4 = some ⟨ocm4, odm4, .func (PySem.W.fnOf "__init__" "BadRing.__init__" (defArgs sBadRingInit) (defBody sBadRingInit) (defScope sBadRingInit) .none kVm4 dcm4 pmm4 anm4 cdm4 ctm4), slm4⟩)
    (cm4 : PySem.W.codeIn K cdm4 "BadRing.__init__" = true)
    (km4 : PySem.W.keepIn K (.ref fm4) = true)
    (tim4 : PySem.W.typeIn K (.ref fm4) = some (.type "function"))
    (am5 : PySem.W.findIn K (.ref eN) "__init__" = some (some (.ref fm5)))
    (im5 : PySem.W.isFn K (.ref fm5) = true)
    (lm5 : K.lookup fm5 = some ⟨ocm5, odm5, .func (PySem.W.fnOf "__init__" "Missing.__init__" (defArgs sMissingInit) (defBody sMissingInit) (defScope sMissingInit) .none kVm5 dcm5 pmm5 anm5 cdm5 ctm5), slm5⟩)
    (cm5 : PySem.W.codeIn K cdm5 "Missing.__init__" = true)
    (km5 : PySem.W.keepIn K (.ref fm5) = true)
    (tim5 : PySem.W.typeIn K (.ref fm5) = some (.type "function"))
    (am6 : PySem.W.findIn K (.ref eT) "__init__" = some (some (.ref fm6)))
    (im6 : PySem.W.isFn K (.ref fm6) = true)
    (lm6 : K.lookup fm6 = some ⟨ocm6, odm6, .func (PySem.W.fnOf "__init__" "Twice.__init__" (defArgs sTwiceInit) (defBody sTwiceInit) (defScope sTwiceInit) .none kVm6 dcm6 pmm6 anm6 cdm6 ctm6), slm6⟩)
    (cm6 : PySem.W.codeIn K cdm6 "Twice.__init__" = true)
    (km6 : PySem.W.keepIn K (.ref fm6) = true)
    (tim6 : PySem.W.typeIn K (.ref fm6) = some (.type "function"))
    (rC_pg : PySem.W.plainGet K C Str.empty = true)
    (rC_hd : PySem.W.hasDictIn K C = true)
    (rC_po : PySem.W.plainOver K C = true)
    (rC_sa : PySem.W.findIn K (.ref C) "__setattr__" = some (some (.builtin "object.__setattr__")))
    (rC_mk : PySem.W.makesIn K C = true)
    (rC_kc : PySem.W.keepIn K (.ref C) = true)
    (rC_ha : PySem.W.findIn K (.ref C) "__class__" = some (some (.builtin "object.__class__")))
    (rC_hm : PySem.W.mroIn K C (.type "object") = some true)
    (rC_n_lengths : PySem.W.findIn K (.ref C) "lengths" = some none)
    (rC_n_total : PySem.W.findIn K (.ref C) "total" = some none)
    (rC_n_closes : PySem.W.findIn K (.ref C) "closes" = some none)
    (rC_n_is_clear : PySem.W.findIn K (.ref C) "is_clear" = some none)
    (rhn : PySem.W.specialIn K (.builtin "object.__class__") "__get__" = some (some (.builtin "getset_descriptor.__get__")))
    (rht : PySem.W.takesIn K (.builtin "object.__class__") = some true)
    (kN : PySem.W.kitOne K (.type "NoneType") (.ref C) = some false)
    (kI : PySem.W.kitOne K (.type "int") (.ref C) = some false)
    (kS : PySem.W.kitOne K (.type "str") (.ref C) = some false)
    (kL : PySem.W.kitOne K (.type "list") (.ref C) = some false)
    (kT : PySem.W.kitOne K (.type "tuple") (.ref C) = some false)
    (o_b : PySem.W.kitOne K (.type "NoneType") (.ref eB) = some false)
    (o_r : PySem.W.kitOne K (.type "NoneType") (.ref eR) = some false)
    (o_n : PySem.W.kitOne K (.type "NoneType") (.ref eN) = some false)
    (o_t : PySem.W.kitOne K (.type "NoneType") (.ref eT) = some false)
    (q_rb : PySem.W.kitOne K (.ref eR) (.ref eB) = some false)
    (q_nb : PySem.W.kitOne K (.ref eN) (.ref eB) = some false)
    (q_nr : PySem.W.kitOne K (.ref eN) (.ref eR) = some false)
    (q_tb : PySem.W.kitOne K (.ref eT) (.ref eB) = some false)
    (q_tr : PySem.W.kitOne K (.ref eT) (.ref eR) = some false)
    (q_tn : PySem.W.kitOne K (.ref eT) (.ref eN) = some false)
    (z_int : PySem.W.nsIn K mainGlobals "int" = some none)
    (z_len : PySem.W.nsIn K mainGlobals "len" = some none)
    (z_abs : PySem.W.nsIn K mainGlobals "abs" = some none)
    (z_list : PySem.W.nsIn K mainGlobals "list" = some none)
    (z_tuple : PySem.W.nsIn K mainGlobals "tuple" = some none)
    (z_bool : PySem.W.nsIn K mainGlobals "bool" = some none)
    (z_range : PySem.W.nsIn K mainGlobals "range" = some none)
    (z_sum : PySem.W.nsIn K mainGlobals "sum" = some none)
    (z_max : PySem.W.nsIn K mainGlobals "max" = some none)
    (z_all : PySem.W.nsIn K mainGlobals "all" = some none)
    (z_any : PySem.W.nsIn K mainGlobals "any" = some none)
    (z_sorted : PySem.W.nsIn K mainGlobals "sorted" = some none)
    (z_enumerate : PySem.W.nsIn K mainGlobals "enumerate" = some none)
    (z_isinstance : PySem.W.nsIn K mainGlobals "isinstance" = some none)
    (z_repr : PySem.W.nsIn K mainGlobals "repr" = some none)
    (z_str : PySem.W.nsIn K mainGlobals "str" = some none)
    (g_MOST_LENGTH : PySem.W.nsIn K mainGlobals "MOST_LENGTH" = some (some (.int 1000000 tkMOST_LENGTH)))
    (g_LEAST_BARS : PySem.W.nsIn K mainGlobals "LEAST_BARS" = some (some (.int 3 tkLEAST_BARS)))
    (g_MOST_BARS : PySem.W.nsIn K mainGlobals "MOST_BARS" = some (some (.int 8 tkMOST_BARS)))
    (g_MOST_ARM : PySem.W.nsIn K mainGlobals "MOST_ARM" = some (some (.int 20 tkMOST_ARM)))
    (xeB : K.lookup eB = some (excClassObj nmeB qqeB eB NeB bseB bmeB true sneB subeB abeB coleB ddeB k0eB k1eB k2eB k3eB k5eB "ValueError.__new__"))
    (rveB : PySem.HandSPX.refsVE bmeB = true)
    (saeB : PySem.W.findIn K (.ref eB) "__setattr__" = some (some (.builtin "object.__setattr__")))
    (eCeB : PySem.W.subIn K (.ref eB) (.type "BaseException") = some true)
    (tCeB : PySem.W.typeIn K (.ref eB) = some (.type "type"))
    (kCeB : PySem.W.keepIn K (.ref eB) = true)
    (nfeBpart : PySem.W.findIn K (.ref eB) "part" = some none)
    (gaeB : PySem.W.findIn K (.ref eB) "__getattribute__" = some (some (.builtin "BaseException.__getattribute__")))
    (ggeB : PySem.W.findIn K (.ref eB) "__getattr__" = some none)
    (hdeB : PySem.W.hasDictIn K eB = true)
    (haeB : PySem.W.findIn K (.ref eB) "__class__" = some (some (.builtin "object.__class__")))
    (hmeB : PySem.W.mroIn K eB (.type "object") = some true)
    (sbeB : PySem.W.subIn K (.ref eB) (.ref eX) = some true)
    (xeR : K.lookup eR = some (excClassObj nmeR qqeR eR NeR bseR bmeR true sneR subeR abeR coleR ddeR k0eR k1eR k2eR k3eR k5eR "ValueError.__new__"))
    (rveR : PySem.HandSPX.refsVE bmeR = true)
    (saeR : PySem.W.findIn K (.ref eR) "__setattr__" = some (some (.builtin "object.__setattr__")))
    (eCeR : PySem.W.subIn K (.ref eR) (.type "BaseException") = some true)
    (tCeR : PySem.W.typeIn K (.ref eR) = some (.type "type"))
    (kCeR : PySem.W.keepIn K (.ref eR) = true)
    (nfeRpart : PySem.W.findIn K (.ref eR) "part" = some none)
    (gaeR : PySem.W.findIn K (.ref eR) "__getattribute__" = some (some (.builtin "BaseException.__getattribute__")))
    (ggeR : PySem.W.findIn K (.ref eR) "__getattr__" = some none)
    (hdeR : PySem.W.hasDictIn K eR = true)
    (haeR : PySem.W.findIn K (.ref eR) "__class__" = some (some (.builtin "object.__class__")))
    (hmeR : PySem.W.mroIn K eR (.type "object") = some true)
    (sbeR : PySem.W.subIn K (.ref eR) (.ref eX) = some true)
    (xeN : K.lookup eN = some (excClassObj nmeN qqeN eN NeN bseN bmeN true sneN subeN abeN coleN ddeN k0eN k1eN k2eN k3eN k5eN "ValueError.__new__"))
    (rveN : PySem.HandSPX.refsVE bmeN = true)
    (saeN : PySem.W.findIn K (.ref eN) "__setattr__" = some (some (.builtin "object.__setattr__")))
    (eCeN : PySem.W.subIn K (.ref eN) (.type "BaseException") = some true)
    (tCeN : PySem.W.typeIn K (.ref eN) = some (.type "type"))
    (kCeN : PySem.W.keepIn K (.ref eN) = true)
    (nfeNvalue : PySem.W.findIn K (.ref eN) "value" = some none)
    (gaeN : PySem.W.findIn K (.ref eN) "__getattribute__" = some (some (.builtin "BaseException.__getattribute__")))
    (ggeN : PySem.W.findIn K (.ref eN) "__getattr__" = some none)
    (hdeN : PySem.W.hasDictIn K eN = true)
    (haeN : PySem.W.findIn K (.ref eN) "__class__" = some (some (.builtin "object.__class__")))
    (hmeN : PySem.W.mroIn K eN (.type "object") = some true)
    (sbeN : PySem.W.subIn K (.ref eN) (.ref eX) = some true)
    (xeT : K.lookup eT = some (excClassObj nmeT qqeT eT NeT bseT bmeT true sneT subeT abeT coleT ddeT k0eT k1eT k2eT k3eT k5eT "ValueError.__new__"))
    (rveT : PySem.HandSPX.refsVE bmeT = true)
    (saeT : PySem.W.findIn K (.ref eT) "__setattr__" = some (some (.builtin "object.__setattr__")))
    (eCeT : PySem.W.subIn K (.ref eT) (.type "BaseException") = some true)
    (tCeT : PySem.W.typeIn K (.ref eT) = some (.type "type"))
    (kCeT : PySem.W.keepIn K (.ref eT) = true)
    (nfeTvalue : PySem.W.findIn K (.ref eT) "value" = some none)
    (gaeT : PySem.W.findIn K (.ref eT) "__getattribute__" = some (some (.builtin "BaseException.__getattribute__")))
    (ggeT : PySem.W.findIn K (.ref eT) "__getattr__" = some none)
    (hdeT : PySem.W.hasDictIn K eT = true)
    (haeT : PySem.W.findIn K (.ref eT) "__class__" = some (some (.builtin "object.__class__")))
    (hmeT : PySem.W.mroIn K eT (.type "object") = some true)
    (sbeT : PySem.W.subIn K (.ref eT) (.ref eX) = some true)
    (eCeX : PySem.W.subIn K (.ref eX) (.type "BaseException") = some true)
    (hdeX : PySem.W.hasDictIn K eX = true)
    (tCeX : PySem.W.typeIn K (.ref eX) = some (.type "type"))
    (lc1 : K.lookup cRR = some ⟨.type "code", odc1, .fields vsc1, slc1⟩)
    (hdc1 : PySem.W.codeHdIn [(cRR, ⟨.type "code", odc1, .fields vsc1, slc1⟩)] cRR P1 = true)
    (nT1 : K.lookup P1 = none)
    (hT1 : h.get? P1 = some { cls := .none, data := .fields #[] }) :
    LawAtG l w K CX0 13 63 "_law_script" mg fa h := by
  have e := hfa.symm.trans (PySem.W.mg_of X G a24)
  cases e
  have gl : ∀ {x : Str} {v : Value}, PySem.W.nsIn K mainGlobals x = some (some v) → mg x = some v := fun q => PySem.W.mg_of X G q
  have T : Bi mg := ⟨PySem.W.mg_none_of X G z_int, PySem.W.mg_none_of X G z_len, PySem.W.mg_none_of X G z_abs, PySem.W.mg_none_of X G z_list, PySem.W.mg_none_of X G z_tuple, PySem.W.mg_none_of X G z_bool, PySem.W.mg_none_of X G z_range, PySem.W.mg_none_of X G z_sum, PySem.W.mg_none_of X G z_max, PySem.W.mg_none_of X G z_all, PySem.W.mg_none_of X G z_any, PySem.W.mg_none_of X G z_sorted, PySem.W.mg_none_of X G z_enumerate, PySem.W.mg_none_of X G z_isinstance⟩
  have N : Nm mg := ⟨⟨_, gl g_MOST_LENGTH⟩, ⟨_, gl g_LEAST_BARS⟩, ⟨_, gl g_MOST_BARS⟩⟩
  have N2 : Nm2 mg := ⟨⟨_, gl g_MOST_ARM⟩⟩
  have B2 : Bi2 mg := ⟨PySem.W.mg_none_of X G z_repr, PySem.W.mg_none_of X G z_str⟩
  have R : RingC K mg C := ⟨⟨rC_pg, rC_hd, rC_po, rC_sa⟩, rC_n_lengths, rC_n_total, rC_n_closes, rC_n_is_clear, gl aC, rC_ha, rhn, rht, rC_hm⟩
  have KT : KitT K C := ⟨kN, kI, kS, kL, kT⟩
  have oeB : OexC K eB := ⟨⟨_, _, _, _, _, _, _, _, _, _, _, _, _, _, _, xeB, rveB⟩, saeB, eCeB, tCeB, kCeB⟩
  have oeR : OexC K eR := ⟨⟨_, _, _, _, _, _, _, _, _, _, _, _, _, _, _, xeR, rveR⟩, saeR, eCeR, tCeR, kCeR⟩
  have oeN : OexC K eN := ⟨⟨_, _, _, _, _, _, _, _, _, _, _, _, _, _, _, xeN, rveN⟩, saeN, eCeN, tCeN, kCeN⟩
  have oeT : OexC K eT := ⟨⟨_, _, _, _, _, _, _, _, _, _, _, _, _, _, _, xeT, rveT⟩, saeT, eCeT, tCeT, kCeT⟩
  have Hc : HeardC K mg ⟨eB, eR, eN, eT⟩ eX := ⟨gl aeX, gl aeB, ⟨gaeB, ggeB, eCeB, hdeB, haeB, rhn, rht, hmeB⟩, ⟨gaeB, ggeB, eCeB, hdeB⟩, PySem.W.exm_ref eCeX hdeX tCeX sbeB, nfeBpart, o_b, gl aeR, ⟨gaeR, ggeR, eCeR, hdeR, haeR, rhn, rht, hmeR⟩, ⟨gaeR, ggeR, eCeR, hdeR⟩, PySem.W.exm_ref eCeX hdeX tCeX sbeR, nfeRpart, o_r, gl aeN, ⟨gaeN, ggeN, eCeN, hdeN, haeN, rhn, rht, hmeN⟩, ⟨gaeN, ggeN, eCeN, hdeN⟩, PySem.W.exm_ref eCeX hdeX tCeX sbeN, nfeNvalue, o_n, gl aeT, ⟨gaeT, ggeT, eCeT, hdeT, haeT, rhn, rht, hmeT⟩, ⟨gaeT, ggeT, eCeT, hdeT⟩, PySem.W.exm_ref eCeX hdeX tCeX sbeT, nfeTvalue, o_t, q_rb, q_nb, q_nr, q_tb, q_tr, q_tn⟩
  have F0 := fun_mk (st := sIsInteger) l0 c0 k0
  have b0 := F0.binds (ps := ["value"]) fun _ _ _ _ _ _ us hl => match us, hl with | [_], _ => rfl
  have F1 := fun_mk (st := sIsWithin) l1 c1 k1
  have b1 := F1.binds (ps := ["value", "least", "most"]) fun _ _ _ _ _ _ us hl => match us, hl with | [_, _, _], _ => rfl
  have F2 := fun_mk (st := sIsList) l2 c2 k2
  have b2 := F2.binds (ps := ["value"]) fun _ _ _ _ _ _ us hl => match us, hl with | [_], _ => rfl
  have F3 := fun_mk (st := sArePositive) l3 c3 k3
  have b3 := F3.binds (ps := ["value"]) fun _ _ _ _ _ _ us hl => match us, hl with | [_], _ => rfl
  have F4 := fun_mk (st := sAreLengths) l4 c4 k4
  have b4 := F4.binds (ps := ["value"]) fun _ _ _ _ _ _ us hl => match us, hl with | [_], _ => rfl
  have F5 := fun_mk (st := sHasLevel) l5 c5 k5
  have b5 := F5.binds (ps := ["lengths"]) fun _ _ _ _ _ _ us hl => match us, hl with | [_], _ => rfl
  have F6 := fun_mk (st := sWantNumber) l6 c6 k6
  have b6 := F6.binds (ps := ["value", "least", "most", "part"]) fun _ _ _ _ _ _ us hl => match us, hl with | [_, _, _, _], _ => rfl
  have F7 := fun_mk (st := sWantCorner) l7 c7 k7
  have b7 := F7.binds (ps := ["value", "many"]) fun _ _ _ _ _ _ us hl => match us, hl with | [_, _], _ => rfl
  have F8 := fun_mk (st := sWantTwoCorners) l8 c8 k8
  have b8 := F8.binds (ps := ["one", "other", "many"]) fun _ _ _ _ _ _ us hl => match us, hl with | [_, _, _], _ => rfl
  have F9 := fun_mk (st := sWantRing) l9 c9 k9
  have b9 := F9.binds (ps := ["value", "part"]) fun _ _ _ _ _ _ us hl => match us, hl with | [_, _], _ => rfl
  have F10 := fun_mk (st := sArcBars) l10 c10 k10
  have b10 := F10.binds (ps := ["many", "one", "other"]) fun _ _ _ _ _ _ us hl => match us, hl with | [_, _, _], _ => rfl
  have F11 := fun_mk (st := sArmRange) l11 c11 k11
  have b11 := F11.binds (ps := ["lengths"]) fun _ _ _ _ _ _ us hl => match us, hl with | [_], _ => rfl
  have F12 := fun_mk (st := sArcRange) l12 c12 k12
  have b12 := F12.binds (ps := ["ring", "one", "other"]) fun _ _ _ _ _ _ us hl => match us, hl with | [_, _, _], _ => rfl
  have F13 := fun_mk (st := sLwPen) l13 c13 k13
  have b13 := F13.binds (ps := ["_law_script"]) fun _ _ _ _ _ _ us hl => match us, hl with | [_], _ => rfl
  have F14 := fun_mk (st := sLwDraw) l14 c14 k14
  have b14 := F14.binds (ps := ["_law_pen_here", "_law_many"]) fun _ _ _ _ _ _ us hl => match us, hl with | [_, _], _ => rfl
  have F15 := fun_mk (st := sLwPick) l15 c15 k15
  have b15 := F15.binds (ps := ["_law_pen_here", "_law_some"]) fun _ _ _ _ _ _ us hl => match us, hl with | [_, _], _ => rfl
  have F16 := fun_mk (st := sLwMixed) l16 c16 k16
  have b16 := F16.binds (ps := ["_law_pen_here", "_law_some"]) fun _ _ _ _ _ _ us hl => match us, hl with | [_, _], _ => rfl
  have F17 := fun_mk (st := sLwLength) l17 c17 k17
  have b17 := F17.binds (ps := ["_law_pen_here"]) fun _ _ _ _ _ _ us hl => match us, hl with | [_], _ => rfl
  have F18 := fun_mk (st := sLwReach) l18 c18 k18
  have b18 := F18.binds (ps := ["_law_lengths"]) fun _ _ _ _ _ _ us hl => match us, hl with | [_], _ => rfl
  have F19 := fun_mk (st := sLwArc) l19 c19 k19
  have b19 := F19.binds (ps := ["_law_many", "_law_one", "_law_other"]) fun _ _ _ _ _ _ us hl => match us, hl with | [_, _, _], _ => rfl
  have F20 := fun_mk (st := sLwArmRight) l20 c20 k20
  have b20 := F20.binds (ps := ["_law_pen_here"]) fun _ _ _ _ _ _ us hl => match us, hl with | [_], _ => rfl
  have F21 := fun_mk (st := sLwArcsRight) l21 c21 k21
  have b21 := F21.binds (ps := ["_law_pen_here"]) fun _ _ _ _ _ _ us hl => match us, hl with | [_], _ => rfl
  have F22 := fun_mk (st := sLwHeard) l22 c22 k22
  have b22 := F22.binds (ps := ["_law_ask"]) fun _ _ _ _ _ _ us hl => match us, hl with | [_], _ => rfl
  have F23 : FunC K "_law_refused_right" "_law_refused_right" sLwRefusedRight f23 _ cRR := ⟨⟨_, _, _, _, _, _, _, _, rfl, l23, c23⟩⟩
  have F230 := fun_mk (st := sLwRefusedRight) l23 c23 k23
  have b23 := F230.binds (ps := ["_law_pen_here"]) fun _ _ _ _ _ _ us hl => match us, hl with | [_], _ => rfl
  have F24 := fun_mk (st := sLaw) l24 c24 k24
  have b24 := F24.binds (ps := ["_law_script"]) fun _ _ _ _ _ _ us hl => match us, hl with | [_], _ => rfl
  have Fm0 := fun_mk (st := sRingInit) lm0 cm0 km0
  have bm0 := Fm0.binds (ps := ["self", "lengths"]) fun _ _ _ _ _ _ us hl => match us, hl with | [_, _], _ => rfl
  have Fm1 := fun_mk (st := sRingLen) lm1 cm1 km1
  have bm1 := Fm1.binds (ps := ["self"]) fun _ _ _ _ _ _ us hl => match us, hl with | [_], _ => rfl
  have Fm2 := fun_mk (st := sRingStr) lm2 cm2 km2
  have bm2 := Fm2.binds (ps := ["self"]) fun _ _ _ _ _ _ us hl => match us, hl with | [_], _ => rfl
  have Fm3 := fun_mk (st := sBadNumberInit) lm3 cm3 km3
  have bm3 := Fm3.binds (ps := ["self", "part"]) fun _ _ _ _ _ _ us hl => match us, hl with | [_, _], _ => rfl
  have Fm4 := fun_mk (st := sBadRingInit) lm4 cm4 km4
  have bm4 := Fm4.binds (ps := ["self", "part"]) fun _ _ _ _ _ _ us hl => match us, hl with | [_, _], _ => rfl
  have Fm5 := fun_mk (st := sMissingInit) lm5 cm5 km5
  have bm5 := Fm5.binds (ps := ["self", "value"]) fun _ _ _ _ _ _ us hl => match us, hl with | [_, _], _ => rfl
  have Fm6 := fun_mk (st := sTwiceInit) lm6 cm6 km6
  have bm6 := Fm6.binds (ps := ["self", "value"]) fun _ _ _ _ _ _ us hl => match us, hl with | [_, _], _ => rfl
  refine ⟨PySem.W.fnOf "law" "law" (defArgs sLaw) (defBody sLaw) (defScope sLaw) .none kV24 dc24 pm24 an24 cd24 ct24, [(cRR, P1)], spLaw K (T1 P1), fun p hp => ?_, fun p hp => ?_, fun p hp => ?_, fun s v => .of_eq rfl, fun H a ns hl _ hT' hs => ?_, fun base KB GB TB => ?_⟩
  · rw [List.mem_singleton.mp hp]; exact hT1
  · rw [List.mem_singleton.mp hp]; exact nT1
  · rw [List.mem_singleton.mp hp]; exact PySem.W.codeHd_of_K X (code_hd lc1 hdc1)
  · refine ⟨a, ns, rfl, hs, by omega, fun p hp => ?_, fun _ => rfl⟩
    rw [List.mem_singleton.mp hp]; exact TabS.nil (hT' _ (List.mem_singleton.mpr rfl))
  · have tb1 := TB _ (List.mem_singleton.mpr rfl)
    have hm1 : (P1, qRf) ∈ T1 P1 := List.mem_singleton.mpr rfl
    have hu1 : ∀ p ∈ T1 P1, p.1 = P1 → p.2 = qRf := fun p hp _ => by rw [List.mem_singleton.mp hp]
    have dInt := (⟨ok_isInt F0 T, gl a0, k0, b0⟩ : DefAt l.prog w K mg base _ _ "is_integer" _ _ _ _)
    have dList := (⟨ok_isList F2 T, gl a2, k2, b2⟩ : DefAt l.prog w K mg base _ _ "is_list" _ _ _ _)
    have dWith := (⟨ok_within F1 dInt, gl a1, k1, b1⟩ : DefAt l.prog w K mg base _ _ "is_within" _ _ _ _)
    have dWG := (⟨ok_withinG F1 dInt, gl a1, k1, b1⟩ : DefAt l.prog w K mg base _ _ "is_within" _ _ _ _)
    have dWP := (⟨ok_withinP F1 dInt, gl a1, k1, b1⟩ : DefAt l.prog w K mg base _ _ "is_within" _ _ _ _)
    have eB' : ErrAt l.prog w K mg base "BadNumber" "part" eB fm3 _ := ⟨oeB, am3, tim3, nfeBpart, gl aeB, bm3, ok_badNumI Fm3⟩
    have eR' : ErrAt l.prog w K mg base "BadRing" "part" eR fm4 _ := ⟨oeR, am4, tim4, nfeRpart, gl aeR, bm4, ok_badRingI Fm4⟩
    have eN' : ErrAt l.prog w K mg base "NoCorner" "value" eN fm5 _ := ⟨oeN, am5, tim5, nfeNvalue, gl aeN, bm5, ok_missingI Fm5⟩
    have eT' : ErrAt l.prog w K mg base "Twice" "value" eT fm6 _ := ⟨oeT, am6, tim6, nfeTvalue, gl aeT, bm6, ok_twiceI Fm6⟩
    have dPo := (⟨ok_pos (ok_posO F3 T dWP dList) (ok_posL F3 T dWP dList) (ok_posT F3 T dWP dList), gl a3, k3, b3⟩ : DefAt l.prog w K mg base _ _ "are_positive" _ _ _ _)
    have dAL := (⟨ok_areL F4 T N dWith dList, gl a4, k4, b4⟩ : DefAt l.prog w K mg base _ _ "are_lengths" _ _ _ _)
    have dHL := (⟨ok_hasL F5 T, gl a5, k5, b5⟩ : DefAt l.prog w K mg base _ _ "has_level" _ _ _ _)
    have Gp : RingP l.prog w K mg base C fm0 _ := ⟨⟨rC_mk, am0, im0, rC_kc⟩, ok_ri (P := l.prog) (w := w) (base := base) Fm0 T N R dAL dHL, bm0⟩
    have NL := ok_rlen (P := l.prog) (w := w) (base := base) Fm1 T R
    have NM : Meth K C "__len__" fm1 := ⟨am1, im1, km1⟩
    have SR : StrM l.prog w K mg base C fm2 _ := ⟨ok_strR Fm2 B2.str R, bm2, am2, im2⟩
    have dNU := (⟨ok_numG F6 dWG eB', gl a6, k6, b6⟩ : DefAt l.prog w K mg base _ _ "want_number" _ _ _ _)
    have dCo := (⟨ok_corn F7 dWG eN', gl a7, k7, b7⟩ : DefAt l.prog w K mg base _ _ "want_corner" _ _ _ _)
    have d2C := (⟨ok_2c F8 dCo eT', gl a8, k8, b8⟩ : DefAt l.prog w K mg base _ _ "want_two_corners" _ _ _ _)
    have dWR := (⟨ok_wantR F9 T R eR', gl a9, k9, b9⟩ : DefAt l.prog w K mg base _ _ "want_ring" _ _ _ _)
    have dAB := (⟨ok_ab F10 T N dNU d2C, gl a10, k10, b10⟩ : DefAt l.prog w K mg base _ _ "arc_bars" _ _ _ _)
    have dAR := (⟨ok_ar F11 T N2 dPo eB', gl a11, k11, b11⟩ : DefAt l.prog w K mg base _ _ "arm_range" _ _ _ _)
    have dAG := (⟨ok_ag F12 T R NM NL bm1 dWR dAB dAR, gl a12, k12, b12⟩ : DefAt l.prog w K mg base _ _ "arc_range" _ _ _ _)
    have dABc := (⟨ok_abc dAB.ok, gl a10, k10, b10⟩ : DefAt l.prog w K mg base _ _ "arc_bars" _ _ _ _)
    have dARc := (⟨ok_arc dAR.ok, gl a11, k11, b11⟩ : DefAt l.prog w K mg base _ _ "arm_range" _ _ _ _)
    have dAGc := (⟨ok_agc dAG.ok, gl a12, k12, b12⟩ : DefAt l.prog w K mg base _ _ "arc_range" _ _ _ _)
    have kar : KBinds K _ ["lengths"] ["lengths"] gK1 gK1 := kb_one (fun b s => .of_eq rfl) (fd := PySem.W.fnOf "arm_range" "arm_range" (defArgs sArmRange) (defBody sArmRange) (defScope sArmRange) .none kV11 dc11 pm11 an11 cd11 ct11)
    have kab : KBinds K _ ["many", "one", "other"] ["other", "one", "many"] gK3 gK3 := kb_ab (fun v a b s => .of_eq rfl) (fd := PySem.W.fnOf "arc_bars" "arc_bars" (defArgs sArcBars) (defBody sArcBars) (defScope sArcBars) .none kV10 dc10 pm10 an10 cd10 ct10)
    have kag : KBinds K _ ["ring", "one", "other"] ["other", "one", "ring"] gK3 gK3 := kb_ag (fun v a b s => .of_eq rfl) (fd := PySem.W.fnOf "arc_range" "arc_range" (defArgs sArcRange) (defBody sArcRange) (defScope sArcRange) .none kV12 dc12 pm12 an12 cd12 ct12)
    have dDr : DrawAt l.prog w K mg base _ _ := ⟨ok_draw F14 T, gl a14, k14, b14⟩
    have dPn := (⟨ok_pen F13 T, gl a13, k13, b13⟩ : DefAt l.prog w K mg base _ _ "_law_pen" _ _ _ _)
    have dPk := (⟨ok_pick F15 T dDr, gl a15, k15, b15⟩ : DefAt l.prog w K mg base _ _ "_law_pick" _ _ _ _)
    have dMx := (⟨ok_mixed F16 T dDr, gl a16, k16, b16⟩ : DefAt l.prog w K mg base _ _ "_law_mixed" _ _ _ _)
    have dLg := (⟨ok_lg F17 dDr, gl a17, k17, b17⟩ : DefAt l.prog w K mg base _ _ "_law_length" _ _ _ _)
    have dRE := (⟨ok_re F18 T, gl a18, k18, b18⟩ : DefAt l.prog w K mg base _ _ "_law_reach" _ _ _ _)
    have dLA := (⟨ok_la F19 T, gl a19, k19, b19⟩ : DefAt l.prog w K mg base _ _ "_law_arc" _ _ _ _)
    have dAM := (⟨ok_am F20 T B2 dDr dPk dLg dMx dARc kar dRE, gl a20, k20, b20⟩ : DefAtG l.prog w K mg base _ _ "_law_arm_right" _ _ _ _)
    have dAS := (⟨ok_as F21 T B2 dDr Gp R dLg dLA dABc kab dAGc kag dARc dRE SR, gl a21, k21, b21⟩ : DefAtG l.prog w K mg base _ _ "_law_arcs_right" _ _ _ _)
    have dRR := (⟨ok_rr (hc := ⟨eB, eR, eN, eT⟩) F23 T dDr Gp R dPk dAR dAB dAG Hc tb1 hm1 hu1 KT F22 b22 (gl a22), gl a23, k23, b23⟩ : DefAt l.prog w K mg base _ _ "_law_refused_right" _ _ _ _)
    exact ok_law F24 T dPn dAM dAS dRR
end K
local macro_rules | `(tactic| o_head ($_:ident $k $a $_ $ts)) => `(tactic| refine K.head12 (Kf := $k) (as := $a) (ts := $ts) (fun _ => by kernel_rfl) (fun w os => by kernel_rfl) ?$(Lean.mkIdent `hw) ?$(Lean.mkIdent `hc))
open PySem PySem.W PyProof.Rows in
set_option maxRecDepth 100000 in
set_option maxHeartbeats 0 in
theorem PySem.Challenge.cw_ringbars_k12_arms_and_arcs_bar_by_bar_holds : PySem.Challenge.rw_ringbars_k12_arms_and_arcs_bar_by_bar.Holds := by
  w_on; o_law; k_head; (case hw => w_witness2)
  k_fill
  refine LamX.walk_ofG (la := PySem.Challenge.rw_ringbars_k12_arms_and_arcs_bar_by_bar) (mo := 63) (lev := 13) (xn := "_law_script") (Cx1 := fun _ => L2.CX0) rfl (by decide) rfl ⟨rfl, by decide, by decide⟩ (fun w h Y => K.kk_in_of Y) ?F (fun _ _ _ _ _ z => z)
  case F =>
    intro w mg fa h Y KX G hmg
    rw [K.d12_name] at hmg
    refine' K.all_mk KX G hmg ?aC ?aeX ?aeB ?aeR ?aeN ?aeT ?a0 ?l0 ?c0 ?k0 ?a1 ?l1 ?c1 ?k1 ?a2 ?l2 ?c2 ?k2 ?a3 ?l3 ?c3 ?k3 ?a4 ?l4 ?c4 ?k4 ?a5 ?l5 ?c5 ?k5 ?a6 ?l6 ?c6 ?k6 ?a7 ?l7 ?c7 ?k7 ?a8 ?l8 ?c8 ?k8 ?a9 ?l9 ?c9 ?k9 ?a10 ?l10 ?c10 ?k10 ?a11 ?l11 ?c11 ?k11 ?a12 ?l12 ?c12 ?k12 ?a13 ?l13 ?c13 ?k13 ?a14 ?l14 ?c14 ?k14 ?a15 ?l15 ?c15 ?k15 ?a16 ?l16 ?c16 ?k16 ?a17 ?l17 ?c17 ?k17 ?a18 ?l18 ?c18 ?k18 ?a19 ?l19 ?c19 ?k19 ?a20 ?l20 ?c20 ?k20 ?a21 ?l21 ?c21 ?k21 ?a22 ?l22 ?c22 ?k22 ?a23 ?l23 ?c23 ?k23 ?a24 ?l24 ?c24 ?k24 ?am0 ?im0 ?lm0 ?cm0 ?km0 ?am1 ?im1 ?lm1 ?cm1 ?km1 ?am2 ?im2 ?lm2 ?cm2 ?km2 ?am3 ?im3 ?lm3 ?cm3 ?km3 ?tim3 ?am4 ?im4 ?lm4 ?cm4 ?km4 ?tim4 ?am5 ?im5 ?lm5 ?cm5 ?km5 ?tim5 ?am6 ?im6 ?lm6 ?cm6 ?km6 ?tim6 ?rC_pg ?rC_hd ?rC_po ?rC_sa ?rC_mk ?rC_kc ?rC_ha ?rC_hm ?rC_n_lengths ?rC_n_total ?rC_n_closes ?rC_n_is_clear ?rhn ?rht ?kN ?kI ?kS ?kL ?kT ?o_b ?o_r ?o_n ?o_t ?q_rb ?q_nb ?q_nr ?q_tb ?q_tr ?q_tn ?z_int ?z_len ?z_abs ?z_list ?z_tuple ?z_bool ?z_range ?z_sum ?z_max ?z_all ?z_any ?z_sorted ?z_enumerate ?z_isinstance ?z_repr ?z_str ?g_MOST_LENGTH ?g_LEAST_BARS ?g_MOST_BARS ?g_MOST_ARM ?xeB ?rveB ?saeB ?eCeB ?tCeB ?kCeB ?nfeBpart ?gaeB ?ggeB ?hdeB ?haeB ?hmeB ?sbeB ?xeR ?rveR ?saeR ?eCeR ?tCeR ?kCeR ?nfeRpart ?gaeR ?ggeR ?hdeR ?haeR ?hmeR ?sbeR ?xeN ?rveN ?saeN ?eCeN ?tCeN ?kCeN ?nfeNvalue ?gaeN ?ggeN ?hdeN ?haeN ?hmeN ?sbeN ?xeT ?rveT ?saeT ?eCeT ?tCeT ?kCeT ?nfeTvalue ?gaeT ?ggeT ?hdeT ?haeT ?hmeT ?sbeT ?eCeX ?hdeX ?tCeX ?lc1 ?hdc1 ?nT1 ?hT1
    (case hT1 => exact K.kk_tabs_of Y (List.mem_cons_self ..) (by decide +kernel))
    (case aC => k_is)
    (case aeX => k_is)
    (case aeB => k_is)
    (case aeR => k_is)
    (case aeN => k_is)
    (case aeT => k_is)
    (case a0 => k_is)
    (case l0 => k_is)
    (case c0 => k_is)
    (case k0 => k_is)
    (case a1 => k_is)
    (case l1 => k_is)
    (case c1 => k_is)
    (case k1 => k_is)
    (case a2 => k_is)
    (case l2 => k_is)
    (case c2 => k_is)
    (case k2 => k_is)
    (case a3 => k_is)
    (case l3 => k_is)
    (case c3 => k_is)
    (case k3 => k_is)
    (case a4 => k_is)
    (case l4 => k_is)
    (case c4 => k_is)
    (case k4 => k_is)
    (case a5 => k_is)
    (case l5 => k_is)
    (case c5 => k_is)
    (case k5 => k_is)
    (case a6 => k_is)
    (case l6 => k_is)
    (case c6 => k_is)
    (case k6 => k_is)
    (case a7 => k_is)
    (case l7 => k_is)
    (case c7 => k_is)
    (case k7 => k_is)
    (case a8 => k_is)
    (case l8 => k_is)
    (case c8 => k_is)
    (case k8 => k_is)
    (case a9 => k_is)
    (case l9 => k_is)
    (case c9 => k_is)
    (case k9 => k_is)
    (case a10 => k_is)
    (case l10 => k_is)
    (case c10 => k_is)
    (case k10 => k_is)
    (case a11 => k_is)
    (case l11 => k_is)
    (case c11 => k_is)
    (case k11 => k_is)
    (case a12 => k_is)
    (case l12 => k_is)
    (case c12 => k_is)
    (case k12 => k_is)
    (case a13 => k_is)
    (case l13 => k_is)
    (case c13 => k_is)
    (case k13 => k_is)
    (case a14 => k_is)
    (case l14 => k_is)
    (case c14 => k_is)
    (case k14 => k_is)
    (case a15 => k_is)
    (case l15 => k_is)
    (case c15 => k_is)
    (case k15 => k_is)
    (case a16 => k_is)
    (case l16 => k_is)
    (case c16 => k_is)
    (case k16 => k_is)
    (case a17 => k_is)
    (case l17 => k_is)
    (case c17 => k_is)
    (case k17 => k_is)
    (case a18 => k_is)
    (case l18 => k_is)
    (case c18 => k_is)
    (case k18 => k_is)
    (case a19 => k_is)
    (case l19 => k_is)
    (case c19 => k_is)
    (case k19 => k_is)
    (case a20 => k_is)
    (case l20 => k_is)
    (case c20 => k_is)
    (case k20 => k_is)
    (case a21 => k_is)
    (case l21 => k_is)
    (case c21 => k_is)
    (case k21 => k_is)
    (case a22 => k_is)
    (case l22 => k_is)
    (case c22 => k_is)
    (case k22 => k_is)
    (case a23 => k_is)
    (case l23 => k_is)
    (case c23 => k_is)
    (case k23 => k_is)
    (case a24 => k_is)
    (case l24 => k_is)
    (case c24 => k_is)
    (case k24 => k_is)
    (case am0 => k_is)
    (case im0 => k_is)
    (case lm0 => k_is)
    (case cm0 => k_is)
    (case km0 => k_is)
    (case am1 => k_is)
    (case im1 => k_is)
    (case lm1 => k_is)
    (case cm1 => k_is)
    (case km1 => k_is)
    (case am2 => k_is)
    (case im2 => k_is)
    (case lm2 => k_is)
    (case cm2 => k_is)
    (case km2 => k_is)
    (case am3 => k_is)
    (case im3 => k_is)
    (case lm3 => k_is)
    (case cm3 => k_is)
    (case km3 => k_is)
    (case tim3 => k_is)
    (case am4 => k_is)
    (case im4 => k_is)
    (case lm4 => k_is)
    (case cm4 => k_is)
    (case km4 => k_is)
    (case tim4 => k_is)
    (case am5 => k_is)
    (case im5 => k_is)
    (case lm5 => k_is)
    (case cm5 => k_is)
    (case km5 => k_is)
    (case tim5 => k_is)
    (case am6 => k_is)
    (case im6 => k_is)
    (case lm6 => k_is)
    (case cm6 => k_is)
    (case km6 => k_is)
    (case tim6 => k_is)
    (case rC_pg => k_is)
    (case rC_hd => k_is)
    (case rC_po => k_is)
    (case rC_sa => k_is)
    (case rC_mk => k_is)
    (case rC_kc => k_is)
    (case rC_ha => k_is)
    (case rC_hm => k_is)
    (case rC_n_lengths => k_is)
    (case rC_n_total => k_is)
    (case rC_n_closes => k_is)
    (case rC_n_is_clear => k_is)
    (case rhn => k_is)
    (case rht => k_is)
    (case kN => kit_is)
    (case kI => kit_is)
    (case kS => kit_is)
    (case kL => kit_is)
    (case kT => kit_is)
    (case o_b => kit_is)
    (case o_r => kit_is)
    (case o_n => kit_is)
    (case o_t => kit_is)
    (case q_rb => kit_is)
    (case q_nb => kit_is)
    (case q_nr => kit_is)
    (case q_tb => kit_is)
    (case q_tr => kit_is)
    (case q_tn => kit_is)
    (case z_int => k_is)
    (case z_len => k_is)
    (case z_abs => k_is)
    (case z_list => k_is)
    (case z_tuple => k_is)
    (case z_bool => k_is)
    (case z_range => k_is)
    (case z_sum => k_is)
    (case z_max => k_is)
    (case z_all => k_is)
    (case z_any => k_is)
    (case z_sorted => k_is)
    (case z_enumerate => k_is)
    (case z_isinstance => k_is)
    (case z_repr => k_is)
    (case z_str => k_is)
    (case g_MOST_LENGTH => k_is)
    (case g_LEAST_BARS => k_is)
    (case g_MOST_BARS => k_is)
    (case g_MOST_ARM => k_is)
    (case xeB => k_is)
    (case rveB => first | (with_reducible rfl) | decide +kernel | k_is)
    (case saeB => k_is)
    (case eCeB => k_is)
    (case tCeB => k_is)
    (case kCeB => k_is)
    (case nfeBpart => k_is)
    (case gaeB => k_is)
    (case ggeB => k_is)
    (case hdeB => k_is)
    (case haeB => k_is)
    (case hmeB => k_is)
    (case sbeB => k_is)
    (case xeR => k_is)
    (case rveR => first | (with_reducible rfl) | decide +kernel | k_is)
    (case saeR => k_is)
    (case eCeR => k_is)
    (case tCeR => k_is)
    (case kCeR => k_is)
    (case nfeRpart => k_is)
    (case gaeR => k_is)
    (case ggeR => k_is)
    (case hdeR => k_is)
    (case haeR => k_is)
    (case hmeR => k_is)
    (case sbeR => k_is)
    (case xeN => k_is)
    (case rveN => first | (with_reducible rfl) | decide +kernel | k_is)
    (case saeN => k_is)
    (case eCeN => k_is)
    (case tCeN => k_is)
    (case kCeN => k_is)
    (case nfeNvalue => k_is)
    (case gaeN => k_is)
    (case ggeN => k_is)
    (case hdeN => k_is)
    (case haeN => k_is)
    (case hmeN => k_is)
    (case sbeN => k_is)
    (case xeT => k_is)
    (case rveT => first | (with_reducible rfl) | decide +kernel | k_is)
    (case saeT => k_is)
    (case eCeT => k_is)
    (case tCeT => k_is)
    (case kCeT => k_is)
    (case nfeTvalue => k_is)
    (case gaeT => k_is)
    (case ggeT => k_is)
    (case hdeT => k_is)
    (case haeT => k_is)
    (case hmeT => k_is)
    (case sbeT => k_is)
    (case eCeX => k_is)
    (case hdeX => k_is)
    (case tCeX => k_is)
    (case lc1 => k_is)
    (case hdc1 => first | rfl | decide +kernel | with_unfolding_all rfl)
    (case nT1 => exact K.kk_out_of Y (by decide +kernel))
