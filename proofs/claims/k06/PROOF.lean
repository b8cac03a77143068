import PyProof.Rows.All
import Wide.All
import OpenK.AllK
import Wide.FinOn
import HandS.ForMost
import HandS.IsInst
import HandS.Strs
import HandS.ExcInit
import HandS.ExcField
import HandS.ExcIs
import HandS.TryOnly
import HandS.Lambda
import HandS.EndTab
import HandS.Flow
import HandS.SortInts
import HandS.SortRule
import HandS.SortKw
import KE.KTupSum
import HandS.NamedTupSort
import PyProof.P3Eq
import HandS.ReCall
import KE.SortKeyHeap
import HandS.Walk
import KE.GoesEnum
import HandS.Evl
import HandS.WordsExc
import HandS.TupAny
import HandS.Conv
import HandS.Style
import KE.KExcIs
import KE.KNestM
import PySem.Challenge.RW_ringbars_k06_sorts_of_lots
set_option Elab.async false
set_option linter.all false
set_option maxRecDepth 100000
set_option maxHeartbeats 4000000
/-! ## rules of our own, for what the rings' program says and the layer has no rule for -/
namespace Rg
open PySem PySem.Spec PyProof.Rows L2

/-! ### f(k = v, ..), oj.m(k = v, ..) -/
section
variable {X : Cx} {CX : CXT} {k : Nat} {f C : Addr} {fd : FuncData} {ps ks : List Str} {sp : Sp} {E : XK} {x m : Str} {p pos apos : Pos} {oj : Expr} {kws : List Keyword} {ta : TE} {tkn : TA}
variable {g : List Value → List Value → List Value} {gV : List V → List V → List V}
theorem pe_callK0 (F : FnOk X.prog X.w X.K X.mg X.base CX k f fd ps sp) (hr : Room k X.A) (hg : Gl X x) (hmm : X.mg x = some (.ref f)) (hk : PySem.W.keepIn X.K (.ref f) = true) (hb : KBinds X.K fd ps ks g gV) (hx : Passes CX X E)
    (hkw : PK X kws tkn) (hall : (backToKw pos (keywordEach kws X.env)).all (·.1.isSome) = true := by rfl) (hks : (backToKw pos (keywordEach kws X.env)).filterMap (·.1) = ks := by rfl)
    (hdb : (x == ("__debug__" : Str)) = false := by decide)
    (hpl : ((backTo pos (starEach [] X.env)).any (·.1) || (backToKw pos (keywordEach kws X.env)).any (·.1.isNone)) = false := by rfl) :
    PE X (.Call (.Name x p) [] kws pos) (tCallK sp gV E tNil tkn) := by
  refine ⟨fun pns s σs Hh Qq Iv h => ?_⟩
  refine wpAny_Call_Name_kw (ld_glob Iv hg hmm ?_ hdb)
  refine PySem.W.callWith_KW0 (h₀ := X.base) Iv.ok.mod.kin hk hall ?_ hpl
  refine thn (hkw.run pos pns s σs Hh _ Iv h) fun kvs2 sh2 ⟨zvs, H2, I2, rlz, q2⟩ => ⟨I2.kIn, ?_⟩
  rw [hks]
  exact run_fnk (us := []) (vs := []) F hr hb hx I2 .nil rlz q2
/-- oj.m(k = v, ..) -/
def tMethK (C : Addr) (m : Str) (sp : Sp) (gV : List V → List V → List V) (E : XK) (ta : TE) (tkn : TA) : TE := fun σs Hh Qq => ta σs Hh fun x H1 => ∃ a dx fs, x = .ref a ∧ H1 a = some (.ins C dx fs) ∧ fs.lookup m = none ∧
  tkn σs H1 fun zvs H2 => sp (gV [.ref a] zvs) H2 Qq E
theorem pe_methK0 {pl : Sem Bool} (he : PE X oj ta) (c : Cls X.K C) (hmm : Meth X.K C m f) (F : FnOk X.prog X.w X.K X.mg X.base CX k f fd ps sp) (hr : Room k X.A) (hb : KBinds X.K fd ps ks g gV) (hx : Passes CX X E)
    (hkw : PK X kws tkn) (hall : (backToKw pos (keywordEach kws X.env)).all (·.1.isSome) = true := by rfl) (hks : (backToKw pos (keywordEach kws X.env)).filterMap (·.1) = ks := by rfl)
    (hpl : ((backTo pos (starEach [] X.env)).any (·.1) || (backToKw pos (keywordEach kws X.env)).any (·.1.isNone)) = false := by rfl)
    (ht : eval (.Call (.Attribute oj m apos) [] kws pos) X.env = (do
      let ov ← eval oj X.env
      standAt apos.atName
      let (f, first) ← holding [ov] (getMethod ov m pl)
      callWith pos f first (backTo pos (starEach [] X.env)) (backToKw pos (keywordEach kws X.env))) := by rfl) :
    PE X (.Call (.Attribute oj m apos) [] kws pos) (tMethK C m sp gV E ta tkn) := by
  refine ⟨fun pns s σs Hh Qq Iv h => ?_⟩
  refine PySem.W.methodCall_KW (pl := pl) (thn (he.run pns s σs Hh _ Iv h) fun u sh1 ⟨x, H1, I1, rlx, a, dx, fs, ex, eqa, l, qq⟩ => ?_) ht
  subst ex
  obtain rfl : u = Value.ref a := rlx
  refine getmeth_ok I1 eqa c hmm l ?_
  refine PySem.W.callWith_KW0 (first := [.ref a]) (h₀ := X.base) Iv.ok.mod.kin hmm.kp hall ?_ hpl
  refine thn (hkw.run pos pns sh1 σs H1 _ I1 qq) fun kvs2 sh2 ⟨zvs, H2, I2, rlz, q2⟩ => ⟨I2.kIn, ?_⟩
  rw [hks]
  exact run_fnk (us := [.ref a]) (vs := [.ref a]) F hr hb hx I2 (.cons rfl .nil) rlz q2
end

/-! ### len(oj), the instance's own __len__ -/
section
variable {X : Cx} {k : Nat} {f : Addr} {fd : FuncData} {sp : Sp}
def rLenO (K : PySem.W.Frag) (f : Addr) (sp : Sp) : List V → Hp → VK → Prop := fun vxs Hh Qq => ∃ a C dx fs, vxs = [.ref a] ∧ Hh a = some (.ins C dx fs) ∧ PySem.W.findIn K (.ref C) "__len__" = some (some (.ref f)) ∧ PySem.W.isFn K (.ref f) = true ∧
  sp [.ref a] Hh (fun v H' => ∃ n : Int, v = .int n ∧ 0 ≤ n ∧ n < 2 ^ 63 ∧ Qq (.int n) H') E0
theorem call_lenO (F : FnOk X.prog X.w X.K X.mg X.base CX0 k f fd ["self"] sp) (hr : Room (k + 1) X.A) (hb : Binds X.K fd ["self"] []) : CallR X (.builtin "len") (rLenO X.K f sp) := by
  intro pns s σs Hh vxs uvs Qq Iv r h
  obtain ⟨a, C, dx, fs, rfl, eqa, hs, hf, qq⟩ := h
  obtain ⟨u, rfl, rlu⟩ := vals1 r
  obtain rfl : u = Value.ref a := rlu
  obtain ⟨mA, O, _, _, _, _⟩ := ins_get Iv.hok eqa
  obtain ⟨m, fr⟩ := Iv.fr
  obtain ⟨od, hod⟩ : ∃ od, s.heap.get? dx = some od := let ⟨oj, _, _, e', _⟩ := O.ns; ⟨oj, e'⟩
  refine PySem.W.len_K fr Iv.ok.mod.kin (ox := PySem.W.instObj C dx) (C := C) (od := some od) ⟨O.obj, rfl, rfl, hod⟩ hs hf ?_
  have hlst : ([Value.ref a] ++ []).length = (["self"] : List Str).length := rfl
  refine wpAny_call (codeAny_mono (F.run X.A.in1 X.stack s Hh ⟨[.ref a], []⟩ [.ref a] [.ref a] _ E0 hr.in1 Iv.env0.in1 (hb s [.ref a] Iv.kIn hlst) (.cons rfl .nil) qq) fun r s' hsq => ?_)
  cases r with
  | error e => exact hsq.elim
  | ok fl =>
    cases fl with
    | ret u =>
      obtain ⟨v, H', I3, rlv, n, ev, h0, hh1, q3⟩ := Iv.after hsq
      subst ev
      obtain ⟨t, rfl⟩ := rlv
      exact ⟨⟨h0, hh1⟩, ⟨.int n, H', I3.tok _, ⟨_, rfl⟩, q3⟩⟩
    | next => exact False.elim hsq
    | brk => exact False.elim hsq
    | cont => exact False.elim hsq
end

/-! ### sum, max of a tuple of ints; vls index -/
section
variable {prog : Program} {w : World} {A : Around} {E : Value → Shared → Prop} {s : Shared} {l : Addr} {vls : List Value} {nms : List Int} {Qq : Value → Shared → Prop}
theorem isTuple_of {h : Heap} (x : IsTup h l vls.toArray) : h.IsTuple l vls.toArray := x
theorem sumT_raw (hcal : A.handled = none) (hlst : s.heap.IsTuple l vls.toArray) (hint : IntsAre vls nms)
    (h : ∀ h' tkn t', (∀ b oj, s.heap.get? b = some oj → h'.get? b = some oj) → Qq (.int nms.sum t') { s with heap := h', toks := tkn }) : wpAny (model prog w) A (call (.builtin "sum") [.ref l]) Qq E s := by
  obtain ⟨vxs, e⟩ := hint.allInts.items
  have hnn : numsOf (intItems vxs).toList = nms := by rw [← e]; exact hint.numsOf
  rw [nums_intItems] at hnn
  rw [e] at hlst
  refine PySem.W.ktm_sumG hcal hlst fun h' tkn t' hk => ?_
  have := h h' tkn t' hk
  rw [preSum_eq, List.take_of_length_le (by simp), hnn]; exact this
end
section
variable {X : Cx}
def rSumT (K : PySem.W.Frag) : List V → Hp → VK → Prop := fun vs Hh Qq => ∃ (a : Addr) (nms : List Int), vs = [V.ref a] ∧ SqT K Hh a (nms.map V.int) ∧ Qq (.int nms.sum) Hh
theorem cr_sumT (hc : X.calm = true) : CallR X (.builtin "sum") (rSumT X.K) := by
  intro pns s σs Hh vs uvs Qq Iv r h
  obtain ⟨a, nms, rfl, hs, qq⟩ := h
  obtain ⟨vls, rlv, hlst, _⟩ := Iv.tuple hs
  rw [Vals.ref1 r]
  exact sumT_raw (Iv.ok.hd hc) (isTuple_of hlst) rlv.ints fun h' tkn t' hk => ⟨.int _, Hh, Iv.kept hk, ⟨_, rfl⟩, qq⟩
end
end Rg
namespace Rg
open PySem PySem.Spec PyProof.Rows L2
/-! ### max of a tuple of ints, vls index, isinstance of a caught error with fields -/
section
variable {prog : Program} {w : World} {A : Around} {E : Value → Shared → Prop} {s : Shared} {l : Addr} {vls : List Value} {nms : List Int} {Qq : Value → Shared → Prop}
theorem max_intTup {vxs : Array (Int × Tok)} (hcal : A.handled = none) (ht : s.heap.IsTuple l (intItems vxs)) (hpos : 0 < vxs.size)
    (h : ∀ v h' tkn, (intItems vxs)[argBest (fun i j => decide (numAt vxs i > numAt vxs j)) (vxs.size - 1)]? = some v → (∀ b oj, s.heap.get? b = some oj → h'.get? b = some oj) → Qq v { s with heap := h', toks := tkn }) :
    wpAny (model prog w) A (call (.builtin "max") [.ref l]) Qq E s := by
  obtain ⟨oj, hob, hc, n, hd⟩ := id ht
  have hI : l ≠ s.heap.objs.size := Nat.ne_of_lt (Heap.lt_size hob)
  refine call_max_walk (wpAny_pyIter_tuple ht ?_)
  refine ⟨s.heap.objs.size, _, _, _, _, _, _, rfl, Walks.tuple (A := A.in1) hcal _ l hI (intItems vxs), ⟨⟨_, Heap.get?_push_size _ rfl, rfl, rfl⟩, ht.at fun oj e => Heap.get?_push_of_some _ e⟩, fun b hb => ?_, by simpa [intItems] using hpos, CmpOf.ints_gt (numAt vxs) (fun _ _ => intItems_at), fun v h' tkn hP hk => ?_⟩
  · rcases List.mem_cons.mp hb with rfl | hb
    · exact Heap.lt_size (Heap.get?_push_size _ rfl)
    · obtain rfl := List.mem_singleton.mp hb
      exact Heap.lt_size (Heap.get?_push_of_some _ hob)
  · refine h v h' tkn (by simpa [intItems] using hP) fun b oj e => ?_
    exact hk b oj (fun hb => absurd (Heap.lt_size e) ((List.mem_singleton.mp hb) ▸ Nat.lt_irrefl _)) (Heap.get?_push_of_some _ e)
theorem maxT_raw (hcal : A.handled = none) (hlst : s.heap.IsTuple l vls.toArray) (hint : IntsAre vls nms) (hpos : 0 < nms.length)
    (h : ∀ h' tkn M t', (∀ b oj, s.heap.get? b = some oj → h'.get? b = some oj) → M ∈ nms → (∀ a, a ∈ nms → a ≤ M) → Qq (.int M t') { s with heap := h', toks := tkn }) : wpAny (model prog w) A (call (.builtin "max") [.ref l]) Qq E s := by
  obtain ⟨vxs, e⟩ := hint.allInts.items
  have hnn : numsOf (intItems vxs).toList = nms := by rw [← e]; exact hint.numsOf
  rw [nums_intItems] at hnn
  subst hnn
  rw [e] at hlst
  have hsz : 0 < vxs.size := by simpa using hpos
  refine max_intTup hcal hlst hsz fun v h' tkn hval hk => ?_
  obtain ⟨t, rfl⟩ := intItems_at hval
  obtain ⟨hh1, hh2⟩ := argBest_gt (numAt vxs) (vxs.size - 1)
  refine h h' tkn _ t hk ?_ fun a ha => ?_
  · rw [numAt_eq]; exact PySem.getD_mem (by rw [List.length_map, Array.length_toList]; omega)
  · obtain ⟨j, hjj, rfl⟩ := mem_getD ha
    rw [List.length_map, Array.length_toList] at hjj
    rw [← numAt_eq]; exact hh2 j (by omega)
end
section
variable {X : Cx}
def rMaxT (K : PySem.W.Frag) : List V → Hp → VK → Prop := fun vs Hh Qq => ∃ (a : Addr) (nms : List Int), vs = [V.ref a] ∧ SqT K Hh a (nms.map V.int) ∧ 0 < nms.length ∧ ∀ m, m ∈ nms → (∀ y, y ∈ nms → y ≤ m) → Qq (.int m) Hh
theorem cr_maxT (hc : X.calm = true) : CallR X (.builtin "max") (rMaxT X.K) := by
  intro pns s σs Hh vs uvs Qq Iv r h
  obtain ⟨a, nms, rfl, hs, hpos, qq⟩ := h
  obtain ⟨vls, rlv, hlst, _⟩ := Iv.tuple hs
  rw [Vals.ref1 r]
  exact maxT_raw (Iv.ok.hd hc) (isTuple_of hlst) rlv.ints hpos fun h' tkn m t' hk hh1 hh2 => ⟨.int _, Hh, Iv.kept hk, ⟨_, rfl⟩, qq m hh1 hh2⟩
theorem flat_ints (yms : List Int) : (yms.map V.int).all flatV = true := by
  rw [List.all_map]
  exact List.all_eq_true.mpr fun _ _ => rfl
def rTIdx (K : PySem.W.Frag) : V → List V → Hp → VK → Prop := fun x vxs Hh Qq => ∃ (p : Addr) (yms : List Int) (z : Int) (j : Nat), x = .ref p ∧ vxs = [.int z] ∧ SqT K Hh p (yms.map V.int) ∧ yms[j]? = some z ∧ (∀ m, m < j → yms[m]? ≠ some z) ∧ Qq (.int (j : Nat)) Hh
theorem mt_tupIdx : MtR X "tuple.index" (rTIdx X.K) := by
  intro pns s σs Hh x vxs v uvs Qq Iv rlx rs h
  obtain ⟨p, yms, z, j, rfl, rfl, hsq, hatj, hnot, qq⟩ := h
  cases rlx
  obtain ⟨u, rfl, t, rfl⟩ := vals1 rs
  obtain ⟨vls, r, pl, hszz⟩ := Iv.tuple hsq
  obtain ⟨⟨cls, dct, dta, slt⟩, hob, hc, n, hd⟩ := pl
  simp only at hc hd
  subst hc
  subst hd
  have hlst : vls.toArray.size = yms.length := by rw [List.size_toArray, ← r.length, List.length_map]
  have hjj : j < vls.toArray.size := by rw [hlst]; exact (List.getElem?_eq_some_iff.mp hatj).1
  have at' : ∀ (m : Nat) (hmm : m < vls.toArray.size), ∃ y t', yms[m]? = some y ∧ vls.toArray[m] = Value.int y t' := fun m hmm => by
    have hm' : m < yms.length := by rw [← hlst]; exact hmm
    obtain ⟨w, hwv, t', hw'⟩ := r.get (i := m) (x := .int yms[m]) (by simp [hm'])
    refine ⟨yms[m], t', List.getElem?_eq_getElem hm', ?_⟩
    have e := (List.getElem?_eq_some_iff.mp hwv).2
    rw [← hw', ← e]
    simp
  refine call_meets PySem.F.slot_tuple_index ⟨_, hob, rfl⟩ PySem.F.entry_tuple_index (PySem.F.args_tuple_index_2 _ _) (TI.tuple_indexAt p vls.toArray n dct slt (.int z t) (eqU (.int z)) j hjj ?_ ?_)
    ⟨hob, fun w hwv => mem_eqAt (x := .int z) ⟨t, rfl⟩ rfl r (flat_ints yms) w (by simpa using hwv), ⟨.int (j : Nat), Hh, Iv.tok _, ⟨_, rfl⟩, qq⟩⟩
  · obtain ⟨y, t', hh1, hh2⟩ := at' j hjj
    rw [hatj] at hh1
    cases hh1
    rw [hh2]
    simp [eqU, eqV]
  · intro m hmm hlt
    obtain ⟨y, t', hh1, hh2⟩ := at' m hmm
    rw [hh2]
    have : y ≠ z := fun e => hnot m hlt (by rw [hh1, e])
    simp [eqU, eqV, this]
end
/-! isinstance(e, c), e the exception that the suite holds, with vls dict -/
def rIsED (K : PySem.W.Frag) (D a : Addr) : List V → Hp → VK → Prop := fun vxs Hh Qq => ∃ (c : V) (cv : Value) (b : Bool), vxs = [.ref a, c] ∧ (∀ u, RelV c u → u = cv) ∧ PySem.W.kitOne K (.ref D) cv = some b ∧ Qq (.bl b) Hh
end Rg
namespace Rg
open PySem PySem.Spec PyProof.Rows L2 SrtO
/-! ### sorted(t), t a tuple -/
section
variable {prog : Program} {w : World} {A : Around} {E : Value → Shared → Prop} {s : Shared} {l : Addr} {vs : List Value}
/-- the heap behind the collecting -/
abbrev colHeap (h : Heap) (vs : List Value) : Heap := (h.push (seqObj "list" #[] 0)).update h.objs.size (Obj.mapSeq (· ++ vs.toArray))
theorem col_tup {Qq : List Value → Shared → Prop} (hlst : s.heap.IsTuple l vs.toArray) (hszz : vs.length ≤ sizeLine) (h : Qq vs { s with heap := colHeap s.heap vs }) : wpAny (model prog w) A (collect (.ref l)) Qq E s := by
  obtain ⟨oj, hob, hc, n, hd⟩ := hlst
  have hnew : (s.heap.push (seqObj "list" #[] 0)).get? s.heap.objs.size = some (seqObj "list" #[] 0) := Heap.get?_push_size _ rfl
  have hold : (s.heap.push (seqObj "list" #[] 0)).get? l = some oj := Heap.get?_push_of_some _ hob
  have tt : (Value.type "tuple" == Value.type "tuple") = true := by rfl
  unfold collect
  refine wpAny_bind (wpAny_runValue (codeAny_builtin entry_proto_collect' ?_))
  show wpAny _ _ (do again (.builtin "list.__iadd__" ⟨[← newList [], .ref l], []⟩)) _ _ s
  refine wpAny_bind (wpAny_newList (wpAny_pure ⟨Code.quiet_builtin _ (by decide +kernel), codeAny_builtin entry_list_iadd' ?_⟩))
  show wpAny _ _ (Builtin.List.listExtendWith (.ref s.heap.objs.size) (.ref l) (.ref s.heap.objs.size)) _ _ { s with heap := s.heap.push (seqObj "list" #[] 0) }
  unfold Builtin.List.listExtendWith
  refine wpAny_bind (wpAny_typeOf (T := "tuple") ⟨oj, hold, hc⟩ ?_)
  rw [if_pos (by rw [tt]; simp)]
  refine wpAny_bind (listItems_at hold hd (wpAny_bind (listItems_at (xs := #[]) (n := 0) hnew rfl ?_)))
  rw [if_neg (by simp)]
  refine wpAny_bind (listUpdate_at (xs := #[]) (n := 0) hnew rfl (wpAny_pure ?_) (Nat.zero_le _) (by show (#[] ++ vs.toArray).size ≤ sizeLine + 1; simp only [Array.size_append, List.size_toArray, List.length_nil]; omega))
  show wpAny (model prog w) A (do
      let oj ← load s.heap.objs.size
      match oj.data with
      | .seq vxs _ => pure vxs.toList
      | _ => unsupported "internal:collect") Qq E { s with heap := colHeap s.heap vs }
  refine wpAny_bind (wpAny_load (get?_update_seq hnew _) ?_)
  show wpAny _ _ (pure ((#[] : Array Value) ++ vs.toArray).toList) Qq E _
  have e : ((#[] : Array Value) ++ vs.toArray).toList = vs := by simp
  rw [e]
  exact wpAny_pure h
theorem sorted_tup {ltv : Value → Value → Bool} {Qq : Value → Shared → Prop} (O : Swo ltv) (hlst : s.heap.IsTuple l vs.toArray) (hszz : vs.length ≤ sizeLine)
    (hS : 2 ≤ vs.length → ∀ (h₁ : Heap) (a : Addr), h₁.get? a = some (seqObj "list" vs.toArray 0) → (∀ b oj, s.heap.get? b = some oj → b ≠ a ∧ h₁.get? b = some oj) → SortableO prog w A.in1.in1 { s with heap := h₁ } a vs ltv)
    (h : ∀ out : List Value, Srtd ltv out → Stb ltv out vs → Qq (.ref (s.heap.objs.size + 1)) { s with heap := sortedAll s.heap vs out.toArray }) : wpAny (model prog w) A (call (.builtin "sorted") [.ref l]) Qq E s := by
  have size1 : (colHeap s.heap vs).objs.size = s.heap.objs.size + 1 := by rw [Heap.size_update, size_push']
  have at1 : ((colHeap s.heap vs).push (seqObj "list" vs.toArray 0)).get? (s.heap.objs.size + 1) = some (seqObj "list" vs.toArray 0) := size1 ▸ Heap.get?_push_size (colHeap s.heap vs) rfl
  have old : ∀ b oj, s.heap.get? b = some oj → b ≠ s.heap.objs.size + 1 ∧ ((colHeap s.heap vs).push (seqObj "list" vs.toArray 0)).get? b = some oj := fun b oj qq => by
    have lt : b < s.heap.objs.size := Heap.lt_size qq
    exact ⟨Nat.ne_of_lt (Nat.lt_succ_of_lt lt), Heap.get?_push_of_some _ ((Heap.get?_update_ne _ _ _ _ (Nat.ne_of_lt lt)).trans (Heap.get?_push_of_some _ qq))⟩
  refine Calls.call_function_entry kind_sorted plain_sorted entry_sorted (args_sorted1 _) ?_
  unfold Builtin.«sorted»
  refine wpAny_bind (m := checkCount "sorted" 1 1 _) (wpAny_pure (wpAny_bind (col_tup hlst hszz (wpAny_bind (wpAny_newList ?_ hszz)))))
  show wpAny _ _ _ _ _ { s with heap := (colHeap s.heap vs).push (seqObj "list" vs.toArray 0) }
  rw [size1]
  exact wpAny_bind (wpAny_holding (wpAny_call_entry slot_list_sort ⟨_, at1, rfl⟩ entry_list_sort (list_sort_ord O at1 hszz (fun hh2 => hS hh2 _ _ at1 old) fun out hs hb => ⟨_, rfl, wpAny_pure ⟨_, rfl, h out hs hb⟩⟩) (args_list_sort _)))
end
section
variable {X : Cx}
def rSortedT (K : PySem.W.Frag) : List V → Hp → VK → Prop := fun vs Hh Qq => ∃ (a : Addr) (nms : List Int), vs = [V.ref a] ∧ SqT K Hh a (nms.map V.int) ∧
  ∀ (ns' : List Int) (p : Addr), ns'.Perm nms → ns'.Pairwise (· ≤ ·) → Hh p = none → Qq (.ref p) (upd Hh p (.lst (ns'.map V.int)))
theorem cr_sortedT : CallR X (.builtin "sorted") (rSortedT X.K) := by
  intro pns s σs Hh vs uvs Qq Iv r h
  obtain ⟨a, nms, rfl, hs, qq⟩ := h
  obtain ⟨vls, rlv, hlst, hszz⟩ := Iv.tuple hs
  have hint := rlv.ints
  rw [List.length_map] at hszz
  rw [Vals.ref1 r]
  refine sorted_tup swo_int (isTuple_of hlst) (by rw [hint.length]; exact hszz) (fun hh2 h₁ a' _ _ => ints_sortable hint hh2) fun out hh1 hh2 => ?_
  obtain ⟨k1, k2, k3⟩ := ints_out hint hh1 hh2
  obtain ⟨ep, he'⟩ := PyProof.Rows.sortedAll_at s.heap vls out.toArray
  exact ⟨.ref _, upd Hh (s.heap.objs.size + 1) (.lst ((out.map iv).map V.int)), Iv.laid (t' := s.toks) (fun _ _ => PyProof.Rows.sortedAll_old) (Nat.le_succ _) ⟨by rw [List.length_map, k2.length_eq]; exact hszz, out, ep, vals_of_ints k1, he'⟩, rfl, qq _ _ k2 k3 (Iv.hok.fresh (Nat.le_succ _))⟩
end
end Rg
namespace Rg
open PySem PySem.Spec PyProof.Rows L2 SrtO
/-! ### sorted(vxs), vxs a list of pairs (k, t): k an int, t a tuple of ints -/
/-- at v a pair of x and a tuple of the ints nms -/
def Nest (h : Heap) (v : Value) (x : Int) (nms : List Int) : Prop := ∃ (a b : Addr) (oj : Obj) (t : Tok) (n : Nat) (vls : List Value), v = .ref a ∧ h.get? a = some oj ∧ oj.cls = .type "tuple" ∧ oj.data = .seq #[.int x t, .ref b] n ∧ IsTup h b vls.toArray ∧ IntsAre vls nms
theorem Nest.kept {h h' : Heap} {v : Value} {x : Int} {nms : List Int} (p : Nest h v x nms) (k : ∀ b oj, h.get? b = some oj → oj.cls = .type "tuple" → h'.get? b = some oj) : Nest h' v x nms := by
  obtain ⟨a, b, oj, t, n, vls, e, hob, hc, hd, ⟨ob, hb, hbc, hbd⟩, hint⟩ := p
  exact ⟨a, b, oj, t, n, vls, e, k _ _ hob hc, hc, hd, ⟨ob, k _ _ hb hbc, hbc, hbd⟩, hint⟩
theorem reads_ints {h : Heap} : ∀ {vs : List Value} {nms : List Int}, IntsAre vs nms → ∃ as, ReadsAll h vs (nms.map PyData.int) as
  | _, _, .nil => ⟨_, .nil⟩
  | _, _, .cons i t r => by
    obtain ⟨as, qq⟩ := reads_ints (h := h) r
    exact ⟨_, .cons (.int i t) qq⟩
theorem eqvA_ints : ∀ vxs yms : List Int, PyData.eqvAll (vxs.map PyData.int) (yms.map PyData.int) = decide (vxs = yms)
  | [], [] => by simp [PyData.eqvAll]
  | [], y :: yms => by simp [PyData.eqvAll]
  | x :: vxs, [] => by simp [PyData.eqvAll]
  | x :: vxs, y :: yms => by
    simp only [List.map_cons, PyData.eqvAll, eqvA_ints vxs yms, PyData.eqv]
    by_cases e : x = y <;> by_cases f : vxs = yms <;> simp [e, f]
theorem layA_ints : ∀ l : List Int, PyData.canLayAll0 (l.map PyData.int) = true
  | [] => by simp [PyData.canLayAll0]
  | i :: l => by simp [PyData.canLayAll0, PyData.canLay0, layA_ints l]
theorem depA_ints : ∀ l : List Int, PyData.depthAll (l.map PyData.int) = 0
  | [] => by simp [PyData.depthAll]
  | i :: l => by simp [PyData.depthAll, PyData.depth, depA_ints l]
theorem lex_self : ∀ l : List Int, HT.lexLt l l = false
  | [] => rfl
  | x :: l => by rw [HT.lexLt_cons, if_pos rfl]; exact lex_self l
section
variable {prog : Program} {w : World} {A : Around} {E : Value → Shared → Prop} {s : Shared}
theorem eq_tupInts {b c : Addr} {vls jts : List Value} {nms ms : List Int} (hb : IsTup s.heap b vls.toArray) (hc : IsTup s.heap c jts.toArray) (hint : IntsAre vls nms) (hjj : IntsAre jts ms) (hu : A.units + 1 < cLine) :
    SeqAt.EqAt A s (.ref b) (.ref c) (decide (nms = ms)) := by
  obtain ⟨o1, hh1, c1, n1, d1⟩ := hb
  obtain ⟨o2, hh2, c2, n2, d2⟩ := hc
  obtain ⟨as, r1⟩ := reads_ints (h := s.heap) hint
  obtain ⟨bs, r2⟩ := reads_ints (h := s.heap) hjj
  have qq := SeqAt.eqAt_reads (.tuple (nms.map PyData.int)) (.tuple (ms.map PyData.int)) A s (.ref b) (.ref c) _ _ (Reads.tuple hh1 c1 d1 r1) (Reads.tuple hh2 c2 d2 r2) (by simp only [PyData.canLay0]; exact layA_ints nms) (by simp only [PyData.canLay0]; exact layA_ints ms)
    (by simp only [PyData.depth, depA_ints]; omega)
  have e : PyData.eqv (.tuple (nms.map PyData.int)) (.tuple (ms.map PyData.int)) = decide (nms = ms) := by
    simp only [PyData.eqv]
    exact eqvA_ints nms ms
  rwa [e] at qq
theorem nest_cmp {vs : List Value} {k : Value → Int × List Int} (hp : ∀ v ∈ vs, Nest s.heap v (k v).1 (k v).2) (hu : A.units + 1 < cLine) :
    SrtO.Cmp prog w A s (tuples' true) (fun p => p.1 ∈ vs) (lt2 fun v u => HT.lexLt ((k v).1 :: (k v).2) ((k u).1 :: (k u).2)) := by
  intro p qq hmm hm'
  have hh1 := hp _ hmm
  have hh2 := hp _ hm'
  show wpAny (model prog w) A (keyLt' (tuples' true) p.1 qq.1) (fun r s' => s' = s ∧ r = HT.lexLt ((k p.1).1 :: (k p.1).2) ((k qq.1).1 :: (k qq.1).2)) (fun _ _ => False) s
  generalize (k p.1).1 = x at hh1 ⊢
  generalize (k p.1).2 = nms at hh1 ⊢
  generalize (k qq.1).1 = y at hh2 ⊢
  generalize (k qq.1).2 = ms at hh2 ⊢
  obtain ⟨a, b, oj, t, n, vls, e, hob, hc, hd, hb, hint⟩ := hh1
  obtain ⟨a', b', o', t', n', its', e', ho', hc', hd', hb', hi'⟩ := hh2
  rw [e, e', HT.lexLt_cons]
  refine PySem.W.kat_lt hob hd ho' hd' ?_
  show PySem.W.KatLex prog w A true (decide (2 < 2)) _ [(.int x t, .int y t'), (.ref b, .ref b')] 0 s
  refine PySem.W.kat_cons (SeqAt.EqAt.int_int x t y t' prog w _ _ (PySem.W.kat_go (fun e1 => PySem.W.kat_yes (PySem.W.kat_cons (eq_tupInts hb hb' hint hi' hu prog w _ _ (PySem.W.kat_go (fun ee2 => ?_) (fun ee2 => ?_))))) (fun e1 => ?_)))
  · have ex : x = y := by simpa using e1
    have ey : nms = ms := of_decide_eq_true ee2
    refine PySem.W.kat_yes (PySem.W.kat_nil ⟨rfl, ?_⟩)
    rw [if_pos ex, ey, lex_self]
    rfl
  · have ex : x = y := by simpa using e1
    rw [if_pos ex]
    exact PySem.W.kat_no (PySem.W.kat_one _ _ (HT.lt_tupInts hb hb' hint hi' (by omega) ⟨rfl, rfl⟩))
  · have ex : ¬ x = y := by simpa using e1
    rw [if_neg ex]
    exact PySem.W.kat_no (oneLt_int ⟨rfl, rfl⟩)
theorem nest_firsts {h : Heap} {k : Value → Int × List Int} : ∀ {vs : List Value}, (∀ v ∈ vs, Nest h v (k v).1 (k v).2) → ∃ fs : List Value, PySem.W.KatTups h vs fs ∧ fs.length = vs.length ∧ ∀ f ∈ fs, ∃ x t, f = Value.int x t
  | [], _ => ⟨[], PySem.W.KatTups.nil, rfl, fun _ z => nomatch z⟩
  | v :: vs, hp => by
    obtain ⟨fs, q1, q2, q3⟩ := nest_firsts fun v' z => hp v' (List.mem_cons_of_mem _ z)
    obtain ⟨a, b, oj, t, n, vls, e, hob, hc, hd, _⟩ := hp v (List.mem_cons_self ..)
    rw [e]
    refine ⟨.int _ t :: fs, PySem.W.KatTups.cons hob hc hd rfl q1, congrArg (· + 1) q2, fun f z => ?_⟩
    rcases List.mem_cons.mp z with z | z
    · exact ⟨_, t, z⟩
    · exact q3 f z
theorem nest_sortable {a : Addr} {vs : List Value} {k : Value → Int × List Int} (h0 : 0 < vs.length) (hu : A.units + 1 < cLine) (hp : ∀ v ∈ vs, Nest s.heap v (k v).1 (k v).2) (ha : ∀ oj, s.heap.get? a = some oj → oj.cls ≠ .type "tuple") :
    SortableO prog w A s a vs fun v u => HT.lexLt ((k v).1 :: (k v).2) ((k u).1 :: (k u).2) := by
  intro h' keep
  have hp' : ∀ v ∈ vs, Nest h' v (k v).1 (k v).2 := fun v z => (hp v z).kept fun b oj e c => keep b oj (fun z => ha oj (z ▸ e) c) e
  obtain ⟨fs, q1, q2, q3⟩ := nest_firsts hp'
  refine ⟨tuples' true, fun Qq E hsq => PySem.W.kat_kind (T := .type "int") q1 (by omega) (fun f z => ?_) (by rfl) ?_, nest_cmp hp' hu⟩
  · obtain ⟨x, t, e⟩ := q3 f z
    rw [e]
    exact PySem.W.Looks.now
  · rw [show (Value.type "int" != Value.type "tuple") = true by decide +kernel]
    exact hsq
end
section
variable {X : Cx}
/-- k says what stands at each item -/
def rSortedN (K : PySem.W.Frag) : List V → Hp → VK → Prop := fun vs Hh Qq => ∃ (a : Addr) (vxs : List V) (k : V → Int × List Int), vs = [V.ref a] ∧ SqL K Hh a vxs ∧ (∀ x ∈ vxs, ∃ t b, x = V.ref t ∧ Hh t = some (.tup [.int (k x).1, .ref b]) ∧ Hh b = some (.tup ((k x).2.map V.int))) ∧
  ∀ yms p, Srtd (fun v u => HT.lexLt ((k v).1 :: (k v).2) ((k u).1 :: (k u).2)) yms → yms.Perm vxs → Hh p = none → Qq (.ref p) (upd Hh p (.lst yms))
theorem cr_sortedN (hu : X.A.units + 64 < cLine) : CallR X (.builtin "sorted") (rSortedN X.K) := by
  intro pns s σs Hh vs uvs Qq Iv r h
  obtain ⟨a, vxs, k, rfl, hs, hx, qq⟩ := h
  obtain ⟨vls, rlv, hlst, hszz⟩ := Iv.list hs
  rw [Vals.ref1 r]
  obtain ⟨e1, ee2⟩ := refs_back rlv fun x m => let ⟨t, _, e, _⟩ := hx x m; ⟨t, e⟩
  have nst : ∀ v ∈ vls, Nest s.heap v (k (backV v)).1 (k (backV v)).2 := fun v hval => by
    obtain ⟨t, rfl⟩ := ee2 v hval
    obtain ⟨t', b, et, hh1, hh2⟩ := hx (V.ref t) (by rw [e1]; exact List.mem_map.mpr ⟨_, hval, rfl⟩)
    cases et
    obtain ⟨_, jts, r2, oj, hob, hc, n, hd⟩ := Iv.hok _ _ hh1
    obtain ⟨u1, u2, rfl, ⟨t1, rfl⟩, r3⟩ := vals2 r2
    obtain rfl : u2 = Value.ref b := r3
    obtain ⟨_, kts, r4, p4⟩ := Iv.hok _ _ hh2
    exact ⟨t, b, oj, t1, n, kts, rfl, hob, hc, hd, p4, r4.ints⟩
  refine sorted_ord (NtL.swo_lexL fun u : Value => (k (backV u)).1 :: (k (backV u)).2) hlst.isList (by rw [← rlv.length]; exact hszz) (fun hh2 h₁ a' ha kk => ?_) fun out hh1 hh2 => ?_
  · refine nest_sortable (s := { s with heap := h₁ }) (k := fun u => k (backV u)) (by omega) (show X.A.units + 1 + 1 + 1 < cLine by omega) (fun v hval => (nst v hval).kept fun b oj e _ => (kk b oj e).2) fun oj e c => ?_
    cases e.symm.trans ha
    exact absurd (Value.type.inj c) (by decide)
  · have h3 : ∀ u ∈ out, ∃ a, u = Value.ref a := fun u hu => ee2 u (hh2.perm.mem_iff.mp hu)
    have hp : (out.map backV).Perm vxs := by rw [e1]; exact hh2.perm.map backV
    obtain ⟨n, hnn⟩ := PyProof.Rows.sortedAll_at s.heap vls out.toArray
    exact ⟨.ref _, upd Hh (s.heap.objs.size + 1) (.lst (out.map backV)), Iv.laid (t' := s.toks) (fun _ _ => PyProof.Rows.sortedAll_old) (Nat.le_succ _) ⟨by rw [hp.length_eq]; exact hszz, out, n, vals_back h3, hnn⟩, rfl,
      qq _ _ (List.pairwise_map.mpr hh1) hp (Iv.hok.fresh (Nat.le_succ _))⟩
end
end Rg
namespace Rg
open PySem PySem.Spec PyProof.Rows L2
/-! tuple(list), whose object is known to have no dict: so that vls methods can be called -/
section
variable {X : Cx}
def rTupF (K : PySem.W.Frag) : List V → Hp → VK → Prop := fun vxs Hh Qq => ∃ p yms, vxs = [V.ref p] ∧ SqL K Hh p yms ∧ ∀ l oj, Hh l = none → oj.dict = none → Qq (.ref l) (upd Hh l (.frz oj (.tup yms)))
theorem cr_tupF : CallR X (.type "tuple") (rTupF X.K) := by
  intro pns s σs Hh vxs uvs Qq Iv r ⟨p, yms, e, hsq, qq⟩
  subst e
  obtain ⟨u, rfl, rlx⟩ := vals1 r
  cases rlx
  obtain ⟨vls, rlv, pl, sz⟩ := Iv.list hsq
  have hnn := rlv.length
  refine call_tuple_list pl.isList (fun hh1 kp => ?_) (by rw [List.size_toArray]; omega)
  have J : Inv X pns σs Hh { s with heap := hh1 } := Iv.kept (t' := s.toks) kp
  have J2 : Inv X pns σs (upd Hh hh1.objs.size (.frz { cls := .type "tuple", data := .seq vls.toArray } (.tup yms))) { s with heap := hh1.push { cls := .type "tuple", data := .seq vls.toArray } } :=
    J.laid (t' := s.toks) (fun b oj e => Heap.get?_push_of_some _ e) (Nat.le_refl _)
      (show ObjOk X.prog X.w _ _ _ (.frz _ (.tup yms)) from ⟨Heap.get?_push_size _ rfl, sz, vls, rlv, IsTup.new _ _⟩)
  exact ⟨.ref hh1.objs.size, _, J2, rfl, qq _ _ (J.hok.fresh (Nat.le_refl _)) rfl⟩
def tyTF (x : V) (Hh : Hp) : Prop := ∃ a oj yms, x = .ref a ∧ Hh a = some (.frz oj (.tup yms)) ∧ oj.dict = none
theorem ty_tf : TyOk X "tuple" tyTF := by
  intro pns σs Hh s x v Iv r ⟨a, oj, yms, e, h, hd⟩
  subst e
  cases r
  obtain ⟨e, _, vls, _, o2, ee2, hc, _⟩ := (show ObjOk X.prog X.w Hh s.heap a (.frz oj (.tup yms)) from Iv.hok a _ h)
  refine ⟨⟨_, ee2, hc⟩, fun b qq => ?_⟩
  cases qq
  exact ⟨oj, e, hd⟩
end
end Rg
namespace Rg
open PySem PySem.Spec PyProof.Rows L2 LamX
/-! ### sorted(lots, key=lambda lot: (len(lot), lot)), lots tuples of ints -/
theorem reads_intsN {h : Heap} : ∀ {vs : List Value} {nms : List Int}, IntsAre vs nms → ReadsAll h vs (nms.map PyData.int) []
  | _, _, .nil => .nil
  | _, _, .cons i t r => .cons (.int i t) (reads_intsN r)
def lotKey (l : List Int) : PyData := .tuple [.int (l.length : Nat), .tuple (l.map PyData.int)]
theorem alike_lotKey (a b : List Int) : PySem.W.alike (lotKey a) (lotKey b) = true := by
  simp [lotKey, PySem.W.alike, PySem.W.alikeAll, PySem.W.alike_ints]
theorem depth_lotKey (a : List Int) : (lotKey a).depth ≤ 4 := by
  simp [lotKey, PyData.depth, PyData.depthAll, PySem.W.depth_ints]
theorem eqvA_ints8 : ∀ vxs yms : List Int, PyData.eqvAll (vxs.map PyData.int) (yms.map PyData.int) = decide (vxs = yms)
  | [], [] => by simp [PyData.eqvAll]
  | [], y :: yms => by simp [PyData.eqvAll]
  | x :: vxs, [] => by simp [PyData.eqvAll]
  | x :: vxs, y :: yms => by
    simp only [List.map_cons, PyData.eqvAll, eqvA_ints8 vxs yms, PyData.eqv]
    by_cases e : x = y <;> by_cases f : vxs = yms <;> simp [e, f]
/-- fewer bars first, then as tuples -/
def lotLe (a b : List Int) : Bool := !PySem.W.dataLt (lotKey b) (lotKey a)
section
variable {prog : Program} {w : World} {A : Around} {s : Shared} {h : Heap}
theorem lotkey_turn {tk : Nat} {f c' t : Addr} {q y : Str} {params : Arguments} {scope : Scope} {pm ctv : Value} {p1 p2 p3 p4 p5 : Pos} {x1 : Nat} {mg mb : Str → Option Value} {ns : List Int} {its : List Value}
    (hroom : A.depth < recursionLimit)
    (hf : h.get? f = some (PySem.W.kla_obj "<lambda>" q params (.Tuple [.Call (.Name "len" p1) [.Name y p2] [] p3, .Name y p4] x1 p5) scope [] pm c' ctv))
    (hco : scope.isCoroutine = false) (hgen : scope.isGenerator = false) (hk : scope.kind = .function)
    (hcell : ∀ x ∈ scope.names, x.2 ≠ .cell) (hy : scope.names.lookup y = some .local) (hlen : scope.names.lookup ("len" : Str) = some .globalImplicit)
    (hbind : ∀ v : Value, bindArgs (PySem.W.kla_fn "<lambda>" q params (.Tuple [.Call (.Name "len" p1) [.Name y p2] [] p3, .Name y p4] x1 p5) scope [] pm (.ref c') ctv) ⟨[v], []⟩ = pure [(y, v)])
    (hcd : h.CodeRec (.ref c') q) (hg : h.Ns mainGlobals mg) (hm : mg ("len" : Str) = none) (hb : h.Ns builtinsNs mb) (hmb : mb ("len" : Str) = some (.builtin "len")) (hnl : h.NoLimit)
    (ht : IsTup h t its.toArray) (hi : IntsAre its ns) (hz : its.length ≤ sizeLine) (hyd : (y == ("__debug__" : Str)) = false) :
    wpAny (model prog w) A (call (.ref f) [.ref t]) (PySem.W.KeyPure (lotKey ns) { s with heap := h, toks := tk }) (fun _ _ => False) { s with heap := h, toks := tk } := by
  refine wpAny_call (PySem.W.kla_callFunE hroom hf rfl hco hgen rfl hcd ?_)
  rw [hbind]
  refine wpAny_pure (wpAny_newFunctionEnv hcell (fun z hz => by rw [List.mem_singleton.mp hz]; exact hy) (fun h₁ hns hsb => ⟨hnl.fresh _ hsb, ?_⟩) hk)
  have kp : ∀ b o, h.get? b = some o → h₁.get? b = some o := fun b o e => hsb.extBut b o (Nat.ne_of_lt (Heap.lt_size e)) (Heap.get?_push_of_some _ e)
  show codeAny _ _ (.expr _ (PySem.W.envX q scope h.objs.size f (.ref c') [])) _ _
  refine PySem.W.kla_codeExpr ?_
  refine wpAny_Tuple_spliced ?_
  have rd : ∀ (A' : Around) (tk' : Nat) (pos : Pos) (Q : Value → Shared → Prop) (E : Value → Shared → Prop), Q (.ref t) { s with heap := h₁, toks := tk' } → wpAny (model prog w) A' (eval (.Name y pos) (PySem.W.envX q scope h.objs.size f (.ref c') [])) Q E { s with heap := h₁, toks := tk' } := fun A' tk' pos Q E hQ =>
    wpAny_Name (wpAny_loadName_local hk hy hns (by show ([(y, Value.ref t)].reverse).lookup y = _; simp) hQ) hyd
  refine Calls.spliced_cons (wpAny_Call_Name_kw (Calls.Name_function_global hk hlen (Calls.loadGlobal_builtin (hg.keeps kp) hm (hb.keeps kp) hmb ?_)))
  refine PyProof.Rows.callWith_builtin1 (Calls.spliced_cons (rd _ _ _ _ _ (Calls.spliced_nil ?_))) rfl rfl
  refine len_tuple (ht.keeps kp) ?_ ?_
  · have := line63
    simp only [List.size_toArray]
    omega
  refine Calls.spliced_cons (rd _ _ _ _ _ (Calls.spliced_nil ⟨by show 2 ≤ sizeLine; decide, ?_⟩))
  refine ⟨_, _, rfl, fun b o e => Heap.get?_push_of_some _ (kp b o e), ?_⟩
  obtain ⟨o, ho, hc, n, hd⟩ := ht.keeps kp
  refine Reads.tuple (Heap.get?_push_size _ rfl) rfl rfl ?_
  show ReadsAll _ [.int (its.toArray.size : Nat) _, .ref t] [.int (ns.length : Nat), .tuple (ns.map .int)] []
  have e1 : its.toArray.size = ns.length := by rw [List.size_toArray, hi.length]
  rw [e1]
  exact ReadsAll.cons (.int _ _) (ReadsAll.cons (Reads.tuple (Heap.get?_push_of_some _ ho) hc hd (reads_intsN hi)) .nil)
end
theorem each_vals : ∀ {out : List Value} {ys : List V}, PySem.W.EachIs (fun u x => RelV x u) out ys → Vals ys out
  | _, _, .nil => .nil
  | _, _, .cons r t => .cons r (each_vals t)
theorem vals_each : ∀ {ys : List V} {out : List Value}, Vals ys out → PySem.W.EachIs (fun u x => RelV x u) out ys
  | _, _, .nil => .nil
  | _, _, .cons r t => .cons r (vals_each t)
section
variable {X : Cx}
/-- sorted(e, key=the lambda) -/
def tSortLots (K : PySem.W.Frag) (T : List (Addr × Str)) (te : TE) : TE := fun σ H Q => te σ H fun v H1 => ∃ (a : Addr) (xs : List V) (k : V → List Int), v = .ref a ∧ SqL K H1 a xs ∧ (∀ x ∈ xs, ∃ t, x = V.ref t ∧ H1 t = some (.tup ((k x).map V.int))) ∧ Tabs T H1 ∧
  ∀ (H2 : Hp) (p : Addr) (ys : List V), ExtN H1 H2 → Tabs T H2 → ys.Perm xs → (ys.Pairwise fun u v => lotLe (k u) (k v) = true) → H2 p = none → Q (.ref p) (upd H2 p (.lst ys))
theorem pe_sortLots {T : List (Addr × Str)} {c P : Addr} {y : Str} {params : Arguments} {scope : Scope} {p p1 p2 p3 p4 p5 lpos kpos pos : Pos} {x1 : Nat} {e : Expr} {te : TE}
    (hdp : X.A.depth < recursionLimit) (hu : X.A.units + 64 < cLine) (hgS : Gl X ("sorted" : Str)) (hmS : X.mg ("sorted" : Str) = none) (hmL : X.mg ("len" : Str) = none) (he : PE X e te)
    (TB : TabB X.base X.mg c P) (hcode : X.env.code = .ref c) (hmT : (P, X.env.qual ++ "<lambda>") ∈ T) (huT : ∀ p ∈ T, p.1 = P → p.2 = X.env.qual ++ "<lambda>")
    (hdef : defaultsOf params X.env = ([], [])) (hco : scope.isCoroutine = false) (hgen : scope.isGenerator = false) (hk : scope.kind = .function)
    (hcell : ∀ x ∈ scope.names, x.2 ≠ .cell ∧ x.2 ≠ .free) (hy : scope.names.lookup y = some .local) (hlen : scope.names.lookup ("len" : Str) = some .globalImplicit) (hclo : cloFrom X.env.cells scope.names [] = [])
    (hbind : ∀ (q : Str) (pm cv ctv v : Value), bindArgs (PySem.W.kla_fn "<lambda>" q params (.Tuple [.Call (.Name "len" p1) [.Name y p2] [] p3, .Name y p4] x1 p5) scope [] pm cv ctv) ⟨[v], []⟩ = pure [(y, v)])
    (hyd : (y == ("__debug__" : Str)) = false := by decide)
    (hes : backTo pos (starEach [e] X.env) = [(false, eval e X.env)] := by rfl) :
    PE X (.Call (.Name "sorted" p) [e] [⟨some "key", .Lambda params (.Tuple [.Call (.Name "len" p1) [.Name y p2] [] p3, .Name y p4] x1 p5) scope lpos, kpos⟩] pos) (tSortLots X.K T te) := by
  refine ⟨fun pins s σ H Q I h => ?_⟩
  refine wpAny_Call_Name_kw (ld_blt I hgS hmS (u := .builtin "sorted") (by decide +kernel) ?_ (by decide) (by decide))
  refine PyProof.Rows.callWith_kw ?_ hes (by rw [hes]; rfl) rfl rfl
  rw [hes]
  refine Calls.spliced_cons (thn (he.run pins s σ H _ I h) fun u s1 ⟨v, H1, I1, r1, q1⟩ => Calls.spliced_nil ?_)
  obtain ⟨a, xs, k, rfl, hs, hx, hT, q⟩ := q1
  obtain rfl : u = Value.ref a := r1
  show wpAny _ _ (evalAll [do let v ← eval (.Lambda params (.Tuple [.Call (.Name "len" p1) [.Name y p2] [] p3, .Name y p4] x1 p5) scope lpos) X.env; standAt pos; pure v]) _ _ _
  refine wpAny_evalAll_cons (wpAny_bind ?_)
  refine lam_make2 I1 TB hcode hmT huT hT hdef (fun z hz ef => absurd ef (hcell z hz).2) fun f c' pm ctv H2 s2 I2 eN T2 hf hfn hfr hco2 => ?_
  rw [hclo] at hf
  refine wpAny_bind (wpAny_standAt (wpAny_pure ?_))
  refine wpAny_evalAll_nil ?_
  show wpAny _ _ (call (.builtin "sorted") [.ref a] [(Str.ofString "key", .ref f)]) _ _ s2
  have hs2 : SqL X.K H2 a xs := by
    rcases hs with (hs | ⟨o, hs⟩) | hs
    · exact .inl (.inl (eN _ _ hs (fun _ z => nomatch z)))
    · exact .inl (.inr ⟨o, eN _ _ hs (fun _ z => nomatch z)⟩)
    · exact .inr hs
  obtain ⟨its, rv, hl, hsz⟩ := I2.list hs2
  have hx2 : ∀ x ∈ xs, ∃ t, x = V.ref t ∧ H2 t = some (.tup ((k x).map V.int)) := fun x m => let ⟨t, e1, e2⟩ := hx x m; ⟨t, e1, eN _ _ e2 (fun _ z => nomatch z)⟩
  obtain ⟨⟨oc, cvs, ct, hoc, hdc, hvc⟩, _, _⟩ := I2.hok c' _ hco2
  obtain ⟨mb, hb1, hb2⟩ := I2.mod.blt
  refine PySem.W.sorted_key_data (β := V) (R := fun u x => RelV x u) (fun x => lotKey (k x)) hl.isList (vals_each rv) (PySem.W.AllAlike.of fun b b' => alike_lotKey _ _) (PySem.W.Sortable.tuples fun b => ⟨_, _, rfl⟩) hsz
    (fun x _ => by have := depth_lotKey (k x); omega) (PyProof.Rows.ksk_s1 _ _) (fun _ => PyProof.Rows.ksk_l1 _ _) (fun x => PyProof.Rows.ksk_t1 f x) ?_ ?_
  · intro v x hR hxm h' tk' hk'
    obtain ⟨t, rfl, ht⟩ := hx2 x hxm
    obtain rfl : v = Value.ref t := hR
    obtain ⟨hz, jts, rj, tj⟩ := I2.hok t _ ht
    refine lotkey_turn (hroom := hdp) (hk' _ _ hf) hco hgen hk (fun z hz => (hcell z hz).1) hy hlen (fun v => hbind _ _ _ _ v) ⟨c', oc, cvs, ct, rfl, hk' _ _ hoc, hdc, hvc⟩
      ((I2.mod.glob.keeps I2.bk).keeps hk') hmL ((hb1.keeps I2.bk).keeps hk') ((hb2 _ (by decide)).trans PySem.boot_len) (I2.nolimit.keeps hk') (tj.keeps hk') rj.ints (by rw [← rj.length]; exact hz) hyd
  · intro out cc h' tk' hk' hfr' hnew hol heach
    have hpm : (xs.mergeSort (PySem.W.dataLe false fun x => lotKey (k x))).Perm xs := List.mergeSort_perm ..
    refine ⟨.ref (s2.heap.objs.size + 1), upd H2 (s2.heap.objs.size + 1) (.lst (xs.mergeSort (PySem.W.dataLe false fun x => lotKey (k x)))), I2.laid (t' := tk') hk' (Nat.le_succ _) ?_, rfl, ?_⟩
    · exact ⟨by rw [hpm.length_eq]; exact hsz, out, cc, each_vals heach, hnew⟩
    · have nf : H2 (s2.heap.objs.size + 1) = none := I2.hok.fresh (Nat.le_succ _)
      refine q _ _ _ eN T2 hpm ?_ nf
      have z := PySem.W.sortLe_total (listOrd itemOrd) false (fun x : V => PySem.W.keyToks (lotKey (k x)))
      exact List.pairwise_mergeSort (le := PySem.W.dataLe false fun x => lotKey (k x)) (fun a b c => z.trans a b c) (fun a b => Bool.or_eq_true _ _ |>.mpr (z.total a b)) xs
end
end Rg
namespace Rg
open PySem PySem.Spec PyProof.Rows L2
/-! ### enumerate(t), t a tuple -/
theorem meets_enum1 {v : Value} {ob : Obj} {Hz : Heap → Prop} (B : Begins v ob Hz) :
    Meets (Builtin.«enumerate.__new__» ⟨[.type "enumerate", v], []⟩) (fun _ R s => Hz s.heap ∧
      R (.ok (.ret (.ref (s.heap.push ob).objs.size))) { s with heap := (s.heap.push ob).push { cls := .type "enumerate", data := .fields #[.none, .bool false, .ref s.heap.objs.size, rawInt 0, .none, .none] } }) :=
  .of_wp fun prog w A R s h => by
    obtain ⟨hp, gg, dd, tk, os⟩ := s
    obtain ⟨hz, h⟩ := h
    have hsub := sub_enumerate
    have go : ∀ {A' : Around} {E' : Value → Shared → Prop} {Q' : Value → Shared → Prop}, Q' (.ref hp.objs.size) ⟨hp.push ob, gg, dd, tk, os⟩ → wpAny (model prog w) A' (pyIter v) Q' E' ⟨hp, gg, dd, tk, os⟩ :=
      fun q => B.iter prog w _ _ ⟨hp, gg, dd, tk, os⟩ _ hz q
    wp_walk using go
    refine wpAny_stack_any fun st => wpAny_pure ?_
    split
    · rename_i c _ _ _ _ _
      cases (c == Value.type "enumerate")
      · wp_walk using go
        exact ⟨_, rfl, h⟩
      · wp_walk using go
        exact ⟨_, rfl, h⟩
    · wp_walk using go
      exact ⟨_, rfl, h⟩
section
variable {prog : Program} {w : World} {A : Around} {E : Value → Shared → Prop} {s : Shared}
theorem call_enum1 {v : Value} {ob : Obj} {Hz : Heap → Prop} {Q : Value → Shared → Prop} (B : Begins v ob Hz) (hz : Hz s.heap)
    (k : ∀ g, IsEnum g (s.heap.objs.size + 1) s.heap.objs.size 0 .none → g.get? s.heap.objs.size = some ob → (∀ c u, s.heap.get? c = some u → g.get? c = some u) → Q (.ref (s.heap.objs.size + 1)) { s with heap := g }) :
    wpAny (model prog w) A (call (.type "enumerate") [v]) Q E s := by
  refine callType_new F.called_enumerate (by decide) (F.typeCall_enumerate_1 _) (F.newCall_enumerate_1 _) (fun obj => F.args_object_init_2 obj _) F.entry_enumerate_new (meets_enum1 B) ⟨hz, ?_⟩
  have sz : (s.heap.push ob).objs.size = s.heap.objs.size + 1 := Heap.size_push ..
  show _ ∧ _
  rw [sz]
  have ie : IsEnum ((s.heap.push ob).push { cls := .type "enumerate", data := .fields #[.none, .bool false, .ref s.heap.objs.size, rawInt 0, .none, .none] }) (s.heap.objs.size + 1) s.heap.objs.size 0 .none := by
    have z := Heap.get?_push_size (s.heap.push ob) (o := { cls := .type "enumerate", data := .fields #[.none, .bool false, .ref s.heap.objs.size, rawInt 0, .none, .none] }) rfl
    rw [sz] at z
    exact z
  exact ⟨⟨_, ie, rfl⟩, k _ ie (Heap.get?_push_of_some _ (Heap.get?_push_size _ B.free)) fun c u x => Heap.get?_push_of_some _ (Heap.get?_push_of_some _ x)⟩
end
/-- the tuple at a as it stands at each turn, each item in a new pair -/
def IteT (K : PySem.W.Frag) (a : Addr) : It :=
  ⟨fun i H => ∃ (xs : List V) (x : V), SqT K H a xs ∧ xs[i]? = some x, fun i H v H' => ∃ T x, v = .ref T ∧ H T = none ∧ H' = upd H T (.tup [.int (i : Nat), x]) ∧ ∀ xs, SqT K H a xs → xs[i]? = some x, fun i H => ∃ xs : List V, SqT K H a xs ∧ xs.length ≤ i⟩
theorem turn_enumT {P : Program} {w : World} {K : PySem.W.Frag} {elts : List Expr} {kk : Nat} {tpos : Pos} (a e it : Addr) :
    Turn P w K (.Tuple elts kk tpos) (IteT K a) [e, it] e (fun i h => (∃ old, IsEnum h e it ((i : Nat) : Int) old) ∧ h.IsTupleIter it a i ∧ e ≠ it) where
  mem := List.mem_cons_self ..
  obj := by
    rintro i h ⟨⟨old, he⟩, ⟨o, ho, hc, hd⟩, _⟩ b hb
    rcases List.mem_cons.mp hb with z | z
    · rw [z]; exact ⟨_, he, fun v q => nomatch q⟩
    · rw [List.mem_singleton.mp z]; exact ⟨o, ho, fun v q => by rw [hd] at q; cases q⟩
  keep := by
    rintro i h h' ⟨⟨old, he⟩, hi, hne⟩ k
    exact ⟨⟨old, k e (by simp) _ he⟩, hi.at fun o q => k it (by simp) o q, hne⟩
  item := by
    intro X hP hw hK hc i pins s σ H E I hf st hg
    subst hP hw hK
    obtain ⟨⟨old, he⟩, hit, hne⟩ := st
    obtain ⟨xs, x, hq, hx⟩ := hg
    obtain ⟨its, rv, tp, hz⟩ := I.tuple hq
    obtain ⟨u, hu, ru⟩ := rv.get hx
    have hel : e < s.heap.objs.size := Heap.lt_size he
    have hil : it < s.heap.objs.size := by obtain ⟨_, q, _⟩ := hit; exact Heap.lt_size q
    obtain ⟨ot, hot, hct, nt, hdt⟩ := tp
    have nai : a ≠ it := fun z => by
      obtain ⟨oi, hoi, hci, _⟩ := hit
      rw [← z, hot] at hoi
      cases hoi
      rw [hct] at hci
      exact absurd (Value.type.inj hci) (by decide)
    have nae : a ≠ e := fun z => by
      have he' := he
      rw [IsEnum, ← z, hot] at he'
      cases he'
      exact absurd (Value.type.inj hct) (by decide)
    have hlt : i < its.toArray.size := by
      rw [List.size_toArray]
      exact (List.getElem?_eq_some_iff.mp hu).1
    refine wpAny_pyNext_enum_itemD (Draws.tuple (A := X.A.in1) (I.ok.hd hc) it a nai its.toArray) he ⟨hit, ⟨ot, hot, hct, nt, hdt⟩⟩ hlt hne (by simp [hne, Ne.symm nae]) fun u' g tk hP ho hst' hT hsz hk => ?_
    have eu : u' = u := by
      have h1 : its.toArray[i]? = some u' := hP
      rw [List.getElem?_toArray, hu] at h1
      exact (Option.some.inj h1).symm
    subst eu
    refine ⟨_, rfl, wpAny_letOwnedTupleGo_enum (s := { s with heap := g, toks := tk + 1 }) ho fun g2 he' sb => ?_⟩
    have hT2 : g2.get? s.heap.objs.size = some { cls := .type "tuple", data := .seq #[.int i tk, u'] } := (sb.2 _ (Nat.ne_of_gt hel)).trans hT
    have I1 : Inv X pins σ (upd H s.heap.objs.size (.tup [.int (i : Nat), x])) { s with heap := g2, toks := tk + 1 } :=
      I.turnedNew (ch := [e, it]) (fun b ob hb q => (sb.2 b (fun z => hb (by simp [z]))).trans (hk b ob (fun z => hb (by simp [z])) (fun z => hb (by simp [z])) q)) hf (Nat.le_refl _)
        ⟨by show 2 ≤ sizeLine; decide, [.int i tk, u'], .cons ⟨_, rfl⟩ (.cons ru .nil), ⟨_, hT2, rfl, _, rfl⟩⟩
    refine ⟨.ref s.heap.objs.size, _, I1, rfl, ⟨_, x, rfl, I.hok.fresh (Nat.le_refl _), rfl, fun ys hy => by rw [I.tuple_inj hy hq]; exact hx⟩, ⟨⟨u', ?_⟩, hst'.1.at fun o q => (sb.2 it (Ne.symm hne)).trans q, hne⟩, fun b hb => ?_⟩
    · have e1 : ((i + 1 : Nat) : Int) = (i : Int) + 1 := by omega
      rw [e1]
      exact he'
    · have hb' : b < s.heap.objs.size := by
        rcases List.mem_cons.mp hb with z | z
        · rw [z]; exact hel
        · rw [List.mem_singleton.mp z]; exact hil
      rw [upd_ne (Nat.ne_of_lt hb')]
      exact (hf b hb).1
  done := by
    intro X hP hw hK hc i pins s σ H E I hf st hg
    subst hP hw hK
    obtain ⟨⟨old, he⟩, hit, hne⟩ := st
    obtain ⟨xs, hq, hx⟩ := hg
    obtain ⟨its, rv, tp, hz⟩ := I.tuple hq
    obtain ⟨f0, f1, f2, f3, f4, f5⟩ := hf it (by simp)
    have hl := rv.length
    have hT : s.TypeIs (.ref e) "enumerate" := ⟨_, he, rfl⟩
    unfold pyNext
    refine wpAny_bind (wpAny_attempt (wpAny_callSpecial?_slot (name := Str.ofString "__next__") hT F.slot_enumerate_next
      (wpAny_call_entry F.slot_enumerate_next hT F.entry_enumerate_next ?_ (F.args_enumerate_next_1 _))))
    show wpAny _ _ (field (.ref e) 2 >>= _) _ _ _
    refine wpAny_bind (wpAny_field he rfl (x := .ref it) rfl ?_)
    refine wpAny_bind (wpAny_nextOf_tuple_end (I.ok.hd hc) hit tp (by simp; omega) fun g x eb hx' => ?_)
    obtain ⟨o, ho, hcl⟩ := hx'
    refine wpAny_bind (wpAny_isInstance (T := "StopIteration") (b := true) ⟨o, ho, hcl⟩ isSubtype_stop ?_)
    exact wpAny_pure ⟨rfl, I.turned (t' := s.toks) (fun b o hb q => eb b o hb q) f0 f1 f3 f4 f5⟩
  self := fun A i s Q E st h => let ⟨⟨_, he⟩, _⟩ := st; wpAny_pyIter_enum he h
def iEnumT (K : PySem.W.Frag) (ta : TA) : TI := fun σ H R => ta σ H fun vs H1 => ∃ a xs, vs = [.ref a] ∧ SqT K H1 a xs ∧ R (IteT K a) H1
theorem pi_enumT {X : Cx} {e : Expr} {ta : TA} {p pos tpos : Pos} {elts : List Expr} {kk : Nat} (hg : Gl X "enumerate") (hm : X.mg "enumerate" = none) (ha : PA X [e] ta) (hs : starEach [e] X.env = [(false, eval e X.env)] := by rfl) :
    PI X (.Tuple elts kk tpos) (.Call (.Name "enumerate" p) [e] [] pos) (iEnumT X.K ta) := by
  refine ⟨fun pins s σ H R I h => ?_⟩
  refine Call_ (ld_blt I hg hm boot_enumerate (PyProof.Rows.callWith_type1 (thn (ha.run pos pins s σ H _ I h) fun us s1 ⟨vs, H1, I1, r1, q1⟩ => ?_) hs rfl))
  obtain ⟨a, xs, rfl, hq, q⟩ := q1
  rw [Vals.ref1 r1]
  obtain ⟨its, rv, tp, hz⟩ := I1.tuple hq
  refine call_enum1 (begins_tuple a its.toArray) tp fun g he hit hk => wpAny_pyIter_enum he ?_
  have I2 : Inv X pins σ H1 { s1 with heap := g } := I1.kept (t' := s1.toks) hk
  refine ⟨s1.heap.objs.size + 1, [s1.heap.objs.size + 1, s1.heap.objs.size], _, _, H1, rfl, I2, turn_enumT a (s1.heap.objs.size + 1) s1.heap.objs.size, ⟨⟨.none, he⟩, ⟨_, hit, rfl, rfl⟩, Nat.succ_ne_self _⟩, fun b hb => ?_, q⟩
  have hle : s1.heap.objs.size ≤ b := by
    rcases List.mem_cons.mp hb with z | z
    · rw [z]; exact Nat.le_succ _
    · rw [List.mem_singleton.mp z]; exact Nat.le_refl _
  exact I1.fpOk hle (I1.hok.fresh hle)
theorem walk_enumT {K : PySem.W.Frag} {a : Addr} {xs : List V} : Walk (IteT K a) xs.length (fun H => SqT K H a xs) (YPair (fun i => some (.int (i : Nat))) (fun i => xs[i]?)) := by
  refine ⟨fun i _ hi q => ⟨xs, xs[i], q, List.getElem?_eq_getElem hi⟩, fun _ q => ⟨xs, q, Nat.le_refl _⟩, fun i H v H' _ q y => ?_⟩
  obtain ⟨T, x, y1, y2, y3, y4⟩ := y
  exact ⟨T, .int (i : Nat), x, y1, y2, y3, rfl, y4 xs q⟩
end Rg
namespace K
open PySem L2 Rg
open Evl (pss_cut)
def top (i : Nat) : Stmt := PySem.Challenge.pw_ringbars_k06_sorts_of_lots.main.body.getD i (.Pass ⟨0, 0, 0, 0⟩)
abbrev sWall : Stmt := top 0
abbrev sFixed : Stmt := top 2
abbrev sIsInteger : Stmt := top 4
abbrev sIsWithin : Stmt := top 5
abbrev sIsList : Stmt := top 6
abbrev sIsNumbers : Stmt := top 7
abbrev sFirstTwice : Stmt := top 8
abbrev sTwiceAt : Stmt := top 9
abbrev sBadRingInit : Stmt := inClass (top 12) 0
abbrev sBadLotInit : Stmt := inClass (top 13) 0
abbrev sMissingInit : Stmt := inClass (top 14) 0
abbrev sTwiceInit : Stmt := inClass (top 16) 0
abbrev sTooManyInit : Stmt := inClass (top 17) 0
abbrev sBadTextInit : Stmt := inClass (top 18) 0
abbrev sSortBy : Stmt := top 20
abbrev sWantBar : Stmt := top 22
abbrev sWantLot : Stmt := top 23
abbrev sItemsOf : Stmt := top 26
abbrev sIntegerOf : Stmt := top 27
abbrev sItemAt : Stmt := top 28
abbrev sNumberAt : Stmt := top 29
abbrev sRingInit : Stmt := inClass (top 34) 0
abbrev sRingLen : Stmt := inClass (top 34) 1
abbrev sRingEq : Stmt := inClass (top 34) 2
abbrev sRingStr : Stmt := inClass (top 34) 3
abbrev sRingLengthOf : Stmt := inClass (top 34) 4
abbrev sRingSortOf : Stmt := inClass (top 34) 5
abbrev sRingWithLength : Stmt := inClass (top 34) 6
abbrev sRingBegunAt : Stmt := inClass (top 34) 7
abbrev sRingBackwards : Stmt := inClass (top 34) 8
abbrev sRingInOrder : Stmt := inClass (top 34) 9
abbrev sRingAsOne : Stmt := inClass (top 34) 10
abbrev sRingInTwo : Stmt := inClass (top 34) 11
abbrev sRingRead : Stmt := inClass (top 34) 12
abbrev sAreLengths : Stmt := top 35
abbrev sHasLevel : Stmt := top 36
abbrev sReadRing : Stmt := top 37
abbrev sWantRing : Stmt := top 38
abbrev sTooLong : Stmt := top 40
abbrev sLwPen : Stmt := top 42
abbrev sLwDraw : Stmt := top 43
abbrev sLwPick : Stmt := top 44
abbrev sLwMixed : Stmt := top 45
abbrev sLwLengths : Stmt := top 46
abbrev sLwLots : Stmt := top 47
abbrev sLwSort : Stmt := top 48
abbrev sLwHeard : Stmt := top 49
abbrev sLwLotRight : Stmt := top 50
abbrev sLwWholeRight : Stmt := top 51
abbrev sLwRefusedRight : Stmt := top 52
abbrev sLaw : Stmt := top 53

/-- all but what stands at p is as it was -/
def But (p : Addr) (H H' : Hp) : Prop := ∀ b o, b ≠ p → H b = some o → H' b = some o
theorem But.refl (p : Addr) (H : Hp) : But p H H := fun _ _ _ h => h
theorem But.trans {p : Addr} {H H1 H2 : Hp} (a : But p H H1) (b : But p H1 H2) : But p H H2 := fun c o n h => b c o n (a c o n h)
theorem But.new {p q : Addr} {H H' : Hp} {o : HO} (a : But p H H') (n : H' q = none) : But p H (upd H' q o) := fun c u hc h => by
  have e := a c u hc h
  rw [upd_ne (ne_of_none e n)]
  exact e
theorem But.at {p : Addr} {H H' : Hp} {o : HO} (a : But p H H') : But p H (upd H' p o) := fun c u hc h => by
  rw [upd_ne hc]
  exact a c u hc h
theorem But.seq {K : PySem.W.Frag} {p a : Addr} {H H' : Hp} {xs : List V} (e : But p H H') (n : a ≠ p) (h : SqL K H a xs) : SqL K H' a xs := by
  rcases h with (h | ⟨o, h⟩) | h
  · exact .inl (.inl (e _ _ n h))
  · exact .inl (.inr ⟨o, e _ _ n h⟩)
  · exact .inr h
/-- the pen: its cells, how many were begun (at most n), what a great one has left -/
structure PenAt (K : PySem.W.Frag) (H : Hp) (p : Addr) (e : Addr × List Int) (n : Nat) : Prop where
  ex : ∃ (at' rest : Int), H p = some (.lst [.ref e.1, .int at', .int rest]) ∧ 0 ≤ at' ∧ at' ≤ n ∧ 0 ≤ rest
  sq : SqL K H e.1 (e.2.map V.int)
  np : e.1 ≠ p
  ln : e.2.length ≤ 62
theorem But.of {p : Addr} {H H' : Hp} (e : Same H H') : But p H H' := fun b o _ h => e b o h
theorem But.mut {p q : Addr} {H H' : Hp} {o : HO} (a : But p H H') (n : H q = none) : But p H (upd H' q o) := fun c u hc h => by
  have e := a c u hc h
  rw [upd_ne (ne_of_none h n)]
  exact e
theorem But.free {p q : Addr} {H H' : Hp} (a : But p H H') (hq : q ≠ p) (n : H' q = none) : H q = none := by
  cases e : H q with
  | none => rfl
  | some o =>
    rw [a q o hq e] at n
    cases n
theorem But.tup {K : PySem.W.Frag} {p a : Addr} {H H' : Hp} {xs : List V} (e : But p H H') (n : a ≠ p) (h : SqT K H a xs) : SqT K H' a xs := by
  rcases h with (h | ⟨o, h⟩) | h
  · exact .inl (.inl (e _ _ n h))
  · exact .inl (.inr ⟨o, e _ _ n h⟩)
  · exact .inr h
theorem _root_.L2.Same.new {q : Addr} {H H' : Hp} {o : HO} (a : Same H H') (n : H' q = none) : Same H (upd H' q o) := fun c u h => by
  have e := a c u h
  rw [upd_ne (ne_of_none e n)]
  exact e
theorem _root_.L2.Same.mut {q : Addr} {H H' : Hp} {o : HO} (a : Same H H') (n : H q = none) : Same H (upd H' q o) := fun c u h => by
  have e := a c u h
  rw [upd_ne (ne_of_none h n)]
  exact e
theorem _root_.L2.Same.tup {K : PySem.W.Frag} {a : Addr} {H H' : Hp} {xs : List V} (e : Same H H') (h : SqT K H a xs) : SqT K H' a xs := by
  rcases h with (h | ⟨o, h⟩) | h
  · exact .inl (.inl (e _ _ h))
  · exact .inl (.inr ⟨o, e _ _ h⟩)
  · exact .inr h
section
variable {K : PySem.W.Frag} {H H' : Hp} {p q : Addr} {e : Addr × List Int} {n m : Nat} {o : HO}
theorem PenAt.mono (h : PenAt K H p e n) (le : n ≤ m) : PenAt K H p e m := by
  obtain ⟨a, r, h1, h5, h6, h7⟩ := h.ex
  exact ⟨⟨a, r, h1, h5, by omega, h7⟩, h.sq, h.np, h.ln⟩
/-- the pen stands while all that is tracked stands -/
theorem PenAt.same (h : PenAt K H p e n) (s : Same H H') : PenAt K H' p e n := by
  obtain ⟨a, r, h1, h5, h6, h7⟩ := h.ex
  exact ⟨⟨a, r, s _ _ h1, h5, h6, h7⟩, s.seq h.sq, h.np, h.ln⟩
theorem PenAt.some (h : PenAt K H p e n) : ∃ xs, H p = some (.lst xs) := by
  obtain ⟨a, r, h1, _⟩ := h.ex
  exact ⟨_, h1⟩
theorem PenAt.ne (h : PenAt K H p e n) (z : H q = none) : q ≠ p := by
  obtain ⟨xs, h1⟩ := h.some
  exact (ne_of_none h1 z).symm
/-- the pen stands while a new thing is laid -/
theorem PenAt.put (h : PenAt K H p e n) (z : H q = none) : PenAt K (upd H q o) p e n := h.same (Same.new (Same.refl H) z)
/-- .. while a thing is written that was not there ahead -/
theorem PenAt.mut (h : PenAt K H p e m) (h2 : PenAt K H' p e n) (b : But p H H') (z : H q = none) : PenAt K (upd H' q o) p e n := by
  obtain ⟨a, r, h1, h5, h6, h7⟩ := h2.ex
  exact ⟨⟨a, r, by rw [upd_ne (h.ne z).symm]; exact h1, h5, h6, h7⟩, (b.mut z).seq h.np h.sq, h.np, h.ln⟩
end
/-- the built-ins that the text names -/
structure Bi (mg : Str → Option Value) : Prop where
  int : mg "int" = none
  len : mg "len" = none
  abs : mg "abs" = none
  list : mg "list" = none
  tuple : mg "tuple" = none
  bool : mg "bool" = none
  range : mg "range" = none
  sum : mg "sum" = none
  max : mg "max" = none
  all : mg "all" = none
  any : mg "any" = none
  sorted : mg "sorted" = none
  enumerate : mg "enumerate" = none
  isinstance : mg "isinstance" = none
section
variable {K : PySem.W.Frag}
theorem eqv_nil (l : List Int) : PyData.eqv (.list (l.map PyData.int)) (.list []) = l.isEmpty := by
  cases l <;> simp [PyData.eqv, PyData.eqvAll] <;> rfl
theorem dp_ints {H : Hp} : ∀ l : List Int, DpAll K H (l.map V.int) (l.map PyData.int)
  | [] => .nil
  | i :: l => .cons (.int i) (dp_ints l)
theorem lay_ints : ∀ l : List Int, PyData.canLayAll0 (l.map PyData.int) = true
  | [] => by simp [PyData.canLayAll0]
  | i :: l => by simp [PyData.canLayAll0, PyData.canLay0, lay_ints l]
theorem deep_ints : ∀ l : List Int, PyData.depthAll (l.map PyData.int) = 0
  | [] => by simp [PyData.depthAll]
  | i :: l => by simp [PyData.depthAll, PyData.depth, deep_ints l]
theorem shaped_ints (l : List Int) : SeqAt.shaped (.list (l.map PyData.int)) = true := by
  simp [SeqAt.shaped, PyData.canLay0, PyData.depth, lay_ints l, deep_ints l]
end
end K
namespace K
open PySem L2 Rg
open Evl (pss_cut)
def spDraw (K : PySem.W.Frag) : Sp := fun vs H Q _ => ∃ (p : Addr) (e : Addr × List Int) (many : Int) (n : Nat), vs = [.ref p, .int many] ∧ 1 ≤ many ∧ many ≤ 1000000 ∧ n < 1000000 ∧ PenAt K H p e n ∧
  ∀ (r : Int) (H' : Hp), 0 ≤ r → r < many → But p H H' → PenAt K H' p e (n + 1) → Q (.int r) H'
section
variable {P : Program} {w : World} {K : PySem.W.Frag} {mg : Str → Option Value} {base : Heap}
abbrev nDraw : List Str := ["_law_pen_here", "_law_many", "_law_digit", "_law_at", "_law_cell", "_law_great", "_law_mixed_here"]
theorem scDraw : FnScope nDraw ["_law_pen_here", "_law_many"] (defScope sLwDraw) := ⟨rfl, rfl, rfl, by decide +kernel, rfl, by decide +kernel, by decide +kernel⟩
theorem ok_draw {f : Addr} {fd : FuncData} (F : Fun K "_law_draw" "_law_draw" sLwDraw f fd) (T : Bi mg) : FnOk P w K mg base CX0 2 f fd ["_law_pen_here", "_law_many"] (spDraw K) := by
  refine F.ok scDraw (fun vs H Q E h => ?_) (fun cdv A outer s H vs Q E hr h => ?_)
  · obtain ⟨p, e, many, n, rfl, _⟩ := h
    rfl
  · have nd := scDraw.nd
    refine ⟨_, pss_cons (ps_if (pt_cmpR op_gt (pe_ix ix_list (pv 0) pe_int (fun _ _ => rfl)) pe_int (nomark _))
        (pss_cons (ps_set (i := 2) nd rfl (Or.inl rfl) (pe_op op_mod (pe_callTy call_int1 (by rfl) T.int (by decide +kernel) (pa_cons (pe_ix ix_list (pv 0) pe_int (fun _ _ => rfl)) pa_nil)) (pv 1)))
        (pss_cons (ps_asg (pe_op op_fdiv (pe_callTy call_int1 (by rfl) T.int (by decide +kernel) (pa_cons (pe_ix ix_list (pv 0) pe_int (fun _ _ => rfl)) pa_nil)) (pv 1)) (pg_sub (pv 0) pe_int set_list))
        (pss_one (ps_ret (pv 2))))) pss_nil)
      (pss_cons (ps_set (i := 3) nd rfl (Or.inl rfl) (pe_ix ix_list (pv 0) pe_int (fun _ _ => rfl)))
      (pss_cons (ps_asg (pe_op op_add (pv 3) pe_int) (pg_sub (pv 0) pe_int set_list))
      (pss_cons (ps_set (i := 4) nd rfl (Or.inl rfl) (pe_op op_add (pe_op op_mul pe_int (pv 3)) pe_int))
      (pss_cut (ps_if (pt_cmpR (op_neD hr.units) (pe_ix ix_list (pv 0) pe_int (fun _ _ => rfl)) (pe_lst pa_nil) (nomark _))
        (pss_one (ps_set (i := 4) nd rfl (Or.inl rfl) (pe_ix ix_list (pe_ix ix_list (pv 0) pe_int (fun _ _ => rfl)) (pe_op op_mod (pe_callTy call_int1 (by rfl) T.int (by decide +kernel) (pa_cons (pv 3) pa_nil)) (pe_callB call_len_seq (by rfl) T.len PySem.boot_len (pa_cons (pe_ix ix_list (pv 0) pe_int (fun _ _ => rfl)) pa_nil))) (fun _ _ => rfl)))) pss_nil)
      (pss_cut (ps_if (PW.pt (pw_and (pt_cmpR op_lt (pv 3) (pe_callB call_len_seq (by rfl) T.len PySem.boot_len (pa_cons (pe_ix ix_list (pv 0) pe_int (fun _ _ => rfl)) pa_nil)) (nomark _))
          (pw_and1 (pt_cmpR op_ge (pe_callB call_abs (by rfl) T.abs (by decide +kernel) (pa_cons (pv 4) pa_nil)) (pe_op op_pow pe_int pe_int) (nomark _)))))
        (pss_cons (ps_set (i := 5) nd rfl (Or.inl rfl) (pe_op op_add (pe_op op_mul pe_int (pe_op op_sub (pe_callB call_abs (by rfl) T.abs (by decide +kernel) (pa_cons (pv 4) pa_nil)) (pe_op op_pow pe_int pe_int))) (pe_callTy call_int1 (by rfl) T.int (by decide +kernel) (pa_cons (pe_cmpR op_lt (pv 4) pe_int (nomark _)) pa_nil))))
        (pss_cons (ps_asg (pe_op op_fdiv (pe_callTy call_int1 (by rfl) T.int (by decide +kernel) (pa_cons (pv 5) pa_nil)) (pv 1)) (pg_sub (pv 0) pe_int set_list))
        (pss_one (ps_ret (pe_op op_mod (pe_callTy call_int1 (by rfl) T.int (by decide +kernel) (pa_cons (pv 5) pa_nil)) (pv 1)))))) pss_nil)
      (pss_cut (ps_set (i := 6) nd rfl (Or.inl rfl) (pe_op op_mod (pe_callTy call_int1 (by rfl) T.int (by decide +kernel) (pa_cons (pe_op op_pow (pe_op op_add (pe_op op_add (pe_op op_mod (pe_callTy call_int1 (by rfl) T.int (by decide +kernel) (pa_cons (pv 4) pa_nil)) pe_int) (pe_op op_mul pe_int (pv 3))) pe_int) pe_int) pa_nil)) pe_int))
      (pss_cons (ps_set (i := 6) nd rfl (Or.inl rfl) (pe_op op_mod (pe_callTy call_int1 (by rfl) T.int (by decide +kernel) (pa_cons (pe_op op_pow (pe_op op_add (pe_op op_add (pe_op op_mul (pv 6) (pe_op op_add (pe_op op_mul pe_int (pv 3)) pe_int)) (pe_op op_mul (pe_op op_mul pe_int (pv 3)) (pv 3))) pe_int) pe_int) pa_nil)) pe_int))
      (pss_one (ps_ret (pe_op op_mod (pe_callTy call_int1 (by rfl) T.int (by decide +kernel) (pa_cons (pe_op op_fdiv (pv 6) pe_int) pa_nil)) (pv 1))))))))))), ?_⟩
    obtain ⟨p, ⟨c, cells⟩, many, n, rfl, m1, m2, hn, ⟨⟨at0, rest, hp, a0, a1, r0⟩, hc, hcp, hcl⟩, k⟩ := h
    dsimp only at hp hc hcp hcl
    have mp : (0 : Int) < many := by omega
    have md : (0 : Int) < many ∧ many < 1073741824 := ⟨mp, by omega⟩
    refine ⟨_, rfl, p, _, _, _, rfl, rfl, SqL.of hp, atI_nat (j := 2) rfl, _, _, rfl, rfl, _, rfl, ?_⟩
    refine ite2 (fun hg => ?_) (fun hg => ?_)
    · have g0 : rest > 0 := of_decide_eq_true hg
      refine ⟨_, rfl, p, _, _, _, rfl, rfl, SqL.of hp, atI_nat (j := 2) rfl, .inl ⟨_, rfl, _, rfl, _, _, rfl, rfl, mp, ?_⟩⟩
      refine ⟨_, rfl, p, _, _, _, rfl, rfl, SqL.of hp, atI_nat (j := 2) rfl, .inl ⟨_, rfl, _, rfl, _, _, rfl, rfl, md, _, rfl, p, _, _, 2, rfl, rfl, hp, rfl, ?_⟩⟩
      refine ⟨_, rfl, ?_⟩
      have b1 : But p H (upd H p (.lst [.ref c, .int at0, .int (rest / many)])) := (But.refl p H).at
      exact k _ _ (Int.emod_nonneg _ (by omega)) (Int.emod_lt_of_pos _ mp) b1 ⟨⟨at0, rest / many, upd_same, a0, by omega, Int.ediv_nonneg r0 (by omega)⟩, b1.seq hcp hc, hcp, hcl⟩
    · refine ⟨_, rfl, p, _, _, _, rfl, rfl, SqL.of hp, atI_nat (j := 1) rfl, ?_⟩
      refine ⟨_, rfl, _, _, rfl, rfl, _, rfl, p, _, _, 1, rfl, rfl, hp, rfl, ?_⟩
      have h1 : upd H p (.lst [.ref c, .int (at0 + 1), .int rest]) p = some (.lst [.ref c, .int (at0 + 1), .int rest]) := upd_same
      have b1 : But p H (upd H p (.lst [.ref c, .int (at0 + 1), .int rest])) := (But.refl p H).at
      refine ⟨_, rfl, _, _, rfl, rfl, .inl ⟨by decide, by decide⟩, _, _, rfl, rfl, ?_⟩
      refine ⟨fun σ' H' => ∃ cell : Int, σ' = [some (.ref p), some (.int many), none, some (.int at0), some (.int cell), none, none] ∧ But p H H' ∧ H' p = some (.lst [.ref c, .int (at0 + 1), .int rest]), ?_, ?_⟩
      · refine ⟨_, rfl, p, _, _, _, rfl, rfl, SqL.of h1, atI_nat (j := 0) rfl, (by decide), fun q hq => ?_⟩
        have hqp : p ≠ q := ne_of_none h1 hq
        have b2 : But p H (upd (upd H p (.lst [.ref c, .int (at0 + 1), .int rest])) q (.lst [])) := b1.new hq
        have h2 : upd (upd H p (.lst [.ref c, .int (at0 + 1), .int rest])) q (.lst []) p = some (.lst [.ref c, .int (at0 + 1), .int rest]) := by rw [upd_ne hqp]; exact h1
        refine ⟨_, _, .lst (b2.seq hcp hc) (dp_ints cells), .lst (SqL.of upd_same) .nil, shaped_ints _, rfl, _, rfl, ?_⟩
        rw [eqv_nil]
        cases e : cells.isEmpty with
        | true =>
          refine iteF ?_
          exact ⟨_, rfl, b2, h2⟩
        | false =>
          have hl : 0 < cells.length := by
            cases cells with
            | nil => cases e
            | cons z zs => simp
          refine iteT ?_
          have hlt : (at0 % (cells.length : Int)).toNat < cells.length := by
            have := Int.emod_lt_of_pos at0 (show (0 : Int) < cells.length by omega)
            have := Int.emod_nonneg at0 (show (cells.length : Int) ≠ 0 by omega)
            omega
          have hix : (cells.map V.int)[(at0 % (cells.length : Int)).toNat]? = some (V.int (cells[(at0 % (cells.length : Int)).toNat])) := by
            rw [List.getElem?_map, List.getElem?_eq_getElem hlt]
            rfl
          refine ⟨_, rfl, p, _, _, _, rfl, rfl, SqL.of h2, atI_nat (j := 0) rfl, _, rfl, .inl ⟨_, rfl, _, rfl, p, _, _, _, rfl, rfl, SqL.of h2, atI_nat (j := 0) rfl, c, _, rfl, .inl (b2.seq hcp hc), ?_⟩⟩
          rw [List.length_map]
          refine ⟨_, _, rfl, rfl, (by omega), c, _, _, _, rfl, rfl, b2.seq hcp hc, at_of (j := (at0 % (cells.length : Int)).toNat) (by
            have := Int.emod_nonneg at0 (show (cells.length : Int) ≠ 0 by omega)
            omega) hix, ?_⟩
          exact ⟨_, rfl, b2, h2⟩
      · rintro σ' H' ⟨cell, rfl, b2, h2⟩
        have pw : CPow 10 18 := ⟨by decide, by decide, by decide⟩
        refine ⟨fun σ' H'' => σ' = [some (.ref p), some (.int many), none, some (.int at0), some (.int cell), none, none] ∧ But p H H'' ∧ H'' p = some (.lst [.ref c, .int (at0 + 1), .int rest]), ?_, ?_⟩
        · refine ⟨_, rfl, _, rfl, p, _, _, _, rfl, rfl, SqL.of h2, atI_nat (j := 0) rfl, c, _, rfl, .inl (b2.seq hcp hc), _, _, rfl, rfl, _, rfl, ?_⟩
          refine ite2 (fun _ => ?_) (fun _ => iteF ?_)
          · refine ⟨_, rfl, _, rfl, _, _, rfl, rfl, pw, _, _, rfl, rfl, _, rfl, ?_⟩
            refine ite2 (fun hge => ?_) (fun _ => ?_)
            · have ge := of_decide_eq_true hge
              have ge2 : (10 : Int) ^ (18 : Int).toNat ≤ if cell < 0 then -cell else cell := ge
              have gr0 : 0 ≤ (2 * ((if cell < 0 then -cell else cell) - (10 : Int) ^ (18 : Int).toNat) + (if decide (cell < 0) = true then 1 else 0) : Int) := by
                split <;> omega
              refine ⟨_, rfl, _, rfl, _, _, rfl, rfl, pw, _, _, rfl, rfl, _, _, rfl, rfl, .inl ⟨by decide, by decide⟩, _, rfl, _, _, rfl, rfl, .inr ⟨_, rfl, _, _, rfl, rfl, ?_⟩⟩
              refine ⟨_, rfl, .inl ⟨_, rfl, _, rfl, _, _, rfl, rfl, md, _, rfl, p, _, _, 2, rfl, rfl, h2, rfl, ?_⟩⟩
              refine ⟨_, rfl, .inl ⟨_, rfl, _, rfl, _, _, rfl, rfl, mp, ?_⟩⟩
              exact k _ _ (Int.emod_nonneg _ (by omega)) (Int.emod_lt_of_pos _ mp) b2.at ⟨⟨at0 + 1, _, upd_same, by omega, by omega, Int.ediv_nonneg gr0 (by omega)⟩, (b2.at).seq hcp hc, hcp, hcl⟩
            · exact ⟨rfl, b2, h2⟩
          · exact ⟨rfl, b2, h2⟩
        · rintro σ'' H'' ⟨rfl, b3, h3⟩
          refine ⟨fun σ' H4 => ∃ x : Int, 0 ≤ x ∧ x < 2147483629 ∧ σ' = [some (.ref p), some (.int many), none, some (.int at0), some (.int cell), none, some (.int x)] ∧ H4 = H'', ?_, ?_⟩
          · have q0 := Int.emod_nonneg cell (show (2147483543 : Int) ≠ 0 by decide)
            have q1 := Int.emod_lt_of_pos cell (show (0 : Int) < 2147483543 by decide)
            have pw5 : CPow (cell % 2147483543 + 55313 * at0 + 2039) 5 := ⟨by decide, by decide, by omega⟩
            refine ⟨_, rfl, .inl ⟨_, rfl, _, _, rfl, rfl, (by show (0 : Int) < 2147483543; decide), _, rfl, _, _, rfl, rfl, .inl ⟨by decide, by decide⟩, _, _, rfl, rfl, _, _, rfl, rfl, _, _, rfl, rfl, pw5, .inl ⟨_, rfl, _, _, rfl, rfl, (by show (0 : Int) < 2147483629; decide), ?_⟩⟩⟩
            exact ⟨_, Int.emod_nonneg _ (by decide), Int.emod_lt_of_pos _ (by decide), rfl, rfl⟩
          · rintro σ' H4 ⟨x, x0, x1, rfl, rfl⟩
            have e1 : x * (2 * at0 + 2137) ≤ 2147483629 * 2002137 := Int.mul_le_mul (by omega) (by omega) (by omega) (by decide)
            have e2 : 0 ≤ x * (2 * at0 + 2137) := Int.mul_nonneg x0 (by omega)
            have e3 : 57037 * at0 * at0 ≤ 57037000000 * 1000000 := Int.mul_le_mul (by omega) (by omega) a0 (by decide)
            have e4 : 0 ≤ 57037 * at0 * at0 := Int.mul_nonneg (by omega) a0
            have pw3 : CPow (x * (2 * at0 + 2137) + 57037 * at0 * at0 + 2039) 3 := ⟨by decide, by decide, by omega⟩
            refine ⟨_, rfl, _, rfl, _, _, rfl, rfl, .inl ⟨by decide, by decide⟩, _, _, rfl, rfl, _, _, rfl, rfl, .inl ⟨by omega, by omega⟩, _, rfl, _, _, rfl, rfl, .inl ⟨by decide, by decide⟩, _, rfl, _, _, rfl, rfl, .inr ⟨by omega, by omega⟩, _, _, rfl, rfl, _, _, rfl, rfl, _, _, rfl, rfl, pw3, .inl ⟨_, rfl, _, _, rfl, rfl, (by show (0 : Int) < 2147483647; decide), ?_⟩⟩
            refine ⟨_, rfl, _, _, rfl, rfl, ⟨by decide, by decide⟩, .inl ⟨_, rfl, _, rfl, _, _, rfl, rfl, mp, ?_⟩⟩
            exact k _ _ (Int.emod_nonneg _ (by omega)) (Int.emod_lt_of_pos _ mp) b3 ⟨⟨at0 + 1, rest, h3, by omega, by omega, r0⟩, b3.seq hcp hc, hcp, hcl⟩
end
end K
namespace K
open PySem L2 Rg
open Evl (pss_cut)
theorem int_at {l : List Int} {i : Nat} {v : V} (h : (l.map V.int)[i]? = some v) : ∃ z, l[i]? = some z ∧ v = .int z := by
  rw [List.getElem?_map] at h
  cases e : l[i]? with
  | none => rw [e] at h; cases h
  | some z => rw [e] at h; exact ⟨z, rfl, (Option.some.inj h).symm⟩
theorem take_snoc {α : Type} {l : List α} {i : Nat} {z : α} (h : l[i]? = some z) : l.take i ++ [z] = l.take (i + 1) := by
  rw [List.take_succ, h]; rfl
theorem sz {n : Nat} (h : n ≤ 100000) : n ≤ sizeLine := Nat.le_trans h (by decide)
theorem szl {n : Nat} (h : n < 100000) : n < sizeLine := Nat.lt_of_lt_of_le h (by decide)
theorem cutV_to (xs : List V) (k : Nat) : cutV xs none (some (k : Int)) = xs.take k := by
  unfold cutV
  rw [HT.sIx_none, HT.sIx_nat, List.drop_zero, Nat.sub_zero]
  rcases Nat.le_total k xs.length with h | h
  · rw [Nat.min_eq_left h]
  · rw [Nat.min_eq_right h, List.take_length, List.take_of_length_le h]
section
variable {P : Program} {w : World} {K : PySem.W.Frag} {mg : Str → Option Value} {base : Heap}
/-! ### the pen -/
def spPen (K : PySem.W.Frag) : Sp := fun vs H Q _ => ∃ (a : Addr) (ns : List Int), vs = [.ref a] ∧ SqL K H a (ns.map V.int) ∧ ns.length ≤ 63 ∧
  ∀ (p : Addr) (e : Addr × List Int) (H' : Hp), Same H H' → H p = none → PenAt K H' p e 0 → Q (.ref p) H'
abbrev nPen : List Str := ["_law_script", "_law_cell"]
theorem scPen : FnScope nPen ["_law_script"] (defScope sLwPen) := ⟨rfl, rfl, rfl, by decide +kernel, rfl, by decide +kernel, by decide +kernel⟩
theorem ok_pen {f : Addr} {fd : FuncData} (F : Fun K "_law_pen" "_law_pen" sLwPen f fd) (T : Bi mg) : FnOk P w K mg base CX0 2 f fd ["_law_script"] (spPen K) := by
  refine F.ok scPen (fun vs H Q E h => ?_) (fun cdv A outer s H vs Q E hr h => ?_)
  · obtain ⟨a, ns, rfl, _⟩ := h
    rfl
  · have nd := scPen.nd
    refine ⟨_, pss_one (ps_ret (pe_lst (pa_cons (pe_lc (own := [("_law_cell", 1)]) (g := gName 1) (tt := tYes) rfl nd (pi_list (pe_slice sl_list (pv 0) po_none (po_some pe_int)))
      (blkOk_by (N := nPen) (sc := defScope sLwPen) (by decide +kernel)) (fun _ _ _ _ _ => pg_name (i := 1) nd rfl (Or.inl rfl)) (fun _ _ _ _ _ => pts_nil)
      (fun _ _ _ _ _ => pe_callTy call_int1 (by rfl) T.int (by decide +kernel) (pa_cons (pv 1) pa_nil))) (pa_cons pe_int (pa_cons pe_int pa_nil))))), ?_⟩
    obtain ⟨a, ns, rfl, hS, hl, k⟩ := h
    refine ⟨_, rfl, _, rfl, a, _, rfl, hS, fun q hq => ?_⟩
    have e0 : cutV (ns.map V.int) none (some 60) = (ns.take 60).map V.int := by
      rw [show (60 : Int) = ((60 : Nat) : Int) from rfl, cutV_to, List.map_take]
    rw [e0]
    refine ⟨q, rfl, ⟨_, SqL.of upd_same⟩, fun D hD => ?_⟩
    have hqD : q ≠ D := ne_of_none upd_same hD
    have sD : Same (upd H q (.lst ((ns.take 60).map V.int))) (upd (upd H q (.lst ((ns.take 60).map V.int))) D (.lst [])) := (Same.refl _).new hD
    refine lc_list (K := K) (a := q) (xs := (ns.take 60).map V.int) (fun i H' => Same (upd H q (.lst ((ns.take 60).map V.int))) H' ∧ H' D = some (.lst (((ns.take 60).take i).map V.int)))
      ⟨sD, upd_same⟩ (fun i H' _ p => p.1.seq (SqL.of upd_same)) ?_ ?_
    · rintro i x H' hi ⟨s1, h1⟩
      obtain ⟨z, hz, rfl⟩ := int_at hi
      refine ⟨rfl, _, rfl, .inl ⟨_, rfl, _, h1, szl (by rw [List.length_map, List.length_take, List.length_take]; omega), s1.mut hD, ?_⟩⟩
      rw [← take_snoc hz, List.map_append]
      exact upd_same
    · rintro H' ⟨s1, h1⟩
      rw [List.length_map, List.take_length] at h1
      refine ⟨(by show 3 ≤ sizeLine; decide), fun p hp => ?_⟩
      have nD : H D = none := by
        rw [upd_ne hqD.symm] at hD
        exact hD
      have s2 : Same H H' := fun b o e => s1 b o (by rw [upd_ne (ne_of_none e hq)]; exact e)
      refine k p (D, ns.take 60) _ (s2.new hp) (s2.free hp) ⟨⟨0, 0, upd_same, by decide, by decide, by decide⟩, SqL.of (by rw [upd_ne (ne_of_none h1 hp)]; exact h1), ne_of_none h1 hp, by rw [List.length_take]; omega⟩
end
end K
namespace K
open PySem L2 Rg
open Evl (pss_cut)
section
variable {P : Program} {w : World} {K : PySem.W.Frag} {mg : Str → Option Value} {base : Heap}
/-! ### one of some things -/
def spPick (K : PySem.W.Frag) : Sp := fun vs H Q _ => ∃ (p l : Addr) (e : Addr × List Int) (xs : List V) (n : Nat), vs = [.ref p, .ref l] ∧ SqL K H l xs ∧ l ≠ p ∧ 1 ≤ xs.length ∧ xs.length ≤ 1000 ∧ n < 1000000 ∧ PenAt K H p e n ∧
  ∀ (i : Nat) (v : V) (H' : Hp), xs[i]? = some v → But p H H' → PenAt K H' p e (n + 1) → Q v H'
abbrev nPick : List Str := ["_law_pen_here", "_law_some"]
theorem scPick : FnScope nPick ["_law_pen_here", "_law_some"] (defScope sLwPick) := ⟨rfl, rfl, rfl, by decide +kernel, rfl, by decide +kernel, by decide +kernel⟩
/-- the draw as a def called by its name -/
structure DrawAt (P : Program) (w : World) (K : PySem.W.Frag) (mg : Str → Option Value) (base : Heap) (f : Addr) (fd : FuncData) : Prop where
  ok : FnOk P w K mg base CX0 2 f fd ["_law_pen_here", "_law_many"] (spDraw K)
  g : mg "_law_draw" = some (.ref f)
  kp : PySem.W.keepIn K (.ref f) = true
  b : Binds K fd ["_law_pen_here", "_law_many"] []
theorem ok_pick {f fD : Addr} {fd fdD : FuncData} (F : Fun K "_law_pick" "_law_pick" sLwPick f fd) (T : Bi mg) (D : DrawAt P w K mg base fD fdD) : FnOk P w K mg base CX0 3 f fd ["_law_pen_here", "_law_some"] (spPick K) := by
  refine F.ok scPick (fun vs H Q E h => ?_) (fun cdv A outer s H vs Q E hr h => ?_)
  · obtain ⟨p, l, e, xs, n, rfl, _⟩ := h
    rfl
  · have nd := scPick.nd
    refine ⟨_, pss_one (ps_ret (pe_ix ix_list (pv 1) (pe_call D.ok hr rfl D.g D.kp D.b .nil pass0 (pa_cons (pv 0) (pa_cons (pe_callB call_len_seq (by rfl) T.len PySem.boot_len (pa_cons (pv 1) pa_nil)) pa_nil))) (fun _ _ => rfl))), ?_⟩
    obtain ⟨p, l, e, xs, n, rfl, hl, hlp, l1, l2, hn, pen, k⟩ := h
    refine ⟨_, rfl, _, rfl, _, rfl, l, xs, rfl, .inl hl, p, e, _, n, rfl, by omega, by omega, hn, pen, fun r H' r0 r1 b pen' => ?_⟩
    have hr : r.toNat < xs.length := by omega
    exact ⟨l, xs, r, _, rfl, rfl, b.seq hlp hl, at_of (j := r.toNat) (by omega) (List.getElem?_eq_getElem hr), k _ _ _ (List.getElem?_eq_getElem hr) b pen'⟩
/-! ### things in a drawn order -/
def spMixed (K : PySem.W.Frag) : Sp := fun vs H Q _ => ∃ (p l : Addr) (e : Addr × List Int) (xs : List V) (n : Nat), vs = [.ref p, .ref l] ∧ SqL K H l xs ∧ l ≠ p ∧ xs.length ≤ 30 ∧ n < 900000 ∧ PenAt K H p e n ∧
  ∀ (q : Addr) (ys : List V) (H' : Hp), ys.Perm xs → H q = none → But p H H' → H' q = some (.lst ys) → PenAt K H' p e (n + xs.length) → Q (.ref q) H'
abbrev nMixed : List Str := ["_law_pen_here", "_law_items", "_law_left", "_law_found", "_law_turn"]
theorem scMixed : FnScope nMixed ["_law_pen_here", "_law_items"] (defScope sLwMixed) := ⟨rfl, rfl, rfl, by decide +kernel, rfl, by decide +kernel, by decide +kernel⟩
theorem perm_take {l d : List V} {i : Nat} {x : V} (h : l[i]? = some x) : (d ++ [x] ++ l.eraseIdx i).Perm (d ++ l) := by
  obtain ⟨hi, rfl⟩ := List.getElem?_eq_some_iff.mp h
  rw [List.append_assoc]
  refine List.Perm.append_left d ?_
  rw [List.eraseIdx_eq_take_drop_succ]
  have e : l = l.take i ++ l[i] :: l.drop (i + 1) := by
    rw [List.getElem_cons_drop, List.take_append_drop]
  calc [l[i]] ++ (l.take i ++ l.drop (i + 1)) = l[i] :: (l.take i ++ l.drop (i + 1)) := rfl
    _ |>.Perm (l.take i ++ l[i] :: l.drop (i + 1)) := List.perm_middle.symm
    _ |>.Perm l := by rw [← e]
theorem ok_mixed {f fD : Addr} {fd fdD : FuncData} (F : Fun K "_law_mixed" "_law_mixed" sLwMixed f fd) (T : Bi mg) (D : DrawAt P w K mg base fD fdD) : FnOk P w K mg base CX0 3 f fd ["_law_pen_here", "_law_items"] (spMixed K) := by
  refine F.ok scMixed (fun vs H Q E h => ?_) (fun cdv A outer s H vs Q E hr h => ?_)
  · obtain ⟨p, l, e, xs, n, rfl, _⟩ := h
    rfl
  · have nd := scMixed.nd
    refine ⟨_, pss_cons (ps_par (i := 2) (j := 3) (by rfl) nd rfl rfl (by decide) rfl rfl (pa_cons (pe_callTy call_list_of (by rfl) T.list (by decide +kernel) (pa_cons (pv 1) pa_nil)) (pa_cons (pe_lst pa_nil) pa_nil)) (by rfl))
      (pss_cons (ps_for PassesOwn.never rfl (pi_range1 (by rfl) T.range (pa_cons (pe_callB call_len_seq (by rfl) T.len PySem.boot_len (pa_cons (pv 1) pa_nil)) pa_nil)) (pg_name (i := 4) nd rfl (Or.inl rfl))
        (pss_one (ps_expr (pe_bm PySem.F.plainAttrs_list PySem.F.slot_list_append PySem.F.type_list_append mt_append (pv 3)
          (pa_cons (pe_bm PySem.F.plainAttrs_list PySem.F.slot_list_pop PySem.F.type_list_pop mt_popAt (pv 2)
            (pa_cons (pe_call D.ok hr rfl D.g D.kp D.b .nil pass0 (pa_cons (pv 0) (pa_cons (pe_callB call_len_seq (by rfl) T.len PySem.boot_len (pa_cons (pv 2) pa_nil)) pa_nil))) pa_nil)) pa_nil)))))
      (pss_one (ps_ret (pv 3)))), ?_⟩
    obtain ⟨p, l, e, xs, n, rfl, hl, hlp, hxl, hn, pen, k⟩ := h
    refine ⟨_, rfl, l, xs, rfl, .inl hl, fun a ha => ⟨by show 0 ≤ sizeLine; decide, fun g hg => ?_⟩⟩
    have hga : g ≠ a := (ne_of_none upd_same hg).symm
    have hg0 : H g = none := by
      rw [upd_ne hga] at hg
      exact hg
    have s1 : Same H (upd H a (.lst xs)) := (Same.refl H).new ha
    have s2 : Same H (upd (upd H a (.lst xs)) g (.lst [])) := s1.new hg
    refine ⟨_, _, rfl, _, rfl, l, xs, rfl, .inl (s2.seq hl), _, rfl, by omega, by omega, ?_⟩
    refine for_range (lo := 0) (n := ((xs.length : Nat) : Int).toNat) (fun i σ H' => ∃ (rest done : List V) (t : Option V), σ = [some (.ref p), some (.ref l), some (.ref a), some (.ref g), t] ∧ But p H H' ∧ H' a = some (.lst rest) ∧ H' g = some (.lst done) ∧
      (done ++ rest).Perm xs ∧ done.length = i ∧ PenAt K H' p e (n + i)) ⟨xs, [], none, rfl, But.of s2, by rw [upd_ne hga.symm, upd_same], upd_same, List.Perm.refl _, rfl, pen.same s2⟩ ?_ ?_
    · rintro i σ H' hi ⟨rest, done, t, rfl, b, h1, h2, pm, dl, pen'⟩
      have hi' : i < xs.length := by omega
      have hlen := pm.length_eq
      rw [List.length_append] at hlen
      have hap : a ≠ p := pen.ne ha
      have hgp : g ≠ p := pen.ne hg0
      have r1 : 1 ≤ rest.length := by omega
      refine ⟨_, rfl, .inl ⟨rfl, _, SqL.of h2⟩, _, rfl, .inl ⟨rfl, _, SqL.of h1⟩, _, rfl, _, rfl, a, rest, rfl, .inl (SqL.of h1), p, e, _, n + i, rfl, by omega, by omega, by omega, pen', fun r H2 r0 rl b2 pen2 => ?_⟩
      have hrl : r.toNat < rest.length := by omega
      have e1 : H2 a = some (.lst rest) := b2 a _ hap h1
      have e2 : H2 g = some (.lst done) := b2 g _ hgp h2
      refine ⟨a, rest, r, r.toNat, rest[r.toNat], rfl, rfl, e1, by omega, by omega, seqIndex_of r0 rl, List.getElem?_eq_getElem hrl, g, done, _, rfl, rfl, by rw [upd_ne hga]; exact e2, szl (by omega), ?_⟩
      have b3 : But p H (upd (upd H2 a (.lst (rest.eraseIdx r.toNat))) g (.lst (done ++ [rest[r.toNat]]))) := ((b.trans b2).mut ha).mut hg0
      refine ⟨rest.eraseIdx r.toNat, done ++ [rest[r.toNat]], _, rfl, b3, by rw [upd_ne hga.symm, upd_same], upd_same, (perm_take (List.getElem?_eq_getElem hrl)).trans pm, by rw [List.length_append, dl]; rfl, ?_⟩
      exact pen.mut (pen.mut pen2 (b.trans b2) ha) ((b.trans b2).mut ha) hg0
    · rintro σ H' ⟨rest, done, t, rfl, b, h1, h2, pm, dl, pen'⟩
      have hlen := pm.length_eq
      rw [List.length_append] at hlen
      have er : rest = [] := List.eq_nil_of_length_eq_zero (by omega)
      subst er
      rw [List.append_nil] at pm
      refine ⟨_, rfl, k g done H' pm hg0 b h2 (by simpa using pen')⟩
end
end K
namespace K
open PySem L2 Rg
open Evl (pss_cut)
/-- each from 1 to m -/
def Bd (m : Int) (ls : List Int) : Prop := ∀ x ∈ ls, 1 ≤ x ∧ x ≤ m
theorem Bd.snoc {m x : Int} {ls : List Int} (h : Bd m ls) (h1 : 1 ≤ x) (h2 : x ≤ m) : Bd m (ls ++ [x]) := fun y hy => by
  rcases List.mem_append.mp hy with z | z
  · exact h y z
  · rw [List.mem_singleton.mp z]
    exact ⟨h1, h2⟩
theorem Bd.le {m k : Int} {ls : List Int} (h : Bd m ls) (hk : m ≤ k) : Bd k ls := fun x hx => ⟨(h x hx).1, by have := (h x hx).2; omega⟩
theorem Bd.set {m x : Int} {ls : List Int} {i : Nat} (h : Bd m ls) (h1 : 1 ≤ x) (h2 : x ≤ m) : Bd m (ls.set i x) := fun y hy => by
  rcases List.mem_or_eq_of_mem_set hy with z | z
  · exact h y z
  · rw [z]; exact ⟨h1, h2⟩
theorem Bd.sum {m : Int} : ∀ {ls : List Int}, Bd m ls → (ls.length : Int) ≤ ls.sum ∧ ls.sum ≤ m * ls.length
  | [], _ => by simp
  | x :: ls, h => by
    have ih := Bd.sum (m := m) (ls := ls) fun y hy => h y (List.mem_cons_of_mem _ hy)
    have hx := h x (List.mem_cons_self ..)
    rw [List.sum_cons, List.length_cons]
    have e : m * ((ls.length + 1 : Nat) : Int) = m * ls.length + m := by push_cast; rw [Int.mul_add, Int.mul_one]
    rw [e]
    push_cast
    omega
theorem ixN_at {n : Nat} {r : Int} (h0 : 0 ≤ r) (h1 : r < n) : ixN n r = some r.toNat := by
  unfold ixN
  rw [if_pos h0, if_pos h1]
theorem int_get {ls : List Int} {i : Nat} (h : i < ls.length) : (ls.map V.int)[i]? = some (V.int ls[i]) := by
  rw [List.getElem?_map, List.getElem?_eq_getElem h]; rfl
theorem set_map (ls : List Int) (i : Nat) (x : Int) : (ls.map V.int).set i (V.int x) = (ls.set i x).map V.int := by
  rw [List.map_set]
theorem erase_sum : ∀ {ls : List Int} {i : Nat} (h : i < ls.length), (ls.eraseIdx i).sum = ls.sum - ls[i]
  | x :: ls, 0, h => by simp [List.sum_cons]; omega
  | x :: ls, i + 1, h => by
    have h' : i < ls.length := by simpa using h
    have ih := erase_sum h'
    rw [List.eraseIdx_cons_succ, List.sum_cons, List.sum_cons, ih, List.getElem_cons_succ]
    omega
theorem abs_sum {m : Int} (hm : 0 ≤ m) : ∀ {ls : List Int}, (∀ x ∈ ls, -m ≤ x ∧ x ≤ m) → -(m * ls.length) ≤ ls.sum ∧ ls.sum ≤ m * ls.length
  | [], _ => by simp
  | x :: ls, h => by
    have ih := abs_sum hm (ls := ls) fun y hy => h y (List.mem_cons_of_mem _ hy)
    have hx := h x (List.mem_cons_self ..)
    have e : m * ((ls.length + 1 : Nat) : Int) = m * ls.length + m := by push_cast; rw [Int.mul_add, Int.mul_one]
    rw [List.sum_cons, List.length_cons, e]
    omega
section
variable {P : Program} {w : World} {K : PySem.W.Frag} {mg : Str → Option Value} {base : Heap}
def spLengths (K : PySem.W.Frag) : Sp := fun vs H Q _ => ∃ (p : Addr) (e : Addr × List Int) (n : Nat), vs = [.ref p] ∧ n < 800000 ∧ PenAt K H p e n ∧
  ∀ (q : Addr) (ls : List Int) (H' : Hp), 3 ≤ ls.length → ls.length ≤ 8 → Bd 1000000 ls → H q = none → But p H H' → H' q = some (.lst (ls.map V.int)) → PenAt K H' p e (n + 30) → Q (.ref q) H'
abbrev nLengths : List Str := ["_law_pen_here", "_law_many", "_law_way", "_law_most", "_law_found", "_law_at", "_law_rest", "_law_signed", "_law_bar", "_law_length"]
theorem scLengths : FnScope nLengths ["_law_pen_here"] (defScope sLwLengths) := ⟨rfl, rfl, rfl, by decide +kernel, rfl, by decide +kernel, by decide +kernel⟩
theorem ok_lengths {f fD : Addr} {fd fdD : FuncData} (F : Fun K "_law_lengths" "_law_lengths" sLwLengths f fd) (T : Bi mg) (D : DrawAt P w K mg base fD fdD) : FnOk P w K mg base CX0 3 f fd ["_law_pen_here"] (spLengths K) := by
  refine F.ok scLengths (fun vs H Q E h => ?_) (fun cdv A outer s H vs Q E hr h => ?_)
  · obtain ⟨p, e, n, rfl, _⟩ := h
    rfl
  · have nd := scLengths.nd
    refine ⟨_, pss_cons (ps_par (i := 1) (j := 2) (by rfl) nd rfl rfl (by decide) rfl rfl (pa_cons (pe_op op_add pe_int (pe_call D.ok hr rfl D.g D.kp D.b .nil pass0 (pa_cons (pv 0) (pa_cons pe_int pa_nil)))) (pa_cons (pe_call D.ok hr rfl D.g D.kp D.b .nil pass0 (pa_cons (pv 0) (pa_cons pe_int pa_nil))) pa_nil)) (by rfl))
      (pss_cut (ps_set (i := 3) nd rfl (Or.inr rfl) (pe_ix ix_list (pe_lst (pa_cons pe_int (pa_cons pe_int (pa_cons pe_int (pa_cons pe_int (pa_cons pe_int (pa_cons pe_int (pa_cons pe_int pa_nil)))))))) (pv 2) (fun _ _ => rfl)))
      (pss_cons (ps_setLc (i := 4) (own := [("_law_bar", 8)]) (g := gName 8) rfl nd rfl rfl (sw_true rfl rfl rfl (by decide +kernel)) (pi_range1 (by rfl) T.range (pa_cons (pv 1) pa_nil)) (blkOk_by (N := nLengths) (sc := defScope sLwLengths) (by decide +kernel))
        (fun _ _ _ _ _ => pg_name (i := 8) nd rfl (Or.inl rfl)) (fun _ _ _ _ _ => pts_nil) (fun _ _ _ _ _ => pe_op op_add pe_int (pe_call D.ok hr rfl D.g D.kp D.b .nil pass0 (pa_cons (pv 0) (pa_cons (pv 3) pa_nil)))))
      (pss_cons (ps_set (i := 5) nd rfl (Or.inr rfl) (pe_call D.ok hr rfl D.g D.kp D.b .nil pass0 (pa_cons (pv 0) (pa_cons (pv 1) pa_nil))))
      (pss_cons (ps_set (i := 6) nd rfl (Or.inl rfl) (pe_op op_sub (pe_callB (cr_sum rfl) (by rfl) T.sum (by decide +kernel) (pa_cons (pv 4) pa_nil)) (pe_ix ix_list (pv 4) (pv 5) (fun _ _ => rfl))))
      (pss_cut (ps_if (pt_cmpR op_eq (pv 2) pe_int (nomark _)) (pss_one (ps_asg (pe_op op_add (pv 6) (pe_call D.ok hr rfl D.g D.kp D.b .nil pass0 (pa_cons (pv 0) (pa_cons pe_int pa_nil)))) (pg_sub (pv 4) (pv 5) set_list))) pss_nil)
      (pss_cut (ps_if (pt_cmpR op_eq (pv 2) pe_int (nomark _))
        (pss_cons (ps_set (i := 7) nd rfl (Or.inl rfl) (pe_callB (cr_sum rfl) (by rfl) T.sum (by decide +kernel) (pa_cons (pe_lc (own := [("_law_bar", 8), ("_law_length", 9)]) (g := gTup K 2 (gCons (gName 8) (gCons (gName 9) gNil))) rfl nd (pi_enum (by rfl) T.enumerate (pa_cons (pv 4) pa_nil)) (blkOk_by (N := nLengths) (sc := defScope sLwLengths) (by decide +kernel))
          (fun _ _ _ _ _ => pg_tup rfl (pgs_cons (pg_name (i := 8) nd rfl (Or.inl rfl)) (pgs_cons (pg_name (i := 9) nd rfl (Or.inl rfl)) pgs_nil))) (fun _ _ _ _ _ => pts_one (pt_cmpR op_ne (pv 8) (pv 5) (nomark _)))
          (fun _ _ _ _ _ => pe_op op_mul (pv 9) (pe_op op_sub pe_int (pe_op op_mul pe_int (pe_call D.ok hr rfl D.g D.kp D.b .nil pass0 (pa_cons (pv 0) (pa_cons pe_int pa_nil))))))) pa_nil)))
        (pss_one (ps_asg (pe_callB (call_max2 rfl) (by rfl) T.max (by decide +kernel) (pa_cons pe_int (pa_cons (pe_callB call_abs (by rfl) T.abs (by decide +kernel) (pa_cons (pv 7) pa_nil)) pa_nil))) (pg_sub (pv 4) (pv 5) set_list)))) pss_nil)
      (pss_one (ps_ret (pv 4))))))))), ?_⟩
    obtain ⟨p, e, n, rfl, hn, pen, k⟩ := h
    refine ⟨_, rfl, p, e, 6, n, rfl, by decide, by decide, by omega, pen, fun r1 H1 r1a r1b b1 pen1 => ?_⟩
    refine ⟨_, _, rfl, rfl, _, rfl, p, e, 7, n + 1, rfl, by decide, by decide, by omega, pen1, fun r2 H2 r2a r2b b2 pen2 => ⟨_, _, rfl, ?_⟩⟩
    have b12 := b1.trans b2
    refine ⟨fun σ' H' => ∃ most : Int, 1 ≤ most ∧ most ≤ 1000000 ∧ (r2 = 4 → most = 4) ∧ (r2 = 5 → most = 9) ∧ σ' = [some (.ref p), some (.int (3 + r1)), some (.int r2), some (.int most), none, none, none, none, none, none] ∧ But p H H' ∧ PenAt K H' p e (n + 2), ?_, ?_⟩
    · refine ⟨(by show 7 ≤ sizeLine; decide), fun q hq => ?_⟩
      have hb := (b12.new hq : But p H (upd H2 q (.lst [.int 9, .int 9, .int 3, .int 1000000, .int 4, .int 9, .int 2])))
      have hp := (pen2.put hq : PenAt K (upd H2 q (.lst [.int 9, .int 9, .int 3, .int 1000000, .int 4, .int 9, .int 2])) p e (n + 1 + 1))
      have c7 : r2 = 0 ∨ r2 = 1 ∨ r2 = 2 ∨ r2 = 3 ∨ r2 = 4 ∨ r2 = 5 ∨ r2 = 6 := by omega
      rcases c7 with c | c | c | c | c | c | c <;> subst c <;> refine ⟨_, rfl, q, _, _, _, rfl, rfl, SqL.of upd_same, rfl, ?_⟩ <;> exact ⟨_, by decide, by decide, by decide, by decide, rfl, hb, hp⟩
    · rintro σ' H3 ⟨most, m1, m2, m4, m5, rfl, b3, pen3⟩
      have hmany : (3 + r1).toNat ≤ 8 := by omega
      have hmn : (((3 + r1).toNat : Nat) : Int) = 3 + r1 := by omega
      -- found = [1 + draw(pen, most) for bar in range(many)]
      refine ⟨_, rfl, _, rfl, by omega, by omega, fun D hD => ?_⟩
      have hDp : D ≠ p := pen3.ne hD
      have hD0 : H D = none := b3.free hDp hD
      refine lc_range (lo := 0) (n := (3 + r1).toNat) (fun i H' => ∃ ls : List Int, ls.length = i ∧ Bd most ls ∧ H' D = some (.lst (ls.map V.int)) ∧ But p H H' ∧ PenAt K H' p e (n + 2 + i)) ⟨[], rfl, fun x hx => (by cases hx), upd_same, b3.mut hD0, pen.mut pen3 b3 hD0⟩ ?_ ?_
      · rintro i H' hi ⟨ls, ll, bd, hd, b, pen'⟩
        refine ⟨rfl, _, rfl, _, rfl, p, e, most, n + 2 + i, rfl, m1, m2, by omega, pen', fun r H4 q0 q1 b4 pen4 => ⟨_, _, rfl, rfl, _, b4 D _ hDp hd, szl (by rw [List.length_map]; omega), ls ++ [1 + r], by rw [List.length_append, ll]; rfl, bd.snoc (by omega) (by omega), ?_, (b.trans b4).mut hD0, pen.mut pen4 (b.trans b4) hD0⟩⟩
        rw [List.map_append]
        exact upd_same
      · rintro H4 ⟨ls, ll, bd, hd, b4, pen4⟩
        have l3 : 3 ≤ ls.length := by omega
        have l8 : ls.length ≤ 8 := by omega
        -- at = draw(pen, many)
        refine ⟨_, rfl, _, rfl, p, e, 3 + r1, _, rfl, by omega, by omega, by omega, pen4, fun r5 H5 r5a r5b b5 pen5 => ?_⟩
        have hd5 := b5 D _ hDp hd
        have b45 := b4.trans b5
        have h5 : r5.toNat < ls.length := by omega
        have h5' : r5 < (ls.length : Int) := by omega
        have hsum := bd.sum
        have hat := bd _ (List.getElem_mem h5)
        have hsum2 := Bd.sum (m := most) (ls := ls.eraseIdx r5.toNat) fun x hx => bd x (List.mem_of_mem_eraseIdx hx)
        have hser : (ls.eraseIdx r5.toNat).sum = ls.sum - ls[r5.toNat] := by
          exact erase_sum h5
        -- rest = sum(found) - found[at]
        refine ⟨_, rfl, D, ls, rfl, SqL.of hd5, _, rfl, _, rfl, D, _, r5, _, rfl, rfl, SqL.of hd5, at_of (j := r5.toNat) (by omega) (int_get h5), _, _, rfl, rfl, ?_⟩
        refine ⟨fun σ' H' => ∃ (ls' : List Int), ls'.length = ls.length ∧ Bd 1000000 ls' ∧ (r2 = 5 → Bd 9 ls') ∧ σ' = [some (.ref p), some (.int (3 + r1)), some (.int r2), some (.int most), some (.ref D), some (.int r5), some (.int (ls.sum - ls[r5.toNat])), none, none, none] ∧ But p H H' ∧ H' D = some (.lst (ls'.map V.int)) ∧ PenAt K H' p e (n + 12), ?_, ?_⟩
        · refine ⟨_, rfl, rfl, _, rfl, ?_⟩
          refine ite2 (fun c => ?_) (fun c => ?_)
          · have c4 : r2 = 4 := by simpa using c
            have e4 := m4 c4
            subst e4
            refine ⟨_, rfl, _, rfl, p, e, 3, _, rfl, by decide, by decide, by omega, pen5, fun r6 H6 r6a r6b b6 pen6 => ⟨_, _, rfl, rfl, _, rfl, _, rfl, D, _, r5, r5.toNat, rfl, rfl, b6 D _ hDp hd5, ixN_at r5a (by rw [List.length_map]; exact h5'), ?_⟩⟩
            rw [set_map]
            have le : (ls.eraseIdx r5.toNat).length = ls.length - 1 := by rw [List.length_eraseIdx_of_lt h5]
            refine ⟨ls.set r5.toNat (ls.sum - ls[r5.toNat] + r6), by rw [List.length_set], (bd.le (by decide)).set (by omega) (by omega), fun z => by omega, rfl, (b45.trans b6).mut hD0, upd_same, (pen.mut pen6 (b45.trans b6) hD0).mono (by omega)⟩
          · exact ⟨ls, rfl, bd.le m2, fun z => by rw [m5 z] at bd; exact bd, rfl, b45, hd5, pen5.mono (by omega)⟩
        · rintro σ' H6 ⟨ls6, ll6, bd6, bd65, rfl, b6, hd6, pen6⟩
          refine ⟨fun σ' H' => ∃ (ls' : List Int) (u7 : Option V), ls'.length = ls.length ∧ Bd 1000000 ls' ∧ σ' = [some (.ref p), some (.int (3 + r1)), some (.int r2), some (.int most), some (.ref D), some (.int r5), some (.int (ls.sum - ls[r5.toNat])), u7, none, none] ∧ But p H H' ∧ H' D = some (.lst (ls'.map V.int)) ∧ PenAt K H' p e (n + 30), ?_, ?_⟩
          · refine ⟨_, rfl, rfl, _, rfl, ?_⟩
            refine ite2 (fun c => ?_) (fun c => ?_)
            · have c5 : r2 = 5 := by simpa using c
              have b9 := bd65 c5
              -- signed = sum([length * (1 - 2 * draw(pen, 2)) for bar, length in enumerate(found) if bar != at])
              refine ⟨_, rfl, D, _, rfl, SqL.of hd6, fun G hG => ?_⟩
              have hGp : G ≠ p := pen6.ne hG
              have hG0 : H G = none := b6.free hGp hG
              have hDG : D ≠ G := ne_of_none hd6 hG
              refine lc_it walk_enum (fun i H' => ∃ ms : List Int, ms.length ≤ i ∧ (∀ x ∈ ms, -9 ≤ x ∧ x ≤ 9) ∧ H' G = some (.lst (ms.map V.int)) ∧ H' D = some (.lst (ls6.map V.int)) ∧ But p H H' ∧ PenAt K H' p e (n + 12 + i))
                ⟨[], Nat.le_refl _, fun x hx => (by cases hx), upd_same, by rw [upd_ne hDG]; exact hd6, b6.mut hG0, pen.mut pen6 b6 hG0⟩ (fun i H' _ ⟨_, _, _, _, h, _⟩ => SqL.of h) ?_ ?_
              · rintro i x H7 H8 hi ⟨ms, ml, mb, hg, hd7, b7, pen7⟩ ⟨U, x1, x2, rfl, hU, rfl, e1, e2⟩
                obtain rfl := (Option.some.inj e1).symm
                obtain ⟨z, hz, rfl⟩ := int_at e2
                rw [List.length_map] at hi
                have hUp : U ≠ p := pen7.ne hU
                have hU0 : H U = none := b7.free hUp hU
                have hGU : G ≠ U := ne_of_none hg hU
                have hDU : D ≠ U := ne_of_none hd7 hU
                have b8 : But p H (upd H7 U (.tup [.int (i : Nat), .int z])) := b7.mut hU0
                have pen8 : PenAt K (upd H7 U (.tup [.int (i : Nat), .int z])) p e (n + 12 + i) := pen.mut pen7 b7 hU0
                have hg8 : upd H7 U (.tup [.int (i : Nat), .int z]) G = some (.lst (ms.map V.int)) := by rw [upd_ne hGU]; exact hg
                have hd8 : upd H7 U (.tup [.int (i : Nat), .int z]) D = some (.lst (ls6.map V.int)) := by rw [upd_ne hDU]; exact hd7
                refine ⟨U, _, rfl, .inl (.inl upd_same), rfl, _, _, rfl, _, _, rfl, rfl, rfl, _, rfl, _, rfl, rfl, _, rfl, ?_⟩
                refine ite2 (fun c => ?_) (fun c => ?_)
                · refine ⟨_, rfl, _, rfl, p, e, 2, n + 12 + i, rfl, by decide, by decide, by omega, pen8, fun r H9 q0 q1 b9' pen9 => ⟨_, _, rfl, rfl, .inl ⟨by decide, by decide⟩, _, _, rfl, rfl, ?_⟩⟩
                  have hz9 := b9 z (List.mem_of_getElem? hz)
                  refine ⟨_, _, rfl, rfl, .inl ⟨by omega, by omega⟩, _, b9' G _ hGp hg8, szl (by rw [List.length_map]; omega), ms ++ [z * (1 - 2 * r)], by rw [List.length_append]; simp; omega, ?_, ?_, by rw [upd_ne hDG]; exact b9' D _ hDp hd8, (b8.trans b9').mut hG0, pen.mut pen9 (b8.trans b9') hG0⟩
                  · intro y hy
                    rcases List.mem_append.mp hy with q | q
                    · exact mb y q
                    · rw [List.mem_singleton.mp q]
                      have hr : r = 0 ∨ r = 1 := by omega
                      rcases hr with rfl | rfl <;> omega
                  · rw [List.map_append]
                    exact upd_same
                · exact ⟨ms, by omega, mb, hg8, hd8, b8, pen8.mono (by omega)⟩
              · rintro H7 ⟨ms, ml, mb, hg, hd7, b7, pen7⟩
                rw [List.length_map] at ml
                have hs := abs_sum (by decide) mb
                refine ⟨G, ms, rfl, SqL.of hg, ?_⟩
                -- found[at] = max(1, abs(signed))
                refine ⟨_, rfl, _, rfl, _, _, rfl, _, rfl, _, rfl, D, _, r5, r5.toNat, rfl, rfl, hd7, ixN_at r5a (by rw [List.length_map]; omega), ?_⟩
                rw [set_map]
                refine ⟨_, _, by rw [List.length_set]; exact ll6, bd6.set ?_ ?_, rfl, b7.mut hD0, upd_same, (pen.mut pen7 b7 hD0).mono (by rw [List.length_map]; omega)⟩
                · split <;> split <;> omega
                · split <;> split <;> omega
            · exact ⟨ls6, none, ll6, bd6, rfl, b6, hd6, pen6.mono (by omega)⟩
          · rintro σ' H8 ⟨ls8, u7, ll8, bd8, rfl, b8, hd8, pen8⟩
            exact ⟨_, rfl, k D ls8 H8 (by omega) (by omega) bd8 hD0 b8 hd8 pen8⟩
end
end K
namespace K
open PySem L2 Rg
open Evl (pss_cut)
/-- the kinds that are asked for -/
def kinds : List String := ["NoneType", "bool", "int", "str", "list", "tuple", "dict"]
theorem kit_int : ∀ k ∈ kinds, kitB k "int" = some (decide (k = "int" ∨ k = "bool")) := by decide +kernel
theorem kit_bool : ∀ k ∈ kinds, kitB k "bool" = some (decide (k = "bool")) := by decide +kernel
theorem kit_list : ∀ k ∈ kinds, kitB k "list" = some (decide (k = "list")) := by decide +kernel
theorem kit_tuple : ∀ k ∈ kinds, kitB k "tuple" = some (decide (k = "tuple")) := by decide +kernel
/-- v is of the kind k -/
def Knd (K : PySem.W.Frag) (H : Hp) (v : V) (k : String) : Prop := TyX K H v (.type k) ∧ k ∈ kinds
section
variable {P : Program} {w : World} {K : PySem.W.Frag} {mg : Str → Option Value} {base : Heap}
theorem Knd.int {H : Hp} {i : Int} : Knd K H (.int i) "int" := ⟨.base (.int i), by decide⟩
theorem tyx_same {H H' : Hp} {v : V} {t : Value} (h : TyX K H v t) (s : Same H H') : TyX K H' v t := by
  cases h with
  | base h =>
    refine .base ?_
    cases h with
    | non => exact .non
    | bl x => exact .bl x
    | int x => exact .int x
    | str x => exact .str x
    | flt x => exact .flt x
    | lst e => exact .lst (s _ _ e)
    | frz e => exact .frz (s _ _ e)
    | tup e => exact .tup (s _ _ e)
    | dK e => exact .dK (s _ _ e)
    | dT e => exact .dT (s _ _ e)
    | ins e cl ha hn htk hm => exact .ins (s _ _ e) cl ha hn htk hm
  | byt b => exact .byt b
  | set e => exact .set (s _ _ e)
  | kList e c => exact .kList e c
  | kTuple e c => exact .kTuple e c
  | kDict e c => exact .kDict e c
  | fTuple e => exact .fTuple (s _ _ e)
  | fDict e => exact .fDict (s _ _ e)
theorem Knd.same {H H' : Hp} {v : V} {k : String} (h : Knd K H v k) (s : Same H H') : Knd K H' v k := ⟨tyx_same h.1 s, h.2⟩
/-! ### is_integer -/
def spIsInt (K : PySem.W.Frag) : Sp := fun vs H Q _ => ∃ (v : V) (k : String), vs = [v] ∧ Knd K H v k ∧ Q (.bl (decide (k = "int"))) H
theorem scIsInt : FnScope ["value"] ["value"] (defScope sIsInteger) := ⟨rfl, rfl, rfl, by decide +kernel, rfl, by decide +kernel, by decide +kernel⟩
theorem ok_isInt {f : Addr} {fd : FuncData} (F : Fun K "is_integer" "is_integer" sIsInteger f fd) (T : Bi mg) : FnOk P w K mg base CX0 1 f fd ["value"] (spIsInt K) := by
  refine F.ok scIsInt (fun vs H Q E h => ?_) (fun cdv A outer s H vs Q E hr h => ?_)
  · obtain ⟨v, k, rfl, _⟩ := h
    rfl
  · refine ⟨_, pss_one (ps_ret (pe_and (pe_callB call_isi (by rfl) T.isinstance (by decide +kernel) (pa_cons (pv 0) (pa_cons (pe_bltn (v := .ty "int") (u := .type "int") (by rfl) T.int (by decide +kernel) rfl) pa_nil)))
      (pe_one (pe_not (pe_callB call_isi (by rfl) T.isinstance (by decide +kernel) (pa_cons (pv 0) (pa_cons (pe_bltn (v := .ty "bool") (u := .type "bool") (by rfl) T.bool (by decide +kernel) rfl) pa_nil))))))), ?_⟩
    obtain ⟨v, k, rfl, ⟨ty, hk⟩, q⟩ := h
    refine ⟨_, rfl, v, .ty "int", _, _, _, rfl, .ty _, ty, kit_ty (kit_int k hk), _, rfl, ?_⟩
    refine ite2 (fun c => ?_) (fun c => ?_)
    · refine ⟨_, rfl, v, .ty "bool", _, _, _, rfl, .ty _, ty, kit_ty (kit_bool k hk), _, rfl, ?_⟩
      have c' : k = "int" ∨ k = "bool" := of_decide_eq_true c
      have e : (!decide (k = "bool")) = decide (k = "int") := by
        rcases c' with rfl | rfl <;> decide
      rw [e]
      exact q
    · have c' : ¬ (k = "int" ∨ k = "bool") := fun z => c (decide_eq_true z)
      have e : decide (k = "int") = false := decide_eq_false fun z => c' (.inl z)
      rw [e] at q
      exact q
/-! ### is_list -/
def spIsList (K : PySem.W.Frag) : Sp := fun vs H Q _ => ∃ (v : V) (k : String), vs = [v] ∧ Knd K H v k ∧ ∀ H', Same H H' → Q (.bl (decide (k = "list" ∨ k = "tuple"))) H'
theorem scIsList : FnScope ["value"] ["value"] (defScope sIsList) := ⟨rfl, rfl, rfl, by decide +kernel, rfl, by decide +kernel, by decide +kernel⟩
theorem ok_isList {f : Addr} {fd : FuncData} (F : Fun K "is_list" "is_list" sIsList f fd) (T : Bi mg) : FnOk P w K mg base CX0 1 f fd ["value"] (spIsList K) := by
  refine F.ok scIsList (fun vs H Q E h => ?_) (fun cdv A outer s H vs Q E hr h => ?_)
  · obtain ⟨v, k, rfl, _⟩ := h
    rfl
  · refine ⟨_, pss_one (ps_ret (pe_callB call_isiT (by rfl) T.isinstance (by decide +kernel) (pa_cons (pv 0) (pa_cons (pe_tup (pa_cons (pe_bltn (v := .ty "list") (u := .type "list") (by rfl) T.list (by decide +kernel) rfl) (pa_cons (pe_bltn (v := .ty "tuple") (u := .type "tuple") (by rfl) T.tuple (by decide +kernel) rfl) pa_nil))) pa_nil)))), ?_⟩
    obtain ⟨v, k, rfl, ⟨ty, hk⟩, q⟩ := h
    refine ⟨_, rfl, (by show 2 ≤ sizeLine; decide), fun p hp => ?_⟩
    have s1 : Same H (upd H p (.tup [.ty "list", .ty "tuple"])) := (Same.refl H).new hp
    refine ⟨v, p, [.ty "list", .ty "tuple"], _, _, decide (k = "list" ∨ k = "tuple"), rfl, upd_same, .cons (.ty _) (.cons (.ty _) .nil), tyx_same ty s1, kitAny_cons (kit_ty (kit_list k hk)) (fun e => kitAny_cons (b := decide (k = "tuple")) (r := decide (k = "list" ∨ k = "tuple")) (kit_ty (kit_tuple k hk)) (fun e' => ?_) fun e' => ?_) fun e => ?_, q _ s1⟩
    · have h1 : ¬ k = "list" := of_decide_eq_false e
      have h2 : ¬ k = "tuple" := of_decide_eq_false e'
      rw [kitAny_nil, decide_eq_false (fun z => z.elim h1 h2)]
    · exact decide_eq_true (.inr (of_decide_eq_true e'))
    · exact decide_eq_true (.inl (of_decide_eq_true e))
end
end K
namespace K
open PySem L2 Rg
open Evl (pss_cut)
theorem iteDT {c A B : Prop} [Decidable c] (hc : c) (h : A) : if decide c = true then A else B := by
  rw [if_pos (decide_eq_true hc)]; exact h
theorem iteDF {c A B : Prop} [Decidable c] (hc : ¬ c) (h : B) : if decide c = true then A else B := by
  rw [if_neg (by rw [decide_eq_false hc]; exact Bool.false_ne_true)]; exact h
theorem iteBT {c : Bool} {A B : Prop} (hc : c = true) (h : A) : if c = true then A else B := by
  rw [if_pos hc]; exact h
theorem iteBF {c : Bool} {A B : Prop} (hc : c = false) (h : B) : if c = true then A else B := by
  rw [if_neg (by rw [hc]; exact Bool.false_ne_true)]; exact h
theorem sm {n : Nat} (h : n ≤ 10000) : n < sizeLine := Nat.lt_of_le_of_lt h (by decide)
/-- a def of the text, by its name -/
structure DefAt (P : Program) (w : World) (K : PySem.W.Frag) (mg : Str → Option Value) (base : Heap) (CX : CXT) (k : Nat) (x : Str) (ps : List Str) (sp : Sp) (f : Addr) (fd : FuncData) : Prop where
  ok : FnOk P w K mg base CX k f fd ps sp
  g : mg x = some (.ref f)
  kp : PySem.W.keepIn K (.ref f) = true
  b : Binds K fd ps []
section
variable {P : Program} {w : World} {K : PySem.W.Frag} {mg : Str → Option Value} {base : Heap}
/-- two promises of one def -/
theorem fn_or {CX : CXT} {k : Nat} {f : Addr} {fd : FuncData} {ps : List Str} {sp sp' : Sp} (F : FnOk P w K mg base CX k f fd ps sp) (G : FnOk P w K mg base CX k f fd ps sp') : FnOk P w K mg base CX k f fd ps (fun vs H Q E => sp vs H Q E ∨ sp' vs H Q E) :=
  ⟨fun vs H Q E h => h.elim (F.len vs H Q E) (G.len vs H Q E), fun A outer s H args us vs Q E hr e0 hb hv h => h.elim (F.run A outer s H args us vs Q E hr e0 hb hv) (G.run A outer s H args us vs Q E hr e0 hb hv)⟩
/-! ### is_within, of ints -/
def spWithin : Sp := fun vs H Q _ => ∃ (v lo hi : Int), vs = [.int v, .int lo, .int hi] ∧ Q (.bl (decide (lo ≤ v) && decide (v ≤ hi))) H
theorem scWithin : FnScope ["value", "least", "most"] ["value", "least", "most"] (defScope sIsWithin) := ⟨rfl, rfl, rfl, by decide +kernel, rfl, by decide +kernel, by decide +kernel⟩
theorem ok_within {f fI : Addr} {fd fdI : FuncData} (F : Fun K "is_within" "is_within" sIsWithin f fd) (G : DefAt P w K mg base CX0 1 "is_integer" ["value"] (spIsInt K) fI fdI) : FnOk P w K mg base CX0 2 f fd ["value", "least", "most"] spWithin := by
  refine F.ok scWithin (fun vs H Q E h => ?_) (fun cdv A outer s H vs Q E hr h => ?_)
  · obtain ⟨v, lo, hi, rfl, _⟩ := h
    rfl
  · refine ⟨_, pss_cons (ps_if (pt_not (pt_val (pe_call G.ok hr rfl G.g G.kp G.b .nil pass0 (pa_cons (pv 0) pa_nil)))) (pss_one (ps_ret pe_bl)) pss_nil)
      (pss_one (ps_ret (pe_and (pe_or (pe_cmpR op_isN (pv 1) pe_non (nomark _)) (pe_one (pe_cmpR op_ge (pv 0) (pv 1) (nomark _)))) (pe_one (pe_or (pe_cmpR op_isN (pv 2) pe_non (nomark _)) (pe_one (pe_cmpR op_le (pv 0) (pv 2) (nomark _)))))))), ?_⟩
    obtain ⟨v, lo, hi, rfl, q⟩ := h
    refine ⟨_, rfl, V.int v, "int", rfl, Knd.int, _, rfl, iteNS rfl ?_⟩
    refine ⟨_, rfl, rfl, _, rfl, iteDF (fun z => nomatch z) ⟨_, rfl, _, rfl, _, _, rfl, rfl, _, rfl, ?_⟩⟩
    refine ite2 (fun c => ?_) (fun c => ?_)
    · have c' : lo ≤ v := of_decide_eq_true c
      refine ⟨_, rfl, rfl, _, rfl, iteDF (fun z => nomatch z) ⟨_, rfl, _, rfl, _, _, rfl, rfl, ?_⟩⟩
      rw [decide_eq_true c', Bool.true_and] at q
      exact q
    · have c' : ¬ lo ≤ v := fun z => c (decide_eq_true z)
      rw [decide_eq_false c', Bool.false_and] at q
      exact q
/-! ### is_numbers -/
abbrev nNums : List Str := ["value", "one"]
theorem scNums : FnScope nNums ["value"] (defScope sIsNumbers) := ⟨rfl, rfl, rfl, by decide +kernel, rfl, by decide +kernel, by decide +kernel⟩
/-- of what is no list or tuple | of a list | of a tuple -/
def spNumsO (K : PySem.W.Frag) : Sp := fun vs H Q _ => ∃ (v : V) (k : String), vs = [v] ∧ Knd K H v k ∧ k ≠ "list" ∧ k ≠ "tuple" ∧ ∀ H', Same H H' → Q (.bl false) H'
def spNumsL (K : PySem.W.Frag) : Sp := fun vs H Q _ => ∃ (a : Addr) (xs : List V) (kf : V → String), vs = [.ref a] ∧ Knd K H (.ref a) "list" ∧ SqL K H a xs ∧ xs.length ≤ 1000 ∧ (∀ x ∈ xs, Knd K H x (kf x)) ∧ ∀ H', Same H H' → Q (.bl (xs.all fun x => decide (kf x = "int"))) H'
def spNumsT (K : PySem.W.Frag) : Sp := fun vs H Q _ => ∃ (a : Addr) (xs : List V) (kf : V → String), vs = [.ref a] ∧ Knd K H (.ref a) "tuple" ∧ SqT K H a xs ∧ xs.length ≤ 1000 ∧ (∀ x ∈ xs, Knd K H x (kf x)) ∧ ∀ H', Same H H' → Q (.bl (xs.all fun x => decide (kf x = "int"))) H'
theorem all_map_bl (xs : List V) (g : V → Bool) : ((xs.map g).all id) = xs.all g := by
  rw [List.all_map]; rfl
theorem ok_numsO {f fI fL : Addr} {fd fdI fdL : FuncData} (F : Fun K "is_numbers" "is_numbers" sIsNumbers f fd) (T : Bi mg) (G : DefAt P w K mg base CX0 1 "is_integer" ["value"] (spIsInt K) fI fdI) (L : DefAt P w K mg base CX0 1 "is_list" ["value"] (spIsList K) fL fdL) : FnOk P w K mg base CX0 2 f fd ["value"] (spNumsO K) := by
  refine F.ok scNums (fun vs H Q E h => ?_) (fun cdv A outer s H vs Q E hr h => ?_)
  · obtain ⟨v, k, rfl, _⟩ := h
    rfl
  · refine ⟨_, pss_one (ps_ret (pe_and (pe_call L.ok hr rfl L.g L.kp L.b .nil pass0 (pa_cons (pv 0) pa_nil)) (pe_one (pe_callB (cr_all rfl) (by rfl) T.all (by decide +kernel) (pa_cons (pe_lc (own := [("one", 1)]) (g := gName 1) (tt := tYes) rfl scNums.nd (pi_list (pv 0))
      (blkOk_by (N := nNums) (sc := defScope sIsNumbers) (by decide +kernel)) (fun _ _ _ _ _ => pg_name (i := 1) scNums.nd rfl (Or.inl rfl)) (fun _ _ _ _ _ => pts_nil) (fun _ _ _ _ _ => pe_call G.ok hr rfl G.g G.kp G.b .nil pass0 (pa_cons (pv 1) pa_nil))) pa_nil))))), ?_⟩
    obtain ⟨v, k, rfl, hk, k1, k2, q⟩ := h
    exact ⟨_, rfl, v, k, rfl, hk, fun H' s1 => ⟨_, rfl, iteDF (fun z => z.elim k1 k2) (q H' s1)⟩⟩
theorem ok_numsL {f fI fL : Addr} {fd fdI fdL : FuncData} (F : Fun K "is_numbers" "is_numbers" sIsNumbers f fd) (T : Bi mg) (G : DefAt P w K mg base CX0 1 "is_integer" ["value"] (spIsInt K) fI fdI) (L : DefAt P w K mg base CX0 1 "is_list" ["value"] (spIsList K) fL fdL) : FnOk P w K mg base CX0 2 f fd ["value"] (spNumsL K) := by
  refine F.ok scNums (fun vs H Q E h => ?_) (fun cdv A outer s H vs Q E hr h => ?_)
  · obtain ⟨v, k, kf, rfl, _⟩ := h
    rfl
  · refine ⟨_, pss_one (ps_ret (pe_and (pe_call L.ok hr rfl L.g L.kp L.b .nil pass0 (pa_cons (pv 0) pa_nil)) (pe_one (pe_callB (cr_all rfl) (by rfl) T.all (by decide +kernel) (pa_cons (pe_lc (own := [("one", 1)]) (g := gName 1) (tt := tYes) rfl scNums.nd (pi_list (pv 0))
      (blkOk_by (N := nNums) (sc := defScope sIsNumbers) (by decide +kernel)) (fun _ _ _ _ _ => pg_name (i := 1) scNums.nd rfl (Or.inl rfl)) (fun _ _ _ _ _ => pts_nil) (fun _ _ _ _ _ => pe_call G.ok hr rfl G.g G.kp G.b .nil pass0 (pa_cons (pv 1) pa_nil))) pa_nil))))), ?_⟩
    obtain ⟨a, xs, kf, rfl, hk, hs, hl, hx, q⟩ := h
    refine ⟨_, rfl, _, "list", rfl, hk, fun H1 s1 => ⟨_, rfl, iteDT (.inl rfl) ?_⟩⟩
    refine ⟨_, rfl, a, rfl, ⟨_, s1.seq hs⟩, fun D hD => ?_⟩
    have hD0 := s1.free hD
    refine lc_list (K := K) (a := a) (xs := xs) (fun i H' => Same H H' ∧ H' D = some (.lst ((xs.take i).map fun x => V.bl (decide (kf x = "int"))))) ⟨s1.new hD, upd_same⟩ (fun i H' _ p => p.1.seq hs) ?_ ?_
    · rintro i x H' hi ⟨s2, h2⟩
      refine ⟨rfl, _, rfl, x, kf x, rfl, (hx x (List.mem_of_getElem? hi)).same s2, _, h2, (by rw [List.length_map, List.length_take]; exact sm (by omega)), s2.mut hD0, ?_⟩
      rw [upd_same, List.take_succ, hi, List.map_append]
      rfl
    · rintro H' ⟨s2, h2⟩
      rw [List.take_length] at h2
      refine ⟨D, xs.map fun x => decide (kf x = "int"), rfl, SqL.of (by rw [List.map_map]; exact h2), ?_⟩
      rw [all_map_bl]
      exact q H' s2
theorem ok_numsT {f fI fL : Addr} {fd fdI fdL : FuncData} (F : Fun K "is_numbers" "is_numbers" sIsNumbers f fd) (T : Bi mg) (G : DefAt P w K mg base CX0 1 "is_integer" ["value"] (spIsInt K) fI fdI) (L : DefAt P w K mg base CX0 1 "is_list" ["value"] (spIsList K) fL fdL) : FnOk P w K mg base CX0 2 f fd ["value"] (spNumsT K) := by
  refine F.ok scNums (fun vs H Q E h => ?_) (fun cdv A outer s H vs Q E hr h => ?_)
  · obtain ⟨v, k, kf, rfl, _⟩ := h
    rfl
  · refine ⟨_, pss_one (ps_ret (pe_and (pe_call L.ok hr rfl L.g L.kp L.b .nil pass0 (pa_cons (pv 0) pa_nil)) (pe_one (pe_callB (cr_all rfl) (by rfl) T.all (by decide +kernel) (pa_cons (pe_lc (own := [("one", 1)]) (g := gName 1) (tt := tYes) rfl scNums.nd (pi_tup (pv 0))
      (blkOk_by (N := nNums) (sc := defScope sIsNumbers) (by decide +kernel)) (fun _ _ _ _ _ => pg_name (i := 1) scNums.nd rfl (Or.inl rfl)) (fun _ _ _ _ _ => pts_nil) (fun _ _ _ _ _ => pe_call G.ok hr rfl G.g G.kp G.b .nil pass0 (pa_cons (pv 1) pa_nil))) pa_nil))))), ?_⟩
    obtain ⟨a, xs, kf, rfl, hk, hs, hl, hx, q⟩ := h
    refine ⟨_, rfl, _, "tuple", rfl, hk, fun H1 s1 => ⟨_, rfl, iteDT (.inr rfl) ?_⟩⟩
    refine ⟨_, rfl, a, rfl, ⟨_, s1.tup hs⟩, fun D hD => ?_⟩
    have hD0 := s1.free hD
    refine lc_tup (K := K) (a := a) (xs := xs) (fun i H' => Same H H' ∧ H' D = some (.lst ((xs.take i).map fun x => V.bl (decide (kf x = "int"))))) ⟨s1.new hD, upd_same⟩ (fun i H' _ p => p.1.tup hs) ?_ ?_
    · rintro i x H' hi ⟨s2, h2⟩
      refine ⟨rfl, _, rfl, x, kf x, rfl, (hx x (List.mem_of_getElem? hi)).same s2, _, h2, (by rw [List.length_map, List.length_take]; exact sm (by omega)), s2.mut hD0, ?_⟩
      rw [upd_same, List.take_succ, hi, List.map_append]
      rfl
    · rintro H' ⟨s2, h2⟩
      rw [List.take_length] at h2
      refine ⟨D, xs.map fun x => decide (kf x = "int"), rfl, SqL.of (by rw [List.map_map]; exact h2), ?_⟩
      rw [all_map_bl]
      exact q H' s2
end
end K
namespace K
open PySem L2 Rg
open Evl (pss_cut)
/-- the first that stands twice, behind those seen -/
def ft : List Int → List Int → Option Int
  | _, [] => none
  | seen, x :: xs => if x ∈ seen then some x else ft (seen ++ [x]) xs
def oV : Option Int → V
  | none => .non
  | some x => .int x
def seenK (l : List Int) : List (Key × V) := l.map fun k => (Sum.inl k, V.bl true)
theorem seen_val (l : List Int) (n : Int) : valV (seenK l) (Sum.inl n : Key) = if n ∈ l then some (.bl true) else none := by
  induction l with
  | nil => rfl
  | cons x l ih =>
    by_cases e : x = n
    · rw [if_pos (by rw [e]; exact List.mem_cons_self ..)]
      exact valV_pos (p := ((Sum.inl x : Key), V.bl true)) (by rw [e])
    · have h1 : valV (seenK (x :: l)) (Sum.inl n : Key) = valV (seenK l) (Sum.inl n) := valV_neg (p := ((Sum.inl x : Key), V.bl true)) (fun z => e (Sum.inl.inj z))
      rw [h1, ih]
      by_cases f : n ∈ l
      · rw [if_pos f, if_pos (List.mem_cons_of_mem _ f)]
      · rw [if_neg f, if_neg fun z => (List.mem_cons.mp z).elim (fun q => e q.symm) f]
theorem seen_len (l : List Int) : (seenK l).length = l.length := List.length_map ..
theorem seen_put {l : List Int} {n : Int} (h : n ∉ l) : putK (seenK l) (Sum.inl n : Key) (.bl true) = seenK (l ++ [n]) := by
  rw [putK_new _ (by rw [seen_val, if_neg h])]
  simp [seenK]
theorem ft_step {ns : List Int} {i : Nat} {z : Int} (h : ns[i]? = some z) : ft (ns.take i) (ns.drop i) = if z ∈ ns.take i then some z else ft (ns.take (i + 1)) (ns.drop (i + 1)) := by
  obtain ⟨hi, rfl⟩ := List.getElem?_eq_some_iff.mp h
  rw [List.drop_eq_getElem_cons hi, ← take_snoc h]
  rfl
section
variable {P : Program} {w : World} {K : PySem.W.Frag} {mg : Str → Option Value} {base : Heap}
/-! ### fixed, of an int -/
def spFixed : Sp := fun vs H Q _ => ∃ i : Int, vs = [.int i] ∧ ∀ H', Same H H' → Q (.int i) H'
theorem scFixed : FnScope ["value"] ["value"] (defScope sFixed) := ⟨rfl, rfl, rfl, by decide +kernel, rfl, by decide +kernel, by decide +kernel⟩
theorem ok_fixed {f : Addr} {fd : FuncData} (F : Fun K "fixed" "fixed" sFixed f fd) (T : Bi mg) : FnOk P w K mg base CX0 1 f fd ["value"] spFixed := by
  refine F.ok scFixed (fun vs H Q E h => ?_) (fun cdv A outer s H vs Q E hr h => ?_)
  · obtain ⟨v, rfl, _⟩ := h
    rfl
  · refine ⟨_, pss_cons (ps_if (pt_val (pe_callB call_isiT (by rfl) T.isinstance (by decide +kernel) (pa_cons (pv 0) (pa_cons (pe_tup (pa_cons (pe_bltn (v := .ty "list") (u := .type "list") (by rfl) T.list (by decide +kernel) rfl) (pa_cons (pe_bltn (v := .ty "tuple") (u := .type "tuple") (by rfl) T.tuple (by decide +kernel) rfl) pa_nil))) pa_nil)))) (pss_one ps_never) pss_nil)
      (pss_one (ps_ret (pv 0))), ?_⟩
    obtain ⟨i, rfl, q⟩ := h
    refine ⟨_, rfl, (by show 2 ≤ sizeLine; decide), fun p hp => ?_⟩
    have s1 : Same H (upd H p (.tup [.ty "list", .ty "tuple"])) := (Same.refl H).new hp
    refine ⟨.int i, p, [.ty "list", .ty "tuple"], .type "int", _, false, rfl, upd_same, .cons (.ty _) (.cons (.ty _) .nil), .base (.int i), kitAny_cons (kit_ty (kit_list "int" (by decide))) (fun e => kitAny_cons (b := false) (r := false) (kit_ty (kit_tuple "int" (by decide))) (fun _ => kitAny_nil) fun e' => nomatch e') (fun e => nomatch e), _, rfl, iteF ?_⟩
    exact ⟨_, rfl, q _ s1⟩
/-! ### twice_at, first_twice, of ints: a list | a tuple -/
def tatQ (ns : List Int) (H : Hp) (Q : VK) : Prop := ∀ H', Same H H' → (ft [] ns = none → Q .non H') ∧ ∀ (i : Nat) (z : Int), ns[i]? = some z → ft [] ns = some z → Q (.int (i : Nat)) H'
def spTaL (K : PySem.W.Frag) : Sp := fun vs H Q _ => ∃ (a : Addr) (ns : List Int), vs = [.ref a] ∧ SqL K H a (ns.map V.int) ∧ ns.length ≤ 1000 ∧ tatQ ns H Q
def spTaT (K : PySem.W.Frag) : Sp := fun vs H Q _ => ∃ (a : Addr) (ns : List Int), vs = [.ref a] ∧ SqT K H a (ns.map V.int) ∧ ns.length ≤ 1000 ∧ tatQ ns H Q
abbrev nTa : List Str := ["values", "seen", "at", "value", "key"]
theorem scTa : FnScope nTa ["values"] (defScope sTwiceAt) := ⟨rfl, rfl, rfl, by decide +kernel, rfl, by decide +kernel, by decide +kernel⟩
theorem ok_taL {f fX : Addr} {fd fdX : FuncData} (F : Fun K "twice_at" "twice_at" sTwiceAt f fd) (T : Bi mg) (G : DefAt P w K mg base CX0 1 "fixed" ["value"] spFixed fX fdX) : FnOk P w K mg base CX0 2 f fd ["values"] (spTaL K) := by
  refine F.ok scTa (fun vs H Q E h => ?_) (fun cdv A outer s H vs Q E hr h => ?_)
  · obtain ⟨a, ns, rfl, _⟩ := h
    rfl
  · have hu := hu_of hr
    have nd := scTa.nd
    refine ⟨_, pss_cons (ps_set (i := 1) nd rfl (Or.inl rfl) pe_dnewK)
      (pss_cons (ps_for PassesOwn.never rfl (pi_enum (by rfl) T.enumerate (pa_cons (pv 0) pa_nil)) (pg_tup rfl (pgs_cons (pg_name (i := 2) nd rfl (Or.inl rfl)) (pgs_cons (pg_name (i := 3) nd rfl (Or.inl rfl)) pgs_nil)))
        (pss_cons (ps_set (i := 4) nd rfl (Or.inl rfl) (pe_call G.ok hr rfl G.g G.kp G.b .nil pass0 (pa_cons (pv 3) pa_nil)))
        (pss_cons (ps_if (pt_cmp (pc_din hu (pv 4) (pv 1))) (pss_one (ps_ret (pv 2))) pss_nil)
        (pss_one (ps_dput hu (pv 1) (pv 4) pe_bl rfl)))))
      (pss_one (ps_ret pe_non))), ?_⟩
    obtain ⟨a, ns, rfl, hs, hl, q⟩ := h
    intro d hd
    refine ⟨_, rfl, a, _, rfl, ((Same.refl H).new hd).seq hs, ?_⟩
    refine for_it walk_enum (fun i σ H' => ∃ (z1 v k : Option V), σ = [some (.ref a), some (.ref d), z1, v, k] ∧ Same H H' ∧ H' d = some (.dK (seenK (ns.take i))) ∧ ft [] ns = ft (ns.take i) (ns.drop i))
      ⟨none, none, none, rfl, (Same.refl H).new hd, upd_same, rfl⟩ (fun i σ H' _ ⟨_, _, _, _, s, _⟩ => s.seq hs) ?_ ?_
    · rintro i x σ H1 H2 hi ⟨z1, v, k, rfl, s1, h1, e1⟩ ⟨U, x1, x2, rfl, hU, rfl, ex1, ex2⟩
      obtain rfl := (Option.some.inj ex1).symm
      obtain ⟨z, hz, rfl⟩ := int_at ex2
      rw [List.length_map] at hi
      rw [ft_step hz] at e1
      have s2 : Same H1 (upd H1 U (.tup [.int (i : Nat), .int z])) := (Same.refl H1).new hU
      refine ⟨U, _, rfl, .inl (.inl upd_same), rfl, _, _, rfl, _, _, rfl, rfl, ?_⟩
      refine ⟨_, rfl, z, rfl, fun H3 s3 => ?_⟩
      have h3 := s3 _ _ (s2 _ _ h1)
      have s13 := s1.trans (s2.trans s3)
      refine ⟨_, rfl, _, rfl, d, _, rfl, DGet.k (k := Sum.inl z) h3, _, rfl, ?_⟩
      rw [seen_val]
      by_cases c : z ∈ ns.take i
      · rw [if_pos c] at e1 ⊢
        refine iteT ?_
        exact ⟨_, rfl, (q H3 s13).2 i z hz e1⟩
      · rw [if_neg c] at e1 ⊢
        refine iteF ?_
        refine ⟨_, rfl, _, rfl, d, _, rfl, DPut.k (k := Sum.inl z) h3 (by rw [seen_len, List.length_take]; exact sm (by omega)), ?_⟩
        rw [seen_put c, take_snoc hz]
        exact ⟨_, _, _, rfl, s13.mut hd, upd_same, e1⟩
    · rintro σ H' ⟨z1, v, k, rfl, s1, h1, e1⟩
      rw [List.length_map, List.drop_length] at e1
      exact (q H' s1).1 e1
theorem ok_taT {f fX : Addr} {fd fdX : FuncData} (F : Fun K "twice_at" "twice_at" sTwiceAt f fd) (T : Bi mg) (G : DefAt P w K mg base CX0 1 "fixed" ["value"] spFixed fX fdX) : FnOk P w K mg base CX0 2 f fd ["values"] (spTaT K) := by
  refine F.ok scTa (fun vs H Q E h => ?_) (fun cdv A outer s H vs Q E hr h => ?_)
  · obtain ⟨a, ns, rfl, _⟩ := h
    rfl
  · have hu := hu_of hr
    have nd := scTa.nd
    refine ⟨_, pss_cons (ps_set (i := 1) nd rfl (Or.inl rfl) pe_dnewK)
      (pss_cons (ps_for PassesOwn.never rfl (pi_enumT (by rfl) T.enumerate (pa_cons (pv 0) pa_nil)) (pg_tup rfl (pgs_cons (pg_name (i := 2) nd rfl (Or.inl rfl)) (pgs_cons (pg_name (i := 3) nd rfl (Or.inl rfl)) pgs_nil)))
        (pss_cons (ps_set (i := 4) nd rfl (Or.inl rfl) (pe_call G.ok hr rfl G.g G.kp G.b .nil pass0 (pa_cons (pv 3) pa_nil)))
        (pss_cons (ps_if (pt_cmp (pc_din hu (pv 4) (pv 1))) (pss_one (ps_ret (pv 2))) pss_nil)
        (pss_one (ps_dput hu (pv 1) (pv 4) pe_bl rfl)))))
      (pss_one (ps_ret pe_non))), ?_⟩
    obtain ⟨a, ns, rfl, hs, hl, q⟩ := h
    intro d hd
    refine ⟨_, rfl, a, _, rfl, ((Same.refl H).new hd).tup hs, ?_⟩
    refine for_it walk_enumT (fun i σ H' => ∃ (z1 v k : Option V), σ = [some (.ref a), some (.ref d), z1, v, k] ∧ Same H H' ∧ H' d = some (.dK (seenK (ns.take i))) ∧ ft [] ns = ft (ns.take i) (ns.drop i))
      ⟨none, none, none, rfl, (Same.refl H).new hd, upd_same, rfl⟩ (fun i σ H' _ ⟨_, _, _, _, s, _⟩ => s.tup hs) ?_ ?_
    · rintro i x σ H1 H2 hi ⟨z1, v, k, rfl, s1, h1, e1⟩ ⟨U, x1, x2, rfl, hU, rfl, ex1, ex2⟩
      obtain rfl := (Option.some.inj ex1).symm
      obtain ⟨z, hz, rfl⟩ := int_at ex2
      rw [List.length_map] at hi
      rw [ft_step hz] at e1
      have s2 : Same H1 (upd H1 U (.tup [.int (i : Nat), .int z])) := (Same.refl H1).new hU
      refine ⟨U, _, rfl, .inl (.inl upd_same), rfl, _, _, rfl, _, _, rfl, rfl, ?_⟩
      refine ⟨_, rfl, z, rfl, fun H3 s3 => ?_⟩
      have h3 := s3 _ _ (s2 _ _ h1)
      have s13 := s1.trans (s2.trans s3)
      refine ⟨_, rfl, _, rfl, d, _, rfl, DGet.k (k := Sum.inl z) h3, _, rfl, ?_⟩
      rw [seen_val]
      by_cases c : z ∈ ns.take i
      · rw [if_pos c] at e1 ⊢
        refine iteT ?_
        exact ⟨_, rfl, (q H3 s13).2 i z hz e1⟩
      · rw [if_neg c] at e1 ⊢
        refine iteF ?_
        refine ⟨_, rfl, _, rfl, d, _, rfl, DPut.k (k := Sum.inl z) h3 (by rw [seen_len, List.length_take]; exact sm (by omega)), ?_⟩
        rw [seen_put c, take_snoc hz]
        exact ⟨_, _, _, rfl, s13.mut hd, upd_same, e1⟩
    · rintro σ H' ⟨z1, v, k, rfl, s1, h1, e1⟩
      rw [List.length_map, List.drop_length] at e1
      exact (q H' s1).1 e1
def spTwL (K : PySem.W.Frag) : Sp := fun vs H Q _ => ∃ (a : Addr) (ns : List Int), vs = [.ref a] ∧ SqL K H a (ns.map V.int) ∧ ns.length ≤ 1000 ∧ ∀ H', Same H H' → Q (oV (ft [] ns)) H'
def spTwT (K : PySem.W.Frag) : Sp := fun vs H Q _ => ∃ (a : Addr) (ns : List Int), vs = [.ref a] ∧ SqT K H a (ns.map V.int) ∧ ns.length ≤ 1000 ∧ ∀ H', Same H H' → Q (oV (ft [] ns)) H'
theorem ft_mem : ∀ (xs seen : List Int) (z : Int), ft seen xs = some z → z ∈ xs
  | [], seen, z, h => by cases h
  | x :: xs, seen, z, h => by
    unfold ft at h
    by_cases c : x ∈ seen
    · rw [if_pos c] at h
      rw [Option.some.inj h]
      exact List.mem_cons_self ..
    · rw [if_neg c] at h
      exact List.mem_cons_of_mem _ (ft_mem xs _ z h)
abbrev nTw : List Str := ["values", "at"]
theorem scTw : FnScope nTw ["values"] (defScope sFirstTwice) := ⟨rfl, rfl, rfl, by decide +kernel, rfl, by decide +kernel, by decide +kernel⟩
theorem ok_twL {f fX fA : Addr} {fd fdX fdA : FuncData} (F : Fun K "first_twice" "first_twice" sFirstTwice f fd) (G : DefAt P w K mg base CX0 1 "fixed" ["value"] spFixed fX fdX) (A' : DefAt P w K mg base CX0 2 "twice_at" ["values"] (spTaL K) fA fdA) : FnOk P w K mg base CX0 3 f fd ["values"] (spTwL K) := by
  refine F.ok scTw (fun vs H Q E h => ?_) (fun cdv A outer s H vs Q E hr h => ?_)
  · obtain ⟨a, ns, rfl, _⟩ := h
    rfl
  · have nd := scTw.nd
    refine ⟨_, pss_cons (ps_set (i := 1) nd rfl (Or.inl rfl) (pe_call A'.ok hr rfl A'.g A'.kp A'.b .nil pass0 (pa_cons (pv 0) pa_nil)))
      (pss_one (ps_ret (pe_ifExp (pt_cmpR op_isN (pv 1) pe_non (nomark _)) pe_non (pe_call G.ok (hr.mono (by decide)) rfl G.g G.kp G.b .nil pass0 (pa_cons (pe_ix (r := rIxL K) ix_list (pv 0) (pv 1) (fun _ _ => rfl)) pa_nil))))), ?_⟩
    obtain ⟨a, ns, rfl, hs, hl, q⟩ := h
    refine ⟨_, rfl, a, ns, rfl, hs, hl, fun H1 s1 => ⟨fun e => ?_, fun i z hz e => ?_⟩⟩
    · have qq := q H1 s1
      rw [e] at qq
      exact ⟨_, rfl, rfl, _, rfl, iteT qq⟩
    · refine ⟨_, rfl, rfl, _, rfl, iteF ?_⟩
      refine ⟨_, rfl, _, rfl, a, _, _, _, rfl, rfl, s1.seq hs, atI_nat (by rw [List.getElem?_map, hz]; rfl), z, rfl, fun H2 s2 => ?_⟩
      have qq := q H2 (s1.trans s2)
      rw [e] at qq
      exact qq
theorem ok_twT {f fX fA : Addr} {fd fdX fdA : FuncData} (F : Fun K "first_twice" "first_twice" sFirstTwice f fd) (G : DefAt P w K mg base CX0 1 "fixed" ["value"] spFixed fX fdX) (A' : DefAt P w K mg base CX0 2 "twice_at" ["values"] (spTaT K) fA fdA) : FnOk P w K mg base CX0 3 f fd ["values"] (spTwT K) := by
  refine F.ok scTw (fun vs H Q E h => ?_) (fun cdv A outer s H vs Q E hr h => ?_)
  · obtain ⟨a, ns, rfl, _⟩ := h
    rfl
  · have nd := scTw.nd
    refine ⟨_, pss_cons (ps_set (i := 1) nd rfl (Or.inl rfl) (pe_call A'.ok hr rfl A'.g A'.kp A'.b .nil pass0 (pa_cons (pv 0) pa_nil)))
      (pss_one (ps_ret (pe_ifExp (pt_cmpR op_isN (pv 1) pe_non (nomark _)) pe_non (pe_call G.ok (hr.mono (by decide)) rfl G.g G.kp G.b .nil pass0 (pa_cons (pe_ix (r := rIxT K) ix_tup (pv 0) (pv 1) (fun _ _ => rfl)) pa_nil))))), ?_⟩
    obtain ⟨a, ns, rfl, hs, hl, q⟩ := h
    refine ⟨_, rfl, a, ns, rfl, hs, hl, fun H1 s1 => ⟨fun e => ?_, fun i z hz e => ?_⟩⟩
    · have qq := q H1 s1
      rw [e] at qq
      exact ⟨_, rfl, rfl, _, rfl, iteT qq⟩
    · refine ⟨_, rfl, rfl, _, rfl, iteF ?_⟩
      refine ⟨_, rfl, _, rfl, a, _, _, _, rfl, rfl, s1.tup hs, atI_nat (by rw [List.getElem?_map, hz]; rfl), z, rfl, fun H2 s2 => ?_⟩
      have qq := q H2 (s1.trans s2)
      rw [e] at qq
      exact qq
end
end K
namespace K
open PySem L2 Rg
open Evl (pss_cut)
section
variable {P : Program} {w : World} {K : PySem.W.Frag} {mg : Str → Option Value} {base : Heap}
/-! ### errors with one field -/
def spIni (K : PySem.W.Frag) (f : Str) : Sp := fun vs H Q _ => ∃ (a C : Addr) (v : V), vs = [.ref a, v] ∧ OexC K C ∧ PySem.W.findIn K (.ref C) f = some none ∧ H a = some (exo a C none) ∧
  ∀ d, H d = none → d ≠ a → Q .non (upd (upd H d (exd d [(f, v)])) a (exo a C (some d)))
theorem scBadLot : FnScope ["self", "part"] ["self", "part"] (defScope sBadLotInit) := ⟨rfl, rfl, rfl, by decide +kernel, rfl, by decide +kernel, by decide +kernel⟩
theorem scMissing : FnScope ["self", "value"] ["self", "value"] (defScope sMissingInit) := ⟨rfl, rfl, rfl, by decide +kernel, rfl, by decide +kernel, by decide +kernel⟩
theorem scTwice : FnScope ["self", "value"] ["self", "value"] (defScope sTwiceInit) := ⟨rfl, rfl, rfl, by decide +kernel, rfl, by decide +kernel, by decide +kernel⟩
theorem ok_badLotI {f : Addr} {fd : FuncData} (F : Fun K "__init__" "BadLot.__init__" sBadLotInit f fd) : FnOk P w K mg base CX0 1 f fd ["self", "part"] (spIni K "part") := by
  refine F.ok scBadLot (fun vs H Q E h => ?_) (fun cdv A outer s H vs Q E hr h => ?_)
  · obtain ⟨a, C, v, rfl, _⟩ := h
    rfl
  · refine ⟨_, pss_one (ps_ost (pv 0) (pv 1)), ?_⟩
    obtain ⟨a, C, v, rfl, o, n, ha, k⟩ := h
    exact ⟨_, rfl, _, rfl, a, C, rfl, o, n, .inl ⟨ha, fun d h1 h2 => k d h1 h2⟩⟩
theorem ok_missingI {f : Addr} {fd : FuncData} (F : Fun K "__init__" "Missing.__init__" sMissingInit f fd) : FnOk P w K mg base CX0 1 f fd ["self", "value"] (spIni K "value") := by
  refine F.ok scMissing (fun vs H Q E h => ?_) (fun cdv A outer s H vs Q E hr h => ?_)
  · obtain ⟨a, C, v, rfl, _⟩ := h
    rfl
  · refine ⟨_, pss_one (ps_ost (pv 0) (pv 1)), ?_⟩
    obtain ⟨a, C, v, rfl, o, n, ha, k⟩ := h
    exact ⟨_, rfl, _, rfl, a, C, rfl, o, n, .inl ⟨ha, fun d h1 h2 => k d h1 h2⟩⟩
theorem ok_twiceI {f : Addr} {fd : FuncData} (F : Fun K "__init__" "Twice.__init__" sTwiceInit f fd) : FnOk P w K mg base CX0 1 f fd ["self", "value"] (spIni K "value") := by
  refine F.ok scTwice (fun vs H Q E h => ?_) (fun cdv A outer s H vs Q E hr h => ?_)
  · obtain ⟨a, C, v, rfl, _⟩ := h
    rfl
  · refine ⟨_, pss_one (ps_ost (pv 0) (pv 1)), ?_⟩
    obtain ⟨a, C, v, rfl, o, n, ha, k⟩ := h
    exact ⟨_, rfl, _, rfl, a, C, rfl, o, n, .inl ⟨ha, fun d h1 h2 => k d h1 h2⟩⟩
/-- the class x of errors with the field f, at C, its __init__ at fI -/
structure ErrAt (P : Program) (w : World) (K : PySem.W.Frag) (mg : Str → Option Value) (base : Heap) (x f : Str) (C fI : Addr) (fdI : FuncData) : Prop where
  oex : OexC K C
  ic : PySem.W.findIn K (.ref C) "__init__" = some (some (.ref fI))
  ti : PySem.W.typeIn K (.ref fI) = some (.type "function")
  nf : PySem.W.findIn K (.ref C) f = some none
  g : mg x = some (.ref C)
  b : Binds K fdI ["self", f] []
  ok : FnOk P w K mg base CX0 1 fI fdI ["self", f] (spIni K f)
/-- an error of the class at C with the field f holding v leaves; what was tracked stands -/
def Errs (E : XK) (C : Addr) (f : Str) (v : V) (H : Hp) : Prop := ∀ (d : Addr) (H' : Hp), Same H H' → H d = none → H' d = some (.xd [(f, v)]) → E (.ref C) (some d) H'
theorem Errs.later {E : XK} {C : Addr} {f : Str} {v : V} {H H1 : Hp} (h : Errs E C f v H) (s : Same H H1) : Errs E C f v H1 := fun d H' s' n e => h d H' (s.trans s') (s.free n) e
/-- the making of such an error, as a raise asks it -/
theorem err_made {E : XK} {C : Addr} {f : Str} {v : V} {H : Hp} (o : OexC K C) (n : PySem.W.findIn K (.ref C) f = some none) (h : Errs E C f v H) :
    ([v] : List V).length ≤ 1000 ∧ ∀ a, H a = none → spIni K f (.ref a :: ([v] ++ [])) (upd H a (exo a C none))
      (fun u H2 => u = .non ∧ ∃ (d : Addr) (fs : List (Str × V)), H2 a = some (exo a C (some d)) ∧ H2 d = some (exd d fs) ∧ H d = none ∧ E (.ref C) (some d) (upd (del H2 a) d (.xd fs))) (fun _ _ _ => False) := by
  refine ⟨(by show 1 ≤ 1000; decide), fun a ha => ⟨a, C, v, rfl, o, n, upd_same, fun d hd hda => ⟨rfl, d, [(f, v)], upd_same, by rw [upd_ne hda, upd_same], ?_, ?_⟩⟩⟩
  · rw [upd_ne hda] at hd
    exact hd
  · rw [upd_ne hda] at hd
    refine h d _ (fun b u e => ?_) hd upd_same
    have hba : b ≠ a := ne_of_none e ha
    have hbd : b ≠ d := ne_of_none e hd
    rw [upd_ne hbd, del_ne hba, upd_ne hba, upd_ne hbd, upd_ne hba]
    exact e
/-! ### want_bar -/
def spWantBar (C : Addr) : Sp := fun vs H Q E => ∃ (v many : Int), vs = [.int v, .int many] ∧ ((0 ≤ v ∧ v < many ∧ ∀ H', Same H H' → Q .non H') ∨ (¬ (0 ≤ v ∧ v < many) ∧ Errs E C "value" (.int v) H))
theorem scWantBar : FnScope ["value", "many"] ["value", "many"] (defScope sWantBar) := ⟨rfl, rfl, rfl, by decide +kernel, rfl, by decide +kernel, by decide +kernel⟩
theorem ok_wantBar {f fW C fI : Addr} {fd fdW fdI : FuncData} (F : Fun K "want_bar" "want_bar" sWantBar f fd) (W : DefAt P w K mg base CX0 2 "is_within" ["value", "least", "most"] spWithin fW fdW) (B : ErrAt P w K mg base "NoBar" "value" C fI fdI) :
    FnOk P w K mg base (L2.CX P w) 3 f fd ["value", "many"] (spWantBar C) := by
  refine F.okX scWantBar (fun vs H Q E h => ?_) (fun cdv A outer s H vs Q E hr h => ?_)
  · obtain ⟨v, many, rfl, _⟩ := h
    rfl
  · refine ⟨_, pss_one (ps_if (pt_not (pt_val (pe_call W.ok hr rfl W.g W.kp W.b .nil pass0 (pa_cons (pv 0) (pa_cons pe_int (pa_cons (pe_op op_sub (pv 1) pe_int) pa_nil))))))
      (pss_one (ps_raise rfl (takes_of rfl rfl rfl rfl) (pmk_oex B.oex B.ic B.ti B.ok hr B.b .nil pass0 rfl B.g (pa_cons (pv 0) pa_nil)))) pss_nil), ?_⟩
    obtain ⟨v, many, rfl, h⟩ := h
    refine ⟨_, rfl, _, rfl, _, _, rfl, rfl, v, 0, many - 1, rfl, _, rfl, ?_⟩
    rcases h with ⟨h0, h1, q⟩ | ⟨hn, q⟩
    · refine iteBF ?_ (q H (Same.refl H))
      simp only [decide_eq_true h0, decide_eq_true (show v ≤ many - 1 by omega)]
      rfl
    · refine iteBT ?_ ?_
      · have e : (decide (0 ≤ v) && decide (v ≤ many - 1)) = false := by
          cases c : (decide (0 ≤ v) && decide (v ≤ many - 1)) with
          | false => rfl
          | true =>
            simp only [Bool.and_eq_true, decide_eq_true_eq] at c
            exact absurd ⟨c.1, by omega⟩ hn
        show (!(decide (0 ≤ v) && decide (v ≤ many - 1))) = true
        rw [e]
        rfl
      · exact ⟨_, rfl, err_made B.oex B.nf q⟩
end
end K
namespace K
open PySem L2 Rg
open Evl (pss_cut)
/-- what becomes of a lot that is passed -/
inductive Lr where
  | bad | bar (b : Int) | twice (b : Int) | ok (ns : List Int)
def isBar (many b : Int) : Bool := decide (0 ≤ b) && decide (b < many)
def res (many : Int) (ns : List Int) : Lr := match ns.find? (fun b => !isBar many b) with
  | some b => .bar b
  | none => match ft [] ns with
    | some b => .twice b
    | none => .ok ns
theorem isBar_iff {many b : Int} : isBar many b = true ↔ 0 ≤ b ∧ b < many := by
  unfold isBar
  rw [Bool.and_eq_true, decide_eq_true_eq, decide_eq_true_eq]
theorem res_bar {many b : Int} {ns : List Int} {i : Nat} (h : ∀ x ∈ ns.take i, isBar many x = true) (hb : ns[i]? = some b) (nb : ¬ isBar many b = true) : res many ns = .bar b := by
  have e : ns.find? (fun b => !isBar many b) = some b := by
    obtain ⟨hi, rfl⟩ := List.getElem?_eq_some_iff.mp hb
    have e1 : ns = ns.take i ++ ns[i] :: ns.drop (i + 1) := by rw [List.getElem_cons_drop, List.take_append_drop]
    have e2 : (ns.take i).find? (fun b => !isBar many b) = none := List.find?_eq_none.mpr fun x hx => by rw [h x hx]; decide
    have e3 : ns.find? (fun b => !isBar many b) = (ns.take i ++ ns[i] :: ns.drop (i + 1)).find? (fun b => !isBar many b) := congrArg _ e1
    rw [e3, List.find?_append, e2, List.find?_cons]
    have e4 : isBar many ns[i] = false := by
      cases q : isBar many ns[i] with
      | false => rfl
      | true => exact absurd q nb
    rw [e4]
    rfl
  unfold res
  rw [e]
theorem res_all {many : Int} {ns : List Int} (h : ∀ x ∈ ns, isBar many x = true) : res many ns = match ft [] ns with | some b => .twice b | none => .ok ns := by
  have e : ns.find? (fun b => !isBar many b) = none := List.find?_eq_none.mpr fun x hx => by rw [h x hx]; decide
  unfold res
  rw [e]
section
variable {P : Program} {w : World} {K : PySem.W.Frag} {mg : Str → Option Value} {base : Heap}
/-- where the three errors stand -/
structure Cs where
  l : Addr
  n : Addr
  t : Addr
def LotFin (E : XK) (c : Cs) (part : Str) (H : Hp) (r : Lr) (k : List Int → Prop) : Prop := match r with
  | .bad => Errs E c.l "part" (.str part) H
  | .bar b => Errs E c.n "value" (.int b) H
  | .twice b => Errs E c.t "value" (.int b) H
  | .ok ns => k ns
def spWLO (K : PySem.W.Frag) (c : Cs) : Sp := fun vs H Q E => ∃ (v : V) (k : String) (many : Int) (part : Str), vs = [v, .int many, .str part] ∧ Knd K H v k ∧ k ≠ "list" ∧ k ≠ "tuple" ∧ Errs E c.l "part" (.str part) H
def spWLL (K : PySem.W.Frag) (c : Cs) : Sp := fun vs H Q E => ∃ (a : Addr) (xs : List V) (kf : V → String) (many : Int) (part : Str), vs = [.ref a, .int many, .str part] ∧ Knd K H (.ref a) "list" ∧ SqL K H a xs ∧ xs.length ≤ 1000 ∧ (∀ x ∈ xs, Knd K H x (kf x)) ∧
  (((xs.all fun x => decide (kf x = "int")) = false ∧ Errs E c.l "part" (.str part) H) ∨
   ∃ ns, xs = ns.map V.int ∧ (xs.all fun x => decide (kf x = "int")) = true ∧ LotFin E c part H (res many ns) fun ns => ∀ (p : Addr) (ms : List Int) (H' : Hp), ms.Perm ns → Same H H' → H' p = some (.tup (ms.map V.int)) → Q (.ref p) H')
def spWLT (K : PySem.W.Frag) (c : Cs) : Sp := fun vs H Q E => ∃ (a : Addr) (ns : List Int) (many : Int) (part : Str), vs = [.ref a, .int many, .str part] ∧ Knd K H (.ref a) "tuple" ∧ SqT K H a (ns.map V.int) ∧ ns.length ≤ 1000 ∧
  LotFin E c part H (res many ns) fun ns => ∀ (p : Addr) (ms : List Int) (H' : Hp), ms.Perm ns → Same H H' → H' p = some (.tup (ms.map V.int)) → Q (.ref p) H'
abbrev nWL : List Str := ["value", "many", "part", "bar", "twice"]
theorem scWL : FnScope nWL ["value", "many", "part"] (defScope sWantLot) := ⟨rfl, rfl, rfl, by decide +kernel, rfl, by decide +kernel, by decide +kernel⟩
theorem ok_wlO {f fN fB fT : Addr} {c : Cs} {fL fTI : Addr} {fd fdN fdB fdT fdL fdTI : FuncData} (F : Fun K "want_lot" "want_lot" sWantLot f fd) (T : Bi mg) (N : DefAt P w K mg base CX0 2 "is_numbers" ["value"] (spNumsO K) fN fdN) (B : DefAt P w K mg base (L2.CX P w) 3 "want_bar" ["value", "many"] (spWantBar c.n) fB fdB)
    (Tw : DefAt P w K mg base CX0 3 "first_twice" ["values"] (spTwL K) fT fdT) (L : ErrAt P w K mg base "BadLot" "part" c.l fL fdL) (TI : ErrAt P w K mg base "Twice" "value" c.t fTI fdTI) : FnOk P w K mg base (L2.CX P w) 4 f fd ["value", "many", "part"] (spWLO K c) := by
  refine F.okX scWL (fun vs H Q E h => ?_) (fun cdv A outer s H vs Q E hr h => ?_)
  · obtain ⟨v, k, many, part, rfl, _⟩ := h
    rfl
  · have nd := scWL.nd
    have hr2 : Room 2 (A.deeper (PyProof.Rows.envOfC "want_lot" (defScope sWantLot) s.heap.objs.size f cdv)) := hr.mono (by decide)
    refine ⟨_, pss_cons (ps_if (pt_not (pt_val (pe_call N.ok hr2 rfl N.g N.kp N.b .nil pass0 (pa_cons (pv 0) pa_nil)))) (pss_one (ps_raise rfl (takes_of rfl rfl rfl rfl) (pmk_oex L.oex L.ic L.ti L.ok hr2 L.b .nil pass0 rfl L.g (pa_cons (pv 2) pa_nil)))) pss_nil) pss_never, ?_⟩
    obtain ⟨v, k, many, part, rfl, hk, k1, k2, q⟩ := h
    exact ⟨_, rfl, v, k, rfl, hk, k1, k2, fun H' s1 => ⟨_, rfl, iteT ⟨_, rfl, err_made L.oex L.nf (q.later s1)⟩⟩⟩
theorem ok_wlL {f fN fB fT : Addr} {c : Cs} {fL fTI : Addr} {fd fdN fdB fdT fdL fdTI : FuncData} (F : Fun K "want_lot" "want_lot" sWantLot f fd) (T : Bi mg) (N : DefAt P w K mg base CX0 2 "is_numbers" ["value"] (spNumsL K) fN fdN) (B : DefAt P w K mg base (L2.CX P w) 3 "want_bar" ["value", "many"] (spWantBar c.n) fB fdB)
    (Tw : DefAt P w K mg base CX0 3 "first_twice" ["values"] (spTwL K) fT fdT) (L : ErrAt P w K mg base "BadLot" "part" c.l fL fdL) (TI : ErrAt P w K mg base "Twice" "value" c.t fTI fdTI) : FnOk P w K mg base (L2.CX P w) 4 f fd ["value", "many", "part"] (spWLL K c) := by
  refine F.okX scWL (fun vs H Q E h => ?_) (fun cdv A outer s H vs Q E hr h => ?_)
  · obtain ⟨a, xs, kf, many, part, rfl, _⟩ := h
    rfl
  · have nd := scWL.nd
    have hr2 : Room 2 (A.deeper (PyProof.Rows.envOfC "want_lot" (defScope sWantLot) s.heap.objs.size f cdv)) := hr.mono (by decide)
    refine ⟨_, pss_cons (ps_if (pt_not (pt_val (pe_call N.ok hr2 rfl N.g N.kp N.b .nil pass0 (pa_cons (pv 0) pa_nil)))) (pss_one (ps_raise rfl (takes_of rfl rfl rfl rfl) (pmk_oex L.oex L.ic L.ti L.ok hr2 L.b .nil pass0 rfl L.g (pa_cons (pv 2) pa_nil)))) pss_nil)
      (pss_cons (ps_for (passes_of rfl) rfl (pi_list (pv 0)) (pg_name (i := 3) nd rfl (Or.inl rfl)) (pss_one (ps_expr (pe_call B.ok hr rfl B.g B.kp B.b .nil (passes_call (takes_of rfl rfl rfl rfl) (fun _ _ _ _ h => h)) (pa_cons (pv 3) (pa_cons (pv 1) pa_nil))))))
      (pss_cons (ps_set (i := 4) nd rfl (Or.inl rfl) (pe_call Tw.ok hr rfl Tw.g Tw.kp Tw.b .nil pass0 (pa_cons (pv 0) pa_nil)))
      (pss_cons (ps_if (pt_cmpR op_notN (pv 4) pe_non (nomark _)) (pss_one (ps_raise rfl (takes_of rfl rfl rfl rfl) (pmk_oex TI.oex TI.ic TI.ti TI.ok hr2 TI.b .nil pass0 rfl TI.g (pa_cons (pv 4) pa_nil)))) pss_nil)
      (pss_one (ps_ret (pe_callTy call_tuple_of (by rfl) T.tuple (by decide +kernel) (pa_cons (pe_callB cr_sortedI (by rfl) T.sorted (by decide +kernel) (pa_cons (pv 0) pa_nil)) pa_nil))))))), ?_⟩
    obtain ⟨a, xs, kf, many, part, rfl, hk, hs, hl, hx, q⟩ := h
    refine ⟨_, rfl, a, xs, kf, rfl, hk, hs, hl, hx, fun H1 s1 => ⟨_, rfl, ?_⟩⟩
    rcases q with ⟨e, q⟩ | ⟨ns, rfl, e, q⟩
    · rw [e]
      exact iteT ⟨_, rfl, err_made L.oex L.nf (q.later s1)⟩
    · rw [e]
      refine iteF ?_
      refine ⟨_, rfl, a, rfl, ⟨_, s1.seq hs⟩, for_list (K := K) (a := a) (xs := ns.map V.int) (fun i σ H' => ∃ (b : Option V), σ = [some (.ref a), some (.int many), some (.str part), b, none] ∧ Same H H' ∧ ∀ x ∈ ns.take i, isBar many x = true)
        ⟨none, rfl, s1, fun x hx => nomatch hx⟩ (fun i σ H' _ ⟨_, _, s, _⟩ => s.seq hs) ?_ ?_⟩
      · rintro i x σ H' hi ⟨b, rfl, s2, al⟩
        obtain ⟨z, hz, rfl⟩ := int_at hi
        refine ⟨_, rfl, _, rfl, z, many, rfl, ?_⟩
        by_cases c : isBar many z = true
        · obtain ⟨c1, c2⟩ := isBar_iff.mp c
          refine .inl ⟨c1, c2, fun H3 s3 => ⟨_, rfl, s2.trans s3, fun y hy => ?_⟩⟩
          rw [← take_snoc hz] at hy
          rcases List.mem_append.mp hy with m | m
          · exact al y m
          · rw [List.mem_singleton.mp m]
            exact c
        · refine .inr ⟨fun z => c (isBar_iff.mpr z), ?_⟩
          rw [res_bar al hz c] at q
          exact Errs.later q s2
      · rintro σ H' ⟨b, rfl, s2, al⟩
        rw [List.length_map, List.take_length] at al
        rw [res_all al] at q
        rw [List.length_map] at hl
        refine ⟨_, rfl, a, ns, rfl, s2.seq hs, hl, fun H3 s3 => ?_⟩
        have s23 := s2.trans s3
        cases e2 : ft [] ns with
        | some z =>
          rw [e2] at q
          exact ⟨_, rfl, rfl, _, rfl, iteT ⟨_, rfl, err_made TI.oex TI.nf (Errs.later q s23)⟩⟩
        | none =>
          rw [e2] at q
          refine ⟨_, rfl, rfl, _, rfl, iteF ?_⟩
          refine ⟨_, rfl, a, ns, rfl, s23.seq hs, fun ms p pm _ hp => ⟨p, _, rfl, .inl ⟨SqL.of upd_same, fun t ht => ?_⟩⟩⟩
          exact q t ms _ pm ((s23.new hp).new ht) upd_same
theorem ok_wlT {f fN fB fT : Addr} {c : Cs} {fL fTI : Addr} {fd fdN fdB fdT fdL fdTI : FuncData} (F : Fun K "want_lot" "want_lot" sWantLot f fd) (T : Bi mg) (N : DefAt P w K mg base CX0 2 "is_numbers" ["value"] (spNumsT K) fN fdN) (B : DefAt P w K mg base (L2.CX P w) 3 "want_bar" ["value", "many"] (spWantBar c.n) fB fdB)
    (Tw : DefAt P w K mg base CX0 3 "first_twice" ["values"] (spTwT K) fT fdT) (L : ErrAt P w K mg base "BadLot" "part" c.l fL fdL) (TI : ErrAt P w K mg base "Twice" "value" c.t fTI fdTI) : FnOk P w K mg base (L2.CX P w) 4 f fd ["value", "many", "part"] (spWLT K c) := by
  refine F.okX scWL (fun vs H Q E h => ?_) (fun cdv A outer s H vs Q E hr h => ?_)
  · obtain ⟨a, ns, many, part, rfl, _⟩ := h
    rfl
  · have nd := scWL.nd
    have hr2 : Room 2 (A.deeper (PyProof.Rows.envOfC "want_lot" (defScope sWantLot) s.heap.objs.size f cdv)) := hr.mono (by decide)
    refine ⟨_, pss_cons (ps_if (pt_not (pt_val (pe_call N.ok hr2 rfl N.g N.kp N.b .nil pass0 (pa_cons (pv 0) pa_nil)))) (pss_one (ps_raise rfl (takes_of rfl rfl rfl rfl) (pmk_oex L.oex L.ic L.ti L.ok hr2 L.b .nil pass0 rfl L.g (pa_cons (pv 2) pa_nil)))) pss_nil)
      (pss_cons (ps_for (passes_of rfl) rfl (pi_tup (pv 0)) (pg_name (i := 3) nd rfl (Or.inl rfl)) (pss_one (ps_expr (pe_call B.ok hr rfl B.g B.kp B.b .nil (passes_call (takes_of rfl rfl rfl rfl) (fun _ _ _ _ h => h)) (pa_cons (pv 3) (pa_cons (pv 1) pa_nil))))))
      (pss_cons (ps_set (i := 4) nd rfl (Or.inl rfl) (pe_call Tw.ok hr rfl Tw.g Tw.kp Tw.b .nil pass0 (pa_cons (pv 0) pa_nil)))
      (pss_cons (ps_if (pt_cmpR op_notN (pv 4) pe_non (nomark _)) (pss_one (ps_raise rfl (takes_of rfl rfl rfl rfl) (pmk_oex TI.oex TI.ic TI.ti TI.ok hr2 TI.b .nil pass0 rfl TI.g (pa_cons (pv 4) pa_nil)))) pss_nil)
      (pss_one (ps_ret (pe_callTy call_tuple_of (by rfl) T.tuple (by decide +kernel) (pa_cons (pe_callB cr_sortedT (by rfl) T.sorted (by decide +kernel) (pa_cons (pv 0) pa_nil)) pa_nil))))))), ?_⟩
    obtain ⟨a, ns, many, part, rfl, hk, hs, hl, q⟩ := h
    refine ⟨_, rfl, a, _, (fun _ => "int"), rfl, hk, hs, (by rw [List.length_map]; exact hl), (fun x hx => ?_), fun H1 s1 => ⟨_, rfl, ?_⟩⟩
    · obtain ⟨z, _, rfl⟩ := List.mem_map.mp hx
      exact Knd.int
    · have e : ((ns.map V.int).all fun x => decide (("int" : String) = "int")) = true := List.all_eq_true.mpr fun _ _ => rfl
      rw [e]
      refine iteF ?_
      refine ⟨_, rfl, a, rfl, ⟨_, s1.tup hs⟩, for_tup (K := K) (a := a) (xs := ns.map V.int) (fun i σ H' => ∃ (b : Option V), σ = [some (.ref a), some (.int many), some (.str part), b, none] ∧ Same H H' ∧ ∀ x ∈ ns.take i, isBar many x = true)
        ⟨none, rfl, s1, fun x hx => nomatch hx⟩ (fun i σ H' _ ⟨_, _, s, _⟩ => s.tup hs) ?_ ?_⟩
      · rintro i x σ H' hi ⟨b, rfl, s2, al⟩
        obtain ⟨z, hz, rfl⟩ := int_at hi
        refine ⟨_, rfl, _, rfl, z, many, rfl, ?_⟩
        by_cases c : isBar many z = true
        · obtain ⟨c1, c2⟩ := isBar_iff.mp c
          refine .inl ⟨c1, c2, fun H3 s3 => ⟨_, rfl, s2.trans s3, fun y hy => ?_⟩⟩
          rw [← take_snoc hz] at hy
          rcases List.mem_append.mp hy with m | m
          · exact al y m
          · rw [List.mem_singleton.mp m]
            exact c
        · refine .inr ⟨fun z => c (isBar_iff.mpr z), ?_⟩
          rw [res_bar al hz c] at q
          exact Errs.later q s2
      · rintro σ H' ⟨b, rfl, s2, al⟩
        rw [List.length_map, List.take_length] at al
        rw [res_all al] at q
        refine ⟨_, rfl, a, ns, rfl, s2.tup hs, hl, fun H3 s3 => ?_⟩
        have s23 := s2.trans s3
        cases e2 : ft [] ns with
        | some z =>
          rw [e2] at q
          exact ⟨_, rfl, rfl, _, rfl, iteT ⟨_, rfl, err_made TI.oex TI.nf (Errs.later q s23)⟩⟩
        | none =>
          rw [e2] at q
          refine ⟨_, rfl, rfl, _, rfl, iteF ?_⟩
          refine ⟨_, rfl, a, ns, rfl, s23.tup hs, fun ms p pm _ hp => ⟨p, _, rfl, .inl ⟨SqL.of upd_same, fun t ht => ?_⟩⟩⟩
          exact q t ms _ pm ((s23.new hp).new ht) upd_same
end
end K
namespace K
open PySem L2 Rg
open Evl (pss_cut)
/-! ### what a ring tells -/
def sumsOf (ls : List Int) : List Int := ls.foldl (fun s l => s ++ s.map (· + l)) [0]
def levelB (ls : List Int) : Bool := (sumsOf ls).any fun o => decide (2 * o = ls.sum)
def closesB (ls : List Int) : Bool := ls.all fun x => decide (2 * x ≤ ls.sum)
def lsum (ls ns : List Int) : Int := (ns.map fun b => ls.getD b.toNat 0).sum
def sortV (ls ns : List Int) : Str := if 2 * lsum ls ns = ls.sum then "level" else if 2 * lsum ls ns < ls.sum then "short" else "long"
theorem sums_take {ls : List Int} {i : Nat} {z : Int} (h : ls[i]? = some z) : sumsOf (ls.take (i + 1)) = sumsOf (ls.take i) ++ (sumsOf (ls.take i)).map (· + z) := by
  unfold sumsOf
  rw [← take_snoc h, List.foldl_append]
  rfl
theorem sums_len : ∀ (ls : List Int) (i : Nat), i ≤ ls.length → (sumsOf (ls.take i)).length = 2 ^ i
  | ls, 0, _ => rfl
  | ls, i + 1, h => by
    have hz : ls[i]? = some ls[i] := List.getElem?_eq_getElem h
    rw [sums_take hz, List.length_append, List.length_map, sums_len ls i (by omega), Nat.pow_succ]
    omega
theorem closes_max {ls : List Int} {m : Int} (hm : m ∈ ls) (hx : ∀ y ∈ ls, y ≤ m) : decide (2 * m ≤ ls.sum) = closesB ls := by
  unfold closesB
  by_cases c : 2 * m ≤ ls.sum
  · rw [decide_eq_true c]
    refine (List.all_eq_true.mpr fun y hy => decide_eq_true ?_).symm
    have := hx y hy
    omega
  · rw [decide_eq_false c]
    cases e : ls.all fun x => decide (2 * x ≤ ls.sum) with
    | false => rfl
    | true => exact absurd (of_decide_eq_true (List.all_eq_true.mp e m hm)) c
theorem dec_int (a b : Int) : decide (V.int a = V.int b) = decide (a = b) := by
  by_cases e : a = b
  · rw [e]; simp
  · rw [decide_eq_false e, decide_eq_false fun z => e (V.int.inj z)]
theorem all_any (l : List Int) (g : Int → Bool) : (l.map g).any id = l.any g := by
  rw [List.any_map]; rfl
/-- the attributes of a ring, in the order in which __init__ stores them -/
def rf (t : Addr) (ls : List Int) : List (Str × V) := putF "is_clear" (.bl (!levelB ls)) (putF "closes" (.bl (closesB ls)) (putF "total" (.int ls.sum) (putF "lengths" (.ref t) [])))
theorem n1 : ¬ (("lengths" : Str) = "total") := by decide +kernel
theorem n2 : ¬ (("lengths" : Str) = "closes") := by decide +kernel
theorem n3 : ¬ (("lengths" : Str) = "is_clear") := by decide +kernel
theorem n4 : ¬ (("total" : Str) = "closes") := by decide +kernel
theorem n5 : ¬ (("total" : Str) = "is_clear") := by decide +kernel
theorem n6 : ¬ (("closes" : Str) = "is_clear") := by decide +kernel
theorem rf_lengths (t : Addr) (ls : List Int) : (rf t ls).lookup ("lengths" : Str) = some (.ref t) := by
  unfold rf
  rw [lookup_putF, if_neg n3, lookup_putF, if_neg n2, lookup_putF, if_neg n1, lookup_putF, if_pos rfl]
theorem rf_total (t : Addr) (ls : List Int) : (rf t ls).lookup ("total" : Str) = some (.int ls.sum) := by
  unfold rf
  rw [lookup_putF, if_neg n5, lookup_putF, if_neg n4, lookup_putF, if_pos rfl]
theorem rf_closes (t : Addr) (ls : List Int) : (rf t ls).lookup ("closes" : Str) = some (.bl (closesB ls)) := by
  unfold rf
  rw [lookup_putF, if_neg n6, lookup_putF, if_pos rfl]
theorem rf_clear (t : Addr) (ls : List Int) : (rf t ls).lookup ("is_clear" : Str) = some (.bl (!levelB ls)) := by
  unfold rf
  rw [lookup_putF, if_pos rfl]
theorem rf_no (t : Addr) (ls : List Int) {m : Str} (h1 : ¬ m = "lengths") (h2 : ¬ m = "total") (h3 : ¬ m = "closes") (h4 : ¬ m = "is_clear") : (rf t ls).lookup m = none := by
  unfold rf
  rw [lookup_putF, if_neg h4, lookup_putF, if_neg h3, lookup_putF, if_neg h2, lookup_putF, if_neg h1]
  rfl
section
variable {P : Program} {w : World} {K : PySem.W.Frag} {mg : Str → Option Value} {base : Heap}
def RingAt (K : PySem.W.Frag) (C : Addr) (H : Hp) (r : Addr) (ls : List Int) : Prop := ∃ dx t, H r = some (.ins C dx (rf t ls)) ∧ SqT K H t (ls.map V.int) ∧ ∃ o : Obj, H t = some (.frz o (.tup (ls.map V.int))) ∧ o.dict = none
theorem RingAt.same {C : Addr} {H H' : Hp} {r : Addr} {ls : List Int} (h : RingAt K C H r ls) (s : Same H H') : RingAt K C H' r ls := by
  obtain ⟨dx, t, h1, h2, o, h3, h4⟩ := h
  exact ⟨dx, t, s _ _ h1, s.tup h2, o, s _ _ h3, h4⟩
/-- the class Ring as the top has made it -/
structure RingC (K : PySem.W.Frag) (mg : Str → Option Value) (C : Addr) : Prop where
  cl : Cls K C
  nL : NoAttr K C "lengths"
  nT : NoAttr K C "total"
  nC : NoAttr K C "closes"
  nI : NoAttr K C "is_clear"
  g : mg "Ring" = some (.ref C)
  ha : PySem.W.findIn K (.ref C) "__class__" = some (some (.builtin "object.__class__"))
  hn : PySem.W.specialIn K (.builtin "object.__class__") "__get__" = some (some (.builtin "getset_descriptor.__get__"))
  ht : PySem.W.takesIn K (.builtin "object.__class__") = some true
  hm : PySem.W.mroIn K C (.type "object") = some true
structure Nm (mg : Str → Option Value) : Prop where
  mostL : ∃ t, mg "MOST_LENGTH" = some (.int 1000000 t)
  leastB : ∃ t, mg "LEAST_BARS" = some (.int 3 t)
  mostB : ∃ t, mg "MOST_BARS" = some (.int 8 t)
/-! ### are_lengths -/
def spAreL (K : PySem.W.Frag) : Sp := fun vs H Q _ => ∃ (a : Addr) (ls : List Int), vs = [.ref a] ∧ Knd K H (.ref a) "list" ∧ SqL K H a (ls.map V.int) ∧ ls.length ≤ 1000 ∧ Bd 1000000 ls ∧ ∀ H', Same H H' → Q (.bl true) H'
abbrev nAreL : List Str := ["value", "one"]
theorem scAreL : FnScope nAreL ["value"] (defScope sAreLengths) := ⟨rfl, rfl, rfl, by decide +kernel, rfl, by decide +kernel, by decide +kernel⟩
theorem all_true {bs : List Bool} (h : ∀ b ∈ bs, b = true) : bs.all id = true := List.all_eq_true.mpr fun b hb => h b hb
theorem ok_areL {f fW fL : Addr} {fd fdW fdL : FuncData} (F : Fun K "are_lengths" "are_lengths" sAreLengths f fd) (T : Bi mg) (N : Nm mg) (W : DefAt P w K mg base CX0 2 "is_within" ["value", "least", "most"] spWithin fW fdW) (L : DefAt P w K mg base CX0 1 "is_list" ["value"] (spIsList K) fL fdL) : FnOk P w K mg base CX0 3 f fd ["value"] (spAreL K) := by
  refine F.ok scAreL (fun vs H Q E h => ?_) (fun cdv A outer s H vs Q E hr h => ?_)
  · obtain ⟨a, ls, rfl, _⟩ := h
    rfl
  · obtain ⟨tM, hM⟩ := N.mostL
    refine ⟨_, pss_one (ps_ret (pe_and (pe_call L.ok (hr.mono (by decide)) rfl L.g L.kp L.b .nil pass0 (pa_cons (pv 0) pa_nil)) (pe_one (pe_callB (cr_all rfl) (by rfl) T.all (by decide +kernel) (pa_cons (pe_lc (own := [("one", 1)]) (g := gName 1) (tt := tYes) rfl scAreL.nd (pi_list (pv 0))
      (blkOk_by (N := nAreL) (sc := defScope sAreLengths) (by decide +kernel)) (fun _ _ _ _ _ => pg_name (i := 1) scAreL.nd rfl (Or.inl rfl)) (fun _ _ _ _ _ => pts_nil) (fun _ _ _ _ _ => pe_call W.ok hr rfl W.g W.kp W.b .nil pass0 (pa_cons (pv 1) (pa_cons pe_int (pa_cons (pe_glob (v := .int 1000000) rfl hM ⟨_, rfl⟩) pa_nil))))) pa_nil))))), ?_⟩
    obtain ⟨a, ls, rfl, hk, hs, hl, hb, q⟩ := h
    refine ⟨_, rfl, _, "list", rfl, hk, fun H1 s1 => ⟨_, rfl, iteDT (.inl rfl) ?_⟩⟩
    refine ⟨_, rfl, a, rfl, ⟨_, s1.seq hs⟩, fun D hD => ?_⟩
    have hD0 := s1.free hD
    refine lc_list (K := K) (a := a) (xs := ls.map V.int) (fun i H' => Same H H' ∧ ∃ bs : List Bool, (∀ b ∈ bs, b = true) ∧ bs.length ≤ i ∧ H' D = some (.lst (bs.map V.bl))) ⟨s1.new hD, [], (fun b hb => nomatch hb), Nat.le_refl _, upd_same⟩ (fun i H' _ p => p.1.seq hs) ?_ ?_
    · rintro i x H' hi ⟨s2, bs, h1, h2, h3⟩
      obtain ⟨z, hz, rfl⟩ := int_at hi
      have hil : i < ls.length := (List.getElem?_eq_some_iff.mp hz).1
      have hzb := hb z (List.mem_of_getElem? hz)
      refine ⟨rfl, _, rfl, z, 1, 1000000, rfl, _, h3, (by rw [List.length_map]; exact sm (by omega)), s2.mut hD0, bs ++ [true], fun b hb => ?_, by rw [List.length_append, List.length_singleton]; omega, ?_⟩
      · rcases List.mem_append.mp hb with m | m
        · exact h1 b m
        · exact List.mem_singleton.mp m
      · rw [upd_same, List.map_append, decide_eq_true hzb.1, decide_eq_true hzb.2]
        rfl
    · rintro H' ⟨s2, bs, h1, h2, h3⟩
      refine ⟨D, bs, rfl, SqL.of h3, ?_⟩
      rw [all_true h1]
      exact q H' s2
/-! ### has_level -/
def spHasL (K : PySem.W.Frag) : Sp := fun vs H Q _ => ∃ (t : Addr) (ls : List Int), vs = [.ref t] ∧ SqT K H t (ls.map V.int) ∧ ls.length ≤ 8 ∧ ∀ H', Same H H' → Q (.bl (levelB ls)) H'
abbrev nHasL : List Str := ["lengths", "sums", "length", "one"]
theorem scHasL : FnScope nHasL ["lengths"] (defScope sHasLevel) := ⟨rfl, rfl, rfl, by decide +kernel, rfl, by decide +kernel, by decide +kernel⟩
theorem ok_hasL {f : Addr} {fd : FuncData} (F : Fun K "has_level" "has_level" sHasLevel f fd) (T : Bi mg) : FnOk P w K mg base CX0 2 f fd ["lengths"] (spHasL K) := by
  refine F.ok scHasL (fun vs H Q E h => ?_) (fun cdv A outer s H vs Q E hr h => ?_)
  · obtain ⟨a, ls, rfl, _⟩ := h
    rfl
  · have nd := scHasL.nd
    refine ⟨_, pss_cons (ps_set (i := 1) nd rfl (Or.inl rfl) (pe_lst (pa_cons pe_int pa_nil)))
      (pss_cons (ps_for PassesOwn.never rfl (pi_tup (pv 0)) (pg_name (i := 2) nd rfl (Or.inr rfl)) (pss_one (ps_set (i := 1) nd rfl (Or.inl rfl) (pe_op op_cat (pv 1) (pe_lc (own := [("one", 3)]) (g := gName 3) (tt := tYes) rfl nd (pi_list (pv 1))
        (blkOk_by (N := nHasL) (sc := defScope sHasLevel) (by decide +kernel)) (fun _ _ _ _ _ => pg_name (i := 3) nd rfl (Or.inl rfl)) (fun _ _ _ _ _ => pts_nil) (fun _ _ _ _ _ => pe_op op_add (pv 3) (pv 2)))))))
      (pss_one (ps_ret (pe_callB (cr_any rfl) (by rfl) T.any (by decide +kernel) (pa_cons (pe_lc (own := [("one", 3)]) (g := gName 3) (tt := tYes) rfl nd (pi_list (pv 1))
        (blkOk_by (N := nHasL) (sc := defScope sHasLevel) (by decide +kernel)) (fun _ _ _ _ _ => pg_name (i := 3) nd rfl (Or.inl rfl)) (fun _ _ _ _ _ => pts_nil) (fun _ _ _ _ _ => pe_cmpR op_eq (pe_op op_mul pe_int (pv 3)) (pe_callB (r := rSumT K) (cr_sumT (by rfl)) (by rfl) T.sum (by decide +kernel) (pa_cons (pv 0) pa_nil)) (nomark _))) pa_nil))))), ?_⟩
    obtain ⟨t, ls, rfl, hs, hl, q⟩ := h
    refine ⟨(by show 1 ≤ sizeLine; decide), fun l0 hl0 => ?_⟩
    have s0 : Same H (upd H l0 (.lst [.int 0])) := (Same.refl H).new hl0
    have pw : ∀ i, i ≤ ls.length → (sumsOf (ls.take i)).length ≤ 256 := fun i hi => by
      rw [sums_len ls i hi]
      exact Nat.pow_le_pow_right (by decide) (show i ≤ 8 by omega)
    refine ⟨_, rfl, t, rfl, ⟨_, s0.tup hs⟩, for_tup (K := K) (a := t) (xs := ls.map V.int) (fun i σ H' => ∃ (l : Addr) (z : Option V), σ = [some (.ref t), some (.ref l), z, none] ∧ Same H H' ∧ H' l = some (.lst ((sumsOf (ls.take i)).map V.int)))
      ⟨l0, none, rfl, s0, upd_same⟩ (fun i σ H' _ ⟨_, _, _, s, _⟩ => s.tup hs) ?_ ?_⟩
    · rintro i x σ H' hi ⟨l, z, rfl, s1, h1⟩
      obtain ⟨z, hz, rfl⟩ := int_at hi
      have hil : i < ls.length := (List.getElem?_eq_some_iff.mp hz).1
      have p1 := pw i (by omega)
      refine ⟨_, rfl, _, rfl, l, rfl, ⟨_, SqL.of h1⟩, fun D hD => ?_⟩
      have hlD : l ≠ D := ne_of_none h1 hD
      refine lc_list (K := K) (a := l) (xs := (sumsOf (ls.take i)).map V.int) (fun j H2 => Same H' H2 ∧ H2 D = some (.lst ((((sumsOf (ls.take i)).take j).map (· + z)).map V.int))) ⟨(Same.refl H').new hD, upd_same⟩ (fun j H2 _ p => p.1.seq (SqL.of h1)) ?_ ?_
      · rintro j y H2 hj ⟨s2, h2⟩
        obtain ⟨o, ho, rfl⟩ := int_at hj
        refine ⟨rfl, _, rfl, _, rfl, _, _, rfl, rfl, _, h2, (by rw [List.length_map, List.length_map, List.length_take]; exact sm (by omega)), s2.mut hD, ?_⟩
        rw [upd_same, ← take_snoc ho, List.map_append, List.map_append]
        rfl
      · rintro H2 ⟨s2, h2⟩
        rw [List.length_map, List.take_length] at h2
        refine ⟨l, D, _, _, rfl, rfl, s2 _ _ h1, h2, (by rw [List.length_map, List.length_map, List.length_map]; exact Nat.le_of_lt (sm (by omega))), fun p hp => ⟨p, _, rfl, (s1.trans s2).new hp, ?_⟩⟩
        rw [upd_same, sums_take hz, List.map_append]
    · rintro σ H' ⟨l, z, rfl, s1, h1⟩
      rw [List.length_map, List.take_length] at h1
      have p1 := pw ls.length (Nat.le_refl _)
      rw [List.take_length] at p1
      refine ⟨_, rfl, l, rfl, ⟨_, SqL.of h1⟩, fun D hD => ?_⟩
      refine lc_list (K := K) (a := l) (xs := (sumsOf ls).map V.int) (fun j H2 => Same H' H2 ∧ H2 D = some (.lst ((((sumsOf ls).take j).map fun o => decide (2 * o = ls.sum)).map V.bl))) ⟨(Same.refl H').new hD, upd_same⟩ (fun j H2 _ p => p.1.seq (SqL.of h1)) ?_ ?_
      · rintro j y H2 hj ⟨s2, h2⟩
        obtain ⟨o, ho, rfl⟩ := int_at hj
        refine ⟨rfl, _, rfl, _, _, rfl, rfl, .inl ⟨by decide, by decide⟩, _, rfl, t, ls, rfl, (s1.trans s2).tup hs, rfl, _, h2, (by rw [List.length_map, List.length_map, List.length_take]; exact sm (by omega)), s2.mut hD, ?_⟩
        rw [upd_same, ← take_snoc ho, List.map_append, List.map_append, dec_int]
        rfl
      · rintro H2 ⟨s2, h2⟩
        rw [List.length_map, List.take_length] at h2
        refine ⟨D, _, rfl, SqL.of h2, ?_⟩
        rw [all_any]
        exact q H2 (s1.trans s2)
/-! ### Ring.__init__ -/
def spRI (K : PySem.W.Frag) (C : Addr) : Sp := fun vs H Q _ => ∃ (r l dx : Addr) (ls : List Int), vs = [.ref r, .ref l] ∧ H r = some (.ins C dx []) ∧ Knd K H (.ref l) "list" ∧ SqL K H l (ls.map V.int) ∧ 3 ≤ ls.length ∧ ls.length ≤ 8 ∧ Bd 1000000 ls ∧
  ∀ H', RingAt K C H' r ls → (∀ b o, H b = some o → b ≠ r → H' b = some o) → Q .non H'
theorem scRI : FnScope ["self", "lengths"] ["self", "lengths"] (defScope sRingInit) := ⟨rfl, rfl, rfl, by decide +kernel, rfl, by decide +kernel, by decide +kernel⟩
theorem ok_ri {C f fA fH : Addr} {fd fdA fdH : FuncData} (F : Fun K "__init__" "Ring.__init__" sRingInit f fd) (T : Bi mg) (N : Nm mg) (R : RingC K mg C) (A' : DefAt P w K mg base CX0 3 "are_lengths" ["value"] (spAreL K) fA fdA) (L : DefAt P w K mg base CX0 2 "has_level" ["lengths"] (spHasL K) fH fdH) : FnOk P w K mg base CX0 4 f fd ["self", "lengths"] (spRI K C) := by
  refine F.ok scRI (fun vs H Q E h => ?_) (fun cdv A outer s H vs Q E hr h => ?_)
  · obtain ⟨r, l, dx, ls, rfl, _⟩ := h
    rfl
  · obtain ⟨t3, h3⟩ := N.leastB
    obtain ⟨t8, h8⟩ := N.mostB
    refine ⟨_, pss_cons (ps_if (pt_not (pt_val (pe_call A'.ok hr rfl A'.g A'.kp A'.b .nil pass0 (pa_cons (pv 1) pa_nil)))) (pss_one ps_never) pss_nil)
      (pss_cons (ps_if (pt_cmpR op_lt (pe_callB call_len_seq (by rfl) T.len PySem.boot_len (pa_cons (pv 1) pa_nil)) (pe_glob (v := .int 3) rfl h3 ⟨_, rfl⟩) (nomark _)) (pss_one ps_never) pss_nil)
      (pss_cons (ps_if (pt_cmpR op_gt (pe_callB call_len_seq (by rfl) T.len PySem.boot_len (pa_cons (pv 1) pa_nil)) (pe_glob (v := .int 8) rfl h8 ⟨_, rfl⟩) (nomark _)) (pss_one ps_never) pss_nil)
      (pss_cons (ps_fld (pv 0) (pe_callTy cr_tupF (by rfl) T.tuple (by decide +kernel) (pa_cons (pv 1) pa_nil)) rfl)
      (pss_cons (ps_fld (pv 0) (pe_callB (cr_sumT rfl) (by rfl) T.sum (by decide +kernel) (pa_cons (pe_fld (pv 0) rfl) pa_nil)) rfl)
      (pss_cons (ps_fld (pv 0) (pe_cmpR op_le (pe_op op_mul pe_int (pe_callB (cr_maxT rfl) (by rfl) T.max (by decide +kernel) (pa_cons (pe_fld (pv 0) rfl) pa_nil))) (pe_fld (pv 0) rfl) (nomark _)) rfl)
      (pss_one (ps_fld (pv 0) (pe_not (pe_call L.ok (hr.mono (by decide)) rfl L.g L.kp L.b .nil pass0 (pa_cons (pe_fld (pv 0) rfl) pa_nil))) rfl))))))), ?_⟩
    obtain ⟨r, l, dx, ls, rfl, hr0, hk, hs, l3, l8, hb, q⟩ := h
    refine ⟨_, rfl, l, ls, rfl, hk, hs, by omega, hb, fun H1 s1 => ⟨_, rfl, iteF ?_⟩⟩
    refine ⟨_, rfl, l, _, rfl, .inl (s1.seq hs), _, _, rfl, rfl, _, rfl, iteDF (by rw [List.length_map]; omega) ?_⟩
    refine ⟨_, rfl, l, _, rfl, .inl (s1.seq hs), _, _, rfl, rfl, _, rfl, iteDF (by rw [List.length_map]; omega) ?_⟩
    have hr1 := s1 _ _ hr0
    refine ⟨_, rfl, l, _, rfl, s1.seq hs, fun t o ht hd => ?_⟩
    have nrt : r ≠ t := ne_of_none hr1 ht
    have ht0 := s1.free ht
    have tup0 : ∀ u, upd (upd H1 t (.frz o (.tup (ls.map V.int)))) r u t = some (.frz o (.tup (ls.map V.int))) := fun u => by rw [upd_ne nrt.symm, upd_same]
    refine ⟨_, rfl, r, C, dx, [], rfl, (by rw [upd_ne nrt]; exact hr1), R.cl, R.nL, (by show 0 < 1000; decide), ?_⟩
    -- self.total
    refine ⟨_, rfl, r, C, dx, _, _, rfl, upd_same, R.cl, R.nL, (by rw [lookup_putF, if_pos rfl]), t, ls, rfl, .inl (.inr ⟨o, tup0 _⟩), _, rfl, r, C, dx, _, rfl, upd_same, R.cl, R.nT, (by show 1 < 1000; decide), ?_⟩
    rw [upd_upd]
    -- self.closes
    refine ⟨_, rfl, r, C, dx, _, _, rfl, upd_same, R.cl, R.nL, (by rw [lookup_putF, if_neg n1, lookup_putF, if_pos rfl]), t, ls, rfl, .inl (.inr ⟨o, tup0 _⟩), by omega, fun m hm hx => ?_⟩
    refine ⟨_, _, rfl, rfl, .inl ⟨by decide, by decide⟩, _, rfl, r, C, dx, _, _, rfl, upd_same, R.cl, R.nT, (by rw [lookup_putF, if_pos rfl]), _, _, rfl, rfl, _, rfl, r, C, dx, _, rfl, upd_same, R.cl, R.nC, ?_, ?_⟩
    · have e1 := length_putF "total" (V.int ls.sum) (putF "lengths" (V.ref t) [])
      have e2 := length_putF "lengths" (V.ref t) []
      simp only [List.length_nil] at e2
      omega
    dsimp only
    rw [upd_upd, closes_max hm hx]
    -- self.is_clear
    refine ⟨_, rfl, r, C, dx, _, _, rfl, upd_same, R.cl, R.nL, (by rw [lookup_putF, if_neg n2, lookup_putF, if_neg n1, lookup_putF, if_pos rfl]), t, ls, rfl, .inl (.inr ⟨o, tup0 _⟩), l8, fun H5 s5 => ⟨_, rfl, _, rfl, r, C, dx, _, rfl, s5 _ _ upd_same, R.cl, R.nI, ?_, ?_⟩⟩
    · have e1 := length_putF "total" (V.int ls.sum) (putF "lengths" (V.ref t) [])
      have e2 := length_putF "lengths" (V.ref t) []
      have e3 := length_putF "closes" (V.bl (closesB ls)) (putF "total" (V.int ls.sum) (putF "lengths" (V.ref t) []))
      simp only [List.length_nil] at e2
      omega
    · have tf := s5 _ _ (tup0 _)
      refine q _ ⟨dx, t, upd_same, .inl (.inr ⟨o, by rw [upd_ne nrt.symm]; exact tf⟩), o, by rw [upd_ne nrt.symm]; exact tf, hd⟩ fun b o e hbr => ?_
      rw [upd_ne hbr]
      refine s5 _ _ ?_
      rw [upd_ne hbr, upd_ne (ne_of_none (s1 _ _ e) ht)]
      exact s1 _ _ e
end
end K
namespace K
open PySem L2 Rg
open Evl (pss_cut)
theorem perm_sum {a b : List Int} (h : a.Perm b) : a.sum = b.sum := by
  induction h with
  | nil => rfl
  | cons x _ ih => rw [List.sum_cons, List.sum_cons, ih]
  | swap x y l => simp only [List.sum_cons]; omega
  | trans _ _ ih1 ih2 => exact ih1.trans ih2
theorem lsum_perm {ls a b : List Int} (h : a.Perm b) : lsum ls a = lsum ls b := perm_sum (h.map _)
section
variable {P : Program} {w : World} {K : PySem.W.Frag} {mg : Str → Option Value} {base : Heap}
/-- a value passed for a lot of a ring of many bars: what becomes of it, k of what it is if it is one -/
def LotV (K : PySem.W.Frag) (H : Hp) (E : XK) (c : Cs) (many : Int) (part : Str) (v : V) (k : List Int → Prop) : Prop :=
  (∃ kd, Knd K H v kd ∧ kd ≠ "list" ∧ kd ≠ "tuple" ∧ Errs E c.l "part" (.str part) H) ∨
  (∃ (a : Addr) (xs : List V) (kf : V → String), v = .ref a ∧ Knd K H (.ref a) "list" ∧ SqL K H a xs ∧ xs.length ≤ 1000 ∧ (∀ x ∈ xs, Knd K H x (kf x)) ∧
    (((xs.all fun x => decide (kf x = "int")) = false ∧ Errs E c.l "part" (.str part) H) ∨ ∃ ns, xs = ns.map V.int ∧ (xs.all fun x => decide (kf x = "int")) = true ∧ LotFin E c part H (res many ns) k)) ∨
  (∃ (a : Addr) (ns : List Int), v = .ref a ∧ Knd K H (.ref a) "tuple" ∧ SqT K H a (ns.map V.int) ∧ ns.length ≤ 1000 ∧ LotFin E c part H (res many ns) k)
theorem LotFin.imp {E : XK} {c : Cs} {part : Str} {H : Hp} {r : Lr} {k k' : List Int → Prop} (h : LotFin E c part H r k) (i : ∀ ns, k ns → k' ns) : LotFin E c part H r k' := by
  cases r with
  | bad => exact h
  | bar b => exact h
  | twice b => exact h
  | ok ns => exact i ns h
theorem LotV.imp {H : Hp} {E : XK} {c : Cs} {many : Int} {part : Str} {v : V} {k k' : List Int → Prop} (h : LotV K H E c many part v k) (i : ∀ ns, k ns → k' ns) : LotV K H E c many part v k' := by
  rcases h with h | ⟨a, xs, kf, e, h1, h2, h3, h4, h⟩ | ⟨a, ns, e, h1, h2, h3, h4⟩
  · exact .inl h
  · refine .inr (.inl ⟨a, xs, kf, e, h1, h2, h3, h4, ?_⟩)
    rcases h with h | ⟨ns, q1, q2, q3⟩
    · exact .inl h
    · exact .inr ⟨ns, q1, q2, q3.imp i⟩
  · exact .inr (.inr ⟨a, ns, e, h1, h2, h3, h4.imp i⟩)
def spWL (K : PySem.W.Frag) (c : Cs) : Sp := fun vs H Q E => ∃ (v : V) (many : Int) (part : Str), vs = [v, .int many, .str part] ∧ LotV K H E c many part v fun ns => ∀ (p : Addr) (ms : List Int) (H' : Hp), ms.Perm ns → Same H H' → H' p = some (.tup (ms.map V.int)) → Q (.ref p) H'
theorem ok_wl {CX : CXT} {k : Nat} {f : Addr} {fd : FuncData} {ps : List Str} {c : Cs} (F1 : FnOk P w K mg base CX k f fd ps (spWLO K c)) (F2 : FnOk P w K mg base CX k f fd ps (spWLL K c)) (F3 : FnOk P w K mg base CX k f fd ps (spWLT K c)) : FnOk P w K mg base CX k f fd ps (spWL K c) := by
  refine (fn_or F1 (fn_or F2 F3)).imp fun vs H Q E h => ?_
  obtain ⟨v, many, part, rfl, h⟩ := h
  rcases h with ⟨kd, h1, h2, h3, h4⟩ | ⟨a, xs, kf, rfl, h1, h2, h3, h4, h⟩ | ⟨a, ns, rfl, h1, h2, h3, h4⟩
  · exact .inl ⟨v, kd, many, part, rfl, h1, h2, h3, h4⟩
  · exact .inr (.inl ⟨a, xs, kf, many, part, rfl, h1, h2, h3, h4, h⟩)
  · exact .inr (.inr ⟨a, ns, many, part, rfl, h1, h2, h3, h4⟩)
/-! ### len(ring) -/
def spRLen (K : PySem.W.Frag) (C : Addr) : Sp := fun vs H Q _ => ∃ (r : Addr) (ls : List Int), vs = [.ref r] ∧ RingAt K C H r ls ∧ Q (.int ls.length) H
theorem scRLen : FnScope ["self"] ["self"] (defScope sRingLen) := ⟨rfl, rfl, rfl, by decide +kernel, rfl, by decide +kernel, by decide +kernel⟩
theorem ok_rlen {C f : Addr} {fd : FuncData} (F : Fun K "__len__" "Ring.__len__" sRingLen f fd) (T : Bi mg) (R : RingC K mg C) : FnOk P w K mg base CX0 1 f fd ["self"] (spRLen K C) := by
  refine F.ok scRLen (fun vs H Q E h => ?_) (fun cdv A outer s H vs Q E hr h => ?_)
  · obtain ⟨r, ls, rfl, _⟩ := h
    rfl
  · refine ⟨_, pss_one (ps_ret (pe_callB call_len_seq (by rfl) T.len PySem.boot_len (pa_cons (pe_fld (pv 0) rfl) pa_nil))), ?_⟩
    obtain ⟨r, ls, rfl, ⟨dx, t, hr0, ht, hf⟩, q⟩ := h
    refine ⟨_, rfl, r, C, dx, _, _, rfl, hr0, R.cl, R.nL, rf_lengths _ _, t, _, rfl, .inr ht, ?_⟩
    rw [List.length_map]
    exact q
/-! ### ring.length_of(lot), ring.sort_of(lot) -/
def spLenOf (K : PySem.W.Frag) (C : Addr) (c : Cs) : Sp := fun vs H Q E => ∃ (r : Addr) (v : V) (ls : List Int), vs = [.ref r, v] ∧ RingAt K C H r ls ∧ ls.length ≤ 8 ∧ LotV K H E c ls.length "lot" v fun ns => ∀ H', Same H H' → Q (.int (lsum ls ns)) H'
abbrev nLenOf : List Str := ["self", "lot", "bars", "bar"]
theorem scLenOf : FnScope nLenOf ["self", "lot"] (defScope sRingLengthOf) := ⟨rfl, rfl, rfl, by decide +kernel, rfl, by decide +kernel, by decide +kernel⟩
theorem get_len {ls : List Int} {b : Int} (h0 : 0 ≤ b) (h1 : b < (ls.length : Int)) : atI (ls.map V.int) b = some (V.int (ls.getD b.toNat 0)) := by
  have hb : b.toNat < ls.length := by omega
  refine at_of (j := b.toNat) (by omega) ?_
  rw [int_get hb, List.getD_eq_getElem?_getD, List.getElem?_eq_getElem hb]
  rfl
theorem res_ok {many : Int} {ns ms : List Int} (h : res many ns = .ok ms) : ms = ns ∧ (∀ x ∈ ns, isBar many x = true) ∧ ft [] ns = none := by
  unfold res at h
  cases e : ns.find? (fun b => !isBar many b) with
  | some b => rw [e] at h; cases h
  | none =>
    rw [e] at h
    cases e2 : ft [] ns with
    | some b => rw [e2] at h; cases h
    | none =>
      rw [e2] at h
      cases h
      refine ⟨rfl, fun x hx => ?_, rfl⟩
      have := List.find?_eq_none.mp e x hx
      simpa using this
/-- a lot that is one, with what is known of it -/
theorem LotFin.fine {E : XK} {c : Cs} {part : Str} {H : Hp} {many : Int} {ns : List Int} {k k' : List Int → Prop} (h : LotFin E c part H (res many ns) k) (hl : ns.length ≤ 1000) (i : ∀ ms, ms.length ≤ 1000 → (∀ x ∈ ms, isBar many x = true) → k ms → k' ms) : LotFin E c part H (res many ns) k' := by
  cases e : res many ns with
  | bad => rw [e] at h; exact h
  | bar b => rw [e] at h; exact h
  | twice b => rw [e] at h; exact h
  | ok ms =>
    rw [e] at h
    obtain ⟨rfl, a, _⟩ := res_ok e
    exact i ms hl a h
theorem LotV.fine {H : Hp} {E : XK} {c : Cs} {many : Int} {part : Str} {v : V} {k k' : List Int → Prop} (h : LotV K H E c many part v k) (i : ∀ ms, ms.length ≤ 1000 → (∀ x ∈ ms, isBar many x = true) → k ms → k' ms) : LotV K H E c many part v k' := by
  rcases h with h | ⟨a, xs, kf, e, h1, h2, h3, h4, h⟩ | ⟨a, ns, e, h1, h2, h3, h4⟩
  · exact .inl h
  · refine .inr (.inl ⟨a, xs, kf, e, h1, h2, h3, h4, ?_⟩)
    rcases h with h | ⟨ns, q1, q2, q3⟩
    · exact .inl h
    · exact .inr ⟨ns, q1, q2, q3.fine (by rw [q1, List.length_map] at h3; exact h3) i⟩
  · exact .inr (.inr ⟨a, ns, e, h1, h2, h3, h4.fine h3 i⟩)
theorem ok_lenOf {C f fW : Addr} {c : Cs} {fd fdW : FuncData} (F : Fun K "length_of" "Ring.length_of" sRingLengthOf f fd) (T : Bi mg) (R : RingC K mg C) (W : DefAt P w K mg base (L2.CX P w) 4 "want_lot" ["value", "many", "part"] (spWL K c) fW fdW) : FnOk P w K mg base (L2.CX P w) 5 f fd ["self", "lot"] (spLenOf K C c) := by
  refine F.okX scLenOf (fun vs H Q E h => ?_) (fun cdv A outer s H vs Q E hr h => ?_)
  · obtain ⟨r, v, ls, rfl, _⟩ := h
    rfl
  · have nd := scLenOf.nd
    refine ⟨_, pss_cons (ps_set (i := 2) nd rfl (Or.inl rfl) (pe_call W.ok hr rfl W.g W.kp W.b .nil (passes_call (takes_of rfl rfl rfl rfl) (fun _ _ _ _ h => h)) (pa_cons (pv 1) (pa_cons (pe_callB call_len_seq (by rfl) T.len PySem.boot_len (pa_cons (pe_fld (pv 0) rfl) pa_nil)) (pa_cons pe_str pa_nil)))))
      (pss_one (ps_ret (pe_callB (cr_sum rfl) (by rfl) T.sum (by decide +kernel) (pa_cons (pe_lc (own := [("bar", 3)]) (g := gName 3) (tt := tYes) (te := tOp (rIxT K) (tFld K (tVar 0) "lengths") (tVar 3)) rfl nd (pi_tup (pv 2))
        (blkOk_by (N := nLenOf) (sc := defScope sRingLengthOf) (by decide +kernel)) (fun _ _ _ _ _ => pg_name (i := 3) nd rfl (Or.inl rfl)) (fun _ _ _ _ _ => pts_nil) (fun _ _ _ _ _ => pe_ix (r := rIxT K) ix_tup (pe_fld (pv 0) rfl) (pv 3) (fun _ _ => rfl))) pa_nil)))), ?_⟩
    obtain ⟨r, v, ls, rfl, ⟨dx, t, hr0, ht, hf⟩, l8, q⟩ := h
    refine ⟨_, rfl, _, rfl, r, C, dx, _, _, rfl, hr0, R.cl, R.nL, rf_lengths _ _, t, _, rfl, .inr ht, v, ls.length, "lot", by rw [List.length_map]; rfl, q.fine fun ns hns al q => ?_⟩
    intro p ms H1 pm s1 hp
    have hms : ms.length ≤ 1000 := by rw [pm.length_eq]; exact hns
    refine ⟨_, rfl, p, rfl, ⟨_, .inl (.inl hp)⟩, fun D hD => ?_⟩
    have hD0 := s1.free hD
    refine lc_tup (K := K) (a := p) (xs := ms.map V.int) (fun i H' => Same H H' ∧ H' p = some (.tup (ms.map V.int)) ∧ H' D = some (.lst (((ms.take i).map fun b => ls.getD b.toNat 0).map V.int))) ⟨s1.new hD, by rw [upd_ne (ne_of_none hp hD)]; exact hp, upd_same⟩ (fun i H' _ q => .inl (.inl q.2.1)) ?_ ?_
    · rintro i x H' hi ⟨s2, h1, h2⟩
      obtain ⟨z, hz, rfl⟩ := int_at hi
      have hil : i < ms.length := (List.getElem?_eq_some_iff.mp hz).1
      have az := al z (pm.mem_iff.mp (List.mem_of_getElem? hz))
      refine ⟨rfl, _, rfl, r, C, dx, _, _, rfl, s2 _ _ hr0, R.cl, R.nL, rf_lengths _ _, _, rfl, t, _, z, _, rfl, rfl, s2.tup ht, get_len (isBar_iff.mp az).1 (isBar_iff.mp az).2, _, h2, (by rw [List.length_map, List.length_map, List.length_take]; exact sm (by omega)), s2.mut hD0, by rw [upd_ne (ne_of_none hp hD)]; exact h1, ?_⟩
      rw [upd_same, ← take_snoc hz, List.map_append, List.map_append]
      rfl
    · rintro H' ⟨s2, h1, h2⟩
      rw [List.length_map, List.take_length] at h2
      refine ⟨D, _, rfl, SqL.of h2, ?_⟩
      have q2 := q H' s2
      rw [← lsum_perm pm] at q2
      exact q2
def sbV (e : Int) : Str := if e = 0 then "level" else if e < 0 then "short" else "long"
def spSortBy : Sp := fun vs H Q _ => ∃ e : Int, vs = [.int e] ∧ Q (.str (sbV e)) H
theorem scSortBy : FnScope ["excess"] ["excess"] (defScope sSortBy) := ⟨rfl, rfl, rfl, by decide +kernel, rfl, by decide +kernel, by decide +kernel⟩
theorem ok_sortBy {f : Addr} {fd : FuncData} (F : Fun K "sort_by" "sort_by" sSortBy f fd) : FnOk P w K mg base CX0 1 f fd ["excess"] spSortBy := by
  refine F.ok scSortBy (fun vs H Q E h => ?_) (fun cdv A outer s H vs Q E hr h => ?_)
  · obtain ⟨e, rfl, _⟩ := h
    rfl
  · refine ⟨_, pss_cons (ps_if (pt_cmpR op_eq (pv 0) pe_int (nomark _)) (pss_one (ps_ret pe_str)) pss_nil)
      (pss_one (ps_ret (pe_ifExp (pt_cmpR op_lt (pv 0) pe_int (nomark _)) pe_str pe_str))), ?_⟩
    obtain ⟨e, rfl, q⟩ := h
    unfold sbV at q
    refine ⟨_, rfl, rfl, _, rfl, ?_⟩
    by_cases c : e = 0
    · rw [if_pos c] at q
      exact iteDT (congrArg V.int c) q
    · rw [if_neg c] at q
      refine iteDF (fun z => c (V.int.inj z)) ?_
      refine ⟨_, rfl, _, _, rfl, rfl, _, rfl, ?_⟩
      by_cases c2 : e < 0
      · rw [if_pos c2] at q
        exact iteDT c2 q
      · rw [if_neg c2] at q
        exact iteDF c2 q
theorem sbV_sort (ls ns : List Int) : sbV (2 * lsum ls ns - ls.sum) = sortV ls ns := by
  unfold sbV sortV
  by_cases c : 2 * lsum ls ns = ls.sum
  · rw [if_pos c, if_pos (by omega)]
  · rw [if_neg c, if_neg (by omega)]
    by_cases d : 2 * lsum ls ns < ls.sum
    · rw [if_pos d, if_pos (by omega)]
    · rw [if_neg d, if_neg (by omega)]
abbrev nSortOf : List Str := ["self", "lot"]
theorem scSortOf : FnScope nSortOf ["self", "lot"] (defScope sRingSortOf) := ⟨rfl, rfl, rfl, by decide +kernel, rfl, by decide +kernel, by decide +kernel⟩
def spSortOf (K : PySem.W.Frag) (C : Addr) (c : Cs) : Sp := fun vs H Q E => ∃ (r : Addr) (v : V) (ls : List Int), vs = [.ref r, v] ∧ RingAt K C H r ls ∧ ls.length ≤ 8 ∧ LotV K H E c ls.length "lot" v fun ns => ∀ H', Same H H' → Q (.str (sortV ls ns)) H'
theorem ok_sortOf {C f fL fB : Addr} {c : Cs} {fd fdL fdB : FuncData} (F : Fun K "sort_of" "Ring.sort_of" sRingSortOf f fd) (R : RingC K mg C) (M : Meth K C "length_of" fL) (L : FnOk P w K mg base (L2.CX P w) 5 fL fdL ["self", "lot"] (spLenOf K C c)) (LB : Binds K fdL ["self", "lot"] []) (SB : DefAt P w K mg base CX0 1 "sort_by" ["excess"] spSortBy fB fdB) : FnOk P w K mg base (L2.CX P w) 6 f fd ["self", "lot"] (spSortOf K C c) := by
  refine F.okX scSortOf (fun vs H Q E h => ?_) (fun cdv A outer s H vs Q E hr h => ?_)
  · obtain ⟨r, v, ls, rfl, _⟩ := h
    rfl
  · have nd := scSortOf.nd
    refine ⟨_, pss_one (ps_ret (pe_call SB.ok (hr.mono (by decide)) rfl SB.g SB.kp SB.b .nil pass0 (pa_cons (pe_op op_sub (pe_op op_mul pe_int (pe_meth (pv 0) R.cl M L hr LB .nil (passes_call (takes_of rfl rfl rfl rfl) (fun _ _ _ _ h => h)) (pa_cons (pv 1) pa_nil))) (pe_fld (pv 0) rfl)) pa_nil))), ?_⟩
    obtain ⟨r, v, ls, rfl, ⟨dx, t, hr0, ht, hf⟩, l8, q⟩ := h
    refine ⟨_, rfl, r, dx, _, rfl, hr0, rf_no _ _ (by decide +kernel) (by decide +kernel) (by decide +kernel) (by decide +kernel), _, rfl, r, v, ls, rfl, ⟨dx, t, hr0, ht, hf⟩, l8, q.imp fun ns q => ?_⟩
    intro H1 s1
    have hr1 := s1 _ _ hr0
    refine ⟨_, _, rfl, rfl, .inl ⟨by decide, by decide⟩, _, rfl, r, C, dx, _, _, rfl, hr1, R.cl, R.nT, rf_total _ _, _, _, rfl, rfl, _, rfl, ?_⟩
    have q1 := q H1 s1
    rw [← sbV_sort] at q1
    exact q1
end
end K
namespace K
open PySem L2 Rg
open Evl (pss_cut)
section
variable {P : Program} {w : World} {K : PySem.W.Frag} {mg : Str → Option Value} {base : Heap}
theorem kit_self {K : PySem.W.Frag} {C : Addr} : PySem.W.kitOne K (.ref C) (.ref C) = some true := by
  unfold PySem.W.kitOne
  simp
def spWantR (K : PySem.W.Frag) (C : Addr) : Sp := fun vs H Q _ => ∃ (r : Addr) (ls : List Int) (part : Str), vs = [.ref r, .str part] ∧ RingAt K C H r ls ∧ Q .non H
theorem scWantR : FnScope ["value", "part"] ["value", "part"] (defScope sWantRing) := ⟨rfl, rfl, rfl, by decide +kernel, rfl, by decide +kernel, by decide +kernel⟩
theorem ok_wantR {C f : Addr} {fd : FuncData} (F : Fun K "want_ring" "want_ring" sWantRing f fd) (T : Bi mg) (R : RingC K mg C) : FnOk P w K mg base CX0 1 f fd ["value", "part"] (spWantR K C) := by
  refine F.ok scWantR (fun vs H Q E h => ?_) (fun cdv A outer s H vs Q E hr h => ?_)
  · obtain ⟨r, ls, part, rfl, _⟩ := h
    rfl
  · refine ⟨_, pss_one (ps_if (pt_not (pt_val (pe_callB call_isi (by rfl) T.isinstance (by decide +kernel) (pa_cons (pv 0) (pa_cons (pe_glob (v := .ref C) rfl R.g rfl) pa_nil))))) (pss_one ps_never) pss_nil), ?_⟩
    obtain ⟨r, ls, part, rfl, ⟨dx, t, hr0, ht, hf⟩, q⟩ := h
    refine ⟨_, rfl, .ref r, .ref C, _, _, _, rfl, .own C, .base (.ins hr0 R.cl R.ha R.hn R.ht R.hm), kit_self, ?_⟩
    exact ⟨_, rfl, iteF q⟩
/-! ### too_long -/
def tooV (ls : List Int) (v : V) : Prop := (closesB ls = true → v = .non) ∧ (closesB ls = false → ∃ (j : Nat) (m : Int), v = .int (j : Nat) ∧ ls[j]? = some m ∧ (∀ y ∈ ls, y ≤ m) ∧ ∀ i, i < j → ls[i]? ≠ some m)
def spTooL (K : PySem.W.Frag) (C : Addr) : Sp := fun vs H Q _ => ∃ (r : Addr) (ls : List Int), vs = [.ref r] ∧ RingAt K C H r ls ∧ 0 < ls.length ∧ ∀ v, tooV ls v → Q v H
theorem scTooL : FnScope ["ring"] ["ring"] (defScope sTooLong) := ⟨rfl, rfl, rfl, by decide +kernel, rfl, by decide +kernel, by decide +kernel⟩
theorem first_at {ls : List Int} {m : Int} (h : m ∈ ls) : ∃ j : Nat, ls[j]? = some m ∧ ∀ i, i < j → ls[i]? ≠ some m := by
  induction ls with
  | nil => cases h
  | cons x l ih =>
    by_cases e : x = m
    · exact ⟨0, by rw [e]; rfl, fun i hi => by omega⟩
    · obtain ⟨j, h1, h2⟩ := ih ((List.mem_cons.mp h).resolve_left fun z => e z.symm)
      refine ⟨j + 1, h1, fun i hi => ?_⟩
      cases i with
      | zero => exact fun z => e (Option.some.inj z)
      | succ i => exact h2 i (by omega)
theorem ok_tooL {C f fW : Addr} {fd fdW : FuncData} (F : Fun K "too_long" "too_long" sTooLong f fd) (T : Bi mg) (R : RingC K mg C) (W : DefAt P w K mg base CX0 1 "want_ring" ["value", "part"] (spWantR K C) fW fdW) : FnOk P w K mg base CX0 2 f fd ["ring"] (spTooL K C) := by
  refine F.ok scTooL (fun vs H Q E h => ?_) (fun cdv A outer s H vs Q E hr h => ?_)
  · obtain ⟨r, ls, rfl, _⟩ := h
    rfl
  · refine ⟨_, pss_cons (ps_expr (pe_call W.ok hr rfl W.g W.kp W.b .nil pass0 (pa_cons (pv 0) (pa_cons pe_str pa_nil))))
      (pss_cons (ps_if (pt_val (pe_fld (pv 0) rfl)) (pss_one (ps_ret pe_non)) pss_nil)
      (pss_one (ps_ret (pe_mG ty_tf PySem.F.plainAttrs_tuple PySem.F.slot_tuple_index PySem.F.type_tuple_index mt_tupIdx (pe_fld (pv 0) rfl) (pa_cons (pe_callB (cr_maxT rfl) (by rfl) T.max (by decide +kernel) (pa_cons (pe_fld (pv 0) rfl) pa_nil)) pa_nil))))), ?_⟩
    obtain ⟨r, ls, rfl, ⟨dx, t, hr0, ht, hf⟩, l0, q⟩ := h
    have W1 : RingAt K C H r ls := ⟨dx, t, hr0, ht, hf⟩
    refine ⟨_, rfl, r, ls, _, rfl, W1, _, rfl, r, C, dx, _, _, rfl, hr0, R.cl, R.nC, rf_closes _ _, _, rfl, ?_⟩
    cases e : closesB ls with
    | true => exact ite2 (fun _ => q _ ⟨fun _ => rfl, fun z => by rw [e] at z; cases z⟩) (fun z => absurd rfl z)
    | false =>
      refine ite2 (fun z => by cases z) (fun _ => ?_)
      refine ⟨_, rfl, r, C, dx, _, _, rfl, hr0, R.cl, R.nL, rf_lengths _ _, ⟨t, hf.choose, _, rfl, hf.choose_spec.1, hf.choose_spec.2⟩, _, rfl, r, C, dx, _, _, rfl, hr0, R.cl, R.nL, rf_lengths _ _, t, ls, rfl, ht, l0, fun m hm hx => ?_⟩
      obtain ⟨j, h1, h2⟩ := first_at hm
      exact ⟨t, ls, m, j, rfl, rfl, ht, h1, h2, q _ ⟨fun z => (by rw [e] at z; cases z), fun _ => ⟨j, m, rfl, h1, hx, h2⟩⟩⟩
end
end K
namespace K
open PySem L2 Rg
open Evl (pss_cut)
/-! ### all lots -/
def lotsN : Nat → List (List Int)
  | 0 => [[]]
  | n + 1 => lotsN n ++ (lotsN n).map (· ++ [(n : Int)])
def barsN : Nat → List Int
  | 0 => []
  | n + 1 => barsN n ++ [(n : Int)]
theorem lotsN_succ (n : Nat) : lotsN (n + 1) = lotsN n ++ (lotsN n).map (· ++ [(n : Int)]) := rfl
theorem barsN_succ (n : Nat) : barsN (n + 1) = barsN n ++ [(n : Int)] := rfl
theorem barsN_length : ∀ n, (barsN n).length = n
  | 0 => rfl
  | n + 1 => by unfold barsN; rw [List.length_append, barsN_length n]; rfl
theorem lotsN_length : ∀ n, (lotsN n).length = 2 ^ n
  | 0 => rfl
  | n + 1 => by unfold lotsN; rw [List.length_append, List.length_map, lotsN_length n, Nat.pow_succ]; omega
theorem lotsN_len : ∀ n, ∀ l ∈ lotsN n, l.length ≤ n
  | 0, l, h => by rw [List.mem_singleton.mp h]; exact Nat.le_refl _
  | n + 1, l, h => by
    rcases List.mem_append.mp h with h | h
    · exact Nat.le_succ_of_le (lotsN_len n l h)
    · obtain ⟨a, ha, rfl⟩ := List.mem_map.mp h
      have := lotsN_len n a ha
      rw [List.length_append, List.length_singleton]
      omega
theorem lotsN_full : ∀ n, ∀ l ∈ lotsN n, l.length = n → l = barsN n
  | 0, l, h, _ => List.mem_singleton.mp h
  | n + 1, l, h, hl => by
    rcases List.mem_append.mp h with h | h
    · have := lotsN_len n l h
      omega
    · obtain ⟨a, ha, rfl⟩ := List.mem_map.mp h
      rw [List.length_append, List.length_singleton] at hl
      rw [lotsN_full n a ha (by omega)]
      rfl
theorem lotsN_in : ∀ n, ∀ l ∈ lotsN n, ∀ b ∈ l, 0 ≤ b ∧ b < n
  | 0, l, h, b, hb => by rw [List.mem_singleton.mp h] at hb; cases hb
  | n + 1, l, h, b, hb => by
    rcases List.mem_append.mp h with h | h
    · have := lotsN_in n l h b hb
      omega
    · obtain ⟨a, ha, rfl⟩ := List.mem_map.mp h
      rcases List.mem_append.mp hb with hb | hb
      · have := lotsN_in n a ha b hb
        omega
      · rw [List.mem_singleton.mp hb]
        omega
theorem lotsN_nodup : ∀ n, ∀ l ∈ lotsN n, l.Nodup
  | 0, l, h => by rw [List.mem_singleton.mp h]; exact List.nodup_nil
  | n + 1, l, h => by
    rcases List.mem_append.mp h with h | h
    · exact lotsN_nodup n l h
    · obtain ⟨a, ha, rfl⟩ := List.mem_map.mp h
      rw [List.nodup_append]
      refine ⟨lotsN_nodup n a ha, by simp, fun x hx y hy => ?_⟩
      have := lotsN_in n a ha x hx
      rw [List.mem_singleton.mp hy]
      omega
theorem lotsN_nil : ∀ n, [] ∈ lotsN n
  | 0 => List.mem_singleton.mpr rfl
  | n + 1 => List.mem_append_left _ (lotsN_nil n)
theorem barsN_mem : ∀ n, barsN n ∈ lotsN n
  | 0 => List.mem_singleton.mpr rfl
  | n + 1 => List.mem_append_right _ (List.mem_map.mpr ⟨_, barsN_mem n, rfl⟩)
/-- the sums of the lengths are those of all lots -/
theorem lots_sums {ls : List Int} : ∀ n, n ≤ ls.length → (lotsN n).map (lsum ls) = sumsOf (ls.take n)
  | 0, _ => rfl
  | n + 1, h => by
    have hz : ls[n]? = some ls[n] := List.getElem?_eq_getElem h
    have ih := lots_sums (ls := ls) n (by omega)
    rw [sums_take hz, ← ih, lotsN_succ, List.map_append, List.map_map, List.map_map]
    congr 1
    refine List.map_congr_left fun l _ => ?_
    show lsum ls (l ++ [(n : Int)]) = lsum ls l + ls[n]
    unfold lsum
    rw [List.map_append, List.sum_append, List.map_singleton, List.sum_singleton, List.getD_eq_getElem?_getD, Int.toNat_natCast, hz]
    rfl
theorem level_lots (ls : List Int) : levelB ls = (lotsN ls.length).any fun l => decide (2 * lsum ls l = ls.sum) := by
  have h := lots_sums (ls := ls) ls.length (Nat.le_refl _)
  rw [List.take_length] at h
  unfold levelB
  rw [← h, List.any_map]
  rfl
theorem sum_bars {ls : List Int} : ∀ n, n ≤ ls.length → lsum ls (barsN n) = (ls.take n).sum
  | 0, _ => rfl
  | n + 1, h => by
    have hz : ls[n]? = some ls[n] := List.getElem?_eq_getElem h
    rw [← take_snoc hz, List.sum_append, ← sum_bars n (by omega), barsN_succ]
    unfold lsum
    rw [List.map_append, List.sum_append, List.map_singleton, List.sum_singleton, List.sum_singleton, List.getD_eq_getElem?_getD, Int.toNat_natCast, hz]
    rfl
section
variable {P : Program} {w : World} {K : PySem.W.Frag} {mg : Str → Option Value} {base : Heap}
/-- lots in a heap: kf tells the bars of each -/
def LotsAt (H : Hp) (xs : List V) (kf : V → List Int) : Prop := ∀ x ∈ xs, ∃ a, x = .ref a ∧ H a = some (.tup ((kf x).map V.int))
theorem LotsAt.same {H H' : Hp} {xs : List V} {kf : V → List Int} (h : LotsAt H xs kf) (s : Same H H') : LotsAt H' xs kf := fun x hx => let ⟨a, e, q⟩ := h x hx; ⟨a, e, s _ _ q⟩
/-- refs to tuples of ints, what they hold -/
def TL (H : Hp) : List V → List (List Int) → Prop := Paired fun x ns => ∃ a, x = V.ref a ∧ H a = some (.tup (ns.map V.int))
def PL (H : Hp) : List V → List (List Int) → Prop := Paired fun x ns => ∃ t b, x = V.ref t ∧ H t = some (.tup [.int (ns.length : Nat), .ref b]) ∧ H b = some (.tup (ns.map V.int))
theorem par_imp {α β : Type} {R S : α → β → Prop} (i : ∀ a b, R a b → S a b) : ∀ {xs : List α} {ys : List β}, Paired R xs ys → Paired S xs ys
  | _, _, .nil => .nil
  | _, _, .cons h t => .cons (i _ _ h) (par_imp i t)
theorem par_app {α β : Type} {R : α → β → Prop} : ∀ {xs : List α} {ys : List β} {zs : List α} {ws : List β}, Paired R xs ys → Paired R zs ws → Paired R (xs ++ zs) (ys ++ ws)
  | _, _, _, _, .nil, q => q
  | _, _, _, _, .cons h t, q => .cons h (par_app t q)
theorem par_len {α β : Type} {R : α → β → Prop} : ∀ {xs : List α} {ys : List β}, Paired R xs ys → xs.length = ys.length
  | _, _, .nil => rfl
  | _, _, .cons _ t => congrArg (· + 1) (par_len t)
theorem par_get {α β : Type} {R : α → β → Prop} : ∀ {xs : List α} {ys : List β}, Paired R xs ys → ∀ {i : Nat} {x : α}, xs[i]? = some x → ∃ y, ys[i]? = some y ∧ R x y
  | _, _, .cons h t, 0, x, e => ⟨_, rfl, by cases e; exact h⟩
  | _, _, .cons h t, i + 1, x, e => par_get t (by simpa using e)
theorem par_mem {α β : Type} {R : α → β → Prop} : ∀ {xs : List α} {ys : List β}, Paired R xs ys → ∀ {x : α}, x ∈ xs → ∃ y ∈ ys, R x y
  | _, _, .cons h t, x, e => by
    rcases List.mem_cons.mp e with rfl | e
    · exact ⟨_, List.mem_cons_self .., h⟩
    · obtain ⟨y, hy, r⟩ := par_mem t e
      exact ⟨y, List.mem_cons_of_mem _ hy, r⟩
theorem par_mem2 {α β : Type} {R : α → β → Prop} : ∀ {xs : List α} {ys : List β}, Paired R xs ys → ∀ {y : β}, y ∈ ys → ∃ x ∈ xs, R x y
  | _, _, .cons h t, y, e => by
    rcases List.mem_cons.mp e with rfl | e
    · exact ⟨_, List.mem_cons_self .., h⟩
    · obtain ⟨x, hx, r⟩ := par_mem2 t e
      exact ⟨x, List.mem_cons_of_mem _ hx, r⟩
theorem par_map {α β : Type} {R : α → β → Prop} {f : α → β} (i : ∀ a b, R a b → f a = b) : ∀ {xs : List α} {ys : List β}, Paired R xs ys → xs.map f = ys
  | _, _, .nil => rfl
  | _, _, .cons h t => by rw [List.map_cons, i _ _ h, par_map i t]
theorem TL.same {H H' : Hp} {xs : List V} {nss : List (List Int)} (h : TL H xs nss) (s : Same H H') : TL H' xs nss := par_imp (fun _ _ ⟨a, e, q⟩ => ⟨a, e, s _ _ q⟩) h
theorem PL.same {H H' : Hp} {xs : List V} {nss : List (List Int)} (h : PL H xs nss) (s : Same H H') : PL H' xs nss := par_imp (fun _ _ ⟨t, b, e, q, r⟩ => ⟨t, b, e, s _ _ q, s _ _ r⟩) h
def vint : V → Int
  | .int z => z
  | _ => 0
theorem vints : ∀ ns : List Int, (ns.map V.int).map vint = ns
  | [] => rfl
  | n :: ns => by rw [List.map_cons, List.map_cons, vints ns]; rfl
def cont (H : Hp) (x : V) : List Int := match x with
  | .ref a => (match H a with
    | some (.tup ys) => ys.map vint
    | _ => [])
  | _ => []
theorem cont_at {H : Hp} {a : Addr} {ns : List Int} (h : H a = some (.tup (ns.map V.int))) : cont H (.ref a) = ns := by
  show (match H a with
    | some (.tup ys) => ys.map vint
    | _ => []) = ns
  rw [h]
  exact vints ns
def lotOf (H : Hp) (x : V) : V := match x with
  | .ref a => (match H a with
    | some (.tup [_, b]) => b
    | _ => .non)
  | _ => .non
theorem lotOf_at {H : Hp} {a : Addr} {x y : V} (h : H a = some (.tup [x, y])) : lotOf H (.ref a) = y := by
  show (match H a with
    | some (.tup [_, b]) => b
    | _ => .non) = y
  rw [h]
/-- what a pair is sorted by -/
def keyOf (H : Hp) (x : V) : Int × List Int := (((cont H (lotOf H x)).length : Nat), cont H (lotOf H x))
theorem keyOf_at {H : Hp} {x : V} {ns : List Int} (h : ∃ t b, x = V.ref t ∧ H t = some (.tup [.int (ns.length : Nat), .ref b]) ∧ H b = some (.tup (ns.map V.int))) : keyOf H x = (((ns.length : Nat) : Int), ns) := by
  obtain ⟨t, b, rfl, h1, h2⟩ := h
  unfold keyOf
  rw [lotOf_at h1, cont_at h2]
theorem sorted_first {ys : List V} {k : V → List Int} (h : ys.Pairwise fun u v => HT.lexLt (((k v).length : Int) :: k v) (((k u).length : Int) :: k u) = false) (h0 : ∃ y ∈ ys, k y = []) : ∀ y, ys[0]? = some y → k y = [] := by
  intro y hy
  cases ys with
  | nil => cases hy
  | cons z zs =>
    obtain rfl : z = y := Option.some.inj hy
    obtain ⟨u, hu, e⟩ := h0
    rcases List.mem_cons.mp hu with rfl | hu
    · exact e
    · have q := (List.pairwise_cons.mp h).1 u hu
      rw [e, HT.lexLt_cons] at q
      by_cases c : (([] : List Int).length : Int) = ((k z).length : Int)
      · exact List.eq_nil_of_length_eq_zero (by simp at c; omega)
      · rw [if_neg c] at q
        have := of_decide_eq_false q
        rw [List.length_nil] at this
        exact List.eq_nil_of_length_eq_zero (by omega)
theorem sorted_last {n : Nat} {ys : List V} {k : V → List Int} (h : ys.Pairwise fun u v => HT.lexLt (((k v).length : Int) :: k v) (((k u).length : Int) :: k u) = false) (hn : ∀ y ∈ ys, (k y).length ≤ n) (h0 : ∃ y ∈ ys, (k y).length = n) : ∀ y, ys[ys.length - 1]? = some y → (k y).length = n := by
  intro y hy
  obtain ⟨u, hu, e⟩ := h0
  obtain ⟨i, hi, eu⟩ := List.mem_iff_getElem.mp hu
  obtain ⟨hj, ey⟩ := List.getElem?_eq_some_iff.mp hy
  by_cases c : i = ys.length - 1
  · subst c
    rw [← ey, eu, e]
  · have q := (List.pairwise_iff_getElem.mp h) i (ys.length - 1) hi hj (by omega)
    rw [eu, ey, HT.lexLt_cons] at q
    have b := hn y (List.mem_of_getElem? hy)
    by_cases d : ((k y).length : Int) = ((k u).length : Int)
    · omega
    · rw [if_neg d] at q
      have := of_decide_eq_false q
      omega
def rLenS (K : PySem.W.Frag) : List V → Hp → VK → Prop := fun xs H Q => ∃ p ys, xs = [.ref p] ∧ (SqL K H p ys ∨ SqT K H p ys) ∧ Q (.int ys.length) H
def spLots (K : PySem.W.Frag) : Sp := fun vs H Q _ => ∃ n : Nat, vs = [.int n] ∧ 1 ≤ n ∧ n ≤ 8 ∧
  ∀ (p : Addr) (xs : List V) (kf : V → List Int) (H' : Hp), Same H H' → H' p = some (.lst xs) → LotsAt H' xs kf → (xs.map kf).Perm (lotsN n) → (∀ x, xs[0]? = some x → kf x = []) → (∀ x, xs[xs.length - 1]? = some x → kf x = barsN n) → Q (.ref p) H'
abbrev nLots : List Str := ["_law_many", "_law_found", "_law_bar", "_law_lot", "_law_size"]
theorem scLots : FnScope nLots ["_law_many"] (defScope sLwLots) := ⟨rfl, rfl, rfl, by decide +kernel, rfl, by decide +kernel, by decide +kernel⟩
theorem ok_lots {f : Addr} {fd : FuncData} (F : Fun K "_law_lots" "_law_lots" sLwLots f fd) (T : Bi mg) : FnOk P w K mg base CX0 2 f fd ["_law_many"] (spLots K) := by
  refine F.ok scLots (fun vs H Q E h => ?_) (fun cdv A outer s H vs Q E hr h => ?_)
  · obtain ⟨n, rfl, _⟩ := h
    rfl
  · have nd := scLots.nd
    refine ⟨_, pss_cons (ps_set (i := 1) nd rfl (Or.inl rfl) (pe_lst (pa_cons (pe_tup pa_nil) pa_nil)))
      (pss_cons (ps_for PassesOwn.never rfl (pi_range1 (by rfl) T.range (pa_cons (pv 0) pa_nil)) (pg_name (i := 2) nd rfl (Or.inr rfl)) (pss_one (ps_set (i := 1) nd rfl (Or.inl rfl) (pe_op op_cat (pv 1) (pe_lc (own := [("_law_lot", 3)]) (g := gName 3) (tt := tYes) (te := tOp (rCatA K) (tVar 3) (tTup (tCons (tVar 2) tNil))) rfl nd (pi_list (pv 1))
        (blkOk_by (N := nLots) (sc := defScope sLwLots) (by decide +kernel)) (fun _ _ _ _ _ => pg_name (i := 3) nd rfl (Or.inl rfl)) (fun _ _ _ _ _ => pts_nil) (fun _ _ _ _ _ => pe_op op_catA (pv 3) (pe_tup (pa_cons (pv 2) pa_nil))))))))
      (pss_one (ps_ret (pe_lc (own := [("_law_size", 4), ("_law_lot", 3)]) (g := gTup K 2 (gCons (gName 4) (gCons (gName 3) gNil))) (tt := tYes) rfl nd
        (pi_list (pe_callB (cr_sortedN hr.units) (by rfl) T.sorted (by decide +kernel) (pa_cons (pe_lc (own := [("_law_lot", 3)]) (g := gName 3) (tt := tYes) (te := tTup (tCons (tCB (rLenS K) (tCons (tVar 3) tNil)) (tCons (tVar 3) tNil))) rfl nd (pi_list (pv 1))
          (blkOk_by (N := nLots) (sc := defScope sLwLots) (by decide +kernel)) (fun _ _ _ _ _ => pg_name (i := 3) nd rfl (Or.inl rfl)) (fun _ _ _ _ _ => pts_nil) (fun _ _ _ _ _ => pe_tup (pa_cons (pe_callB (r := rLenS K) call_len_seq (by rfl) T.len PySem.boot_len (pa_cons (pv 3) pa_nil)) (pa_cons (pv 3) pa_nil)))) pa_nil)))
        (blkOk_by (N := nLots) (sc := defScope sLwLots) (by decide +kernel)) (fun _ _ _ _ _ => pg_tup rfl (pgs_cons (pg_name (i := 4) nd rfl (Or.inl rfl)) (pgs_cons (pg_name (i := 3) nd rfl (Or.inl rfl)) pgs_nil))) (fun _ _ _ _ _ => pts_nil) (fun _ _ _ _ _ => pv 3))))), ?_⟩
    obtain ⟨n, rfl, n1, n8, q⟩ := h
    refine ⟨(by show 0 ≤ sizeLine; decide), fun e0 he0 => ⟨(by show 1 ≤ sizeLine; decide), fun l0 hl0 => ?_⟩⟩
    have s0 : Same H (upd (upd H e0 (.tup [])) l0 (.lst [.ref e0])) := ((Same.refl H).new he0).new hl0
    have he1 : upd (upd H e0 (.tup [])) l0 (.lst [.ref e0]) e0 = some (.tup []) := by rw [upd_ne (ne_of_none upd_same hl0), upd_same]
    refine ⟨_, rfl, _, rfl, by omega, by omega, ?_⟩
    refine for_range (lo := 0) (n := ((n : Nat) : Int).toNat) (fun i σ H' => ∃ (l : Addr) (t : Option V) (xs : List V), σ = [some (.int n), some (.ref l), t, none, none] ∧ Same H H' ∧ H' l = some (.lst xs) ∧ TL H' xs (lotsN i))
      ⟨l0, none, [.ref e0], rfl, s0, upd_same, .cons ⟨e0, rfl, he1⟩ .nil⟩ ?_ ?_
    · rintro i σ H' hi ⟨l, t, xs, rfl, s1, h1, tl⟩
      have hi8 : i < 8 := by omega
      have hxl : xs.length = 2 ^ i := by rw [par_len tl, lotsN_length]
      have h256 : 2 ^ i ≤ 128 := Nat.pow_le_pow_right (by decide) (show i ≤ 7 by omega)
      rw [Int.zero_add]
      refine ⟨_, rfl, _, rfl, l, rfl, ⟨_, SqL.of h1⟩, fun D hD => ?_⟩
      refine lc_list (K := K) (a := l) (xs := xs) (fun j H2 => Same H' H2 ∧ ∃ ys, H2 D = some (.lst ys) ∧ TL H2 ys (((lotsN i).take j).map (· ++ [(i : Int)]))) ⟨(Same.refl H').new hD, [], upd_same, .nil⟩ (fun j H2 _ p => p.1.seq (SqL.of h1)) ?_ ?_
      · rintro j y H2 hj ⟨s2, ys, h2, yl⟩
        obtain ⟨ns, hns, a, rfl, ha⟩ := par_get tl hj
        have ha2 := s2 _ _ ha
        have hjl : j < (lotsN i).length := (List.getElem?_eq_some_iff.mp hns).1
        have hyl : ys.length < sizeLine := by
          have := lotsN_length i
          rw [par_len yl, List.length_map, List.length_take]
          exact sm (by omega)
        have fin : ∀ (c : Addr) (H3 : Hp), Same H2 H3 → H3 c = some (.tup ((ns ++ [(i : Int)]).map V.int)) → ∃ acc, H3 D = some (.lst acc) ∧ acc.length < sizeLine ∧ (Same H' (upd H3 D (.lst (acc ++ [.ref c]))) ∧ ∃ zs, upd H3 D (.lst (acc ++ [.ref c])) D = some (.lst zs) ∧ TL (upd H3 D (.lst (acc ++ [.ref c]))) zs (((lotsN i).take (j + 1)).map (· ++ [(i : Int)]))) := by
          intro c H3 s3 hc
          have sD : Same H' (upd H3 D (.lst (ys ++ [.ref c]))) := (s2.trans s3).mut hD
          have s4 : ∀ (q : Addr) (zs : List V), H3 q = some (.tup zs) → upd H3 D (.lst (ys ++ [.ref c])) q = some (.tup zs) := fun q zs hq => by
            rw [upd_ne fun e => ?_]
            · exact hq
            · rw [e, s3 _ _ h2] at hq
              cases hq
          refine ⟨ys, s3 _ _ h2, hyl, sD, _, upd_same, ?_⟩
          rw [← take_snoc hns, List.map_append]
          exact par_app (par_imp (fun _ _ ⟨q, e, hq⟩ => ⟨q, e, s4 _ _ hq⟩) (yl.same s3)) (.cons ⟨c, rfl, s4 _ _ hc⟩ .nil)
        refine ⟨rfl, _, rfl, _, rfl, (by show 1 ≤ sizeLine; decide), fun b hb => ⟨a, b, ns.map V.int, [.int i], rfl, rfl, .inl (.inl (by rw [upd_ne (ne_of_none ha2 hb)]; exact ha2)), .inl (.inl upd_same), ?_, fun e => ?_, (fun _ z => by cases z), fun _ _ p hp => ?_⟩⟩
        · have := lotsN_len i ns (List.mem_of_getElem? hns)
          rw [List.length_map, List.length_singleton]
          exact Nat.le_of_lt (sm (by omega))
        · have e' : ns = [] := by cases ns with
            | nil => rfl
            | cons _ _ => cases e
          subst e'
          exact fin b _ ((Same.refl H2).new hb) upd_same
        · refine fin p _ (((Same.refl H2).new hb).new hp) ?_
          rw [upd_same, List.map_append]
          rfl
      · rintro H2 ⟨s2, ys, h2, yl⟩
        have eh : xs.length = (lotsN i).length := par_len tl
        rw [eh, List.take_length] at yl
        refine ⟨l, D, _, _, rfl, rfl, s2 _ _ h1, h2, ?_, fun p hp => ⟨p, _, _, rfl, (s1.trans s2).new hp, upd_same, ?_⟩⟩
        · rw [par_len yl, List.length_map, ← eh]
          exact Nat.le_of_lt (sm (by omega))
        · have s3 : Same H2 (upd H2 p (.lst (xs ++ ys))) := (Same.refl H2).new hp
          rw [lotsN_succ]
          exact par_app (tl.same (s2.trans s3)) (yl.same s3)
    · rintro σ H' ⟨l, t, xs, rfl, s1, h1, tl⟩
      rw [Int.toNat_natCast] at tl
      have hxl : xs.length = 2 ^ n := by rw [par_len tl, lotsN_length]
      have h256 : 2 ^ n ≤ 256 := Nat.pow_le_pow_right (by decide) (show n ≤ 8 by omega)
      -- the pairs
      refine ⟨_, rfl, l, rfl, ⟨_, SqL.of h1⟩, fun D hD => ?_⟩
      refine lc_list (K := K) (a := l) (xs := xs) (fun j H2 => Same H' H2 ∧ ∃ ys, H2 D = some (.lst ys) ∧ PL H2 ys ((lotsN n).take j)) ⟨(Same.refl H').new hD, [], upd_same, .nil⟩ (fun j H2 _ p => p.1.seq (SqL.of h1)) ?_ ?_
      · rintro j y H2 hj ⟨s2, ys, h2, yl⟩
        obtain ⟨ns, hns, a, rfl, ha⟩ := par_get tl hj
        have ha2 := s2 _ _ ha
        refine ⟨rfl, _, rfl, a, _, rfl, .inr (.inl (.inl ha2)), _, rfl, (by show 2 ≤ sizeLine; decide), fun b hb => ⟨ys, by rw [upd_ne (ne_of_none h2 hb)]; exact h2, ?_, ((s2.new hb).mut hD), _, upd_same, ?_⟩⟩
        · have := lotsN_length n
          rw [par_len yl, List.length_take]
          exact sm (by omega)
        · have hbD : b ≠ D := (ne_of_none h2 hb).symm
          have haD : a ≠ D := fun e => by
            rw [e, h2] at ha2
            cases ha2
          have s4 : ∀ (q : Addr) (zs : List V), H2 q = some (.tup zs) → upd (upd H2 b (.tup [.int (ns.map V.int).length, .ref a])) D (.lst (ys ++ [.ref b])) q = some (.tup zs) := fun q zs hq => by
            rw [upd_ne fun e => ?_, upd_ne (ne_of_none hq hb)]
            · exact hq
            · rw [e, h2] at hq
              cases hq
          rw [← take_snoc hns]
          refine par_app (par_imp (fun _ _ ⟨t, b', e, q, r⟩ => ⟨t, b', e, s4 _ _ q, s4 _ _ r⟩) yl) (.cons ⟨b, a, rfl, ?_, s4 _ _ ha2⟩ .nil)
          rw [upd_ne hbD, upd_same, List.length_map]
      · rintro H2 ⟨s2, ys, h2, yl⟩
        have eh : xs.length = (lotsN n).length := par_len tl
        rw [eh, List.take_length] at yl
        have yk : ∀ y ∈ ys, ∃ ns ∈ lotsN n, ∃ t b, y = V.ref t ∧ H2 t = some (.tup [.int (ns.length : Nat), .ref b]) ∧ H2 b = some (.tup (ns.map V.int)) := fun y hy => par_mem yl hy
        refine ⟨D, ys, keyOf H2, rfl, SqL.of h2, fun y hy => ?_, fun zs p hz1 hz2 hp => ?_⟩
        · obtain ⟨ns, _, t, b, e, q1, q2⟩ := yk y hy
          rw [keyOf_at ⟨t, b, e, q1, q2⟩]
          exact ⟨t, b, e, q1, q2⟩
        have s3 : Same H2 (upd H2 p (.lst zs)) := (Same.refl H2).new hp
        have zl : zs.length = 2 ^ n := by rw [hz2.length_eq, par_len yl, lotsN_length]
        have zk : ∀ z ∈ zs, ∃ ns ∈ lotsN n, ∃ t b, z = V.ref t ∧ H2 t = some (.tup [.int (ns.length : Nat), .ref b]) ∧ H2 b = some (.tup (ns.map V.int)) := fun z hz => yk z (hz2.mem_iff.mp hz)
        refine ⟨p, rfl, ⟨_, SqL.of upd_same⟩, fun G hG => ?_⟩
        have hG2 := s3.free hG
        refine lc_list (K := K) (a := p) (xs := zs) (fun j H3 => Same H2 H3 ∧ H3 p = some (.lst zs) ∧ H3 G = some (.lst ((zs.take j).map (lotOf H2)))) ⟨s3.new hG, by rw [upd_ne (ne_of_none upd_same hG)]; exact upd_same, upd_same⟩ (fun j H3 _ q => SqL.of q.2.1) ?_ ?_
        · rintro j z H3 hj ⟨s5, h5, h6⟩
          obtain ⟨ns, _, t, b, rfl, q1, q2⟩ := zk z (List.mem_of_getElem? hj)
          have hjl : j < zs.length := (List.getElem?_eq_some_iff.mp hj).1
          refine ⟨t, _, rfl, .inl (.inl (s5 _ _ q1)), rfl, ⟨_, _, rfl, _, _, rfl, rfl, rfl, _, rfl, _, h6, (by rw [List.length_map, List.length_take]; exact sm (by omega)), s5.mut hG2, by rw [upd_ne (ne_of_none upd_same hG)]; exact h5, ?_⟩⟩
          rw [upd_same, ← take_snoc hj, List.map_append, List.map_singleton, lotOf_at q1]
        · rintro H3 ⟨s5, h5, h6⟩
          rw [List.take_length] at h6
          have kk : ∀ z ∈ zs, ∃ ns ∈ lotsN n, keyOf H2 z = (((ns.length : Nat) : Int), ns) ∧ cont H3 (lotOf H2 z) = ns ∧ ∃ b, lotOf H2 z = .ref b ∧ H3 b = some (.tup (ns.map V.int)) := fun z hz => by
            obtain ⟨ns, m, t, b, e, q1, q2⟩ := zk z hz
            subst e
            refine ⟨ns, m, keyOf_at ⟨t, b, rfl, q1, q2⟩, ?_, b, lotOf_at q1, s5 _ _ q2⟩
            rw [lotOf_at q1, cont_at (s5 _ _ q2)]
          have srt : zs.Pairwise fun u v => HT.lexLt (((cont H3 (lotOf H2 v)).length : Int) :: cont H3 (lotOf H2 v)) (((cont H3 (lotOf H2 u)).length : Int) :: cont H3 (lotOf H2 u)) = false := by
            refine List.Pairwise.imp_of_mem (fun {a b} ha hb r => ?_) hz1
            obtain ⟨na, _, ea, ca, _⟩ := kk a ha
            obtain ⟨nb, _, eb, cb, _⟩ := kk b hb
            dsimp only at r
            rw [ea, eb] at r
            rw [ca, cb]
            exact r
          have mp : (zs.map fun z => cont H3 (lotOf H2 z)).Perm (lotsN n) := by
            have e1 : zs.map (fun z => cont H3 (lotOf H2 z)) = zs.map fun z => (keyOf H2 z).2 := List.map_congr_left fun z hz => by
              obtain ⟨nz, _, ez, cz, _⟩ := kk z hz
              rw [ez, cz]
            have e2 : ys.map (fun z => (keyOf H2 z).2) = lotsN n := par_map (fun a b r => by rw [keyOf_at r]) yl
            rw [e1, ← e2]
            exact hz2.map _
          have zm : ∀ ns ∈ lotsN n, ∃ z ∈ zs, cont H3 (lotOf H2 z) = ns := fun ns m => by
            obtain ⟨z, hz, e⟩ := List.mem_map.mp (mp.mem_iff.mpr m)
            exact ⟨z, hz, e⟩
          refine q G _ (cont H3) H3 ((s1.trans s2).trans s5) h6 (fun x hx => ?_) (by rw [List.map_map]; exact mp) (fun x hx => ?_) (fun x hx => ?_)
          · obtain ⟨z, hz, rfl⟩ := List.mem_map.mp hx
            obtain ⟨ns, _, _, c, b, e, h⟩ := kk z hz
            refine ⟨b, e, ?_⟩
            rw [c]
            exact h
          · rw [List.getElem?_map] at hx
            obtain ⟨z, hz, rfl⟩ := Option.map_eq_some_iff.mp hx
            exact sorted_first srt (zm [] (lotsN_nil n)) z hz
          · rw [List.getElem?_map, List.length_map] at hx
            obtain ⟨z, hz, rfl⟩ := Option.map_eq_some_iff.mp hx
            obtain ⟨zf, hzf, ef⟩ := zm _ (barsN_mem n)
            obtain ⟨ns, m, _, c, _⟩ := kk z (List.mem_of_getElem? hz)
            have e3 := sorted_last srt (fun y hy => by
              obtain ⟨ny, my, _, cy, _⟩ := kk y hy
              rw [cy]
              exact lotsN_len n ny my) ⟨zf, hzf, by rw [ef, barsN_length]⟩ z hz
            rw [c] at e3
            rw [c]
            exact lotsN_full n ns m e3
end
end K
namespace K
open PySem L2 Rg
open Evl (pss_cut)
/-! ### a lot against all other bars -/
def Lot (n : Nat) (ns : List Int) : Prop := ns.Nodup ∧ ∀ b ∈ ns, 0 ≤ b ∧ b < (n : Int)
def hasB (ns : List Int) (j : Nat) : Bool := ns.any fun y => decide (y = (j : Int))
def oth (ls ns : List Int) (i : Nat) : List Int := ((List.range i).filter fun j => !hasB ns j).map fun j => ls.getD j 0
theorem inV_int (z : Int) : ∀ ns : List Int, inV (.int z) (ns.map V.int) = ns.any fun y => decide (y = z) := by
  intro ns
  unfold inV
  rw [List.any_map]
  rfl
theorem oth_len (ls ns : List Int) (i : Nat) : (oth ls ns i).length ≤ i := by
  unfold oth
  rw [List.length_map]
  exact Nat.le_trans (List.length_filter_le ..) (by rw [List.length_range]; exact Nat.le_refl _)
theorem oth_in {ls ns : List Int} {i : Nat} {z : Int} (hz : ls[i]? = some z) (h : hasB ns i = false) : oth ls ns (i + 1) = oth ls ns i ++ [z] := by
  unfold oth
  rw [List.range_succ, List.filter_append, List.map_append]
  simp [h, List.getD_eq_getElem?_getD, hz]
theorem oth_out {ls ns : List Int} {i : Nat} (h : hasB ns i = true) : oth ls ns (i + 1) = oth ls ns i := by
  unfold oth
  rw [List.range_succ, List.filter_append, List.map_append]
  simp [h]
theorem sum_range (ls : List Int) : ∀ n, n ≤ ls.length → ((List.range n).map fun j => ls.getD j 0).sum = (ls.take n).sum
  | 0, _ => rfl
  | n + 1, h => by
    have hz : ls[n]? = some ls[n] := List.getElem?_eq_getElem h
    rw [← take_snoc hz, List.sum_append, ← sum_range ls n (by omega), List.range_succ, List.map_append, List.sum_append]
    simp [List.getD_eq_getElem?_getD, hz]
theorem sum_split (f : Nat → Int) (p : Nat → Bool) : ∀ l : List Nat, ((l.filter fun j => !p j).map f).sum + ((l.filter p).map f).sum = (l.map f).sum
  | [] => rfl
  | x :: l => by
    have ih := sum_split f p l
    cases e : p x <;> simp [e, List.sum_cons] <;> omega
theorem hasB_iff {ns : List Int} {j : Nat} : hasB ns j = true ↔ (j : Int) ∈ ns := by
  unfold hasB
  rw [List.any_eq_true]
  constructor
  · rintro ⟨y, hy, e⟩
    rw [← of_decide_eq_true e]
    exact hy
  · intro h
    exact ⟨_, h, decide_eq_true rfl⟩
theorem nodup_cast : ∀ {l : List Nat}, l.Nodup → (l.map fun j : Nat => (j : Int)).Nodup
  | [], _ => List.nodup_nil
  | x :: l, h => by
    rw [List.nodup_cons] at h
    rw [List.map_cons, List.nodup_cons]
    refine ⟨fun m => ?_, nodup_cast h.2⟩
    obtain ⟨y, hy, e⟩ := List.mem_map.mp m
    exact h.1 (by rw [show x = y by omega]; exact hy)
theorem lot_sorted {n : Nat} {ns : List Int} (h : Lot n ns) : (((List.range n).filter (hasB ns)).map fun j : Nat => (j : Int)).Perm ns := by
    refine (List.perm_ext_iff_of_nodup (nodup_cast (List.Pairwise.filter _ List.nodup_range)) h.1).mpr fun z => ?_
    constructor
    · intro m
      obtain ⟨j, hj, rfl⟩ := List.mem_map.mp m
      exact hasB_iff.mp (List.mem_filter.mp hj).2
    · intro m
      have b := h.2 z m
      refine List.mem_map.mpr ⟨z.toNat, List.mem_filter.mpr ⟨List.mem_range.mpr (by omega), hasB_iff.mpr ?_⟩, by omega⟩
      rw [show ((z.toNat : Nat) : Int) = z by omega]
      exact m
theorem oth_sum {ls ns : List Int} (h : Lot ls.length ns) : (oth ls ns ls.length).sum + lsum ls ns = ls.sum := by
  have e1 := sum_split (fun j => ls.getD j 0) (hasB ns) (List.range ls.length)
  rw [sum_range ls _ (Nat.le_refl _), List.take_length] at e1
  rw [← e1]
  congr 1
  rw [← lsum_perm (lot_sorted h)]
  unfold lsum
  rw [List.map_map]
  rfl
theorem sort_eq {ls ns : List Int} (h : Lot ls.length ns) : sortV ls ns = (if lsum ls ns = (oth ls ns ls.length).sum then ("level" : Str) else if lsum ls ns < (oth ls ns ls.length).sum then ("short" : Str) else ("long" : Str) : Str) := by
  have e := oth_sum h
  unfold sortV
  by_cases c : 2 * lsum ls ns = ls.sum
  · rw [if_pos c, if_pos (show lsum ls ns = (oth ls ns ls.length).sum by omega)]
  · rw [if_neg c, if_neg (show ¬ lsum ls ns = (oth ls ns ls.length).sum by omega)]
    by_cases d : 2 * lsum ls ns < ls.sum
    · rw [if_pos d, if_pos (show lsum ls ns < (oth ls ns ls.length).sum by omega)]
    · rw [if_neg d, if_neg (show ¬ lsum ls ns < (oth ls ns ls.length).sum by omega)]
theorem lsum_take {ls ns : List Int} {i : Nat} {z : Int} (h : ns[i]? = some z) : (ns.take (i + 1)).map (fun b => ls.getD b.toNat 0) = (ns.take i).map (fun b => ls.getD b.toNat 0) ++ [ls.getD z.toNat 0] := by
  rw [← take_snoc h, List.map_append]
  rfl
section
variable {P : Program} {w : World} {K : PySem.W.Frag} {mg : Str → Option Value} {base : Heap}
abbrev nSort : List Str := ["_law_lengths_here", "_law_lot", "_law_mine", "_law_others", "_law_bar", "_law_length"]
theorem scSort : FnScope nSort ["_law_lengths_here", "_law_lot"] (defScope sLwSort) := ⟨rfl, rfl, rfl, by decide +kernel, rfl, by decide +kernel, by decide +kernel⟩
def spSortL (K : PySem.W.Frag) : Sp := fun vs H Q _ => ∃ (l m : Addr) (ls ns : List Int), vs = [.ref l, .ref m] ∧ SqL K H l (ls.map V.int) ∧ SqL K H m (ns.map V.int) ∧ ls.length ≤ 8 ∧ ns.length ≤ 8 ∧ Lot ls.length ns ∧ ∀ H', Same H H' → Q (.str (sortV ls ns)) H'
theorem ok_sortL {f : Addr} {fd : FuncData} (F : Fun K "_law_sort" "_law_sort" sLwSort f fd) (T : Bi mg) : FnOk P w K mg base CX0 2 f fd ["_law_lengths_here", "_law_lot"] (spSortL K) := by
  refine F.ok scSort (fun vs H Q E h => ?_) (fun cdv A outer s H vs Q E hr h => ?_)
  · obtain ⟨l, m, ls, ns, rfl, _⟩ := h
    rfl
  · have nd := scSort.nd
    refine ⟨_, pss_cons (ps_set (i := 2) nd rfl (Or.inl rfl) (pe_callB (cr_sum rfl) (by rfl) T.sum (by decide +kernel) (pa_cons (pe_lc (own := [("_law_bar", 4)]) (g := gName 4) (tt := tYes) (te := tOp (rIxL K) (tVar 0) (tVar 4)) rfl nd (pi_list (pv 1))
        (blkOk_by (N := nSort) (sc := defScope sLwSort) (by decide +kernel)) (fun _ _ _ _ _ => pg_name (i := 4) nd rfl (Or.inl rfl)) (fun _ _ _ _ _ => pts_nil) (fun _ _ _ _ _ => pe_ix ix_list (pv 0) (pv 4) (fun _ _ => rfl))) pa_nil)))
      (pss_cons (ps_set (i := 3) nd rfl (Or.inl rfl) (pe_callB (cr_sum rfl) (by rfl) T.sum (by decide +kernel) (pa_cons (pe_lc (own := [("_law_bar", 4), ("_law_length", 5)]) (g := gTup K 2 (gCons (gName 4) (gCons (gName 5) gNil))) (tt := tTest (tOp (rIn K true) (tVar 4) (tVar 1))) (te := tVar 5) rfl nd (pi_enum (by rfl) T.enumerate (pa_cons (pv 0) pa_nil))
        (blkOk_by (N := nSort) (sc := defScope sLwSort) (by decide +kernel)) (fun _ _ _ _ _ => pg_tup rfl (pgs_cons (pg_name (i := 4) nd rfl (Or.inl rfl)) (pgs_cons (pg_name (i := 5) nd rfl (Or.inl rfl)) pgs_nil))) (fun _ _ _ _ _ => pts_one (pt_cmpR op_notIn_seq (pv 4) (pv 1) (by rfl))) (fun _ _ _ _ _ => pv 5)) pa_nil)))
      (pss_cons (ps_if (pt_cmpR op_eq (pv 2) (pv 3) (nomark _)) (pss_one (ps_ret pe_str)) pss_nil)
      (pss_one (ps_ret (pe_ifExp (pt_cmpR op_lt (pv 2) (pv 3) (nomark _)) pe_str pe_str))))), ?_⟩
    obtain ⟨l, m, ls, ns, rfl, hl, hm, l8, n8, lot, q⟩ := h
    refine ⟨_, rfl, m, rfl, ⟨_, hm⟩, fun D hD => ?_⟩
    refine lc_list (K := K) (a := m) (xs := ns.map V.int) (fun i H' => Same H H' ∧ H' D = some (.lst (((ns.take i).map fun b => ls.getD b.toNat 0).map V.int))) ⟨(Same.refl H).new hD, upd_same⟩ (fun i H' _ p => p.1.seq hm) ?_ ?_
    · rintro i x H' hi ⟨s2, h2⟩
      obtain ⟨z, hz, rfl⟩ := int_at hi
      have hil : i < ns.length := (List.getElem?_eq_some_iff.mp hz).1
      have az := lot.2 z (List.mem_of_getElem? hz)
      refine ⟨rfl, _, rfl, _, rfl, l, _, z, _, rfl, rfl, s2.seq hl, get_len az.1 az.2, _, h2, (by rw [List.length_map, List.length_map, List.length_take]; exact sm (by omega)), s2.mut hD, ?_⟩
      rw [upd_same, lsum_take hz, List.map_append]
      rfl
    · rintro H1 ⟨s1, h1⟩
      rw [List.length_map, List.take_length] at h1
      refine ⟨D, _, rfl, SqL.of h1, ?_⟩
      refine ⟨_, rfl, l, _, rfl, s1.seq hl, fun G hG => ?_⟩
      have hG0 := s1.free hG
      refine lc_it walk_enum (fun i H' => Same H H' ∧ H' G = some (.lst ((oth ls ns i).map V.int))) ⟨s1.new hG, upd_same⟩ (fun i H' _ p => p.1.seq hl) ?_ ?_
      · rintro i x H2 H3 hi ⟨s2, h2⟩ ⟨U, x1, x2, rfl, hU, rfl, e1, e2⟩
        obtain rfl := (Option.some.inj e1).symm
        obtain ⟨z, hz, rfl⟩ := int_at e2
        rw [List.length_map] at hi
        have hGU : G ≠ U := ne_of_none h2 hU
        have s3 : Same H (upd H2 U (.tup [.int (i : Nat), .int z])) := s2.new hU
        refine ⟨U, _, rfl, .inl (.inl upd_same), rfl, _, _, rfl, _, _, rfl, rfl, rfl, _, rfl, _, rfl, m, _, rfl, .inl (s3.seq hm), rfl, flat_ints _, _, rfl, ?_⟩
        have eb : inV (.int (i : Nat)) (ns.map V.int) = hasB ns i := inV_int _ _
        rw [eb]
        cases e : hasB ns i with
        | true => exact ite2 (fun z => by cases z) (fun _ => ⟨s3, by rw [upd_ne hGU, oth_out e]; exact h2⟩)
        | false =>
          refine ite2 (fun _ => ?_) (fun z => absurd rfl z)
          refine ⟨_, rfl, _, by rw [upd_ne hGU]; exact h2, ?_, s3.mut hG0, ?_⟩
          · have := oth_len ls ns i
            rw [List.length_map]
            exact sm (by omega)
          · rw [upd_same, oth_in hz e, List.map_append]
            rfl
      · rintro H2 ⟨s2, h2⟩
        rw [List.length_map] at h2
        refine ⟨G, _, rfl, SqL.of h2, ?_⟩
        have q1 := q H2 s2
        rw [sort_eq lot] at q1
        refine ⟨_, rfl, _, rfl, rfl, ?_⟩
        by_cases e : lsum ls ns = (oth ls ns ls.length).sum
        · rw [if_pos e] at q1
          exact ⟨_, rfl, iteDT (congrArg V.int e) q1⟩
        · rw [if_neg e] at q1
          refine ⟨_, rfl, iteDF (fun z => e (V.int.inj z)) ⟨_, rfl, _, rfl, _, _, rfl, rfl, _, rfl, ?_⟩⟩
          by_cases e2 : lsum ls ns < (oth ls ns ls.length).sum
          · rw [if_pos e2] at q1
            exact iteDT e2 q1
          · rw [if_neg e2] at q1
            exact iteDF e2 q1
def spSortT (K : PySem.W.Frag) : Sp := fun vs H Q _ => ∃ (l m : Addr) (ls ns : List Int), vs = [.ref l, .ref m] ∧ SqL K H l (ls.map V.int) ∧ SqT K H m (ns.map V.int) ∧ ls.length ≤ 8 ∧ ns.length ≤ 8 ∧ Lot ls.length ns ∧ ∀ H', Same H H' → Q (.str (sortV ls ns)) H'
theorem ok_sortT {f : Addr} {fd : FuncData} (F : Fun K "_law_sort" "_law_sort" sLwSort f fd) (T : Bi mg) : FnOk P w K mg base CX0 2 f fd ["_law_lengths_here", "_law_lot"] (spSortT K) := by
  refine F.ok scSort (fun vs H Q E h => ?_) (fun cdv A outer s H vs Q E hr h => ?_)
  · obtain ⟨l, m, ls, ns, rfl, _⟩ := h
    rfl
  · have nd := scSort.nd
    refine ⟨_, pss_cons (ps_set (i := 2) nd rfl (Or.inl rfl) (pe_callB (cr_sum rfl) (by rfl) T.sum (by decide +kernel) (pa_cons (pe_lc (own := [("_law_bar", 4)]) (g := gName 4) (tt := tYes) (te := tOp (rIxL K) (tVar 0) (tVar 4)) rfl nd (pi_tup (pv 1))
        (blkOk_by (N := nSort) (sc := defScope sLwSort) (by decide +kernel)) (fun _ _ _ _ _ => pg_name (i := 4) nd rfl (Or.inl rfl)) (fun _ _ _ _ _ => pts_nil) (fun _ _ _ _ _ => pe_ix ix_list (pv 0) (pv 4) (fun _ _ => rfl))) pa_nil)))
      (pss_cons (ps_set (i := 3) nd rfl (Or.inl rfl) (pe_callB (cr_sum rfl) (by rfl) T.sum (by decide +kernel) (pa_cons (pe_lc (own := [("_law_bar", 4), ("_law_length", 5)]) (g := gTup K 2 (gCons (gName 4) (gCons (gName 5) gNil))) (tt := tTest (tOp (rIn K true) (tVar 4) (tVar 1))) (te := tVar 5) rfl nd (pi_enum (by rfl) T.enumerate (pa_cons (pv 0) pa_nil))
        (blkOk_by (N := nSort) (sc := defScope sLwSort) (by decide +kernel)) (fun _ _ _ _ _ => pg_tup rfl (pgs_cons (pg_name (i := 4) nd rfl (Or.inl rfl)) (pgs_cons (pg_name (i := 5) nd rfl (Or.inl rfl)) pgs_nil))) (fun _ _ _ _ _ => pts_one (pt_cmpR op_notIn_seq (pv 4) (pv 1) (by rfl))) (fun _ _ _ _ _ => pv 5)) pa_nil)))
      (pss_cons (ps_if (pt_cmpR op_eq (pv 2) (pv 3) (nomark _)) (pss_one (ps_ret pe_str)) pss_nil)
      (pss_one (ps_ret (pe_ifExp (pt_cmpR op_lt (pv 2) (pv 3) (nomark _)) pe_str pe_str))))), ?_⟩
    obtain ⟨l, m, ls, ns, rfl, hl, hm, l8, n8, lot, q⟩ := h
    refine ⟨_, rfl, m, rfl, ⟨_, hm⟩, fun D hD => ?_⟩
    refine lc_tup (K := K) (a := m) (xs := ns.map V.int) (fun i H' => Same H H' ∧ H' D = some (.lst (((ns.take i).map fun b => ls.getD b.toNat 0).map V.int))) ⟨(Same.refl H).new hD, upd_same⟩ (fun i H' _ p => p.1.tup hm) ?_ ?_
    · rintro i x H' hi ⟨s2, h2⟩
      obtain ⟨z, hz, rfl⟩ := int_at hi
      have hil : i < ns.length := (List.getElem?_eq_some_iff.mp hz).1
      have az := lot.2 z (List.mem_of_getElem? hz)
      refine ⟨rfl, _, rfl, _, rfl, l, _, z, _, rfl, rfl, s2.seq hl, get_len az.1 az.2, _, h2, (by rw [List.length_map, List.length_map, List.length_take]; exact sm (by omega)), s2.mut hD, ?_⟩
      rw [upd_same, lsum_take hz, List.map_append]
      rfl
    · rintro H1 ⟨s1, h1⟩
      rw [List.length_map, List.take_length] at h1
      refine ⟨D, _, rfl, SqL.of h1, ?_⟩
      refine ⟨_, rfl, l, _, rfl, s1.seq hl, fun G hG => ?_⟩
      have hG0 := s1.free hG
      refine lc_it walk_enum (fun i H' => Same H H' ∧ H' G = some (.lst ((oth ls ns i).map V.int))) ⟨s1.new hG, upd_same⟩ (fun i H' _ p => p.1.seq hl) ?_ ?_
      · rintro i x H2 H3 hi ⟨s2, h2⟩ ⟨U, x1, x2, rfl, hU, rfl, e1, e2⟩
        obtain rfl := (Option.some.inj e1).symm
        obtain ⟨z, hz, rfl⟩ := int_at e2
        rw [List.length_map] at hi
        have hGU : G ≠ U := ne_of_none h2 hU
        have s3 : Same H (upd H2 U (.tup [.int (i : Nat), .int z])) := s2.new hU
        refine ⟨U, _, rfl, .inl (.inl upd_same), rfl, _, _, rfl, _, _, rfl, rfl, rfl, _, rfl, _, rfl, m, _, rfl, .inr (s3.tup hm), rfl, flat_ints _, _, rfl, ?_⟩
        have eb : inV (.int (i : Nat)) (ns.map V.int) = hasB ns i := inV_int _ _
        rw [eb]
        cases e : hasB ns i with
        | true => exact ite2 (fun z => by cases z) (fun _ => ⟨s3, by rw [upd_ne hGU, oth_out e]; exact h2⟩)
        | false =>
          refine ite2 (fun _ => ?_) (fun z => absurd rfl z)
          refine ⟨_, rfl, _, by rw [upd_ne hGU]; exact h2, ?_, s3.mut hG0, ?_⟩
          · have := oth_len ls ns i
            rw [List.length_map]
            exact sm (by omega)
          · rw [upd_same, oth_in hz e, List.map_append]
            rfl
      · rintro H2 ⟨s2, h2⟩
        rw [List.length_map] at h2
        refine ⟨G, _, rfl, SqL.of h2, ?_⟩
        have q1 := q H2 s2
        rw [sort_eq lot] at q1
        refine ⟨_, rfl, _, rfl, rfl, ?_⟩
        by_cases e : lsum ls ns = (oth ls ns ls.length).sum
        · rw [if_pos e] at q1
          exact ⟨_, rfl, iteDT (congrArg V.int e) q1⟩
        · rw [if_neg e] at q1
          refine ⟨_, rfl, iteDF (fun z => e (V.int.inj z)) ⟨_, rfl, _, rfl, _, _, rfl, rfl, _, rfl, ?_⟩⟩
          by_cases e2 : lsum ls ns < (oth ls ns ls.length).sum
          · rw [if_pos e2] at q1
            exact iteDT e2 q1
          · rw [if_neg e2] at q1
            exact iteDF e2 q1
def spSort (K : PySem.W.Frag) : Sp := fun vs H Q _ => ∃ (l m : Addr) (ls ns : List Int), vs = [.ref l, .ref m] ∧ SqL K H l (ls.map V.int) ∧ (SqL K H m (ns.map V.int) ∨ SqT K H m (ns.map V.int)) ∧ ls.length ≤ 8 ∧ ns.length ≤ 8 ∧ Lot ls.length ns ∧ ∀ H', Same H H' → Q (.str (sortV ls ns)) H'
theorem ok_sort {f : Addr} {fd : FuncData} (F : Fun K "_law_sort" "_law_sort" sLwSort f fd) (T : Bi mg) : FnOk P w K mg base CX0 2 f fd ["_law_lengths_here", "_law_lot"] (spSort K) := by
  refine (fn_or (ok_sortL F T) (ok_sortT F T)).imp fun vs H Q E h => ?_
  obtain ⟨l, m, ls, ns, e, hl, hm, r⟩ := h
  rcases hm with hm | hm
  · exact .inl ⟨l, m, ls, ns, e, hl, hm, r⟩
  · exact .inr ⟨l, m, ls, ns, e, hl, hm, r⟩
end
end K
namespace K
open PySem L2 Rg
open Evl (pss_cut)
/-! ### a lot that is one -/
theorem ft_none : ∀ {ns seen : List Int}, ns.Nodup → (∀ x ∈ ns, x ∉ seen) → ft seen ns = none
  | [], _, _, _ => rfl
  | x :: ns, seen, h, hs => by
    rw [List.nodup_cons] at h
    show (if x ∈ seen then some x else ft (seen ++ [x]) ns) = none
    rw [if_neg (hs x (List.mem_cons_self ..))]
    refine ft_none h.2 fun y hy m => ?_
    rcases List.mem_append.mp m with m | m
    · exact hs y (List.mem_cons_of_mem _ hy) m
    · rw [List.mem_singleton.mp m] at hy
      exact h.1 hy
theorem res_lot {n : Nat} {ns : List Int} (h : Lot n ns) : res n ns = .ok ns := by
  rw [res_all fun x hx => isBar_iff.mpr (h.2 x hx), ft_none h.1 fun x _ m => by cases m]
theorem lot_perm {n : Nat} {ms ns : List Int} (h : Lot n ns) (p : ms.Perm ns) : Lot n ms := ⟨p.nodup_iff.mpr h.1, fun b hb => h.2 b (p.mem_iff.mp hb)⟩
theorem lot_take {n d : Nat} {ns : List Int} (h : Lot n ns) : Lot n (ns.take d) := ⟨h.1.sublist (List.take_sublist ..), fun b hb => h.2 b (List.mem_of_mem_take hb)⟩
def natB (l : List Nat) : List Int := l.map fun j : Nat => (j : Int)
theorem lot_nat {n : Nat} {p : Nat → Bool} : Lot n (natB ((List.range n).filter p)) := by
  refine ⟨nodup_cast (List.Pairwise.filter _ List.nodup_range), fun b hb => ?_⟩
  obtain ⟨j, hj, rfl⟩ := List.mem_map.mp hb
  have := List.mem_range.mp (List.mem_filter.mp hj).1
  omega
theorem lot_all {n : Nat} : Lot n (natB (List.range n)) := by
  refine ⟨nodup_cast List.nodup_range, fun b hb => ?_⟩
  obtain ⟨j, hj, rfl⟩ := List.mem_map.mp hb
  have := List.mem_range.mp hj
  omega
theorem lot_len {n : Nat} {ns : List Int} (h : Lot n ns) : ns.length ≤ n := by
  have e := lot_sorted h
  rw [e.length_eq.symm, List.length_map]
  exact Nat.le_trans (List.length_filter_le ..) (by rw [List.length_range]; exact Nat.le_refl _)
def restN (n : Nat) (ns : List Int) (i : Nat) : List Int := natB ((List.range i).filter fun j => !hasB ns j)
theorem rest_in {n : Nat} {ns : List Int} {i : Nat} (h : hasB ns i = false) : restN n ns (i + 1) = restN n ns i ++ [(i : Int)] := by
  unfold restN natB
  rw [List.range_succ, List.filter_append, List.map_append]
  simp [h]
theorem rest_out {n : Nat} {ns : List Int} {i : Nat} (h : hasB ns i = true) : restN n ns (i + 1) = restN n ns i := by
  unfold restN natB
  rw [List.range_succ, List.filter_append, List.map_append]
  simp [h]
theorem rest_len {n : Nat} {ns : List Int} {i : Nat} : (restN n ns i).length ≤ i := by
  unfold restN natB
  rw [List.length_map]
  exact Nat.le_trans (List.length_filter_le ..) (by rw [List.length_range]; exact Nat.le_refl _)
theorem rest_lot {n : Nat} {ns : List Int} : Lot n (restN n ns n) := lot_nat
theorem rest_sum {ls ns : List Int} (h : Lot ls.length ns) : lsum ls (restN ls.length ns ls.length) + lsum ls ns = ls.sum := by
  have e : lsum ls (restN ls.length ns ls.length) = (oth ls ns ls.length).sum := by
    unfold lsum restN natB oth
    rw [List.map_map]
    rfl
  rw [e]
  exact oth_sum h
theorem nat_lots (p : Nat → Bool) : ∀ n, natB ((List.range n).filter p) ∈ lotsN n
  | 0 => List.mem_singleton.mpr rfl
  | n + 1 => by
    have ih := nat_lots p n
    rw [List.range_succ, List.filter_append, lotsN_succ]
    unfold natB at ih ⊢
    rw [List.map_append]
    cases e : p n with
    | true => exact List.mem_append_right _ (List.mem_map.mpr ⟨_, ih, by simp [e]⟩)
    | false => exact List.mem_append_left _ (by simpa [e] using ih)
theorem level_of {ls ns : List Int} (h : Lot ls.length ns) (e : 2 * lsum ls ns = ls.sum) : levelB ls = true := by
  rw [level_lots, List.any_eq_true]
  exact ⟨_, nat_lots (hasB ns) ls.length, decide_eq_true (by rw [lsum_perm (show (natB _).Perm ns from lot_sorted h)]; exact e)⟩
/-- the sort of the other bars -/
def opp (z : Str) : Str := if z = "short" then "long" else if z = "long" then "short" else "level"
theorem ne_sl : ¬ (("short" : Str) = "long") := by decide +kernel
theorem ne_sv : ¬ (("short" : Str) = "level") := by decide +kernel
theorem ne_lv : ¬ (("long" : Str) = "level") := by decide +kernel
theorem sort_cases (ls ns : List Int) : (2 * lsum ls ns = ls.sum ∧ sortV ls ns = "level") ∨ (2 * lsum ls ns < ls.sum ∧ sortV ls ns = "short") ∨ (ls.sum < 2 * lsum ls ns ∧ sortV ls ns = "long") := by
  unfold sortV
  by_cases c : 2 * lsum ls ns = ls.sum
  · exact .inl ⟨c, if_pos c⟩
  · by_cases d : 2 * lsum ls ns < ls.sum
    · exact .inr (.inl ⟨d, by rw [if_neg c, if_pos d]⟩)
    · exact .inr (.inr ⟨by omega, by rw [if_neg c, if_neg d]⟩)
theorem sort_rest {ls ns ms : List Int} (h : lsum ls ms + lsum ls ns = ls.sum) : sortV ls ms = opp (sortV ls ns) := by
  unfold opp
  rcases sort_cases ls ns with ⟨a, e⟩ | ⟨a, e⟩ | ⟨a, e⟩ <;> rcases sort_cases ls ms with ⟨b, f⟩ | ⟨b, f⟩ | ⟨b, f⟩ <;> rw [e, f] <;> first | (exfalso; omega) | skip
  · rw [if_neg fun z => ne_sv z.symm, if_neg fun z => ne_lv z.symm]
  · rw [if_pos rfl]
  · rw [if_neg fun z => ne_sl z.symm, if_pos rfl]
theorem perm_ints {ys : List V} {l : List Int} (h : ys.Perm (l.map V.int)) : ∃ ms : List Int, ys = ms.map V.int ∧ ms.Perm l := by
  refine ⟨ys.map vint, ?_, ?_⟩
  · rw [List.map_map]
    refine (List.map_id ys).symm.trans (List.map_congr_left fun y hy => ?_)
    obtain ⟨i, _, rfl⟩ := List.mem_map.mp (h.mem_iff.mp hy)
    rfl
  · have := h.map vint
    rw [vints] at this
    exact this
theorem rg_nat (n : Nat) : rgV 0 (n : Int) = (natB (List.range n)).map V.int := by
  unfold rgV natB
  rw [List.map_map, show (((n : Nat) : Int) - 0).toNat = n by omega]
  refine List.map_congr_left fun j _ => ?_
  show V.int (0 + (j : Int)) = V.int (j : Int)
  rw [Int.zero_add]
section
variable {P : Program} {w : World} {K : PySem.W.Frag} {mg : Str → Option Value} {base : Heap}
theorem LotV.lst {H : Hp} {E : XK} {c : Cs} {n : Nat} {part : Str} {a : Addr} {ns : List Int} {k : List Int → Prop} (h : H a = some (.lst (ns.map V.int))) (l : Lot n ns) (hn : ns.length ≤ 8) (q : k ns) : LotV K H E c n part (.ref a) k := by
  refine .inr (.inl ⟨a, ns.map V.int, fun _ => "int", rfl, ⟨.base (.lst h), by decide⟩, SqL.of h, by rw [List.length_map]; omega, fun x hx => ?_, .inr ⟨ns, rfl, List.all_eq_true.mpr fun _ _ => rfl, ?_⟩⟩)
  · obtain ⟨i, _, rfl⟩ := List.mem_map.mp hx
    exact Knd.int
  · rw [res_lot l]
    exact q
theorem LotV.tpl {H : Hp} {E : XK} {c : Cs} {n : Nat} {part : Str} {a : Addr} {ns : List Int} {k : List Int → Prop} (h : H a = some (.tup (ns.map V.int))) (l : Lot n ns) (hn : ns.length ≤ 8) (q : k ns) : LotV K H E c n part (.ref a) k := by
  refine .inr (.inr ⟨a, ns, rfl, ⟨.base (.tup h), by decide⟩, .inl (.inl h), by omega, ?_⟩)
  rw [res_lot l]
  exact q
theorem RingAt.but {C p : Addr} {e : Addr × List Int} {n : Nat} {H H' : Hp} {r : Addr} {ls : List Int} (h : RingAt K C H r ls) (b : But p H H') (pen : PenAt K H p e n) : RingAt K C H' r ls := by
  obtain ⟨dx, t, h1, h2, o, h3, h4⟩ := h
  obtain ⟨_, _, hp, _⟩ := pen.ex
  have nr : r ≠ p := fun z => by rw [z, hp] at h1; cases h1
  have nt : t ≠ p := fun z => by rw [z, hp] at h3; cases h3
  exact ⟨dx, t, b _ _ nr h1, .inl (.inr ⟨o, b _ _ nt h3⟩), o, b _ _ nt h3, h4⟩
/-- how o.m(k = v), f(k = v) bind -/
abbrev gK2 {α : Type} : List α → List α → List α := fun us ws => match us, ws with
  | [a], [b] => [a, b]
  | _, _ => []
abbrev gK1 {α : Type} : List α → List α → List α := fun us ws => match us, ws with
  | [], [b] => [b]
  | _, _ => []
/-- the methods of a ring, as the law calls them -/
structure RingM (P : Program) (w : World) (K : PySem.W.Frag) (mg : Str → Option Value) (base : Heap) (C : Addr) (c : Cs) (fL fS : Addr) (fdL fdS : FuncData) (g : List Value → List Value → List Value) : Prop where
  mL : Meth K C "length_of" fL
  mS : Meth K C "sort_of" fS
  okL : FnOk P w K mg base (L2.CX P w) 5 fL fdL ["self", "lot"] (spLenOf K C c)
  okS : FnOk P w K mg base (L2.CX P w) 6 fS fdS ["self", "lot"] (spSortOf K C c)
  bL : Binds K fdL ["self", "lot"] []
  bS : Binds K fdS ["self", "lot"] []
  kL : KBinds K fdL ["self", "lot"] ["lot"] g gK2
  kS : KBinds K fdS ["self", "lot"] ["lot"] g gK2
def spLR (K : PySem.W.Frag) (C : Addr) : Sp := fun vs H Q _ => ∃ (p l r : Addr) (ls : List Int) (e : Addr × List Int) (n : Nat), vs = [.ref p, .ref l, .ref r] ∧ n < 800000 ∧ PenAt K H p e n ∧ l ≠ p ∧ H l = some (.lst (ls.map V.int)) ∧ RingAt K C H r ls ∧ 3 ≤ ls.length ∧ ls.length ≤ 8 ∧
  ∀ H', But p H H' → PenAt K H' p e (n + 9) → Q (.bl true) H'
abbrev nLR : List Str := ["_law_pen_here", "_law_lengths_here", "_law_ring", "_law_many", "_law_lot", "_law_rest", "_law_due", "_law_kept", "_law_bar"]
theorem scLR : FnScope nLR ["_law_pen_here", "_law_lengths_here", "_law_ring"] (defScope sLwLotRight) := ⟨rfl, rfl, rfl, by decide +kernel, rfl, by decide +kernel, by decide +kernel⟩
theorem ok_lr {C f fD fM fS fL fO : Addr} {c : Cs} {fd fdD fdM fdS fdL fdO : FuncData} {g : List Value → List Value → List Value} (F : Fun K "_law_lot_right" "_law_lot_right" sLwLotRight f fd) (T : Bi mg) (R : RingC K mg C) (D : DrawAt P w K mg base fD fdD)
    (MX : DefAt P w K mg base CX0 3 "_law_mixed" ["_law_pen_here", "_law_items"] (spMixed K) fM fdM) (SO : DefAt P w K mg base CX0 2 "_law_sort" ["_law_lengths_here", "_law_lot"] (spSort K) fS fdS) (M : RingM P w K mg base C c fL fO fdL fdO g) : FnOk P w K mg base CX0 7 f fd ["_law_pen_here", "_law_lengths_here", "_law_ring"] (spLR K C) := by
  refine F.ok scLR (fun vs H Q E h => ?_) (fun cdv A outer s H vs Q E hr h => ?_)
  · obtain ⟨p, l, r, ls, e, n, rfl, _⟩ := h
    rfl
  · have nd := scLR.nd
    refine ⟨_, pss_cons (ps_set (i := 3) nd rfl (Or.inl rfl) (pe_callB call_len_seq (by rfl) T.len PySem.boot_len (pa_cons (pv 1) pa_nil)))
      (pss_cons (ps_set (i := 4) nd rfl (Or.inr rfl) (pe_slice sl_list (pe_call MX.ok (hr.mono (by decide)) rfl MX.g MX.kp MX.b .nil pass0 (pa_cons (pv 0) (pa_cons (pe_listRg rfl (by rfl) T.list (prg_1 (by rfl) T.range (pv 3))) pa_nil))) po_none
        (po_some (pe_call D.ok (hr.mono (by decide)) rfl D.g D.kp D.b .nil pass0 (pa_cons (pv 0) (pa_cons (pe_op op_add (pv 3) pe_int) pa_nil))))))
      (pss_cons (ps_setLc (i := 5) (own := [("_law_bar", 8)]) (g := gName 8) (tt := tTest (tOp (rIn K true) (tVar 8) (tVar 4))) (te := tVar 8) rfl nd rfl rfl (sw_true rfl rfl rfl (by decide +kernel)) (pi_range1 (by rfl) T.range (pa_cons (pv 3) pa_nil))
        (blkOk_by (N := nLR) (sc := defScope sLwLotRight) (by decide +kernel)) (fun _ _ _ _ _ => pg_name (i := 8) nd rfl (Or.inl rfl)) (fun _ _ _ _ _ => pts_one (pt_cmpR op_notIn_seq (pv 8) (pv 4) (by rfl))) (fun _ _ _ _ _ => pv 8))
      (pss_cons (ps_par (i := 6) (j := 7) (by rfl) nd rfl rfl (by decide) rfl rfl (pa_cons (pe_call SO.ok (hr.mono (by decide)) rfl SO.g SO.kp SO.b .nil pass0 (pa_cons (pv 1) (pa_cons (pv 4) pa_nil))) (pa_cons (pe_callTy call_list_of (by rfl) T.list (by decide +kernel) (pa_cons (pv 4) pa_nil)) pa_nil)) (by rfl))
      (pss_cons (ps_if (PW.pt (pw_or (pt_cmpR op_ne (pe_meth (pv 2) R.cl M.mL M.okL (hr.mono (by decide)) M.bL .nil passL (pa_cons (pv 4) pa_nil)) (pe_callB (cr_sum rfl) (by rfl) T.sum (by decide +kernel) (pa_cons (pe_lc (own := [("_law_bar", 8)]) (g := gName 8) (tt := tYes) (te := tOp (rIxL K) (tVar 1) (tVar 8)) rfl nd (pi_list (pv 4))
          (blkOk_by (N := nLR) (sc := defScope sLwLotRight) (by decide +kernel)) (fun _ _ _ _ _ => pg_name (i := 8) nd rfl (Or.inl rfl)) (fun _ _ _ _ _ => pts_nil) (fun _ _ _ _ _ => pe_ix ix_list (pv 1) (pv 8) (fun _ _ => rfl))) pa_nil)) (nomark _))
        (pw_or (pt_cmpR op_ne (pe_meth (pv 2) R.cl M.mS M.okS hr M.bS .nil passL (pa_cons (pe_callTy call_tuple_of (by rfl) T.tuple (by decide +kernel) (pa_cons (pv 4) pa_nil)) pa_nil)) (pv 6) (nomark _))
        (pw_or1 (pt_cmpR op_ne (pe_methK0 (pv 2) R.cl M.mS M.okS hr M.kS passL (pk_cons (pv 4) pk_nil)) (pv 6) (nomark _)))))) (pss_one ps_never) pss_nil)
      (pss_cons (ps_if (PW.pt (pw_or (pt_cmpR op_ne (pe_op op_add (pe_methK0 (pv 2) R.cl M.mL M.okL (hr.mono (by decide)) M.kL passL (pk_cons (pv 4) pk_nil)) (pe_meth (pv 2) R.cl M.mL M.okL (hr.mono (by decide)) M.bL .nil passL (pa_cons (pv 5) pa_nil))) (pe_fld (pv 2) rfl) (nomark _))
        (pw_or1 (pt_cmpR (op_neD hr.units) (pv 4) (pv 7) (nomark _))))) (pss_one ps_never) pss_nil)
      (pss_cons (ps_if (pt_cmpR op_ne (pe_meth (pv 2) R.cl M.mS M.okS hr M.bS .nil passL (pa_cons (pe_revL (pv 5)) pa_nil)) (pe_dget (Nat.lt_of_le_of_lt (Nat.le_add_right _ 63) hr.units) (pe_disp (pps_cons pe_str pe_str (pps_cons pe_str pe_str (pps_cons pe_str pe_str pps_nil))) rfl rfl (by decide) (by decide)) (pv 6) (fun _ _ => rfl)) (nomark _)) (pss_one ps_never) pss_nil)
      (pss_one (ps_ret (pe_or (pe_cmpR op_ne (pv 6) pe_str (nomark _)) (pe_one (pe_and (pe_cmpR op_isBl (pe_fld (pv 2) rfl) pe_bl (nomark _)) (pe_one (pe_cmpR op_eq (pe_op op_mod (pe_fld (pv 2) rfl) pe_int) pe_int (nomark _)))))))))))))), ?_⟩
    obtain ⟨p, l, r, ls, e, n, rfl, hn, pen, hlp, hl, ring, l3, l8, q⟩ := h
    have rg := rg_nat ls.length
    refine ⟨_, rfl, l, _, rfl, .inl (SqL.of hl), _, rfl, _, rfl, ?_⟩
    rw [List.length_map]
    refine ⟨_, rfl, RgOk.of_le (by omega) (by omega) (by omega) (by omega), fun q0 hq0 => ?_⟩
    rw [rg]
    have s0 : Same H (upd H q0 (.lst ((natB (List.range ls.length)).map V.int))) := (Same.refl H).new hq0
    have hq0p : q0 ≠ p := pen.ne hq0
    have hnat : (natB (List.range ls.length)).length = ls.length := by unfold natB; rw [List.length_map, List.length_range]
    refine ⟨p, q0, e, _, n, rfl, SqL.of upd_same, hq0p, by rw [List.length_map]; omega, by omega, pen.same s0, fun q1 ys H2 pm hq1 b2 h2 pen2 => ?_⟩
    rw [List.length_map, hnat] at pen2
    obtain ⟨ms, rfl, mp⟩ := perm_ints pm
    have hq1p : q1 ≠ p := (pen.same s0).ne hq1
    refine ⟨_, rfl, _, rfl, _, _, rfl, rfl, p, e, _, n + ls.length, rfl, by omega, by omega, by omega, pen2, fun d H3 d0 d1 b3 pen3 => ?_⟩
    have b03 : But p H H3 := ((But.of s0).trans b2).trans b3
    have h3 := b3 q1 _ hq1p h2
    refine ⟨d, rfl, q1, _, rfl, SqL.of h3, fun q2 hq2 => ?_⟩
    obtain ⟨d', rfl⟩ := Int.eq_ofNat_of_zero_le d0
    rw [cutV_to, ← List.map_take]
    have lotM : Lot ls.length ms := lot_perm lot_all mp
    have lotN : Lot ls.length (ms.take d') := lot_take lotM
    have nlen : (ms.take d').length ≤ 8 := Nat.le_trans (lot_len lotN) l8
    generalize ms.take d' = ns at lotN nlen ⊢
    have hq2p : q2 ≠ p := pen3.ne hq2
    have hq20 : H q2 = none := b03.free hq2p hq2
    have b04 : But p H (upd H3 q2 (.lst (ns.map V.int))) := b03.mut hq20
    have pen4 : PenAt K (upd H3 q2 (.lst (ns.map V.int))) p e (n + ls.length + 1) := pen.mut pen3 b03 hq20
    have h4 : upd H3 q2 (.lst (ns.map V.int)) q2 = some (.lst (ns.map V.int)) := upd_same
    generalize upd H3 q2 (.lst (ns.map V.int)) = H4 at b04 pen4 h4 ⊢
    have hl4 := b04 l _ hlp hl
    have ring4 : RingAt K C H4 r ls := ring.but b04 pen
    -- the other bars
    refine ⟨_, rfl, _, rfl, by omega, by omega, fun D hD => ?_⟩
    refine lc_range (lo := 0) (n := ((ls.length : Nat) : Int).toNat) (fun i H' => Same H4 H' ∧ H' D = some (.lst ((restN ls.length ns i).map V.int))) ⟨(Same.refl H4).new hD, upd_same⟩ ?_ ?_
    · rintro i H' hi ⟨s2, h2⟩
      rw [Int.zero_add]
      refine ⟨rfl, _, rfl, _, rfl, q2, _, rfl, .inl (SqL.of (s2 _ _ h4)), rfl, flat_ints _, _, rfl, ?_⟩
      have eb : inV (.int (i : Nat)) (ns.map V.int) = hasB ns i := inV_int _ _
      rw [eb]
      cases e : hasB ns i with
      | true => exact ite2 (fun z => by cases z) (fun _ => ⟨s2, by rw [rest_out e]; exact h2⟩)
      | false =>
        refine ite2 (fun _ => ?_) (fun z => absurd rfl z)
        refine ⟨_, rfl, _, h2, ?_, s2.mut hD, ?_⟩
        · have := rest_len (n := ls.length) (ns := ns) (i := i)
          rw [List.length_map]
          exact sm (by omega)
        · rw [upd_same, rest_in e, List.map_append]
          rfl
    rintro H5 ⟨s5, h5⟩
    rw [Int.toNat_natCast] at h5
    have lotR : Lot ls.length (restN ls.length ns ls.length) := rest_lot
    have rsum := rest_sum lotN
    have rlen : (restN ls.length ns ls.length).length ≤ 8 := Nat.le_trans (lot_len lotR) l8
    generalize restN ls.length ns ls.length = rs at h5 lotR rsum rlen ⊢
    refine ⟨_, rfl, _, rfl, l, q2, ls, ns, rfl, SqL.of (s5 _ _ hl4), .inl (SqL.of (s5 _ _ h4)), l8, nlen, lotN, fun H6 s6 => ⟨_, rfl, q2, _, rfl, .inl (SqL.of (s6 _ _ (s5 _ _ h4))), fun k hk => ⟨_, _, rfl, ?_⟩⟩⟩
    have s7 : Same H4 (upd H6 k (.lst (ns.map V.int))) := (s5.trans s6).new hk
    have hk7 : upd H6 k (.lst (ns.map V.int)) k = some (.lst (ns.map V.int)) := upd_same
    have hD7 : upd H6 k (.lst (ns.map V.int)) D = some (.lst (rs.map V.int)) := by rw [upd_ne (ne_of_none (s6 _ _ h5) hk)]; exact s6 _ _ h5
    generalize upd H6 k (.lst (ns.map V.int)) = H7 at s7 hk7 hD7 ⊢
    obtain ⟨dx, t, hr4, _⟩ := ring4
    have noL : (rf t ls).lookup ("length_of" : Str) = none := rf_no _ _ (by decide +kernel) (by decide +kernel) (by decide +kernel) (by decide +kernel)
    have noS : (rf t ls).lookup ("sort_of" : Str) = none := rf_no _ _ (by decide +kernel) (by decide +kernel) (by decide +kernel) (by decide +kernel)
    have ring4 : RingAt K C H4 r ls := ring.but b04 pen
    -- length_of(lot)
    refine ⟨_, rfl, r, dx, _, rfl, s7 _ _ hr4, noL, _, rfl, r, _, ls, rfl, ring4.same s7, l8, LotV.lst (s7 _ _ h4) lotN nlen fun H8 s8 => ?_⟩
    have s48 := s7.trans s8
    refine ⟨_, rfl, q2, rfl, ⟨_, SqL.of (s48 _ _ h4)⟩, fun G hG => ?_⟩
    refine lc_list (K := K) (a := q2) (xs := ns.map V.int) (fun i H' => Same H8 H' ∧ H' G = some (.lst (((ns.take i).map fun b => ls.getD b.toNat 0).map V.int))) ⟨(Same.refl H8).new hG, upd_same⟩ (fun i H' _ q => SqL.of (q.1 _ _ (s48 _ _ h4))) ?_ ?_
    · rintro i x H' hi ⟨s2, h2⟩
      obtain ⟨z, hz, rfl⟩ := int_at hi
      have hil : i < ns.length := (List.getElem?_eq_some_iff.mp hz).1
      have az := lotN.2 z (List.mem_of_getElem? hz)
      refine ⟨rfl, _, rfl, _, rfl, l, _, z, _, rfl, rfl, SqL.of (s2 _ _ (s48 _ _ hl4)), get_len az.1 az.2, _, h2, (by rw [List.length_map, List.length_map, List.length_take]; exact sm (by omega)), s2.mut hG, ?_⟩
      rw [upd_same, lsum_take hz, List.map_append]
      rfl
    rintro H9 ⟨s89, h9⟩
    rw [List.length_map, List.take_length] at h9
    have s9 := s48.trans s89
    have e1 : (!decide (V.int (lsum ls ns) = V.int (ns.map fun b => ls.getD b.toNat 0).sum)) = false := by
      show (!decide (V.int (lsum ls ns) = V.int (lsum ls ns))) = false
      rw [decide_eq_true rfl]
      rfl
    have e2 : ∀ v : V, (!decide (v = v)) = false := fun v => by rw [decide_eq_true rfl]; rfl
    refine ⟨G, _, rfl, SqL.of h9, rfl, _, rfl, iteBF e1 ?_⟩
    -- sort_of(tuple(lot))
    refine ⟨_, rfl, r, dx, _, rfl, s9 _ _ hr4, noS, _, rfl, q2, _, rfl, .inl ⟨SqL.of (s9 _ _ h4), fun u hu => ?_⟩⟩
    have s10 := s9.new (o := .tup (ns.map V.int)) hu
    refine ⟨r, _, ls, rfl, ring4.same s10, l8, LotV.tpl upd_same lotN nlen fun H11 s1011 => ?_⟩
    have s11 := s10.trans s1011
    refine ⟨_, rfl, rfl, _, rfl, iteBF (e2 _) ?_⟩
    -- sort_of(lot=lot)
    refine ⟨_, rfl, r, dx, _, rfl, s11 _ _ hr4, noS, _, rfl, r, _, ls, rfl, ring4.same s11, l8, LotV.lst (s11 _ _ h4) lotN nlen fun H12 s1112 => ?_⟩
    have s12 := s11.trans s1112
    have hk12 := s1112 _ _ (s1011 _ _ ((Same.new (Same.refl H9) hu : Same H9 (upd H9 u (.tup (ns.map V.int)))) _ _ (s89 _ _ (s8 _ _ hk7))))
    have hD12 := s1112 _ _ (s1011 _ _ ((Same.new (Same.refl H9) hu : Same H9 (upd H9 u (.tup (ns.map V.int)))) _ _ (s89 _ _ (s8 _ _ hD7))))
    refine ⟨_, rfl, rfl, _, rfl, iteBF (e2 _) ?_⟩
    -- length_of(lot=lot) + length_of(rest)
    refine ⟨_, rfl, r, dx, _, rfl, s12 _ _ hr4, noL, _, rfl, r, _, ls, rfl, ring4.same s12, l8, LotV.lst (s12 _ _ h4) lotN nlen fun H13 s1213 => ?_⟩
    have s13 := s12.trans s1213
    refine ⟨_, rfl, r, dx, _, rfl, s13 _ _ hr4, noL, _, rfl, r, _, ls, rfl, ring4.same s13, l8, LotV.lst (s1213 _ _ hD12) lotR rlen fun H14 s1314 => ?_⟩
    have s14 := s13.trans s1314
    have hD14 := s1314 _ _ (s1213 _ _ hD12)
    have e3 : (!decide (V.int (lsum ls ns + lsum ls rs) = V.int ls.sum)) = false := by
      rw [decide_eq_true (show V.int (lsum ls ns + lsum ls rs) = V.int ls.sum by rw [Int.add_comm, rsum])]
      rfl
    refine ⟨_, _, rfl, rfl, _, rfl, r, C, dx, _, _, rfl, s14 _ _ hr4, R.cl, R.nT, rf_total _ _, rfl, _, rfl, iteBF e3 ?_⟩
    have e4 : (!PyData.eqv (.list (ns.map PyData.int)) (.list (ns.map PyData.int))) = false := by
      simp [PyData.eqv, eqvA_ints]
    refine ⟨_, rfl, _, rfl, _, _, .lst (SqL.of (s14 _ _ h4)) (dp_ints _), .lst (SqL.of (s1314 _ _ (s1213 _ _ hk12))) (dp_ints _), shaped_ints _, shaped_ints _, _, rfl, iteBF e4 ?_⟩
    -- sort_of(rest[::-1])
    refine ⟨_, rfl, r, dx, _, rfl, s14 _ _ hr4, noS, _, rfl, D, _, rfl, SqL.of hD14, fun u2 hu2 => ?_⟩
    rw [← List.map_reverse]
    have s15 := s14.new (o := .lst (rs.reverse.map V.int)) hu2
    refine ⟨r, _, ls, rfl, ring4.same s15, l8, LotV.lst upd_same (lot_perm lotR (List.reverse_perm rs)) (by rw [List.length_reverse]; exact rlen) fun H16 s1516 => ?_⟩
    have s16 := s15.trans s1516
    have eo : sortV ls rs.reverse = opp (sortV ls ns) := sort_rest (by rw [lsum_perm (List.reverse_perm rs)]; exact rsum)
    have ev : valV (mergeK [] [((Sum.inr ("short" : Str) : Key), V.str "long"), (Sum.inr ("long" : Str), V.str "short"), (Sum.inr ("level" : Str), V.str "level")]) (Sum.inr (sortV ls ns) : Key) = some (.str (opp (sortV ls ns))) := by
      rcases sort_cases ls ns with ⟨_, e⟩ | ⟨_, e⟩ | ⟨_, e⟩ <;> rw [e] <;> decide +kernel
    refine fun dd hdd => ⟨upd_same, [((Sum.inr ("short" : Str) : Key), V.str "long"), (Sum.inr ("long" : Str), V.str "short"), (Sum.inr ("level" : Str), V.str "level")], rfl, (by decide), ?_⟩
    rw [upd_upd]
    refine ⟨_, rfl, dd, _, rfl, (by rw [← ev]; exact DGet.k (k := Sum.inr (sortV ls ns)) upd_same), rfl, _, rfl, iteBF (by rw [eo]; exact e2 _) ?_⟩
    -- the end
    have s17 := s16.new (o := .dK (mergeK [] [((Sum.inr ("short" : Str) : Key), V.str "long"), (Sum.inr ("long" : Str), V.str "short"), (Sum.inr ("level" : Str), V.str "level")])) hdd
    have fin := q _ (b04.trans (But.of s17)) ((pen4.same s17).mono (by omega))
    rcases sort_cases ls ns with ⟨a, e⟩ | ⟨a, e⟩ | ⟨a, e⟩
    · have lv := level_of lotN a
      rw [e]
      refine ⟨_, rfl, rfl, false, by rw [e2 _], iteF ?_⟩
      have ec : (!levelB ls) = false := by rw [lv]; rfl
      refine ⟨_, rfl, r, C, dx, _, _, rfl, s17 _ _ hr4, R.cl, R.nI, rf_clear _ _, _, _, rfl, rfl, _, rfl, ?_⟩
      rw [ec]
      refine iteDT rfl ?_
      refine ⟨_, rfl, r, C, dx, _, _, rfl, s17 _ _ hr4, R.cl, R.nT, rf_total _ _, _, _, rfl, rfl, (show (0 : Int) < 2 by decide), rfl, ?_⟩
      have em : decide (V.int (ls.sum % 2) = V.int 0) = true := decide_eq_true (by rw [show ls.sum % 2 = 0 by omega])
      rw [em]
      exact fin
    · rw [e]
      refine ⟨_, rfl, rfl, true, ?_, ite2 (fun _ => fin) (fun z => absurd rfl z)⟩
      rw [decide_eq_false (fun z => ne_sv (V.str.inj z))]
      rfl
    · rw [e]
      refine ⟨_, rfl, rfl, true, ?_, ite2 (fun _ => fin) (fun z => absurd rfl z)⟩
      rw [decide_eq_false (fun z => ne_lv (V.str.inj z))]
      rfl
end
end K
namespace K
open PySem L2 Rg
open Evl (pss_cut)
/-! ### a whole ring -/
def isLong (ls : List Int) (j : Nat) : Bool := decide (ls.sum < 2 * ls.getD j 0)
def alone (ls : List Int) (i : Nat) : List Int := natB ((List.range i).filter (isLong ls))
theorem alone_in {ls : List Int} {i : Nat} (h : isLong ls i = true) : alone ls (i + 1) = alone ls i ++ [(i : Int)] := by
  unfold alone natB
  rw [List.range_succ, List.filter_append, List.map_append]
  simp [h]
theorem alone_out {ls : List Int} {i : Nat} (h : isLong ls i = false) : alone ls (i + 1) = alone ls i := by
  unfold alone natB
  rw [List.range_succ, List.filter_append, List.map_append]
  simp [h]
theorem alone_len {ls : List Int} {i : Nat} : (alone ls i).length ≤ i := by
  unfold alone natB
  rw [List.length_map]
  exact Nat.le_trans (List.length_filter_le ..) (by rw [List.length_range]; exact Nat.le_refl _)
theorem sort_one {ls : List Int} {i : Nat} : decide (V.str (sortV ls [(i : Int)]) = V.str "long") = isLong ls i := by
  have e : lsum ls [(i : Int)] = ls.getD i 0 := by
    unfold lsum
    rw [List.map_singleton, List.sum_singleton, Int.toNat_natCast]
  unfold isLong
  rcases sort_cases ls [(i : Int)] with ⟨a, h⟩ | ⟨a, h⟩ | ⟨a, h⟩ <;> rw [h] <;> rw [e] at a
  · rw [decide_eq_false fun z => ne_lv (V.str.inj z).symm, decide_eq_false (by omega)]
  · rw [decide_eq_false fun z => ne_sl (V.str.inj z), decide_eq_false (by omega)]
  · rw [decide_eq_true rfl, decide_eq_true (by omega)]
theorem sum_pos : ∀ {l : List Int}, (∀ z ∈ l, 0 ≤ z) → 0 ≤ l.sum
  | [], _ => by simp
  | a :: l, q => by
    rw [List.sum_cons]
    have := sum_pos (l := l) fun z hz => q z (List.mem_cons_of_mem _ hz)
    have := q a (List.mem_cons_self ..)
    omega
theorem get_sum : ∀ {l : List Int} {k : Nat}, (∀ z ∈ l, 0 ≤ z) → k < l.length → l.getD k 0 ≤ l.sum
  | a :: l, 0, q, _ => by
    have := sum_pos (l := l) fun z hz => q z (List.mem_cons_of_mem _ hz)
    rw [List.sum_cons, List.getD_cons_zero]
    omega
  | a :: l, k + 1, q, h => by
    have := get_sum (l := l) (k := k) (fun z hz => q z (List.mem_cons_of_mem _ hz)) (by simpa using h)
    have := q a (List.mem_cons_self ..)
    rw [List.sum_cons, List.getD_cons_succ]
    omega
theorem sum_two : ∀ {l : List Int} {i j : Nat}, (∀ z ∈ l, 0 ≤ z) → i < j → j < l.length → l.getD i 0 + l.getD j 0 ≤ l.sum
  | a :: l, 0, j + 1, q, _, h => by
    have := get_sum (l := l) (k := j) (fun z hz => q z (List.mem_cons_of_mem _ hz)) (by simpa using h)
    rw [List.sum_cons, List.getD_cons_zero, List.getD_cons_succ]
    omega
  | a :: l, i + 1, j + 1, q, hij, h => by
    have := sum_two (l := l) (i := i) (j := j) (fun z hz => q z (List.mem_cons_of_mem _ hz)) (by omega) (by simpa using h)
    have := q a (List.mem_cons_self ..)
    rw [List.sum_cons, List.getD_cons_succ, List.getD_cons_succ]
    omega
theorem long_uniq {ls : List Int} (h0 : ∀ x ∈ ls, 0 ≤ x) {i j : Nat} (hi : i < ls.length) (hj : j < ls.length) (a : isLong ls i = true) (b : isLong ls j = true) : i = j := by
  have a' := of_decide_eq_true a
  have b' := of_decide_eq_true b
  rcases Nat.lt_trichotomy i j with h | h | h
  · have := sum_two h0 h hj
    omega
  · exact h
  · have := sum_two h0 h hi
    omega
theorem filter_uniq {p : Nat → Bool} {j : Nat} : ∀ n, j < n → p j = true → (∀ i, i < n → p i = true → i = j) → (List.range n).filter p = [j]
  | 0, h, _, _ => by omega
  | n + 1, h, hp, u => by
    rw [List.range_succ, List.filter_append]
    by_cases e : n = j
    · have h1 : (List.range n).filter p = [] := List.filter_eq_nil_iff.mpr fun i hi q => by
        have := u i (by have := List.mem_range.mp hi; omega) q
        have := List.mem_range.mp hi
        omega
      rw [h1, e]
      simp [hp]
    · have h1 := filter_uniq n (by omega) hp fun i hi q => u i (by omega) q
      have h2 : p n = false := by
        cases q : p n with
        | false => rfl
        | true => exact absurd (u n (by omega) q) e
      rw [h1]
      simp [h2]
/-- what is due of closes, of too_long and of the bars that are long alone -/
theorem alone_two {ls : List Int} (h0 : ∀ x ∈ ls, 0 ≤ x) : (closesB ls = true ∧ alone ls ls.length = []) ∨ (closesB ls = false ∧ ∃ j : Nat, j < ls.length ∧ isLong ls j = true ∧ alone ls ls.length = [(j : Int)]) := by
  cases e : closesB ls with
  | true =>
    refine .inl ⟨rfl, ?_⟩
    unfold alone
    rw [show (List.range ls.length).filter (isLong ls) = [] from List.filter_eq_nil_iff.mpr fun i hi q => ?_]
    · rfl
    · have hi' := List.mem_range.mp hi
      have c := List.all_eq_true.mp e ls[i] (List.getElem_mem hi')
      have q' := of_decide_eq_true q
      rw [List.getD_eq_getElem?_getD, List.getElem?_eq_getElem hi'] at q'
      have c' := of_decide_eq_true c
      simp only [Option.getD_some] at q'
      omega
  | false =>
    unfold closesB at e
    rw [List.all_eq_false] at e
    obtain ⟨x, hx, nx⟩ := e
    obtain ⟨j, hjl, rfl⟩ := List.mem_iff_getElem.mp hx
    have hxs : ¬ 2 * ls[j] ≤ ls.sum := fun z => nx (decide_eq_true z)
    have lj : isLong ls j = true := by
      refine decide_eq_true ?_
      rw [List.getD_eq_getElem?_getD, List.getElem?_eq_getElem hjl]
      simp only [Option.getD_some]
      omega
    refine .inr ⟨rfl, j, hjl, lj, ?_⟩
    unfold alone
    rw [filter_uniq ls.length hjl lj fun i hi q => long_uniq h0 hi hjl q lj]
    rfl
theorem alone_v {ls : List Int} (h0 : ∀ x ∈ ls, 0 ≤ x) {v : V} (t : tooV ls v) : (alone ls ls.length = [] ∧ v = .non) ∨ ∃ j : Nat, alone ls ls.length = [(j : Int)] ∧ v = .int (j : Nat) := by
  rcases alone_two h0 with ⟨e, a⟩ | ⟨e, j, hj, lj, a⟩
  · exact .inl ⟨a, t.1 e⟩
  · obtain ⟨j', m, rfl, hj', hm, _⟩ := t.2 e
    have hjl : j' < ls.length := (List.getElem?_eq_some_iff.mp hj').1
    have lj' : isLong ls j' = true := by
      have q := of_decide_eq_true lj
      have mx := hm ls[j] (List.getElem_mem hj)
      rw [List.getD_eq_getElem?_getD, List.getElem?_eq_getElem hj] at q
      refine decide_eq_true ?_
      rw [List.getD_eq_getElem?_getD, hj']
      simp only [Option.getD_some] at q ⊢
      omega
    rw [long_uniq h0 hjl hj lj' lj]
    exact .inr ⟨j, a, rfl⟩
theorem alone_c {ls : List Int} (h0 : ∀ x ∈ ls, 0 ≤ x) : closesB ls = (alone ls ls.length).isEmpty ∧ (alone ls ls.length).length ≤ 1 := by
  rcases alone_two h0 with ⟨e, a⟩ | ⟨e, j, _, _, a⟩
  · rw [e, a]
    exact ⟨rfl, by decide⟩
  · rw [e, a]
    exact ⟨rfl, Nat.le_refl _⟩
theorem lotsN_lot {n : Nat} {l : List Int} (h : l ∈ lotsN n) : Lot n l := ⟨lotsN_nodup n l h, lotsN_in n l h⟩
theorem level_any {ls : List Int} {xs : List V} {kf : V → List Int} (p : (xs.map kf).Perm (lotsN ls.length)) : inV (.str "level") (xs.map fun x => V.str (sortV ls (kf x))) = levelB ls := by
  rw [level_lots]
  have e1 : (lotsN ls.length).any (fun l => decide (2 * lsum ls l = ls.sum)) = (xs.map kf).any fun l => decide (2 * lsum ls l = ls.sum) := by
    rw [Bool.eq_iff_iff, List.any_eq_true, List.any_eq_true]
    exact ⟨fun ⟨x, hx, q⟩ => ⟨x, p.mem_iff.mpr hx, q⟩, fun ⟨x, hx, q⟩ => ⟨x, p.mem_iff.mp hx, q⟩⟩
  rw [e1, List.any_map]
  unfold inV
  rw [List.any_map]
  congr 1
  funext x
  show decide (sortV ls (kf x) = "level") = decide (2 * lsum ls (kf x) = ls.sum)
  rcases sort_cases ls (kf x) with ⟨a, e⟩ | ⟨a, e⟩ | ⟨a, e⟩ <;> rw [e]
  · rw [decide_eq_true rfl, decide_eq_true a]
  · rw [decide_eq_false ne_sv, decide_eq_false (by omega)]
  · rw [decide_eq_false ne_lv, decide_eq_false (by omega)]
theorem even_of {ls : List Int} (h : levelB ls = true) : ls.sum % 2 = 0 := by
  rw [level_lots, List.any_eq_true] at h
  obtain ⟨l, _, q⟩ := h
  have := of_decide_eq_true q
  omega
theorem ne_bb {a b : Bool} (h : a = b) : (!decide (V.bl a = V.bl b)) = false := by rw [h, decide_eq_true rfl]; rfl
theorem ne_vv (v : V) : (!decide (v = v)) = false := by rw [decide_eq_true rfl]; rfl
theorem at_back {α : Type} {xs : List α} {v : α} (hl : 0 < xs.length) (h : xs[xs.length - 1]? = some v) : atI xs (-1) = some v := by
  unfold atI ixN
  rw [if_neg (by decide), if_pos (by omega), show ((-1 : Int) + (xs.length : Int)).toNat = xs.length - 1 by omega]
  exact h
theorem shaped_nil : SeqAt.shaped (.list []) = true := shaped_ints []
section
variable {P : Program} {w : World} {K : PySem.W.Frag} {mg : Str → Option Value} {base : Heap}
def spWR (K : PySem.W.Frag) (C : Addr) : Sp := fun vs H Q _ => ∃ (l r : Addr) (ls : List Int), vs = [.ref l, .ref r] ∧ H l = some (.lst (ls.map V.int)) ∧ RingAt K C H r ls ∧ 3 ≤ ls.length ∧ ls.length ≤ 8 ∧ Bd 1000000 ls ∧ ∀ H', Same H H' → Q (.bl true) H'
abbrev nWR : List Str := ["_law_lengths_here", "_law_ring", "_law_many", "_law_alone", "_law_sorts", "_law_bar", "_law_lot"]
theorem scWR : FnScope nWR ["_law_lengths_here", "_law_ring"] (defScope sLwWholeRight) := ⟨rfl, rfl, rfl, by decide +kernel, rfl, by decide +kernel, by decide +kernel⟩
theorem ok_wr {C f fT fS fL fO fA : Addr} {c : Cs} {fd fdT fdS fdL fdO fdA : FuncData} {g g1 : List Value → List Value → List Value} (F : Fun K "_law_whole_right" "_law_whole_right" sLwWholeRight f fd) (T : Bi mg) (R : RingC K mg C) (SO : DefAt P w K mg base CX0 2 "_law_sort" ["_law_lengths_here", "_law_lot"] (spSort K) fS fdS)
    (LO : DefAt P w K mg base CX0 2 "_law_lots" ["_law_many"] (spLots K) fA fdA) (TL : DefAt P w K mg base CX0 2 "too_long" ["ring"] (spTooL K C) fT fdT) (TK : KBinds K fdT ["ring"] ["ring"] g1 gK1) (M : RingM P w K mg base C c fL fO fdL fdO g) : FnOk P w K mg base CX0 7 f fd ["_law_lengths_here", "_law_ring"] (spWR K C) := by
  refine F.ok scWR (fun vs H Q E h => ?_) (fun cdv A outer s H vs Q E hr h => ?_)
  · obtain ⟨l, r, ls, rfl, _⟩ := h
    rfl
  · have nd := scWR.nd
    refine ⟨_, pss_cons (ps_set (i := 2) nd rfl (Or.inl rfl) (pe_callB call_len_seq (by rfl) T.len PySem.boot_len (pa_cons (pv 0) pa_nil)))
      (pss_cons (ps_setLc (i := 3) (own := [("_law_bar", 5)]) (g := gName 5) (te := tVar 5) rfl nd rfl rfl (sw_true rfl rfl rfl (by decide +kernel)) (pi_range1 (by rfl) T.range (pa_cons (pv 2) pa_nil))
        (blkOk_by (N := nWR) (sc := defScope sLwWholeRight) (by decide +kernel)) (fun _ _ _ _ _ => pg_name (i := 5) nd rfl (Or.inl rfl)) (fun _ _ _ _ _ => pts_one (pt_cmpR op_eq (pe_call SO.ok (hr.mono (by decide)) rfl SO.g SO.kp SO.b .nil pass0 (pa_cons (pv 0) (pa_cons (pe_tup (pa_cons (pv 5) pa_nil)) pa_nil))) pe_str (nomark _))) (fun _ _ _ _ _ => pv 5))
      (pss_cons (ps_if (PW.pt (pw_or (pt_cmpR op_ne (pe_cmpR op_isBl (pe_fld (pv 1) rfl) pe_bl (nomark _)) (pe_cmpR (op_eqD hr.units) (pv 3) (pe_lst pa_nil) (nomark _)) (nomark _))
        (pw_or (pt_cmpR op_ne (pe_callK0 TL.ok (hr.mono (by decide)) rfl TL.g TL.kp TK pass0 (pk_cons (pv 1) pk_nil)) (pe_ifExp (pt_cmpR (op_neD hr.units) (pv 3) (pe_lst pa_nil) (nomark _)) (pe_ix ix_list (pv 3) pe_int (fun _ _ => rfl)) pe_non) (nomark _))
        (pw_or1 (pt_cmpR op_gt (pe_callB call_len_seq (by rfl) T.len PySem.boot_len (pa_cons (pv 3) pa_nil)) pe_int (nomark _)))))) (pss_one ps_never) pss_nil)
      (pss_cons (ps_setLc (i := 4) (own := [("_law_lot", 6)]) (g := gName 6) (tt := tYes) rfl nd rfl rfl (sw_true rfl rfl rfl (by decide +kernel)) (pi_list (pe_call LO.ok (hr.mono (by decide)) rfl LO.g LO.kp LO.b .nil pass0 (pa_cons (pv 2) pa_nil)))
        (blkOk_by (N := nWR) (sc := defScope sLwWholeRight) (by decide +kernel)) (fun _ _ _ _ _ => pg_name (i := 6) nd rfl (Or.inl rfl)) (fun _ _ _ _ _ => pts_nil) (fun _ _ _ _ _ => pe_meth (pv 1) R.cl M.mS M.okS hr M.bS .nil passL (pa_cons (pv 6) pa_nil)))
      (pss_cons (ps_if (PW.pt (pw_or (pt_cmpR op_ne (pe_cmpR op_isBl (pe_fld (pv 1) rfl) pe_bl (nomark _)) (pe_cmpR op_notIn_seq pe_str (pv 4) (by rfl)) (nomark _))
        (pw_or (pt_cmpR op_ne (pe_ix ix_list (pv 4) pe_int (fun _ _ => rfl)) pe_str (nomark _))
        (pw_or1 (pt_cmpR op_ne (pe_ix ix_list (pv 4) (pe_un un_neg pe_int) (fun _ _ => rfl)) pe_str (nomark _)))))) (pss_one ps_never) pss_nil)
      (pss_one (ps_ret (pe_or (pe_cmpR op_isBl (pe_fld (pv 1) rfl) pe_bl (nomark _)) (pe_one (pe_cmpR op_eq (pe_op op_mod (pe_callB (cr_sum rfl) (by rfl) T.sum (by decide +kernel) (pa_cons (pv 0) pa_nil)) pe_int) pe_int (nomark _)))))))))), ?_⟩
    obtain ⟨l, r, ls, rfl, hl, ring, l3, l8, bd, q⟩ := h
    have h0 : ∀ x ∈ ls, 0 ≤ x := fun x hx => by have := (bd x hx).1; omega
    refine ⟨_, rfl, l, _, rfl, .inl (SqL.of hl), ?_⟩
    rw [List.length_map]
    refine ⟨_, rfl, _, rfl, by omega, by omega, fun D hD => ?_⟩
    refine lc_range (lo := 0) (n := ((ls.length : Nat) : Int).toNat) (fun i H' => Same H H' ∧ H' D = some (.lst ((alone ls i).map V.int))) ⟨(Same.refl H).new hD, upd_same⟩ ?_ ?_
    · rintro i H' hi ⟨s2, h2⟩
      rw [Int.zero_add]
      refine ⟨rfl, _, rfl, _, rfl, (by show 1 ≤ sizeLine; decide), fun u hu => ⟨l, u, ls, [(i : Int)], rfl, SqL.of ?_, .inr (.inl (.inl upd_same)), l8, (by show 1 ≤ 8; decide), ⟨List.pairwise_singleton _ _, fun b hb => by rw [List.mem_singleton.mp hb]; omega⟩, fun H3 s3 => ?_⟩⟩
      · rw [upd_ne (ne_of_none (s2 _ _ hl) hu)]
        exact s2 _ _ hl
      have s23 : Same H' H3 := ((Same.refl H').new hu).trans s3
      refine ⟨rfl, _, rfl, ?_⟩
      rw [sort_one]
      cases e : isLong ls i with
      | false => exact ite2 (fun z => by cases z) (fun _ => ⟨s2.trans s23, by rw [alone_out e]; exact s23 _ _ h2⟩)
      | true =>
        refine ite2 (fun _ => ?_) (fun z => absurd rfl z)
        refine ⟨_, rfl, _, s23 _ _ h2, ?_, (s2.trans s23).mut hD, ?_⟩
        · have := alone_len (ls := ls) (i := i)
          rw [List.length_map]
          exact sm (by omega)
        · rw [upd_same, alone_in e, List.map_append]
          rfl
    rintro H1 ⟨s1, h1⟩
    rw [Int.toNat_natCast] at h1
    obtain ⟨hc, hlen⟩ := alone_c h0
    have hv : ∀ v, tooV ls v → (alone ls ls.length = [] ∧ v = .non) ∨ ∃ j : Nat, alone ls ls.length = [(j : Int)] ∧ v = .int (j : Nat) := fun v t => alone_v h0 t
    generalize alone ls ls.length = al at h1 hc hlen hv ⊢
    have ring0 := ring
    obtain ⟨dx, t, hr0, _⟩ := ring0
    have noS : (rf t ls).lookup ("sort_of" : Str) = none := rf_no _ _ (by decide +kernel) (by decide +kernel) (by decide +kernel) (by decide +kernel)
    -- closes
    refine ⟨_, rfl, r, C, dx, _, _, rfl, s1 _ _ hr0, R.cl, R.nC, rf_closes _ _, _, _, rfl, rfl, _, rfl, (by show 0 ≤ sizeLine; decide), fun u hu => ⟨_, _, .lst (SqL.of (by rw [upd_ne (ne_of_none h1 hu)]; exact h1)) (dp_ints _), .lst (SqL.of upd_same) .nil, shaped_ints _, shaped_nil, rfl, _, rfl, iteBF ?_ ?_⟩⟩
    · rw [eqv_nil]
      exact ne_bb (by rw [hc]; cases al.isEmpty <;> rfl)
    have s2 := s1.new (o := .lst []) hu
    have h2 : upd H1 u (.lst []) D = some (.lst (al.map V.int)) := by rw [upd_ne (ne_of_none h1 hu)]; exact h1
    generalize upd H1 u (.lst []) = H2 at s2 h2 ⊢
    refine ⟨_, rfl, r, ls, rfl, ring.same s2, by omega, fun v tv => ?_⟩
    refine ⟨_, rfl, (by show 0 ≤ sizeLine; decide), fun u hu => ⟨_, _, .lst (SqL.of (by rw [upd_ne (ne_of_none h2 hu)]; exact h2)) (dp_ints _), .lst (SqL.of upd_same) .nil, shaped_ints _, shaped_nil, _, rfl, ?_⟩⟩
    rw [eqv_nil]
    have s3 := s2.new (o := .lst []) hu
    have h3 : upd H2 u (.lst []) D = some (.lst (al.map V.int)) := by rw [upd_ne (ne_of_none h2 hu)]; exact h2
    generalize upd H2 u (.lst []) = H3 at s3 h3 ⊢
    rcases hv v tv with ⟨ha, rfl⟩ | ⟨j, ha, rfl⟩
    case' inl => refine iteBF (by rw [ha]; rfl) ⟨rfl, _, rfl, iteBF (ne_vv _) ?_⟩
    case' inr => refine iteBT (by rw [ha]; rfl) ⟨_, rfl, D, _, 0, .int (j : Nat), rfl, rfl, SqL.of h3, (by rw [ha]; rfl), rfl, _, rfl, iteBF (ne_vv _) ?_⟩
    all_goals
      refine ⟨_, rfl, D, _, rfl, .inl (SqL.of h3), _, _, rfl, rfl, _, rfl, iteDF (by rw [List.length_map]; omega) ?_⟩
      refine ⟨_, rfl, ls.length, rfl, by omega, l8, fun p xs kf H4 s34 h4 la pm hf hla => ⟨p, rfl, ⟨_, SqL.of h4⟩, fun G hG => ?_⟩⟩
      have s4 := s3.trans s34
      have xl : xs.length = 2 ^ ls.length := by
        have := pm.length_eq
        rw [List.length_map, lotsN_length] at this
        exact this
      have p256 : 2 ^ ls.length ≤ 256 := Nat.pow_le_pow_right (by decide) (show ls.length ≤ 8 from l8)
      have p1 : 0 < 2 ^ ls.length := Nat.pow_pos (by decide)
      have lotX : ∀ x ∈ xs, Lot ls.length (kf x) := fun x hx => lotsN_lot (pm.mem_iff.mp (List.mem_map.mpr ⟨x, hx, rfl⟩))
      refine lc_list (K := K) (a := p) (xs := xs) (fun i H' => Same H4 H' ∧ H' G = some (.lst ((xs.take i).map fun x => V.str (sortV ls (kf x))))) ⟨(Same.refl H4).new hG, upd_same⟩ (fun i H' _ q => SqL.of (q.1 _ _ h4)) ?_ ?_
      · rintro i x H' hi ⟨s5, h5⟩
        have hx := List.mem_of_getElem? hi
        have hil : i < xs.length := (List.getElem?_eq_some_iff.mp hi).1
        obtain ⟨a, rfl, ha⟩ := la x hx
        refine ⟨rfl, _, rfl, r, dx, _, rfl, s5 _ _ (s4 _ _ hr0), noS, _, rfl, r, _, ls, rfl, (ring.same s4).same s5, l8, LotV.tpl (s5 _ _ ha) (lotX _ hx) (Nat.le_trans (lot_len (lotX _ hx)) l8) fun H6 s6 => ⟨_, s6 _ _ h5, (by rw [List.length_map, List.length_take]; exact sm (by omega)), (s5.trans s6).mut hG, ?_⟩⟩
        rw [upd_same, ← take_snoc hi, List.map_append]
        rfl
      · rintro H5 ⟨s5, h5⟩
        rw [List.take_length] at h5
        have s45 := s4.trans s5
        have fin := q H5 s45
        -- is_clear, the first and the last
        refine ⟨_, rfl, r, C, dx, _, _, rfl, s45 _ _ hr0, R.cl, R.nI, rf_clear _ _, _, _, rfl, rfl, _, rfl, G, _, rfl, .inl (SqL.of h5), rfl, ?_, rfl, _, rfl, iteBF ?_ ?_⟩
        · rw [List.all_map]
          exact List.all_eq_true.mpr fun _ _ => rfl
        · rw [level_any pm]
          exact ne_bb (by cases levelB ls <;> rfl)
        have x0 : ∃ x, xs[0]? = some x := ⟨xs[0], List.getElem?_eq_getElem (by omega)⟩
        have x9 : ∃ x, xs[xs.length - 1]? = some x := ⟨xs[xs.length - 1], List.getElem?_eq_getElem (by omega)⟩
        obtain ⟨x0, hx0⟩ := x0
        obtain ⟨x9, hx9⟩ := x9
        have sp := bd.sum
        have f0 : sortV ls (kf x0) = "short" := by
          rw [hf x0 hx0]
          rcases sort_cases ls [] with ⟨a, e⟩ | ⟨a, e⟩ | ⟨a, e⟩ <;> rw [show lsum ls [] = 0 from rfl] at a
          · omega
          · exact e
          · omega
        have f9 : sortV ls (kf x9) = "long" := by
          rw [hla x9 hx9]
          have sb := sum_bars (ls := ls) ls.length (Nat.le_refl _)
          rw [List.take_length] at sb
          rcases sort_cases ls (barsN ls.length) with ⟨a, e⟩ | ⟨a, e⟩ | ⟨a, e⟩ <;> rw [sb] at a
          · omega
          · omega
          · exact e
        have g0 : atI (xs.map fun x => V.str (sortV ls (kf x))) 0 = some (V.str "short") := at_of (j := 0) rfl (by rw [List.getElem?_map, hx0, ← f0]; rfl)
        have g9 : atI (xs.map fun x => V.str (sortV ls (kf x))) (-1) = some (V.str "long") := at_back (by rw [List.length_map]; omega) (by rw [List.getElem?_map, List.length_map, hx9, ← f9]; rfl)
        refine ⟨_, rfl, G, _, 0, _, rfl, rfl, SqL.of h5, g0, rfl, _, rfl, iteBF (ne_vv _) ?_⟩
        refine ⟨_, rfl, _, rfl, G, _, -1, _, rfl, rfl, SqL.of h5, g9, rfl, _, rfl, iteBF (ne_vv _) ?_⟩
        refine ⟨_, rfl, r, C, dx, _, _, rfl, s45 _ _ hr0, R.cl, R.nI, rf_clear _ _, _, _, rfl, rfl, _, rfl, ?_⟩
        cases e : levelB ls with
        | false => exact iteBT rfl fin
        | true =>
          refine iteBF rfl ⟨_, rfl, l, _, rfl, SqL.of (s45 _ _ hl), _, _, rfl, rfl, (show (0 : Int) < 2 by decide), rfl, ?_⟩
          have em : decide (V.int (ls.sum % 2) = V.int 0) = true := decide_eq_true (by rw [even_of e])
          rw [em]
          exact fin
end
end K
namespace K
open PySem L2 Rg LamX
open Evl (pss_cut)
/-- isinstance(e, c), e the caught error with its dict -/
def rIsX (K : PySem.W.Frag) (a : Addr) (cls : Value) (d : Option Addr) : List V → Hp → VK → Prop := fun xs H Q => ∃ (c : V) (cv : Value) (b : Bool) (D dd : Addr) (fs : List (Str × V)), xs = [.ref a, c] ∧ (∀ u, RelV c u → u = cv) ∧ cls = .ref D ∧ ExcC K D ∧ d = some dd ∧ H dd = some (.xd fs) ∧ PySem.W.kitOne K (.ref D) cv = some b ∧ Q (.bl b) H
theorem cr_isX {X : Cx} {a : Addr} {cls : Value} {d : Option Addr} {oe : Obj} {pn : List (Addr × Obj)} (hz : Zc cls d oe) (hf : ∃ vs, oe.data = .fields vs) : CallR (X.suite a ((a, oe) :: pn)) (.builtin "isinstance") (rIsX X.K a cls d) := by
  intro pins s σ H xs us Q I r ⟨c, cv, b, D, dd, fs, ex, hcv, ec, C, ed, hdd, e, q⟩
  subst ex ec ed
  obtain ⟨u1, u2, rfl, r1, r2⟩ := vals2 r
  obtain rfl : u1 = Value.ref a := r1
  obtain rfl := hcv _ r2
  obtain ⟨hget, _⟩ := I.pin (a, oe) (List.mem_append_left _ List.mem_cons_self)
  obtain ⟨vs, hv⟩ := hf
  obtain ⟨mA, hns, _⟩ := (show ObjOk X.prog X.w H s.heap dd (.xd fs) from I.hok dd _ hdd)
  obtain ⟨od, ho, _⟩ := lookIn_ns hns
  have J : PySem.W.InstAt s.heap a oe D (some od) := ⟨hget, hz.1, by unfold PySem.W.notCls; rw [hv] <;> rfl, by rw [hz.2]; exact ho⟩
  have hcl : (PySem.W.clsIn X.K D).isSome = true := by
    obtain ⟨cd, hc, _⟩ := PySem.W.any_some C.hd
    rw [hc]
    rfl
  exact PySem.W.kia_one (PySem.W.kitx_exc hcl C.hg C.hk C.hs C.ha C.hn C.ht C.hm) I.kIn J e (fun z => nomatch z) fun tk => ⟨.bl b, H, I.kept (t' := tk) fun _ _ z => z, rfl, q⟩
/-- what the written part says of the errors that are heard -/
structure HeardC (K : PySem.W.Frag) (mg : Str → Option Value) (c : Cs) (eR : Addr) : Prop where
  gR : mg "RingError" = some (.ref eR)
  gL : mg "BadLot" = some (.ref c.l)
  gN : mg "NoBar" = some (.ref c.n)
  gT : mg "Twice" = some (.ref c.t)
  eL : ExcC K c.l
  eN : ExcC K c.n
  eT : ExcC K c.t
  xL : XfC K c.l
  xN : XfC K c.n
  xT : XfC K c.t
  nL : PySem.W.findIn K (.ref c.l) "part" = some none
  nN : PySem.W.findIn K (.ref c.n) "value" = some none
  nT : PySem.W.findIn K (.ref c.t) "value" = some none
  mL : PySem.W.exmOne K (.ref c.l) (.ref eR) = some true
  mN : PySem.W.exmOne K (.ref c.n) (.ref eR) = some true
  mT : PySem.W.exmOne K (.ref c.t) (.ref eR) = some true
  kNL : PySem.W.kitOne K (.ref c.n) (.ref c.l) = some false
  kTL : PySem.W.kitOne K (.ref c.t) (.ref c.l) = some false
  kTN : PySem.W.kitOne K (.ref c.t) (.ref c.n) = some false
def Tells (c : Cs) (C : Addr) (f lab : Str) : Prop := (C = c.l ∧ f = "part" ∧ lab = "lot") ∨ (C = c.n ∧ f = "value" ∧ lab = "bar") ∨ (C = c.t ∧ f = "value" ∧ lab = "twice")
/-- one of the three errors comes: a pair tells which, and its field -/
def Told (c : Cs) (Q : VK) : XK := fun cls d H' => ∃ (C dd : Addr) (f lab : Str) (v : V), cls = .ref C ∧ d = some dd ∧ H' dd = some (.xd [(f, v)]) ∧ Tells c C f lab ∧ ∀ p H2, Same H' H2 → H2 p = some (.tup [.str lab, v]) → Q (.ref p) H2
def THeard (c : Cs) : (XK → Hp → VK → Prop) → Hp → VK → Prop := fun tl H Q => ∀ e, H e = none → tl (Told c Q) (upd H e (.tup [])) fun _ H' => ∃ v, (some (some (V.ref e)) : Option (Option V)) = some (some v) ∧ Q v H'
theorem takes_len {X : Cx} {W : WX} (t : Takes X W) : Takes X fun c d σ H => σ.length = X.N.length → W c d σ H := fun u s' ⟨a, B, sI, pins, σ, H, cls, d, e, I, nb, up, sky, na, os, ag, w⟩ =>
  t u s' ⟨a, B, sI, pins, σ, H, cls, d, e, I, nb, up, sky, na, os, ag, w I.len⟩
abbrev nHeard : List Str := ["_law_ask", "_law_found", "error"]
theorem scHeard : FnScope nHeard ["_law_ask"] (defScope sLwHeard) := ⟨rfl, rfl, rfl, by decide +kernel, rfl, by decide +kernel, by decide +kernel⟩
theorem heard_gives {X : Cx} {c : Cs} {eR g : Addr} {cdg : Value} {q : Str} (T : Bi X.mg) (Hc : HeardC X.K X.mg c eR) : GivesTo X nHeard "_law_heard" (defScope sLwHeard) g cdg (defBody sLwHeard) "_law_ask" q (THeard c) := by
  intro f c' s H Q tl act hc h
  have nd := scHeard.nd
  refine ⟨_, pss_cons (ps_set (i := 1) nd rfl (Or.inl rfl) (pe_tup pa_nil))
    (pss_cons (ps_try_as (X := (cxOf C8.CX0 X.prog X.w X.K X.mg X.base nHeard "_law_heard" (defScope sLwHeard) g cdg X.A X.stack s H C8.E0).nox) (c := .ref eR) (i := 2)
      (tb := fun W D σ H => ∃ Ech : XK, (∀ cls d σ' H', Ech cls d H' → σ'.length = 3 → W cls d σ' H') ∧ σ[0]? = some (some (.ref f)) ∧ H c' = some (CodeO c' q) ∧ tl Ech H fun _ H' => D.nx σ H')
      rfl rfl nd rfl rfl ⟨rfl, rfl, .inl Hc.gR⟩ L2.takes0 (fun W pn xe tk _ => ?_) (fun a oe cls d pn hz hf =>
        pss_cons (ps_set (i := 1) nd rfl (Or.inl rfl) (pe_tup (pa_cons pe_str pa_nil)))
        (pss_one (ps_if (pt_val (pe_callB (cr_isX hz hf) (by rfl) T.isinstance (by decide +kernel) (pa_cons (pv 2) (pa_cons (pe_glob (v := .ref c.l) rfl Hc.gL rfl) pa_nil))))
          (pss_one (ps_set (i := 1) nd rfl (Or.inl rfl) (pe_tup (pa_cons pe_str (pa_cons (pe_xf Hc.xL Hc.nL hz hf (pv 2)) pa_nil)))))
          (pss_one (ps_if (pt_val (pe_callB (cr_isX hz hf) (by rfl) T.isinstance (by decide +kernel) (pa_cons (pv 2) (pa_cons (pe_glob (v := .ref c.n) rfl Hc.gN rfl) pa_nil))))
            (pss_one (ps_set (i := 1) nd rfl (Or.inl rfl) (pe_tup (pa_cons pe_str (pa_cons (pe_xf Hc.xN Hc.nN hz hf (pv 2)) pa_nil)))))
            (pss_one (ps_if (pt_val (pe_callB (cr_isX hz hf) (by rfl) T.isinstance (by decide +kernel) (pa_cons (pv 2) (pa_cons (pe_glob (v := .ref c.t) rfl Hc.gT rfl) pa_nil))))
              (pss_one (ps_set (i := 1) nd rfl (Or.inl rfl) (pe_tup (pa_cons pe_str (pa_cons (pe_xf Hc.xT Hc.nT hz hf (pv 2)) pa_nil))))) pss_nil))))))))
    (pss_one (ps_ret (pv 1)))), ?_⟩
  · refine ⟨fun pins s' σ H' D I h' => ?_⟩
    obtain ⟨Ech, hW, h1, h2, h3⟩ := h'
    exact (pss_one (ps_expr (act _ pn xe Ech _ _ (takes_len tk) hW))).run pins s' σ H' D I ⟨h1, h2, h3⟩
  · refine ⟨(by show 0 ≤ sizeLine; decide), fun e he => ⟨Told c Q, ?_, rfl, ?_, h e he⟩⟩
    · rintro cls d σ' H' ⟨C, dd, fl, lab, v, rfl, rfl, hdd, tells, q⟩ hl
      obtain ⟨x0, x1, x2, rfl⟩ : ∃ x0 x1 x2, σ' = [x0, x1, x2] := by
        match σ', hl with
        | [x0, x1, x2], _ => exact ⟨x0, x1, x2, rfl⟩
      have two : 2 ≤ sizeLine := by decide
      rcases tells with ⟨rfl, rfl, rfl⟩ | ⟨rfl, rfl, rfl⟩ | ⟨rfl, rfl, rfl⟩
      · refine ⟨true, Hc.mL, fun _ a ha => ?_, fun z => by cases z⟩
        refine ⟨(by show 1 ≤ sizeLine; decide), fun u hu => ?_⟩
        have s1 : Same H' (upd H' u (.tup [.str "other"])) := (Same.refl H').new hu
        refine ⟨_, rfl, .ref c.l, .ref c.l, true, c.l, dd, _, rfl, fun _ r => r, rfl, Hc.eL, rfl, s1 _ _ hdd, kit_self, _, rfl, iteT ?_⟩
        refine ⟨_, rfl, rfl, rfl, dd, _, v, rfl, s1 _ _ hdd, by simp [List.lookup], two, fun p hp => ?_⟩
        exact ⟨_, rfl, q p _ (s1.new hp) upd_same⟩
      · refine ⟨true, Hc.mN, fun _ a ha => ?_, fun z => by cases z⟩
        refine ⟨(by show 1 ≤ sizeLine; decide), fun u hu => ?_⟩
        have s1 : Same H' (upd H' u (.tup [.str "other"])) := (Same.refl H').new hu
        refine ⟨_, rfl, .ref c.l, .ref c.l, false, c.n, dd, _, rfl, fun _ r => r, rfl, Hc.eN, rfl, s1 _ _ hdd, Hc.kNL, _, rfl, iteF ?_⟩
        refine ⟨_, rfl, .ref c.n, .ref c.n, true, c.n, dd, _, rfl, fun _ r => r, rfl, Hc.eN, rfl, s1 _ _ hdd, kit_self, _, rfl, iteT ?_⟩
        refine ⟨_, rfl, rfl, rfl, dd, _, v, rfl, s1 _ _ hdd, by simp [List.lookup], two, fun p hp => ?_⟩
        exact ⟨_, rfl, q p _ (s1.new hp) upd_same⟩
      · refine ⟨true, Hc.mT, fun _ a ha => ?_, fun z => by cases z⟩
        refine ⟨(by show 1 ≤ sizeLine; decide), fun u hu => ?_⟩
        have s1 : Same H' (upd H' u (.tup [.str "other"])) := (Same.refl H').new hu
        refine ⟨_, rfl, .ref c.l, .ref c.l, false, c.t, dd, _, rfl, fun _ r => r, rfl, Hc.eT, rfl, s1 _ _ hdd, Hc.kTL, _, rfl, iteF ?_⟩
        refine ⟨_, rfl, .ref c.n, .ref c.n, false, c.t, dd, _, rfl, fun _ r => r, rfl, Hc.eT, rfl, s1 _ _ hdd, Hc.kTN, _, rfl, iteF ?_⟩
        refine ⟨_, rfl, .ref c.t, .ref c.t, true, c.t, dd, _, rfl, fun _ r => r, rfl, Hc.eT, rfl, s1 _ _ hdd, kit_self, _, rfl, iteT ?_⟩
        refine ⟨_, rfl, rfl, rfl, dd, _, v, rfl, s1 _ _ hdd, by simp [List.lookup], two, fun p hp => ?_⟩
        exact ⟨_, rfl, q p _ (s1.new hp) upd_same⟩
    · exact ((Same.refl H).new he) _ _ hc
end K
namespace K
open PySem L2 Rg LamX
open Evl (pss_cut)
section
variable {P : Program} {w : World} {K : PySem.W.Frag} {mg : Str → Option Value} {base : Heap}
/-- a def whose code object stands at c -/
structure FunC (K : PySem.W.Frag) (x qual : Str) (st : Stmt) (f : Addr) (fd : FuncData) (c : Addr) : Prop where
  ex : ∃ (oc : Value) (od : Option Addr) (kV doc pm : Value) (an : Option Addr) (ct : Value) (osl : Array (Option Value)),
    fd = PySem.W.fnOf x qual (defArgs st) (defBody st) (defScope st) .none kV doc pm an (.ref c) ct ∧ K.lookup f = some ⟨oc, od, .func fd, osl⟩ ∧ PySem.W.codeIn K (.ref c) qual = true
theorem FunC.ok {x qual : Str} {st : Stmt} {f c : Addr} {fd : FuncData} {N ps : List Str} {k : Nat} {sp : Sp} (F : FunC K x qual st f fd c) (S : FnScope N ps (defScope st)) (len : ∀ vs H Q E, sp vs H Q E → vs.length = ps.length)
    (hbody : ∀ (A : Around) (outer : List Env) (s : Shared) (H : Hp) (vs : List V) (Q : VK) (E : XK), Room k (A.deeper (PyProof.Rows.envOfC qual (defScope st) s.heap.objs.size f (.ref c))) → sp vs H Q E →
      ∃ t, PSs (cxOf CX0 P w K mg base N qual (defScope st) f (.ref c) A outer s H E).nox (defBody st) t ∧ t { nx := fun _ H' => Q .non H', rt := Q } (L2.start N vs) H) : FnOk P w K mg base CX0 (k + 1) f fd ps sp := by
  obtain ⟨oc, od, kV, doc, pm, an, ct, osl, rfl, lk, hcd⟩ := F.ex
  exact fn_of lk hcd S len fun A outer s H vs Q E hr hsp => by
    obtain ⟨t, h, q⟩ := hbody A outer s H vs Q E hr hsp
    exact ⟨t, h.nox, q⟩
/-- all but what stands at h and the tables stay -/
def Kp (h : Addr) (H H' : Hp) : Prop := ∀ b o, b ≠ h → H b = some o → (∀ ps, o ≠ .tbl ps) → H' b = some o
theorem Kp.refl (h : Addr) (H : Hp) : Kp h H H := fun _ _ _ e _ => e
theorem Kp.ext {h : Addr} {H H1 H2 : Hp} (a : Kp h H H1) (e : ExtN H1 H2) : Kp h H H2 := fun b o n q t => e b o (a b o n q t) t
theorem Kp.same {h : Addr} {H H1 H2 : Hp} (a : Kp h H H1) (s : Same H1 H2) : Kp h H H2 := fun b o n q t => s b o (a b o n q t)
theorem Kp.at {h : Addr} {H H1 : Hp} {o : HO} (a : Kp h H H1) : Kp h H (upd H1 h o) := fun b u n q t => by
  rw [upd_ne n]
  exact a b u n q t
theorem tabS_same {H H' : Hp} {P : Addr} {q : Str} (t : TabS H P q) (s : Same H H') : TabS H' P q := t.ext s
theorem tabS_but {h : Addr} {xs : List V} {H H' : Hp} {P : Addr} {q : Str} (t : TabS H P q) (b : But h H H') (hh : H h = some (.lst xs)) : TabS H' P q := by
  obtain ⟨ps, h1, h2, h3⟩ := t
  refine ⟨ps, b _ _ (fun e => ?_) h1, h2, fun pos cv hc => ?_⟩
  · rw [e, hh] at h1
    cases h1
  · obtain ⟨c, e1, e2⟩ := h3 pos cv hc
    refine ⟨c, e1, b _ _ (fun e => ?_) e2⟩
    rw [e, hh] at e2
    cases e2
theorem RingAt.kp {C h : Addr} {xs : List V} {H H' : Hp} {r : Addr} {ls : List Int} (q : RingAt K C H r ls) (k : Kp h H H') (hh : H h = some (.lst xs)) : RingAt K C H' r ls := by
  obtain ⟨dx, t, h1, h2, o, h3, h4⟩ := q
  have nr : r ≠ h := fun z => by rw [z, hh] at h1; cases h1
  have nt : t ≠ h := fun z => by rw [z, hh] at h3; cases h3
  have e3 := k _ _ nt h3 (fun _ z => nomatch z)
  exact ⟨dx, t, k _ _ nr h1 (fun _ z => nomatch z), .inl (.inr ⟨o, e3⟩), o, e3, h4⟩
theorem PenAt.kp {h p : Addr} {e : Addr × List Int} {n : Nat} {H H' : Hp} (q : PenAt K H p e n) (k : Kp h H H') (hp : p ≠ h) (he : ∀ o, H e.1 = Option.some o → e.1 ≠ h) : PenAt K H' p e n := by
  obtain ⟨a, r, h1, h5, h6, h7⟩ := q.ex
  refine ⟨⟨a, r, k _ _ hp h1 (fun _ z => nomatch z), h5, h6, h7⟩, ?_, q.np, q.ln⟩
  rcases q.sq with (z | ⟨o, z⟩) | z
  · exact .inl (.inl (k _ _ (he _ z) z (fun _ z => nomatch z)))
  · exact .inl (.inr ⟨o, k _ _ (he _ z) z (fun _ z => nomatch z)⟩)
  · exact .inr z
/-- what an odd thing is, told of the heap: an item of a list, the thing itself -/
inductive El (h : Addr) (H : Hp) : V → String → Prop where
  | non : El h H .non "NoneType"
  | int (i : Int) : El h H (.int i) "int"
  | bl (b : Bool) : El h H (.bl b) "bool"
  | str (z : Str) : El h H (.str z) "str"
  | tup {a : Addr} {xs : List V} (n : a ≠ h) (e : H a = some (.tup xs)) : El h H (.ref a) "tuple"
  | lst {a : Addr} {xs : List V} (n : a ≠ h) (e : H a = some (.lst xs)) : El h H (.ref a) "list"
  | dct {a : Addr} {kvs : List (Key × V)} (n : a ≠ h) (e : H a = some (.dK kvs)) : El h H (.ref a) "dict"
theorem El.knd {h : Addr} {H : Hp} {x : V} {k : String} (q : El h H x k) : Knd K H x k := by
  cases q with
  | non => exact ⟨.base .non, by decide⟩
  | int i => exact ⟨.base (.int i), by decide⟩
  | bl b => exact ⟨.base (.bl b), by decide⟩
  | str z => exact ⟨.base (.str z), by decide⟩
  | tup n e => exact ⟨.base (.tup e), by decide⟩
  | lst n e => exact ⟨.base (.lst e), by decide⟩
  | dct n e => exact ⟨.base (.dK e), by decide⟩
theorem El.kp {h g : Addr} {H H' : Hp} {x : V} {k : String} (q : El h H x k) (s : Kp h H H') (hg : ∀ a o, a ≠ h → H a = some o → a ≠ g) : El g H' x k := by
  cases q with
  | non => exact .non
  | int i => exact .int i
  | bl b => exact .bl b
  | str z => exact .str z
  | tup n e => exact .tup (hg _ _ n e) (s _ _ n e (fun _ z => nomatch z))
  | lst n e => exact .lst (hg _ _ n e) (s _ _ n e (fun _ z => nomatch z))
  | dct n e => exact .dct (hg _ _ n e) (s _ _ n e (fun _ z => nomatch z))
/-- a thing that is no list of integers -/
def Odd (h : Addr) (H : Hp) (v : V) : Prop := (∃ k, El h H v k ∧ k ≠ "list" ∧ k ≠ "tuple") ∨ ∃ (a : Addr) (xs : List V) (kf : V → String), v = .ref a ∧ a ≠ h ∧ H a = some (.lst xs) ∧ xs.length ≤ 1000 ∧ (∀ x ∈ xs, El h H x (kf x)) ∧ (xs.all fun x => decide (kf x = "int")) = false
theorem Odd.kp {h g : Addr} {H H' : Hp} {v : V} (q : Odd h H v) (s : Kp h H H') (hg : ∀ a o, a ≠ h → H a = some o → a ≠ g) : Odd g H' v := by
  rcases q with ⟨k, e, n1, n2⟩ | ⟨a, xs, kf, e, n, h1, h2, h3, h4⟩
  · exact .inl ⟨k, e.kp s hg, n1, n2⟩
  · exact .inr ⟨a, xs, kf, e, hg _ _ n h1, s _ _ n h1 (fun _ z => nomatch z), h2, fun x hx => (h3 x hx).kp s hg, h4⟩
theorem Odd.lot {h : Addr} {H : Hp} {v : V} {E : XK} {c : Cs} {n : Int} {part : Str} {k : List Int → Prop} (q : Odd h H v) (e : Errs E c.l "part" (.str part) H) : LotV K H E c n part v k := by
  rcases q with ⟨kd, q, n1, n2⟩ | ⟨a, xs, kf, rfl, _, h1, h2, h3, h4⟩
  · exact .inl ⟨kd, q.knd, n1, n2, e⟩
  · exact .inr (.inl ⟨a, xs, kf, rfl, ⟨.base (.lst h1), by decide⟩, SqL.of h1, h2, fun x hx => (h3 x hx).knd, .inl ⟨h4, e⟩⟩)
/-- a lot that is refused, by the error at D with f = u -/
def Bad (K : PySem.W.Frag) (c : Cs) (n : Int) (h : Addr) (HB : Hp) (x : V) (D : Addr) (f : Str) (u : V) : Prop := ∀ (H : Hp) (E : XK) (k : List Int → Prop), Kp h HB H → Errs E D f u H → LotV K H E c n "lot" x k
/-- the pairs that were heard -/
def PT (H : Hp) : List V → List (Str × V) → Prop := Paired fun x q => ∃ a, x = V.ref a ∧ H a = some (.tup [.str q.1, q.2])
theorem PT.kp {h : Addr} {H H' : Hp} {xs ys : List V} {qs : List (Str × V)} (q : PT H xs qs) (s : Kp h H H') (hh : H h = some (.lst ys)) : PT H' xs qs := par_imp (fun _ _ ⟨a, e, r⟩ => ⟨a, e, s _ _ (fun z => by rw [z, hh] at r; cases r) r (fun _ z => nomatch z)⟩) q
def vD : V → PyData
  | .int i => .int i
  | .str z => .str z
  | _ => .none
def pD (q : Str × V) : PyData := .tuple [.str q.1, vD q.2]
def okV (v : V) : Prop := (∃ i, v = .int i) ∨ ∃ z, v = .str z
theorem dp_v {H : Hp} {v : V} (h : okV v) : Dp K H v (vD v) := by
  rcases h with ⟨i, rfl⟩ | ⟨z, rfl⟩
  · exact .int i
  · exact .str z
theorem dp_pairs0 {H : Hp} : ∀ {xs : List V} {qs : List (Str × V)}, PT H xs qs → (∀ q ∈ qs, okV q.2) → DpAll K H xs (qs.map pD)
  | _, _, .nil, _ => .nil
  | _, _, .cons ⟨a, e, h⟩ t, k => by
    subst e
    exact .cons (.tup (.inl (.inl h)) (.cons (.str _) (.cons (dp_v (k _ (List.mem_cons_self ..))) .nil))) (dp_pairs0 t fun q hq => k q (List.mem_cons_of_mem _ hq))
def pairs8 (far bar : Int) : List (Str × V) := [("lot", .str "lot"), ("lot", .str "lot"), ("bar", .int far), ("bar", .int far), ("twice", .int bar), ("twice", .int bar), ("lot", .str "lot"), ("lot", .str "lot")]
theorem pairs_ok (far bar : Int) : ∀ q ∈ pairs8 far bar, okV q.2 := by
  intro q hq
  simp only [pairs8, List.mem_cons, List.not_mem_nil, or_false] at hq
  rcases hq with rfl | rfl | rfl | rfl | rfl | rfl | rfl | rfl <;> first | exact .inl ⟨_, rfl⟩ | exact .inr ⟨_, rfl⟩
theorem dp_pairs {H : Hp} {xs : List V} {far bar : Int} (h : PT H xs (pairs8 far bar)) : DpAll K H xs ((pairs8 far bar).map pD) := dp_pairs0 h (pairs_ok far bar)
theorem pairs_eqv (far bar : Int) : PyData.eqv (.list ((pairs8 far bar).map pD)) (.list ((pairs8 far bar).map pD)) = true := by
  simp [pairs8, pD, vD, PyData.eqv, PyData.eqvAll]
theorem pairs_shaped (far bar : Int) : SeqAt.shaped (.list ((pairs8 far bar).map pD)) = true := by
  simp [pairs8, pD, vD, SeqAt.shaped, PyData.canLay0, PyData.canLayAll0, PyData.depth, PyData.depthAll]
  exact ⟨by decide +kernel, by decide +kernel, by decide +kernel, by decide +kernel⟩
abbrev nRR : List Str := ["_law_pen_here", "_law_ring", "_law_many", "_law_bar", "_law_far", "_law_odd", "_law_twice", "_law_heard_here", "_law_lot"]
theorem scRR : FnScope nRR ["_law_pen_here", "_law_ring"] (defScope sLwRefusedRight) := ⟨rfl, rfl, rfl, by decide +kernel, rfl, by decide +kernel, by decide +kernel⟩
def spRR (K : PySem.W.Frag) (C Pt : Addr) : Sp := fun vs H Q _ => ∃ (p r : Addr) (ls : List Int) (e : Addr × List Int) (n : Nat), vs = [.ref p, .ref r] ∧ n < 800000 ∧ PenAt K H p e n ∧ RingAt K C H r ls ∧ 3 ≤ ls.length ∧ ls.length ≤ 8 ∧ TabS H Pt "_law_refused_right.<locals>.<lambda>" ∧
  ∀ H', PenAt K H' p e (n + 3) → TabS H' Pt "_law_refused_right.<locals>.<lambda>" → Q (.bl true) H'
theorem ok_rr {C Pt cd f fD fP fH fL fO fN eR : Addr} {c : Cs} {fd fdD fdP fdH fdL fdO fdN : FuncData} {g : List Value → List Value → List Value} (F : FunC K "_law_refused_right" "_law_refused_right" sLwRefusedRight f fd cd) (T : Bi mg) (R : RingC K mg C) (D : DrawAt P w K mg base fD fdD)
    (PK : DefAt P w K mg base CX0 3 "_law_pick" ["_law_pen_here", "_law_some"] (spPick K) fP fdP) (M : RingM P w K mg base C c fL fO fdL fdO g) (Hc : HeardC K mg c eR) (TB : TabB base mg cd Pt)
    (NL : FnOk P w K mg base CX0 1 fN fdN ["self"] (spRLen K C)) (NB : Binds K fdN ["self"] []) (NM : Meth K C "__len__" fN) (FH : Fun K "_law_heard" "_law_heard" sLwHeard fH fdH) (BH : Binds K fdH ["_law_ask"] []) (GH : mg "_law_heard" = some (.ref fH)) : FnOk P w K mg base CX0 9 f fd ["_law_pen_here", "_law_ring"] (spRR K C Pt) := by
  refine F.ok scRR (fun vs H Q E h => ?_) (fun A outer s H vs Q E hr h => ?_)
  · obtain ⟨p, r, ls, e, n, rfl, _⟩ := h
    rfl
  · have nd := scRR.nd
    obtain ⟨oc, od, kV, doc, pm, an, cdv, ct, osl, rfl, lk, hcd⟩ := FH.ex
    refine ⟨_, pss_cons (ps_set (i := 2) nd rfl (Or.inl rfl) (pe_callB (call_lenO NL (hr.mono (by decide)) NB) (by rfl) T.len PySem.boot_len (pa_cons (pv 1) pa_nil)))
      (pss_cons (ps_set (i := 3) nd rfl (Or.inl rfl) (pe_call D.ok (hr.mono (by decide)) rfl D.g D.kp D.b .nil pass0 (pa_cons (pv 0) (pa_cons (pv 2) pa_nil))))
      (pss_cons (ps_set (i := 4) nd rfl (Or.inl rfl) (pe_call PK.ok (hr.mono (by decide)) rfl PK.g PK.kp PK.b .nil pass0 (pa_cons (pv 0) (pa_cons (pe_lst (pa_cons (pv 2) (pa_cons (pe_un un_neg pe_int) (pa_cons (pe_op op_pow pe_int pe_int) (pa_cons (pe_op op_add (pv 2) pe_int) pa_nil))))) pa_nil))))
      (pss_cons (ps_set (i := 5) nd rfl (Or.inl rfl) (pe_call PK.ok (hr.mono (by decide)) rfl PK.g PK.kp PK.b .nil pass0 (pa_cons (pv 0) (pa_cons (pe_lst (pa_cons pe_non (pa_cons pe_int (pa_cons pe_str (pa_cons (pe_lst (pa_cons pe_non pa_nil)) (pa_cons (pe_lst (pa_cons pe_int (pa_cons pe_bl pa_nil)))
          (pa_cons (pe_lst (pa_cons (pe_tup (pa_cons pe_int pa_nil)) pa_nil)) (pa_cons (pe_disp (pps_cons pe_int pe_int pps_nil) rfl rfl (by decide) (by decide)) (pa_cons (pe_lst (pa_cons pe_str pa_nil)) (pa_cons (pe_lst (pa_cons (pe_lst (pa_cons pe_int pa_nil)) pa_nil)) pa_nil)))))))))) pa_nil))))
      (pss_cons (ps_par (i := 6) (j := 7) (by rfl) nd rfl rfl (by decide) rfl rfl (pa_cons (pe_tup (pa_cons (pv 3) (pa_cons (pe_op op_mod (pe_callTy call_int1 (by rfl) T.int (by decide +kernel) (pa_cons (pe_op op_add (pv 3) pe_int) pa_nil)) (pv 2)) (pa_cons (pv 3) (pa_cons (pe_op op_mod (pe_callTy call_int1 (by rfl) T.int (by decide +kernel) (pa_cons (pe_op op_add (pv 3) pe_int) pa_nil)) (pv 2)) pa_nil))))) (pa_cons (pe_lst pa_nil) pa_nil)) (by rfl))
      (pss_cons (ps_for PassesOwn.never rfl (pi_tup (pe_tup (pa_cons (pv 5) (pa_cons (pe_lst (pa_cons (pv 3) (pa_cons (pv 3) (pa_cons (pv 4) (pa_cons (pe_un un_neg pe_int) pa_nil))))) (pa_cons (pv 6) (pa_cons (pe_lst (pa_cons (pv 4) (pa_cons pe_str pa_nil))) pa_nil)))))) (pg_name (i := 8) nd rfl (Or.inr rfl))
        (pss_cons (ps_expr (pe_bm PySem.F.plainAttrs_list PySem.F.slot_list_append PySem.F.type_list_append mt_append (pv 7) (pa_cons (pe_lamcall (T := [(Pt, "_law_refused_right.<locals>.<lambda>")]) (TT := THeard c) (a := "_law_ask") (g := fH) (c := cd) (P := Pt) (k := 6) (Ng := nHeard) rfl GH FH.kp lk hcd BH scHeard rfl (Or.inl rfl) (heard_gives T Hc) TB rfl (List.mem_singleton.mpr rfl) (fun p hp _ => by rw [List.mem_singleton.mp hp]; rfl) hr (lamS_by (sc := defScope sLwRefusedRight) (by decide +kernel)) rfl (fun _ _ _ _ _ => rfl)
            (fun A outer s H E f c' hr' => pe_meth (pv 1) R.cl M.mL M.okL (hr'.mono (by decide)) M.bL .nil (passes_call (takes_of rfl rfl rfl rfl) (fun _ _ _ _ h => h)) (pa_cons (pv 8) pa_nil))) pa_nil)))
        (pss_one (ps_expr (pe_bm PySem.F.plainAttrs_list PySem.F.slot_list_append PySem.F.type_list_append mt_append (pv 7) (pa_cons (pe_lamcall (T := [(Pt, "_law_refused_right.<locals>.<lambda>")]) (TT := THeard c) (a := "_law_ask") (g := fH) (c := cd) (P := Pt) (k := 6) (Ng := nHeard) rfl GH FH.kp lk hcd BH scHeard rfl (Or.inl rfl) (heard_gives T Hc) TB rfl (List.mem_singleton.mpr rfl) (fun p hp _ => by rw [List.mem_singleton.mp hp]; rfl) hr (lamS_by (sc := defScope sLwRefusedRight) (by decide +kernel)) rfl (fun _ _ _ _ _ => rfl)
            (fun A outer s H E f c' hr' => pe_meth (pv 1) R.cl M.mS M.okS hr' M.bS .nil (passes_call (takes_of rfl rfl rfl rfl) (fun _ _ _ _ h => h)) (pa_cons (pv 8) pa_nil))) pa_nil))))))
      (pss_one (ps_ret (pe_cmpR (op_eqD hr.units) (pv 7) (pe_op op_cat (pe_op op_cat (pe_op op_cat (pe_op op_rep (pe_lst (pa_cons (pe_tup (pa_cons pe_str (pa_cons pe_str pa_nil))) pa_nil)) pe_int) (pe_op op_rep (pe_lst (pa_cons (pe_tup (pa_cons pe_str (pa_cons (pv 4) pa_nil))) pa_nil)) pe_int))
        (pe_op op_rep (pe_lst (pa_cons (pe_tup (pa_cons pe_str (pa_cons (pv 3) pa_nil))) pa_nil)) pe_int)) (pe_op op_rep (pe_lst (pa_cons (pe_tup (pa_cons pe_str (pa_cons pe_str pa_nil))) pa_nil)) pe_int)) (nomark _))))))))), ?_⟩
    obtain ⟨p, r, ls, e, n, rfl, hn, pen, ring, l3, l8, tab, q⟩ := h
    have ring0 := ring
    obtain ⟨dx, t, hr0, ht, hf⟩ := ring0
    have noL : (rf t ls).lookup ("length_of" : Str) = none := rf_no _ _ (by decide +kernel) (by decide +kernel) (by decide +kernel) (by decide +kernel)
    have noS : (rf t ls).lookup ("sort_of" : Str) = none := rf_no _ _ (by decide +kernel) (by decide +kernel) (by decide +kernel) (by decide +kernel)
    refine ⟨_, rfl, r, C, dx, _, rfl, hr0, NM.at_, NM.fn, r, ls, rfl, ring, _, rfl, by omega, by omega, ?_⟩
    refine ⟨_, rfl, _, rfl, p, e, _, n, rfl, by omega, by omega, by omega, pen, fun bar H1 b0 b1 k1 pen1 => ?_⟩
    obtain ⟨pl, hpl⟩ := pen.some
    -- far
    have e20 : (10 : Int) ^ (20 : Int).toNat = 100000000000000000000 := by decide +kernel
    refine ⟨_, rfl, _, rfl, _, rfl, _, _, rfl, rfl, (show CPow 10 20 from by unfold CPow; decide +kernel), _, rfl, _, _, rfl, rfl, (by show 4 ≤ sizeLine; decide), fun q0 hq0 => ?_⟩
    have hq0p : q0 ≠ p := pen1.ne hq0
    refine ⟨p, q0, e, _, n + 1, rfl, SqL.of upd_same, hq0p, (by show 1 ≤ 4; decide), (by show 4 ≤ 1000; decide), by omega, pen1.put hq0, fun i0 v0 H2 hv0 k2 pen2 => ?_⟩
    have hfar : ∃ z : Int, v0 = .int z ∧ ¬ (0 ≤ z ∧ z < (ls.length : Int)) := by
      rcases i0 with _ | _ | _ | _ | i0
      · cases hv0; exact ⟨_, rfl, by omega⟩
      · cases hv0; exact ⟨_, rfl, by omega⟩
      · cases hv0; exact ⟨_, rfl, by rw [e20]; omega⟩
      · cases hv0; exact ⟨_, rfl, by omega⟩
      · cases hv0
    clear hv0
    obtain ⟨far, rfl, nfar⟩ := hfar
    -- odd
    refine ⟨_, rfl, ?_⟩
    have PN : PenAt K H2 p e (n + 1 + 1) := pen2
    refine ⟨(by show 1 ≤ sizeLine; decide), fun a1 na1 => ?_⟩
    have ta1 : Same H2 (upd H2 a1 (.lst [.non])) := (Same.refl _).new na1
    have fa1 : upd H2 a1 (.lst [.non]) a1 = some (.lst [.non]) := upd_same
    have npa1 : a1 ≠ p := PN.ne na1
    have PN := PN.same ta1
    generalize upd H2 a1 (.lst [.non]) = G1 at ta1 fa1 PN ⊢
    refine ⟨(by show 2 ≤ sizeLine; decide), fun a2 na2 => ?_⟩
    have ta2 : Same G1 (upd G1 a2 (.lst [.int 0, .bl true])) := (Same.refl _).new na2
    have fa2 : upd G1 a2 (.lst [.int 0, .bl true]) a2 = some (.lst [.int 0, .bl true]) := upd_same
    have npa2 : a2 ≠ p := PN.ne na2
    have PN := PN.same ta2
    generalize upd G1 a2 (.lst [.int 0, .bl true]) = G2 at ta2 fa2 PN ⊢
    refine ⟨(by show 1 ≤ sizeLine; decide), fun a3 na3 => ?_⟩
    have ta3 : Same G2 (upd G2 a3 (.tup [.int 1])) := (Same.refl _).new na3
    have fa3 : upd G2 a3 (.tup [.int 1]) a3 = some (.tup [.int 1]) := upd_same
    have npa3 : a3 ≠ p := PN.ne na3
    have PN := PN.same ta3
    generalize upd G2 a3 (.tup [.int 1]) = G3 at ta3 fa3 PN ⊢
    refine ⟨(by show 1 ≤ sizeLine; decide), fun a4 na4 => ?_⟩
    have ta4 : Same G3 (upd G3 a4 (.lst [.ref a3])) := (Same.refl _).new na4
    have fa4 : upd G3 a4 (.lst [.ref a3]) a4 = some (.lst [.ref a3]) := upd_same
    have npa4 : a4 ≠ p := PN.ne na4
    have PN := PN.same ta4
    generalize upd G3 a4 (.lst [.ref a3]) = G4 at ta4 fa4 PN ⊢
    refine fun a5 na5 => ⟨upd_same, [((Sum.inl 0 : Key), V.int 1)], rfl, (by decide), ?_⟩
    rw [upd_upd]
    have ta5 : Same G4 (upd G4 a5 (.dK (mergeK [] [((Sum.inl 0 : Key), V.int 1)]))) := (Same.refl _).new na5
    have fa5 : upd G4 a5 (.dK (mergeK [] [((Sum.inl 0 : Key), V.int 1)])) a5 = some (.dK (mergeK [] [((Sum.inl 0 : Key), V.int 1)])) := upd_same
    have npa5 : a5 ≠ p := PN.ne na5
    have PN := PN.same ta5
    generalize upd G4 a5 (.dK (mergeK [] [((Sum.inl 0 : Key), V.int 1)])) = G5 at ta5 fa5 PN ⊢
    refine ⟨(by show 1 ≤ sizeLine; decide), fun a6 na6 => ?_⟩
    have ta6 : Same G5 (upd G5 a6 (.lst [.str "0"])) := (Same.refl _).new na6
    have fa6 : upd G5 a6 (.lst [.str "0"]) a6 = some (.lst [.str "0"]) := upd_same
    have npa6 : a6 ≠ p := PN.ne na6
    have PN := PN.same ta6
    generalize upd G5 a6 (.lst [.str "0"]) = G6 at ta6 fa6 PN ⊢
    refine ⟨(by show 1 ≤ sizeLine; decide), fun a7 na7 => ?_⟩
    have ta7 : Same G6 (upd G6 a7 (.lst [.int 0])) := (Same.refl _).new na7
    have fa7 : upd G6 a7 (.lst [.int 0]) a7 = some (.lst [.int 0]) := upd_same
    have npa7 : a7 ≠ p := PN.ne na7
    have PN := PN.same ta7
    generalize upd G6 a7 (.lst [.int 0]) = G7 at ta7 fa7 PN ⊢
    refine ⟨(by show 1 ≤ sizeLine; decide), fun a8 na8 => ?_⟩
    have ta8 : Same G7 (upd G7 a8 (.lst [.ref a7])) := (Same.refl _).new na8
    have fa8 : upd G7 a8 (.lst [.ref a7]) a8 = some (.lst [.ref a7]) := upd_same
    have npa8 : a8 ≠ p := PN.ne na8
    have PN := PN.same ta8
    generalize upd G7 a8 (.lst [.ref a7]) = G8 at ta8 fa8 PN ⊢
    refine ⟨(by show 9 ≤ sizeLine; decide), fun a9 n9 => ?_⟩
    have t9 : Same G8 (upd G8 a9 (.lst [.non, .int 5, .str "0", .ref a1, .ref a2, .ref a4, .ref a5, .ref a6, .ref a8])) := (Same.refl _).new n9
    have x1 := (ta8 _ _ (ta7 _ _ (ta6 _ _ (ta5 _ _ (ta4 _ _ (ta3 _ _ (ta2 _ _ fa1)))))))
    have x2 := (ta8 _ _ (ta7 _ _ (ta6 _ _ (ta5 _ _ (ta4 _ _ (ta3 _ _ fa2))))))
    have x3 := (ta8 _ _ (ta7 _ _ (ta6 _ _ (ta5 _ _ (ta4 _ _ fa3)))))
    have x4 := (ta8 _ _ (ta7 _ _ (ta6 _ _ (ta5 _ _ fa4))))
    have x5 := (ta8 _ _ (ta7 _ _ (ta6 _ _ fa5)))
    have x6 := (ta8 _ _ (ta7 _ _ fa6))
    have x7 := (ta8 _ _ fa7)
    have x8 := fa8
    have odds : ∀ (i : Nat) (v : V), ([V.non, .int 5, .str "0", .ref a1, .ref a2, .ref a4, .ref a5, .ref a6, .ref a8] : List V)[i]? = some v → Odd p G8 v := by
      intro i v hv
      rcases i with _ | _ | _ | _ | _ | _ | _ | _ | _ | i
      · cases hv; exact .inl ⟨_, .non, by decide, by decide⟩
      · cases hv; exact .inl ⟨_, .int _, by decide, by decide⟩
      · cases hv; exact .inl ⟨_, .str _, by decide, by decide⟩
      · cases hv; exact .inr ⟨a1, _, fun _ => "NoneType", rfl, npa1, x1, by decide, fun y hy => by rw [List.mem_singleton.mp hy]; exact .non, by decide⟩
      · cases hv
        refine .inr ⟨a2, _, fun y => if y = .bl true then "bool" else "int", rfl, npa2, x2, by decide, fun y hy => ?_, by simp⟩
        rcases List.mem_cons.mp hy with rfl | hy
        · exact .int _
        · rw [List.mem_singleton.mp hy]
          exact .bl _
      · cases hv; exact .inr ⟨a4, _, fun _ => "tuple", rfl, npa4, x4, (by show 1 ≤ 1000; decide), fun y hy => by rw [List.mem_singleton.mp hy]; exact .tup npa3 x3, by simp⟩
      · cases hv; exact .inl ⟨_, .dct npa5 x5, by decide, by decide⟩
      · cases hv; exact .inr ⟨a6, _, fun _ => "str", rfl, npa6, x6, by decide, fun y hy => by rw [List.mem_singleton.mp hy]; exact .str _, by decide⟩
      · cases hv; exact .inr ⟨a8, _, fun _ => "list", rfl, npa8, x8, (by show 1 ≤ 1000; decide), fun y hy => by rw [List.mem_singleton.mp hy]; exact .lst npa7 x7, by simp⟩
      · cases hv
    refine ⟨p, a9, e, _, n + 1 + 1, rfl, SqL.of upd_same, PN.ne n9, (by show 1 ≤ 9; decide), (by show 9 ≤ 1000; decide), by omega, PN.put n9, fun i9 odd H3 hv9 k3 pen3 => ?_⟩
    have hodd : Odd p H3 odd := (odds i9 odd hv9).kp (h := p) (fun b o q r _ => k3 b o q (t9 b o r)) fun _ _ z _ => z
    have s28 : Same H2 G8 := ((((((ta1.trans ta2).trans ta3).trans ta4).trans ta5).trans ta6).trans ta7).trans ta8
    have b03 : But p H H3 := ((((k1.trans (But.of ((Same.refl _).new hq0))).trans k2).trans (But.of s28)).trans (But.of t9)).trans k3
    have ring3 := ring.but b03 pen
    have tab3 := tabS_but tab b03 hpl
    clear odds x1 x2 x3 x4 x5 x6 x7 x8 hv9
    -- twice, heard
    refine ⟨_, rfl, _, rfl, _, _, rfl, rfl, .inl ⟨_, rfl, _, rfl, _, _, rfl, rfl, (show (0 : Int) < ls.length by omega), _, rfl, _, rfl, _, _, rfl, rfl, .inl ⟨_, rfl, _, rfl, _, _, rfl, rfl, (show (0 : Int) < ls.length by omega), (by show 4 ≤ sizeLine; decide), fun tw ntw => ⟨(by show 0 ≤ sizeLine; decide), fun h nh => ⟨_, _, rfl, ?_⟩⟩⟩⟩⟩
    have hp3 := pen3.some
    obtain ⟨pl3, hpl3⟩ := hp3
    have PN := pen3
    have ttw : Same H3 (upd H3 tw (.tup [.int bar, .int ((bar + 1) % (ls.length : Int)), .int bar, .int ((bar + 1) % (ls.length : Int))])) := (Same.refl _).new ntw
    have ftw : upd H3 tw (.tup [.int bar, .int ((bar + 1) % (ls.length : Int)), .int bar, .int ((bar + 1) % (ls.length : Int))]) tw = some (.tup [.int bar, .int ((bar + 1) % (ls.length : Int)), .int bar, .int ((bar + 1) % (ls.length : Int))]) := upd_same
    generalize upd H3 tw (.tup [.int bar, .int ((bar + 1) % (ls.length : Int)), .int bar, .int ((bar + 1) % (ls.length : Int))]) = H4 at nh ttw ftw ⊢
    have th : Same H4 (upd H4 h (.lst [])) := (Same.refl _).new nh
    have fh : upd H4 h (.lst []) h = some (.lst []) := upd_same
    have nhp : h ≠ p := (PN.same ttw).ne nh
    have nh3 : H3 h = none := ttw.free nh
    have PN4 := PN.same ttw
    have k45 : Kp h H4 (upd H4 h (.lst [])) := (Kp.refl h H4).at
    have he4 : ∀ o, H4 e.1 = some o → e.1 ≠ h := fun o z => ne_of_none z nh
    have tab5 : TabS (upd H4 h (.lst [])) Pt "_law_refused_right.<locals>.<lambda>" := tabS_same (tabS_same tab3 ttw) th
    have ring5 : RingAt K C (upd H4 h (.lst [])) r ls := (ring3.same ttw).same th
    have hr5 := th _ _ (ttw _ _ (show H3 r = some (.ins C dx (rf t ls)) from b03 _ _ (fun z => by rw [z, hpl] at hr0; cases hr0) hr0))
    have hodd5 : Odd h (upd H4 h (.lst [])) odd := hodd.kp (h := p) (fun b o _ q _ => th b o (ttw b o q)) fun a o _ q => ne_of_none (ttw _ _ q) nh
    have ftw5 := th _ _ ftw
    have ntwh : tw ≠ h := ne_of_none ftw nh
    generalize upd H4 h (.lst []) = H5 at th fh k45 tab5 ring5 hr5 hodd5 ftw5 ⊢
    -- the four lots
    refine ⟨_, rfl, _, rfl, _, rfl, _, rfl, _, rfl, (by show 4 ≤ sizeLine; decide), fun a10 n10 => ?_⟩
    have t10 : Same H5 (upd H5 a10 (.lst [.int bar, .int bar, .int far, .int (-7)])) := (Same.refl _).new n10
    have f10 : upd H5 a10 (.lst [.int bar, .int bar, .int far, .int (-7)]) a10 = some (.lst [.int bar, .int bar, .int far, .int (-7)]) := upd_same
    have n10h : a10 ≠ h := (ne_of_none fh n10).symm
    generalize upd H5 a10 (.lst [.int bar, .int bar, .int far, .int (-7)]) = H6 at t10 f10 ⊢
    refine ⟨_, rfl, _, rfl, (by show 2 ≤ sizeLine; decide), fun a11 n11 => ?_⟩
    have t11 : Same H6 (upd H6 a11 (.lst [.int far, .str "x"])) := (Same.refl _).new n11
    have f11 : upd H6 a11 (.lst [.int far, .str "x"]) a11 = some (.lst [.int far, .str "x"]) := upd_same
    have n11h : a11 ≠ h := (ne_of_none (t10 _ _ fh) n11).symm
    generalize upd H6 a11 (.lst [.int far, .str "x"]) = H7 at t11 f11 ⊢
    refine ⟨(by show 4 ≤ sizeLine; decide), fun tl ntl => ?_⟩
    have t12 : Same H7 (upd H7 tl (.tup [odd, .ref a10, .ref tw, .ref a11])) := (Same.refl _).new ntl
    have f12 : upd H7 tl (.tup [odd, .ref a10, .ref tw, .ref a11]) tl = some (.tup [odd, .ref a10, .ref tw, .ref a11]) := upd_same
    have ntlh : tl ≠ h := (ne_of_none (t11 _ _ (t10 _ _ fh)) ntl).symm
    generalize upd H7 tl (.tup [odd, .ref a10, .ref tw, .ref a11]) = HB at t12 f12 ⊢
    have f12x := f12
    have s5B : Same H5 HB := (t10.trans t11).trans t12
    have g10 := t12 _ _ (t11 _ _ f10)
    have g11 := t12 _ _ f11
    have gtw := s5B _ _ ftw5
    have gh := s5B _ _ fh
    have gr := s5B _ _ hr5
    have oddB : Odd h HB odd := hodd5.kp (h := h) (fun b o _ q _ => s5B b o q) fun _ _ z _ => z
    have tabB := tabS_same tab5 s5B
    have ringB := ring5.same s5B
    clear t10 t11 t12 f10 f11 hodd5 tab5 ring5 hr5 ftw5
    have bar1 : isBar ls.length bar = true := isBar_iff.mpr ⟨b0, b1⟩
    have b2a : 0 ≤ (bar + 1) % (ls.length : Int) := Int.emod_nonneg _ (by omega)
    have b2b : (bar + 1) % (ls.length : Int) < ls.length := Int.emod_lt_of_pos _ (by omega)
    have b2n : (bar + 1) % (ls.length : Int) ≠ bar := by
      by_cases q : bar + 1 < ls.length
      · rw [Int.emod_eq_of_lt (by omega) q]
        omega
      · rw [show bar + 1 = (ls.length : Int) by omega, Int.emod_self]
        omega
    have bad1 : Bad K c ls.length h HB odd c.l "part" (.str "lot") := fun H' E' k' kp er => (oddB.kp (h := h) kp fun _ _ z _ => z).lot er
    have bad2 : Bad K c ls.length h HB (.ref a10) c.n "value" (.int far) := fun H' E' k' kp er => by
      have q := kp _ _ n10h g10 (fun _ z => nomatch z)
      refine .inr (.inl ⟨a10, _, fun _ => "int", rfl, ⟨.base (.lst q), by decide⟩, SqL.of q, (by show 4 ≤ 1000; decide), fun x hx => ?_, .inr ⟨[bar, bar, far, -7], rfl, rfl, ?_⟩⟩)
      · have : x = .int bar ∨ x = .int bar ∨ x = .int far ∨ x = .int (-7) := by simpa using hx
        rcases this with z | z | z | z <;> rw [z] <;> exact Knd.int
      · have e : res ls.length [bar, bar, far, -7] = .bar far := res_bar (i := 2) (fun x hx => by
          have : x = bar ∨ x = bar := by simpa using hx
          rcases this with z | z <;> rw [z] <;> exact bar1) rfl fun z => nfar (isBar_iff.mp z)
        rw [e]
        exact er
    have bad3 : Bad K c ls.length h HB (.ref tw) c.t "value" (.int bar) := fun H' E' k' kp er => by
      have q := kp _ _ ntwh gtw (fun _ z => nomatch z)
      refine .inr (.inr ⟨tw, [bar, (bar + 1) % (ls.length : Int), bar, (bar + 1) % (ls.length : Int)], rfl, ⟨.base (.tup q), by decide⟩, .inl (.inl q), (by show 4 ≤ 1000; decide), ?_⟩)
      have e : res ls.length [bar, (bar + 1) % (ls.length : Int), bar, (bar + 1) % (ls.length : Int)] = .twice bar := by
        rw [res_all fun x hx => ?_]
        · simp [ft, b2n]
        · have : x = bar ∨ x = (bar + 1) % (ls.length : Int) ∨ x = bar ∨ x = (bar + 1) % (ls.length : Int) := by simpa using hx
          rcases this with z | z | z | z <;> rw [z] <;> first | exact bar1 | exact isBar_iff.mpr ⟨b2a, b2b⟩
      rw [e]
      exact er
    have bad4 : Bad K c ls.length h HB (.ref a11) c.l "part" (.str "lot") := fun H' E' k' kp er => by
      have q := kp _ _ n11h g11 (fun _ z => nomatch z)
      refine .inr (.inl ⟨a11, _, fun y => if y = .str "x" then "str" else "int", rfl, ⟨.base (.lst q), by decide⟩, SqL.of q, (by show 2 ≤ 1000; decide), fun x hx => ?_, .inl ⟨by simp, er⟩⟩)
      have : x = .int far ∨ x = .str "x" := by simpa using hx
      rcases this with z | z
      · rw [z]; exact Knd.int
      · rw [z]
        show Knd K H' (V.str "x") (if V.str "x" = V.str "x" then "str" else "int")
        rw [if_pos rfl]
        exact ⟨.base (.str _), by decide⟩
    -- what is heard of each
    have nrh : r ≠ h := fun z => by rw [z, gh] at gr; cases gr
    refine ⟨tl, rfl, ⟨_, .inl (.inl f12x)⟩, for_tup (K := K) (a := tl) (xs := [odd, .ref a10, .ref tw, .ref a11]) (fun i σ H' => ∃ (done : List V) (z : Option V), σ = [some (.ref p), some (.ref r), some (.int ls.length), some (.int bar), some (.int far), some odd, some (.ref tw), some (.ref h), z] ∧
      Kp h HB H' ∧ H' h = some (.lst done) ∧ PT H' done ((pairs8 far bar).take (2 * i)) ∧ TabS H' Pt "_law_refused_right.<locals>.<lambda>") ⟨[], none, rfl, Kp.refl h HB, gh, .nil, tabB⟩ (fun i σ H' _ ⟨_, _, _, k, _⟩ => .inl (.inl (k _ _ ntlh f12x (fun _ z => nomatch z)))) ?_ ?_⟩
    · rintro i x σ H' hi ⟨done, z, rfl, kp, hh, pt, tab'⟩
      have il : i < 4 := (List.getElem?_eq_some_iff.mp hi).1
      have step : ∃ (D : Addr) (fl lab : Str) (u : V), Bad K c ls.length h HB x D fl u ∧ Tells c D fl lab ∧ (pairs8 far bar).take (2 * (i + 1)) = (pairs8 far bar).take (2 * i) ++ [(lab, u)] ++ [(lab, u)] := by
        rcases i with _ | _ | _ | _ | i
        · cases hi; exact ⟨_, _, "lot", _, bad1, .inl ⟨rfl, rfl, rfl⟩, rfl⟩
        · cases hi; exact ⟨_, _, "bar", _, bad2, .inr (.inl ⟨rfl, rfl, rfl⟩), rfl⟩
        · cases hi; exact ⟨_, _, "twice", _, bad3, .inr (.inr ⟨rfl, rfl, rfl⟩), rfl⟩
        · cases hi; exact ⟨_, _, "lot", _, bad4, .inl ⟨rfl, rfl, rfl⟩, rfl⟩
        · omega
      obtain ⟨D, fl, lab, u, bad, tells, etake⟩ := step
      rw [etake]
      refine ⟨_, rfl, .inl ⟨rfl, _, SqL.of hh⟩, fun y hy => by rw [List.mem_singleton.mp hy]; exact tab', fun IA extA tabsA eA neA => ?_⟩
      have tbA : TabS IA Pt "_law_refused_right.<locals>.<lambda>" := tabsA _ (List.mem_singleton.mpr rfl)
      have mA : Same IA (upd IA eA (.tup [])) := (Same.refl _).new neA
      have kqA : Kp h H' (upd IA eA (.tup [])) := ((Kp.refl h H').ext extA).same mA
      have kpA : Kp h HB (upd IA eA (.tup [])) := (kp.ext extA).same mA
      have hhA := mA _ _ (extA _ _ hh (fun _ z => nomatch z))
      have tb2A := tabS_same tbA mA
      generalize upd IA eA (.tup []) = JA at kqA kpA hhA tb2A ⊢
      refine ⟨_, rfl, r, dx, _, rfl, kpA _ _ nrh gr (fun _ z => nomatch z), noL, _, rfl, r, _, ls, rfl, ringB.kp kpA gh, l8, bad _ _ _ kpA fun dA LA sLA ndA xdA => ⟨D, dA, fl, lab, u, rfl, rfl, xdA, tells, fun pA MA sMA hpA => ?_⟩⟩
      have sJA := sLA.trans sMA
      have hhMA := sJA _ _ hhA
      have ptMA := PT.kp pt (kqA.same sJA) hh
      have kMA := kpA.same sJA
      have tMA := tabS_same tb2A sJA
      have nphA : pA ≠ h := fun z => by rw [z, hhMA] at hpA; cases hpA
      have kNA : Kp h HB (upd MA h (.lst (done ++ [.ref pA]))) := kMA.at
      have tNA : TabS (upd MA h (.lst (done ++ [.ref pA]))) Pt "_law_refused_right.<locals>.<lambda>" := tabS_but tMA (fun b o n q => by rw [upd_ne n]; exact q) hhMA
      have pNA : PT (upd MA h (.lst (done ++ [.ref pA]))) (done ++ [.ref pA]) ((pairs8 far bar).take (2 * i) ++ [(lab, u)]) := par_app (PT.kp ptMA ((Kp.refl h MA).at) hhMA) (.cons ⟨pA, rfl, by rw [upd_ne nphA]; exact hpA⟩ .nil)
      refine ⟨h, done, _, rfl, rfl, hhMA, ?szA, ?_⟩
      case szA =>
        rw [par_len pt, List.length_take]; exact sm (by have : (pairs8 far bar).length = 8 := rfl; omega)
      have hNA : upd MA h (.lst (done ++ [.ref pA])) h = some (.lst (done ++ [.ref pA])) := upd_same
      generalize upd MA h (.lst (done ++ [.ref pA])) = HA at kNA tNA pNA hNA ⊢
      refine ⟨_, rfl, .inl ⟨rfl, _, SqL.of hNA⟩, fun y hy => by rw [List.mem_singleton.mp hy]; exact tNA, fun IC extC tabsC eC neC => ?_⟩
      have tbC : TabS IC Pt "_law_refused_right.<locals>.<lambda>" := tabsC _ (List.mem_singleton.mpr rfl)
      have mC : Same IC (upd IC eC (.tup [])) := (Same.refl _).new neC
      have kqC : Kp h HA (upd IC eC (.tup [])) := ((Kp.refl h HA).ext extC).same mC
      have kpC : Kp h HB (upd IC eC (.tup [])) := (kNA.ext extC).same mC
      have hhC := mC _ _ (extC _ _ hNA (fun _ z => nomatch z))
      have tb2C := tabS_same tbC mC
      generalize upd IC eC (.tup []) = JC at kqC kpC hhC tb2C ⊢
      refine ⟨_, rfl, r, dx, _, rfl, kpC _ _ nrh gr (fun _ z => nomatch z), noS, _, rfl, r, _, ls, rfl, ringB.kp kpC gh, l8, bad _ _ _ kpC fun dC LC sLC ndC xdC => ⟨D, dC, fl, lab, u, rfl, rfl, xdC, tells, fun pC MC sMC hpC => ?_⟩⟩
      have sJC := sLC.trans sMC
      have hhMC := sJC _ _ hhC
      have ptMC := PT.kp pNA (kqC.same sJC) hNA
      have kMC := kpC.same sJC
      have tMC := tabS_same tb2C sJC
      have nphC : pC ≠ h := fun z => by rw [z, hhMC] at hpC; cases hpC
      have kNC : Kp h HB (upd MC h (.lst ((done ++ [.ref pA]) ++ [.ref pC]))) := kMC.at
      have tNC : TabS (upd MC h (.lst ((done ++ [.ref pA]) ++ [.ref pC]))) Pt "_law_refused_right.<locals>.<lambda>" := tabS_but tMC (fun b o n q => by rw [upd_ne n]; exact q) hhMC
      have pNC : PT (upd MC h (.lst ((done ++ [.ref pA]) ++ [.ref pC]))) ((done ++ [.ref pA]) ++ [.ref pC]) (((pairs8 far bar).take (2 * i) ++ [(lab, u)]) ++ [(lab, u)]) := par_app (PT.kp ptMC ((Kp.refl h MC).at) hhMC) (.cons ⟨pC, rfl, by rw [upd_ne nphC]; exact hpC⟩ .nil)
      refine ⟨h, (done ++ [.ref pA]), _, rfl, rfl, hhMC, ?szC, ?_⟩
      case szC =>
        rw [par_len pNA, List.length_append, List.length_take]; exact sm (by have : (pairs8 far bar).length = 8 := rfl; have : [(lab, u)].length = 1 := rfl; omega)
      have hNC : upd MC h (.lst ((done ++ [.ref pA]) ++ [.ref pC])) h = some (.lst ((done ++ [.ref pA]) ++ [.ref pC])) := upd_same
      generalize upd MC h (.lst ((done ++ [.ref pA]) ++ [.ref pC])) = HC at kNC tNC pNC hNC ⊢
      exact ⟨_, _, rfl, kNC, hNC, pNC, tNC⟩
    · rintro σ H' ⟨done, z, rfl, kp, hh, pt, tab'⟩
      have pt8 : PT H' done (pairs8 far bar) := pt
      clear pt
      refine ⟨_, rfl, ?_⟩
      refine ⟨(by show 2 ≤ sizeLine; decide), fun t1 nt1 => ?_⟩
      have wt1 : Same H' (upd H' t1 (.tup [.str "lot", .str "lot"])) := (Same.refl _).new nt1
      have vt1 : upd H' t1 (.tup [.str "lot", .str "lot"]) t1 = some (.tup [.str "lot", .str "lot"]) := upd_same
      generalize upd H' t1 (.tup [.str "lot", .str "lot"]) = Q1 at wt1 vt1 ⊢
      refine ⟨(by show 1 ≤ sizeLine; decide), fun l1 nl1 => ?_⟩
      have wl1 : Same Q1 (upd Q1 l1 (.lst [.ref t1])) := (Same.refl _).new nl1
      have vl1 : upd Q1 l1 (.lst [.ref t1]) l1 = some (.lst [.ref t1]) := upd_same
      generalize upd Q1 l1 (.lst [.ref t1]) = Q2 at wl1 vl1 ⊢
      refine ⟨l1, 2, _, rfl, rfl, vl1, by decide, by decide, (by show 2 ≤ sizeLine; decide), fun m1 nm1 => ?_⟩
      rw [show (List.replicate (Int.toNat 2) [V.ref t1]).flatten = [.ref t1, .ref t1] from rfl]
      have wm1 : Same Q2 (upd Q2 m1 (.lst [.ref t1, .ref t1])) := (Same.refl _).new nm1
      have vm1 : upd Q2 m1 (.lst [.ref t1, .ref t1]) m1 = some (.lst [.ref t1, .ref t1]) := upd_same
      generalize upd Q2 m1 (.lst [.ref t1, .ref t1]) = Q3 at wm1 vm1 ⊢
      refine ⟨_, rfl, (by show 2 ≤ sizeLine; decide), fun t2 nt2 => ?_⟩
      have wt2 : Same Q3 (upd Q3 t2 (.tup [.str "bar", .int far])) := (Same.refl _).new nt2
      have vt2 : upd Q3 t2 (.tup [.str "bar", .int far]) t2 = some (.tup [.str "bar", .int far]) := upd_same
      generalize upd Q3 t2 (.tup [.str "bar", .int far]) = Q4 at wt2 vt2 ⊢
      refine ⟨(by show 1 ≤ sizeLine; decide), fun l2 nl2 => ?_⟩
      have wl2 : Same Q4 (upd Q4 l2 (.lst [.ref t2])) := (Same.refl _).new nl2
      have vl2 : upd Q4 l2 (.lst [.ref t2]) l2 = some (.lst [.ref t2]) := upd_same
      generalize upd Q4 l2 (.lst [.ref t2]) = Q5 at wl2 vl2 ⊢
      refine ⟨l2, 2, _, rfl, rfl, vl2, by decide, by decide, (by show 2 ≤ sizeLine; decide), fun m2 nm2 => ?_⟩
      rw [show (List.replicate (Int.toNat 2) [V.ref t2]).flatten = [.ref t2, .ref t2] from rfl]
      have wm2 : Same Q5 (upd Q5 m2 (.lst [.ref t2, .ref t2])) := (Same.refl _).new nm2
      have vm2 : upd Q5 m2 (.lst [.ref t2, .ref t2]) m2 = some (.lst [.ref t2, .ref t2]) := upd_same
      generalize upd Q5 m2 (.lst [.ref t2, .ref t2]) = Q6 at wm2 vm2 ⊢
      refine ⟨m1, m2, _, _, rfl, rfl, (wm2 _ _ (wl2 _ _ (wt2 _ _ vm1))), vm2, (by show 4 ≤ sizeLine; decide), fun c2 nc2 => ?_⟩
      rw [show (([.ref t1, .ref t1] : List V) ++ [.ref t2, .ref t2]) = [.ref t1, .ref t1, .ref t2, .ref t2] from rfl]
      have wc2 : Same Q6 (upd Q6 c2 (.lst [.ref t1, .ref t1, .ref t2, .ref t2])) := (Same.refl _).new nc2
      have vc2 : upd Q6 c2 (.lst [.ref t1, .ref t1, .ref t2, .ref t2]) c2 = some (.lst [.ref t1, .ref t1, .ref t2, .ref t2]) := upd_same
      generalize upd Q6 c2 (.lst [.ref t1, .ref t1, .ref t2, .ref t2]) = Q7 at wc2 vc2 ⊢
      refine ⟨_, rfl, (by show 2 ≤ sizeLine; decide), fun t3 nt3 => ?_⟩
      have wt3 : Same Q7 (upd Q7 t3 (.tup [.str "twice", .int bar])) := (Same.refl _).new nt3
      have vt3 : upd Q7 t3 (.tup [.str "twice", .int bar]) t3 = some (.tup [.str "twice", .int bar]) := upd_same
      generalize upd Q7 t3 (.tup [.str "twice", .int bar]) = Q8 at wt3 vt3 ⊢
      refine ⟨(by show 1 ≤ sizeLine; decide), fun l3 nl3 => ?_⟩
      have wl3 : Same Q8 (upd Q8 l3 (.lst [.ref t3])) := (Same.refl _).new nl3
      have vl3 : upd Q8 l3 (.lst [.ref t3]) l3 = some (.lst [.ref t3]) := upd_same
      generalize upd Q8 l3 (.lst [.ref t3]) = Q9 at wl3 vl3 ⊢
      refine ⟨l3, 2, _, rfl, rfl, vl3, by decide, by decide, (by show 2 ≤ sizeLine; decide), fun m3 nm3 => ?_⟩
      rw [show (List.replicate (Int.toNat 2) [V.ref t3]).flatten = [.ref t3, .ref t3] from rfl]
      have wm3 : Same Q9 (upd Q9 m3 (.lst [.ref t3, .ref t3])) := (Same.refl _).new nm3
      have vm3 : upd Q9 m3 (.lst [.ref t3, .ref t3]) m3 = some (.lst [.ref t3, .ref t3]) := upd_same
      generalize upd Q9 m3 (.lst [.ref t3, .ref t3]) = Q10 at wm3 vm3 ⊢
      refine ⟨c2, m3, _, _, rfl, rfl, (wm3 _ _ (wl3 _ _ (wt3 _ _ vc2))), vm3, (by show 6 ≤ sizeLine; decide), fun c3 nc3 => ?_⟩
      rw [show (([.ref t1, .ref t1, .ref t2, .ref t2] : List V) ++ [.ref t3, .ref t3]) = [.ref t1, .ref t1, .ref t2, .ref t2, .ref t3, .ref t3] from rfl]
      have wc3 : Same Q10 (upd Q10 c3 (.lst [.ref t1, .ref t1, .ref t2, .ref t2, .ref t3, .ref t3])) := (Same.refl _).new nc3
      have vc3 : upd Q10 c3 (.lst [.ref t1, .ref t1, .ref t2, .ref t2, .ref t3, .ref t3]) c3 = some (.lst [.ref t1, .ref t1, .ref t2, .ref t2, .ref t3, .ref t3]) := upd_same
      generalize upd Q10 c3 (.lst [.ref t1, .ref t1, .ref t2, .ref t2, .ref t3, .ref t3]) = Q11 at wc3 vc3 ⊢
      refine ⟨(by show 2 ≤ sizeLine; decide), fun t4 nt4 => ?_⟩
      have wt4 : Same Q11 (upd Q11 t4 (.tup [.str "lot", .str "lot"])) := (Same.refl _).new nt4
      have vt4 : upd Q11 t4 (.tup [.str "lot", .str "lot"]) t4 = some (.tup [.str "lot", .str "lot"]) := upd_same
      generalize upd Q11 t4 (.tup [.str "lot", .str "lot"]) = Q12 at wt4 vt4 ⊢
      refine ⟨(by show 1 ≤ sizeLine; decide), fun l4 nl4 => ?_⟩
      have wl4 : Same Q12 (upd Q12 l4 (.lst [.ref t4])) := (Same.refl _).new nl4
      have vl4 : upd Q12 l4 (.lst [.ref t4]) l4 = some (.lst [.ref t4]) := upd_same
      generalize upd Q12 l4 (.lst [.ref t4]) = Q13 at wl4 vl4 ⊢
      refine ⟨l4, 2, _, rfl, rfl, vl4, by decide, by decide, (by show 2 ≤ sizeLine; decide), fun m4 nm4 => ?_⟩
      rw [show (List.replicate (Int.toNat 2) [V.ref t4]).flatten = [.ref t4, .ref t4] from rfl]
      have wm4 : Same Q13 (upd Q13 m4 (.lst [.ref t4, .ref t4])) := (Same.refl _).new nm4
      have vm4 : upd Q13 m4 (.lst [.ref t4, .ref t4]) m4 = some (.lst [.ref t4, .ref t4]) := upd_same
      generalize upd Q13 m4 (.lst [.ref t4, .ref t4]) = Q14 at wm4 vm4 ⊢
      refine ⟨c3, m4, _, _, rfl, rfl, (wm4 _ _ (wl4 _ _ (wt4 _ _ vc3))), vm4, (by show 8 ≤ sizeLine; decide), fun c4 nc4 => ?_⟩
      rw [show (([.ref t1, .ref t1, .ref t2, .ref t2, .ref t3, .ref t3] : List V) ++ [.ref t4, .ref t4]) = [.ref t1, .ref t1, .ref t2, .ref t2, .ref t3, .ref t3, .ref t4, .ref t4] from rfl]
      have wc4 : Same Q14 (upd Q14 c4 (.lst [.ref t1, .ref t1, .ref t2, .ref t2, .ref t3, .ref t3, .ref t4, .ref t4])) := (Same.refl _).new nc4
      have vc4 : upd Q14 c4 (.lst [.ref t1, .ref t1, .ref t2, .ref t2, .ref t3, .ref t3, .ref t4, .ref t4]) c4 = some (.lst [.ref t1, .ref t1, .ref t2, .ref t2, .ref t3, .ref t3, .ref t4, .ref t4]) := upd_same
      generalize upd Q14 c4 (.lst [.ref t1, .ref t1, .ref t2, .ref t2, .ref t3, .ref t3, .ref t4, .ref t4]) = Q15 at wc4 vc4 ⊢
      have sQ : Same H' Q15 := ((((((((((((((((Same.refl _).trans wt1).trans wl1).trans wm1).trans wt2).trans wl2).trans wm2).trans wc2).trans wt3).trans wl3).trans wm3).trans wc3).trans wt4).trans wl4).trans wm4).trans wc4)
      have hr8 : PT Q15 [.ref t1, .ref t1, .ref t2, .ref t2, .ref t3, .ref t3, .ref t4, .ref t4] (pairs8 far bar) := (.cons ⟨t1, rfl, (wc4 _ _ (wm4 _ _ (wl4 _ _ (wt4 _ _ (wc3 _ _ (wm3 _ _ (wl3 _ _ (wt3 _ _ (wc2 _ _ (wm2 _ _ (wl2 _ _ (wt2 _ _ (wm1 _ _ (wl1 _ _ vt1))))))))))))))⟩ (.cons ⟨t1, rfl, (wc4 _ _ (wm4 _ _ (wl4 _ _ (wt4 _ _ (wc3 _ _ (wm3 _ _ (wl3 _ _ (wt3 _ _ (wc2 _ _ (wm2 _ _ (wl2 _ _ (wt2 _ _ (wm1 _ _ (wl1 _ _ vt1))))))))))))))⟩ (.cons ⟨t2, rfl, (wc4 _ _ (wm4 _ _ (wl4 _ _ (wt4 _ _ (wc3 _ _ (wm3 _ _ (wl3 _ _ (wt3 _ _ (wc2 _ _ (wm2 _ _ (wl2 _ _ vt2)))))))))))⟩ (.cons ⟨t2, rfl, (wc4 _ _ (wm4 _ _ (wl4 _ _ (wt4 _ _ (wc3 _ _ (wm3 _ _ (wl3 _ _ (wt3 _ _ (wc2 _ _ (wm2 _ _ (wl2 _ _ vt2)))))))))))⟩ (.cons ⟨t3, rfl, (wc4 _ _ (wm4 _ _ (wl4 _ _ (wt4 _ _ (wc3 _ _ (wm3 _ _ (wl3 _ _ vt3)))))))⟩ (.cons ⟨t3, rfl, (wc4 _ _ (wm4 _ _ (wl4 _ _ (wt4 _ _ (wc3 _ _ (wm3 _ _ (wl3 _ _ vt3)))))))⟩ (.cons ⟨t4, rfl, (wc4 _ _ (wm4 _ _ (wl4 _ _ vt4)))⟩ (.cons ⟨t4, rfl, (wc4 _ _ (wm4 _ _ (wl4 _ _ vt4)))⟩ .nil))))))))
      have pt9 : PT Q15 done (pairs8 far bar) := par_imp (fun _ _ ⟨a, e, r⟩ => ⟨a, e, sQ _ _ r⟩) pt8
      have hh9 := sQ _ _ hh
      refine ⟨_, _, .lst (SqL.of hh9) (dp_pairs pt9), .lst (SqL.of vc4) (dp_pairs hr8), pairs_shaped _ _, pairs_shaped _ _, ?_⟩
      rw [pairs_eqv]
      refine q Q15 ?_ (tabS_same tab' sQ)
      refine (PN4.kp (h := h) (fun b o n z t => ?_) nhp.symm he4).mono (by omega)
      exact sQ _ _ (kp b o n (s5B _ _ (th _ _ z)) t)
end
end K
namespace K
open PySem L2 Rg LamX
open Evl (pss_cut)
section
variable {P : Program} {w : World} {K : PySem.W.Frag} {mg : Str → Option Value} {base : Heap}
abbrev nLaw : List Str := ["_law_script", "_law_pen_here", "_law_lap", "_law_lengths_here", "_law_ring", "_law_turn"]
theorem scLaw : FnScope nLaw ["_law_script"] (defScope sLaw) := ⟨rfl, rfl, rfl, by decide +kernel, rfl, by decide +kernel, by decide +kernel⟩
def spLaw (K : PySem.W.Frag) (Pt : Addr) : Sp := fun vs H Q _ => ∃ (a : Addr) (ns : List Int), vs = [.ref a] ∧ SqL K H a (ns.map V.int) ∧ ns.length ≤ 63 ∧ TabS H Pt "_law_refused_right.<locals>.<lambda>" ∧ ∀ H', Q (.bl true) H'
theorem ok_law {C Pt f fP fL fI fR fW fX : Addr} {fd fdP fdL fdI fdR fdW fdX : FuncData} (F : Fun K "law" "law" sLaw f fd) (T : Bi mg) (R : RingC K mg C)
    (PN : DefAt P w K mg base CX0 2 "_law_pen" ["_law_script"] (spPen K) fP fdP) (LN : DefAt P w K mg base CX0 3 "_law_lengths" ["_law_pen_here"] (spLengths K) fL fdL) (MK : Mk K C fI) (IN : FnOk P w K mg base CX0 4 fI fdI ["self", "lengths"] (spRI K C)) (IB : Binds K fdI ["self", "lengths"] [])
    (LR : DefAt P w K mg base CX0 7 "_law_lot_right" ["_law_pen_here", "_law_lengths_here", "_law_ring"] (spLR K C) fR fdR) (WR : DefAt P w K mg base CX0 7 "_law_whole_right" ["_law_lengths_here", "_law_ring"] (spWR K C) fW fdW)
    (XR : DefAt P w K mg base CX0 9 "_law_refused_right" ["_law_pen_here", "_law_ring"] (spRR K C Pt) fX fdX) : FnOk P w K mg base CX0 10 f fd ["_law_script"] (spLaw K Pt) := by
  refine F.ok scLaw (fun vs H Q E h => ?_) (fun cdv A outer s H vs Q E hr h => ?_)
  · obtain ⟨a, ns, rfl, _⟩ := h
    rfl
  · have nd := scLaw.nd
    refine ⟨_, pss_cons (ps_set (i := 1) nd rfl (Or.inl rfl) (pe_call PN.ok (hr.mono (by decide)) rfl PN.g PN.kp PN.b .nil pass0 (pa_cons (pv 0) pa_nil)))
      (pss_cons (ps_for PassesOwn.never rfl (pi_range1 (by rfl) T.range (pa_cons pe_int pa_nil)) (pg_name (i := 2) nd rfl (Or.inl rfl))
        (pss_cons (ps_set (i := 3) nd rfl (Or.inl rfl) (pe_call LN.ok (hr.mono (by decide)) rfl LN.g LN.kp LN.b .nil pass0 (pa_cons (pv 1) pa_nil)))
        (pss_cons (ps_set (i := 4) nd rfl (Or.inl rfl) (pe_make MK IN (hr.mono (by decide)) (by rfl) R.g IB .nil pass0 (pa_cons (pv 3) pa_nil)))
        (pss_cons (ps_for PassesOwn.never rfl (pi_range1 (by rfl) T.range (pa_cons pe_int pa_nil)) (pg_name (i := 5) nd rfl (Or.inl rfl))
          (pss_one (ps_if (pt_not (pt_val (pe_call LR.ok (hr.mono (by decide)) rfl LR.g LR.kp LR.b .nil pass0 (pa_cons (pv 1) (pa_cons (pv 3) (pa_cons (pv 4) pa_nil)))))) (pss_one ps_never) pss_nil)))
        (pss_one (ps_if (PW.pt (pw_or (pt_not (pt_val (pe_call WR.ok (hr.mono (by decide)) rfl WR.g WR.kp WR.b .nil pass0 (pa_cons (pv 3) (pa_cons (pv 4) pa_nil))))) (pw_or1 (pt_not (pt_val (pe_call XR.ok hr rfl XR.g XR.kp XR.b .nil pass0 (pa_cons (pv 1) (pa_cons (pv 4) pa_nil)))))))) (pss_one ps_never) pss_nil))))))
      (pss_one (ps_ret pe_bl))), ?_⟩
    obtain ⟨a, ns, rfl, hs, hl, tab, q⟩ := h
    refine ⟨_, rfl, a, ns, rfl, hs, hl, fun p e H1 s1 np pen1 => ?_⟩
    have tab1 := tabS_same tab s1
    have npa : ∀ (H' : Hp) (m : Nat), PenAt K H' p e m → ∃ xs, H' p = some (.lst xs) := fun H' m z => z.some
    refine ⟨_, rfl, by decide, by decide, ?_⟩
    refine for_range (lo := 0) (n := (3 : Int).toNat) (fun i σ H' => ∃ (z2 z3 z4 z5 : Option V), σ = [some (.ref a), some (.ref p), z2, z3, z4, z5] ∧ PenAt K H' p e (i * 80) ∧ TabS H' Pt "_law_refused_right.<locals>.<lambda>") ⟨none, none, none, none, rfl, by simpa using pen1, tab1⟩ ?_ ?_
    · rintro i σ H' hi ⟨z2, z3, z4, z5, rfl, pen, tab'⟩
      have hi3 : i < 3 := hi
      refine ⟨_, rfl, p, e, _, rfl, by omega, pen, fun l ls H2 l3 l8 bd nl b2 hl2 pen2 => ?_⟩
      obtain ⟨pl, hpl⟩ := pen.some
      obtain ⟨pl2, hpl2⟩ := pen2.some
      have tab2 := tabS_but tab' b2 hpl
      have nlp : l ≠ p := pen.ne nl
      refine ⟨_, rfl, fun x dx hx hdx ndx => ?_⟩
      have s0 : Same H2 (upd (upd H2 dx (.own x)) x (.ins C dx [])) := fun b o q => by
        rw [upd_ne (ne_of_none q hx), upd_ne (ne_of_none q hdx)]
        exact q
      refine ⟨x, l, dx, ls, rfl, upd_same, ⟨.base (.lst (s0 _ _ hl2)), by decide⟩, SqL.of (s0 _ _ hl2), l3, l8, bd, fun H3 ring3 kp3 => ⟨rfl, ?_⟩⟩
      have s23 : Same H2 H3 := fun b o q => kp3 b o (s0 b o q) (ne_of_none q hx)
      have pen3 := pen2.same s23
      have tab3 := tabS_same tab2 s23
      have hl3 := s23 _ _ hl2
      obtain ⟨pl3, hpl3⟩ := pen3.some
      refine ⟨_, rfl, by decide, by decide, ?_⟩
      refine for_range (lo := 0) (n := (4 : Int).toNat) (fun j σ H4 => ∃ (z5 : Option V), σ = [some (.ref a), some (.ref p), some (.int (0 + (i : Int))), some (.ref l), some (.ref x), z5] ∧ But p H3 H4 ∧ PenAt K H4 p e (i * 80 + 30 + j * 9)) ⟨_, rfl, But.refl p H3, by simpa using pen3⟩ ?_ ?_
      · rintro j σ H4 hj ⟨z5, rfl, b4, pen4⟩
        have hj4 : j < 4 := hj
        refine ⟨_, rfl, _, rfl, _, rfl, p, l, x, ls, e, _, rfl, by omega, pen4, nlp, b4 _ _ nlp hl3, ring3.but b4 pen3, l3, l8, fun H5 b5 pen5 => ⟨_, rfl, iteF ?_⟩⟩
        exact ⟨_, rfl, b4.trans b5, pen5.mono (by omega)⟩
      · rintro σ H4 ⟨z5, rfl, b4, pen4⟩
        have ring4 := ring3.but b4 pen3
        have tab4 := tabS_but tab3 b4 hpl3
        refine ⟨_, rfl, _, rfl, l, x, ls, rfl, b4 _ _ nlp hl3, ring4, l3, l8, bd, fun H5 s5 => ⟨_, rfl, iteF ?_⟩⟩
        refine ⟨_, rfl, _, rfl, p, x, ls, e, _, rfl, ?_, pen4.same s5, ring4.same s5, l3, l8, tabS_same tab4 s5, fun H6 pen6 tab6 => ⟨_, rfl, iteF ?_⟩⟩
        · have : (4 : Int).toNat = 4 := rfl
          omega
        · refine ⟨_, _, _, _, rfl, pen6.mono ?_, tab6⟩
          have : (4 : Int).toNat = 4 := rfl
          omega
    · rintro σ H' ⟨z2, z3, z4, z5, rfl, pen, tab'⟩
      exact q H'
end
end K
namespace K
open PySem L2 Rg LamX
def gApp (us ws : List Value) : List Value := us ++ ws
theorem kb_two {K : PySem.W.Frag} {fd : FuncData} (h : ∀ (a b : Value) (s : Shared), BindsTo s fd ⟨[a], [("lot", b)]⟩ [("self", a), ("lot", b)]) : KBinds K fd ["self", "lot"] ["lot"] gK2 gK2 := by
  refine ⟨fun s us ws _ hl => ?_, fun {vs us zs ws} r1 r2 => ?_⟩
  · match us, ws, hl with
    | [a], [b], _ => exact h a b s
  · cases r1 with
    | nil => cases r2 <;> exact .nil
    | cons x t =>
      cases t with
      | nil =>
        cases r2 with
        | nil => exact .nil
        | cons y t2 =>
          cases t2 with
          | nil => exact .cons x (.cons y .nil)
          | cons _ _ => exact .nil
      | cons _ _ => exact .nil
theorem kb_one {K : PySem.W.Frag} {fd : FuncData} (h : ∀ (b : Value) (s : Shared), BindsTo s fd ⟨[], [("ring", b)]⟩ [("ring", b)]) : KBinds K fd ["ring"] ["ring"] gK1 gK1 := by
  refine ⟨fun s us ws _ hl => ?_, fun {vs us zs ws} r1 r2 => ?_⟩
  · match us, ws, hl with
    | [], [b], _ => exact h b s
  · cases r1 with
    | nil =>
      cases r2 with
      | nil => exact .nil
      | cons y t2 =>
        cases t2 with
        | nil => exact .cons y .nil
        | cons _ _ => exact .nil
    | cons _ _ => exact .nil
theorem code_hd {K : PySem.W.Frag} {c P : Addr} {o : Obj} (l : K.lookup c = some o) (h : PySem.W.codeHdIn [(c, o)] c P = true) : PySem.W.codeHdIn K c P = true := by
  have e : List.lookup c [(c, o)] = some o := by simp [List.lookup]
  unfold PySem.W.codeHdIn at h ⊢
  rw [e] at h
  rw [l]
  exact h
theorem lookup_out {K : PySem.W.Frag} {P : Addr} : ∀ {as : List Addr}, as = K.map (·.1) → P ∉ as → K.lookup P = none := by
  intro as e h
  subst e
  induction K with
  | nil => rfl
  | cons x r ih =>
    obtain ⟨a, o⟩ := x
    rw [List.map_cons, List.mem_cons, not_or] at h
    have hne : (P == a) = false := by simpa using h.1
    rw [List.lookup_cons, hne]
    exact ih h.2
theorem out_of {K : Params → PySem.W.Frag} {as : List Addr} {e : ∀ P, as = (K P).map (·.1)} {ts : List Addr} {w : World} {h : Heap} (_ : (PySem.W.kmHook K as e ts).says w h) {P : Addr} (hP : P ∉ as) : (K w.params).lookup P = none := lookup_out (e w.params) hP
theorem all_mk {l : PySem.W.OpenLaw} {w : World} {K : PySem.W.Frag} {h : Heap} {mg : Str → Option Value} {fa : Addr} (X : K.In h) (G : h.Ns mainGlobals mg) (hfa : mg "law" = some (.ref fa))
    {C eR eL eN eT f0 f1 f2 f3 f4 f5 f6 f7 f8 f9 f10 f11 f12 f13 f14 f15 f16 f17 f18 f19 f20 f21 f22 f23 f24 cRR f25 fm0 fm1 fm2 fm3 fm4 fm5 fm6 Pt : Addr} {od0 an0 od1 an1 od2 an2 od3 an3 od4 an4 od5 an5 od6 an6 od7 an7 od8 an8 od9 an9 od10 an10 od11 an11 od12 an12 od13 an13 od14 an14 od15 an15 od16 an16 od17 an17 od18 an18 od19 an19 od20 an20 od21 an21 od22 an22 od23 an23 od24 an24 od25 an25 odm0 anm0 odm1 anm1 odm2 anm2 odm3 anm3 odm4 anm4 odm5 anm5 odm6 anm6 odc : Option Addr} {sl0 sl1 sl2 sl3 sl4 sl5 sl6 sl7 sl8 sl9 sl10 sl11 sl12 sl13 sl14 sl15 sl16 sl17 sl18 sl19 sl20 sl21 sl22 sl23 sl24 sl25 slm0 slm1 slm2 slm3 slm4 slm5 slm6 slc : Array (Option Value)} {oc0 kV0 dc0 pm0 ct0 cd0 oc1 kV1 dc1 pm1 ct1 cd1 oc2 kV2 dc2 pm2 ct2 cd2 oc3 kV3 dc3 pm3 ct3 cd3 oc4 kV4 dc4 pm4 ct4 cd4 oc5 kV5 dc5 pm5 ct5 cd5 oc6 kV6 dc6 pm6 ct6 cd6 oc7 kV7 dc7 pm7 ct7 cd7 oc8 kV8 dc8 pm8 ct8 cd8 oc9 kV9 dc9 pm9 ct9 cd9 oc10 kV10 dc10 pm10 ct10 cd10 oc11 kV11 dc11 pm11 ct11 cd11 oc12 kV12 dc12 pm12 ct12 cd12 oc13 kV13 dc13 pm13 ct13 cd13 oc14 kV14 dc14 pm14 ct14 cd14 oc15 kV15 dc15 pm15 ct15 cd15 oc16 kV16 dc16 pm16 ct16 cd16 oc17 kV17 dc17 pm17 ct17 cd17 oc18 kV18 dc18 pm18 ct18 cd18 oc19 kV19 dc19 pm19 ct19 cd19 oc20 kV20 dc20 pm20 ct20 cd20 oc21 kV21 dc21 pm21 ct21 cd21 oc22 kV22 dc22 pm22 ct22 cd22 oc23 kV23 dc23 pm23 ct23 cd23 oc24 kV24 dc24 pm24 ct24 oc25 kV25 dc25 pm25 ct25 cd25 ocm0 kVm0 dcm0 pmm0 ctm0 cdm0 ocm1 kVm1 dcm1 pmm1 ctm1 cdm1 ocm2 kVm2 dcm2 pmm2 ctm2 cdm2 ocm3 kVm3 dcm3 pmm3 ctm3 cdm3 ocm4 kVm4 dcm4 pmm4 ctm4 cdm4 ocm5 kVm5 dcm5 pmm5 ctm5 cdm5 ocm6 kVm6 dcm6 pmm6 ctm6 cdm6 : Value} {tkMOST_LENGTH tkLEAST_BARS tkMOST_BARS : Tok} {vsc : Array Value}
    {nmeL qqeL nmeN qqeN nmeT qqeT : Str} {NeL NeN NeT : Addr} {bseL bseN bseT : List Value} {bmeL bmeN bmeT : List Value} {sneL sneN sneT : List Str} {subeL subeN subeT : List Value} {abeL abeN abeT : Bool} {coleL coleN coleT : Option Bool} {ddeL ddeN ddeT : Option Addr} {k0eL k1eL k2eL k3eL k5eL k0eN k1eN k2eN k3eN k5eN k0eT k1eT k2eT k3eT k5eT : Option Value}
    (aC : PySem.W.nsIn K mainGlobals "Ring" = some (some (.ref C)))
    (aeR : PySem.W.nsIn K mainGlobals "RingError" = some (some (.ref eR)))
    (aeL : PySem.W.nsIn K mainGlobals "BadLot" = some (some (.ref eL)))
    (aeN : PySem.W.nsIn K mainGlobals "NoBar" = some (some (.ref eN)))
    (aeT : PySem.W.nsIn K mainGlobals "Twice" = some (some (.ref eT)))
    (a0 : PySem.W.nsIn K mainGlobals "is_integer" = some (some (.ref f0)))
    (l0 : K.lookup f0 = some ⟨oc0, od0, .func (PySem.W.fnOf "is_integer" "is_integer" (defArgs sIsInteger) (defBody sIsInteger) (defScope sIsInteger) .none kV0 dc0 pm0 an0 cd0 ct0), sl0⟩)
    (c0 : PySem.W.codeIn K cd0 "is_integer" = true)
    (k0 : PySem.W.keepIn K (.ref f0) = true)
    (a1 : PySem.W.nsIn K mainGlobals "is_within" = some (some (.ref f1)))
    (l1 : K.lookup f1 = some ⟨oc1, od1, .func (PySem.W.fnOf "is_within" "is_within" (defArgs sIsWithin) (defBody sIsWithin) (defScope sIsWithin) .none kV1 dc1 pm1 an1 cd1 ct1), sl1⟩)
    (c1 : PySem.W.codeIn K cd1 "is_within" = true)
    (k1 : PySem.W.keepIn K (.ref f1) = true)
    (a2 : PySem.W.nsIn K mainGlobals "is_list" = some (some (.ref f2)))
    (l2 : K.lookup f2 = some ⟨oc2, od2, .func (PySem.W.fnOf "is_list" "is_list" (defArgs sIsList) (defBody sIsList) (defScope sIsList) .none kV2 dc2 pm2 an2 cd2 ct2), sl2⟩)
    (c2 : PySem.W.codeIn K cd2 "is_list" = true)
    (k2 : PySem.W.keepIn K (.ref f2) = true)
    (a3 : PySem.W.nsIn K mainGlobals "is_numbers" = some (some (.ref f3)))
    (l3 : K.lookup f3 = some ⟨oc3, od3, .func (PySem.W.fnOf "is_numbers" "is_numbers" (defArgs sIsNumbers) (defBody sIsNumbers) (defScope sIsNumbers) .none kV3 dc3 pm3 an3 cd3 ct3), sl3⟩)
    (c3 : PySem.W.codeIn K cd3 "is_numbers" = true)
    (k3 : PySem.W.keepIn K (.ref f3) = true)
    (a4 : PySem.W.nsIn K mainGlobals "fixed" = some (some (.ref f4)))
    (l4 : K.lookup f4 = some ⟨oc4, od4, .func (PySem.W.fnOf "fixed" "fixed" (defArgs sFixed) (defBody sFixed) (defScope sFixed) .none kV4 dc4 pm4 an4 cd4 ct4), sl4⟩)
    (c4 : PySem.W.codeIn K cd4 "fixed" = true)
    (k4 : PySem.W.keepIn K (.ref f4) = true)
    (a5 : PySem.W.nsIn K mainGlobals "first_twice" = some (some (.ref f5)))
    (l5 : K.lookup f5 = some ⟨oc5, od5, .func (PySem.W.fnOf "first_twice" "first_twice" (defArgs sFirstTwice) (defBody sFirstTwice) (defScope sFirstTwice) .none kV5 dc5 pm5 an5 cd5 ct5), sl5⟩)
    (c5 : PySem.W.codeIn K cd5 "first_twice" = true)
    (k5 : PySem.W.keepIn K (.ref f5) = true)
    (a6 : PySem.W.nsIn K mainGlobals "twice_at" = some (some (.ref f6)))
    (l6 : K.lookup f6 = some ⟨oc6, od6, .func (PySem.W.fnOf "twice_at" "twice_at" (defArgs sTwiceAt) (defBody sTwiceAt) (defScope sTwiceAt) .none kV6 dc6 pm6 an6 cd6 ct6), sl6⟩)
    (c6 : PySem.W.codeIn K cd6 "twice_at" = true)
    (k6 : PySem.W.keepIn K (.ref f6) = true)
    (a7 : PySem.W.nsIn K mainGlobals "sort_by" = some (some (.ref f7)))
    (l7 : K.lookup f7 = some ⟨oc7, od7, .func (PySem.W.fnOf "sort_by" "sort_by" (defArgs sSortBy) (defBody sSortBy) (defScope sSortBy) .none kV7 dc7 pm7 an7 cd7 ct7), sl7⟩)
    (c7 : PySem.W.codeIn K cd7 "sort_by" = true)
    (k7 : PySem.W.keepIn K (.ref f7) = true)
    (a8 : PySem.W.nsIn K mainGlobals "want_bar" = some (some (.ref f8)))
    (l8 : K.lookup f8 = some ⟨oc8, od8, .func (PySem.W.fnOf "want_bar" "want_bar" (defArgs sWantBar) (defBody sWantBar) (defScope sWantBar) .none kV8 dc8 pm8 an8 cd8 ct8), sl8⟩)
    (c8 : PySem.W.codeIn K cd8 "want_bar" = true)
    (k8 : PySem.W.keepIn K (.ref f8) = true)
    (a9 : PySem.W.nsIn K mainGlobals "want_lot" = some (some (.ref f9)))
    (l9 : K.lookup f9 = some ⟨oc9, od9, .func (PySem.W.fnOf "want_lot" "want_lot" (defArgs sWantLot) (defBody sWantLot) (defScope sWantLot) .none kV9 dc9 pm9 an9 cd9 ct9), sl9⟩)
    (c9 : PySem.W.codeIn K cd9 "want_lot" = true)
    (k9 : PySem.W.keepIn K (.ref f9) = true)
    (a10 : PySem.W.nsIn K mainGlobals "are_lengths" = some (some (.ref f10)))
    (l10 : K.lookup f10 = some ⟨oc10, od10, .func (PySem.W.fnOf "are_lengths" "are_lengths" (defArgs sAreLengths) (defBody sAreLengths) (defScope sAreLengths) .none kV10 dc10 pm10 an10 cd10 ct10), sl10⟩)
    (c10 : PySem.W.codeIn K cd10 "are_lengths" = true)
    (k10 : PySem.W.keepIn K (.ref f10) = true)
    (a11 : PySem.W.nsIn K mainGlobals "has_level" = some (some (.ref f11)))
    (l11 : K.lookup f11 = some ⟨oc11, od11, .func (PySem.W.fnOf "has_level" "has_level" (defArgs sHasLevel) (defBody sHasLevel) (defScope sHasLevel) .none kV11 dc11 pm11 an11 cd11 ct11), sl11⟩)
    (c11 : PySem.W.codeIn K cd11 "has_level" = true)
    (k11 : PySem.W.keepIn K (.ref f11) = true)
    (a12 : PySem.W.nsIn K mainGlobals "want_ring" = some (some (.ref f12)))
    (l12 : K.lookup f12 = some ⟨oc12, od12, .func (PySem.W.fnOf "want_ring" "want_ring" (defArgs sWantRing) (defBody sWantRing) (defScope sWantRing) .none kV12 dc12 pm12 an12 cd12 ct12), sl12⟩)
    (c12 : PySem.W.codeIn K cd12 "want_ring" = true)
    (k12 : PySem.W.keepIn K (.ref f12) = true)
    (a13 : PySem.W.nsIn K mainGlobals "too_long" = some (some (.ref f13)))
    (l13 : K.lookup f13 = some ⟨oc13, od13, .func (PySem.W.fnOf "too_long" "too_long" (defArgs sTooLong) (defBody sTooLong) (defScope sTooLong) .none kV13 dc13 pm13 an13 cd13 ct13), sl13⟩)
    (c13 : PySem.W.codeIn K cd13 "too_long" = true)
    (k13 : PySem.W.keepIn K (.ref f13) = true)
    (a14 : PySem.W.nsIn K mainGlobals "_law_pen" = some (some (.ref f14)))
    (l14 : K.lookup f14 = some ⟨oc14, od14, .func (PySem.W.fnOf "_law_pen" "_law_pen" (defArgs sLwPen) (defBody sLwPen) (defScope sLwPen) .none kV14 dc14 pm14 an14 cd14 ct14), sl14⟩)
    (c14 : PySem.W.codeIn K cd14 "_law_pen" = true)
    (k14 : PySem.W.keepIn K (.ref f14) = true)
    (a15 : PySem.W.nsIn K mainGlobals "_law_draw" = some (some (.ref f15)))
    (l15 : K.lookup f15 = some ⟨oc15, od15, .func (PySem.W.fnOf "_law_draw" "_law_draw" (defArgs sLwDraw) (defBody sLwDraw) (defScope sLwDraw) .none kV15 dc15 pm15 an15 cd15 ct15), sl15⟩)
    (c15 : PySem.W.codeIn K cd15 "_law_draw" = true)
    (k15 : PySem.W.keepIn K (.ref f15) = true)
    (a16 : PySem.W.nsIn K mainGlobals "_law_pick" = some (some (.ref f16)))
    (l16 : K.lookup f16 = some ⟨oc16, od16, .func (PySem.W.fnOf "_law_pick" "_law_pick" (defArgs sLwPick) (defBody sLwPick) (defScope sLwPick) .none kV16 dc16 pm16 an16 cd16 ct16), sl16⟩)
    (c16 : PySem.W.codeIn K cd16 "_law_pick" = true)
    (k16 : PySem.W.keepIn K (.ref f16) = true)
    (a17 : PySem.W.nsIn K mainGlobals "_law_mixed" = some (some (.ref f17)))
    (l17 : K.lookup f17 = some ⟨oc17, od17, .func (PySem.W.fnOf "_law_mixed" "_law_mixed" (defArgs sLwMixed) (defBody sLwMixed) (defScope sLwMixed) .none kV17 dc17 pm17 an17 cd17 ct17), sl17⟩)
    (c17 : PySem.W.codeIn K cd17 "_law_mixed" = true)
    (k17 : PySem.W.keepIn K (.ref f17) = true)
    (a18 : PySem.W.nsIn K mainGlobals "_law_lengths" = some (some (.ref f18)))
    (l18 : K.lookup f18 = some ⟨oc18, od18, .func (PySem.W.fnOf "_law_lengths" "_law_lengths" (defArgs sLwLengths) (defBody sLwLengths) (defScope sLwLengths) .none kV18 dc18 pm18 an18 cd18 ct18), sl18⟩)
    (c18 : PySem.W.codeIn K cd18 "_law_lengths" = true)
    (k18 : PySem.W.keepIn K (.ref f18) = true)
    (a19 : PySem.W.nsIn K mainGlobals "_law_lots" = some (some (.ref f19)))
    (l19 : K.lookup f19 = some ⟨oc19, od19, .func (PySem.W.fnOf "_law_lots" "_law_lots" (defArgs sLwLots) (defBody sLwLots) (defScope sLwLots) .none kV19 dc19 pm19 an19 cd19 ct19), sl19⟩)
    (c19 : PySem.W.codeIn K cd19 "_law_lots" = true)
    (k19 : PySem.W.keepIn K (.ref f19) = true)
    (a20 : PySem.W.nsIn K mainGlobals "_law_sort" = some (some (.ref f20)))
    (l20 : K.lookup f20 = some ⟨oc20, od20, .func (PySem.W.fnOf "_law_sort" "_law_sort" (defArgs sLwSort) (defBody sLwSort) (defScope sLwSort) .none kV20 dc20 pm20 an20 cd20 ct20), sl20⟩)
    (c20 : PySem.W.codeIn K cd20 "_law_sort" = true)
    (k20 : PySem.W.keepIn K (.ref f20) = true)
    (a21 : PySem.W.nsIn K mainGlobals "_law_heard" = some (some (.ref f21)))
    (l21 : K.lookup f21 = some ⟨oc21, od21, .func (PySem.W.fnOf "_law_heard" "_law_heard" (defArgs sLwHeard) (defBody sLwHeard) (defScope sLwHeard) .none kV21 dc21 pm21 an21 cd21 ct21), sl21⟩)
    (c21 : PySem.W.codeIn K cd21 "_law_heard" = true)
    (k21 : PySem.W.keepIn K (.ref f21) = true)
    (a22 : PySem.W.nsIn K mainGlobals "_law_lot_right" = some (some (.ref f22)))
    (l22 : K.lookup f22 = some ⟨oc22, od22, .func (PySem.W.fnOf "_law_lot_right" "_law_lot_right" (defArgs sLwLotRight) (defBody sLwLotRight) (defScope sLwLotRight) .none kV22 dc22 pm22 an22 cd22 ct22), sl22⟩)
    (c22 : PySem.W.codeIn K cd22 "_law_lot_right" = true)
    (k22 : PySem.W.keepIn K (.ref f22) = true)
    (a23 : PySem.W.nsIn K mainGlobals "_law_whole_right" = some (some (.ref f23)))
    (l23 : K.lookup f23 = some ⟨oc23, od23, .func (PySem.W.fnOf "_law_whole_right" "_law_whole_right" (defArgs sLwWholeRight) (defBody sLwWholeRight) (defScope sLwWholeRight) .none kV23 dc23 pm23 an23 cd23 ct23), sl23⟩)
    (c23 : PySem.W.codeIn K cd23 "_law_whole_right" = true)
    (k23 : PySem.W.keepIn K (.ref f23) = true)
    (a24 : PySem.W.nsIn K mainGlobals "_law_refused_right" = some (some (.ref f24)))
    (l24 : K.lookup f24 = some ⟨oc24, od24, .func (PySem.W.fnOf "_law_refused_right" "_law_refused_right" (defArgs sLwRefusedRight) (defBody sLwRefusedRight) (defScope sLwRefusedRight) .none kV24 dc24 pm24 an24 (.ref cRR) ct24), sl24⟩)
    (c24 : PySem.W.codeIn K (.ref cRR) "_law_refused_right" = true)
    (k24 : PySem.W.keepIn K (.ref f24) = true)
    (a25 : PySem.W.nsIn K mainGlobals "law" = some (some (.ref f25)))
    (l25 : K.lookup f25 = some ⟨oc25, od25, .func (PySem.W.fnOf "law" "law" (defArgs sLaw) (defBody sLaw) (defScope sLaw) .none kV25 dc25 pm25 an25 cd25 ct25), sl25⟩)
    (c25 : PySem.W.codeIn K cd25 "law" = true)
    (k25 : PySem.W.keepIn K (.ref f25) = true)
    (am0 : PySem.W.findIn K (.ref C) "__init__" = some (some (.ref fm0)))
    (im0 : PySem.W.isFn K (.ref fm0) = true)
    (lm0 : K.lookup fm0 = some ⟨ocm0, odm0, .func (PySem.W.fnOf "__init__" "Ring.__init__" (defArgs sRingInit) (defBody sRingInit) (defScope sRingInit) .none kVm0 dcm0 pmm0 anm0 cdm0 ctm0), slm0⟩)
    (cm0 : PySem.W.codeIn K cdm0 "Ring.__init__" = true)
    (km0 : PySem.W.keepIn K (.ref fm0) = true)
    (am1 : PySem.W.findIn K (.ref C) "__len__" = some (some (.ref fm1)))
    (im1 : PySem.W.isFn K (.ref fm1) = true)
    (lm1 : K.lookup fm1 = some ⟨ocm1, odm1, .func (PySem.W.fnOf "__len__" "Ring.__len__" (defArgs sRingLen) (defBody sRingLen) (defScope sRingLen) .none kVm1 dcm1 pmm1 anm1 cdm1 ctm1), slm1⟩)
    (cm1 : PySem.W.codeIn K cdm1 "Ring.__len__" = true)
    (km1 : PySem.W.keepIn K (.ref fm1) = true)
    (am2 : PySem.W.findIn K (.ref C) "length_of" = some (some (.ref fm2)))
    (im2 : PySem.W.isFn K (.ref fm2) = true)
    (lm2 : K.lookup fm2 = some ⟨ocm2, odm2, .func (PySem.W.fnOf "length_of" "Ring.length_of" (defArgs sRingLengthOf) (defBody sRingLengthOf) (defScope sRingLengthOf) .none kVm2 dcm2 pmm2 anm2 cdm2 ctm2), slm2⟩)
    (cm2 : PySem.W.codeIn K cdm2 "Ring.length_of" = true)
    (km2 : PySem.W.keepIn K (.ref fm2) = true)
    (am3 : PySem.W.findIn K (.ref C) "sort_of" = some (some (.ref fm3)))
    (im3 : PySem.W.isFn K (.ref fm3) = true)
    (lm3 : K.lookup fm3 = some ⟨ocm3, odm3, .func (PySem.W.fnOf "sort_of" "Ring.sort_of" (defArgs sRingSortOf) (defBody sRingSortOf) (defScope sRingSortOf) .none kVm3 dcm3 pmm3 anm3 cdm3 ctm3), slm3⟩)
    (cm3 : PySem.W.codeIn K cdm3 "Ring.sort_of" = true)
    (km3 : PySem.W.keepIn K (.ref fm3) = true)
    (am4 : PySem.W.findIn K (.ref eL) "__init__" = some (some (.ref fm4)))
    (im4 : PySem.W.isFn K (.ref fm4) = true)
    (lm4 : K.lookup fm4 = some ⟨ocm4, odm4, .func (PySem.W.fnOf "__init__" "BadLot.__init__" (defArgs sBadLotInit) (defBody sBadLotInit) (defScope sBadLotInit) .none kVm4 dcm4 pmm4 anm4 cdm4 ctm4), slm4⟩)
    (cm4 : PySem.W.codeIn K cdm4 "BadLot.__init__" = true)
    (km4 : PySem.W.keepIn K (.ref fm4) = true)
    (tim4 : PySem.W.typeIn K (.ref fm4) = some (.type "function"))
    (am5 : PySem.W.findIn K (.ref eN) "__init__" = some (some (.ref fm5)))
    (im5 : PySem.W.isFn K (.ref fm5) = true)
    (lm5 : K.lookup fm5 = some ⟨ocm5, odm5, .func (PySem.W.fnOf "__init__" "Missing.__init__" (defArgs sMissingInit) (defBody sMissingInit) (defScope sMissingInit) .none kVm5 dcm5 pmm5 anm5 cdm5 ctm5), slm5⟩)
    (cm5 : PySem.W.codeIn K cdm5 "Missing.__init__" = true)
    (km5 : PySem.W.keepIn K (.ref fm5) = true)
    (tim5 : PySem.W.typeIn K (.ref fm5) = some (.type "function"))
    (am6 : PySem.W.findIn K (.ref eT) "__init__" = some (some (.ref fm6)))
    (im6 : PySem.W.isFn K (.ref fm6) = true)
    (lm6 : K.lookup fm6 = some ⟨ocm6, odm6, .func (PySem.W.fnOf "__init__" "Twice.__init__" (defArgs sTwiceInit) (defBody sTwiceInit) (defScope sTwiceInit) .none kVm6 dcm6 pmm6 anm6 cdm6 ctm6), slm6⟩)
    (cm6 : PySem.W.codeIn K cdm6 "Twice.__init__" = true)
    (km6 : PySem.W.keepIn K (.ref fm6) = true)
    (tim6 : PySem.W.typeIn K (.ref fm6) = some (.type "function"))
    (rpg : PySem.W.plainGet K C Str.empty = true)
    (rhd : PySem.W.hasDictIn K C = true)
    (rpo : PySem.W.plainOver K C = true)
    (rsa : PySem.W.findIn K (.ref C) "__setattr__" = some (some (.builtin "object.__setattr__")))
    (rmk : PySem.W.makesIn K C = true)
    (rkc : PySem.W.keepIn K (.ref C) = true)
    (rn1 : PySem.W.findIn K (.ref C) "lengths" = some none)
    (rn2 : PySem.W.findIn K (.ref C) "total" = some none)
    (rn3 : PySem.W.findIn K (.ref C) "closes" = some none)
    (rn4 : PySem.W.findIn K (.ref C) "is_clear" = some none)
    (rha : PySem.W.findIn K (.ref C) "__class__" = some (some (.builtin "object.__class__")))
    (rhn : PySem.W.specialIn K (.builtin "object.__class__") "__get__" = some (some (.builtin "getset_descriptor.__get__")))
    (rht : PySem.W.takesIn K (.builtin "object.__class__") = some true)
    (rhm : PySem.W.mroIn K C (.type "object") = some true)
    (z_int : PySem.W.nsIn K mainGlobals "int" = some none)
    (z_len : PySem.W.nsIn K mainGlobals "len" = some none)
    (z_abs : PySem.W.nsIn K mainGlobals "abs" = some none)
    (z_list : PySem.W.nsIn K mainGlobals "list" = some none)
    (z_tuple : PySem.W.nsIn K mainGlobals "tuple" = some none)
    (z_bool : PySem.W.nsIn K mainGlobals "bool" = some none)
    (z_range : PySem.W.nsIn K mainGlobals "range" = some none)
    (z_sum : PySem.W.nsIn K mainGlobals "sum" = some none)
    (z_max : PySem.W.nsIn K mainGlobals "max" = some none)
    (z_all : PySem.W.nsIn K mainGlobals "all" = some none)
    (z_any : PySem.W.nsIn K mainGlobals "any" = some none)
    (z_sorted : PySem.W.nsIn K mainGlobals "sorted" = some none)
    (z_enumerate : PySem.W.nsIn K mainGlobals "enumerate" = some none)
    (z_isinstance : PySem.W.nsIn K mainGlobals "isinstance" = some none)
    (g_MOST_LENGTH : PySem.W.nsIn K mainGlobals "MOST_LENGTH" = some (some (.int 1000000 tkMOST_LENGTH)))
    (g_LEAST_BARS : PySem.W.nsIn K mainGlobals "LEAST_BARS" = some (some (.int 3 tkLEAST_BARS)))
    (g_MOST_BARS : PySem.W.nsIn K mainGlobals "MOST_BARS" = some (some (.int 8 tkMOST_BARS)))
    (xeL : K.lookup eL = some (excClassObj nmeL qqeL eL NeL bseL bmeL true sneL subeL abeL coleL ddeL k0eL k1eL k2eL k3eL k5eL "ValueError.__new__"))
    (rveL : PySem.HandSPX.refsVE bmeL = true)
    (saeL : PySem.W.findIn K (.ref eL) "__setattr__" = some (some (.builtin "object.__setattr__")))
    (gaeL : PySem.W.findIn K (.ref eL) "__getattribute__" = some (some (.builtin "BaseException.__getattribute__")))
    (ggeL : PySem.W.findIn K (.ref eL) "__getattr__" = some none)
    (eCeL : PySem.W.subIn K (.ref eL) (.type "BaseException") = some true)
    (tCeL : PySem.W.typeIn K (.ref eL) = some (.type "type"))
    (kCeL : PySem.W.keepIn K (.ref eL) = true)
    (hdeL : PySem.W.hasDictIn K eL = true)
    (haeL : PySem.W.findIn K (.ref eL) "__class__" = some (some (.builtin "object.__class__")))
    (hmeL : PySem.W.mroIn K eL (.type "object") = some true)
    (nfeL : PySem.W.findIn K (.ref eL) "part" = some none)
    (sbeL : PySem.W.subIn K (.ref eL) (.ref eR) = some true)
    (xeN : K.lookup eN = some (excClassObj nmeN qqeN eN NeN bseN bmeN true sneN subeN abeN coleN ddeN k0eN k1eN k2eN k3eN k5eN "ValueError.__new__"))
    (rveN : PySem.HandSPX.refsVE bmeN = true)
    (saeN : PySem.W.findIn K (.ref eN) "__setattr__" = some (some (.builtin "object.__setattr__")))
    (gaeN : PySem.W.findIn K (.ref eN) "__getattribute__" = some (some (.builtin "BaseException.__getattribute__")))
    (ggeN : PySem.W.findIn K (.ref eN) "__getattr__" = some none)
    (eCeN : PySem.W.subIn K (.ref eN) (.type "BaseException") = some true)
    (tCeN : PySem.W.typeIn K (.ref eN) = some (.type "type"))
    (kCeN : PySem.W.keepIn K (.ref eN) = true)
    (hdeN : PySem.W.hasDictIn K eN = true)
    (haeN : PySem.W.findIn K (.ref eN) "__class__" = some (some (.builtin "object.__class__")))
    (hmeN : PySem.W.mroIn K eN (.type "object") = some true)
    (nfeN : PySem.W.findIn K (.ref eN) "value" = some none)
    (sbeN : PySem.W.subIn K (.ref eN) (.ref eR) = some true)
    (xeT : K.lookup eT = some (excClassObj nmeT qqeT eT NeT bseT bmeT true sneT subeT abeT coleT ddeT k0eT k1eT k2eT k3eT k5eT "ValueError.__new__"))
    (rveT : PySem.HandSPX.refsVE bmeT = true)
    (saeT : PySem.W.findIn K (.ref eT) "__setattr__" = some (some (.builtin "object.__setattr__")))
    (gaeT : PySem.W.findIn K (.ref eT) "__getattribute__" = some (some (.builtin "BaseException.__getattribute__")))
    (ggeT : PySem.W.findIn K (.ref eT) "__getattr__" = some none)
    (eCeT : PySem.W.subIn K (.ref eT) (.type "BaseException") = some true)
    (tCeT : PySem.W.typeIn K (.ref eT) = some (.type "type"))
    (kCeT : PySem.W.keepIn K (.ref eT) = true)
    (hdeT : PySem.W.hasDictIn K eT = true)
    (haeT : PySem.W.findIn K (.ref eT) "__class__" = some (some (.builtin "object.__class__")))
    (hmeT : PySem.W.mroIn K eT (.type "object") = some true)
    (nfeT : PySem.W.findIn K (.ref eT) "value" = some none)
    (sbeT : PySem.W.subIn K (.ref eT) (.ref eR) = some true)
    (eCeR : PySem.W.subIn K (.ref eR) (.type "BaseException") = some true)
    (hdeR : PySem.W.hasDictIn K eR = true)
    (tCeR : PySem.W.typeIn K (.ref eR) = some (.type "type"))
    (kNL : PySem.W.kitOne K (.ref eN) (.ref eL) = some false)
    (kTL : PySem.W.kitOne K (.ref eT) (.ref eL) = some false)
    (kTN : PySem.W.kitOne K (.ref eT) (.ref eN) = some false)
    (lc : K.lookup cRR = some ⟨.type "code", odc, .fields vsc, slc⟩)
    (hdc : PySem.W.codeHdIn [(cRR, ⟨.type "code", odc, .fields vsc, slc⟩)] cRR Pt = true)
    (nT : K.lookup Pt = none)
    (hT : h.get? Pt = some { cls := .none, data := .fields #[] }) :
    LawAtS l w K CX0 10 63 "_law_script" mg fa h := by
  have e := hfa.symm.trans (PySem.W.mg_of X G a25)
  cases e
  have gl : ∀ {x : Str} {v : Value}, PySem.W.nsIn K mainGlobals x = some (some v) → mg x = some v := fun q => PySem.W.mg_of X G q
  have T : Bi mg := ⟨PySem.W.mg_none_of X G z_int, PySem.W.mg_none_of X G z_len, PySem.W.mg_none_of X G z_abs, PySem.W.mg_none_of X G z_list, PySem.W.mg_none_of X G z_tuple, PySem.W.mg_none_of X G z_bool, PySem.W.mg_none_of X G z_range, PySem.W.mg_none_of X G z_sum, PySem.W.mg_none_of X G z_max, PySem.W.mg_none_of X G z_all, PySem.W.mg_none_of X G z_any, PySem.W.mg_none_of X G z_sorted, PySem.W.mg_none_of X G z_enumerate, PySem.W.mg_none_of X G z_isinstance⟩
  have N : Nm mg := ⟨⟨_, gl g_MOST_LENGTH⟩, ⟨_, gl g_LEAST_BARS⟩, ⟨_, gl g_MOST_BARS⟩⟩
  have R : RingC K mg C := ⟨⟨rpg, rhd, rpo, rsa⟩, rn1, rn2, rn3, rn4, gl aC, rha, rhn, rht, rhm⟩
  have oL : OexC K eL := ⟨⟨_, _, _, _, _, _, _, _, _, _, _, _, _, _, _, xeL, rveL⟩, saeL, eCeL, tCeL, kCeL⟩
  have oN : OexC K eN := ⟨⟨_, _, _, _, _, _, _, _, _, _, _, _, _, _, _, xeN, rveN⟩, saeN, eCeN, tCeN, kCeN⟩
  have oT : OexC K eT := ⟨⟨_, _, _, _, _, _, _, _, _, _, _, _, _, _, _, xeT, rveT⟩, saeT, eCeT, tCeT, kCeT⟩
  have Hc : HeardC K mg ⟨eL, eN, eT⟩ eR := ⟨gl aeR, gl aeL, gl aeN, gl aeT, ⟨gaeL, ggeL, eCeL, hdeL, haeL, rhn, rht, hmeL⟩, ⟨gaeN, ggeN, eCeN, hdeN, haeN, rhn, rht, hmeN⟩, ⟨gaeT, ggeT, eCeT, hdeT, haeT, rhn, rht, hmeT⟩,
    ⟨gaeL, ggeL, eCeL, hdeL⟩, ⟨gaeN, ggeN, eCeN, hdeN⟩, ⟨gaeT, ggeT, eCeT, hdeT⟩, nfeL, nfeN, nfeT, PySem.W.exm_ref eCeR hdeR tCeR sbeL, PySem.W.exm_ref eCeR hdeR tCeR sbeN, PySem.W.exm_ref eCeR hdeR tCeR sbeT, kNL, kTL, kTN⟩
  have F0 := fun_mk (st := sIsInteger) l0 c0 k0
  have b0 := F0.binds (ps := ["value"]) fun _ _ _ _ _ _ us hl => match us, hl with | [_], _ => rfl
  have F1 := fun_mk (st := sIsWithin) l1 c1 k1
  have b1 := F1.binds (ps := ["value", "least", "most"]) fun _ _ _ _ _ _ us hl => match us, hl with | [_, _, _], _ => rfl
  have F2 := fun_mk (st := sIsList) l2 c2 k2
  have b2 := F2.binds (ps := ["value"]) fun _ _ _ _ _ _ us hl => match us, hl with | [_], _ => rfl
  have F3 := fun_mk (st := sIsNumbers) l3 c3 k3
  have b3 := F3.binds (ps := ["value"]) fun _ _ _ _ _ _ us hl => match us, hl with | [_], _ => rfl
  have F4 := fun_mk (st := sFixed) l4 c4 k4
  have b4 := F4.binds (ps := ["value"]) fun _ _ _ _ _ _ us hl => match us, hl with | [_], _ => rfl
  have F5 := fun_mk (st := sFirstTwice) l5 c5 k5
  have b5 := F5.binds (ps := ["values"]) fun _ _ _ _ _ _ us hl => match us, hl with | [_], _ => rfl
  have F6 := fun_mk (st := sTwiceAt) l6 c6 k6
  have b6 := F6.binds (ps := ["values"]) fun _ _ _ _ _ _ us hl => match us, hl with | [_], _ => rfl
  have F7 := fun_mk (st := sSortBy) l7 c7 k7
  have b7 := F7.binds (ps := ["excess"]) fun _ _ _ _ _ _ us hl => match us, hl with | [_], _ => rfl
  have F8 := fun_mk (st := sWantBar) l8 c8 k8
  have b8 := F8.binds (ps := ["value", "many"]) fun _ _ _ _ _ _ us hl => match us, hl with | [_, _], _ => rfl
  have F9 := fun_mk (st := sWantLot) l9 c9 k9
  have b9 := F9.binds (ps := ["value", "many", "part"]) fun _ _ _ _ _ _ us hl => match us, hl with | [_, _, _], _ => rfl
  have F10 := fun_mk (st := sAreLengths) l10 c10 k10
  have b10 := F10.binds (ps := ["value"]) fun _ _ _ _ _ _ us hl => match us, hl with | [_], _ => rfl
  have F11 := fun_mk (st := sHasLevel) l11 c11 k11
  have b11 := F11.binds (ps := ["lengths"]) fun _ _ _ _ _ _ us hl => match us, hl with | [_], _ => rfl
  have F12 := fun_mk (st := sWantRing) l12 c12 k12
  have b12 := F12.binds (ps := ["value", "part"]) fun _ _ _ _ _ _ us hl => match us, hl with | [_, _], _ => rfl
  have F13 := fun_mk (st := sTooLong) l13 c13 k13
  have b13 := F13.binds (ps := ["ring"]) fun _ _ _ _ _ _ us hl => match us, hl with | [_], _ => rfl
  have F14 := fun_mk (st := sLwPen) l14 c14 k14
  have b14 := F14.binds (ps := ["_law_script"]) fun _ _ _ _ _ _ us hl => match us, hl with | [_], _ => rfl
  have F15 := fun_mk (st := sLwDraw) l15 c15 k15
  have b15 := F15.binds (ps := ["_law_pen_here", "_law_many"]) fun _ _ _ _ _ _ us hl => match us, hl with | [_, _], _ => rfl
  have F16 := fun_mk (st := sLwPick) l16 c16 k16
  have b16 := F16.binds (ps := ["_law_pen_here", "_law_some"]) fun _ _ _ _ _ _ us hl => match us, hl with | [_, _], _ => rfl
  have F17 := fun_mk (st := sLwMixed) l17 c17 k17
  have b17 := F17.binds (ps := ["_law_pen_here", "_law_items"]) fun _ _ _ _ _ _ us hl => match us, hl with | [_, _], _ => rfl
  have F18 := fun_mk (st := sLwLengths) l18 c18 k18
  have b18 := F18.binds (ps := ["_law_pen_here"]) fun _ _ _ _ _ _ us hl => match us, hl with | [_], _ => rfl
  have F19 := fun_mk (st := sLwLots) l19 c19 k19
  have b19 := F19.binds (ps := ["_law_many"]) fun _ _ _ _ _ _ us hl => match us, hl with | [_], _ => rfl
  have F20 := fun_mk (st := sLwSort) l20 c20 k20
  have b20 := F20.binds (ps := ["_law_lengths_here", "_law_lot"]) fun _ _ _ _ _ _ us hl => match us, hl with | [_, _], _ => rfl
  have F21 := fun_mk (st := sLwHeard) l21 c21 k21
  have b21 := F21.binds (ps := ["_law_ask"]) fun _ _ _ _ _ _ us hl => match us, hl with | [_], _ => rfl
  have F22 := fun_mk (st := sLwLotRight) l22 c22 k22
  have b22 := F22.binds (ps := ["_law_pen_here", "_law_lengths_here", "_law_ring"]) fun _ _ _ _ _ _ us hl => match us, hl with | [_, _, _], _ => rfl
  have F23 := fun_mk (st := sLwWholeRight) l23 c23 k23
  have b23 := F23.binds (ps := ["_law_lengths_here", "_law_ring"]) fun _ _ _ _ _ _ us hl => match us, hl with | [_, _], _ => rfl
  have F24 : FunC K "_law_refused_right" "_law_refused_right" sLwRefusedRight f24 _ cRR := ⟨⟨_, _, _, _, _, _, _, _, rfl, l24, c24⟩⟩
  have F240 := fun_mk (st := sLwRefusedRight) l24 c24 k24
  have b24 := F240.binds (ps := ["_law_pen_here", "_law_ring"]) fun _ _ _ _ _ _ us hl => match us, hl with | [_, _], _ => rfl
  have F25 := fun_mk (st := sLaw) l25 c25 k25
  have b25 := F25.binds (ps := ["_law_script"]) fun _ _ _ _ _ _ us hl => match us, hl with | [_], _ => rfl
  have Fm0 := fun_mk (st := sRingInit) lm0 cm0 km0
  have bm0 := Fm0.binds (ps := ["self", "lengths"]) fun _ _ _ _ _ _ us hl => match us, hl with | [_, _], _ => rfl
  have Fm1 := fun_mk (st := sRingLen) lm1 cm1 km1
  have bm1 := Fm1.binds (ps := ["self"]) fun _ _ _ _ _ _ us hl => match us, hl with | [_], _ => rfl
  have Fm2 := fun_mk (st := sRingLengthOf) lm2 cm2 km2
  have bm2 := Fm2.binds (ps := ["self", "lot"]) fun _ _ _ _ _ _ us hl => match us, hl with | [_, _], _ => rfl
  have Fm3 := fun_mk (st := sRingSortOf) lm3 cm3 km3
  have bm3 := Fm3.binds (ps := ["self", "lot"]) fun _ _ _ _ _ _ us hl => match us, hl with | [_, _], _ => rfl
  have Fm4 := fun_mk (st := sBadLotInit) lm4 cm4 km4
  have bm4 := Fm4.binds (ps := ["self", "part"]) fun _ _ _ _ _ _ us hl => match us, hl with | [_, _], _ => rfl
  have Fm5 := fun_mk (st := sMissingInit) lm5 cm5 km5
  have bm5 := Fm5.binds (ps := ["self", "value"]) fun _ _ _ _ _ _ us hl => match us, hl with | [_, _], _ => rfl
  have Fm6 := fun_mk (st := sTwiceInit) lm6 cm6 km6
  have bm6 := Fm6.binds (ps := ["self", "value"]) fun _ _ _ _ _ _ us hl => match us, hl with | [_, _], _ => rfl
  refine ⟨PySem.W.fnOf "law" "law" (defArgs sLaw) (defBody sLaw) (defScope sLaw) .none kV25 dc25 pm25 an25 cd25 ct25, [(cRR, Pt)], spLaw K Pt, fun p hp => ?_, fun p hp => ?_, fun p hp => ?_, fun s v => .of_eq rfl, fun H a ns hl _ hT' hs => ?_, fun base KB GB TB => ?_⟩
  · rw [List.mem_singleton.mp hp]; exact hT
  · rw [List.mem_singleton.mp hp]; exact nT
  · rw [List.mem_singleton.mp hp]; exact PySem.W.codeHd_of_K X (code_hd lc hdc)
  · exact ⟨a, ns, rfl, hs, by omega, TabS.nil (hT' _ (List.mem_singleton.mpr rfl)), fun _ => rfl⟩
  · have tb := TB _ (List.mem_singleton.mpr rfl)
    have dInt := (⟨ok_isInt F0 T, gl a0, k0, b0⟩ : DefAt l.prog w K mg base _ _ "is_integer" _ _ _ _)
    have dList := (⟨ok_isList F2 T, gl a2, k2, b2⟩ : DefAt l.prog w K mg base _ _ "is_list" _ _ _ _)
    have dWith := (⟨ok_within F1 dInt, gl a1, k1, b1⟩ : DefAt l.prog w K mg base _ _ "is_within" _ _ _ _)
    have dNO := (⟨ok_numsO F3 T dInt dList, gl a3, k3, b3⟩ : DefAt l.prog w K mg base _ _ "is_numbers" _ _ _ _)
    have dNL := (⟨ok_numsL F3 T dInt dList, gl a3, k3, b3⟩ : DefAt l.prog w K mg base _ _ "is_numbers" _ _ _ _)
    have dNT := (⟨ok_numsT F3 T dInt dList, gl a3, k3, b3⟩ : DefAt l.prog w K mg base _ _ "is_numbers" _ _ _ _)
    have dFix := (⟨ok_fixed F4 T, gl a4, k4, b4⟩ : DefAt l.prog w K mg base _ _ "fixed" _ _ _ _)
    have dAtL := (⟨ok_taL F6 T dFix, gl a6, k6, b6⟩ : DefAt l.prog w K mg base _ _ "twice_at" _ _ _ _)
    have dAtT := (⟨ok_taT F6 T dFix, gl a6, k6, b6⟩ : DefAt l.prog w K mg base _ _ "twice_at" _ _ _ _)
    have dTL := (⟨ok_twL F5 dFix dAtL, gl a5, k5, b5⟩ : DefAt l.prog w K mg base _ _ "first_twice" _ _ _ _)
    have dTT := (⟨ok_twT F5 dFix dAtT, gl a5, k5, b5⟩ : DefAt l.prog w K mg base _ _ "first_twice" _ _ _ _)
    have dSB := (⟨ok_sortBy F7, gl a7, k7, b7⟩ : DefAt l.prog w K mg base _ _ "sort_by" _ _ _ _)
    have eN' : ErrAt l.prog w K mg base "NoBar" "value" eN fm5 _ := ⟨oN, am5, tim5, nfeN, gl aeN, bm5, ok_missingI Fm5⟩
    have eL' : ErrAt l.prog w K mg base "BadLot" "part" eL fm4 _ := ⟨oL, am4, tim4, nfeL, gl aeL, bm4, ok_badLotI Fm4⟩
    have eT' : ErrAt l.prog w K mg base "Twice" "value" eT fm6 _ := ⟨oT, am6, tim6, nfeT, gl aeT, bm6, ok_twiceI Fm6⟩
    have dWB := (⟨ok_wantBar F8 dWith eN', gl a8, k8, b8⟩ : DefAt l.prog w K mg base _ _ "want_bar" _ _ _ _)
    have w1 := ok_wlO (c := ⟨eL, eN, eT⟩) F9 T dNO dWB dTL eL' eT'
    have w2 := ok_wlL (c := ⟨eL, eN, eT⟩) F9 T dNL dWB dTL eL' eT'
    have w3 := ok_wlT (c := ⟨eL, eN, eT⟩) F9 T dNT dWB dTT eL' eT'
    have dWL := (⟨ok_wl w1 w2 w3, gl a9, k9, b9⟩ : DefAt l.prog w K mg base _ _ "want_lot" _ _ _ _)
    have dAL := (⟨ok_areL F10 T N dWith dList, gl a10, k10, b10⟩ : DefAt l.prog w K mg base _ _ "are_lengths" _ _ _ _)
    have dHL := (⟨ok_hasL F11 T, gl a11, k11, b11⟩ : DefAt l.prog w K mg base _ _ "has_level" _ _ _ _)
    have gI := ok_ri (P := l.prog) (w := w) (base := base) Fm0 T N R dAL dHL
    have gN := ok_rlen (P := l.prog) (w := w) (base := base) Fm1 T R
    have gL := ok_lenOf Fm2 T R dWL
    have gS := ok_sortOf Fm3 R ⟨am2, im2, km2⟩ gL bm2 dSB
    have kb2 : KBinds K _ ["self", "lot"] ["lot"] gK2 gK2 := kb_two (fun a b s => .of_eq rfl) (fd := PySem.W.fnOf "length_of" "Ring.length_of" (defArgs sRingLengthOf) (defBody sRingLengthOf) (defScope sRingLengthOf) .none kVm2 dcm2 pmm2 anm2 cdm2 ctm2)
    have kb3 : KBinds K _ ["self", "lot"] ["lot"] gK2 gK2 := kb_two (fun a b s => .of_eq rfl) (fd := PySem.W.fnOf "sort_of" "Ring.sort_of" (defArgs sRingSortOf) (defBody sRingSortOf) (defScope sRingSortOf) .none kVm3 dcm3 pmm3 anm3 cdm3 ctm3)
    have M : RingM l.prog w K mg base C ⟨eL, eN, eT⟩ fm2 fm3 _ _ gK2 := ⟨⟨am2, im2, km2⟩, ⟨am3, im3, km3⟩, gL, gS, bm2, bm3, kb2, kb3⟩
    have dWR := (⟨ok_wantR F12 T R, gl a12, k12, b12⟩ : DefAt l.prog w K mg base _ _ "want_ring" _ _ _ _)
    have dTL2 := (⟨ok_tooL F13 T R dWR, gl a13, k13, b13⟩ : DefAt l.prog w K mg base _ _ "too_long" _ _ _ _)
    have kb1 : KBinds K _ ["ring"] ["ring"] gK1 gK1 := kb_one (fun b s => .of_eq rfl) (fd := PySem.W.fnOf "too_long" "too_long" (defArgs sTooLong) (defBody sTooLong) (defScope sTooLong) .none kV13 dc13 pm13 an13 cd13 ct13)
    have dDr : DrawAt l.prog w K mg base _ _ := ⟨ok_draw F15 T, gl a15, k15, b15⟩
    have dPn := (⟨ok_pen F14 T, gl a14, k14, b14⟩ : DefAt l.prog w K mg base _ _ "_law_pen" _ _ _ _)
    have dPk := (⟨ok_pick F16 T dDr, gl a16, k16, b16⟩ : DefAt l.prog w K mg base _ _ "_law_pick" _ _ _ _)
    have dMx := (⟨ok_mixed F17 T dDr, gl a17, k17, b17⟩ : DefAt l.prog w K mg base _ _ "_law_mixed" _ _ _ _)
    have dLn := (⟨ok_lengths F18 T dDr, gl a18, k18, b18⟩ : DefAt l.prog w K mg base _ _ "_law_lengths" _ _ _ _)
    have dLo := (⟨ok_lots F19 T, gl a19, k19, b19⟩ : DefAt l.prog w K mg base _ _ "_law_lots" _ _ _ _)
    have dSo := (⟨ok_sort F20 T, gl a20, k20, b20⟩ : DefAt l.prog w K mg base _ _ "_law_sort" _ _ _ _)
    have dLR := (⟨ok_lr F22 T R dDr dMx dSo M, gl a22, k22, b22⟩ : DefAt l.prog w K mg base _ _ "_law_lot_right" _ _ _ _)
    have dWh := (⟨ok_wr F23 T R dSo dLo dTL2 kb1 M, gl a23, k23, b23⟩ : DefAt l.prog w K mg base _ _ "_law_whole_right" _ _ _ _)
    have gX := ok_rr F24 T R dDr dPk M Hc tb gN bm1 ⟨am1, im1, km1⟩ F21 b21 (gl a21)
    have dX := (⟨gX, gl a24, k24, b24⟩ : DefAt l.prog w K mg base _ _ "_law_refused_right" _ _ _ _)
    exact ok_law F25 T R dPn dLn ⟨rmk, am0, im0, rkc⟩ gI bm0 dLR dWh dX
end K
open PySem PySem.W PyProof.Rows in
set_option maxRecDepth 100000 in
set_option maxHeartbeats 0 in
theorem PySem.Challenge.cw_ringbars_k06_sorts_of_lots_holds : PySem.Challenge.rw_ringbars_k06_sorts_of_lots.Holds := by
  w_on; o_law; k_head; (case hw => w_witness2)
  k_fill
  refine LamX.walk_ofTs (l := PySem.Challenge.rw_ringbars_k06_sorts_of_lots) (n := 63) (k := 10) (x := "_law_script") (CX := fun _ => L2.CX0) rfl (by decide) rfl ⟨rfl, by decide, by decide⟩ (fun w h Y => PySem.W.km_in_of Y) ?F (fun _ _ _ _ _ z => z)
  case F =>
    intro w mg fa h Y KX G hmg
    refine' K.all_mk KX G hmg ?aC ?aeR ?aeL ?aeN ?aeT ?a0 ?l0 ?c0 ?k0 ?a1 ?l1 ?c1 ?k1 ?a2 ?l2 ?c2 ?k2 ?a3 ?l3 ?c3 ?k3 ?a4 ?l4 ?c4 ?k4 ?a5 ?l5 ?c5 ?k5 ?a6 ?l6 ?c6 ?k6 ?a7 ?l7 ?c7 ?k7 ?a8 ?l8 ?c8 ?k8 ?a9 ?l9 ?c9 ?k9 ?a10 ?l10 ?c10 ?k10 ?a11 ?l11 ?c11 ?k11 ?a12 ?l12 ?c12 ?k12 ?a13 ?l13 ?c13 ?k13 ?a14 ?l14 ?c14 ?k14 ?a15 ?l15 ?c15 ?k15 ?a16 ?l16 ?c16 ?k16 ?a17 ?l17 ?c17 ?k17 ?a18 ?l18 ?c18 ?k18 ?a19 ?l19 ?c19 ?k19 ?a20 ?l20 ?c20 ?k20 ?a21 ?l21 ?c21 ?k21 ?a22 ?l22 ?c22 ?k22 ?a23 ?l23 ?c23 ?k23 ?a24 ?l24 ?c24 ?k24 ?a25 ?l25 ?c25 ?k25 ?am0 ?im0 ?lm0 ?cm0 ?km0 ?am1 ?im1 ?lm1 ?cm1 ?km1 ?am2 ?im2 ?lm2 ?cm2 ?km2 ?am3 ?im3 ?lm3 ?cm3 ?km3 ?am4 ?im4 ?lm4 ?cm4 ?km4 ?tim4 ?am5 ?im5 ?lm5 ?cm5 ?km5 ?tim5 ?am6 ?im6 ?lm6 ?cm6 ?km6 ?tim6 ?rpg ?rhd ?rpo ?rsa ?rmk ?rkc ?rn1 ?rn2 ?rn3 ?rn4 ?rha ?rhn ?rht ?rhm ?z_int ?z_len ?z_abs ?z_list ?z_tuple ?z_bool ?z_range ?z_sum ?z_max ?z_all ?z_any ?z_sorted ?z_enumerate ?z_isinstance ?g_MOST_LENGTH ?g_LEAST_BARS ?g_MOST_BARS ?xeL ?rveL ?saeL ?gaeL ?ggeL ?eCeL ?tCeL ?kCeL ?hdeL ?haeL ?hmeL ?nfeL ?sbeL ?xeN ?rveN ?saeN ?gaeN ?ggeN ?eCeN ?tCeN ?kCeN ?hdeN ?haeN ?hmeN ?nfeN ?sbeN ?xeT ?rveT ?saeT ?gaeT ?ggeT ?eCeT ?tCeT ?kCeT ?hdeT ?haeT ?hmeT ?nfeT ?sbeT ?eCeR ?hdeR ?tCeR ?kNL ?kTL ?kTN ?lc ?hdc ?nT ?hT
    (case hT => exact PySem.W.km_tabs_of Y _ (List.mem_singleton.mpr rfl))
    (case aC => k_is)
    (case aeR => k_is)
    (case aeL => k_is)
    (case aeN => k_is)
    (case aeT => k_is)
    (case a0 => k_is)
    (case l0 => k_is)
    (case c0 => k_is)
    (case k0 => k_is)
    (case a1 => k_is)
    (case l1 => k_is)
    (case c1 => k_is)
    (case k1 => k_is)
    (case a2 => k_is)
    (case l2 => k_is)
    (case c2 => k_is)
    (case k2 => k_is)
    (case a3 => k_is)
    (case l3 => k_is)
    (case c3 => k_is)
    (case k3 => k_is)
    (case a4 => k_is)
    (case l4 => k_is)
    (case c4 => k_is)
    (case k4 => k_is)
    (case a5 => k_is)
    (case l5 => k_is)
    (case c5 => k_is)
    (case k5 => k_is)
    (case a6 => k_is)
    (case l6 => k_is)
    (case c6 => k_is)
    (case k6 => k_is)
    (case a7 => k_is)
    (case l7 => k_is)
    (case c7 => k_is)
    (case k7 => k_is)
    (case a8 => k_is)
    (case l8 => k_is)
    (case c8 => k_is)
    (case k8 => k_is)
    (case a9 => k_is)
    (case l9 => k_is)
    (case c9 => k_is)
    (case k9 => k_is)
    (case a10 => k_is)
    (case l10 => k_is)
    (case c10 => k_is)
    (case k10 => k_is)
    (case a11 => k_is)
    (case l11 => k_is)
    (case c11 => k_is)
    (case k11 => k_is)
    (case a12 => k_is)
    (case l12 => k_is)
    (case c12 => k_is)
    (case k12 => k_is)
    (case a13 => k_is)
    (case l13 => k_is)
    (case c13 => k_is)
    (case k13 => k_is)
    (case a14 => k_is)
    (case l14 => k_is)
    (case c14 => k_is)
    (case k14 => k_is)
    (case a15 => k_is)
    (case l15 => k_is)
    (case c15 => k_is)
    (case k15 => k_is)
    (case a16 => k_is)
    (case l16 => k_is)
    (case c16 => k_is)
    (case k16 => k_is)
    (case a17 => k_is)
    (case l17 => k_is)
    (case c17 => k_is)
    (case k17 => k_is)
    (case a18 => k_is)
    (case l18 => k_is)
    (case c18 => k_is)
    (case k18 => k_is)
    (case a19 => k_is)
    (case l19 => k_is)
    (case c19 => k_is)
    (case k19 => k_is)
    (case a20 => k_is)
    (case l20 => k_is)
    (case c20 => k_is)
    (case k20 => k_is)
    (case a21 => k_is)
    (case l21 => k_is)
    (case c21 => k_is)
    (case k21 => k_is)
    (case a22 => k_is)
    (case l22 => k_is)
    (case c22 => k_is)
    (case k22 => k_is)
    (case a23 => k_is)
    (case l23 => k_is)
    (case c23 => k_is)
    (case k23 => k_is)
    (case a24 => k_is)
    (case l24 => k_is)
    (case c24 => k_is)
    (case k24 => k_is)
    (case a25 => k_is)
    (case l25 => k_is)
    (case c25 => k_is)
    (case k25 => k_is)
    (case am0 => k_is)
    (case im0 => k_is)
    (case lm0 => k_is)
    (case cm0 => k_is)
    (case km0 => k_is)
    (case am1 => k_is)
    (case im1 => k_is)
    (case lm1 => k_is)
    (case cm1 => k_is)
    (case km1 => k_is)
    (case am2 => k_is)
    (case im2 => k_is)
    (case lm2 => k_is)
    (case cm2 => k_is)
    (case km2 => k_is)
    (case am3 => k_is)
    (case im3 => k_is)
    (case lm3 => k_is)
    (case cm3 => k_is)
    (case km3 => k_is)
    (case am4 => k_is)
    (case im4 => k_is)
    (case lm4 => k_is)
    (case cm4 => k_is)
    (case km4 => k_is)
    (case tim4 => k_is)
    (case am5 => k_is)
    (case im5 => k_is)
    (case lm5 => k_is)
    (case cm5 => k_is)
    (case km5 => k_is)
    (case tim5 => k_is)
    (case am6 => k_is)
    (case im6 => k_is)
    (case lm6 => k_is)
    (case cm6 => k_is)
    (case km6 => k_is)
    (case tim6 => k_is)
    (case rpg => k_is)
    (case rhd => k_is)
    (case rpo => k_is)
    (case rsa => k_is)
    (case rmk => k_is)
    (case rkc => k_is)
    (case rn1 => k_is)
    (case rn2 => k_is)
    (case rn3 => k_is)
    (case rn4 => k_is)
    (case rha => k_is)
    (case rhn => k_is)
    (case rht => k_is)
    (case rhm => k_is)
    (case z_int => k_is)
    (case z_len => k_is)
    (case z_abs => k_is)
    (case z_list => k_is)
    (case z_tuple => k_is)
    (case z_bool => k_is)
    (case z_range => k_is)
    (case z_sum => k_is)
    (case z_max => k_is)
    (case z_all => k_is)
    (case z_any => k_is)
    (case z_sorted => k_is)
    (case z_enumerate => k_is)
    (case z_isinstance => k_is)
    (case g_MOST_LENGTH => k_is)
    (case g_LEAST_BARS => k_is)
    (case g_MOST_BARS => k_is)
    (case xeL => k_is)
    (case rveL => first | (with_reducible rfl) | decide +kernel | k_is)
    (case saeL => k_is)
    (case gaeL => k_is)
    (case ggeL => k_is)
    (case eCeL => k_is)
    (case tCeL => k_is)
    (case kCeL => k_is)
    (case hdeL => k_is)
    (case haeL => k_is)
    (case hmeL => k_is)
    (case nfeL => k_is)
    (case sbeL => k_is)
    (case xeN => k_is)
    (case rveN => first | (with_reducible rfl) | decide +kernel | k_is)
    (case saeN => k_is)
    (case gaeN => k_is)
    (case ggeN => k_is)
    (case eCeN => k_is)
    (case tCeN => k_is)
    (case kCeN => k_is)
    (case hdeN => k_is)
    (case haeN => k_is)
    (case hmeN => k_is)
    (case nfeN => k_is)
    (case sbeN => k_is)
    (case xeT => k_is)
    (case rveT => first | (with_reducible rfl) | decide +kernel | k_is)
    (case saeT => k_is)
    (case gaeT => k_is)
    (case ggeT => k_is)
    (case eCeT => k_is)
    (case tCeT => k_is)
    (case kCeT => k_is)
    (case hdeT => k_is)
    (case haeT => k_is)
    (case hmeT => k_is)
    (case nfeT => k_is)
    (case sbeT => k_is)
    (case eCeR => k_is)
    (case hdeR => k_is)
    (case tCeR => k_is)
    (case kNL => kit_is)
    (case kTL => kit_is)
    (case kTN => kit_is)
    (case lc => k_is)
    (case hdc => first | rfl | decide +kernel | with_unfolding_all rfl)
    (case nT => exact K.out_of Y (by decide +kernel))
