import PyProof.Rows.All
import Wide.All
import OpenK.AllK
import Wide.FinOn
import HandS.ForMost
import HandS.IsInst
import HandS.Strs
import HandS.ExcInit
import HandS.ExcField
import HandS.ExcIs
import HandS.TryOnly
import HandS.Lambda
import HandS.EndTab
import HandS.Flow
import HandS.SortInts
import HandS.SortRule
import HandS.SortKw
import KE.KTupSum
import HandS.NamedTupSort
import PyProof.P3Eq
import HandS.ReCall
import HandS.OwnEq
import HandS.TupAny
import HandS.Deep
import PyProof.InstNe
import HandS.Evl
import HandS.Walk
import HandS.WordsExc
import HandS.Conv
import HandS.Style
import KE.KExcIs
import KE.KNestM
import PySem.Challenge.RW_ringbars_k05_bars_changed_and_renumbered
set_option Elab.async false
set_option linter.all false
set_option maxRecDepth 100000
set_option maxHeartbeats 4000000
/-! ## rules of our own, for what the rings' program says and the layer has no rule for -/
namespace Rg
open PySem PySem.Spec PyProof.Rows L2

/-! ### f(k = v, ..), oj.m(k = v, ..) -/
section
variable {X : Cx} {CX : CXT} {k : Nat} {f C : Addr} {fd : FuncData} {ps ks : List Str} {sp : Sp} {E : XK} {x m : Str} {p pos apos : Pos} {oj : Expr} {kws : List Keyword} {ta : TE} {tkn : TA}
variable {g : List Value → List Value → List Value} {gV : List V → List V → List V}
theorem pe_callK0 (F : FnOk X.prog X.w X.K X.mg X.base CX k f fd ps sp) (hr : Room k X.A) (hg : Gl X x) (hmm : X.mg x = some (.ref f)) (hk : PySem.W.keepIn X.K (.ref f) = true) (hb : KBinds X.K fd ps ks g gV) (hx : Passes CX X E)
    (hkw : PK X kws tkn) (hall : (backToKw pos (keywordEach kws X.env)).all (·.1.isSome) = true := by rfl) (hks : (backToKw pos (keywordEach kws X.env)).filterMap (·.1) = ks := by rfl)
    (hdb : (x == ("__debug__" : Str)) = false := by decide)
    (hpl : ((backTo pos (starEach [] X.env)).any (·.1) || (backToKw pos (keywordEach kws X.env)).any (·.1.isNone)) = false := by rfl) :
    PE X (.Call (.Name x p) [] kws pos) (tCallK sp gV E tNil tkn) := by
  refine ⟨fun pns s σs Hh Qq Iv h => ?_⟩
  refine wpAny_Call_Name_kw (ld_glob Iv hg hmm ?_ hdb)
  refine PySem.W.callWith_KW0 (h₀ := X.base) Iv.ok.mod.kin hk hall ?_ hpl
  refine thn (hkw.run pos pns s σs Hh _ Iv h) fun kvs2 sh2 ⟨zvs, H2, I2, rlz, q2⟩ => ⟨I2.kIn, ?_⟩
  rw [hks]
  exact run_fnk (us := []) (vs := []) F hr hb hx I2 .nil rlz q2
/-- oj.m(k = v, ..) -/
def tMethK (C : Addr) (m : Str) (sp : Sp) (gV : List V → List V → List V) (E : XK) (ta : TE) (tkn : TA) : TE := fun σs Hh Qq => ta σs Hh fun x H1 => ∃ a dx fs, x = .ref a ∧ H1 a = some (.ins C dx fs) ∧ fs.lookup m = none ∧
  tkn σs H1 fun zvs H2 => sp (gV [.ref a] zvs) H2 Qq E
theorem pe_methK0 {pl : Sem Bool} (he : PE X oj ta) (c : Cls X.K C) (hmm : Meth X.K C m f) (F : FnOk X.prog X.w X.K X.mg X.base CX k f fd ps sp) (hr : Room k X.A) (hb : KBinds X.K fd ps ks g gV) (hx : Passes CX X E)
    (hkw : PK X kws tkn) (hall : (backToKw pos (keywordEach kws X.env)).all (·.1.isSome) = true := by rfl) (hks : (backToKw pos (keywordEach kws X.env)).filterMap (·.1) = ks := by rfl)
    (hpl : ((backTo pos (starEach [] X.env)).any (·.1) || (backToKw pos (keywordEach kws X.env)).any (·.1.isNone)) = false := by rfl)
    (ht : eval (.Call (.Attribute oj m apos) [] kws pos) X.env = (do
      let ov ← eval oj X.env
      standAt apos.atName
      let (f, first) ← holding [ov] (getMethod ov m pl)
      callWith pos f first (backTo pos (starEach [] X.env)) (backToKw pos (keywordEach kws X.env))) := by rfl) :
    PE X (.Call (.Attribute oj m apos) [] kws pos) (tMethK C m sp gV E ta tkn) := by
  refine ⟨fun pns s σs Hh Qq Iv h => ?_⟩
  refine PySem.W.methodCall_KW (pl := pl) (thn (he.run pns s σs Hh _ Iv h) fun u sh1 ⟨x, H1, I1, rlx, a, dx, fs, ex, eqa, l, qq⟩ => ?_) ht
  subst ex
  obtain rfl : u = Value.ref a := rlx
  refine getmeth_ok I1 eqa c hmm l ?_
  refine PySem.W.callWith_KW0 (first := [.ref a]) (h₀ := X.base) Iv.ok.mod.kin hmm.kp hall ?_ hpl
  refine thn (hkw.run pos pns sh1 σs H1 _ I1 qq) fun kvs2 sh2 ⟨zvs, H2, I2, rlz, q2⟩ => ⟨I2.kIn, ?_⟩
  rw [hks]
  exact run_fnk (us := [.ref a]) (vs := [.ref a]) F hr hb hx I2 (.cons rfl .nil) rlz q2
end

/-! ### len(oj), the instance's own __len__ -/
section
variable {X : Cx} {k : Nat} {f : Addr} {fd : FuncData} {sp : Sp}
def rLenO (K : PySem.W.Frag) (f : Addr) (sp : Sp) : List V → Hp → VK → Prop := fun vxs Hh Qq => ∃ a C dx fs, vxs = [.ref a] ∧ Hh a = some (.ins C dx fs) ∧ PySem.W.findIn K (.ref C) "__len__" = some (some (.ref f)) ∧ PySem.W.isFn K (.ref f) = true ∧
  sp [.ref a] Hh (fun v H' => ∃ n : Int, v = .int n ∧ 0 ≤ n ∧ n < 2 ^ 63 ∧ Qq (.int n) H') E0
theorem call_lenO (F : FnOk X.prog X.w X.K X.mg X.base CX0 k f fd ["self"] sp) (hr : Room (k + 1) X.A) (hb : Binds X.K fd ["self"] []) : CallR X (.builtin "len") (rLenO X.K f sp) := by
  intro pns s σs Hh vxs uvs Qq Iv r h
  obtain ⟨a, C, dx, fs, rfl, eqa, hs, hf, qq⟩ := h
  obtain ⟨u, rfl, rlu⟩ := vals1 r
  obtain rfl : u = Value.ref a := rlu
  obtain ⟨mA, O, _, _, _, _⟩ := ins_get Iv.hok eqa
  obtain ⟨m, fr⟩ := Iv.fr
  obtain ⟨od, hod⟩ : ∃ od, s.heap.get? dx = some od := let ⟨oj, _, _, e', _⟩ := O.ns; ⟨oj, e'⟩
  refine PySem.W.len_K fr Iv.ok.mod.kin (ox := PySem.W.instObj C dx) (C := C) (od := some od) ⟨O.obj, rfl, rfl, hod⟩ hs hf ?_
  have hlst : ([Value.ref a] ++ []).length = (["self"] : List Str).length := rfl
  refine wpAny_call (codeAny_mono (F.run X.A.in1 X.stack s Hh ⟨[.ref a], []⟩ [.ref a] [.ref a] _ E0 hr.in1 Iv.env0.in1 (hb s [.ref a] Iv.kIn hlst) (.cons rfl .nil) qq) fun r s' hsq => ?_)
  cases r with
  | error e => exact hsq.elim
  | ok fl =>
    cases fl with
    | ret u =>
      obtain ⟨v, H', I3, rlv, n, ev, h0, hh1, q3⟩ := Iv.after hsq
      subst ev
      obtain ⟨t, rfl⟩ := rlv
      exact ⟨⟨h0, hh1⟩, ⟨.int n, H', I3.tok _, ⟨_, rfl⟩, q3⟩⟩
    | next => exact False.elim hsq
    | brk => exact False.elim hsq
    | cont => exact False.elim hsq
end

/-! ### sum, max of a tuple of ints; vls index -/
section
variable {prog : Program} {w : World} {A : Around} {E : Value → Shared → Prop} {s : Shared} {l : Addr} {vls : List Value} {nms : List Int} {Qq : Value → Shared → Prop}
theorem isTuple_of {h : Heap} (x : IsTup h l vls.toArray) : h.IsTuple l vls.toArray := x
theorem sumT_raw (hcal : A.handled = none) (hlst : s.heap.IsTuple l vls.toArray) (hint : IntsAre vls nms)
    (h : ∀ h' tkn t', (∀ b oj, s.heap.get? b = some oj → h'.get? b = some oj) → Qq (.int nms.sum t') { s with heap := h', toks := tkn }) : wpAny (model prog w) A (call (.builtin "sum") [.ref l]) Qq E s := by
  obtain ⟨vxs, e⟩ := hint.allInts.items
  have hnn : numsOf (intItems vxs).toList = nms := by rw [← e]; exact hint.numsOf
  rw [nums_intItems] at hnn
  rw [e] at hlst
  refine PySem.W.ktm_sumG hcal hlst fun h' tkn t' hk => ?_
  have := h h' tkn t' hk
  rw [preSum_eq, List.take_of_length_le (by simp), hnn]; exact this
end
section
variable {X : Cx}
def rSumT (K : PySem.W.Frag) : List V → Hp → VK → Prop := fun vs Hh Qq => ∃ (a : Addr) (nms : List Int), vs = [V.ref a] ∧ SqT K Hh a (nms.map V.int) ∧ Qq (.int nms.sum) Hh
theorem cr_sumT (hc : X.calm = true) : CallR X (.builtin "sum") (rSumT X.K) := by
  intro pns s σs Hh vs uvs Qq Iv r h
  obtain ⟨a, nms, rfl, hs, qq⟩ := h
  obtain ⟨vls, rlv, hlst, _⟩ := Iv.tuple hs
  rw [Vals.ref1 r]
  exact sumT_raw (Iv.ok.hd hc) (isTuple_of hlst) rlv.ints fun h' tkn t' hk => ⟨.int _, Hh, Iv.kept hk, ⟨_, rfl⟩, qq⟩
end
end Rg
namespace Rg
open PySem PySem.Spec PyProof.Rows L2
/-! ### max of a tuple of ints, vls index, isinstance of a caught error with fields -/
section
variable {prog : Program} {w : World} {A : Around} {E : Value → Shared → Prop} {s : Shared} {l : Addr} {vls : List Value} {nms : List Int} {Qq : Value → Shared → Prop}
theorem max_intTup {vxs : Array (Int × Tok)} (hcal : A.handled = none) (ht : s.heap.IsTuple l (intItems vxs)) (hpos : 0 < vxs.size)
    (h : ∀ v h' tkn, (intItems vxs)[argBest (fun i j => decide (numAt vxs i > numAt vxs j)) (vxs.size - 1)]? = some v → (∀ b oj, s.heap.get? b = some oj → h'.get? b = some oj) → Qq v { s with heap := h', toks := tkn }) :
    wpAny (model prog w) A (call (.builtin "max") [.ref l]) Qq E s := by
  obtain ⟨oj, hob, hc, n, hd⟩ := id ht
  have hI : l ≠ s.heap.objs.size := Nat.ne_of_lt (Heap.lt_size hob)
  refine call_max_walk (wpAny_pyIter_tuple ht ?_)
  refine ⟨s.heap.objs.size, _, _, _, _, _, _, rfl, Walks.tuple (A := A.in1) hcal _ l hI (intItems vxs), ⟨⟨_, Heap.get?_push_size _ rfl, rfl, rfl⟩, ht.at fun oj e => Heap.get?_push_of_some _ e⟩, fun b hb => ?_, by simpa [intItems] using hpos, CmpOf.ints_gt (numAt vxs) (fun _ _ => intItems_at), fun v h' tkn hP hk => ?_⟩
  · rcases List.mem_cons.mp hb with rfl | hb
    · exact Heap.lt_size (Heap.get?_push_size _ rfl)
    · obtain rfl := List.mem_singleton.mp hb
      exact Heap.lt_size (Heap.get?_push_of_some _ hob)
  · refine h v h' tkn (by simpa [intItems] using hP) fun b oj e => ?_
    exact hk b oj (fun hb => absurd (Heap.lt_size e) ((List.mem_singleton.mp hb) ▸ Nat.lt_irrefl _)) (Heap.get?_push_of_some _ e)
theorem maxT_raw (hcal : A.handled = none) (hlst : s.heap.IsTuple l vls.toArray) (hint : IntsAre vls nms) (hpos : 0 < nms.length)
    (h : ∀ h' tkn M t', (∀ b oj, s.heap.get? b = some oj → h'.get? b = some oj) → M ∈ nms → (∀ a, a ∈ nms → a ≤ M) → Qq (.int M t') { s with heap := h', toks := tkn }) : wpAny (model prog w) A (call (.builtin "max") [.ref l]) Qq E s := by
  obtain ⟨vxs, e⟩ := hint.allInts.items
  have hnn : numsOf (intItems vxs).toList = nms := by rw [← e]; exact hint.numsOf
  rw [nums_intItems] at hnn
  subst hnn
  rw [e] at hlst
  have hsz : 0 < vxs.size := by simpa using hpos
  refine max_intTup hcal hlst hsz fun v h' tkn hval hk => ?_
  obtain ⟨t, rfl⟩ := intItems_at hval
  obtain ⟨hh1, hh2⟩ := argBest_gt (numAt vxs) (vxs.size - 1)
  refine h h' tkn _ t hk ?_ fun a ha => ?_
  · rw [numAt_eq]; exact PySem.getD_mem (by rw [List.length_map, Array.length_toList]; omega)
  · obtain ⟨j, hjj, rfl⟩ := mem_getD ha
    rw [List.length_map, Array.length_toList] at hjj
    rw [← numAt_eq]; exact hh2 j (by omega)
end
section
variable {X : Cx}
def rMaxT (K : PySem.W.Frag) : List V → Hp → VK → Prop := fun vs Hh Qq => ∃ (a : Addr) (nms : List Int), vs = [V.ref a] ∧ SqT K Hh a (nms.map V.int) ∧ 0 < nms.length ∧ ∀ m, m ∈ nms → (∀ y, y ∈ nms → y ≤ m) → Qq (.int m) Hh
theorem cr_maxT (hc : X.calm = true) : CallR X (.builtin "max") (rMaxT X.K) := by
  intro pns s σs Hh vs uvs Qq Iv r h
  obtain ⟨a, nms, rfl, hs, hpos, qq⟩ := h
  obtain ⟨vls, rlv, hlst, _⟩ := Iv.tuple hs
  rw [Vals.ref1 r]
  exact maxT_raw (Iv.ok.hd hc) (isTuple_of hlst) rlv.ints hpos fun h' tkn m t' hk hh1 hh2 => ⟨.int _, Hh, Iv.kept hk, ⟨_, rfl⟩, qq m hh1 hh2⟩
theorem flat_ints (yms : List Int) : (yms.map V.int).all flatV = true := by
  rw [List.all_map]
  exact List.all_eq_true.mpr fun _ _ => rfl
def rTIdx (K : PySem.W.Frag) : V → List V → Hp → VK → Prop := fun x vxs Hh Qq => ∃ (p : Addr) (yms : List Int) (z : Int) (j : Nat), x = .ref p ∧ vxs = [.int z] ∧ SqT K Hh p (yms.map V.int) ∧ yms[j]? = some z ∧ (∀ m, m < j → yms[m]? ≠ some z) ∧ Qq (.int (j : Nat)) Hh
theorem mt_tupIdx : MtR X "tuple.index" (rTIdx X.K) := by
  intro pns s σs Hh x vxs v uvs Qq Iv rlx rs h
  obtain ⟨p, yms, z, j, rfl, rfl, hsq, hatj, hnot, qq⟩ := h
  cases rlx
  obtain ⟨u, rfl, t, rfl⟩ := vals1 rs
  obtain ⟨vls, r, pl, hszz⟩ := Iv.tuple hsq
  obtain ⟨⟨cls, dct, dta, slt⟩, hob, hc, n, hd⟩ := pl
  simp only at hc hd
  subst hc
  subst hd
  have hlst : vls.toArray.size = yms.length := by rw [List.size_toArray, ← r.length, List.length_map]
  have hjj : j < vls.toArray.size := by rw [hlst]; exact (List.getElem?_eq_some_iff.mp hatj).1
  have at' : ∀ (m : Nat) (hmm : m < vls.toArray.size), ∃ y t', yms[m]? = some y ∧ vls.toArray[m] = Value.int y t' := fun m hmm => by
    have hm' : m < yms.length := by rw [← hlst]; exact hmm
    obtain ⟨w, hwv, t', hw'⟩ := r.get (i := m) (x := .int yms[m]) (by simp [hm'])
    refine ⟨yms[m], t', List.getElem?_eq_getElem hm', ?_⟩
    have e := (List.getElem?_eq_some_iff.mp hwv).2
    rw [← hw', ← e]
    simp
  refine call_meets PySem.F.slot_tuple_index ⟨_, hob, rfl⟩ PySem.F.entry_tuple_index (PySem.F.args_tuple_index_2 _ _) (TI.tuple_indexAt p vls.toArray n dct slt (.int z t) (eqU (.int z)) j hjj ?_ ?_)
    ⟨hob, fun w hwv => mem_eqAt (x := .int z) ⟨t, rfl⟩ rfl r (flat_ints yms) w (by simpa using hwv), ⟨.int (j : Nat), Hh, Iv.tok _, ⟨_, rfl⟩, qq⟩⟩
  · obtain ⟨y, t', hh1, hh2⟩ := at' j hjj
    rw [hatj] at hh1
    cases hh1
    rw [hh2]
    simp [eqU, eqV]
  · intro m hmm hlt
    obtain ⟨y, t', hh1, hh2⟩ := at' m hmm
    rw [hh2]
    have : y ≠ z := fun e => hnot m hlt (by rw [hh1, e])
    simp [eqU, eqV, this]
end
/-! isinstance(e, c), e the exception that the suite holds, with vls dict -/
def rIsED (K : PySem.W.Frag) (D a : Addr) : List V → Hp → VK → Prop := fun vxs Hh Qq => ∃ (c : V) (cv : Value) (b : Bool), vxs = [.ref a, c] ∧ (∀ u, RelV c u → u = cv) ∧ PySem.W.kitOne K (.ref D) cv = some b ∧ Qq (.bl b) Hh
end Rg
namespace Rg
open PySem PySem.Spec PyProof.Rows L2 SrtO
/-! ### sorted(t), t a tuple -/
section
variable {prog : Program} {w : World} {A : Around} {E : Value → Shared → Prop} {s : Shared} {l : Addr} {vs : List Value}
/-- the heap behind the collecting -/
abbrev colHeap (h : Heap) (vs : List Value) : Heap := (h.push (seqObj "list" #[] 0)).update h.objs.size (Obj.mapSeq (· ++ vs.toArray))
theorem col_tup {Qq : List Value → Shared → Prop} (hlst : s.heap.IsTuple l vs.toArray) (hszz : vs.length ≤ sizeLine) (h : Qq vs { s with heap := colHeap s.heap vs }) : wpAny (model prog w) A (collect (.ref l)) Qq E s := by
  obtain ⟨oj, hob, hc, n, hd⟩ := hlst
  have hnew : (s.heap.push (seqObj "list" #[] 0)).get? s.heap.objs.size = some (seqObj "list" #[] 0) := Heap.get?_push_size _ rfl
  have hold : (s.heap.push (seqObj "list" #[] 0)).get? l = some oj := Heap.get?_push_of_some _ hob
  have tt : (Value.type "tuple" == Value.type "tuple") = true := by rfl
  unfold collect
  refine wpAny_bind (wpAny_runValue (codeAny_builtin entry_proto_collect' ?_))
  show wpAny _ _ (do again (.builtin "list.__iadd__" ⟨[← newList [], .ref l], []⟩)) _ _ s
  refine wpAny_bind (wpAny_newList (wpAny_pure ⟨Code.quiet_builtin _ (by decide +kernel), codeAny_builtin entry_list_iadd' ?_⟩))
  show wpAny _ _ (Builtin.List.listExtendWith (.ref s.heap.objs.size) (.ref l) (.ref s.heap.objs.size)) _ _ { s with heap := s.heap.push (seqObj "list" #[] 0) }
  unfold Builtin.List.listExtendWith
  refine wpAny_bind (wpAny_typeOf (T := "tuple") ⟨oj, hold, hc⟩ ?_)
  rw [if_pos (by rw [tt]; simp)]
  refine wpAny_bind (listItems_at hold hd (wpAny_bind (listItems_at (xs := #[]) (n := 0) hnew rfl ?_)))
  rw [if_neg (by simp)]
  refine wpAny_bind (listUpdate_at (xs := #[]) (n := 0) hnew rfl (wpAny_pure ?_) (Nat.zero_le _) (by show (#[] ++ vs.toArray).size ≤ sizeLine + 1; simp only [Array.size_append, List.size_toArray, List.length_nil]; omega))
  show wpAny (model prog w) A (do
      let oj ← load s.heap.objs.size
      match oj.data with
      | .seq vxs _ => pure vxs.toList
      | _ => unsupported "internal:collect") Qq E { s with heap := colHeap s.heap vs }
  refine wpAny_bind (wpAny_load (get?_update_seq hnew _) ?_)
  show wpAny _ _ (pure ((#[] : Array Value) ++ vs.toArray).toList) Qq E _
  have e : ((#[] : Array Value) ++ vs.toArray).toList = vs := by simp
  rw [e]
  exact wpAny_pure h
theorem sorted_tup {ltv : Value → Value → Bool} {Qq : Value → Shared → Prop} (O : Swo ltv) (hlst : s.heap.IsTuple l vs.toArray) (hszz : vs.length ≤ sizeLine)
    (hS : 2 ≤ vs.length → ∀ (h₁ : Heap) (a : Addr), h₁.get? a = some (seqObj "list" vs.toArray 0) → (∀ b oj, s.heap.get? b = some oj → b ≠ a ∧ h₁.get? b = some oj) → SortableO prog w A.in1.in1 { s with heap := h₁ } a vs ltv)
    (h : ∀ out : List Value, Srtd ltv out → Stb ltv out vs → Qq (.ref (s.heap.objs.size + 1)) { s with heap := sortedAll s.heap vs out.toArray }) : wpAny (model prog w) A (call (.builtin "sorted") [.ref l]) Qq E s := by
  have size1 : (colHeap s.heap vs).objs.size = s.heap.objs.size + 1 := by rw [Heap.size_update, size_push']
  have at1 : ((colHeap s.heap vs).push (seqObj "list" vs.toArray 0)).get? (s.heap.objs.size + 1) = some (seqObj "list" vs.toArray 0) := size1 ▸ Heap.get?_push_size (colHeap s.heap vs) rfl
  have old : ∀ b oj, s.heap.get? b = some oj → b ≠ s.heap.objs.size + 1 ∧ ((colHeap s.heap vs).push (seqObj "list" vs.toArray 0)).get? b = some oj := fun b oj qq => by
    have lt : b < s.heap.objs.size := Heap.lt_size qq
    exact ⟨Nat.ne_of_lt (Nat.lt_succ_of_lt lt), Heap.get?_push_of_some _ ((Heap.get?_update_ne _ _ _ _ (Nat.ne_of_lt lt)).trans (Heap.get?_push_of_some _ qq))⟩
  refine Calls.call_function_entry kind_sorted plain_sorted entry_sorted (args_sorted1 _) ?_
  unfold Builtin.«sorted»
  refine wpAny_bind (m := checkCount "sorted" 1 1 _) (wpAny_pure (wpAny_bind (col_tup hlst hszz (wpAny_bind (wpAny_newList ?_ hszz)))))
  show wpAny _ _ _ _ _ { s with heap := (colHeap s.heap vs).push (seqObj "list" vs.toArray 0) }
  rw [size1]
  exact wpAny_bind (wpAny_holding (wpAny_call_entry slot_list_sort ⟨_, at1, rfl⟩ entry_list_sort (list_sort_ord O at1 hszz (fun hh2 => hS hh2 _ _ at1 old) fun out hs hb => ⟨_, rfl, wpAny_pure ⟨_, rfl, h out hs hb⟩⟩) (args_list_sort _)))
end
section
variable {X : Cx}
def rSortedT (K : PySem.W.Frag) : List V → Hp → VK → Prop := fun vs Hh Qq => ∃ (a : Addr) (nms : List Int), vs = [V.ref a] ∧ SqT K Hh a (nms.map V.int) ∧
  ∀ (ns' : List Int) (p : Addr), ns'.Perm nms → ns'.Pairwise (· ≤ ·) → Hh p = none → Qq (.ref p) (upd Hh p (.lst (ns'.map V.int)))
theorem cr_sortedT : CallR X (.builtin "sorted") (rSortedT X.K) := by
  intro pns s σs Hh vs uvs Qq Iv r h
  obtain ⟨a, nms, rfl, hs, qq⟩ := h
  obtain ⟨vls, rlv, hlst, hszz⟩ := Iv.tuple hs
  have hint := rlv.ints
  rw [List.length_map] at hszz
  rw [Vals.ref1 r]
  refine sorted_tup swo_int (isTuple_of hlst) (by rw [hint.length]; exact hszz) (fun hh2 h₁ a' _ _ => ints_sortable hint hh2) fun out hh1 hh2 => ?_
  obtain ⟨k1, k2, k3⟩ := ints_out hint hh1 hh2
  obtain ⟨ep, he'⟩ := PyProof.Rows.sortedAll_at s.heap vls out.toArray
  exact ⟨.ref _, upd Hh (s.heap.objs.size + 1) (.lst ((out.map iv).map V.int)), Iv.laid (t' := s.toks) (fun _ _ => PyProof.Rows.sortedAll_old) (Nat.le_succ _) ⟨by rw [List.length_map, k2.length_eq]; exact hszz, out, ep, vals_of_ints k1, he'⟩, rfl, qq _ _ k2 k3 (Iv.hok.fresh (Nat.le_succ _))⟩
end
end Rg
namespace Rg
open PySem PySem.Spec PyProof.Rows L2 SrtO
/-! ### sorted(vxs), vxs a list of pairs (k, t): k an int, t a tuple of ints -/
/-- at v a pair of x and a tuple of the ints nms -/
def Nest (h : Heap) (v : Value) (x : Int) (nms : List Int) : Prop := ∃ (a b : Addr) (oj : Obj) (t : Tok) (n : Nat) (vls : List Value), v = .ref a ∧ h.get? a = some oj ∧ oj.cls = .type "tuple" ∧ oj.data = .seq #[.int x t, .ref b] n ∧ IsTup h b vls.toArray ∧ IntsAre vls nms
theorem Nest.kept {h h' : Heap} {v : Value} {x : Int} {nms : List Int} (p : Nest h v x nms) (k : ∀ b oj, h.get? b = some oj → oj.cls = .type "tuple" → h'.get? b = some oj) : Nest h' v x nms := by
  obtain ⟨a, b, oj, t, n, vls, e, hob, hc, hd, ⟨ob, hb, hbc, hbd⟩, hint⟩ := p
  exact ⟨a, b, oj, t, n, vls, e, k _ _ hob hc, hc, hd, ⟨ob, k _ _ hb hbc, hbc, hbd⟩, hint⟩
theorem reads_ints {h : Heap} : ∀ {vs : List Value} {nms : List Int}, IntsAre vs nms → ∃ as, ReadsAll h vs (nms.map PyData.int) as
  | _, _, .nil => ⟨_, .nil⟩
  | _, _, .cons i t r => by
    obtain ⟨as, qq⟩ := reads_ints (h := h) r
    exact ⟨_, .cons (.int i t) qq⟩
theorem eqvA_ints : ∀ vxs yms : List Int, PyData.eqvAll (vxs.map PyData.int) (yms.map PyData.int) = decide (vxs = yms)
  | [], [] => by simp [PyData.eqvAll]
  | [], y :: yms => by simp [PyData.eqvAll]
  | x :: vxs, [] => by simp [PyData.eqvAll]
  | x :: vxs, y :: yms => by
    simp only [List.map_cons, PyData.eqvAll, eqvA_ints vxs yms, PyData.eqv]
    by_cases e : x = y <;> by_cases f : vxs = yms <;> simp [e, f]
theorem layA_ints : ∀ l : List Int, PyData.canLayAll0 (l.map PyData.int) = true
  | [] => by simp [PyData.canLayAll0]
  | i :: l => by simp [PyData.canLayAll0, PyData.canLay0, layA_ints l]
theorem depA_ints : ∀ l : List Int, PyData.depthAll (l.map PyData.int) = 0
  | [] => by simp [PyData.depthAll]
  | i :: l => by simp [PyData.depthAll, PyData.depth, depA_ints l]
theorem lex_self : ∀ l : List Int, HT.lexLt l l = false
  | [] => rfl
  | x :: l => by rw [HT.lexLt_cons, if_pos rfl]; exact lex_self l
section
variable {prog : Program} {w : World} {A : Around} {E : Value → Shared → Prop} {s : Shared}
theorem eq_tupInts {b c : Addr} {vls jts : List Value} {nms ms : List Int} (hb : IsTup s.heap b vls.toArray) (hc : IsTup s.heap c jts.toArray) (hint : IntsAre vls nms) (hjj : IntsAre jts ms) (hu : A.units + 1 < cLine) :
    SeqAt.EqAt A s (.ref b) (.ref c) (decide (nms = ms)) := by
  obtain ⟨o1, hh1, c1, n1, d1⟩ := hb
  obtain ⟨o2, hh2, c2, n2, d2⟩ := hc
  obtain ⟨as, r1⟩ := reads_ints (h := s.heap) hint
  obtain ⟨bs, r2⟩ := reads_ints (h := s.heap) hjj
  have qq := SeqAt.eqAt_reads (.tuple (nms.map PyData.int)) (.tuple (ms.map PyData.int)) A s (.ref b) (.ref c) _ _ (Reads.tuple hh1 c1 d1 r1) (Reads.tuple hh2 c2 d2 r2) (by simp only [PyData.canLay0]; exact layA_ints nms) (by simp only [PyData.canLay0]; exact layA_ints ms)
    (by simp only [PyData.depth, depA_ints]; omega)
  have e : PyData.eqv (.tuple (nms.map PyData.int)) (.tuple (ms.map PyData.int)) = decide (nms = ms) := by
    simp only [PyData.eqv]
    exact eqvA_ints nms ms
  rwa [e] at qq
theorem nest_cmp {vs : List Value} {k : Value → Int × List Int} (hp : ∀ v ∈ vs, Nest s.heap v (k v).1 (k v).2) (hu : A.units + 1 < cLine) :
    SrtO.Cmp prog w A s (tuples' true) (fun p => p.1 ∈ vs) (lt2 fun v u => HT.lexLt ((k v).1 :: (k v).2) ((k u).1 :: (k u).2)) := by
  intro p qq hmm hm'
  have hh1 := hp _ hmm
  have hh2 := hp _ hm'
  show wpAny (model prog w) A (keyLt' (tuples' true) p.1 qq.1) (fun r s' => s' = s ∧ r = HT.lexLt ((k p.1).1 :: (k p.1).2) ((k qq.1).1 :: (k qq.1).2)) (fun _ _ => False) s
  generalize (k p.1).1 = x at hh1 ⊢
  generalize (k p.1).2 = nms at hh1 ⊢
  generalize (k qq.1).1 = y at hh2 ⊢
  generalize (k qq.1).2 = ms at hh2 ⊢
  obtain ⟨a, b, oj, t, n, vls, e, hob, hc, hd, hb, hint⟩ := hh1
  obtain ⟨a', b', o', t', n', its', e', ho', hc', hd', hb', hi'⟩ := hh2
  rw [e, e', HT.lexLt_cons]
  refine PySem.W.kat_lt hob hd ho' hd' ?_
  show PySem.W.KatLex prog w A true (decide (2 < 2)) _ [(.int x t, .int y t'), (.ref b, .ref b')] 0 s
  refine PySem.W.kat_cons (SeqAt.EqAt.int_int x t y t' prog w _ _ (PySem.W.kat_go (fun e1 => PySem.W.kat_yes (PySem.W.kat_cons (eq_tupInts hb hb' hint hi' hu prog w _ _ (PySem.W.kat_go (fun ee2 => ?_) (fun ee2 => ?_))))) (fun e1 => ?_)))
  · have ex : x = y := by simpa using e1
    have ey : nms = ms := of_decide_eq_true ee2
    refine PySem.W.kat_yes (PySem.W.kat_nil ⟨rfl, ?_⟩)
    rw [if_pos ex, ey, lex_self]
    rfl
  · have ex : x = y := by simpa using e1
    rw [if_pos ex]
    exact PySem.W.kat_no (PySem.W.kat_one _ _ (HT.lt_tupInts hb hb' hint hi' (by omega) ⟨rfl, rfl⟩))
  · have ex : ¬ x = y := by simpa using e1
    rw [if_neg ex]
    exact PySem.W.kat_no (oneLt_int ⟨rfl, rfl⟩)
theorem nest_firsts {h : Heap} {k : Value → Int × List Int} : ∀ {vs : List Value}, (∀ v ∈ vs, Nest h v (k v).1 (k v).2) → ∃ fs : List Value, PySem.W.KatTups h vs fs ∧ fs.length = vs.length ∧ ∀ f ∈ fs, ∃ x t, f = Value.int x t
  | [], _ => ⟨[], PySem.W.KatTups.nil, rfl, fun _ z => nomatch z⟩
  | v :: vs, hp => by
    obtain ⟨fs, q1, q2, q3⟩ := nest_firsts fun v' z => hp v' (List.mem_cons_of_mem _ z)
    obtain ⟨a, b, oj, t, n, vls, e, hob, hc, hd, _⟩ := hp v (List.mem_cons_self ..)
    rw [e]
    refine ⟨.int _ t :: fs, PySem.W.KatTups.cons hob hc hd rfl q1, congrArg (· + 1) q2, fun f z => ?_⟩
    rcases List.mem_cons.mp z with z | z
    · exact ⟨_, t, z⟩
    · exact q3 f z
theorem nest_sortable {a : Addr} {vs : List Value} {k : Value → Int × List Int} (h0 : 0 < vs.length) (hu : A.units + 1 < cLine) (hp : ∀ v ∈ vs, Nest s.heap v (k v).1 (k v).2) (ha : ∀ oj, s.heap.get? a = some oj → oj.cls ≠ .type "tuple") :
    SortableO prog w A s a vs fun v u => HT.lexLt ((k v).1 :: (k v).2) ((k u).1 :: (k u).2) := by
  intro h' keep
  have hp' : ∀ v ∈ vs, Nest h' v (k v).1 (k v).2 := fun v z => (hp v z).kept fun b oj e c => keep b oj (fun z => ha oj (z ▸ e) c) e
  obtain ⟨fs, q1, q2, q3⟩ := nest_firsts hp'
  refine ⟨tuples' true, fun Qq E hsq => PySem.W.kat_kind (T := .type "int") q1 (by omega) (fun f z => ?_) (by rfl) ?_, nest_cmp hp' hu⟩
  · obtain ⟨x, t, e⟩ := q3 f z
    rw [e]
    exact PySem.W.Looks.now
  · rw [show (Value.type "int" != Value.type "tuple") = true by decide +kernel]
    exact hsq
end
section
variable {X : Cx}
/-- k says what stands at each item -/
def rSortedN (K : PySem.W.Frag) : List V → Hp → VK → Prop := fun vs Hh Qq => ∃ (a : Addr) (vxs : List V) (k : V → Int × List Int), vs = [V.ref a] ∧ SqL K Hh a vxs ∧ (∀ x ∈ vxs, ∃ t b, x = V.ref t ∧ Hh t = some (.tup [.int (k x).1, .ref b]) ∧ Hh b = some (.tup ((k x).2.map V.int))) ∧
  ∀ yms p, Srtd (fun v u => HT.lexLt ((k v).1 :: (k v).2) ((k u).1 :: (k u).2)) yms → yms.Perm vxs → Hh p = none → Qq (.ref p) (upd Hh p (.lst yms))
theorem cr_sortedN (hu : X.A.units + 64 < cLine) : CallR X (.builtin "sorted") (rSortedN X.K) := by
  intro pns s σs Hh vs uvs Qq Iv r h
  obtain ⟨a, vxs, k, rfl, hs, hx, qq⟩ := h
  obtain ⟨vls, rlv, hlst, hszz⟩ := Iv.list hs
  rw [Vals.ref1 r]
  obtain ⟨e1, ee2⟩ := refs_back rlv fun x m => let ⟨t, _, e, _⟩ := hx x m; ⟨t, e⟩
  have nst : ∀ v ∈ vls, Nest s.heap v (k (backV v)).1 (k (backV v)).2 := fun v hval => by
    obtain ⟨t, rfl⟩ := ee2 v hval
    obtain ⟨t', b, et, hh1, hh2⟩ := hx (V.ref t) (by rw [e1]; exact List.mem_map.mpr ⟨_, hval, rfl⟩)
    cases et
    obtain ⟨_, jts, r2, oj, hob, hc, n, hd⟩ := Iv.hok _ _ hh1
    obtain ⟨u1, u2, rfl, ⟨t1, rfl⟩, r3⟩ := vals2 r2
    obtain rfl : u2 = Value.ref b := r3
    obtain ⟨_, kts, r4, p4⟩ := Iv.hok _ _ hh2
    exact ⟨t, b, oj, t1, n, kts, rfl, hob, hc, hd, p4, r4.ints⟩
  refine sorted_ord (NtL.swo_lexL fun u : Value => (k (backV u)).1 :: (k (backV u)).2) hlst.isList (by rw [← rlv.length]; exact hszz) (fun hh2 h₁ a' ha kk => ?_) fun out hh1 hh2 => ?_
  · refine nest_sortable (s := { s with heap := h₁ }) (k := fun u => k (backV u)) (by omega) (show X.A.units + 1 + 1 + 1 < cLine by omega) (fun v hval => (nst v hval).kept fun b oj e _ => (kk b oj e).2) fun oj e c => ?_
    cases e.symm.trans ha
    exact absurd (Value.type.inj c) (by decide)
  · have h3 : ∀ u ∈ out, ∃ a, u = Value.ref a := fun u hu => ee2 u (hh2.perm.mem_iff.mp hu)
    have hp : (out.map backV).Perm vxs := by rw [e1]; exact hh2.perm.map backV
    obtain ⟨n, hnn⟩ := PyProof.Rows.sortedAll_at s.heap vls out.toArray
    exact ⟨.ref _, upd Hh (s.heap.objs.size + 1) (.lst (out.map backV)), Iv.laid (t' := s.toks) (fun _ _ => PyProof.Rows.sortedAll_old) (Nat.le_succ _) ⟨by rw [hp.length_eq]; exact hszz, out, n, vals_back h3, hnn⟩, rfl,
      qq _ _ (List.pairwise_map.mpr hh1) hp (Iv.hok.fresh (Nat.le_succ _))⟩
end
end Rg
namespace Rg
open PySem PySem.Spec PyProof.Rows L2
/-! tuple(list), whose object is known to have no dict: so that vls methods can be called -/
section
variable {X : Cx}
def rTupF (K : PySem.W.Frag) : List V → Hp → VK → Prop := fun vxs Hh Qq => ∃ p yms, vxs = [V.ref p] ∧ SqL K Hh p yms ∧ ∀ l oj, Hh l = none → oj.dict = none → Qq (.ref l) (upd Hh l (.frz oj (.tup yms)))
theorem cr_tupF : CallR X (.type "tuple") (rTupF X.K) := by
  intro pns s σs Hh vxs uvs Qq Iv r ⟨p, yms, e, hsq, qq⟩
  subst e
  obtain ⟨u, rfl, rlx⟩ := vals1 r
  cases rlx
  obtain ⟨vls, rlv, pl, sz⟩ := Iv.list hsq
  have hnn := rlv.length
  refine call_tuple_list pl.isList (fun hh1 kp => ?_) (by rw [List.size_toArray]; omega)
  have J : Inv X pns σs Hh { s with heap := hh1 } := Iv.kept (t' := s.toks) kp
  have J2 : Inv X pns σs (upd Hh hh1.objs.size (.frz { cls := .type "tuple", data := .seq vls.toArray } (.tup yms))) { s with heap := hh1.push { cls := .type "tuple", data := .seq vls.toArray } } :=
    J.laid (t' := s.toks) (fun b oj e => Heap.get?_push_of_some _ e) (Nat.le_refl _)
      (show ObjOk X.prog X.w _ _ _ (.frz _ (.tup yms)) from ⟨Heap.get?_push_size _ rfl, sz, vls, rlv, IsTup.new _ _⟩)
  exact ⟨.ref hh1.objs.size, _, J2, rfl, qq _ _ (J.hok.fresh (Nat.le_refl _)) rfl⟩
def tyTF (x : V) (Hh : Hp) : Prop := ∃ a oj yms, x = .ref a ∧ Hh a = some (.frz oj (.tup yms)) ∧ oj.dict = none
theorem ty_tf : TyOk X "tuple" tyTF := by
  intro pns σs Hh s x v Iv r ⟨a, oj, yms, e, h, hd⟩
  subst e
  cases r
  obtain ⟨e, _, vls, _, o2, ee2, hc, _⟩ := (show ObjOk X.prog X.w Hh s.heap a (.frz oj (.tup yms)) from Iv.hok a _ h)
  refine ⟨⟨_, ee2, hc⟩, fun b qq => ?_⟩
  cases qq
  exact ⟨oj, e, hd⟩
end
end Rg
namespace Rg
open PySem PySem.Spec PyProof.Rows L2
/-! ### x != y, x == y of instances whose class has an own == and no own != -/
section
variable {prog : Program} {w : World} {A : Around} {E : Value → Shared → Prop} {s : Shared} {K : PySem.W.Frag} {x C L f : Addr} {h₀ : Heap} {m : Str → Option Value} {ox : Obj} {od : Option Obj} {b tb : Value}
theorem boundNe {M : Model} {args : List Value} {Q : Option Value → Shared → Prop} (Xk : K.In s.heap) (Ia : PySem.W.InstAt s.heap x ox C od) (hs : PySem.W.findIn K (.ref C) "__ne__" = some (some (.builtin "object.__ne__")))
    (h : wpAny M A (call (.builtin "object.__ne__") (.ref x :: args)) (fun v => Q (some v)) E s) : wpAny M A (callSpecialIfBound? (.ref x) "__ne__" args) Q E s := by
  simp only [callSpecialIfBound?, bindSpecialIfBound?]
  refine wpAny_holding (wpAny_bind (wpAny_bind (wpAny_bind (Ia.type.here ((PySem.W.looks_findIn Xk hs).here ?_)))))
  dsimp only
  simp only [F.cmp_object.ne.bind]
  refine wpAny_bind (wpAny_askSetting (wpAny_ite ?_))
  have fin : wpAny M A (call (.builtin "object.__ne__") ([.ref x] ++ args) >>= fun v => pure (some v)) Q E s := wpAny_bind (wpAny_mono h (fun v s' h' => wpAny_pure h') fun _ _ h' => h')
  split
  · exact wpAny_bind (wpAny_pure (wpAny_pure fin))
  · exact wpAny_tryCatch (wpAny_bind (wpAny_pure (wpAny_pure fin)))
theorem checkNe {M : Model} {Q : Unit → Shared → Prop} (Xk : K.In s.heap) (Ia : PySem.W.InstAt s.heap x ox C od) (ho : PySem.W.subIn K (.ref C) (.type "object") = some true) (hq : Q () s) : wpAny M A (checkBuiltinCall "object.__ne__" ⟨[.ref x, b], []⟩) Q E s := by
  simp only [checkBuiltinCall, F.cmpKind_ne, F.cmpSplit_ne]
  refine wpAny_bind ?_
  unfold isInstance
  refine wpAny_bind (Ia.type.here ((PySem.W.looks_subIn Xk ho).here ?_))
  simp only [Bool.not_true, Bool.false_eq_true, if_false]
  have ha := F.cmpArgs_ne (.ref x) b
  cases hsig : Manifest.signature? "object.__ne__" with
  | none => exact wpAny_pure hq
  | some sig =>
    simp only [argsOk, hsig] at ha
    have h2 : Bind.checkArgs "object.__ne__" sig ⟨[.ref x, b], []⟩ = pure () := ha
    show wpAny M A (Bind.checkArgs "object.__ne__" sig ⟨[.ref x, b], []⟩) Q E _
    rw [h2]; exact wpAny_pure hq
theorem objNeK {Q : Fin → Shared → Prop} (Xk : K.In s.heap) (Ia : PySem.W.InstAt s.heap x ox C od) (hs : PySem.W.findIn K (.ref C) "__eq__" = some (some (.ref f))) (hf : PySem.W.isFn K (.ref f) = true) (hu : A.units < cLine)
    (h : wpAny (model prog w) A (call (.ref f) [.ref x, b]) (fun v s' => ∃ r, v = .bool r ∧ Q (.done (.ret (.bool (!r)))) s') E s) :
    wpAny (model prog w) A (Builtin.«object.__ne__» ⟨[.ref x, b], []⟩) Q E s := by
  unfold Builtin.«object.__ne__»
  repeat (first
    | with_reducible refine wpAny_cRoomFor hu ?_
    | (refine wpAny_bind (m := callSpecialIfBound? (.ref x) (Str.ofString "__eq__") [b])
        (PySem.W.ifBound_K Xk Ia hs hf (wpAny_mono h (fun r s' hr => by
          obtain ⟨b, rfl, hq⟩ := hr
          repeat (first | exact hq | exact wpAny_pure hq | exact wpAny_truthy_bool hq | (refine wpAny_bind (m := truthy (.bool _)) (wpAny_truthy_bool ?_)) | wp_step)) fun _ _ e => e)))
    | wp_step)
theorem neK {Q : Value → Shared → Prop} (hu : A.units + 1 < cLine) (Fr0 : Fr h₀ L s.heap m) (X₀ : K.In h₀) (Ia : PySem.W.InstAt s.heap x ox C od) (hb : PySem.W.Looks (model prog w) s.heap (typeOf b) tb) (hn : PySem.W.notFirst K C tb = true)
    (hne : PySem.W.findIn K (.ref C) "__ne__" = some (some (.builtin "object.__ne__"))) (ho : PySem.W.subIn K (.ref C) (.type "object") = some true) (hs : PySem.W.findIn K (.ref C) "__eq__" = some (some (.ref f))) (hf : PySem.W.isFn K (.ref f) = true)
    (h : wpAny (model prog w) A.in1 (call (.ref f) [.ref x, b]) (fun v s' => ∃ r, v = .bool r ∧ Q (.bool (!r)) s') E s) : wpAny (model prog w) A (richCompare .NotEq (.ref x) b) Q E s := by
  have Xk := X₀.keeps Fr0.keep
  have one : wpAny (model prog w) A (tryCompare (.ref x) "__ne__" b) (fun r s' => ∃ v, r = some v ∧ Q v s') E s := by
    unfold tryCompare
    refine wpAny_bind (boundNe Xk Ia hne (wpAny_call (codeAny_call_builtin F.cmp_object.ne.plain F.cmpEntry_ne (checkNe Xk Ia ho (objNeK (A := A.in1) Xk Ia hs hf hu (wpAny_mono h (fun v s' hv => ?_) fun _ _ e => e))))))
    obtain ⟨r, rfl, hq⟩ := hv
    exact ⟨r, rfl, wpAny_pure ⟨_, rfl, hq⟩⟩
  unfold richCompare
  simp only [oneThing_ref]
  refine wpAny_holding (wpAny_bind (wpAny_cRoomFor (Nat.lt_of_succ_lt hu) ?_))
  refine wpAny_bind (Ia.type.here (wpAny_bind (hb.here ?_)))
  split
  · rename_i q
    have e : PySem.W.subIn K tb (.ref C) = some false := by
      rcases Bool.or_eq_true_iff.mp hn with e | e
      · rw [beq_iff_eq.mp e] at q; simp at q
      · exact beq_iff_eq.mp e
    refine wpAny_bind ((PySem.W.looks_subIn Xk e).here ?_)
    simp only [Bool.false_eq_true, if_false]
    refine wpAny_bind (wpAny_mono one (fun r s' z => ?_) fun _ _ e => e)
    obtain ⟨v, rfl, hq⟩ := z
    exact wpAny_pure hq
  · refine wpAny_bind (wpAny_pure ?_)
    simp only [Bool.false_eq_true, if_false]
    refine wpAny_bind (wpAny_mono one (fun r s' z => ?_) fun _ _ e => e)
    obtain ⟨v, rfl, hq⟩ := z
    exact wpAny_pure hq
end
section
variable {X : Cx} {n : Nat} {C f : Addr} {fd : FuncData} {ps : List Str} {sp : Sp}
/-- both are instances of C; what the own == says of them, as a bool -/
def rInsEq (C : Addr) (sp : Sp) : R2 := fun x y H Q => ∃ a b dx dy fs gs, x = .ref a ∧ y = .ref b ∧ H a = some (.ins C dx fs) ∧ H b = some (.ins C dy gs) ∧ sp [.ref a, .ref b] H (fun v H' => ∃ r, v = .bl r ∧ Q (.bl r) H') E0
def rInsNe (C : Addr) (sp : Sp) : R2 := fun x y H Q => ∃ a b dx dy fs gs, x = .ref a ∧ y = .ref b ∧ H a = some (.ins C dx fs) ∧ H b = some (.ins C dy gs) ∧ sp [.ref a, .ref b] H (fun v H' => ∃ r, v = .bl r ∧ Q (.bl (!r)) H') E0
theorem op_insNe (F : FnOk X.prog X.w X.K X.mg X.base CX0 n f fd ps sp) (hne : PySem.W.findIn X.K (.ref C) "__ne__" = some (some (.builtin "object.__ne__"))) (ho : PySem.W.subIn X.K (.ref C) (.type "object") = some true)
    (hs : PySem.W.findIn X.K (.ref C) "__eq__" = some (some (.ref f))) (hf : PySem.W.isFn X.K (.ref f) = true) (hb : Binds X.K fd ps []) (hr : Room (n + 1) X.A) : OpR X (compareOp .NotEq) (rInsNe C sp) := by
  intro pins s σ H x y u v Q I rx ry ⟨a, b, dx, dy, fs, gs, ex, ey, ha, hb', hsp⟩
  subst ex ey
  cases rx
  cases ry
  obtain ⟨mA, J, _⟩ := ins_get I.hok ha
  obtain ⟨mB, J', _⟩ := ins_get I.hok hb'
  obtain ⟨od, J, _⟩ := J.look
  obtain ⟨od', J', _⟩ := J'.look
  obtain ⟨m, hF⟩ := I.fr
  show wpAny (model X.prog X.w) X.A (richCompare .NotEq (.ref a) (.ref b)) (EP X pins σ Q) X.xe s
  refine neK (tb := .ref C) (by have := hr.un; omega) hF I.ok.mod.kin J J'.type (by simp [PySem.W.notFirst]) hne ho hs hf ?_
  have hl := F.len _ _ _ _ hsp
  have r2 : Vals [V.ref a, V.ref b] [Value.ref a, Value.ref b] := .cons rfl (.cons rfl .nil)
  refine wpAny_call (codeAny_mono (F.run X.A.in1 X.stack s H ⟨[.ref a, .ref b], []⟩ [.ref a, .ref b] [.ref a, .ref b] _ E0 hr.in1 I.env0.in1 (by
    have := hb s [.ref a, .ref b] I.kIn (by simpa using hl)
    simpa using this) r2 hsp) fun r s' hq => ?_)
  cases r with
  | error e => exact hq.elim
  | ok fl =>
    cases fl with
    | ret w =>
      obtain ⟨z, H', I', rz, r0, ez, q⟩ := I.after hq
      subst ez
      cases rz
      exact ⟨r0, rfl, .bl (!r0), H', I', rfl, q⟩
    | next => exact False.elim hq
    | brk => exact False.elim hq
    | cont => exact False.elim hq
theorem op_insEq (F : FnOk X.prog X.w X.K X.mg X.base CX0 n f fd ps sp)
    (hs : PySem.W.findIn X.K (.ref C) "__eq__" = some (some (.ref f))) (hf : PySem.W.isFn X.K (.ref f) = true) (hb : Binds X.K fd ps []) (hr : Room n X.A) : OpR X (compareOp .Eq) (rInsEq C sp) := by
  intro pins s σ H x y u v Q I rx ry ⟨a, b, dx, dy, fs, gs, ex, ey, ha, hb', hsp⟩
  subst ex ey
  cases rx
  cases ry
  obtain ⟨mA, J, _⟩ := ins_get I.hok ha
  obtain ⟨mB, J', _⟩ := ins_get I.hok hb'
  obtain ⟨od, J, _⟩ := J.look
  obtain ⟨od', J', _⟩ := J'.look
  obtain ⟨m, hF⟩ := I.fr
  show wpAny (model X.prog X.w) X.A (richCompare .Eq (.ref a) (.ref b)) (EP X pins σ Q) X.xe s
  refine PySem.W.cmp_K (op := .Eq) (tb := .ref C) hr.units0 hF I.ok.mod.kin J J'.type (by simp [PySem.W.notFirst]) hs hf ?_
  have hl := F.len _ _ _ _ hsp
  have r2 : Vals [V.ref a, V.ref b] [Value.ref a, Value.ref b] := .cons rfl (.cons rfl .nil)
  refine wpAny_call (codeAny_mono (F.run X.A X.stack s H ⟨[.ref a, .ref b], []⟩ [.ref a, .ref b] [.ref a, .ref b] _ E0 hr I.env0 (by
    have := hb s [.ref a, .ref b] I.kIn (by simpa using hl)
    simpa using this) r2 hsp) fun r s' hq => ?_)
  cases r with
  | error e => exact hq.elim
  | ok fl =>
    cases fl with
    | ret w =>
      obtain ⟨z, H', I', rz, r0, ez, q⟩ := I.after hq
      subst ez
      cases rz
      exact ⟨.bl r0, H', I', rfl, q⟩
    | next => exact False.elim hq
    | brk => exact False.elim hq
    | cont => exact False.elim hq
end
end Rg
namespace Rg
open PySem PySem.Spec PyProof.Rows L2 HT
/-! ### t[:0:-1] of a tuple -/
theorem adjust_back {n : Nat} (hn : 1 ≤ n) : Builtin.Slice.sliceAdjust none (some 0) (-1) (n : Int) = (((n - 1 : Nat) : Int), 0) := by
  unfold Builtin.Slice.sliceAdjust
  have h1 : ((-1 : Int) < 0) := by omega
  have h2 : ¬ ((0 : Int) < 0) := by omega
  simp only [h1, h2, if_true, if_false]
  refine Prod.ext ?_ ?_
  · show (n : Int) - 1 = _
    omega
  · show min (0 : Int) ((n : Int) - 1) = 0
    omega
theorem places_back (n : Nat) : Builtin.Slice.slicePlaces (n : Int) 0 (-1) = n := by
  unfold Builtin.Slice.slicePlaces
  have h1 : ¬ ((-1 : Int) > 0) := by omega
  simp only [h1, if_false, Int.neg_neg, Int.ediv_one]
  split <;> omega
theorem pick_back0 {α : Type} (l : List α) (h : 1 ≤ l.length) : (List.range (l.length - 1)).filterMap (fun m => l[l.length - 1 - m]?) = (l.drop 1).reverse := by
  have e : ∀ k, k ≤ l.length - 1 → (List.range k).filterMap (fun m => l[l.length - 1 - m]?) = (l.drop (l.length - k)).reverse := by
    intro k
    induction k with
    | zero => intro _; simp
    | succ k ih =>
      intro hk
      rw [List.range_succ, List.filterMap_append, ih (by omega)]
      have hlt : l.length - (k + 1) < l.length := by omega
      rw [List.drop_eq_getElem_cons hlt, List.reverse_cons, show l.length - (k + 1) + 1 = l.length - k by omega]
      congr 1
      have e2 : l[l.length - 1 - k]? = some l[l.length - (k + 1)] := by
        rw [show l.length - 1 - k = l.length - (k + 1) by omega]
        exact List.getElem?_eq_getElem hlt
      simp [e2]
  have := e (l.length - 1) (Nat.le_refl _)
  rw [show l.length - (l.length - 1) = 1 by omega] at this
  exact this
theorem fmap_congr {α β : Type} {f g : α → Option β} : ∀ {l : List α}, (∀ x ∈ l, f x = g x) → l.filterMap f = l.filterMap g
  | [], _ => rfl
  | x :: l, h => by
    rw [List.filterMap_cons, List.filterMap_cons, h x (List.mem_cons_self ..), fmap_congr fun y hy => h y (List.mem_cons_of_mem _ hy)]
theorem pick_back (xs : Array Value) (h : 1 ≤ xs.size) : ((List.range (xs.size - 1)).filterMap fun (m : Nat) => xs[((((xs.size - 1 : Nat) : Int)) + (m : Int) * (-1)).toNat]?).toArray = (xs.toList.drop 1).reverse.toArray := by
  have h2 := pick_back0 xs.toList (by simpa using h)
  rw [Array.length_toList] at h2
  rw [← h2]
  congr 1
  refine fmap_congr fun m hm => ?_
  have hm' := List.mem_range.mp hm
  rw [show ((((xs.size - 1 : Nat) : Int)) + (m : Int) * (-1)).toNat = xs.size - 1 - m by omega]
  simp
section
variable {prog : Program} {w : World} {A : Around} {E : Value → Shared → Prop} {s : Shared}
theorem applied_back {sl : Addr} {vu vs : Value} {n : Nat} {Q : Int × Int × Nat → Shared → Prop} (hs : s.heap.IsSliceOf sl .none vu vs) (pu : IsPart vu (some 0)) (ps : IsPart vs (some (-1))) (hn : 1 ≤ n)
    (h : Q (((n - 1 : Nat) : Int), -1, n - 1) s) : wpAny (model prog w) A (Builtin.Slice.sliceApplied (.ref sl) (pure (n : Int))) Q E s := by
  obtain ⟨os, hos, hcs, hds⟩ := id hs
  unfold Builtin.Slice.sliceApplied Builtin.Slice.sliceFields
  refine wpAny_bind (wpAny_bind (wpAny_field hos hds (x := .none) rfl (wpAny_bind (wpAny_field hos hds (x := vu) rfl (wpAny_bind (wpAny_field hos hds (x := vs) rfl (wpAny_pure ?_)))))))
  refine wpAny_bind (slicePart_ ps ?_)
  show wpAny _ _ (if ((-1 : Int) == 0) = true then _ else _) _ _ s
  rw [if_neg (by decide)]
  refine wpAny_bind (slicePart_none (wpAny_bind (slicePart_ pu (wpAny_bind (wpAny_pure ?_)))))
  show wpAny _ _ (match Builtin.Slice.sliceAdjust none (some 0) (-1) (n : Int) with | (lo, hi) => pure (lo, (-1 : Int), Builtin.Slice.slicePlaces lo hi (-1))) _ _ s
  rw [adjust_back hn]
  show wpAny _ _ (pure (((n - 1 : Nat) : Int), (-1 : Int), Builtin.Slice.slicePlaces ((n - 1 : Nat) : Int) 0 (-1))) _ _ s
  rw [places_back]
  exact wpAny_pure h
theorem getItem_back {t sl : Addr} {items : Array Value} {vu vs : Value} {Q : Value → Shared → Prop} (ht : IsTup s.heap t items) (hs : s.heap.IsSliceOf sl .none vu vs) (pu : IsPart vu (some 0)) (ps : IsPart vs (some (-1))) (hn : 1 ≤ items.size)
    (h : Q (.ref s.heap.objs.size) { s with heap := s.heap.push { cls := .type "tuple", data := .seq (items.toList.drop 1).reverse.toArray } })
    (hsz : items.size ≤ sizeLine) : wpAny (model prog w) A (getItem (.ref t) (.ref sl)) Q E s := by
  have htake : sizeOk (.seq (items.toList.drop 1).reverse.toArray) := by
    show (items.toList.drop 1).reverse.toArray.size ≤ sizeLine
    rw [List.size_toArray, List.length_reverse, List.length_drop, Array.length_toList]
    omega
  obtain ⟨os, hos, hcs, hds⟩ := id hs
  have hTs : s.TypeIs (.ref sl) "slice" := ⟨os, hos, hcs⟩
  unfold getItem
  try with_reducible refine wpAny_holding ?_
  first | refine wpAny_bind (wpAny_pure ?_) | skip
  refine wpAny_bind (wpAny_sequenceKey ht.typeIs (by decide) ?_)
  refine wpAny_bind (wpAny_callSpecial?_slot (name := Str.ofString "__getitem__") ht.typeIs PyProof.Rows.slot_tuple_getitem
    (wpAny_call_entry PyProof.Rows.slot_tuple_getitem ht.typeIs entry_tuple_getitem ?_ (args_tuple_getitem _ _)))
  show wpAny _ _ (Builtin.Tuple.tupleItemsOf (.ref t) >>= _) _ _ s
  refine wpAny_bind (tupleItemsOf_ ht ?_)
  refine wpAny_bind (wpAny_typeOf hTs ?_)
  rw [if_pos (by decide)]
  refine wpAny_bind (applied_back hs pu ps hn ?_)
  have hno : ¬ ((((items.size - 1 : Nat) : Int) == 0 && (-1 : Int) == 1 && (items.size - 1) == items.size) = true) := by
    intro q
    rw [Bool.and_eq_true, Bool.and_eq_true] at q
    exact absurd q.1.2 (by decide)
  show wpAny _ _ (if (((items.size - 1 : Nat) : Int) == 0 && (-1 : Int) == 1 && (items.size - 1) == items.size) = true then _ else _) _ _ s
  rw [if_neg hno, pick_back items hn]
  first
    | exact wpAny_bind (m := Builtin.Tuple.tupleExact _) (wpAny_newObj_type (wpAny_pure ⟨_, rfl, wpAny_pure h⟩) htake)
    | exact wpAny_bind (m := Builtin.Tuple.tupleExact _) (wpAny_newObj_type (wpAny_bind (wpAny_pure (wpAny_pure ⟨_, rfl, wpAny_pure h⟩))) htake)
    | exact wpAny_bind (wpAny_bind (m := Builtin.Tuple.tupleExact _) (wpAny_newObj_type (wpAny_pure (wpAny_pure ⟨_, rfl, wpAny_pure h⟩)) htake))
    | exact wpAny_bind (wpAny_bind (m := Builtin.Tuple.tupleExact _) (wpAny_newObj_type (wpAny_pure ⟨_, rfl, wpAny_pure h⟩) htake))
end
section
variable {X : Cx}
def tBackT (K : PySem.W.Frag) (te : TE) : TE := fun σ H Q => te σ H fun x H1 => ∃ a xs, x = .ref a ∧ SqT K H1 a xs ∧ 1 ≤ xs.length ∧ ∀ p, H1 p = none → Q (.ref p) (upd H1 p (.tup (xs.drop 1).reverse))
theorem pe_backT {e : Expr} {te : TE} {k k0 : Nat} {p0 p1 p2 p3 pos : Pos} (he : PE X e te) : PE X (.Subscript e (.Slice none (some (.Constant (.int 0) k0 p0)) (some (.UnaryOp .USub (.Constant (.int 1) k p1) p2)) p3) pos) (tBackT X.K te) := by
  refine ⟨fun pins s σ H Q I h => ?_⟩
  refine Subscript_ (thn (he.run pins s σ H _ I h) fun v s1 ⟨x, H1, I1, r1, q1⟩ => ?_)
  obtain ⟨a, xs, ex, hx, hn, q⟩ := q1
  subst ex
  cases r1
  have hst : PO X (some (.UnaryOp .USub (.Constant (.int 1) k p1) p2)) (tPart (tUn (rU fun i => .int (-i)) (tC (.int 1)))) := po_some (pe_un un_neg pe_int)
  have hz0 : PO X (some (.Constant (.int 0) k0 p0)) (tPart (tC (.int 0))) := po_some pe_int
  refine wpAny_Slice (thn (po_none.run pins s1 σ H1 (fun o H2 => o = none ∧ H2 = H1) I1 ⟨rfl, rfl⟩) fun vl s2 ⟨l, H2, I2, pl, el, e2⟩ => ?_)
  subst el e2
  refine thn (hz0.run pins s2 σ H2 (fun o H3 => o = some 0 ∧ H3 = H2) I2 ⟨0, rfl, rfl, rfl⟩) fun vu s3 ⟨u, H3, I3, pu, eu, e3⟩ => ?_
  subst eu e3
  refine thn (hst.run pins s3 σ H3 (fun o H4 => o = some (-1) ∧ H4 = H3) I3 ⟨1, rfl, -1, rfl, rfl, rfl⟩) fun vs s4 ⟨o, H4, I4, ps, eo, e4⟩ => ?_
  subst eo e4
  cases pl
  have I5 : Inv X pins σ H4 { s4 with heap := s4.heap.push { cls := .type "slice", data := .fields #[.none, vu, vs] } } := I4.kept (t' := s4.toks) fun b ob q => Heap.get?_push_of_some _ q
  obtain ⟨its, r, ht, hz⟩ := I5.tuple hx
  have hlen := r.length
  show wpAny (model X.prog X.w) X.A (subscriptTail e (.Slice none (some (.Constant (.int 0) k0 p0)) (some (.UnaryOp .USub (.Constant (.int 1) k p1) p2)) p3) (.ref a) (.ref s4.heap.objs.size)) (EP X pins σ Q) X.xe { s4 with heap := s4.heap.push { cls := .type "slice", data := .fields #[.none, vu, vs] } }
  refine tail_any (T := "tuple") (ops := [.ref a, .ref s4.heap.objs.size]) ht.typeIs (PyProof.Rows.slot_tuple_getitem.lookup) ?_ (by with_unfolding_all rfl)
  refine getItem_back ht (Heap.IsSliceOf.new _ .none vu vs) pu ps (by rw [List.size_toArray]; omega) ?_ (by rw [List.size_toArray]; omega)
  refine ⟨.ref _, _, I5.laid (t' := s4.toks) (o := .tup (xs.drop 1).reverse) (fun b ob q => Heap.get?_push_of_some _ q) (Nat.le_refl _) ?_, rfl, q _ (I5.hok.fresh (Nat.le_refl _))⟩
  exact ⟨by rw [List.length_reverse, List.length_drop]; omega, _, (r.drop 1).reverse, IsTup.new _ _⟩
end
end Rg
namespace K
open PySem L2 Rg
open Evl (pss_cut)
def top (i : Nat) : Stmt := PySem.Challenge.pw_ringbars_k05_bars_changed_and_renumbered.main.body.getD i (.Pass ⟨0, 0, 0, 0⟩)
abbrev sWall : Stmt := top 0
abbrev sIsInteger : Stmt := top 2
abbrev sIsWithin : Stmt := top 3
abbrev sIsList : Stmt := top 4
abbrev sIsNumbers : Stmt := top 5
abbrev sBadRingInit : Stmt := inClass (top 8) 0
abbrev sBadNumberInit : Stmt := inClass (top 9) 0
abbrev sMissingInit : Stmt := inClass (top 10) 0
abbrev sTooManyInit : Stmt := inClass (top 12) 0
abbrev sBadTextInit : Stmt := inClass (top 13) 0
abbrev sWantNumber : Stmt := top 15
abbrev sWantBar : Stmt := top 16
abbrev sItemsOf : Stmt := top 19
abbrev sIntegerOf : Stmt := top 20
abbrev sItemAt : Stmt := top 21
abbrev sNumberAt : Stmt := top 22
abbrev sRingInit : Stmt := inClass (top 27) 0
abbrev sRingLen : Stmt := inClass (top 27) 1
abbrev sRingEq : Stmt := inClass (top 27) 2
abbrev sRingStr : Stmt := inClass (top 27) 3
abbrev sRingLengthOf : Stmt := inClass (top 27) 4
abbrev sRingSortOf : Stmt := inClass (top 27) 5
abbrev sRingWithLength : Stmt := inClass (top 27) 6
abbrev sRingBegunAt : Stmt := inClass (top 27) 7
abbrev sRingBackwards : Stmt := inClass (top 27) 8
abbrev sRingInOrder : Stmt := inClass (top 27) 9
abbrev sRingAsOne : Stmt := inClass (top 27) 10
abbrev sRingInTwo : Stmt := inClass (top 27) 11
abbrev sRingRead : Stmt := inClass (top 27) 12
abbrev sAreLengths : Stmt := top 28
abbrev sHasLevel : Stmt := top 29
abbrev sReadRing : Stmt := top 30
abbrev sLwPen : Stmt := top 32
abbrev sLwDraw : Stmt := top 33
abbrev sLwPick : Stmt := top 34
abbrev sLwMixed : Stmt := top 35
abbrev sLwLengths : Stmt := top 36
abbrev sLwHeard : Stmt := top 37
abbrev sLwRenumberedRight : Stmt := top 38
abbrev sLwChangedRight : Stmt := top 39
abbrev sLwRefusedRight : Stmt := top 40
abbrev sLaw : Stmt := top 41

/-- all but what stands at p is as it was -/
def But (p : Addr) (H H' : Hp) : Prop := ∀ b o, b ≠ p → H b = some o → H' b = some o
theorem But.refl (p : Addr) (H : Hp) : But p H H := fun _ _ _ h => h
theorem But.trans {p : Addr} {H H1 H2 : Hp} (a : But p H H1) (b : But p H1 H2) : But p H H2 := fun c o n h => b c o n (a c o n h)
theorem But.new {p q : Addr} {H H' : Hp} {o : HO} (a : But p H H') (n : H' q = none) : But p H (upd H' q o) := fun c u hc h => by
  have e := a c u hc h
  rw [upd_ne (ne_of_none e n)]
  exact e
theorem But.at {p : Addr} {H H' : Hp} {o : HO} (a : But p H H') : But p H (upd H' p o) := fun c u hc h => by
  rw [upd_ne hc]
  exact a c u hc h
theorem But.seq {K : PySem.W.Frag} {p a : Addr} {H H' : Hp} {xs : List V} (e : But p H H') (n : a ≠ p) (h : SqL K H a xs) : SqL K H' a xs := by
  rcases h with (h | ⟨o, h⟩) | h
  · exact .inl (.inl (e _ _ n h))
  · exact .inl (.inr ⟨o, e _ _ n h⟩)
  · exact .inr h
/-- the pen: its cells, how many were begun (at most n), what a great one has left -/
structure PenAt (K : PySem.W.Frag) (H : Hp) (p : Addr) (e : Addr × List Int) (n : Nat) : Prop where
  ex : ∃ (at' rest : Int), H p = some (.lst [.ref e.1, .int at', .int rest]) ∧ 0 ≤ at' ∧ at' ≤ n ∧ 0 ≤ rest
  sq : SqL K H e.1 (e.2.map V.int)
  np : e.1 ≠ p
  ln : e.2.length ≤ 62
theorem But.of {p : Addr} {H H' : Hp} (e : Same H H') : But p H H' := fun b o _ h => e b o h
theorem But.mut {p q : Addr} {H H' : Hp} {o : HO} (a : But p H H') (n : H q = none) : But p H (upd H' q o) := fun c u hc h => by
  have e := a c u hc h
  rw [upd_ne (ne_of_none h n)]
  exact e
theorem But.free {p q : Addr} {H H' : Hp} (a : But p H H') (hq : q ≠ p) (n : H' q = none) : H q = none := by
  cases e : H q with
  | none => rfl
  | some o =>
    rw [a q o hq e] at n
    cases n
theorem But.tup {K : PySem.W.Frag} {p a : Addr} {H H' : Hp} {xs : List V} (e : But p H H') (n : a ≠ p) (h : SqT K H a xs) : SqT K H' a xs := by
  rcases h with (h | ⟨o, h⟩) | h
  · exact .inl (.inl (e _ _ n h))
  · exact .inl (.inr ⟨o, e _ _ n h⟩)
  · exact .inr h
theorem _root_.L2.Same.new {q : Addr} {H H' : Hp} {o : HO} (a : Same H H') (n : H' q = none) : Same H (upd H' q o) := fun c u h => by
  have e := a c u h
  rw [upd_ne (ne_of_none e n)]
  exact e
theorem _root_.L2.Same.mut {q : Addr} {H H' : Hp} {o : HO} (a : Same H H') (n : H q = none) : Same H (upd H' q o) := fun c u h => by
  have e := a c u h
  rw [upd_ne (ne_of_none h n)]
  exact e
theorem _root_.L2.Same.tup {K : PySem.W.Frag} {a : Addr} {H H' : Hp} {xs : List V} (e : Same H H') (h : SqT K H a xs) : SqT K H' a xs := by
  rcases h with (h | ⟨o, h⟩) | h
  · exact .inl (.inl (e _ _ h))
  · exact .inl (.inr ⟨o, e _ _ h⟩)
  · exact .inr h
section
variable {K : PySem.W.Frag} {H H' : Hp} {p q : Addr} {e : Addr × List Int} {n m : Nat} {o : HO}
theorem PenAt.mono (h : PenAt K H p e n) (le : n ≤ m) : PenAt K H p e m := by
  obtain ⟨a, r, h1, h5, h6, h7⟩ := h.ex
  exact ⟨⟨a, r, h1, h5, by omega, h7⟩, h.sq, h.np, h.ln⟩
/-- the pen stands while all that is tracked stands -/
theorem PenAt.same (h : PenAt K H p e n) (s : Same H H') : PenAt K H' p e n := by
  obtain ⟨a, r, h1, h5, h6, h7⟩ := h.ex
  exact ⟨⟨a, r, s _ _ h1, h5, h6, h7⟩, s.seq h.sq, h.np, h.ln⟩
theorem PenAt.some (h : PenAt K H p e n) : ∃ xs, H p = some (.lst xs) := by
  obtain ⟨a, r, h1, _⟩ := h.ex
  exact ⟨_, h1⟩
theorem PenAt.ne (h : PenAt K H p e n) (z : H q = none) : q ≠ p := by
  obtain ⟨xs, h1⟩ := h.some
  exact (ne_of_none h1 z).symm
/-- the pen stands while a new thing is laid -/
theorem PenAt.put (h : PenAt K H p e n) (z : H q = none) : PenAt K (upd H q o) p e n := h.same (Same.new (Same.refl H) z)
/-- .. while a thing is written that was not there ahead -/
theorem PenAt.mut (h : PenAt K H p e m) (h2 : PenAt K H' p e n) (b : But p H H') (z : H q = none) : PenAt K (upd H' q o) p e n := by
  obtain ⟨a, r, h1, h5, h6, h7⟩ := h2.ex
  exact ⟨⟨a, r, by rw [upd_ne (h.ne z).symm]; exact h1, h5, h6, h7⟩, (b.mut z).seq h.np h.sq, h.np, h.ln⟩
end
/-- the built-ins that the text names -/
structure Bi (mg : Str → Option Value) : Prop where
  int : mg "int" = none
  len : mg "len" = none
  abs : mg "abs" = none
  list : mg "list" = none
  tuple : mg "tuple" = none
  bool : mg "bool" = none
  range : mg "range" = none
  sum : mg "sum" = none
  max : mg "max" = none
  all : mg "all" = none
  any : mg "any" = none
  sorted : mg "sorted" = none
  enumerate : mg "enumerate" = none
  isinstance : mg "isinstance" = none
section
variable {K : PySem.W.Frag}
theorem eqv_nil (l : List Int) : PyData.eqv (.list (l.map PyData.int)) (.list []) = l.isEmpty := by
  cases l <;> simp [PyData.eqv, PyData.eqvAll] <;> rfl
theorem dp_ints {H : Hp} : ∀ l : List Int, DpAll K H (l.map V.int) (l.map PyData.int)
  | [] => .nil
  | i :: l => .cons (.int i) (dp_ints l)
theorem lay_ints : ∀ l : List Int, PyData.canLayAll0 (l.map PyData.int) = true
  | [] => by simp [PyData.canLayAll0]
  | i :: l => by simp [PyData.canLayAll0, PyData.canLay0, lay_ints l]
theorem deep_ints : ∀ l : List Int, PyData.depthAll (l.map PyData.int) = 0
  | [] => by simp [PyData.depthAll]
  | i :: l => by simp [PyData.depthAll, PyData.depth, deep_ints l]
theorem shaped_ints (l : List Int) : SeqAt.shaped (.list (l.map PyData.int)) = true := by
  simp [SeqAt.shaped, PyData.canLay0, PyData.depth, lay_ints l, deep_ints l]
end
end K
namespace K
open PySem L2 Rg
open Evl (pss_cut)
def spDraw (K : PySem.W.Frag) : Sp := fun vs H Q _ => ∃ (p : Addr) (e : Addr × List Int) (many : Int) (n : Nat), vs = [.ref p, .int many] ∧ 1 ≤ many ∧ many ≤ 1000000 ∧ n < 1000000 ∧ PenAt K H p e n ∧
  ∀ (r : Int) (H' : Hp), 0 ≤ r → r < many → But p H H' → PenAt K H' p e (n + 1) → Q (.int r) H'
section
variable {P : Program} {w : World} {K : PySem.W.Frag} {mg : Str → Option Value} {base : Heap}
abbrev nDraw : List Str := ["_law_pen_here", "_law_many", "_law_digit", "_law_at", "_law_cell", "_law_great", "_law_mixed_here"]
theorem scDraw : FnScope nDraw ["_law_pen_here", "_law_many"] (defScope sLwDraw) := ⟨rfl, rfl, rfl, by decide +kernel, rfl, by decide +kernel, by decide +kernel⟩
theorem ok_draw {f : Addr} {fd : FuncData} (F : Fun K "_law_draw" "_law_draw" sLwDraw f fd) (T : Bi mg) : FnOk P w K mg base CX0 2 f fd ["_law_pen_here", "_law_many"] (spDraw K) := by
  refine F.ok scDraw (fun vs H Q E h => ?_) (fun cdv A outer s H vs Q E hr h => ?_)
  · obtain ⟨p, e, many, n, rfl, _⟩ := h
    rfl
  · have nd := scDraw.nd
    refine ⟨_, pss_cons (ps_if (pt_cmpR op_gt (pe_ix ix_list (pv 0) pe_int (fun _ _ => rfl)) pe_int (nomark _))
        (pss_cons (ps_set (i := 2) nd rfl (Or.inl rfl) (pe_op op_mod (pe_callTy call_int1 (by rfl) T.int (by decide +kernel) (pa_cons (pe_ix ix_list (pv 0) pe_int (fun _ _ => rfl)) pa_nil)) (pv 1)))
        (pss_cons (ps_asg (pe_op op_fdiv (pe_callTy call_int1 (by rfl) T.int (by decide +kernel) (pa_cons (pe_ix ix_list (pv 0) pe_int (fun _ _ => rfl)) pa_nil)) (pv 1)) (pg_sub (pv 0) pe_int set_list))
        (pss_one (ps_ret (pv 2))))) pss_nil)
      (pss_cons (ps_set (i := 3) nd rfl (Or.inl rfl) (pe_ix ix_list (pv 0) pe_int (fun _ _ => rfl)))
      (pss_cons (ps_asg (pe_op op_add (pv 3) pe_int) (pg_sub (pv 0) pe_int set_list))
      (pss_cons (ps_set (i := 4) nd rfl (Or.inl rfl) (pe_op op_add (pe_op op_mul pe_int (pv 3)) pe_int))
      (pss_cut (ps_if (pt_cmpR (op_neD hr.units) (pe_ix ix_list (pv 0) pe_int (fun _ _ => rfl)) (pe_lst pa_nil) (nomark _))
        (pss_one (ps_set (i := 4) nd rfl (Or.inl rfl) (pe_ix ix_list (pe_ix ix_list (pv 0) pe_int (fun _ _ => rfl)) (pe_op op_mod (pe_callTy call_int1 (by rfl) T.int (by decide +kernel) (pa_cons (pv 3) pa_nil)) (pe_callB call_len_seq (by rfl) T.len PySem.boot_len (pa_cons (pe_ix ix_list (pv 0) pe_int (fun _ _ => rfl)) pa_nil))) (fun _ _ => rfl)))) pss_nil)
      (pss_cut (ps_if (PW.pt (pw_and (pt_cmpR op_lt (pv 3) (pe_callB call_len_seq (by rfl) T.len PySem.boot_len (pa_cons (pe_ix ix_list (pv 0) pe_int (fun _ _ => rfl)) pa_nil)) (nomark _))
          (pw_and1 (pt_cmpR op_ge (pe_callB call_abs (by rfl) T.abs (by decide +kernel) (pa_cons (pv 4) pa_nil)) (pe_op op_pow pe_int pe_int) (nomark _)))))
        (pss_cons (ps_set (i := 5) nd rfl (Or.inl rfl) (pe_op op_add (pe_op op_mul pe_int (pe_op op_sub (pe_callB call_abs (by rfl) T.abs (by decide +kernel) (pa_cons (pv 4) pa_nil)) (pe_op op_pow pe_int pe_int))) (pe_callTy call_int1 (by rfl) T.int (by decide +kernel) (pa_cons (pe_cmpR op_lt (pv 4) pe_int (nomark _)) pa_nil))))
        (pss_cons (ps_asg (pe_op op_fdiv (pe_callTy call_int1 (by rfl) T.int (by decide +kernel) (pa_cons (pv 5) pa_nil)) (pv 1)) (pg_sub (pv 0) pe_int set_list))
        (pss_one (ps_ret (pe_op op_mod (pe_callTy call_int1 (by rfl) T.int (by decide +kernel) (pa_cons (pv 5) pa_nil)) (pv 1)))))) pss_nil)
      (pss_cut (ps_set (i := 6) nd rfl (Or.inl rfl) (pe_op op_mod (pe_callTy call_int1 (by rfl) T.int (by decide +kernel) (pa_cons (pe_op op_pow (pe_op op_add (pe_op op_add (pe_op op_mod (pe_callTy call_int1 (by rfl) T.int (by decide +kernel) (pa_cons (pv 4) pa_nil)) pe_int) (pe_op op_mul pe_int (pv 3))) pe_int) pe_int) pa_nil)) pe_int))
      (pss_cons (ps_set (i := 6) nd rfl (Or.inl rfl) (pe_op op_mod (pe_callTy call_int1 (by rfl) T.int (by decide +kernel) (pa_cons (pe_op op_pow (pe_op op_add (pe_op op_add (pe_op op_mul (pv 6) (pe_op op_add (pe_op op_mul pe_int (pv 3)) pe_int)) (pe_op op_mul (pe_op op_mul pe_int (pv 3)) (pv 3))) pe_int) pe_int) pa_nil)) pe_int))
      (pss_one (ps_ret (pe_op op_mod (pe_callTy call_int1 (by rfl) T.int (by decide +kernel) (pa_cons (pe_op op_fdiv (pv 6) pe_int) pa_nil)) (pv 1))))))))))), ?_⟩
    obtain ⟨p, ⟨c, cells⟩, many, n, rfl, m1, m2, hn, ⟨⟨at0, rest, hp, a0, a1, r0⟩, hc, hcp, hcl⟩, k⟩ := h
    dsimp only at hp hc hcp hcl
    have mp : (0 : Int) < many := by omega
    have md : (0 : Int) < many ∧ many < 1073741824 := ⟨mp, by omega⟩
    refine ⟨_, rfl, p, _, _, _, rfl, rfl, SqL.of hp, atI_nat (j := 2) rfl, _, _, rfl, rfl, _, rfl, ?_⟩
    refine ite2 (fun hg => ?_) (fun hg => ?_)
    · have g0 : rest > 0 := of_decide_eq_true hg
      refine ⟨_, rfl, p, _, _, _, rfl, rfl, SqL.of hp, atI_nat (j := 2) rfl, .inl ⟨_, rfl, _, rfl, _, _, rfl, rfl, mp, ?_⟩⟩
      refine ⟨_, rfl, p, _, _, _, rfl, rfl, SqL.of hp, atI_nat (j := 2) rfl, .inl ⟨_, rfl, _, rfl, _, _, rfl, rfl, md, _, rfl, p, _, _, 2, rfl, rfl, hp, rfl, ?_⟩⟩
      refine ⟨_, rfl, ?_⟩
      have b1 : But p H (upd H p (.lst [.ref c, .int at0, .int (rest / many)])) := (But.refl p H).at
      exact k _ _ (Int.emod_nonneg _ (by omega)) (Int.emod_lt_of_pos _ mp) b1 ⟨⟨at0, rest / many, upd_same, a0, by omega, Int.ediv_nonneg r0 (by omega)⟩, b1.seq hcp hc, hcp, hcl⟩
    · refine ⟨_, rfl, p, _, _, _, rfl, rfl, SqL.of hp, atI_nat (j := 1) rfl, ?_⟩
      refine ⟨_, rfl, _, _, rfl, rfl, _, rfl, p, _, _, 1, rfl, rfl, hp, rfl, ?_⟩
      have h1 : upd H p (.lst [.ref c, .int (at0 + 1), .int rest]) p = some (.lst [.ref c, .int (at0 + 1), .int rest]) := upd_same
      have b1 : But p H (upd H p (.lst [.ref c, .int (at0 + 1), .int rest])) := (But.refl p H).at
      refine ⟨_, rfl, _, _, rfl, rfl, .inl ⟨by decide, by decide⟩, _, _, rfl, rfl, ?_⟩
      refine ⟨fun σ' H' => ∃ cell : Int, σ' = [some (.ref p), some (.int many), none, some (.int at0), some (.int cell), none, none] ∧ But p H H' ∧ H' p = some (.lst [.ref c, .int (at0 + 1), .int rest]), ?_, ?_⟩
      · refine ⟨_, rfl, p, _, _, _, rfl, rfl, SqL.of h1, atI_nat (j := 0) rfl, (by decide), fun q hq => ?_⟩
        have hqp : p ≠ q := ne_of_none h1 hq
        have b2 : But p H (upd (upd H p (.lst [.ref c, .int (at0 + 1), .int rest])) q (.lst [])) := b1.new hq
        have h2 : upd (upd H p (.lst [.ref c, .int (at0 + 1), .int rest])) q (.lst []) p = some (.lst [.ref c, .int (at0 + 1), .int rest]) := by rw [upd_ne hqp]; exact h1
        refine ⟨_, _, .lst (b2.seq hcp hc) (dp_ints cells), .lst (SqL.of upd_same) .nil, shaped_ints _, rfl, _, rfl, ?_⟩
        rw [eqv_nil]
        cases e : cells.isEmpty with
        | true =>
          refine iteF ?_
          exact ⟨_, rfl, b2, h2⟩
        | false =>
          have hl : 0 < cells.length := by
            cases cells with
            | nil => cases e
            | cons z zs => simp
          refine iteT ?_
          have hlt : (at0 % (cells.length : Int)).toNat < cells.length := by
            have := Int.emod_lt_of_pos at0 (show (0 : Int) < cells.length by omega)
            have := Int.emod_nonneg at0 (show (cells.length : Int) ≠ 0 by omega)
            omega
          have hix : (cells.map V.int)[(at0 % (cells.length : Int)).toNat]? = some (V.int (cells[(at0 % (cells.length : Int)).toNat])) := by
            rw [List.getElem?_map, List.getElem?_eq_getElem hlt]
            rfl
          refine ⟨_, rfl, p, _, _, _, rfl, rfl, SqL.of h2, atI_nat (j := 0) rfl, _, rfl, .inl ⟨_, rfl, _, rfl, p, _, _, _, rfl, rfl, SqL.of h2, atI_nat (j := 0) rfl, c, _, rfl, .inl (b2.seq hcp hc), ?_⟩⟩
          rw [List.length_map]
          refine ⟨_, _, rfl, rfl, (by omega), c, _, _, _, rfl, rfl, b2.seq hcp hc, at_of (j := (at0 % (cells.length : Int)).toNat) (by
            have := Int.emod_nonneg at0 (show (cells.length : Int) ≠ 0 by omega)
            omega) hix, ?_⟩
          exact ⟨_, rfl, b2, h2⟩
      · rintro σ' H' ⟨cell, rfl, b2, h2⟩
        have pw : CPow 10 18 := ⟨by decide, by decide, by decide⟩
        refine ⟨fun σ' H'' => σ' = [some (.ref p), some (.int many), none, some (.int at0), some (.int cell), none, none] ∧ But p H H'' ∧ H'' p = some (.lst [.ref c, .int (at0 + 1), .int rest]), ?_, ?_⟩
        · refine ⟨_, rfl, _, rfl, p, _, _, _, rfl, rfl, SqL.of h2, atI_nat (j := 0) rfl, c, _, rfl, .inl (b2.seq hcp hc), _, _, rfl, rfl, _, rfl, ?_⟩
          refine ite2 (fun _ => ?_) (fun _ => iteF ?_)
          · refine ⟨_, rfl, _, rfl, _, _, rfl, rfl, pw, _, _, rfl, rfl, _, rfl, ?_⟩
            refine ite2 (fun hge => ?_) (fun _ => ?_)
            · have ge := of_decide_eq_true hge
              have ge2 : (10 : Int) ^ (18 : Int).toNat ≤ if cell < 0 then -cell else cell := ge
              have gr0 : 0 ≤ (2 * ((if cell < 0 then -cell else cell) - (10 : Int) ^ (18 : Int).toNat) + (if decide (cell < 0) = true then 1 else 0) : Int) := by
                split <;> omega
              refine ⟨_, rfl, _, rfl, _, _, rfl, rfl, pw, _, _, rfl, rfl, _, _, rfl, rfl, .inl ⟨by decide, by decide⟩, _, rfl, _, _, rfl, rfl, .inr ⟨_, rfl, _, _, rfl, rfl, ?_⟩⟩
              refine ⟨_, rfl, .inl ⟨_, rfl, _, rfl, _, _, rfl, rfl, md, _, rfl, p, _, _, 2, rfl, rfl, h2, rfl, ?_⟩⟩
              refine ⟨_, rfl, .inl ⟨_, rfl, _, rfl, _, _, rfl, rfl, mp, ?_⟩⟩
              exact k _ _ (Int.emod_nonneg _ (by omega)) (Int.emod_lt_of_pos _ mp) b2.at ⟨⟨at0 + 1, _, upd_same, by omega, by omega, Int.ediv_nonneg gr0 (by omega)⟩, (b2.at).seq hcp hc, hcp, hcl⟩
            · exact ⟨rfl, b2, h2⟩
          · exact ⟨rfl, b2, h2⟩
        · rintro σ'' H'' ⟨rfl, b3, h3⟩
          refine ⟨fun σ' H4 => ∃ x : Int, 0 ≤ x ∧ x < 2147483629 ∧ σ' = [some (.ref p), some (.int many), none, some (.int at0), some (.int cell), none, some (.int x)] ∧ H4 = H'', ?_, ?_⟩
          · have q0 := Int.emod_nonneg cell (show (2147483543 : Int) ≠ 0 by decide)
            have q1 := Int.emod_lt_of_pos cell (show (0 : Int) < 2147483543 by decide)
            have pw5 : CPow (cell % 2147483543 + 54377 * at0 + 1879) 5 := ⟨by decide, by decide, by omega⟩
            refine ⟨_, rfl, .inl ⟨_, rfl, _, _, rfl, rfl, (by show (0 : Int) < 2147483543; decide), _, rfl, _, _, rfl, rfl, .inl ⟨by decide, by decide⟩, _, _, rfl, rfl, _, _, rfl, rfl, _, _, rfl, rfl, pw5, .inl ⟨_, rfl, _, _, rfl, rfl, (by show (0 : Int) < 2147483629; decide), ?_⟩⟩⟩
            exact ⟨_, Int.emod_nonneg _ (by decide), Int.emod_lt_of_pos _ (by decide), rfl, rfl⟩
          · rintro σ' H4 ⟨x, x0, x1, rfl, rfl⟩
            have e1 : x * (2 * at0 + 2137) ≤ 2147483629 * 2002137 := Int.mul_le_mul (by omega) (by omega) (by omega) (by decide)
            have e2 : 0 ≤ x * (2 * at0 + 2137) := Int.mul_nonneg x0 (by omega)
            have e3 : 57037 * at0 * at0 ≤ 57037000000 * 1000000 := Int.mul_le_mul (by omega) (by omega) a0 (by decide)
            have e4 : 0 ≤ 57037 * at0 * at0 := Int.mul_nonneg (by omega) a0
            have pw3 : CPow (x * (2 * at0 + 2137) + 57037 * at0 * at0 + 1879) 3 := ⟨by decide, by decide, by omega⟩
            refine ⟨_, rfl, _, rfl, _, _, rfl, rfl, .inl ⟨by decide, by decide⟩, _, _, rfl, rfl, _, _, rfl, rfl, .inl ⟨by omega, by omega⟩, _, rfl, _, _, rfl, rfl, .inl ⟨by decide, by decide⟩, _, rfl, _, _, rfl, rfl, .inr ⟨by omega, by omega⟩, _, _, rfl, rfl, _, _, rfl, rfl, _, _, rfl, rfl, pw3, .inl ⟨_, rfl, _, _, rfl, rfl, (by show (0 : Int) < 2147483647; decide), ?_⟩⟩
            refine ⟨_, rfl, _, _, rfl, rfl, ⟨by decide, by decide⟩, .inl ⟨_, rfl, _, rfl, _, _, rfl, rfl, mp, ?_⟩⟩
            exact k _ _ (Int.emod_nonneg _ (by omega)) (Int.emod_lt_of_pos _ mp) b3 ⟨⟨at0 + 1, rest, h3, by omega, by omega, r0⟩, b3.seq hcp hc, hcp, hcl⟩
end
end K
namespace K
open PySem L2 Rg
open Evl (pss_cut)
theorem int_at {l : List Int} {i : Nat} {v : V} (h : (l.map V.int)[i]? = some v) : ∃ z, l[i]? = some z ∧ v = .int z := by
  rw [List.getElem?_map] at h
  cases e : l[i]? with
  | none => rw [e] at h; cases h
  | some z => rw [e] at h; exact ⟨z, rfl, (Option.some.inj h).symm⟩
theorem take_snoc {α : Type} {l : List α} {i : Nat} {z : α} (h : l[i]? = some z) : l.take i ++ [z] = l.take (i + 1) := by
  rw [List.take_succ, h]; rfl
theorem sz {n : Nat} (h : n ≤ 100000) : n ≤ sizeLine := Nat.le_trans h (by decide)
theorem szl {n : Nat} (h : n < 100000) : n < sizeLine := Nat.lt_of_lt_of_le h (by decide)
theorem cutV_to (xs : List V) (k : Nat) : cutV xs none (some (k : Int)) = xs.take k := by
  unfold cutV
  rw [HT.sIx_none, HT.sIx_nat, List.drop_zero, Nat.sub_zero]
  rcases Nat.le_total k xs.length with h | h
  · rw [Nat.min_eq_left h]
  · rw [Nat.min_eq_right h, List.take_length, List.take_of_length_le h]
section
variable {P : Program} {w : World} {K : PySem.W.Frag} {mg : Str → Option Value} {base : Heap}
/-! ### the pen -/
def spPen (K : PySem.W.Frag) : Sp := fun vs H Q _ => ∃ (a : Addr) (ns : List Int), vs = [.ref a] ∧ SqL K H a (ns.map V.int) ∧ ns.length ≤ 63 ∧
  ∀ (p : Addr) (e : Addr × List Int) (H' : Hp), Same H H' → H p = none → PenAt K H' p e 0 → Q (.ref p) H'
abbrev nPen : List Str := ["_law_script", "_law_cell"]
theorem scPen : FnScope nPen ["_law_script"] (defScope sLwPen) := ⟨rfl, rfl, rfl, by decide +kernel, rfl, by decide +kernel, by decide +kernel⟩
theorem ok_pen {f : Addr} {fd : FuncData} (F : Fun K "_law_pen" "_law_pen" sLwPen f fd) (T : Bi mg) : FnOk P w K mg base CX0 2 f fd ["_law_script"] (spPen K) := by
  refine F.ok scPen (fun vs H Q E h => ?_) (fun cdv A outer s H vs Q E hr h => ?_)
  · obtain ⟨a, ns, rfl, _⟩ := h
    rfl
  · have nd := scPen.nd
    refine ⟨_, pss_one (ps_ret (pe_lst (pa_cons (pe_lc (own := [("_law_cell", 1)]) (g := gName 1) (tt := tYes) rfl nd (pi_list (pe_slice sl_list (pv 0) po_none (po_some pe_int)))
      (blkOk_by (N := nPen) (sc := defScope sLwPen) (by decide +kernel)) (fun _ _ _ _ _ => pg_name (i := 1) nd rfl (Or.inl rfl)) (fun _ _ _ _ _ => pts_nil)
      (fun _ _ _ _ _ => pe_callTy call_int1 (by rfl) T.int (by decide +kernel) (pa_cons (pv 1) pa_nil))) (pa_cons pe_int (pa_cons pe_int pa_nil))))), ?_⟩
    obtain ⟨a, ns, rfl, hS, hl, k⟩ := h
    refine ⟨_, rfl, _, rfl, a, _, rfl, hS, fun q hq => ?_⟩
    have e0 : cutV (ns.map V.int) none (some 60) = (ns.take 60).map V.int := by
      rw [show (60 : Int) = ((60 : Nat) : Int) from rfl, cutV_to, List.map_take]
    rw [e0]
    refine ⟨q, rfl, ⟨_, SqL.of upd_same⟩, fun D hD => ?_⟩
    have hqD : q ≠ D := ne_of_none upd_same hD
    have sD : Same (upd H q (.lst ((ns.take 60).map V.int))) (upd (upd H q (.lst ((ns.take 60).map V.int))) D (.lst [])) := (Same.refl _).new hD
    refine lc_list (K := K) (a := q) (xs := (ns.take 60).map V.int) (fun i H' => Same (upd H q (.lst ((ns.take 60).map V.int))) H' ∧ H' D = some (.lst (((ns.take 60).take i).map V.int)))
      ⟨sD, upd_same⟩ (fun i H' _ p => p.1.seq (SqL.of upd_same)) ?_ ?_
    · rintro i x H' hi ⟨s1, h1⟩
      obtain ⟨z, hz, rfl⟩ := int_at hi
      refine ⟨rfl, _, rfl, .inl ⟨_, rfl, _, h1, szl (by rw [List.length_map, List.length_take, List.length_take]; omega), s1.mut hD, ?_⟩⟩
      rw [← take_snoc hz, List.map_append]
      exact upd_same
    · rintro H' ⟨s1, h1⟩
      rw [List.length_map, List.take_length] at h1
      refine ⟨(by show 3 ≤ sizeLine; decide), fun p hp => ?_⟩
      have nD : H D = none := by
        rw [upd_ne hqD.symm] at hD
        exact hD
      have s2 : Same H H' := fun b o e => s1 b o (by rw [upd_ne (ne_of_none e hq)]; exact e)
      refine k p (D, ns.take 60) _ (s2.new hp) (s2.free hp) ⟨⟨0, 0, upd_same, by decide, by decide, by decide⟩, SqL.of (by rw [upd_ne (ne_of_none h1 hp)]; exact h1), ne_of_none h1 hp, by rw [List.length_take]; omega⟩
end
end K
namespace K
open PySem L2 Rg
open Evl (pss_cut)
section
variable {P : Program} {w : World} {K : PySem.W.Frag} {mg : Str → Option Value} {base : Heap}
/-! ### one of some things -/
def spPick (K : PySem.W.Frag) : Sp := fun vs H Q _ => ∃ (p l : Addr) (e : Addr × List Int) (xs : List V) (n : Nat), vs = [.ref p, .ref l] ∧ SqL K H l xs ∧ l ≠ p ∧ 1 ≤ xs.length ∧ xs.length ≤ 1000 ∧ n < 1000000 ∧ PenAt K H p e n ∧
  ∀ (i : Nat) (v : V) (H' : Hp), xs[i]? = some v → But p H H' → PenAt K H' p e (n + 1) → Q v H'
abbrev nPick : List Str := ["_law_pen_here", "_law_some"]
theorem scPick : FnScope nPick ["_law_pen_here", "_law_some"] (defScope sLwPick) := ⟨rfl, rfl, rfl, by decide +kernel, rfl, by decide +kernel, by decide +kernel⟩
/-- the draw as a def called by its name -/
structure DrawAt (P : Program) (w : World) (K : PySem.W.Frag) (mg : Str → Option Value) (base : Heap) (f : Addr) (fd : FuncData) : Prop where
  ok : FnOk P w K mg base CX0 2 f fd ["_law_pen_here", "_law_many"] (spDraw K)
  g : mg "_law_draw" = some (.ref f)
  kp : PySem.W.keepIn K (.ref f) = true
  b : Binds K fd ["_law_pen_here", "_law_many"] []
theorem ok_pick {f fD : Addr} {fd fdD : FuncData} (F : Fun K "_law_pick" "_law_pick" sLwPick f fd) (T : Bi mg) (D : DrawAt P w K mg base fD fdD) : FnOk P w K mg base CX0 3 f fd ["_law_pen_here", "_law_some"] (spPick K) := by
  refine F.ok scPick (fun vs H Q E h => ?_) (fun cdv A outer s H vs Q E hr h => ?_)
  · obtain ⟨p, l, e, xs, n, rfl, _⟩ := h
    rfl
  · have nd := scPick.nd
    refine ⟨_, pss_one (ps_ret (pe_ix ix_list (pv 1) (pe_call D.ok hr rfl D.g D.kp D.b .nil pass0 (pa_cons (pv 0) (pa_cons (pe_callB call_len_seq (by rfl) T.len PySem.boot_len (pa_cons (pv 1) pa_nil)) pa_nil))) (fun _ _ => rfl))), ?_⟩
    obtain ⟨p, l, e, xs, n, rfl, hl, hlp, l1, l2, hn, pen, k⟩ := h
    refine ⟨_, rfl, _, rfl, _, rfl, l, xs, rfl, .inl hl, p, e, _, n, rfl, by omega, by omega, hn, pen, fun r H' r0 r1 b pen' => ?_⟩
    have hr : r.toNat < xs.length := by omega
    exact ⟨l, xs, r, _, rfl, rfl, b.seq hlp hl, at_of (j := r.toNat) (by omega) (List.getElem?_eq_getElem hr), k _ _ _ (List.getElem?_eq_getElem hr) b pen'⟩
/-! ### things in a drawn order -/
def spMixed (K : PySem.W.Frag) : Sp := fun vs H Q _ => ∃ (p l : Addr) (e : Addr × List Int) (xs : List V) (n : Nat), vs = [.ref p, .ref l] ∧ SqL K H l xs ∧ l ≠ p ∧ xs.length ≤ 30 ∧ n < 900000 ∧ PenAt K H p e n ∧
  ∀ (q : Addr) (ys : List V) (H' : Hp), ys.Perm xs → H q = none → But p H H' → H' q = some (.lst ys) → PenAt K H' p e (n + xs.length) → Q (.ref q) H'
abbrev nMixed : List Str := ["_law_pen_here", "_law_items", "_law_left", "_law_found", "_law_turn"]
theorem scMixed : FnScope nMixed ["_law_pen_here", "_law_items"] (defScope sLwMixed) := ⟨rfl, rfl, rfl, by decide +kernel, rfl, by decide +kernel, by decide +kernel⟩
theorem perm_take {l d : List V} {i : Nat} {x : V} (h : l[i]? = some x) : (d ++ [x] ++ l.eraseIdx i).Perm (d ++ l) := by
  obtain ⟨hi, rfl⟩ := List.getElem?_eq_some_iff.mp h
  rw [List.append_assoc]
  refine List.Perm.append_left d ?_
  rw [List.eraseIdx_eq_take_drop_succ]
  have e : l = l.take i ++ l[i] :: l.drop (i + 1) := by
    rw [List.getElem_cons_drop, List.take_append_drop]
  calc [l[i]] ++ (l.take i ++ l.drop (i + 1)) = l[i] :: (l.take i ++ l.drop (i + 1)) := rfl
    _ |>.Perm (l.take i ++ l[i] :: l.drop (i + 1)) := List.perm_middle.symm
    _ |>.Perm l := by rw [← e]
theorem ok_mixed {f fD : Addr} {fd fdD : FuncData} (F : Fun K "_law_mixed" "_law_mixed" sLwMixed f fd) (T : Bi mg) (D : DrawAt P w K mg base fD fdD) : FnOk P w K mg base CX0 3 f fd ["_law_pen_here", "_law_items"] (spMixed K) := by
  refine F.ok scMixed (fun vs H Q E h => ?_) (fun cdv A outer s H vs Q E hr h => ?_)
  · obtain ⟨p, l, e, xs, n, rfl, _⟩ := h
    rfl
  · have nd := scMixed.nd
    refine ⟨_, pss_cons (ps_par (i := 2) (j := 3) (by rfl) nd rfl rfl (by decide) rfl rfl (pa_cons (pe_callTy call_list_of (by rfl) T.list (by decide +kernel) (pa_cons (pv 1) pa_nil)) (pa_cons (pe_lst pa_nil) pa_nil)) (by rfl))
      (pss_cons (ps_for PassesOwn.never rfl (pi_range1 (by rfl) T.range (pa_cons (pe_callB call_len_seq (by rfl) T.len PySem.boot_len (pa_cons (pv 1) pa_nil)) pa_nil)) (pg_name (i := 4) nd rfl (Or.inl rfl))
        (pss_one (ps_expr (pe_bm PySem.F.plainAttrs_list PySem.F.slot_list_append PySem.F.type_list_append mt_append (pv 3)
          (pa_cons (pe_bm PySem.F.plainAttrs_list PySem.F.slot_list_pop PySem.F.type_list_pop mt_popAt (pv 2)
            (pa_cons (pe_call D.ok hr rfl D.g D.kp D.b .nil pass0 (pa_cons (pv 0) (pa_cons (pe_callB call_len_seq (by rfl) T.len PySem.boot_len (pa_cons (pv 2) pa_nil)) pa_nil))) pa_nil)) pa_nil)))))
      (pss_one (ps_ret (pv 3)))), ?_⟩
    obtain ⟨p, l, e, xs, n, rfl, hl, hlp, hxl, hn, pen, k⟩ := h
    refine ⟨_, rfl, l, xs, rfl, .inl hl, fun a ha => ⟨by show 0 ≤ sizeLine; decide, fun g hg => ?_⟩⟩
    have hga : g ≠ a := (ne_of_none upd_same hg).symm
    have hg0 : H g = none := by
      rw [upd_ne hga] at hg
      exact hg
    have s1 : Same H (upd H a (.lst xs)) := (Same.refl H).new ha
    have s2 : Same H (upd (upd H a (.lst xs)) g (.lst [])) := s1.new hg
    refine ⟨_, _, rfl, _, rfl, l, xs, rfl, .inl (s2.seq hl), _, rfl, by omega, by omega, ?_⟩
    refine for_range (lo := 0) (n := ((xs.length : Nat) : Int).toNat) (fun i σ H' => ∃ (rest done : List V) (t : Option V), σ = [some (.ref p), some (.ref l), some (.ref a), some (.ref g), t] ∧ But p H H' ∧ H' a = some (.lst rest) ∧ H' g = some (.lst done) ∧
      (done ++ rest).Perm xs ∧ done.length = i ∧ PenAt K H' p e (n + i)) ⟨xs, [], none, rfl, But.of s2, by rw [upd_ne hga.symm, upd_same], upd_same, List.Perm.refl _, rfl, pen.same s2⟩ ?_ ?_
    · rintro i σ H' hi ⟨rest, done, t, rfl, b, h1, h2, pm, dl, pen'⟩
      have hi' : i < xs.length := by omega
      have hlen := pm.length_eq
      rw [List.length_append] at hlen
      have hap : a ≠ p := pen.ne ha
      have hgp : g ≠ p := pen.ne hg0
      have r1 : 1 ≤ rest.length := by omega
      refine ⟨_, rfl, .inl ⟨rfl, _, SqL.of h2⟩, _, rfl, .inl ⟨rfl, _, SqL.of h1⟩, _, rfl, _, rfl, a, rest, rfl, .inl (SqL.of h1), p, e, _, n + i, rfl, by omega, by omega, by omega, pen', fun r H2 r0 rl b2 pen2 => ?_⟩
      have hrl : r.toNat < rest.length := by omega
      have e1 : H2 a = some (.lst rest) := b2 a _ hap h1
      have e2 : H2 g = some (.lst done) := b2 g _ hgp h2
      refine ⟨a, rest, r, r.toNat, rest[r.toNat], rfl, rfl, e1, by omega, by omega, seqIndex_of r0 rl, List.getElem?_eq_getElem hrl, g, done, _, rfl, rfl, by rw [upd_ne hga]; exact e2, szl (by omega), ?_⟩
      have b3 : But p H (upd (upd H2 a (.lst (rest.eraseIdx r.toNat))) g (.lst (done ++ [rest[r.toNat]]))) := ((b.trans b2).mut ha).mut hg0
      refine ⟨rest.eraseIdx r.toNat, done ++ [rest[r.toNat]], _, rfl, b3, by rw [upd_ne hga.symm, upd_same], upd_same, (perm_take (List.getElem?_eq_getElem hrl)).trans pm, by rw [List.length_append, dl]; rfl, ?_⟩
      exact pen.mut (pen.mut pen2 (b.trans b2) ha) ((b.trans b2).mut ha) hg0
    · rintro σ H' ⟨rest, done, t, rfl, b, h1, h2, pm, dl, pen'⟩
      have hlen := pm.length_eq
      rw [List.length_append] at hlen
      have er : rest = [] := List.eq_nil_of_length_eq_zero (by omega)
      subst er
      rw [List.append_nil] at pm
      refine ⟨_, rfl, k g done H' pm hg0 b h2 (by simpa using pen')⟩
end
end K
namespace K
open PySem L2 Rg
open Evl (pss_cut)
/-- each from 1 to m -/
def Bd (m : Int) (ls : List Int) : Prop := ∀ x ∈ ls, 1 ≤ x ∧ x ≤ m
theorem Bd.snoc {m x : Int} {ls : List Int} (h : Bd m ls) (h1 : 1 ≤ x) (h2 : x ≤ m) : Bd m (ls ++ [x]) := fun y hy => by
  rcases List.mem_append.mp hy with z | z
  · exact h y z
  · rw [List.mem_singleton.mp z]
    exact ⟨h1, h2⟩
theorem Bd.le {m k : Int} {ls : List Int} (h : Bd m ls) (hk : m ≤ k) : Bd k ls := fun x hx => ⟨(h x hx).1, by have := (h x hx).2; omega⟩
theorem Bd.set {m x : Int} {ls : List Int} {i : Nat} (h : Bd m ls) (h1 : 1 ≤ x) (h2 : x ≤ m) : Bd m (ls.set i x) := fun y hy => by
  rcases List.mem_or_eq_of_mem_set hy with z | z
  · exact h y z
  · rw [z]; exact ⟨h1, h2⟩
theorem Bd.sum {m : Int} : ∀ {ls : List Int}, Bd m ls → (ls.length : Int) ≤ ls.sum ∧ ls.sum ≤ m * ls.length
  | [], _ => by simp
  | x :: ls, h => by
    have ih := Bd.sum (m := m) (ls := ls) fun y hy => h y (List.mem_cons_of_mem _ hy)
    have hx := h x (List.mem_cons_self ..)
    rw [List.sum_cons, List.length_cons]
    have e : m * ((ls.length + 1 : Nat) : Int) = m * ls.length + m := by push_cast; rw [Int.mul_add, Int.mul_one]
    rw [e]
    push_cast
    omega
theorem ixN_at {n : Nat} {r : Int} (h0 : 0 ≤ r) (h1 : r < n) : ixN n r = some r.toNat := by
  unfold ixN
  rw [if_pos h0, if_pos h1]
theorem int_get {ls : List Int} {i : Nat} (h : i < ls.length) : (ls.map V.int)[i]? = some (V.int ls[i]) := by
  rw [List.getElem?_map, List.getElem?_eq_getElem h]; rfl
theorem set_map (ls : List Int) (i : Nat) (x : Int) : (ls.map V.int).set i (V.int x) = (ls.set i x).map V.int := by
  rw [List.map_set]
theorem erase_sum : ∀ {ls : List Int} {i : Nat} (h : i < ls.length), (ls.eraseIdx i).sum = ls.sum - ls[i]
  | x :: ls, 0, h => by simp [List.sum_cons]; omega
  | x :: ls, i + 1, h => by
    have h' : i < ls.length := by simpa using h
    have ih := erase_sum h'
    rw [List.eraseIdx_cons_succ, List.sum_cons, List.sum_cons, ih, List.getElem_cons_succ]
    omega
theorem abs_sum {m : Int} (hm : 0 ≤ m) : ∀ {ls : List Int}, (∀ x ∈ ls, -m ≤ x ∧ x ≤ m) → -(m * ls.length) ≤ ls.sum ∧ ls.sum ≤ m * ls.length
  | [], _ => by simp
  | x :: ls, h => by
    have ih := abs_sum hm (ls := ls) fun y hy => h y (List.mem_cons_of_mem _ hy)
    have hx := h x (List.mem_cons_self ..)
    have e : m * ((ls.length + 1 : Nat) : Int) = m * ls.length + m := by push_cast; rw [Int.mul_add, Int.mul_one]
    rw [List.sum_cons, List.length_cons, e]
    omega
section
variable {P : Program} {w : World} {K : PySem.W.Frag} {mg : Str → Option Value} {base : Heap}
def spLengths (K : PySem.W.Frag) : Sp := fun vs H Q _ => ∃ (p : Addr) (e : Addr × List Int) (n : Nat), vs = [.ref p] ∧ n < 800000 ∧ PenAt K H p e n ∧
  ∀ (q : Addr) (ls : List Int) (H' : Hp), 3 ≤ ls.length → ls.length ≤ 8 → Bd 1000000 ls → H q = none → But p H H' → H' q = some (.lst (ls.map V.int)) → PenAt K H' p e (n + 30) → Q (.ref q) H'
abbrev nLengths : List Str := ["_law_pen_here", "_law_many", "_law_way", "_law_most", "_law_found", "_law_at", "_law_rest", "_law_signed", "_law_bar", "_law_length"]
theorem scLengths : FnScope nLengths ["_law_pen_here"] (defScope sLwLengths) := ⟨rfl, rfl, rfl, by decide +kernel, rfl, by decide +kernel, by decide +kernel⟩
theorem ok_lengths {f fD : Addr} {fd fdD : FuncData} (F : Fun K "_law_lengths" "_law_lengths" sLwLengths f fd) (T : Bi mg) (D : DrawAt P w K mg base fD fdD) : FnOk P w K mg base CX0 3 f fd ["_law_pen_here"] (spLengths K) := by
  refine F.ok scLengths (fun vs H Q E h => ?_) (fun cdv A outer s H vs Q E hr h => ?_)
  · obtain ⟨p, e, n, rfl, _⟩ := h
    rfl
  · have nd := scLengths.nd
    refine ⟨_, pss_cons (ps_par (i := 1) (j := 2) (by rfl) nd rfl rfl (by decide) rfl rfl (pa_cons (pe_op op_add pe_int (pe_call D.ok hr rfl D.g D.kp D.b .nil pass0 (pa_cons (pv 0) (pa_cons pe_int pa_nil)))) (pa_cons (pe_call D.ok hr rfl D.g D.kp D.b .nil pass0 (pa_cons (pv 0) (pa_cons pe_int pa_nil))) pa_nil)) (by rfl))
      (pss_cut (ps_set (i := 3) nd rfl (Or.inr rfl) (pe_ix ix_list (pe_lst (pa_cons pe_int (pa_cons pe_int (pa_cons pe_int (pa_cons pe_int (pa_cons pe_int (pa_cons pe_int (pa_cons pe_int pa_nil)))))))) (pv 2) (fun _ _ => rfl)))
      (pss_cons (ps_setLc (i := 4) (own := [("_law_bar", 8)]) (g := gName 8) rfl nd rfl rfl (sw_true rfl rfl rfl (by decide +kernel)) (pi_range1 (by rfl) T.range (pa_cons (pv 1) pa_nil)) (blkOk_by (N := nLengths) (sc := defScope sLwLengths) (by decide +kernel))
        (fun _ _ _ _ _ => pg_name (i := 8) nd rfl (Or.inl rfl)) (fun _ _ _ _ _ => pts_nil) (fun _ _ _ _ _ => pe_op op_add pe_int (pe_call D.ok hr rfl D.g D.kp D.b .nil pass0 (pa_cons (pv 0) (pa_cons (pv 3) pa_nil)))))
      (pss_cons (ps_set (i := 5) nd rfl (Or.inr rfl) (pe_call D.ok hr rfl D.g D.kp D.b .nil pass0 (pa_cons (pv 0) (pa_cons (pv 1) pa_nil))))
      (pss_cons (ps_set (i := 6) nd rfl (Or.inl rfl) (pe_op op_sub (pe_callB (cr_sum rfl) (by rfl) T.sum (by decide +kernel) (pa_cons (pv 4) pa_nil)) (pe_ix ix_list (pv 4) (pv 5) (fun _ _ => rfl))))
      (pss_cut (ps_if (pt_cmpR op_eq (pv 2) pe_int (nomark _)) (pss_one (ps_asg (pe_op op_add (pv 6) (pe_call D.ok hr rfl D.g D.kp D.b .nil pass0 (pa_cons (pv 0) (pa_cons pe_int pa_nil)))) (pg_sub (pv 4) (pv 5) set_list))) pss_nil)
      (pss_cut (ps_if (pt_cmpR op_eq (pv 2) pe_int (nomark _))
        (pss_cons (ps_set (i := 7) nd rfl (Or.inl rfl) (pe_callB (cr_sum rfl) (by rfl) T.sum (by decide +kernel) (pa_cons (pe_lc (own := [("_law_bar", 8), ("_law_length", 9)]) (g := gTup K 2 (gCons (gName 8) (gCons (gName 9) gNil))) rfl nd (pi_enum (by rfl) T.enumerate (pa_cons (pv 4) pa_nil)) (blkOk_by (N := nLengths) (sc := defScope sLwLengths) (by decide +kernel))
          (fun _ _ _ _ _ => pg_tup rfl (pgs_cons (pg_name (i := 8) nd rfl (Or.inl rfl)) (pgs_cons (pg_name (i := 9) nd rfl (Or.inl rfl)) pgs_nil))) (fun _ _ _ _ _ => pts_one (pt_cmpR op_ne (pv 8) (pv 5) (nomark _)))
          (fun _ _ _ _ _ => pe_op op_mul (pv 9) (pe_op op_sub pe_int (pe_op op_mul pe_int (pe_call D.ok hr rfl D.g D.kp D.b .nil pass0 (pa_cons (pv 0) (pa_cons pe_int pa_nil))))))) pa_nil)))
        (pss_one (ps_asg (pe_callB (call_max2 rfl) (by rfl) T.max (by decide +kernel) (pa_cons pe_int (pa_cons (pe_callB call_abs (by rfl) T.abs (by decide +kernel) (pa_cons (pv 7) pa_nil)) pa_nil))) (pg_sub (pv 4) (pv 5) set_list)))) pss_nil)
      (pss_one (ps_ret (pv 4))))))))), ?_⟩
    obtain ⟨p, e, n, rfl, hn, pen, k⟩ := h
    refine ⟨_, rfl, p, e, 6, n, rfl, by decide, by decide, by omega, pen, fun r1 H1 r1a r1b b1 pen1 => ?_⟩
    refine ⟨_, _, rfl, rfl, _, rfl, p, e, 7, n + 1, rfl, by decide, by decide, by omega, pen1, fun r2 H2 r2a r2b b2 pen2 => ⟨_, _, rfl, ?_⟩⟩
    have b12 := b1.trans b2
    refine ⟨fun σ' H' => ∃ most : Int, 1 ≤ most ∧ most ≤ 1000000 ∧ (r2 = 4 → most = 4) ∧ (r2 = 5 → most = 9) ∧ σ' = [some (.ref p), some (.int (3 + r1)), some (.int r2), some (.int most), none, none, none, none, none, none] ∧ But p H H' ∧ PenAt K H' p e (n + 2), ?_, ?_⟩
    · refine ⟨(by show 7 ≤ sizeLine; decide), fun q hq => ?_⟩
      have hb := (b12.new hq : But p H (upd H2 q (.lst [.int 9, .int 9, .int 3, .int 1000000, .int 4, .int 9, .int 2])))
      have hp := (pen2.put hq : PenAt K (upd H2 q (.lst [.int 9, .int 9, .int 3, .int 1000000, .int 4, .int 9, .int 2])) p e (n + 1 + 1))
      have c7 : r2 = 0 ∨ r2 = 1 ∨ r2 = 2 ∨ r2 = 3 ∨ r2 = 4 ∨ r2 = 5 ∨ r2 = 6 := by omega
      rcases c7 with c | c | c | c | c | c | c <;> subst c <;> refine ⟨_, rfl, q, _, _, _, rfl, rfl, SqL.of upd_same, rfl, ?_⟩ <;> exact ⟨_, by decide, by decide, by decide, by decide, rfl, hb, hp⟩
    · rintro σ' H3 ⟨most, m1, m2, m4, m5, rfl, b3, pen3⟩
      have hmany : (3 + r1).toNat ≤ 8 := by omega
      have hmn : (((3 + r1).toNat : Nat) : Int) = 3 + r1 := by omega
      -- found = [1 + draw(pen, most) for bar in range(many)]
      refine ⟨_, rfl, _, rfl, by omega, by omega, fun D hD => ?_⟩
      have hDp : D ≠ p := pen3.ne hD
      have hD0 : H D = none := b3.free hDp hD
      refine lc_range (lo := 0) (n := (3 + r1).toNat) (fun i H' => ∃ ls : List Int, ls.length = i ∧ Bd most ls ∧ H' D = some (.lst (ls.map V.int)) ∧ But p H H' ∧ PenAt K H' p e (n + 2 + i)) ⟨[], rfl, fun x hx => (by cases hx), upd_same, b3.mut hD0, pen.mut pen3 b3 hD0⟩ ?_ ?_
      · rintro i H' hi ⟨ls, ll, bd, hd, b, pen'⟩
        refine ⟨rfl, _, rfl, _, rfl, p, e, most, n + 2 + i, rfl, m1, m2, by omega, pen', fun r H4 q0 q1 b4 pen4 => ⟨_, _, rfl, rfl, _, b4 D _ hDp hd, szl (by rw [List.length_map]; omega), ls ++ [1 + r], by rw [List.length_append, ll]; rfl, bd.snoc (by omega) (by omega), ?_, (b.trans b4).mut hD0, pen.mut pen4 (b.trans b4) hD0⟩⟩
        rw [List.map_append]
        exact upd_same
      · rintro H4 ⟨ls, ll, bd, hd, b4, pen4⟩
        have l3 : 3 ≤ ls.length := by omega
        have l8 : ls.length ≤ 8 := by omega
        -- at = draw(pen, many)
        refine ⟨_, rfl, _, rfl, p, e, 3 + r1, _, rfl, by omega, by omega, by omega, pen4, fun r5 H5 r5a r5b b5 pen5 => ?_⟩
        have hd5 := b5 D _ hDp hd
        have b45 := b4.trans b5
        have h5 : r5.toNat < ls.length := by omega
        have h5' : r5 < (ls.length : Int) := by omega
        have hsum := bd.sum
        have hat := bd _ (List.getElem_mem h5)
        have hsum2 := Bd.sum (m := most) (ls := ls.eraseIdx r5.toNat) fun x hx => bd x (List.mem_of_mem_eraseIdx hx)
        have hser : (ls.eraseIdx r5.toNat).sum = ls.sum - ls[r5.toNat] := by
          exact erase_sum h5
        -- rest = sum(found) - found[at]
        refine ⟨_, rfl, D, ls, rfl, SqL.of hd5, _, rfl, _, rfl, D, _, r5, _, rfl, rfl, SqL.of hd5, at_of (j := r5.toNat) (by omega) (int_get h5), _, _, rfl, rfl, ?_⟩
        refine ⟨fun σ' H' => ∃ (ls' : List Int), ls'.length = ls.length ∧ Bd 1000000 ls' ∧ (r2 = 5 → Bd 9 ls') ∧ σ' = [some (.ref p), some (.int (3 + r1)), some (.int r2), some (.int most), some (.ref D), some (.int r5), some (.int (ls.sum - ls[r5.toNat])), none, none, none] ∧ But p H H' ∧ H' D = some (.lst (ls'.map V.int)) ∧ PenAt K H' p e (n + 12), ?_, ?_⟩
        · refine ⟨_, rfl, rfl, _, rfl, ?_⟩
          refine ite2 (fun c => ?_) (fun c => ?_)
          · have c4 : r2 = 4 := by simpa using c
            have e4 := m4 c4
            subst e4
            refine ⟨_, rfl, _, rfl, p, e, 3, _, rfl, by decide, by decide, by omega, pen5, fun r6 H6 r6a r6b b6 pen6 => ⟨_, _, rfl, rfl, _, rfl, _, rfl, D, _, r5, r5.toNat, rfl, rfl, b6 D _ hDp hd5, ixN_at r5a (by rw [List.length_map]; exact h5'), ?_⟩⟩
            rw [set_map]
            have le : (ls.eraseIdx r5.toNat).length = ls.length - 1 := by rw [List.length_eraseIdx_of_lt h5]
            refine ⟨ls.set r5.toNat (ls.sum - ls[r5.toNat] + r6), by rw [List.length_set], (bd.le (by decide)).set (by omega) (by omega), fun z => by omega, rfl, (b45.trans b6).mut hD0, upd_same, (pen.mut pen6 (b45.trans b6) hD0).mono (by omega)⟩
          · exact ⟨ls, rfl, bd.le m2, fun z => by rw [m5 z] at bd; exact bd, rfl, b45, hd5, pen5.mono (by omega)⟩
        · rintro σ' H6 ⟨ls6, ll6, bd6, bd65, rfl, b6, hd6, pen6⟩
          refine ⟨fun σ' H' => ∃ (ls' : List Int) (u7 : Option V), ls'.length = ls.length ∧ Bd 1000000 ls' ∧ σ' = [some (.ref p), some (.int (3 + r1)), some (.int r2), some (.int most), some (.ref D), some (.int r5), some (.int (ls.sum - ls[r5.toNat])), u7, none, none] ∧ But p H H' ∧ H' D = some (.lst (ls'.map V.int)) ∧ PenAt K H' p e (n + 30), ?_, ?_⟩
          · refine ⟨_, rfl, rfl, _, rfl, ?_⟩
            refine ite2 (fun c => ?_) (fun c => ?_)
            · have c5 : r2 = 5 := by simpa using c
              have b9 := bd65 c5
              -- signed = sum([length * (1 - 2 * draw(pen, 2)) for bar, length in enumerate(found) if bar != at])
              refine ⟨_, rfl, D, _, rfl, SqL.of hd6, fun G hG => ?_⟩
              have hGp : G ≠ p := pen6.ne hG
              have hG0 : H G = none := b6.free hGp hG
              have hDG : D ≠ G := ne_of_none hd6 hG
              refine lc_it walk_enum (fun i H' => ∃ ms : List Int, ms.length ≤ i ∧ (∀ x ∈ ms, -9 ≤ x ∧ x ≤ 9) ∧ H' G = some (.lst (ms.map V.int)) ∧ H' D = some (.lst (ls6.map V.int)) ∧ But p H H' ∧ PenAt K H' p e (n + 12 + i))
                ⟨[], Nat.le_refl _, fun x hx => (by cases hx), upd_same, by rw [upd_ne hDG]; exact hd6, b6.mut hG0, pen.mut pen6 b6 hG0⟩ (fun i H' _ ⟨_, _, _, _, h, _⟩ => SqL.of h) ?_ ?_
              · rintro i x H7 H8 hi ⟨ms, ml, mb, hg, hd7, b7, pen7⟩ ⟨U, x1, x2, rfl, hU, rfl, e1, e2⟩
                obtain rfl := (Option.some.inj e1).symm
                obtain ⟨z, hz, rfl⟩ := int_at e2
                rw [List.length_map] at hi
                have hUp : U ≠ p := pen7.ne hU
                have hU0 : H U = none := b7.free hUp hU
                have hGU : G ≠ U := ne_of_none hg hU
                have hDU : D ≠ U := ne_of_none hd7 hU
                have b8 : But p H (upd H7 U (.tup [.int (i : Nat), .int z])) := b7.mut hU0
                have pen8 : PenAt K (upd H7 U (.tup [.int (i : Nat), .int z])) p e (n + 12 + i) := pen.mut pen7 b7 hU0
                have hg8 : upd H7 U (.tup [.int (i : Nat), .int z]) G = some (.lst (ms.map V.int)) := by rw [upd_ne hGU]; exact hg
                have hd8 : upd H7 U (.tup [.int (i : Nat), .int z]) D = some (.lst (ls6.map V.int)) := by rw [upd_ne hDU]; exact hd7
                refine ⟨U, _, rfl, .inl (.inl upd_same), rfl, _, _, rfl, _, _, rfl, rfl, rfl, _, rfl, _, rfl, rfl, _, rfl, ?_⟩
                refine ite2 (fun c => ?_) (fun c => ?_)
                · refine ⟨_, rfl, _, rfl, p, e, 2, n + 12 + i, rfl, by decide, by decide, by omega, pen8, fun r H9 q0 q1 b9' pen9 => ⟨_, _, rfl, rfl, .inl ⟨by decide, by decide⟩, _, _, rfl, rfl, ?_⟩⟩
                  have hz9 := b9 z (List.mem_of_getElem? hz)
                  refine ⟨_, _, rfl, rfl, .inl ⟨by omega, by omega⟩, _, b9' G _ hGp hg8, szl (by rw [List.length_map]; omega), ms ++ [z * (1 - 2 * r)], by rw [List.length_append]; simp; omega, ?_, ?_, by rw [upd_ne hDG]; exact b9' D _ hDp hd8, (b8.trans b9').mut hG0, pen.mut pen9 (b8.trans b9') hG0⟩
                  · intro y hy
                    rcases List.mem_append.mp hy with q | q
                    · exact mb y q
                    · rw [List.mem_singleton.mp q]
                      have hr : r = 0 ∨ r = 1 := by omega
                      rcases hr with rfl | rfl <;> omega
                  · rw [List.map_append]
                    exact upd_same
                · exact ⟨ms, by omega, mb, hg8, hd8, b8, pen8.mono (by omega)⟩
              · rintro H7 ⟨ms, ml, mb, hg, hd7, b7, pen7⟩
                rw [List.length_map] at ml
                have hs := abs_sum (by decide) mb
                refine ⟨G, ms, rfl, SqL.of hg, ?_⟩
                -- found[at] = max(1, abs(signed))
                refine ⟨_, rfl, _, rfl, _, _, rfl, _, rfl, _, rfl, D, _, r5, r5.toNat, rfl, rfl, hd7, ixN_at r5a (by rw [List.length_map]; omega), ?_⟩
                rw [set_map]
                refine ⟨_, _, by rw [List.length_set]; exact ll6, bd6.set ?_ ?_, rfl, b7.mut hD0, upd_same, (pen.mut pen7 b7 hD0).mono (by rw [List.length_map]; omega)⟩
                · split <;> split <;> omega
                · split <;> split <;> omega
            · exact ⟨ls6, none, ll6, bd6, rfl, b6, hd6, pen6.mono (by omega)⟩
          · rintro σ' H8 ⟨ls8, u7, ll8, bd8, rfl, b8, hd8, pen8⟩
            exact ⟨_, rfl, k D ls8 H8 (by omega) (by omega) bd8 hD0 b8 hd8 pen8⟩
end
end K
namespace K
open PySem L2 Rg
open Evl (pss_cut)
/-- the kinds that are asked for -/
def kinds : List String := ["NoneType", "bool", "int", "str", "list", "tuple", "dict"]
theorem kit_int : ∀ k ∈ kinds, kitB k "int" = some (decide (k = "int" ∨ k = "bool")) := by decide +kernel
theorem kit_bool : ∀ k ∈ kinds, kitB k "bool" = some (decide (k = "bool")) := by decide +kernel
theorem kit_list : ∀ k ∈ kinds, kitB k "list" = some (decide (k = "list")) := by decide +kernel
theorem kit_tuple : ∀ k ∈ kinds, kitB k "tuple" = some (decide (k = "tuple")) := by decide +kernel
/-- v is of the kind k -/
def Knd (K : PySem.W.Frag) (H : Hp) (v : V) (k : String) : Prop := TyX K H v (.type k) ∧ k ∈ kinds
section
variable {P : Program} {w : World} {K : PySem.W.Frag} {mg : Str → Option Value} {base : Heap}
theorem Knd.int {H : Hp} {i : Int} : Knd K H (.int i) "int" := ⟨.base (.int i), by decide⟩
theorem tyx_same {H H' : Hp} {v : V} {t : Value} (h : TyX K H v t) (s : Same H H') : TyX K H' v t := by
  cases h with
  | base h =>
    refine .base ?_
    cases h with
    | non => exact .non
    | bl x => exact .bl x
    | int x => exact .int x
    | str x => exact .str x
    | flt x => exact .flt x
    | lst e => exact .lst (s _ _ e)
    | frz e => exact .frz (s _ _ e)
    | tup e => exact .tup (s _ _ e)
    | dK e => exact .dK (s _ _ e)
    | dT e => exact .dT (s _ _ e)
    | ins e cl ha hn htk hm => exact .ins (s _ _ e) cl ha hn htk hm
  | byt b => exact .byt b
  | set e => exact .set (s _ _ e)
  | kList e c => exact .kList e c
  | kTuple e c => exact .kTuple e c
  | kDict e c => exact .kDict e c
  | fTuple e => exact .fTuple (s _ _ e)
  | fDict e => exact .fDict (s _ _ e)
theorem Knd.same {H H' : Hp} {v : V} {k : String} (h : Knd K H v k) (s : Same H H') : Knd K H' v k := ⟨tyx_same h.1 s, h.2⟩
/-! ### is_integer -/
def spIsInt (K : PySem.W.Frag) : Sp := fun vs H Q _ => ∃ (v : V) (k : String), vs = [v] ∧ Knd K H v k ∧ Q (.bl (decide (k = "int"))) H
theorem scIsInt : FnScope ["value"] ["value"] (defScope sIsInteger) := ⟨rfl, rfl, rfl, by decide +kernel, rfl, by decide +kernel, by decide +kernel⟩
theorem ok_isInt {f : Addr} {fd : FuncData} (F : Fun K "is_integer" "is_integer" sIsInteger f fd) (T : Bi mg) : FnOk P w K mg base CX0 1 f fd ["value"] (spIsInt K) := by
  refine F.ok scIsInt (fun vs H Q E h => ?_) (fun cdv A outer s H vs Q E hr h => ?_)
  · obtain ⟨v, k, rfl, _⟩ := h
    rfl
  · refine ⟨_, pss_one (ps_ret (pe_and (pe_callB call_isi (by rfl) T.isinstance (by decide +kernel) (pa_cons (pv 0) (pa_cons (pe_bltn (v := .ty "int") (u := .type "int") (by rfl) T.int (by decide +kernel) rfl) pa_nil)))
      (pe_one (pe_not (pe_callB call_isi (by rfl) T.isinstance (by decide +kernel) (pa_cons (pv 0) (pa_cons (pe_bltn (v := .ty "bool") (u := .type "bool") (by rfl) T.bool (by decide +kernel) rfl) pa_nil))))))), ?_⟩
    obtain ⟨v, k, rfl, ⟨ty, hk⟩, q⟩ := h
    refine ⟨_, rfl, v, .ty "int", _, _, _, rfl, .ty _, ty, kit_ty (kit_int k hk), _, rfl, ?_⟩
    refine ite2 (fun c => ?_) (fun c => ?_)
    · refine ⟨_, rfl, v, .ty "bool", _, _, _, rfl, .ty _, ty, kit_ty (kit_bool k hk), _, rfl, ?_⟩
      have c' : k = "int" ∨ k = "bool" := of_decide_eq_true c
      have e : (!decide (k = "bool")) = decide (k = "int") := by
        rcases c' with rfl | rfl <;> decide
      rw [e]
      exact q
    · have c' : ¬ (k = "int" ∨ k = "bool") := fun z => c (decide_eq_true z)
      have e : decide (k = "int") = false := decide_eq_false fun z => c' (.inl z)
      rw [e] at q
      exact q
/-! ### is_list -/
def spIsList (K : PySem.W.Frag) : Sp := fun vs H Q _ => ∃ (v : V) (k : String), vs = [v] ∧ Knd K H v k ∧ ∀ H', Same H H' → Q (.bl (decide (k = "list" ∨ k = "tuple"))) H'
theorem scIsList : FnScope ["value"] ["value"] (defScope sIsList) := ⟨rfl, rfl, rfl, by decide +kernel, rfl, by decide +kernel, by decide +kernel⟩
theorem ok_isList {f : Addr} {fd : FuncData} (F : Fun K "is_list" "is_list" sIsList f fd) (T : Bi mg) : FnOk P w K mg base CX0 1 f fd ["value"] (spIsList K) := by
  refine F.ok scIsList (fun vs H Q E h => ?_) (fun cdv A outer s H vs Q E hr h => ?_)
  · obtain ⟨v, k, rfl, _⟩ := h
    rfl
  · refine ⟨_, pss_one (ps_ret (pe_callB call_isiT (by rfl) T.isinstance (by decide +kernel) (pa_cons (pv 0) (pa_cons (pe_tup (pa_cons (pe_bltn (v := .ty "list") (u := .type "list") (by rfl) T.list (by decide +kernel) rfl) (pa_cons (pe_bltn (v := .ty "tuple") (u := .type "tuple") (by rfl) T.tuple (by decide +kernel) rfl) pa_nil))) pa_nil)))), ?_⟩
    obtain ⟨v, k, rfl, ⟨ty, hk⟩, q⟩ := h
    refine ⟨_, rfl, (by show 2 ≤ sizeLine; decide), fun p hp => ?_⟩
    have s1 : Same H (upd H p (.tup [.ty "list", .ty "tuple"])) := (Same.refl H).new hp
    refine ⟨v, p, [.ty "list", .ty "tuple"], _, _, decide (k = "list" ∨ k = "tuple"), rfl, upd_same, .cons (.ty _) (.cons (.ty _) .nil), tyx_same ty s1, kitAny_cons (kit_ty (kit_list k hk)) (fun e => kitAny_cons (b := decide (k = "tuple")) (r := decide (k = "list" ∨ k = "tuple")) (kit_ty (kit_tuple k hk)) (fun e' => ?_) fun e' => ?_) fun e => ?_, q _ s1⟩
    · have h1 : ¬ k = "list" := of_decide_eq_false e
      have h2 : ¬ k = "tuple" := of_decide_eq_false e'
      rw [kitAny_nil, decide_eq_false (fun z => z.elim h1 h2)]
    · exact decide_eq_true (.inr (of_decide_eq_true e'))
    · exact decide_eq_true (.inl (of_decide_eq_true e))
end
end K
namespace K
open PySem L2 Rg
open Evl (pss_cut)
theorem iteDT {c A B : Prop} [Decidable c] (hc : c) (h : A) : if decide c = true then A else B := by
  rw [if_pos (decide_eq_true hc)]; exact h
theorem iteDF {c A B : Prop} [Decidable c] (hc : ¬ c) (h : B) : if decide c = true then A else B := by
  rw [if_neg (by rw [decide_eq_false hc]; exact Bool.false_ne_true)]; exact h
theorem iteBT {c : Bool} {A B : Prop} (hc : c = true) (h : A) : if c = true then A else B := by
  rw [if_pos hc]; exact h
theorem iteBF {c : Bool} {A B : Prop} (hc : c = false) (h : B) : if c = true then A else B := by
  rw [if_neg (by rw [hc]; exact Bool.false_ne_true)]; exact h
theorem sm {n : Nat} (h : n ≤ 10000) : n < sizeLine := Nat.lt_of_le_of_lt h (by decide)
/-- a def of the text, by its name -/
structure DefAt (P : Program) (w : World) (K : PySem.W.Frag) (mg : Str → Option Value) (base : Heap) (CX : CXT) (k : Nat) (x : Str) (ps : List Str) (sp : Sp) (f : Addr) (fd : FuncData) : Prop where
  ok : FnOk P w K mg base CX k f fd ps sp
  g : mg x = some (.ref f)
  kp : PySem.W.keepIn K (.ref f) = true
  b : Binds K fd ps []
section
variable {P : Program} {w : World} {K : PySem.W.Frag} {mg : Str → Option Value} {base : Heap}
/-- two promises of one def -/
theorem fn_or {CX : CXT} {k : Nat} {f : Addr} {fd : FuncData} {ps : List Str} {sp sp' : Sp} (F : FnOk P w K mg base CX k f fd ps sp) (G : FnOk P w K mg base CX k f fd ps sp') : FnOk P w K mg base CX k f fd ps (fun vs H Q E => sp vs H Q E ∨ sp' vs H Q E) :=
  ⟨fun vs H Q E h => h.elim (F.len vs H Q E) (G.len vs H Q E), fun A outer s H args us vs Q E hr e0 hb hv h => h.elim (F.run A outer s H args us vs Q E hr e0 hb hv) (G.run A outer s H args us vs Q E hr e0 hb hv)⟩
/-! ### is_within, of ints -/
def spWithin : Sp := fun vs H Q _ => ∃ (v lo hi : Int), vs = [.int v, .int lo, .int hi] ∧ Q (.bl (decide (lo ≤ v) && decide (v ≤ hi))) H
theorem scWithin : FnScope ["value", "least", "most"] ["value", "least", "most"] (defScope sIsWithin) := ⟨rfl, rfl, rfl, by decide +kernel, rfl, by decide +kernel, by decide +kernel⟩
theorem ok_within {f fI : Addr} {fd fdI : FuncData} (F : Fun K "is_within" "is_within" sIsWithin f fd) (G : DefAt P w K mg base CX0 1 "is_integer" ["value"] (spIsInt K) fI fdI) : FnOk P w K mg base CX0 2 f fd ["value", "least", "most"] spWithin := by
  refine F.ok scWithin (fun vs H Q E h => ?_) (fun cdv A outer s H vs Q E hr h => ?_)
  · obtain ⟨v, lo, hi, rfl, _⟩ := h
    rfl
  · refine ⟨_, pss_cons (ps_if (pt_not (pt_val (pe_call G.ok hr rfl G.g G.kp G.b .nil pass0 (pa_cons (pv 0) pa_nil)))) (pss_one (ps_ret pe_bl)) pss_nil)
      (pss_one (ps_ret (pe_and (pe_or (pe_cmpR op_isN (pv 1) pe_non (nomark _)) (pe_one (pe_cmpR op_ge (pv 0) (pv 1) (nomark _)))) (pe_one (pe_or (pe_cmpR op_isN (pv 2) pe_non (nomark _)) (pe_one (pe_cmpR op_le (pv 0) (pv 2) (nomark _)))))))), ?_⟩
    obtain ⟨v, lo, hi, rfl, q⟩ := h
    refine ⟨_, rfl, V.int v, "int", rfl, Knd.int, _, rfl, iteNS rfl ?_⟩
    refine ⟨_, rfl, rfl, _, rfl, iteDF (fun z => nomatch z) ⟨_, rfl, _, rfl, _, _, rfl, rfl, _, rfl, ?_⟩⟩
    refine ite2 (fun c => ?_) (fun c => ?_)
    · have c' : lo ≤ v := of_decide_eq_true c
      refine ⟨_, rfl, rfl, _, rfl, iteDF (fun z => nomatch z) ⟨_, rfl, _, rfl, _, _, rfl, rfl, ?_⟩⟩
      rw [decide_eq_true c', Bool.true_and] at q
      exact q
    · have c' : ¬ lo ≤ v := fun z => c (decide_eq_true z)
      rw [decide_eq_false c', Bool.false_and] at q
      exact q
/-! ### is_numbers -/
abbrev nNums : List Str := ["value", "one"]
theorem scNums : FnScope nNums ["value"] (defScope sIsNumbers) := ⟨rfl, rfl, rfl, by decide +kernel, rfl, by decide +kernel, by decide +kernel⟩
/-- of what is no list or tuple | of a list | of a tuple -/
def spNumsO (K : PySem.W.Frag) : Sp := fun vs H Q _ => ∃ (v : V) (k : String), vs = [v] ∧ Knd K H v k ∧ k ≠ "list" ∧ k ≠ "tuple" ∧ ∀ H', Same H H' → Q (.bl false) H'
def spNumsL (K : PySem.W.Frag) : Sp := fun vs H Q _ => ∃ (a : Addr) (xs : List V) (kf : V → String), vs = [.ref a] ∧ Knd K H (.ref a) "list" ∧ SqL K H a xs ∧ xs.length ≤ 1000 ∧ (∀ x ∈ xs, Knd K H x (kf x)) ∧ ∀ H', Same H H' → Q (.bl (xs.all fun x => decide (kf x = "int"))) H'
def spNumsT (K : PySem.W.Frag) : Sp := fun vs H Q _ => ∃ (a : Addr) (xs : List V) (kf : V → String), vs = [.ref a] ∧ Knd K H (.ref a) "tuple" ∧ SqT K H a xs ∧ xs.length ≤ 1000 ∧ (∀ x ∈ xs, Knd K H x (kf x)) ∧ ∀ H', Same H H' → Q (.bl (xs.all fun x => decide (kf x = "int"))) H'
theorem all_map_bl (xs : List V) (g : V → Bool) : ((xs.map g).all id) = xs.all g := by
  rw [List.all_map]; rfl
theorem ok_numsO {f fI fL : Addr} {fd fdI fdL : FuncData} (F : Fun K "is_numbers" "is_numbers" sIsNumbers f fd) (T : Bi mg) (G : DefAt P w K mg base CX0 1 "is_integer" ["value"] (spIsInt K) fI fdI) (L : DefAt P w K mg base CX0 1 "is_list" ["value"] (spIsList K) fL fdL) : FnOk P w K mg base CX0 2 f fd ["value"] (spNumsO K) := by
  refine F.ok scNums (fun vs H Q E h => ?_) (fun cdv A outer s H vs Q E hr h => ?_)
  · obtain ⟨v, k, rfl, _⟩ := h
    rfl
  · refine ⟨_, pss_one (ps_ret (pe_and (pe_call L.ok hr rfl L.g L.kp L.b .nil pass0 (pa_cons (pv 0) pa_nil)) (pe_one (pe_callB (cr_all rfl) (by rfl) T.all (by decide +kernel) (pa_cons (pe_lc (own := [("one", 1)]) (g := gName 1) (tt := tYes) rfl scNums.nd (pi_list (pv 0))
      (blkOk_by (N := nNums) (sc := defScope sIsNumbers) (by decide +kernel)) (fun _ _ _ _ _ => pg_name (i := 1) scNums.nd rfl (Or.inl rfl)) (fun _ _ _ _ _ => pts_nil) (fun _ _ _ _ _ => pe_call G.ok hr rfl G.g G.kp G.b .nil pass0 (pa_cons (pv 1) pa_nil))) pa_nil))))), ?_⟩
    obtain ⟨v, k, rfl, hk, k1, k2, q⟩ := h
    exact ⟨_, rfl, v, k, rfl, hk, fun H' s1 => ⟨_, rfl, iteDF (fun z => z.elim k1 k2) (q H' s1)⟩⟩
theorem ok_numsL {f fI fL : Addr} {fd fdI fdL : FuncData} (F : Fun K "is_numbers" "is_numbers" sIsNumbers f fd) (T : Bi mg) (G : DefAt P w K mg base CX0 1 "is_integer" ["value"] (spIsInt K) fI fdI) (L : DefAt P w K mg base CX0 1 "is_list" ["value"] (spIsList K) fL fdL) : FnOk P w K mg base CX0 2 f fd ["value"] (spNumsL K) := by
  refine F.ok scNums (fun vs H Q E h => ?_) (fun cdv A outer s H vs Q E hr h => ?_)
  · obtain ⟨v, k, kf, rfl, _⟩ := h
    rfl
  · refine ⟨_, pss_one (ps_ret (pe_and (pe_call L.ok hr rfl L.g L.kp L.b .nil pass0 (pa_cons (pv 0) pa_nil)) (pe_one (pe_callB (cr_all rfl) (by rfl) T.all (by decide +kernel) (pa_cons (pe_lc (own := [("one", 1)]) (g := gName 1) (tt := tYes) rfl scNums.nd (pi_list (pv 0))
      (blkOk_by (N := nNums) (sc := defScope sIsNumbers) (by decide +kernel)) (fun _ _ _ _ _ => pg_name (i := 1) scNums.nd rfl (Or.inl rfl)) (fun _ _ _ _ _ => pts_nil) (fun _ _ _ _ _ => pe_call G.ok hr rfl G.g G.kp G.b .nil pass0 (pa_cons (pv 1) pa_nil))) pa_nil))))), ?_⟩
    obtain ⟨a, xs, kf, rfl, hk, hs, hl, hx, q⟩ := h
    refine ⟨_, rfl, _, "list", rfl, hk, fun H1 s1 => ⟨_, rfl, iteDT (.inl rfl) ?_⟩⟩
    refine ⟨_, rfl, a, rfl, ⟨_, s1.seq hs⟩, fun D hD => ?_⟩
    have hD0 := s1.free hD
    refine lc_list (K := K) (a := a) (xs := xs) (fun i H' => Same H H' ∧ H' D = some (.lst ((xs.take i).map fun x => V.bl (decide (kf x = "int"))))) ⟨s1.new hD, upd_same⟩ (fun i H' _ p => p.1.seq hs) ?_ ?_
    · rintro i x H' hi ⟨s2, h2⟩
      refine ⟨rfl, _, rfl, x, kf x, rfl, (hx x (List.mem_of_getElem? hi)).same s2, _, h2, (by rw [List.length_map, List.length_take]; exact sm (by omega)), s2.mut hD0, ?_⟩
      rw [upd_same, List.take_succ, hi, List.map_append]
      rfl
    · rintro H' ⟨s2, h2⟩
      rw [List.take_length] at h2
      refine ⟨D, xs.map fun x => decide (kf x = "int"), rfl, SqL.of (by rw [List.map_map]; exact h2), ?_⟩
      rw [all_map_bl]
      exact q H' s2
theorem ok_numsT {f fI fL : Addr} {fd fdI fdL : FuncData} (F : Fun K "is_numbers" "is_numbers" sIsNumbers f fd) (T : Bi mg) (G : DefAt P w K mg base CX0 1 "is_integer" ["value"] (spIsInt K) fI fdI) (L : DefAt P w K mg base CX0 1 "is_list" ["value"] (spIsList K) fL fdL) : FnOk P w K mg base CX0 2 f fd ["value"] (spNumsT K) := by
  refine F.ok scNums (fun vs H Q E h => ?_) (fun cdv A outer s H vs Q E hr h => ?_)
  · obtain ⟨v, k, kf, rfl, _⟩ := h
    rfl
  · refine ⟨_, pss_one (ps_ret (pe_and (pe_call L.ok hr rfl L.g L.kp L.b .nil pass0 (pa_cons (pv 0) pa_nil)) (pe_one (pe_callB (cr_all rfl) (by rfl) T.all (by decide +kernel) (pa_cons (pe_lc (own := [("one", 1)]) (g := gName 1) (tt := tYes) rfl scNums.nd (pi_tup (pv 0))
      (blkOk_by (N := nNums) (sc := defScope sIsNumbers) (by decide +kernel)) (fun _ _ _ _ _ => pg_name (i := 1) scNums.nd rfl (Or.inl rfl)) (fun _ _ _ _ _ => pts_nil) (fun _ _ _ _ _ => pe_call G.ok hr rfl G.g G.kp G.b .nil pass0 (pa_cons (pv 1) pa_nil))) pa_nil))))), ?_⟩
    obtain ⟨a, xs, kf, rfl, hk, hs, hl, hx, q⟩ := h
    refine ⟨_, rfl, _, "tuple", rfl, hk, fun H1 s1 => ⟨_, rfl, iteDT (.inr rfl) ?_⟩⟩
    refine ⟨_, rfl, a, rfl, ⟨_, s1.tup hs⟩, fun D hD => ?_⟩
    have hD0 := s1.free hD
    refine lc_tup (K := K) (a := a) (xs := xs) (fun i H' => Same H H' ∧ H' D = some (.lst ((xs.take i).map fun x => V.bl (decide (kf x = "int"))))) ⟨s1.new hD, upd_same⟩ (fun i H' _ p => p.1.tup hs) ?_ ?_
    · rintro i x H' hi ⟨s2, h2⟩
      refine ⟨rfl, _, rfl, x, kf x, rfl, (hx x (List.mem_of_getElem? hi)).same s2, _, h2, (by rw [List.length_map, List.length_take]; exact sm (by omega)), s2.mut hD0, ?_⟩
      rw [upd_same, List.take_succ, hi, List.map_append]
      rfl
    · rintro H' ⟨s2, h2⟩
      rw [List.take_length] at h2
      refine ⟨D, xs.map fun x => decide (kf x = "int"), rfl, SqL.of (by rw [List.map_map]; exact h2), ?_⟩
      rw [all_map_bl]
      exact q H' s2
end
end K
namespace K
open PySem L2 Rg
open Evl (pss_cut)
section
variable {P : Program} {w : World} {K : PySem.W.Frag} {mg : Str → Option Value} {base : Heap}
/-! ### errors with one field -/
def spIni (K : PySem.W.Frag) (f : Str) : Sp := fun vs H Q _ => ∃ (a C : Addr) (v : V), vs = [.ref a, v] ∧ OexC K C ∧ PySem.W.findIn K (.ref C) f = some none ∧ H a = some (exo a C none) ∧
  ∀ d, H d = none → d ≠ a → Q .non (upd (upd H d (exd d [(f, v)])) a (exo a C (some d)))
theorem scBadNum : FnScope ["self", "part"] ["self", "part"] (defScope sBadNumberInit) := ⟨rfl, rfl, rfl, by decide +kernel, rfl, by decide +kernel, by decide +kernel⟩
theorem scMissing : FnScope ["self", "value"] ["self", "value"] (defScope sMissingInit) := ⟨rfl, rfl, rfl, by decide +kernel, rfl, by decide +kernel, by decide +kernel⟩
theorem ok_badNumI {f : Addr} {fd : FuncData} (F : Fun K "__init__" "BadNumber.__init__" sBadNumberInit f fd) : FnOk P w K mg base CX0 1 f fd ["self", "part"] (spIni K "part") := by
  refine F.ok scBadNum (fun vs H Q E h => ?_) (fun cdv A outer s H vs Q E hr h => ?_)
  · obtain ⟨a, C, v, rfl, _⟩ := h
    rfl
  · refine ⟨_, pss_one (ps_ost (pv 0) (pv 1)), ?_⟩
    obtain ⟨a, C, v, rfl, o, n, ha, k⟩ := h
    exact ⟨_, rfl, _, rfl, a, C, rfl, o, n, .inl ⟨ha, fun d h1 h2 => k d h1 h2⟩⟩
theorem ok_missingI {f : Addr} {fd : FuncData} (F : Fun K "__init__" "Missing.__init__" sMissingInit f fd) : FnOk P w K mg base CX0 1 f fd ["self", "value"] (spIni K "value") := by
  refine F.ok scMissing (fun vs H Q E h => ?_) (fun cdv A outer s H vs Q E hr h => ?_)
  · obtain ⟨a, C, v, rfl, _⟩ := h
    rfl
  · refine ⟨_, pss_one (ps_ost (pv 0) (pv 1)), ?_⟩
    obtain ⟨a, C, v, rfl, o, n, ha, k⟩ := h
    exact ⟨_, rfl, _, rfl, a, C, rfl, o, n, .inl ⟨ha, fun d h1 h2 => k d h1 h2⟩⟩
/-- the class x of errors with the field f, at C, its __init__ at fI -/
structure ErrAt (P : Program) (w : World) (K : PySem.W.Frag) (mg : Str → Option Value) (base : Heap) (x f : Str) (C fI : Addr) (fdI : FuncData) : Prop where
  oex : OexC K C
  ic : PySem.W.findIn K (.ref C) "__init__" = some (some (.ref fI))
  ti : PySem.W.typeIn K (.ref fI) = some (.type "function")
  nf : PySem.W.findIn K (.ref C) f = some none
  g : mg x = some (.ref C)
  b : Binds K fdI ["self", f] []
  ok : FnOk P w K mg base CX0 1 fI fdI ["self", f] (spIni K f)
/-- an error of the class at C with the field f holding v leaves; what was tracked stands -/
def Errs (E : XK) (C : Addr) (f : Str) (v : V) (H : Hp) : Prop := ∀ (d : Addr) (H' : Hp), Same H H' → H d = none → H' d = some (.xd [(f, v)]) → E (.ref C) (some d) H'
theorem Errs.later {E : XK} {C : Addr} {f : Str} {v : V} {H H1 : Hp} (h : Errs E C f v H) (s : Same H H1) : Errs E C f v H1 := fun d H' s' n e => h d H' (s.trans s') (s.free n) e
/-- the making of such an error, as a raise asks it -/
theorem err_made {E : XK} {C : Addr} {f : Str} {v : V} {H : Hp} (o : OexC K C) (n : PySem.W.findIn K (.ref C) f = some none) (h : Errs E C f v H) :
    ([v] : List V).length ≤ 1000 ∧ ∀ a, H a = none → spIni K f (.ref a :: ([v] ++ [])) (upd H a (exo a C none))
      (fun u H2 => u = .non ∧ ∃ (d : Addr) (fs : List (Str × V)), H2 a = some (exo a C (some d)) ∧ H2 d = some (exd d fs) ∧ H d = none ∧ E (.ref C) (some d) (upd (del H2 a) d (.xd fs))) (fun _ _ _ => False) := by
  refine ⟨(by show 1 ≤ 1000; decide), fun a ha => ⟨a, C, v, rfl, o, n, upd_same, fun d hd hda => ⟨rfl, d, [(f, v)], upd_same, by rw [upd_ne hda, upd_same], ?_, ?_⟩⟩⟩
  · rw [upd_ne hda] at hd
    exact hd
  · rw [upd_ne hda] at hd
    refine h d _ (fun b u e => ?_) hd upd_same
    have hba : b ≠ a := ne_of_none e ha
    have hbd : b ≠ d := ne_of_none e hd
    rw [upd_ne hbd, del_ne hba, upd_ne hba, upd_ne hbd, upd_ne hba]
    exact e
/-! ### want_bar -/
def spWantBar (C : Addr) : Sp := fun vs H Q E => ∃ (v many : Int), vs = [.int v, .int many] ∧ ((0 ≤ v ∧ v < many ∧ ∀ H', Same H H' → Q .non H') ∨ (¬ (0 ≤ v ∧ v < many) ∧ Errs E C "value" (.int v) H))
theorem scWantBar : FnScope ["value", "many"] ["value", "many"] (defScope sWantBar) := ⟨rfl, rfl, rfl, by decide +kernel, rfl, by decide +kernel, by decide +kernel⟩
theorem ok_wantBar {f fW C fI : Addr} {fd fdW fdI : FuncData} (F : Fun K "want_bar" "want_bar" sWantBar f fd) (W : DefAt P w K mg base CX0 2 "is_within" ["value", "least", "most"] spWithin fW fdW) (B : ErrAt P w K mg base "NoBar" "value" C fI fdI) :
    FnOk P w K mg base (L2.CX P w) 3 f fd ["value", "many"] (spWantBar C) := by
  refine F.okX scWantBar (fun vs H Q E h => ?_) (fun cdv A outer s H vs Q E hr h => ?_)
  · obtain ⟨v, many, rfl, _⟩ := h
    rfl
  · refine ⟨_, pss_one (ps_if (pt_not (pt_val (pe_call W.ok hr rfl W.g W.kp W.b .nil pass0 (pa_cons (pv 0) (pa_cons pe_int (pa_cons (pe_op op_sub (pv 1) pe_int) pa_nil))))))
      (pss_one (ps_raise rfl (takes_of rfl rfl rfl rfl) (pmk_oex B.oex B.ic B.ti B.ok hr B.b .nil pass0 rfl B.g (pa_cons (pv 0) pa_nil)))) pss_nil), ?_⟩
    obtain ⟨v, many, rfl, h⟩ := h
    refine ⟨_, rfl, _, rfl, _, _, rfl, rfl, v, 0, many - 1, rfl, _, rfl, ?_⟩
    rcases h with ⟨h0, h1, q⟩ | ⟨hn, q⟩
    · refine iteBF ?_ (q H (Same.refl H))
      simp only [decide_eq_true h0, decide_eq_true (show v ≤ many - 1 by omega)]
      rfl
    · refine iteBT ?_ ?_
      · have e : (decide (0 ≤ v) && decide (v ≤ many - 1)) = false := by
          cases c : (decide (0 ≤ v) && decide (v ≤ many - 1)) with
          | false => rfl
          | true =>
            simp only [Bool.and_eq_true, decide_eq_true_eq] at c
            exact absurd ⟨c.1, by omega⟩ hn
        show (!(decide (0 ≤ v) && decide (v ≤ many - 1))) = true
        rw [e]
        rfl
      · exact ⟨_, rfl, err_made B.oex B.nf q⟩
end
end K
namespace K
open PySem L2 Rg
open Evl (pss_cut)
/-! ### what a ring tells -/
def sumsOf (ls : List Int) : List Int := ls.foldl (fun s l => s ++ s.map (· + l)) [0]
def levelB (ls : List Int) : Bool := (sumsOf ls).any fun o => decide (2 * o = ls.sum)
def closesB (ls : List Int) : Bool := ls.all fun x => decide (2 * x ≤ ls.sum)
def lsum (ls ns : List Int) : Int := (ns.map fun b => ls.getD b.toNat 0).sum
def sortV (ls ns : List Int) : Str := if 2 * lsum ls ns = ls.sum then "level" else if 2 * lsum ls ns < ls.sum then "short" else "long"
theorem sums_take {ls : List Int} {i : Nat} {z : Int} (h : ls[i]? = some z) : sumsOf (ls.take (i + 1)) = sumsOf (ls.take i) ++ (sumsOf (ls.take i)).map (· + z) := by
  unfold sumsOf
  rw [← take_snoc h, List.foldl_append]
  rfl
theorem sums_len : ∀ (ls : List Int) (i : Nat), i ≤ ls.length → (sumsOf (ls.take i)).length = 2 ^ i
  | ls, 0, _ => rfl
  | ls, i + 1, h => by
    have hz : ls[i]? = some ls[i] := List.getElem?_eq_getElem h
    rw [sums_take hz, List.length_append, List.length_map, sums_len ls i (by omega), Nat.pow_succ]
    omega
theorem closes_max {ls : List Int} {m : Int} (hm : m ∈ ls) (hx : ∀ y ∈ ls, y ≤ m) : decide (2 * m ≤ ls.sum) = closesB ls := by
  unfold closesB
  by_cases c : 2 * m ≤ ls.sum
  · rw [decide_eq_true c]
    refine (List.all_eq_true.mpr fun y hy => decide_eq_true ?_).symm
    have := hx y hy
    omega
  · rw [decide_eq_false c]
    cases e : ls.all fun x => decide (2 * x ≤ ls.sum) with
    | false => rfl
    | true => exact absurd (of_decide_eq_true (List.all_eq_true.mp e m hm)) c
theorem dec_int (a b : Int) : decide (V.int a = V.int b) = decide (a = b) := by
  by_cases e : a = b
  · rw [e]; simp
  · rw [decide_eq_false e, decide_eq_false fun z => e (V.int.inj z)]
theorem all_any (l : List Int) (g : Int → Bool) : (l.map g).any id = l.any g := by
  rw [List.any_map]; rfl
/-- the attributes of a ring, in the order in which __init__ stores them -/
def rf (t : Addr) (ls : List Int) : List (Str × V) := putF "is_clear" (.bl (!levelB ls)) (putF "closes" (.bl (closesB ls)) (putF "total" (.int ls.sum) (putF "lengths" (.ref t) [])))
theorem n1 : ¬ (("lengths" : Str) = "total") := by decide +kernel
theorem n2 : ¬ (("lengths" : Str) = "closes") := by decide +kernel
theorem n3 : ¬ (("lengths" : Str) = "is_clear") := by decide +kernel
theorem n4 : ¬ (("total" : Str) = "closes") := by decide +kernel
theorem n5 : ¬ (("total" : Str) = "is_clear") := by decide +kernel
theorem n6 : ¬ (("closes" : Str) = "is_clear") := by decide +kernel
theorem rf_lengths (t : Addr) (ls : List Int) : (rf t ls).lookup ("lengths" : Str) = some (.ref t) := by
  unfold rf
  rw [lookup_putF, if_neg n3, lookup_putF, if_neg n2, lookup_putF, if_neg n1, lookup_putF, if_pos rfl]
theorem rf_total (t : Addr) (ls : List Int) : (rf t ls).lookup ("total" : Str) = some (.int ls.sum) := by
  unfold rf
  rw [lookup_putF, if_neg n5, lookup_putF, if_neg n4, lookup_putF, if_pos rfl]
theorem rf_closes (t : Addr) (ls : List Int) : (rf t ls).lookup ("closes" : Str) = some (.bl (closesB ls)) := by
  unfold rf
  rw [lookup_putF, if_neg n6, lookup_putF, if_pos rfl]
theorem rf_clear (t : Addr) (ls : List Int) : (rf t ls).lookup ("is_clear" : Str) = some (.bl (!levelB ls)) := by
  unfold rf
  rw [lookup_putF, if_pos rfl]
theorem rf_no (t : Addr) (ls : List Int) {m : Str} (h1 : ¬ m = "lengths") (h2 : ¬ m = "total") (h3 : ¬ m = "closes") (h4 : ¬ m = "is_clear") : (rf t ls).lookup m = none := by
  unfold rf
  rw [lookup_putF, if_neg h4, lookup_putF, if_neg h3, lookup_putF, if_neg h2, lookup_putF, if_neg h1]
  rfl
section
variable {P : Program} {w : World} {K : PySem.W.Frag} {mg : Str → Option Value} {base : Heap}
def RingAt (K : PySem.W.Frag) (C : Addr) (H : Hp) (r : Addr) (ls : List Int) : Prop := ∃ dx t, H r = some (.ins C dx (rf t ls)) ∧ SqT K H t (ls.map V.int) ∧ ∃ o : Obj, H t = some (.frz o (.tup (ls.map V.int))) ∧ o.dict = none
theorem RingAt.same {C : Addr} {H H' : Hp} {r : Addr} {ls : List Int} (h : RingAt K C H r ls) (s : Same H H') : RingAt K C H' r ls := by
  obtain ⟨dx, t, h1, h2, o, h3, h4⟩ := h
  exact ⟨dx, t, s _ _ h1, s.tup h2, o, s _ _ h3, h4⟩
/-- the class Ring as the top has made it -/
structure RingC (K : PySem.W.Frag) (mg : Str → Option Value) (C : Addr) : Prop where
  cl : Cls K C
  nL : NoAttr K C "lengths"
  nT : NoAttr K C "total"
  nC : NoAttr K C "closes"
  nI : NoAttr K C "is_clear"
  g : mg "Ring" = some (.ref C)
  ha : PySem.W.findIn K (.ref C) "__class__" = some (some (.builtin "object.__class__"))
  hn : PySem.W.specialIn K (.builtin "object.__class__") "__get__" = some (some (.builtin "getset_descriptor.__get__"))
  ht : PySem.W.takesIn K (.builtin "object.__class__") = some true
  hm : PySem.W.mroIn K C (.type "object") = some true
structure Nm (mg : Str → Option Value) : Prop where
  mostL : ∃ t, mg "MOST_LENGTH" = some (.int 1000000 t)
  leastB : ∃ t, mg "LEAST_BARS" = some (.int 3 t)
  mostB : ∃ t, mg "MOST_BARS" = some (.int 8 t)
/-! ### are_lengths -/
def spAreL (K : PySem.W.Frag) : Sp := fun vs H Q _ => ∃ (a : Addr) (ls : List Int), vs = [.ref a] ∧ Knd K H (.ref a) "list" ∧ SqL K H a (ls.map V.int) ∧ ls.length ≤ 1000 ∧ Bd 1000000 ls ∧ ∀ H', Same H H' → Q (.bl true) H'
abbrev nAreL : List Str := ["value", "one"]
theorem scAreL : FnScope nAreL ["value"] (defScope sAreLengths) := ⟨rfl, rfl, rfl, by decide +kernel, rfl, by decide +kernel, by decide +kernel⟩
theorem all_true {bs : List Bool} (h : ∀ b ∈ bs, b = true) : bs.all id = true := List.all_eq_true.mpr fun b hb => h b hb
theorem ok_areL {f fW fL : Addr} {fd fdW fdL : FuncData} (F : Fun K "are_lengths" "are_lengths" sAreLengths f fd) (T : Bi mg) (N : Nm mg) (W : DefAt P w K mg base CX0 2 "is_within" ["value", "least", "most"] spWithin fW fdW) (L : DefAt P w K mg base CX0 1 "is_list" ["value"] (spIsList K) fL fdL) : FnOk P w K mg base CX0 3 f fd ["value"] (spAreL K) := by
  refine F.ok scAreL (fun vs H Q E h => ?_) (fun cdv A outer s H vs Q E hr h => ?_)
  · obtain ⟨a, ls, rfl, _⟩ := h
    rfl
  · obtain ⟨tM, hM⟩ := N.mostL
    refine ⟨_, pss_one (ps_ret (pe_and (pe_call L.ok (hr.mono (by decide)) rfl L.g L.kp L.b .nil pass0 (pa_cons (pv 0) pa_nil)) (pe_one (pe_callB (cr_all rfl) (by rfl) T.all (by decide +kernel) (pa_cons (pe_lc (own := [("one", 1)]) (g := gName 1) (tt := tYes) rfl scAreL.nd (pi_list (pv 0))
      (blkOk_by (N := nAreL) (sc := defScope sAreLengths) (by decide +kernel)) (fun _ _ _ _ _ => pg_name (i := 1) scAreL.nd rfl (Or.inl rfl)) (fun _ _ _ _ _ => pts_nil) (fun _ _ _ _ _ => pe_call W.ok hr rfl W.g W.kp W.b .nil pass0 (pa_cons (pv 1) (pa_cons pe_int (pa_cons (pe_glob (v := .int 1000000) rfl hM ⟨_, rfl⟩) pa_nil))))) pa_nil))))), ?_⟩
    obtain ⟨a, ls, rfl, hk, hs, hl, hb, q⟩ := h
    refine ⟨_, rfl, _, "list", rfl, hk, fun H1 s1 => ⟨_, rfl, iteDT (.inl rfl) ?_⟩⟩
    refine ⟨_, rfl, a, rfl, ⟨_, s1.seq hs⟩, fun D hD => ?_⟩
    have hD0 := s1.free hD
    refine lc_list (K := K) (a := a) (xs := ls.map V.int) (fun i H' => Same H H' ∧ ∃ bs : List Bool, (∀ b ∈ bs, b = true) ∧ bs.length ≤ i ∧ H' D = some (.lst (bs.map V.bl))) ⟨s1.new hD, [], (fun b hb => nomatch hb), Nat.le_refl _, upd_same⟩ (fun i H' _ p => p.1.seq hs) ?_ ?_
    · rintro i x H' hi ⟨s2, bs, h1, h2, h3⟩
      obtain ⟨z, hz, rfl⟩ := int_at hi
      have hil : i < ls.length := (List.getElem?_eq_some_iff.mp hz).1
      have hzb := hb z (List.mem_of_getElem? hz)
      refine ⟨rfl, _, rfl, z, 1, 1000000, rfl, _, h3, (by rw [List.length_map]; exact sm (by omega)), s2.mut hD0, bs ++ [true], fun b hb => ?_, by rw [List.length_append, List.length_singleton]; omega, ?_⟩
      · rcases List.mem_append.mp hb with m | m
        · exact h1 b m
        · exact List.mem_singleton.mp m
      · rw [upd_same, List.map_append, decide_eq_true hzb.1, decide_eq_true hzb.2]
        rfl
    · rintro H' ⟨s2, bs, h1, h2, h3⟩
      refine ⟨D, bs, rfl, SqL.of h3, ?_⟩
      rw [all_true h1]
      exact q H' s2
/-! ### has_level -/
def spHasL (K : PySem.W.Frag) : Sp := fun vs H Q _ => ∃ (t : Addr) (ls : List Int), vs = [.ref t] ∧ SqT K H t (ls.map V.int) ∧ ls.length ≤ 8 ∧ ∀ H', Same H H' → Q (.bl (levelB ls)) H'
abbrev nHasL : List Str := ["lengths", "sums", "length", "one"]
theorem scHasL : FnScope nHasL ["lengths"] (defScope sHasLevel) := ⟨rfl, rfl, rfl, by decide +kernel, rfl, by decide +kernel, by decide +kernel⟩
theorem ok_hasL {f : Addr} {fd : FuncData} (F : Fun K "has_level" "has_level" sHasLevel f fd) (T : Bi mg) : FnOk P w K mg base CX0 2 f fd ["lengths"] (spHasL K) := by
  refine F.ok scHasL (fun vs H Q E h => ?_) (fun cdv A outer s H vs Q E hr h => ?_)
  · obtain ⟨a, ls, rfl, _⟩ := h
    rfl
  · have nd := scHasL.nd
    refine ⟨_, pss_cons (ps_set (i := 1) nd rfl (Or.inl rfl) (pe_lst (pa_cons pe_int pa_nil)))
      (pss_cons (ps_for PassesOwn.never rfl (pi_tup (pv 0)) (pg_name (i := 2) nd rfl (Or.inr rfl)) (pss_one (ps_set (i := 1) nd rfl (Or.inl rfl) (pe_op op_cat (pv 1) (pe_lc (own := [("one", 3)]) (g := gName 3) (tt := tYes) rfl nd (pi_list (pv 1))
        (blkOk_by (N := nHasL) (sc := defScope sHasLevel) (by decide +kernel)) (fun _ _ _ _ _ => pg_name (i := 3) nd rfl (Or.inl rfl)) (fun _ _ _ _ _ => pts_nil) (fun _ _ _ _ _ => pe_op op_add (pv 3) (pv 2)))))))
      (pss_one (ps_ret (pe_callB (cr_any rfl) (by rfl) T.any (by decide +kernel) (pa_cons (pe_lc (own := [("one", 3)]) (g := gName 3) (tt := tYes) rfl nd (pi_list (pv 1))
        (blkOk_by (N := nHasL) (sc := defScope sHasLevel) (by decide +kernel)) (fun _ _ _ _ _ => pg_name (i := 3) nd rfl (Or.inl rfl)) (fun _ _ _ _ _ => pts_nil) (fun _ _ _ _ _ => pe_cmpR op_eq (pe_op op_mul pe_int (pv 3)) (pe_callB (r := rSumT K) (cr_sumT (by rfl)) (by rfl) T.sum (by decide +kernel) (pa_cons (pv 0) pa_nil)) (nomark _))) pa_nil))))), ?_⟩
    obtain ⟨t, ls, rfl, hs, hl, q⟩ := h
    refine ⟨(by show 1 ≤ sizeLine; decide), fun l0 hl0 => ?_⟩
    have s0 : Same H (upd H l0 (.lst [.int 0])) := (Same.refl H).new hl0
    have pw : ∀ i, i ≤ ls.length → (sumsOf (ls.take i)).length ≤ 256 := fun i hi => by
      rw [sums_len ls i hi]
      exact Nat.pow_le_pow_right (by decide) (show i ≤ 8 by omega)
    refine ⟨_, rfl, t, rfl, ⟨_, s0.tup hs⟩, for_tup (K := K) (a := t) (xs := ls.map V.int) (fun i σ H' => ∃ (l : Addr) (z : Option V), σ = [some (.ref t), some (.ref l), z, none] ∧ Same H H' ∧ H' l = some (.lst ((sumsOf (ls.take i)).map V.int)))
      ⟨l0, none, rfl, s0, upd_same⟩ (fun i σ H' _ ⟨_, _, _, s, _⟩ => s.tup hs) ?_ ?_⟩
    · rintro i x σ H' hi ⟨l, z, rfl, s1, h1⟩
      obtain ⟨z, hz, rfl⟩ := int_at hi
      have hil : i < ls.length := (List.getElem?_eq_some_iff.mp hz).1
      have p1 := pw i (by omega)
      refine ⟨_, rfl, _, rfl, l, rfl, ⟨_, SqL.of h1⟩, fun D hD => ?_⟩
      have hlD : l ≠ D := ne_of_none h1 hD
      refine lc_list (K := K) (a := l) (xs := (sumsOf (ls.take i)).map V.int) (fun j H2 => Same H' H2 ∧ H2 D = some (.lst ((((sumsOf (ls.take i)).take j).map (· + z)).map V.int))) ⟨(Same.refl H').new hD, upd_same⟩ (fun j H2 _ p => p.1.seq (SqL.of h1)) ?_ ?_
      · rintro j y H2 hj ⟨s2, h2⟩
        obtain ⟨o, ho, rfl⟩ := int_at hj
        refine ⟨rfl, _, rfl, _, rfl, _, _, rfl, rfl, _, h2, (by rw [List.length_map, List.length_map, List.length_take]; exact sm (by omega)), s2.mut hD, ?_⟩
        rw [upd_same, ← take_snoc ho, List.map_append, List.map_append]
        rfl
      · rintro H2 ⟨s2, h2⟩
        rw [List.length_map, List.take_length] at h2
        refine ⟨l, D, _, _, rfl, rfl, s2 _ _ h1, h2, (by rw [List.length_map, List.length_map, List.length_map]; exact Nat.le_of_lt (sm (by omega))), fun p hp => ⟨p, _, rfl, (s1.trans s2).new hp, ?_⟩⟩
        rw [upd_same, sums_take hz, List.map_append]
    · rintro σ H' ⟨l, z, rfl, s1, h1⟩
      rw [List.length_map, List.take_length] at h1
      have p1 := pw ls.length (Nat.le_refl _)
      rw [List.take_length] at p1
      refine ⟨_, rfl, l, rfl, ⟨_, SqL.of h1⟩, fun D hD => ?_⟩
      refine lc_list (K := K) (a := l) (xs := (sumsOf ls).map V.int) (fun j H2 => Same H' H2 ∧ H2 D = some (.lst ((((sumsOf ls).take j).map fun o => decide (2 * o = ls.sum)).map V.bl))) ⟨(Same.refl H').new hD, upd_same⟩ (fun j H2 _ p => p.1.seq (SqL.of h1)) ?_ ?_
      · rintro j y H2 hj ⟨s2, h2⟩
        obtain ⟨o, ho, rfl⟩ := int_at hj
        refine ⟨rfl, _, rfl, _, _, rfl, rfl, .inl ⟨by decide, by decide⟩, _, rfl, t, ls, rfl, (s1.trans s2).tup hs, rfl, _, h2, (by rw [List.length_map, List.length_map, List.length_take]; exact sm (by omega)), s2.mut hD, ?_⟩
        rw [upd_same, ← take_snoc ho, List.map_append, List.map_append, dec_int]
        rfl
      · rintro H2 ⟨s2, h2⟩
        rw [List.length_map, List.take_length] at h2
        refine ⟨D, _, rfl, SqL.of h2, ?_⟩
        rw [all_any]
        exact q H2 (s1.trans s2)
/-! ### Ring.__init__ -/
def spRI (K : PySem.W.Frag) (C : Addr) : Sp := fun vs H Q _ => ∃ (r l dx : Addr) (ls : List Int), vs = [.ref r, .ref l] ∧ H r = some (.ins C dx []) ∧ Knd K H (.ref l) "list" ∧ SqL K H l (ls.map V.int) ∧ 3 ≤ ls.length ∧ ls.length ≤ 8 ∧ Bd 1000000 ls ∧
  ∀ H', RingAt K C H' r ls → (∀ b o, H b = some o → b ≠ r → H' b = some o) → Q .non H'
theorem scRI : FnScope ["self", "lengths"] ["self", "lengths"] (defScope sRingInit) := ⟨rfl, rfl, rfl, by decide +kernel, rfl, by decide +kernel, by decide +kernel⟩
theorem ok_ri {C f fA fH : Addr} {fd fdA fdH : FuncData} (F : Fun K "__init__" "Ring.__init__" sRingInit f fd) (T : Bi mg) (N : Nm mg) (R : RingC K mg C) (A' : DefAt P w K mg base CX0 3 "are_lengths" ["value"] (spAreL K) fA fdA) (L : DefAt P w K mg base CX0 2 "has_level" ["lengths"] (spHasL K) fH fdH) : FnOk P w K mg base CX0 4 f fd ["self", "lengths"] (spRI K C) := by
  refine F.ok scRI (fun vs H Q E h => ?_) (fun cdv A outer s H vs Q E hr h => ?_)
  · obtain ⟨r, l, dx, ls, rfl, _⟩ := h
    rfl
  · obtain ⟨t3, h3⟩ := N.leastB
    obtain ⟨t8, h8⟩ := N.mostB
    refine ⟨_, pss_cons (ps_if (pt_not (pt_val (pe_call A'.ok hr rfl A'.g A'.kp A'.b .nil pass0 (pa_cons (pv 1) pa_nil)))) (pss_one ps_never) pss_nil)
      (pss_cons (ps_if (pt_cmpR op_lt (pe_callB call_len_seq (by rfl) T.len PySem.boot_len (pa_cons (pv 1) pa_nil)) (pe_glob (v := .int 3) rfl h3 ⟨_, rfl⟩) (nomark _)) (pss_one ps_never) pss_nil)
      (pss_cons (ps_if (pt_cmpR op_gt (pe_callB call_len_seq (by rfl) T.len PySem.boot_len (pa_cons (pv 1) pa_nil)) (pe_glob (v := .int 8) rfl h8 ⟨_, rfl⟩) (nomark _)) (pss_one ps_never) pss_nil)
      (pss_cons (ps_fld (pv 0) (pe_callTy cr_tupF (by rfl) T.tuple (by decide +kernel) (pa_cons (pv 1) pa_nil)) rfl)
      (pss_cons (ps_fld (pv 0) (pe_callB (cr_sumT rfl) (by rfl) T.sum (by decide +kernel) (pa_cons (pe_fld (pv 0) rfl) pa_nil)) rfl)
      (pss_cons (ps_fld (pv 0) (pe_cmpR op_le (pe_op op_mul pe_int (pe_callB (cr_maxT rfl) (by rfl) T.max (by decide +kernel) (pa_cons (pe_fld (pv 0) rfl) pa_nil))) (pe_fld (pv 0) rfl) (nomark _)) rfl)
      (pss_one (ps_fld (pv 0) (pe_not (pe_call L.ok (hr.mono (by decide)) rfl L.g L.kp L.b .nil pass0 (pa_cons (pe_fld (pv 0) rfl) pa_nil))) rfl))))))), ?_⟩
    obtain ⟨r, l, dx, ls, rfl, hr0, hk, hs, l3, l8, hb, q⟩ := h
    refine ⟨_, rfl, l, ls, rfl, hk, hs, by omega, hb, fun H1 s1 => ⟨_, rfl, iteF ?_⟩⟩
    refine ⟨_, rfl, l, _, rfl, .inl (s1.seq hs), _, _, rfl, rfl, _, rfl, iteDF (by rw [List.length_map]; omega) ?_⟩
    refine ⟨_, rfl, l, _, rfl, .inl (s1.seq hs), _, _, rfl, rfl, _, rfl, iteDF (by rw [List.length_map]; omega) ?_⟩
    have hr1 := s1 _ _ hr0
    refine ⟨_, rfl, l, _, rfl, s1.seq hs, fun t o ht hd => ?_⟩
    have nrt : r ≠ t := ne_of_none hr1 ht
    have ht0 := s1.free ht
    have tup0 : ∀ u, upd (upd H1 t (.frz o (.tup (ls.map V.int)))) r u t = some (.frz o (.tup (ls.map V.int))) := fun u => by rw [upd_ne nrt.symm, upd_same]
    refine ⟨_, rfl, r, C, dx, [], rfl, (by rw [upd_ne nrt]; exact hr1), R.cl, R.nL, (by show 0 < 1000; decide), ?_⟩
    -- self.total
    refine ⟨_, rfl, r, C, dx, _, _, rfl, upd_same, R.cl, R.nL, (by rw [lookup_putF, if_pos rfl]), t, ls, rfl, .inl (.inr ⟨o, tup0 _⟩), _, rfl, r, C, dx, _, rfl, upd_same, R.cl, R.nT, (by show 1 < 1000; decide), ?_⟩
    rw [upd_upd]
    -- self.closes
    refine ⟨_, rfl, r, C, dx, _, _, rfl, upd_same, R.cl, R.nL, (by rw [lookup_putF, if_neg n1, lookup_putF, if_pos rfl]), t, ls, rfl, .inl (.inr ⟨o, tup0 _⟩), by omega, fun m hm hx => ?_⟩
    refine ⟨_, _, rfl, rfl, .inl ⟨by decide, by decide⟩, _, rfl, r, C, dx, _, _, rfl, upd_same, R.cl, R.nT, (by rw [lookup_putF, if_pos rfl]), _, _, rfl, rfl, _, rfl, r, C, dx, _, rfl, upd_same, R.cl, R.nC, ?_, ?_⟩
    · have e1 := length_putF "total" (V.int ls.sum) (putF "lengths" (V.ref t) [])
      have e2 := length_putF "lengths" (V.ref t) []
      simp only [List.length_nil] at e2
      omega
    dsimp only
    rw [upd_upd, closes_max hm hx]
    -- self.is_clear
    refine ⟨_, rfl, r, C, dx, _, _, rfl, upd_same, R.cl, R.nL, (by rw [lookup_putF, if_neg n2, lookup_putF, if_neg n1, lookup_putF, if_pos rfl]), t, ls, rfl, .inl (.inr ⟨o, tup0 _⟩), l8, fun H5 s5 => ⟨_, rfl, _, rfl, r, C, dx, _, rfl, s5 _ _ upd_same, R.cl, R.nI, ?_, ?_⟩⟩
    · have e1 := length_putF "total" (V.int ls.sum) (putF "lengths" (V.ref t) [])
      have e2 := length_putF "lengths" (V.ref t) []
      have e3 := length_putF "closes" (V.bl (closesB ls)) (putF "total" (V.int ls.sum) (putF "lengths" (V.ref t) []))
      simp only [List.length_nil] at e2
      omega
    · have tf := s5 _ _ (tup0 _)
      refine q _ ⟨dx, t, upd_same, .inl (.inr ⟨o, by rw [upd_ne nrt.symm]; exact tf⟩), o, by rw [upd_ne nrt.symm]; exact tf, hd⟩ fun b o e hbr => ?_
      rw [upd_ne hbr]
      refine s5 _ _ ?_
      rw [upd_ne hbr, upd_ne (ne_of_none (s1 _ _ e) ht)]
      exact s1 _ _ e
end
end K
namespace K
open PySem L2 Rg
open Evl (pss_cut)
section
variable {P : Program} {w : World} {K : PySem.W.Frag} {mg : Str → Option Value} {base : Heap}
/-! ### is_within of anything -/
/-- what is_within tells of a value of the kind k -/
def winB (k : String) (lo hi : Int) (v : V) : Bool := decide (k = "int") && match v with
  | .int i => decide (lo ≤ i) && decide (i ≤ hi)
  | _ => false
def spWithinO (K : PySem.W.Frag) : Sp := fun vs H Q _ => ∃ (v : V) (k : String) (lo hi : Int), vs = [v, .int lo, .int hi] ∧ Knd K H v k ∧ k ≠ "int" ∧ Q (.bl false) H
theorem ok_withinO {f fI : Addr} {fd fdI : FuncData} (F : Fun K "is_within" "is_within" sIsWithin f fd) (G : DefAt P w K mg base CX0 1 "is_integer" ["value"] (spIsInt K) fI fdI) : FnOk P w K mg base CX0 2 f fd ["value", "least", "most"] (spWithinO K) := by
  refine F.ok scWithin (fun vs H Q E h => ?_) (fun cdv A outer s H vs Q E hr h => ?_)
  · obtain ⟨v, k, lo, hi, rfl, _⟩ := h
    rfl
  · refine ⟨_, pss_cons (ps_if (pt_not (pt_val (pe_call G.ok hr rfl G.g G.kp G.b .nil pass0 (pa_cons (pv 0) pa_nil)))) (pss_one (ps_ret pe_bl)) pss_nil) (pss_one ps_never), ?_⟩
    obtain ⟨v, k, lo, hi, rfl, hk, nk, q⟩ := h
    refine ⟨_, rfl, v, k, rfl, hk, _, rfl, ?_⟩
    rw [decide_eq_false nk]
    exact iteT q
/-- a value, of a kind, that is an int just if the kind says so -/
def KndI (K : PySem.W.Frag) (H : Hp) (v : V) (k : String) : Prop := Knd K H v k ∧ (k = "int" → ∃ i, v = .int i)
def spWithinG (K : PySem.W.Frag) : Sp := fun vs H Q _ => ∃ (v : V) (k : String) (lo hi : Int), vs = [v, .int lo, .int hi] ∧ KndI K H v k ∧ Q (.bl (winB k lo hi v)) H
theorem ok_withinG {f fI : Addr} {fd fdI : FuncData} (F : Fun K "is_within" "is_within" sIsWithin f fd) (G : DefAt P w K mg base CX0 1 "is_integer" ["value"] (spIsInt K) fI fdI) : FnOk P w K mg base CX0 2 f fd ["value", "least", "most"] (spWithinG K) := by
  refine (fn_or (ok_within F G) (ok_withinO F G)).imp fun vs H Q E h => ?_
  obtain ⟨v, k, lo, hi, rfl, ⟨hk, hi'⟩, q⟩ := h
  by_cases c : k = "int"
  · obtain ⟨i, rfl⟩ := hi' c
    refine .inl ⟨i, lo, hi, rfl, ?_⟩
    unfold winB at q
    rw [decide_eq_true c, Bool.true_and] at q
    exact q
  · refine .inr ⟨v, k, lo, hi, rfl, hk, c, ?_⟩
    unfold winB at q
    rw [decide_eq_false c, Bool.false_and] at q
    exact q
/-! ### are_lengths of anything -/
def lenB (k : String) (v : V) : Bool := winB k 1 1000000 v
def spAreO (K : PySem.W.Frag) : Sp := fun vs H Q _ => ∃ (v : V) (k : String), vs = [v] ∧ Knd K H v k ∧ k ≠ "list" ∧ k ≠ "tuple" ∧ ∀ H', Same H H' → Q (.bl false) H'
theorem ok_areO {f fW fL : Addr} {fd fdW fdL : FuncData} (F : Fun K "are_lengths" "are_lengths" sAreLengths f fd) (T : Bi mg) (N : Nm mg) (W : DefAt P w K mg base CX0 2 "is_within" ["value", "least", "most"] (spWithinG K) fW fdW) (L : DefAt P w K mg base CX0 1 "is_list" ["value"] (spIsList K) fL fdL) : FnOk P w K mg base CX0 3 f fd ["value"] (spAreO K) := by
  refine F.ok scAreL (fun vs H Q E h => ?_) (fun cdv A outer s H vs Q E hr h => ?_)
  · obtain ⟨v, k, rfl, _⟩ := h
    rfl
  · obtain ⟨tM, hM⟩ := N.mostL
    refine ⟨_, pss_one (ps_ret (pe_and (pe_call L.ok (hr.mono (by decide)) rfl L.g L.kp L.b .nil pass0 (pa_cons (pv 0) pa_nil)) (pe_one (pe_callB (cr_all rfl) (by rfl) T.all (by decide +kernel) (pa_cons (pe_lc (own := [("one", 1)]) (g := gName 1) (tt := tYes) rfl scAreL.nd (pi_list (pv 0))
      (blkOk_by (N := nAreL) (sc := defScope sAreLengths) (by decide +kernel)) (fun _ _ _ _ _ => pg_name (i := 1) scAreL.nd rfl (Or.inl rfl)) (fun _ _ _ _ _ => pts_nil) (fun _ _ _ _ _ => pe_call W.ok hr rfl W.g W.kp W.b .nil pass0 (pa_cons (pv 1) (pa_cons pe_int (pa_cons (pe_glob (v := .int 1000000) rfl hM ⟨_, rfl⟩) pa_nil))))) pa_nil))))), ?_⟩
    obtain ⟨v, k, rfl, hk, n1, n2, q⟩ := h
    refine ⟨_, rfl, v, k, rfl, hk, fun H1 s1 => ⟨_, rfl, iteDF (fun z => z.elim n1 n2) (q H1 s1)⟩⟩
def spAreGL (K : PySem.W.Frag) : Sp := fun vs H Q _ => ∃ (a : Addr) (xs : List V) (kf : V → String), vs = [.ref a] ∧ Knd K H (.ref a) "list" ∧ SqL K H a xs ∧ xs.length ≤ 1000 ∧ (∀ x ∈ xs, KndI K H x (kf x)) ∧ ∀ H', Same H H' → Q (.bl (xs.all fun x => lenB (kf x) x)) H'
theorem ok_areGL {f fW fL : Addr} {fd fdW fdL : FuncData} (F : Fun K "are_lengths" "are_lengths" sAreLengths f fd) (T : Bi mg) (N : Nm mg) (W : DefAt P w K mg base CX0 2 "is_within" ["value", "least", "most"] (spWithinG K) fW fdW) (L : DefAt P w K mg base CX0 1 "is_list" ["value"] (spIsList K) fL fdL) : FnOk P w K mg base CX0 3 f fd ["value"] (spAreGL K) := by
  refine F.ok scAreL (fun vs H Q E h => ?_) (fun cdv A outer s H vs Q E hr h => ?_)
  · obtain ⟨a, xs, kf, rfl, _⟩ := h
    rfl
  · obtain ⟨tM, hM⟩ := N.mostL
    refine ⟨_, pss_one (ps_ret (pe_and (pe_call L.ok (hr.mono (by decide)) rfl L.g L.kp L.b .nil pass0 (pa_cons (pv 0) pa_nil)) (pe_one (pe_callB (cr_all rfl) (by rfl) T.all (by decide +kernel) (pa_cons (pe_lc (own := [("one", 1)]) (g := gName 1) (tt := tYes) rfl scAreL.nd (pi_list (pv 0))
      (blkOk_by (N := nAreL) (sc := defScope sAreLengths) (by decide +kernel)) (fun _ _ _ _ _ => pg_name (i := 1) scAreL.nd rfl (Or.inl rfl)) (fun _ _ _ _ _ => pts_nil) (fun _ _ _ _ _ => pe_call W.ok hr rfl W.g W.kp W.b .nil pass0 (pa_cons (pv 1) (pa_cons pe_int (pa_cons (pe_glob (v := .int 1000000) rfl hM ⟨_, rfl⟩) pa_nil))))) pa_nil))))), ?_⟩
    obtain ⟨a, xs, kf, rfl, hk, hs, hl, hx, q⟩ := h
    refine ⟨_, rfl, _, "list", rfl, hk, fun H1 s1 => ⟨_, rfl, iteDT (.inl rfl) ?_⟩⟩
    refine ⟨_, rfl, a, rfl, ⟨_, s1.seq hs⟩, fun D hD => ?_⟩
    have hD0 := s1.free hD
    refine lc_list (K := K) (a := a) (xs := xs) (fun i H' => Same H H' ∧ H' D = some (.lst (((xs.take i).map fun x => lenB (kf x) x).map V.bl))) ⟨s1.new hD, upd_same⟩ (fun i H' _ p => p.1.seq hs) ?_ ?_
    · rintro i x H' hi ⟨s2, h3⟩
      have hil : i < xs.length := (List.getElem?_eq_some_iff.mp hi).1
      have kx := hx x (List.mem_of_getElem? hi)
      refine ⟨rfl, _, rfl, x, kf x, 1, 1000000, rfl, ⟨kx.1.same s2, kx.2⟩, _, h3, (by rw [List.length_map, List.length_map, List.length_take]; exact sm (by omega)), s2.mut hD0, ?_⟩
      rw [upd_same, ← take_snoc hi, List.map_append, List.map_append]
      rfl
    · rintro H' ⟨s2, h3⟩
      rw [List.take_length] at h3
      refine ⟨D, _, rfl, SqL.of h3, ?_⟩
      rw [List.all_map]
      exact q H' s2
def spAreGT (K : PySem.W.Frag) : Sp := fun vs H Q _ => ∃ (a : Addr) (xs : List V) (kf : V → String), vs = [.ref a] ∧ Knd K H (.ref a) "tuple" ∧ SqT K H a xs ∧ xs.length ≤ 1000 ∧ (∀ x ∈ xs, KndI K H x (kf x)) ∧ ∀ H', Same H H' → Q (.bl (xs.all fun x => lenB (kf x) x)) H'
theorem ok_areGT {f fW fL : Addr} {fd fdW fdL : FuncData} (F : Fun K "are_lengths" "are_lengths" sAreLengths f fd) (T : Bi mg) (N : Nm mg) (W : DefAt P w K mg base CX0 2 "is_within" ["value", "least", "most"] (spWithinG K) fW fdW) (L : DefAt P w K mg base CX0 1 "is_list" ["value"] (spIsList K) fL fdL) : FnOk P w K mg base CX0 3 f fd ["value"] (spAreGT K) := by
  refine F.ok scAreL (fun vs H Q E h => ?_) (fun cdv A outer s H vs Q E hr h => ?_)
  · obtain ⟨a, xs, kf, rfl, _⟩ := h
    rfl
  · obtain ⟨tM, hM⟩ := N.mostL
    refine ⟨_, pss_one (ps_ret (pe_and (pe_call L.ok (hr.mono (by decide)) rfl L.g L.kp L.b .nil pass0 (pa_cons (pv 0) pa_nil)) (pe_one (pe_callB (cr_all rfl) (by rfl) T.all (by decide +kernel) (pa_cons (pe_lc (own := [("one", 1)]) (g := gName 1) (tt := tYes) rfl scAreL.nd (pi_tup (pv 0))
      (blkOk_by (N := nAreL) (sc := defScope sAreLengths) (by decide +kernel)) (fun _ _ _ _ _ => pg_name (i := 1) scAreL.nd rfl (Or.inl rfl)) (fun _ _ _ _ _ => pts_nil) (fun _ _ _ _ _ => pe_call W.ok hr rfl W.g W.kp W.b .nil pass0 (pa_cons (pv 1) (pa_cons pe_int (pa_cons (pe_glob (v := .int 1000000) rfl hM ⟨_, rfl⟩) pa_nil))))) pa_nil))))), ?_⟩
    obtain ⟨a, xs, kf, rfl, hk, hs, hl, hx, q⟩ := h
    refine ⟨_, rfl, _, "tuple", rfl, hk, fun H1 s1 => ⟨_, rfl, iteDT (.inr rfl) ?_⟩⟩
    refine ⟨_, rfl, a, rfl, ⟨_, s1.tup hs⟩, fun D hD => ?_⟩
    have hD0 := s1.free hD
    refine lc_tup (K := K) (a := a) (xs := xs) (fun i H' => Same H H' ∧ H' D = some (.lst (((xs.take i).map fun x => lenB (kf x) x).map V.bl))) ⟨s1.new hD, upd_same⟩ (fun i H' _ p => p.1.tup hs) ?_ ?_
    · rintro i x H' hi ⟨s2, h3⟩
      have hil : i < xs.length := (List.getElem?_eq_some_iff.mp hi).1
      have kx := hx x (List.mem_of_getElem? hi)
      refine ⟨rfl, _, rfl, x, kf x, 1, 1000000, rfl, ⟨kx.1.same s2, kx.2⟩, _, h3, (by rw [List.length_map, List.length_map, List.length_take]; exact sm (by omega)), s2.mut hD0, ?_⟩
      rw [upd_same, ← take_snoc hi, List.map_append, List.map_append]
      rfl
    · rintro H' ⟨s2, h3⟩
      rw [List.take_length] at h3
      refine ⟨D, _, rfl, SqL.of h3, ?_⟩
      rw [List.all_map]
      exact q H' s2
/-! ### errors with two fields: TooMany(what, most) -/
def spIni2 (K : PySem.W.Frag) (f g : Str) : Sp := fun vs H Q _ => ∃ (a C : Addr) (v u : V), vs = [.ref a, v, u] ∧ OexC K C ∧ PySem.W.findIn K (.ref C) f = some none ∧ PySem.W.findIn K (.ref C) g = some none ∧ H a = some (exo a C none) ∧
  ∀ d, H d = none → d ≠ a → Q .non (upd (upd (upd H d (exd d [(f, v)])) a (exo a C (some d))) d (exd d [(g, u), (f, v)]))
theorem scTooMany : FnScope ["self", "what", "most"] ["self", "what", "most"] (defScope sTooManyInit) := ⟨rfl, rfl, rfl, by decide +kernel, rfl, by decide +kernel, by decide +kernel⟩
theorem ok_tooManyI {f : Addr} {fd : FuncData} (F : Fun K "__init__" "TooMany.__init__" sTooManyInit f fd) : FnOk P w K mg base CX0 1 f fd ["self", "what", "most"] (spIni2 K "what" "most") := by
  refine F.ok scTooMany (fun vs H Q E h => ?_) (fun cdv A outer s H vs Q E hr h => ?_)
  · obtain ⟨a, C, v, u, rfl, _⟩ := h
    rfl
  · refine ⟨_, pss_cons (ps_ost (pv 0) (pv 1)) (pss_one (ps_ost (pv 0) (pv 2))), ?_⟩
    obtain ⟨a, C, v, u, rfl, o, n, n2, ha, k⟩ := h
    refine ⟨_, rfl, _, rfl, a, C, rfl, o, n, .inl ⟨ha, fun d h1 h2 => ?_⟩⟩
    refine ⟨_, rfl, _, rfl, a, C, rfl, o, n2, .inr ⟨d, [("what", v)], upd_same, ?_, (by show 1 ≤ 900; decide), k d h1 h2⟩⟩
    rw [upd_ne h2, upd_same]
/-- the class x of errors with the fields f, g, at C, its __init__ at fI -/
structure Err2At (P : Program) (w : World) (K : PySem.W.Frag) (mg : Str → Option Value) (base : Heap) (x f f2 : Str) (C fI : Addr) (fdI : FuncData) : Prop where
  oex : OexC K C
  ic : PySem.W.findIn K (.ref C) "__init__" = some (some (.ref fI))
  ti : PySem.W.typeIn K (.ref fI) = some (.type "function")
  nf : PySem.W.findIn K (.ref C) f = some none
  ng : PySem.W.findIn K (.ref C) f2 = some none
  g : mg x = some (.ref C)
  b : Binds K fdI ["self", f, f2] []
  ok : FnOk P w K mg base CX0 1 fI fdI ["self", f, f2] (spIni2 K f f2)
/-- an error of the class at C with these fields leaves; what was tracked stands -/
def ErrsF (E : XK) (C : Addr) (fs : List (Str × V)) (H : Hp) : Prop := ∀ (d : Addr) (H' : Hp), Same H H' → H d = none → H' d = some (.xd fs) → E (.ref C) (some d) H'
theorem err_made2 {E : XK} {C : Addr} {f g : Str} {v u : V} {H : Hp} (o : OexC K C) (n : PySem.W.findIn K (.ref C) f = some none) (n2 : PySem.W.findIn K (.ref C) g = some none) (h : ErrsF E C [(g, u), (f, v)] H) :
    ([v, u] : List V).length ≤ 1000 ∧ ∀ a, H a = none → spIni2 K f g (.ref a :: ([v, u] ++ [])) (upd H a (exo a C none))
      (fun x H2 => x = .non ∧ ∃ (d : Addr) (fs : List (Str × V)), H2 a = some (exo a C (some d)) ∧ H2 d = some (exd d fs) ∧ H d = none ∧ E (.ref C) (some d) (upd (del H2 a) d (.xd fs))) (fun _ _ _ => False) := by
  refine ⟨(by show 2 ≤ 1000; decide), fun a ha => ⟨a, C, v, u, rfl, o, n, n2, upd_same, fun d hd hda => ⟨rfl, d, [(g, u), (f, v)], by rw [upd_ne hda.symm, upd_same], upd_same, ?_, ?_⟩⟩⟩
  · rw [upd_ne hda] at hd
    exact hd
  · rw [upd_ne hda] at hd
    refine h d _ (fun b x e => ?_) hd upd_same
    have hba : b ≠ a := ne_of_none e ha
    have hbd : b ≠ d := ne_of_none e hd
    rw [upd_ne hbd, del_ne hba, upd_ne hbd, upd_ne hba, upd_ne hbd, upd_ne hba]
    exact e
theorem scBadRing : FnScope ["self", "part"] ["self", "part"] (defScope sBadRingInit) := ⟨rfl, rfl, rfl, by decide +kernel, rfl, by decide +kernel, by decide +kernel⟩
theorem ok_badRingI {f : Addr} {fd : FuncData} (F : Fun K "__init__" "BadRing.__init__" sBadRingInit f fd) : FnOk P w K mg base CX0 1 f fd ["self", "part"] (spIni K "part") := by
  refine F.ok scBadRing (fun vs H Q E h => ?_) (fun cdv A outer s H vs Q E hr h => ?_)
  · obtain ⟨a, C, v, rfl, _⟩ := h
    rfl
  · refine ⟨_, pss_one (ps_ost (pv 0) (pv 1)), ?_⟩
    obtain ⟨a, C, v, rfl, o, n, ha, k⟩ := h
    exact ⟨_, rfl, _, rfl, a, C, rfl, o, n, .inl ⟨ha, fun d h1 h2 => k d h1 h2⟩⟩
end
end K
namespace K
open PySem L2 Rg
open Evl (pss_cut)
section
variable {P : Program} {w : World} {K : PySem.W.Frag} {mg : Str → Option Value} {base : Heap}
/-! ### a Ring made of any value -/
/-- a ring, of whose tuple of lengths nothing is known but its items -/
def RingW (K : PySem.W.Frag) (C : Addr) (H : Hp) (r : Addr) (ls : List Int) : Prop := ∃ dx t, H r = some (.ins C dx (rf t ls)) ∧ H t = some (.tup (ls.map V.int))
def RingFin (E : XK) (cR cM : Addr) (H : Hp) (ls : List Int) (k : Prop) : Prop :=
  (ls.length < 3 ∧ Errs E cR "part" (.str "bars") H) ∨ (8 < ls.length ∧ ErrsF E cM [("most", .int 8), ("what", .str "bars")] H) ∨ (3 ≤ ls.length ∧ ls.length ≤ 8 ∧ k)
def RingK (K : PySem.W.Frag) (C r : Addr) (ls : List Int) (H : Hp) (Q : VK) : Prop := ∀ H', RingW K C H' r ls → (∀ b o, H b = some o → b ≠ r → H' b = some o) → Q .non H'
theorem SqT.own {C dx r t : Addr} {fs : List (Str × V)} {H : Hp} {xs : List V} {u : HO} (h : SqT K H t xs) (hr : H r = some (.ins C dx fs)) : SqT K (upd H r u) t xs := by
  rcases h with (h | ⟨o, h⟩) | h
  · exact .inl (.inl (by rw [upd_ne fun z => by rw [z, hr] at h; cases h]; exact h))
  · exact .inl (.inr ⟨o, by rw [upd_ne fun z => by rw [z, hr] at h; cases h]; exact h⟩)
  · exact .inr h
def spRIO (K : PySem.W.Frag) (C cR : Addr) : Sp := fun vs H _ E => ∃ (r dx : Addr) (v : V) (k : String), vs = [.ref r, v] ∧ H r = some (.ins C dx []) ∧ Knd K H v k ∧ k ≠ "list" ∧ k ≠ "tuple" ∧ Errs E cR "part" (.str "lengths") H
def spRIL (K : PySem.W.Frag) (C cR cM : Addr) : Sp := fun vs H Q E => ∃ (r l dx : Addr) (xs : List V) (kf : V → String), vs = [.ref r, .ref l] ∧ H r = some (.ins C dx []) ∧ Knd K H (.ref l) "list" ∧ SqL K H l xs ∧ xs.length ≤ 1000 ∧ (∀ x ∈ xs, KndI K H x (kf x)) ∧
  (((xs.all fun x => lenB (kf x) x) = false ∧ Errs E cR "part" (.str "lengths") H) ∨ ((xs.all fun x => lenB (kf x) x) = true ∧ ∃ ls, xs = ls.map V.int ∧ RingFin E cR cM H ls (RingK K C r ls H Q)))
def spRIT (K : PySem.W.Frag) (C cR cM : Addr) : Sp := fun vs H Q E => ∃ (r l dx : Addr) (xs : List V) (kf : V → String), vs = [.ref r, .ref l] ∧ H r = some (.ins C dx []) ∧ Knd K H (.ref l) "tuple" ∧ H l = some (.tup xs) ∧ xs.length ≤ 1000 ∧ (∀ x ∈ xs, KndI K H x (kf x)) ∧
  (((xs.all fun x => lenB (kf x) x) = false ∧ Errs E cR "part" (.str "lengths") H) ∨ ((xs.all fun x => lenB (kf x) x) = true ∧ ∃ ls, xs = ls.map V.int ∧ RingFin E cR cM H ls (RingK K C r ls H Q)))
theorem ok_riO {C f fA fH cR fR cM fM : Addr} {fd fdA fdH fdR fdM : FuncData} (F : Fun K "__init__" "Ring.__init__" sRingInit f fd) (T : Bi mg) (N : Nm mg) (R : RingC K mg C) (A' : DefAt P w K mg base CX0 3 "are_lengths" ["value"] (spAreO K) fA fdA) (L : DefAt P w K mg base CX0 2 "has_level" ["lengths"] (spHasL K) fH fdH)
    (B : ErrAt P w K mg base "BadRing" "part" cR fR fdR) (M : Err2At P w K mg base "TooMany" "what" "most" cM fM fdM) : FnOk P w K mg base (L2.CX P w) 4 f fd ["self", "lengths"] (spRIO K C cR) := by
  refine F.okX scRI (fun vs H Q E h => ?_) (fun cdv A outer s H vs Q E hr h => ?_)
  · obtain ⟨r, dx, v, k, rfl, _⟩ := h
    rfl
  · obtain ⟨t3, h3⟩ := N.leastB
    obtain ⟨t8, h8⟩ := N.mostB
    have hr1 := hr.mono (show 2 ≤ 3 by decide)
    refine ⟨_, pss_cons (ps_if (pt_not (pt_val (pe_call A'.ok hr rfl A'.g A'.kp A'.b .nil pass0 (pa_cons (pv 1) pa_nil)))) (pss_one (ps_raise rfl (takes_of rfl rfl rfl rfl) (pmk_oex B.oex B.ic B.ti B.ok hr1 B.b .nil pass0 rfl B.g (pa_cons pe_str pa_nil)))) pss_nil)
      (pss_cons (ps_if (pt_cmpR op_lt (pe_callB call_len_seq (by rfl) T.len PySem.boot_len (pa_cons (pv 1) pa_nil)) (pe_glob (v := .int 3) rfl h3 ⟨_, rfl⟩) (nomark _)) (pss_one (ps_raise rfl (takes_of rfl rfl rfl rfl) (pmk_oex B.oex B.ic B.ti B.ok hr1 B.b .nil pass0 rfl B.g (pa_cons pe_str pa_nil)))) pss_nil)
      (pss_cons (ps_if (pt_cmpR op_gt (pe_callB call_len_seq (by rfl) T.len PySem.boot_len (pa_cons (pv 1) pa_nil)) (pe_glob (v := .int 8) rfl h8 ⟨_, rfl⟩) (nomark _)) (pss_one (ps_raise rfl (takes_of rfl rfl rfl rfl) (pmk_oex M.oex M.ic M.ti M.ok hr1 M.b .nil pass0 rfl M.g (pa_cons pe_str (pa_cons (pe_glob (v := .int 8) rfl h8 ⟨_, rfl⟩) pa_nil))))) pss_nil)
      (pss_cons (ps_fld (pv 0) (pe_callTy call_tuple_of (by rfl) T.tuple (by decide +kernel) (pa_cons (pv 1) pa_nil)) rfl)
      (pss_cons (ps_fld (pv 0) (pe_callB (cr_sumT rfl) (by rfl) T.sum (by decide +kernel) (pa_cons (pe_fld (pv 0) rfl) pa_nil)) rfl)
      (pss_cons (ps_fld (pv 0) (pe_cmpR op_le (pe_op op_mul pe_int (pe_callB (cr_maxT rfl) (by rfl) T.max (by decide +kernel) (pa_cons (pe_fld (pv 0) rfl) pa_nil))) (pe_fld (pv 0) rfl) (nomark _)) rfl)
      (pss_one (ps_fld (pv 0) (pe_not (pe_call L.ok (hr.mono (by decide)) rfl L.g L.kp L.b .nil pass0 (pa_cons (pe_fld (pv 0) rfl) pa_nil))) rfl))))))), ?_⟩
    obtain ⟨r, dx, v, k, rfl, hr0, hk, n1, n2, er⟩ := h
    refine ⟨_, rfl, v, k, rfl, hk, n1, n2, fun H1 s1 => ⟨_, rfl, iteT ?_⟩⟩
    exact err_made B.oex B.nf (er.later s1)
theorem ok_riL {C f fA fH cR fR cM fM : Addr} {fd fdA fdH fdR fdM : FuncData} (F : Fun K "__init__" "Ring.__init__" sRingInit f fd) (T : Bi mg) (N : Nm mg) (R : RingC K mg C) (A' : DefAt P w K mg base CX0 3 "are_lengths" ["value"] (spAreGL K) fA fdA) (L : DefAt P w K mg base CX0 2 "has_level" ["lengths"] (spHasL K) fH fdH)
    (B : ErrAt P w K mg base "BadRing" "part" cR fR fdR) (M : Err2At P w K mg base "TooMany" "what" "most" cM fM fdM) : FnOk P w K mg base (L2.CX P w) 4 f fd ["self", "lengths"] (spRIL K C cR cM) := by
  refine F.okX scRI (fun vs H Q E h => ?_) (fun cdv A outer s H vs Q E hr h => ?_)
  · obtain ⟨r, l, dx, xs, kf, rfl, _⟩ := h
    rfl
  · obtain ⟨t3, h3⟩ := N.leastB
    obtain ⟨t8, h8⟩ := N.mostB
    have hr1 := hr.mono (show 2 ≤ 3 by decide)
    refine ⟨_, pss_cons (ps_if (pt_not (pt_val (pe_call A'.ok hr rfl A'.g A'.kp A'.b .nil pass0 (pa_cons (pv 1) pa_nil)))) (pss_one (ps_raise rfl (takes_of rfl rfl rfl rfl) (pmk_oex B.oex B.ic B.ti B.ok hr1 B.b .nil pass0 rfl B.g (pa_cons pe_str pa_nil)))) pss_nil)
      (pss_cons (ps_if (pt_cmpR op_lt (pe_callB call_len_seq (by rfl) T.len PySem.boot_len (pa_cons (pv 1) pa_nil)) (pe_glob (v := .int 3) rfl h3 ⟨_, rfl⟩) (nomark _)) (pss_one (ps_raise rfl (takes_of rfl rfl rfl rfl) (pmk_oex B.oex B.ic B.ti B.ok hr1 B.b .nil pass0 rfl B.g (pa_cons pe_str pa_nil)))) pss_nil)
      (pss_cons (ps_if (pt_cmpR op_gt (pe_callB call_len_seq (by rfl) T.len PySem.boot_len (pa_cons (pv 1) pa_nil)) (pe_glob (v := .int 8) rfl h8 ⟨_, rfl⟩) (nomark _)) (pss_one (ps_raise rfl (takes_of rfl rfl rfl rfl) (pmk_oex M.oex M.ic M.ti M.ok hr1 M.b .nil pass0 rfl M.g (pa_cons pe_str (pa_cons (pe_glob (v := .int 8) rfl h8 ⟨_, rfl⟩) pa_nil))))) pss_nil)
      (pss_cons (ps_fld (pv 0) (pe_callTy call_tuple_of (by rfl) T.tuple (by decide +kernel) (pa_cons (pv 1) pa_nil)) rfl)
      (pss_cons (ps_fld (pv 0) (pe_callB (cr_sumT rfl) (by rfl) T.sum (by decide +kernel) (pa_cons (pe_fld (pv 0) rfl) pa_nil)) rfl)
      (pss_cons (ps_fld (pv 0) (pe_cmpR op_le (pe_op op_mul pe_int (pe_callB (cr_maxT rfl) (by rfl) T.max (by decide +kernel) (pa_cons (pe_fld (pv 0) rfl) pa_nil))) (pe_fld (pv 0) rfl) (nomark _)) rfl)
      (pss_one (ps_fld (pv 0) (pe_not (pe_call L.ok (hr.mono (by decide)) rfl L.g L.kp L.b .nil pass0 (pa_cons (pe_fld (pv 0) rfl) pa_nil))) rfl))))))), ?_⟩
    obtain ⟨r, l, dx, xs, kf, rfl, hr0, hk, hs, hl, hx, h⟩ := h
    refine ⟨_, rfl, l, xs, kf, rfl, hk, hs, hl, hx, fun H1 s1 => ⟨_, rfl, ?_⟩⟩
    rcases h with ⟨ea, er⟩ | ⟨ea, ls, rfl, fin⟩
    · rw [ea]
      exact iteT (err_made B.oex B.nf (er.later s1))
    rw [ea]
    refine iteF ?_
    have hs1 := s1.seq hs
    refine ⟨_, rfl, l, _, rfl, .inl hs1, _, _, rfl, rfl, _, rfl, ?_⟩
    rw [List.length_map]
    rcases fin with ⟨c3, er⟩ | fin
    · exact iteDT (by omega) (err_made B.oex B.nf (er.later s1))
    have l3 : 3 ≤ ls.length := by
      rcases fin with ⟨c8, _⟩ | ⟨c3, _⟩ <;> omega
    refine iteDF (by omega) ?_
    refine ⟨_, rfl, l, _, rfl, .inl hs1, _, _, rfl, rfl, _, rfl, ?_⟩
    rw [List.length_map]
    rcases fin with ⟨c8, er⟩ | ⟨_, c8, q⟩
    · refine iteDT (by omega) ?_
      exact err_made2 M.oex M.nf M.ng (fun d H' s n e => er d H' (s1.trans s) (s1.free n) e)
    refine iteDF (by omega) ?_
    have hr1' := s1 _ _ hr0
    have kp1 : ∀ b o, H b = some o → b ≠ r → H1 b = some o := fun b o e _ => s1 b o e
    refine ⟨_, rfl, l, _, rfl, .inl ⟨hs1, fun t ht => ?_⟩⟩
    have nrt : r ≠ t := ne_of_none hr1' ht
    have hrn : upd H1 t (.tup (ls.map V.int)) r = some (.ins C dx []) := by rw [upd_ne nrt]; exact hr1'
    have hsn : upd H1 t (.tup (ls.map V.int)) t = some (.tup (ls.map V.int)) := upd_same
    have kpn : ∀ b o, H b = some o → b ≠ r → upd H1 t (.tup (ls.map V.int)) b = some o := fun b o e n => by
      rw [upd_ne (ne_of_none (s1 b o e) ht)]
      exact s1 b o e
    generalize upd H1 t (.tup (ls.map V.int)) = Hn at hrn hsn kpn ⊢
    have ntr : t ≠ r := fun z => by rw [z, hrn] at hsn; cases hsn
    have sqt : ∀ u, upd Hn r u t = some (.tup (ls.map V.int)) := fun u => by rw [upd_ne ntr]; exact hsn
    have sq : ∀ u, SqT K (upd Hn r u) t (ls.map V.int) := fun u => .inl (.inl (sqt u))
    refine ⟨_, rfl, r, C, dx, [], rfl, hrn, R.cl, R.nL, (by show 0 < 1000; decide), ?_⟩
    refine ⟨_, rfl, r, C, dx, _, _, rfl, upd_same, R.cl, R.nL, (by rw [lookup_putF, if_pos rfl]), t, ls, rfl, sq _, _, rfl, r, C, dx, _, rfl, upd_same, R.cl, R.nT, (by show 1 < 1000; decide), ?_⟩
    rw [upd_upd]
    refine ⟨_, rfl, r, C, dx, _, _, rfl, upd_same, R.cl, R.nL, (by rw [lookup_putF, if_neg n1, lookup_putF, if_pos rfl]), t, ls, rfl, sq _, by omega, fun m hm hx => ?_⟩
    refine ⟨_, _, rfl, rfl, .inl ⟨by decide, by decide⟩, _, rfl, r, C, dx, _, _, rfl, upd_same, R.cl, R.nT, (by rw [lookup_putF, if_pos rfl]), _, _, rfl, rfl, _, rfl, r, C, dx, _, rfl, upd_same, R.cl, R.nC, ?_, ?_⟩
    · have e1 := length_putF "total" (V.int ls.sum) (putF "lengths" (V.ref t) [])
      have e2 := length_putF "lengths" (V.ref t) []
      simp only [List.length_nil] at e2
      omega
    dsimp only
    rw [upd_upd, closes_max hm hx]
    refine ⟨_, rfl, r, C, dx, _, _, rfl, upd_same, R.cl, R.nL, (by rw [lookup_putF, if_neg n2, lookup_putF, if_neg n1, lookup_putF, if_pos rfl]), t, ls, rfl, sq _, c8, fun H5 s5 => ⟨_, rfl, _, rfl, r, C, dx, _, rfl, s5 _ _ upd_same, R.cl, R.nI, ?_, ?_⟩⟩
    · have e1 := length_putF "total" (V.int ls.sum) (putF "lengths" (V.ref t) [])
      have e2 := length_putF "lengths" (V.ref t) []
      have e3 := length_putF "closes" (V.bl (closesB ls)) (putF "total" (V.int ls.sum) (putF "lengths" (V.ref t) []))
      simp only [List.length_nil] at e2
      omega
    · refine q _ ⟨dx, t, upd_same, by rw [upd_ne ntr]; exact s5 _ _ (sqt _)⟩ fun b o e hbr => ?_
      rw [upd_ne hbr]
      refine s5 _ _ ?_
      rw [upd_ne hbr]
      exact kpn b o e hbr
theorem ok_riT {C f fA fH cR fR cM fM : Addr} {fd fdA fdH fdR fdM : FuncData} (F : Fun K "__init__" "Ring.__init__" sRingInit f fd) (T : Bi mg) (N : Nm mg) (R : RingC K mg C) (A' : DefAt P w K mg base CX0 3 "are_lengths" ["value"] (spAreGT K) fA fdA) (L : DefAt P w K mg base CX0 2 "has_level" ["lengths"] (spHasL K) fH fdH)
    (B : ErrAt P w K mg base "BadRing" "part" cR fR fdR) (M : Err2At P w K mg base "TooMany" "what" "most" cM fM fdM) : FnOk P w K mg base (L2.CX P w) 4 f fd ["self", "lengths"] (spRIT K C cR cM) := by
  refine F.okX scRI (fun vs H Q E h => ?_) (fun cdv A outer s H vs Q E hr h => ?_)
  · obtain ⟨r, l, dx, xs, kf, rfl, _⟩ := h
    rfl
  · obtain ⟨t3, h3⟩ := N.leastB
    obtain ⟨t8, h8⟩ := N.mostB
    have hr1 := hr.mono (show 2 ≤ 3 by decide)
    refine ⟨_, pss_cons (ps_if (pt_not (pt_val (pe_call A'.ok hr rfl A'.g A'.kp A'.b .nil pass0 (pa_cons (pv 1) pa_nil)))) (pss_one (ps_raise rfl (takes_of rfl rfl rfl rfl) (pmk_oex B.oex B.ic B.ti B.ok hr1 B.b .nil pass0 rfl B.g (pa_cons pe_str pa_nil)))) pss_nil)
      (pss_cons (ps_if (pt_cmpR op_lt (pe_callB call_len_seq (by rfl) T.len PySem.boot_len (pa_cons (pv 1) pa_nil)) (pe_glob (v := .int 3) rfl h3 ⟨_, rfl⟩) (nomark _)) (pss_one (ps_raise rfl (takes_of rfl rfl rfl rfl) (pmk_oex B.oex B.ic B.ti B.ok hr1 B.b .nil pass0 rfl B.g (pa_cons pe_str pa_nil)))) pss_nil)
      (pss_cons (ps_if (pt_cmpR op_gt (pe_callB call_len_seq (by rfl) T.len PySem.boot_len (pa_cons (pv 1) pa_nil)) (pe_glob (v := .int 8) rfl h8 ⟨_, rfl⟩) (nomark _)) (pss_one (ps_raise rfl (takes_of rfl rfl rfl rfl) (pmk_oex M.oex M.ic M.ti M.ok hr1 M.b .nil pass0 rfl M.g (pa_cons pe_str (pa_cons (pe_glob (v := .int 8) rfl h8 ⟨_, rfl⟩) pa_nil))))) pss_nil)
      (pss_cons (ps_fld (pv 0) (pe_callTy call_tuple_of (by rfl) T.tuple (by decide +kernel) (pa_cons (pv 1) pa_nil)) rfl)
      (pss_cons (ps_fld (pv 0) (pe_callB (cr_sumT rfl) (by rfl) T.sum (by decide +kernel) (pa_cons (pe_fld (pv 0) rfl) pa_nil)) rfl)
      (pss_cons (ps_fld (pv 0) (pe_cmpR op_le (pe_op op_mul pe_int (pe_callB (cr_maxT rfl) (by rfl) T.max (by decide +kernel) (pa_cons (pe_fld (pv 0) rfl) pa_nil))) (pe_fld (pv 0) rfl) (nomark _)) rfl)
      (pss_one (ps_fld (pv 0) (pe_not (pe_call L.ok (hr.mono (by decide)) rfl L.g L.kp L.b .nil pass0 (pa_cons (pe_fld (pv 0) rfl) pa_nil))) rfl))))))), ?_⟩
    obtain ⟨r, l, dx, xs, kf, rfl, hr0, hk, hs, hl, hx, h⟩ := h
    refine ⟨_, rfl, l, xs, kf, rfl, hk, .inl (.inl hs), hl, hx, fun H1 s1 => ⟨_, rfl, ?_⟩⟩
    rcases h with ⟨ea, er⟩ | ⟨ea, ls, rfl, fin⟩
    · rw [ea]
      exact iteT (err_made B.oex B.nf (er.later s1))
    rw [ea]
    refine iteF ?_
    have hs1t := s1 _ _ hs
    have hs1 : SqT K H1 l (ls.map V.int) := .inl (.inl hs1t)
    refine ⟨_, rfl, l, _, rfl, .inr hs1, _, _, rfl, rfl, _, rfl, ?_⟩
    rw [List.length_map]
    rcases fin with ⟨c3, er⟩ | fin
    · exact iteDT (by omega) (err_made B.oex B.nf (er.later s1))
    have l3 : 3 ≤ ls.length := by
      rcases fin with ⟨c8, _⟩ | ⟨c3, _⟩ <;> omega
    refine iteDF (by omega) ?_
    refine ⟨_, rfl, l, _, rfl, .inr hs1, _, _, rfl, rfl, _, rfl, ?_⟩
    rw [List.length_map]
    rcases fin with ⟨c8, er⟩ | ⟨_, c8, q⟩
    · refine iteDT (by omega) ?_
      exact err_made2 M.oex M.nf M.ng (fun d H' s n e => er d H' (s1.trans s) (s1.free n) e)
    refine iteDF (by omega) ?_
    have hr1' := s1 _ _ hr0
    have kp1 : ∀ b o, H b = some o → b ≠ r → H1 b = some o := fun b o e _ => s1 b o e
    refine ⟨_, rfl, l, _, rfl, .inr ⟨hs1, ?_⟩⟩
    obtain ⟨t, et⟩ : ∃ t, t = l := ⟨_, rfl⟩
    subst et
    have hrn := hr1'
    have hsn := hs1t
    have kpn := kp1
    generalize H1 = Hn at hrn hsn kpn ⊢
    have ntr : t ≠ r := fun z => by rw [z, hrn] at hsn; cases hsn
    have sqt : ∀ u, upd Hn r u t = some (.tup (ls.map V.int)) := fun u => by rw [upd_ne ntr]; exact hsn
    have sq : ∀ u, SqT K (upd Hn r u) t (ls.map V.int) := fun u => .inl (.inl (sqt u))
    refine ⟨_, rfl, r, C, dx, [], rfl, hrn, R.cl, R.nL, (by show 0 < 1000; decide), ?_⟩
    refine ⟨_, rfl, r, C, dx, _, _, rfl, upd_same, R.cl, R.nL, (by rw [lookup_putF, if_pos rfl]), t, ls, rfl, sq _, _, rfl, r, C, dx, _, rfl, upd_same, R.cl, R.nT, (by show 1 < 1000; decide), ?_⟩
    rw [upd_upd]
    refine ⟨_, rfl, r, C, dx, _, _, rfl, upd_same, R.cl, R.nL, (by rw [lookup_putF, if_neg n1, lookup_putF, if_pos rfl]), t, ls, rfl, sq _, by omega, fun m hm hx => ?_⟩
    refine ⟨_, _, rfl, rfl, .inl ⟨by decide, by decide⟩, _, rfl, r, C, dx, _, _, rfl, upd_same, R.cl, R.nT, (by rw [lookup_putF, if_pos rfl]), _, _, rfl, rfl, _, rfl, r, C, dx, _, rfl, upd_same, R.cl, R.nC, ?_, ?_⟩
    · have e1 := length_putF "total" (V.int ls.sum) (putF "lengths" (V.ref t) [])
      have e2 := length_putF "lengths" (V.ref t) []
      simp only [List.length_nil] at e2
      omega
    dsimp only
    rw [upd_upd, closes_max hm hx]
    refine ⟨_, rfl, r, C, dx, _, _, rfl, upd_same, R.cl, R.nL, (by rw [lookup_putF, if_neg n2, lookup_putF, if_neg n1, lookup_putF, if_pos rfl]), t, ls, rfl, sq _, c8, fun H5 s5 => ⟨_, rfl, _, rfl, r, C, dx, _, rfl, s5 _ _ upd_same, R.cl, R.nI, ?_, ?_⟩⟩
    · have e1 := length_putF "total" (V.int ls.sum) (putF "lengths" (V.ref t) [])
      have e2 := length_putF "lengths" (V.ref t) []
      have e3 := length_putF "closes" (V.bl (closesB ls)) (putF "total" (V.int ls.sum) (putF "lengths" (V.ref t) []))
      simp only [List.length_nil] at e2
      omega
    · refine q _ ⟨dx, t, upd_same, by rw [upd_ne ntr]; exact s5 _ _ (sqt _)⟩ fun b o e hbr => ?_
      rw [upd_ne hbr]
      refine s5 _ _ ?_
      rw [upd_ne hbr]
      exact kpn b o e hbr
end
end K
namespace K
open PySem L2 Rg
open Evl (pss_cut)
section
variable {P : Program} {w : World} {K : PySem.W.Frag} {mg : Str → Option Value} {base : Heap}
/-! ### want_bar, want_number of anything -/
def spBarG (K : PySem.W.Frag) (C : Addr) : Sp := fun vs H Q E => ∃ (v : V) (k : String) (many : Int), vs = [v, .int many] ∧ KndI K H v k ∧ ((winB k 0 (many - 1) v = true ∧ Q .non H) ∨ (winB k 0 (many - 1) v = false ∧ Errs E C "value" v H))
theorem ok_barG {f fW C fI : Addr} {fd fdW fdI : FuncData} (F : Fun K "want_bar" "want_bar" sWantBar f fd) (W : DefAt P w K mg base CX0 2 "is_within" ["value", "least", "most"] (spWithinG K) fW fdW) (B : ErrAt P w K mg base "NoBar" "value" C fI fdI) :
    FnOk P w K mg base (L2.CX P w) 3 f fd ["value", "many"] (spBarG K C) := by
  refine F.okX scWantBar (fun vs H Q E h => ?_) (fun cdv A outer s H vs Q E hr h => ?_)
  · obtain ⟨v, k, many, rfl, _⟩ := h
    rfl
  · refine ⟨_, pss_one (ps_if (pt_not (pt_val (pe_call W.ok hr rfl W.g W.kp W.b .nil pass0 (pa_cons (pv 0) (pa_cons pe_int (pa_cons (pe_op op_sub (pv 1) pe_int) pa_nil))))))
      (pss_one (ps_raise rfl (takes_of rfl rfl rfl rfl) (pmk_oex B.oex B.ic B.ti B.ok hr B.b .nil pass0 rfl B.g (pa_cons (pv 0) pa_nil)))) pss_nil), ?_⟩
    obtain ⟨v, k, many, rfl, hk, h⟩ := h
    refine ⟨_, rfl, _, rfl, _, _, rfl, rfl, v, k, 0, many - 1, rfl, hk, _, rfl, ?_⟩
    rcases h with ⟨e, q⟩ | ⟨e, q⟩
    · rw [e]; exact iteF q
    · rw [e]; exact iteT ⟨_, rfl, err_made B.oex B.nf q⟩
def spNumG (K : PySem.W.Frag) (C : Addr) : Sp := fun vs H Q E => ∃ (v : V) (k : String) (lo hi : Int) (part : Str), vs = [v, .int lo, .int hi, .str part] ∧ KndI K H v k ∧ ((winB k lo hi v = true ∧ Q .non H) ∨ (winB k lo hi v = false ∧ Errs E C "part" (.str part) H))
theorem scWantNum : FnScope ["value", "least", "most", "part"] ["value", "least", "most", "part"] (defScope sWantNumber) := ⟨rfl, rfl, rfl, by decide +kernel, rfl, by decide +kernel, by decide +kernel⟩
theorem ok_numG {f fW C fI : Addr} {fd fdW fdI : FuncData} (F : Fun K "want_number" "want_number" sWantNumber f fd) (W : DefAt P w K mg base CX0 2 "is_within" ["value", "least", "most"] (spWithinG K) fW fdW) (B : ErrAt P w K mg base "BadNumber" "part" C fI fdI) :
    FnOk P w K mg base (L2.CX P w) 3 f fd ["value", "least", "most", "part"] (spNumG K C) := by
  refine F.okX scWantNum (fun vs H Q E h => ?_) (fun cdv A outer s H vs Q E hr h => ?_)
  · obtain ⟨v, k, lo, hi, part, rfl, _⟩ := h
    rfl
  · refine ⟨_, pss_one (ps_if (pt_not (pt_val (pe_call W.ok hr rfl W.g W.kp W.b .nil pass0 (pa_cons (pv 0) (pa_cons (pv 1) (pa_cons (pv 2) pa_nil))))))
      (pss_one (ps_raise rfl (takes_of rfl rfl rfl rfl) (pmk_oex B.oex B.ic B.ti B.ok hr B.b .nil pass0 rfl B.g (pa_cons (pv 3) pa_nil)))) pss_nil), ?_⟩
    obtain ⟨v, k, lo, hi, part, rfl, hk, h⟩ := h
    refine ⟨_, rfl, _, rfl, _, rfl, v, k, lo, hi, rfl, hk, _, rfl, ?_⟩
    rcases h with ⟨e, q⟩ | ⟨e, q⟩
    · rw [e]; exact iteF q
    · rw [e]; exact iteT ⟨_, rfl, err_made B.oex B.nf q⟩
/-! ### a Ring of integers -/
/-- the errors that a Ring of integers may raise -/
structure Rs where
  r : Addr
  m : Addr
def RingRes (E : XK) (c : Rs) (H : Hp) (ls : List Int) (k : Prop) : Prop :=
  ((¬ Bd 1000000 ls) ∧ Errs E c.r "part" (.str "lengths") H) ∨ (Bd 1000000 ls ∧ ls.length < 3 ∧ Errs E c.r "part" (.str "bars") H) ∨ (Bd 1000000 ls ∧ 8 < ls.length ∧ ErrsF E c.m [("most", .int 8), ("what", .str "bars")] H) ∨ (Bd 1000000 ls ∧ 3 ≤ ls.length ∧ ls.length ≤ 8 ∧ k)
theorem lenB_bd (ls : List Int) : ((ls.map V.int).all fun x => lenB "int" x) = true ↔ Bd 1000000 ls := by
  rw [List.all_map, List.all_eq_true]
  constructor
  · intro h x hx
    have := h x hx
    simp [lenB, winB] at this
    exact this
  · intro h x hx
    have := h x hx
    simp [lenB, winB]
    exact this
def SqE (H : Hp) (l : Addr) (xs : List V) : Prop := H l = some (.lst xs) ∨ H l = some (.tup xs)
theorem SqE.same {H H' : Hp} {l : Addr} {xs : List V} (h : SqE H l xs) (s : Same H H') : SqE H' l xs := h.imp (s _ _) (s _ _)
def spRX (K : PySem.W.Frag) (C : Addr) (c : Rs) : Sp := fun vs H Q E => ∃ (r l dx : Addr) (ls : List Int), vs = [.ref r, .ref l] ∧ H r = some (.ins C dx []) ∧ SqE H l (ls.map V.int) ∧ ls.length ≤ 1000 ∧ RingRes E c H ls (RingK K C r ls H Q)
theorem ring_fin {E : XK} {c : Rs} {H : Hp} {ls : List Int} {k : List Int → Prop} (h : RingRes E c H ls (k ls)) : ((((ls.map V.int).all fun x => lenB "int" x) = false ∧ Errs E c.r "part" (.str "lengths") H) ∨ (((ls.map V.int).all fun x => lenB "int" x) = true ∧ ∃ ms, ls.map V.int = ms.map V.int ∧ RingFin E c.r c.m H ms (k ms))) := by
  rcases h with ⟨nb, e⟩ | ⟨b, l, e⟩ | ⟨b, l, e⟩ | ⟨b, l, l', e⟩
  · refine .inl ⟨?_, e⟩
    cases z : ((ls.map V.int).all fun x => lenB "int" x) with
    | false => rfl
    | true => exact absurd ((lenB_bd ls).mp z) nb
  · exact .inr ⟨(lenB_bd ls).mpr b, ls, rfl, .inl ⟨l, e⟩⟩
  · exact .inr ⟨(lenB_bd ls).mpr b, ls, rfl, .inr (.inl ⟨l, e⟩)⟩
  · exact .inr ⟨(lenB_bd ls).mpr b, ls, rfl, .inr (.inr ⟨l, l', e⟩)⟩
theorem ok_rx {CX : CXT} {k : Nat} {C f : Addr} {fd : FuncData} {c : Rs} (FL : FnOk P w K mg base CX k f fd ["self", "lengths"] (spRIL K C c.r c.m)) (FT : FnOk P w K mg base CX k f fd ["self", "lengths"] (spRIT K C c.r c.m)) : FnOk P w K mg base CX k f fd ["self", "lengths"] (spRX K C c) := by
  refine (fn_or FL FT).imp fun vs H Q E ⟨r, l, dx, ls, hv, hr, hs, hl, h⟩ => ?_
  subst hv
  have kn : ∀ x ∈ ls.map V.int, KndI K H x ((fun _ => "int") x) := fun x hx => by
    obtain ⟨z, _, rfl⟩ := List.mem_map.mp hx
    exact ⟨Knd.int, fun _ => ⟨z, rfl⟩⟩
  rcases hs with hs | hs
  · exact .inl ⟨r, l, dx, ls.map V.int, fun _ => "int", rfl, hr, ⟨.base (.lst hs), by decide⟩, SqL.of hs, by rw [List.length_map]; exact hl, kn, ring_fin (k := fun ms => RingK K C r ms H Q) h⟩
  · exact .inr ⟨r, l, dx, ls.map V.int, fun _ => "int", rfl, hr, ⟨.base (.tup hs), by decide⟩, hs, by rw [List.length_map]; exact hl, kn, ring_fin (k := fun ms => RingK K C r ms H Q) h⟩
theorem RingRes.imp {E : XK} {c : Rs} {H : Hp} {ls : List Int} {k k' : Prop} (h : RingRes E c H ls k) (i : k → k') : RingRes E c H ls k' := by
  rcases h with z | z | z | ⟨b, l, l', e⟩
  · exact .inl z
  · exact .inr (.inl z)
  · exact .inr (.inr (.inl z))
  · exact .inr (.inr (.inr ⟨b, l, l', i e⟩))
theorem ErrsF.later {E : XK} {C : Addr} {fs : List (Str × V)} {H H1 : Hp} (h : ErrsF E C fs H) (s : Same H H1) : ErrsF E C fs H1 := fun d H' s' n e => h d H' (s.trans s') (s.free n) e
theorem RingRes.later {E : XK} {c : Rs} {H H1 : Hp} {ls : List Int} {k : Prop} (h : RingRes E c H ls k) (s : Same H H1) : RingRes E c H1 ls k := by
  rcases h with ⟨b, z⟩ | ⟨b, l, z⟩ | ⟨b, l, z⟩ | z
  · exact .inl ⟨b, z.later s⟩
  · exact .inr (.inl ⟨b, l, z.later s⟩)
  · exact .inr (.inr (.inl ⟨b, l, z.later s⟩))
  · exact .inr (.inr (.inr z))
theorem RingRes.fine {E : XK} {c : Rs} {H : Hp} {ls : List Int} {k : Prop} (b : Bd 1000000 ls) (l3 : 3 ≤ ls.length) (l8 : ls.length ≤ 8) (h : k) : RingRes E c H ls k := .inr (.inr (.inr ⟨b, l3, l8, h⟩))
theorem RingW.same {C : Addr} {H H' : Hp} {r : Addr} {ls : List Int} (h : RingW K C H r ls) (s : Same H H') : RingW K C H' r ls := by
  obtain ⟨dx, t, h1, h2⟩ := h
  exact ⟨dx, t, s _ _ h1, s _ _ h2⟩
theorem RingW.but {C p : Addr} {H H' : Hp} {r : Addr} {ls : List Int} {ys : List V} (h : RingW K C H r ls) (b : But p H H') (hp : H p = some (.lst ys)) : RingW K C H' r ls := by
  obtain ⟨dx, t, h1, h2⟩ := h
  exact ⟨dx, t, b _ _ (fun z => by rw [z, hp] at h1; cases h1) h1, b _ _ (fun z => by rw [z, hp] at h2; cases h2) h2⟩
theorem RingW.at_ {C : Addr} {H : Hp} {r : Addr} {ls : List Int} (h : RingW K C H r ls) : ∃ dx fs, H r = some (.ins C dx fs) := by
  obtain ⟨dx, t, h1, h2⟩ := h
  exact ⟨dx, _, h1⟩
/-- a new ring is told, all that was tracked stands -/
def NewRing (K : PySem.W.Frag) (C : Addr) (ls : List Int) (H : Hp) (Q : VK) : Prop := ∀ r H', RingW K C H' r ls → Same H H' → H r = none → Q (.ref r) H'
theorem NewRing.later {C : Addr} {ls : List Int} {H H1 : Hp} {Q : VK} (h : NewRing K C ls H Q) (s : Same H H1) : NewRing K C ls H1 Q := fun r H' a b c => h r H' a (s.trans b) (s.free c)
/-- what the making of a Ring asks, from what is promised of it -/
theorem made {C l : Addr} {c : Rs} {E : XK} {H : Hp} {ls : List Int} {Q : VK} (hs : SqE H l (ls.map V.int)) (hl : ls.length ≤ 1000) (h : RingRes E c H ls (NewRing K C ls H Q)) :
    ∀ x dx, H x = none → H dx = none → dx ≠ x → spRX K C c (.ref x :: ([.ref l] ++ [])) (upd (upd H dx (.own x)) x (.ins C dx [])) (fun v H2 => v = .non ∧ Q (.ref x) H2) E := by
  intro x dx hx hdx _
  have s0 : Same H (upd (upd H dx (.own x)) x (.ins C dx [])) := fun b o q => by
    rw [upd_ne (ne_of_none q hx), upd_ne (ne_of_none q hdx)]
    exact q
  refine ⟨x, l, dx, ls, rfl, upd_same, hs.same s0, hl, (h.later s0).imp fun q H' ring kp => ⟨rfl, q x H' ring (fun b o e => kp b o (s0 b o e) (ne_of_none e hx)) hx⟩⟩
/-- t[lo:hi] -/
theorem slA {a : Addr} {xs : List V} {lo hi : Option Int} {H : Hp} {Q : VK} (hs : H a = some (.tup xs)) (k : ∀ t H', H' t = some (.tup (cutV xs lo hi)) → Same H H' → Q (.ref t) H') : rSlA K (.ref a) lo hi H Q := by
  refine ⟨a, xs, rfl, .inl (.inl hs), fun ⟨e1, e2⟩ => k a H ?_ (Same.refl H), fun _ p hp => k p _ upd_same ((Same.refl H).new hp)⟩
  unfold cutV
  rw [e1, e2, List.drop_zero, Nat.sub_zero, List.take_length]
  exact hs
theorem catA {a b : Addr} {xs ys : List V} {H : Hp} {Q : VK} (ha : H a = some (.tup xs)) (hb : H b = some (.tup ys)) (hl : xs.length + ys.length ≤ 1000) (k : ∀ t H', H' t = some (.tup (xs ++ ys)) → Same H H' → Q (.ref t) H') : rCatA K (.ref a) (.ref b) H Q := by
  refine ⟨a, b, xs, ys, rfl, rfl, .inl (.inl ha), .inl (.inl hb), Nat.le_of_lt (sm (by omega)), fun e => k b H ?_ (Same.refl H), fun _ e => k a H ?_ (Same.refl H), fun _ _ p hp => k p _ upd_same ((Same.refl H).new hp)⟩
  · rw [e]; exact hb
  · rw [e, List.append_nil]; exact ha
end
end K
namespace K
open PySem L2 Rg
open Evl (pss_cut)
/-! ### lists -/
theorem Bd.app {m : Int} {a b : List Int} (h : Bd m a) (k : Bd m b) : Bd m (a ++ b) := fun x hx => (List.mem_append.mp hx).elim (h x) (k x)
theorem Bd.take {m : Int} {a : List Int} (i : Nat) (h : Bd m a) : Bd m (a.take i) := fun x hx => h x (List.mem_of_mem_take hx)
theorem Bd.drop {m : Int} {a : List Int} (i : Nat) (h : Bd m a) : Bd m (a.drop i) := fun x hx => h x (List.mem_of_mem_drop hx)
theorem Bd.rev {m : Int} {a : List Int} (h : Bd m a) : Bd m a.reverse := fun x hx => h x (List.mem_reverse.mp hx)
theorem Bd.one {m x : Int} (h1 : 1 ≤ x) (h2 : x ≤ m) : Bd m [x] := fun y hy => by rw [List.mem_singleton.mp hy]; exact ⟨h1, h2⟩
theorem getD_mem {ls : List Int} {i : Nat} (h : i < ls.length) : ls.getD i 0 ∈ ls := by
  rw [List.getD_eq_getElem?_getD, List.getElem?_eq_getElem h]
  exact List.getElem_mem h
theorem Bd.get {m : Int} {ls : List Int} (h : Bd m ls) {i : Nat} (hi : i < ls.length) : 1 ≤ ls.getD i 0 ∧ ls.getD i 0 ≤ m := h _ (getD_mem hi)
theorem cut_from (xs : List V) {z : Int} {k : Nat} (hz : z = (k : Int)) : cutV xs (some z) none = xs.drop k := by
  subst hz
  unfold cutV
  rw [HT.sIx_nat, HT.sIx_none]
  by_cases h : k ≤ xs.length
  · rw [Nat.min_eq_left h, List.take_of_length_le (by rw [List.length_drop]; omega)]
  · rw [Nat.min_eq_right (by omega), List.drop_eq_nil_of_le (Nat.le_refl _), List.drop_eq_nil_of_le (show xs.length ≤ k by omega), List.take_nil]
theorem cut_mid (xs : List V) {z w : Int} {j k : Nat} (hz : z = (j : Int)) (hw : w = (k : Int)) (hj : j ≤ xs.length) (hk : k ≤ xs.length) : cutV xs (some z) (some w) = (xs.drop j).take (k - j) := by
  subst hz hw
  unfold cutV
  rw [HT.sIx_nat, HT.sIx_nat, Nat.min_eq_left hj, Nat.min_eq_left hk]
theorem getL {ls : List Int} {z : Int} {i : Nat} (hz : z = (i : Int)) (h1 : i < ls.length) : atI (ls.map V.int) z = some (V.int (ls.getD i 0)) := by
  subst hz
  have h : (ls.map V.int)[i]? = some (V.int (ls.getD i 0)) := by rw [int_get h1, List.getD_eq_getElem?_getD, List.getElem?_eq_getElem h1]; rfl
  exact atI_nat h
theorem win_int {lo hi i : Int} (h1 : lo ≤ i) (h2 : i ≤ hi) : winB "int" lo hi (.int i) = true := by simp [winB, h1, h2]
def oneL (ls : List Int) (i : Nat) : List Int := if i + 1 = ls.length then [ls.getD i 0 + ls.getD 0 0] ++ (ls.drop 1).take (i - 1) else ls.take i ++ [ls.getD i 0 + ls.getD (i + 1) 0] ++ ls.drop (i + 2)
def twoL (ls : List Int) (i : Nat) (z : Int) : List Int := ls.take i ++ [z, ls.getD i 0 - z] ++ ls.drop (i + 1)
theorem oneL_len {ls : List Int} {i : Nat} (h : i < ls.length) (h2 : 2 ≤ ls.length) : (oneL ls i).length + 1 = ls.length := by
  unfold oneL
  split
  · simp only [List.length_append, List.length_take, List.length_drop, List.length_singleton]; omega
  · simp only [List.length_append, List.length_take, List.length_drop, List.length_singleton]; omega
theorem twoL_len {ls : List Int} {i : Nat} {z : Int} (h : i < ls.length) : (twoL ls i z).length = ls.length + 1 := by
  unfold twoL
  simp only [List.length_append, List.length_take, List.length_drop, List.length_cons, List.length_nil]; omega
section
variable {P : Program} {w : World} {K : PySem.W.Frag} {mg : Str → Option Value} {base : Heap}
theorem sl_to {a : Addr} {ls : List Int} {z : Int} {i : Nat} {H : Hp} {Q : VK} (hs : H a = some (.tup (ls.map V.int))) (hz : z = (i : Int)) (k : ∀ t H', H' t = some (.tup ((ls.take i).map V.int)) → Same H H' → Q (.ref t) H') : rSlA K (.ref a) none (some z) H Q := by
  subst hz
  refine slA hs fun t H' h s => k t H' ?_ s
  rw [h, cutV_to, List.map_take]
theorem sl_from {a : Addr} {ls : List Int} {z : Int} {i : Nat} {H : Hp} {Q : VK} (hs : H a = some (.tup (ls.map V.int))) (hz : z = (i : Int)) (k : ∀ t H', H' t = some (.tup ((ls.drop i).map V.int)) → Same H H' → Q (.ref t) H') : rSlA K (.ref a) (some z) none H Q := by
  refine slA hs fun t H' h s => k t H' ?_ s
  rw [h, cut_from _ hz, List.map_drop]
theorem sl_mid {a : Addr} {ls : List Int} {z w : Int} {i j : Nat} {H : Hp} {Q : VK} (hs : H a = some (.tup (ls.map V.int))) (hz : z = (i : Int)) (hw : w = (j : Int)) (hi : i ≤ ls.length) (hj : j ≤ ls.length) (k : ∀ t H', H' t = some (.tup (((ls.drop i).take (j - i)).map V.int)) → Same H H' → Q (.ref t) H') : rSlA K (.ref a) (some z) (some w) H Q := by
  refine slA hs fun t H' h s => k t H' ?_ s
  rw [h, cut_mid _ hz hw (by rw [List.length_map]; exact hi) (by rw [List.length_map]; exact hj), List.map_take, List.map_drop]
theorem catI {a b : Addr} {xs ys : List Int} {H : Hp} {Q : VK} (ha : H a = some (.tup (xs.map V.int))) (hb : H b = some (.tup (ys.map V.int))) (hl : xs.length + ys.length ≤ 1000) (k : ∀ t H', H' t = some (.tup ((xs ++ ys).map V.int)) → Same H H' → Q (.ref t) H') : rCatA K (.ref a) (.ref b) H Q := by
  refine catA ha hb (by rw [List.length_map, List.length_map]; exact hl) fun t H' h s => k t H' ?_ s
  rw [h, List.map_append]
/-- the errors that the methods of a Ring raise -/
structure Ms where
  x : Rs
  n : Addr
  b : Addr
/-- what the methods need -/
structure RingP (P : Program) (w : World) (K : PySem.W.Frag) (mg : Str → Option Value) (base : Heap) (C : Addr) (c : Ms) (fI fB fN : Addr) (fdI fdB fdN : FuncData) : Prop where
  made : Mk K C fI
  ok : FnOk P w K mg base (L2.CX P w) 4 fI fdI ["self", "lengths"] (spRX K C c.x)
  b : Binds K fdI ["self", "lengths"] []
  bar : DefAt P w K mg base (L2.CX P w) 3 "want_bar" ["value", "many"] (spBarG K c.n) fB fdB
  num : DefAt P w K mg base (L2.CX P w) 3 "want_number" ["value", "least", "most", "part"] (spNumG K c.b) fN fdN
/-! ### with_length -/
def spWith (K : PySem.W.Frag) (C : Addr) (c : Ms) : Sp := fun vs H Q E => ∃ (r : Addr) (v x : V) (kv kx : String) (ls : List Int), vs = [.ref r, v, x] ∧ RingW K C H r ls ∧ 3 ≤ ls.length ∧ ls.length ≤ 8 ∧ Bd 1000000 ls ∧ KndI K H v kv ∧ KndI K H x kx ∧
  ((winB kv 0 ((ls.length : Int) - 1) v = false ∧ Errs E c.n "value" v H) ∨ (winB kv 0 ((ls.length : Int) - 1) v = true ∧ winB kx 1 1000000 x = false ∧ Errs E c.b "part" (.str "length") H) ∨
  ∃ (i : Nat) (z : Int), v = .int i ∧ kv = "int" ∧ i < ls.length ∧ x = .int z ∧ kx = "int" ∧ 1 ≤ z ∧ z ≤ 1000000 ∧ NewRing K C (ls.take i ++ [z] ++ ls.drop (i + 1)) H Q)
theorem scWith : FnScope ["self", "bar", "length"] ["self", "bar", "length"] (defScope sRingWithLength) := ⟨rfl, rfl, rfl, by decide +kernel, rfl, by decide +kernel, by decide +kernel⟩
theorem ok_with {C f fI fB fN : Addr} {c : Ms} {fd fdI fdB fdN : FuncData} (F : Fun K "with_length" "Ring.with_length" sRingWithLength f fd) (T : Bi mg) (N : Nm mg) (R : RingC K mg C) (G : RingP P w K mg base C c fI fB fN fdI fdB fdN) : FnOk P w K mg base (L2.CX P w) 6 f fd ["self", "bar", "length"] (spWith K C c) := by
  refine F.okX scWith (fun vs H Q E h => ?_) (fun cdv A outer s H vs Q E hr h => ?_)
  · obtain ⟨r, v, x, kv, kx, ls, rfl, _⟩ := h
    rfl
  · obtain ⟨tM, hM⟩ := N.mostL
    refine ⟨_, pss_cons (ps_expr (pe_call G.bar.ok (hr.mono (by decide)) rfl G.bar.g G.bar.kp G.bar.b .nil (passes_call (takes_of rfl rfl rfl rfl) (fun _ _ _ _ h => h)) (pa_cons (pv 1) (pa_cons (pe_callB call_len_seq (by rfl) T.len PySem.boot_len (pa_cons (pe_fld (pv 0) rfl) pa_nil)) pa_nil))))
      (pss_cons (ps_expr (pe_call G.num.ok (hr.mono (by decide)) rfl G.num.g G.num.kp G.num.b .nil (passes_call (takes_of rfl rfl rfl rfl) (fun _ _ _ _ h => h)) (pa_cons (pv 2) (pa_cons pe_int (pa_cons (pe_glob (v := .int 1000000) rfl hM ⟨_, rfl⟩) (pa_cons pe_str pa_nil))))))
      (pss_one (ps_ret (pe_make G.made G.ok hr (by rfl) R.g G.b .nil (passes_call (takes_of rfl rfl rfl rfl) (fun _ _ _ _ h => h)) (pa_cons (pe_op op_catA (pe_op op_catA (pe_slice sl_tupA (pe_fld (pv 0) rfl) po_none (po_some (pv 1))) (pe_tup (pa_cons (pv 2) pa_nil))) (pe_slice sl_tupA (pe_fld (pv 0) rfl) (po_some (pe_op op_add (pv 1) pe_int)) po_none)) pa_nil))))), ?_⟩
    obtain ⟨r, v, x, kv, kx, ls, rfl, ⟨dx, t, hr0, ht⟩, l3, l8, bd, hv, hx, h⟩ := h
    refine ⟨_, rfl, _, rfl, r, C, dx, _, _, rfl, hr0, R.cl, R.nL, rf_lengths _ _, t, _, rfl, .inr (.inl (.inl ht)), v, kv, ls.length, by rw [List.length_map]; rfl, hv, ?_⟩
    rcases h with ⟨e, er⟩ | ⟨e, e2, er⟩ | ⟨i, z, rfl, rfl, hi, rfl, rfl, z1, z2, q⟩
    · exact .inr ⟨e, er⟩
    · exact .inl ⟨e, _, rfl, x, kx, 1, 1000000, "length", rfl, hx, .inr ⟨e2, er⟩⟩
    · refine .inl ⟨win_int (by omega) (by omega), _, rfl, _, _, 1, 1000000, "length", rfl, hx, .inl ⟨win_int z1 z2, ?_⟩⟩
      refine ⟨_, rfl, r, C, dx, _, _, rfl, hr0, R.cl, R.nL, rf_lengths _ _, _, rfl, _, rfl, sl_to ht rfl fun t1 H1 h1 s1 => ⟨_, rfl, (by show 1 ≤ sizeLine; decide), fun t2 n2 => ?_⟩⟩
      have s2 := s1.new (o := .tup [.int z]) n2
      refine catI (xs := ls.take i) (ys := [z]) (by rw [upd_ne (ne_of_none h1 n2)]; exact h1) upd_same (by rw [List.length_take, List.length_singleton]; omega) fun t3 H3 h3 s3 => ?_
      have s23 := s2.trans s3
      refine ⟨_, rfl, r, C, dx, _, _, rfl, s23 _ _ hr0, R.cl, R.nL, rf_lengths _ _, _, rfl, _, _, rfl, rfl, _, rfl, ?_⟩
      dsimp only [tNoPart]
      refine sl_from (s23 _ _ ht) (i := i + 1) (by omega) fun t4 H4 h4 s4 => ?_
      refine catI (xs := ls.take i ++ [z]) (ys := ls.drop (i + 1)) (s4 _ _ h3) h4 (by simp only [List.length_append, List.length_take, List.length_drop, List.length_singleton]; omega) fun t5 H5 h5 s5 => ?_
      refine made (.inr h5) (by simp only [List.length_append, List.length_take, List.length_drop, List.length_singleton]; omega) (RingRes.fine (((bd.take i).app (Bd.one z1 z2)).app (bd.drop (i + 1))) ?_ ?_ (q.later ((s23.trans s4).trans s5)))
      · simp only [List.length_append, List.length_take, List.length_drop, List.length_singleton]; omega
      · simp only [List.length_append, List.length_take, List.length_drop, List.length_singleton]; omega
end
end K
namespace K
open PySem L2 Rg
open Evl (pss_cut)
section
variable {P : Program} {w : World} {K : PySem.W.Frag} {mg : Str → Option Value} {base : Heap}
/-! ### begun_at -/
def spBegun (K : PySem.W.Frag) (C : Addr) (c : Ms) : Sp := fun vs H Q E => ∃ (r : Addr) (v : V) (kv : String) (ls : List Int), vs = [.ref r, v] ∧ RingW K C H r ls ∧ 3 ≤ ls.length ∧ ls.length ≤ 8 ∧ Bd 1000000 ls ∧ KndI K H v kv ∧
  ((winB kv 0 ((ls.length : Int) - 1) v = false ∧ Errs E c.n "value" v H) ∨ ∃ (i : Nat), v = .int i ∧ kv = "int" ∧ i < ls.length ∧ NewRing K C (ls.drop i ++ ls.take i) H Q)
theorem scBegun : FnScope ["self", "bar"] ["self", "bar"] (defScope sRingBegunAt) := ⟨rfl, rfl, rfl, by decide +kernel, rfl, by decide +kernel, by decide +kernel⟩
theorem ok_begun {C f fI fB fN : Addr} {c : Ms} {fd fdI fdB fdN : FuncData} (F : Fun K "begun_at" "Ring.begun_at" sRingBegunAt f fd) (T : Bi mg) (R : RingC K mg C) (G : RingP P w K mg base C c fI fB fN fdI fdB fdN) : FnOk P w K mg base (L2.CX P w) 6 f fd ["self", "bar"] (spBegun K C c) := by
  refine F.okX scBegun (fun vs H Q E h => ?_) (fun cdv A outer s H vs Q E hr h => ?_)
  · obtain ⟨r, v, kv, ls, rfl, _⟩ := h
    rfl
  · refine ⟨_, pss_cons (ps_expr (pe_call G.bar.ok (hr.mono (by decide)) rfl G.bar.g G.bar.kp G.bar.b .nil (passes_call (takes_of rfl rfl rfl rfl) (fun _ _ _ _ h => h)) (pa_cons (pv 1) (pa_cons (pe_callB call_len_seq (by rfl) T.len PySem.boot_len (pa_cons (pe_fld (pv 0) rfl) pa_nil)) pa_nil))))
      (pss_one (ps_ret (pe_make G.made G.ok hr (by rfl) R.g G.b .nil (passes_call (takes_of rfl rfl rfl rfl) (fun _ _ _ _ h => h)) (pa_cons (pe_op op_catA (pe_slice sl_tupA (pe_fld (pv 0) rfl) (po_some (pv 1)) po_none) (pe_slice sl_tupA (pe_fld (pv 0) rfl) po_none (po_some (pv 1)))) pa_nil)))), ?_⟩
    obtain ⟨r, v, kv, ls, rfl, ⟨dx, t, hr0, ht⟩, l3, l8, bd, hv, h⟩ := h
    refine ⟨_, rfl, _, rfl, r, C, dx, _, _, rfl, hr0, R.cl, R.nL, rf_lengths _ _, t, _, rfl, .inr (.inl (.inl ht)), v, kv, ls.length, by rw [List.length_map]; rfl, hv, ?_⟩
    rcases h with ⟨e, er⟩ | ⟨i, rfl, rfl, hi, q⟩
    · exact .inr ⟨e, er⟩
    · refine .inl ⟨win_int (by omega) (by omega), _, rfl, r, C, dx, _, _, rfl, hr0, R.cl, R.nL, rf_lengths _ _, _, rfl, _, rfl, ?_⟩
      dsimp only [tNoPart]
      refine sl_from ht rfl fun t1 H1 h1 s1 => ?_
      refine ⟨_, rfl, r, C, dx, _, _, rfl, s1 _ _ hr0, R.cl, R.nL, rf_lengths _ _, _, rfl, _, rfl, sl_to (s1 _ _ ht) rfl fun t2 H2 h2 s2 => ?_⟩
      refine catI (xs := ls.drop i) (ys := ls.take i) (s2 _ _ h1) h2 (by rw [List.length_take, List.length_drop]; omega) fun t3 H3 h3 s3 => ?_
      refine made (.inr h3) (by rw [List.length_append, List.length_take, List.length_drop]; omega) (RingRes.fine ((bd.drop i).app (bd.take i)) ?_ ?_ (q.later ((s1.trans s2).trans s3)))
      · rw [List.length_append, List.length_take, List.length_drop]; omega
      · rw [List.length_append, List.length_take, List.length_drop]; omega
/-! ### backwards -/
def backL (ls : List Int) : List Int := ls.take 1 ++ (ls.drop 1).reverse
theorem backL_len (ls : List Int) : (backL ls).length = ls.length := by
  unfold backL
  rw [List.length_append, List.length_take, List.length_reverse, List.length_drop]; omega
theorem Bd.back {m : Int} {ls : List Int} (h : Bd m ls) : Bd m (backL ls) := (h.take 1).app (h.drop 1).rev
def spBackw (K : PySem.W.Frag) (C : Addr) : Sp := fun vs H Q _ => ∃ (r : Addr) (ls : List Int), vs = [.ref r] ∧ RingW K C H r ls ∧ 3 ≤ ls.length ∧ ls.length ≤ 8 ∧ Bd 1000000 ls ∧ NewRing K C (backL ls) H Q
theorem scBackw : FnScope ["self"] ["self"] (defScope sRingBackwards) := ⟨rfl, rfl, rfl, by decide +kernel, rfl, by decide +kernel, by decide +kernel⟩
theorem ok_backw {C f fI fB fN : Addr} {c : Ms} {fd fdI fdB fdN : FuncData} (F : Fun K "backwards" "Ring.backwards" sRingBackwards f fd) (T : Bi mg) (R : RingC K mg C) (G : RingP P w K mg base C c fI fB fN fdI fdB fdN) : FnOk P w K mg base (L2.CX P w) 6 f fd ["self"] (spBackw K C) := by
  refine F.okX scBackw (fun vs H Q E h => ?_) (fun cdv A outer s H vs Q E hr h => ?_)
  · obtain ⟨r, ls, rfl, _⟩ := h
    rfl
  · refine ⟨_, pss_one (ps_ret (pe_make G.made G.ok hr (by rfl) R.g G.b .nil (passes_call (takes_of rfl rfl rfl rfl) (fun _ _ _ _ h => h)) (pa_cons (pe_op op_catA (pe_slice sl_tupA (pe_fld (pv 0) rfl) po_none (po_some pe_int)) (pe_backT (pe_fld (pv 0) rfl))) pa_nil))), ?_⟩
    obtain ⟨r, ls, rfl, ⟨dx, t, hr0, ht⟩, l3, l8, bd, q⟩ := h
    refine ⟨_, rfl, r, C, dx, _, _, rfl, hr0, R.cl, R.nL, rf_lengths _ _, _, rfl, sl_to ht (i := 1) rfl fun t1 H1 h1 s1 => ?_⟩
    refine ⟨_, rfl, r, C, dx, _, _, rfl, s1 _ _ hr0, R.cl, R.nL, rf_lengths _ _, t, _, rfl, .inl (.inl (s1 _ _ ht)), (by rw [List.length_map]; omega), fun t2 n2 => ?_⟩
    rw [← List.map_drop, ← List.map_reverse]
    have s2 := s1.new (o := .tup ((ls.drop 1).reverse.map V.int)) n2
    refine catI (xs := ls.take 1) (ys := (ls.drop 1).reverse) (by rw [upd_ne (ne_of_none h1 n2)]; exact h1) upd_same (by rw [List.length_take, List.length_reverse, List.length_drop]; omega) fun t3 H3 h3 s3 => ?_
    have eb := backL_len ls
    exact made (ls := backL ls) (.inr h3) (by omega) (RingRes.fine bd.back (by omega) (by omega) (q.later (s2.trans s3)))
/-! ### as_one -/
theorem Bd.atI {ls : List Int} {i : Nat} (h : i < ls.length) : atI (ls.map V.int) ((i : Nat) : Int) = some (V.int (ls.getD i 0)) := getL rfl h
def spAsOne (K : PySem.W.Frag) (C : Addr) (c : Ms) : Sp := fun vs H Q E => ∃ (r : Addr) (v : V) (kv : String) (ls : List Int), vs = [.ref r, v] ∧ RingW K C H r ls ∧ 3 ≤ ls.length ∧ ls.length ≤ 8 ∧ KndI K H v kv ∧
  ((winB kv 0 ((ls.length : Int) - 1) v = false ∧ Errs E c.n "value" v H) ∨ ∃ (i : Nat), v = .int i ∧ kv = "int" ∧ i < ls.length ∧ RingRes E c.x H (oneL ls i) (NewRing K C (oneL ls i) H Q))
theorem RingRes.later2 {C : Addr} {E : XK} {c : Rs} {H H1 : Hp} {ls ms : List Int} {Q : VK} (h : RingRes E c H ls (NewRing K C ms H Q)) (s : Same H H1) : RingRes E c H1 ls (NewRing K C ms H1 Q) := (h.later s).imp fun q => q.later s
theorem scAsOne : FnScope ["self", "bar", "both"] ["self", "bar"] (defScope sRingAsOne) := ⟨rfl, rfl, rfl, by decide +kernel, rfl, by decide +kernel, by decide +kernel⟩
theorem ok_asOne {C f fI fB fN : Addr} {c : Ms} {fd fdI fdB fdN : FuncData} (F : Fun K "as_one" "Ring.as_one" sRingAsOne f fd) (T : Bi mg) (R : RingC K mg C) (G : RingP P w K mg base C c fI fB fN fdI fdB fdN) : FnOk P w K mg base (L2.CX P w) 6 f fd ["self", "bar"] (spAsOne K C c) := by
  refine F.okX scAsOne (fun vs H Q E h => ?_) (fun cdv A outer s H vs Q E hr h => ?_)
  · obtain ⟨r, v, kv, ls, rfl, _⟩ := h
    rfl
  · have nd := scAsOne.nd
    refine ⟨_, pss_cons (ps_expr (pe_call G.bar.ok (hr.mono (by decide)) rfl G.bar.g G.bar.kp G.bar.b .nil (passes_call (takes_of rfl rfl rfl rfl) (fun _ _ _ _ h => h)) (pa_cons (pv 1) (pa_cons (pe_callB call_len_seq (by rfl) T.len PySem.boot_len (pa_cons (pe_fld (pv 0) rfl) pa_nil)) pa_nil))))
      (pss_cons (ps_if (pt_cmpR op_eq (pv 1) (pe_op op_sub (pe_callB call_len_seq (by rfl) T.len PySem.boot_len (pa_cons (pe_fld (pv 0) rfl) pa_nil)) pe_int) (nomark _))
        (pss_one (ps_ret (pe_make G.made G.ok hr (by rfl) R.g G.b .nil (passes_call (takes_of rfl rfl rfl rfl) (fun _ _ _ _ h => h)) (pa_cons (pe_op op_catA (pe_tup (pa_cons (pe_op op_add (pe_ix ix_tup (pe_fld (pv 0) rfl) (pv 1) (fun _ _ => rfl)) (pe_ix ix_tup (pe_fld (pv 0) rfl) pe_int (fun _ _ => rfl))) pa_nil)) (pe_slice sl_tupA (pe_fld (pv 0) rfl) (po_some pe_int) (po_some (pv 1)))) pa_nil)))) pss_nil)
      (pss_cons (ps_set (i := 2) nd rfl (Or.inl rfl) (pe_op op_add (pe_ix ix_tup (pe_fld (pv 0) rfl) (pv 1) (fun _ _ => rfl)) (pe_ix ix_tup (pe_fld (pv 0) rfl) (pe_op op_add (pv 1) pe_int) (fun _ _ => rfl))))
      (pss_one (ps_ret (pe_make G.made G.ok hr (by rfl) R.g G.b .nil (passes_call (takes_of rfl rfl rfl rfl) (fun _ _ _ _ h => h)) (pa_cons (pe_op op_catA (pe_op op_catA (pe_slice sl_tupA (pe_fld (pv 0) rfl) po_none (po_some (pv 1))) (pe_tup (pa_cons (pv 2) pa_nil))) (pe_slice sl_tupA (pe_fld (pv 0) rfl) (po_some (pe_op op_add (pv 1) pe_int)) po_none)) pa_nil)))))), ?_⟩
    obtain ⟨r, v, kv, ls, rfl, ⟨dx, t, hr0, ht⟩, l3, l8, hv, h⟩ := h
    refine ⟨_, rfl, _, rfl, r, C, dx, _, _, rfl, hr0, R.cl, R.nL, rf_lengths _ _, t, _, rfl, .inr (.inl (.inl ht)), v, kv, ls.length, by rw [List.length_map]; rfl, hv, ?_⟩
    rcases h with ⟨e, er⟩ | ⟨i, rfl, rfl, hi, q⟩
    · exact .inr ⟨e, er⟩
    · refine .inl ⟨win_int (by omega) (by omega), _, rfl, _, rfl, r, C, dx, _, _, rfl, hr0, R.cl, R.nL, rf_lengths _ _, t, _, rfl, .inr (.inl (.inl ht)), _, _, rfl, rfl, rfl, _, rfl, ?_⟩
      rw [List.length_map]
      have ht' : SqT K H t (ls.map V.int) := .inl (.inl ht)
      by_cases c : i + 1 = ls.length
      · refine iteDT (by rw [show (i : Int) = (ls.length : Int) - 1 by omega]) ?_
        refine ⟨_, rfl, r, C, dx, _, _, rfl, hr0, R.cl, R.nL, rf_lengths _ _, _, rfl, t, _, _, _, rfl, rfl, ht', getL rfl hi, _, rfl, r, C, dx, _, _, rfl, hr0, R.cl, R.nL, rf_lengths _ _, t, _, _, _, rfl, rfl, ht', getL (i := 0) rfl (by omega), _, _, rfl, rfl, (by show 1 ≤ sizeLine; decide), fun t1 n1 => ?_⟩
        have s1 := (Same.refl H).new (o := .tup [.int (ls.getD i 0 + ls.getD 0 0)]) n1
        refine ⟨_, rfl, r, C, dx, _, _, rfl, s1 _ _ hr0, R.cl, R.nL, rf_lengths _ _, _, rfl, _, rfl, _, rfl, sl_mid (s1 _ _ ht) (i := 1) (j := i) rfl rfl (by omega) (by omega) fun t2 H2 h2 s2 => ?_⟩
        refine catI (xs := [ls.getD i 0 + ls.getD 0 0]) (ys := (ls.drop 1).take (i - 1)) (s2 _ _ upd_same) h2 (by rw [List.length_take, List.length_drop, List.length_singleton]; omega) fun t3 H3 h3 s3 => ?_
        have e1 : oneL ls i = [ls.getD i 0 + ls.getD 0 0] ++ (ls.drop 1).take (i - 1) := if_pos c
        have el := oneL_len hi (by omega)
        rw [← e1] at h3
        exact made (.inr h3) (by omega) (q.later2 ((s1.trans s2).trans s3))
      · refine iteDF (fun z => c (by have := V.int.inj z; omega)) ?_
        have e1 : oneL ls i = ls.take i ++ [ls.getD i 0 + ls.getD (i + 1) 0] ++ ls.drop (i + 2) := if_neg c
        have el := oneL_len hi (by omega)
        refine ⟨_, rfl, r, C, dx, _, _, rfl, hr0, R.cl, R.nL, rf_lengths _ _, _, rfl, t, _, _, _, rfl, rfl, ht', getL rfl hi, _, rfl, r, C, dx, _, _, rfl, hr0, R.cl, R.nL, rf_lengths _ _, _, rfl, _, _, rfl, rfl, t, _, _, _, rfl, rfl, ht', getL (i := i + 1) (by omega) (by omega), _, _, rfl, rfl, ?_⟩
        refine ⟨_, rfl, r, C, dx, _, _, rfl, hr0, R.cl, R.nL, rf_lengths _ _, _, rfl, _, rfl, sl_to ht rfl fun t1 H1 h1 s1 => ⟨_, rfl, (by show 1 ≤ sizeLine; decide), fun t2 n2 => ?_⟩⟩
        have s2 := s1.new (o := .tup [.int (ls.getD i 0 + ls.getD (i + 1) 0)]) n2
        refine catI (xs := ls.take i) (ys := [ls.getD i 0 + ls.getD (i + 1) 0]) (by rw [upd_ne (ne_of_none h1 n2)]; exact h1) upd_same (by rw [List.length_take, List.length_singleton]; omega) fun t3 H3 h3 s3 => ?_
        have s23 := s2.trans s3
        refine ⟨_, rfl, r, C, dx, _, _, rfl, s23 _ _ hr0, R.cl, R.nL, rf_lengths _ _, _, rfl, _, _, rfl, rfl, _, rfl, ?_⟩
        dsimp only [tNoPart]
        refine sl_from (s23 _ _ ht) (i := i + 2) (by omega) fun t4 H4 h4 s4 => ?_
        refine catI (xs := ls.take i ++ [ls.getD i 0 + ls.getD (i + 1) 0]) (ys := ls.drop (i + 2)) (s4 _ _ h3) h4 (by simp only [List.length_append, List.length_take, List.length_drop, List.length_singleton]; omega) fun t5 H5 h5 s5 => ?_
        rw [← e1] at h5
        exact made (.inr h5) (by omega) (q.later2 ((s23.trans s4).trans s5))
/-! ### in_two -/
def spInTwo (K : PySem.W.Frag) (C : Addr) (c : Ms) : Sp := fun vs H Q E => ∃ (r : Addr) (v x : V) (kv kx : String) (ls : List Int), vs = [.ref r, v, x] ∧ RingW K C H r ls ∧ 3 ≤ ls.length ∧ ls.length ≤ 8 ∧ KndI K H v kv ∧ KndI K H x kx ∧
  ((winB kv 0 ((ls.length : Int) - 1) v = false ∧ Errs E c.n "value" v H) ∨ ∃ (i : Nat), v = .int i ∧ kv = "int" ∧ i < ls.length ∧
    ((winB kx 1 (ls.getD i 0 - 1) x = false ∧ Errs E c.b "part" (.str "length") H) ∨ ∃ z : Int, x = .int z ∧ kx = "int" ∧ 1 ≤ z ∧ z ≤ ls.getD i 0 - 1 ∧ RingRes E c.x H (twoL ls i z) (NewRing K C (twoL ls i z) H Q)))
theorem scInTwo : FnScope ["self", "bar", "length", "both"] ["self", "bar", "length"] (defScope sRingInTwo) := ⟨rfl, rfl, rfl, by decide +kernel, rfl, by decide +kernel, by decide +kernel⟩
theorem ok_inTwo {C f fI fB fN : Addr} {c : Ms} {fd fdI fdB fdN : FuncData} (F : Fun K "in_two" "Ring.in_two" sRingInTwo f fd) (T : Bi mg) (R : RingC K mg C) (G : RingP P w K mg base C c fI fB fN fdI fdB fdN) : FnOk P w K mg base (L2.CX P w) 6 f fd ["self", "bar", "length"] (spInTwo K C c) := by
  refine F.okX scInTwo (fun vs H Q E h => ?_) (fun cdv A outer s H vs Q E hr h => ?_)
  · obtain ⟨r, v, x, kv, kx, ls, rfl, _⟩ := h
    rfl
  · have nd := scInTwo.nd
    refine ⟨_, pss_cons (ps_expr (pe_call G.bar.ok (hr.mono (by decide)) rfl G.bar.g G.bar.kp G.bar.b .nil (passes_call (takes_of rfl rfl rfl rfl) (fun _ _ _ _ h => h)) (pa_cons (pv 1) (pa_cons (pe_callB call_len_seq (by rfl) T.len PySem.boot_len (pa_cons (pe_fld (pv 0) rfl) pa_nil)) pa_nil))))
      (pss_cons (ps_expr (pe_call G.num.ok (hr.mono (by decide)) rfl G.num.g G.num.kp G.num.b .nil (passes_call (takes_of rfl rfl rfl rfl) (fun _ _ _ _ h => h)) (pa_cons (pv 2) (pa_cons pe_int (pa_cons (pe_op op_sub (pe_ix ix_tup (pe_fld (pv 0) rfl) (pv 1) (fun _ _ => rfl)) pe_int) (pa_cons pe_str pa_nil))))))
      (pss_cons (ps_set (i := 3) nd rfl (Or.inl rfl) (pe_tup (pa_cons (pv 2) (pa_cons (pe_op op_sub (pe_ix ix_tup (pe_fld (pv 0) rfl) (pv 1) (fun _ _ => rfl)) (pv 2)) pa_nil))))
      (pss_one (ps_ret (pe_make G.made G.ok hr (by rfl) R.g G.b .nil (passes_call (takes_of rfl rfl rfl rfl) (fun _ _ _ _ h => h)) (pa_cons (pe_op op_catA (pe_op op_catA (pe_slice sl_tupA (pe_fld (pv 0) rfl) po_none (po_some (pv 1))) (pv 3)) (pe_slice sl_tupA (pe_fld (pv 0) rfl) (po_some (pe_op op_add (pv 1) pe_int)) po_none)) pa_nil)))))), ?_⟩
    obtain ⟨r, v, x, kv, kx, ls, rfl, ⟨dx, t, hr0, ht⟩, l3, l8, hv, hx, h⟩ := h
    have ht' : SqT K H t (ls.map V.int) := .inl (.inl ht)
    refine ⟨_, rfl, _, rfl, r, C, dx, _, _, rfl, hr0, R.cl, R.nL, rf_lengths _ _, t, _, rfl, .inr ht', v, kv, ls.length, by rw [List.length_map]; rfl, hv, ?_⟩
    rcases h with ⟨e, er⟩ | ⟨i, rfl, rfl, hi, h⟩
    · exact .inr ⟨e, er⟩
    · refine .inl ⟨win_int (by omega) (by omega), _, rfl, _, rfl, r, C, dx, _, _, rfl, hr0, R.cl, R.nL, rf_lengths _ _, _, rfl, t, _, _, _, rfl, rfl, ht', getL rfl hi, _, _, rfl, rfl, x, kx, 1, ls.getD i 0 - 1, "length", rfl, hx, ?_⟩
      rcases h with ⟨e, er⟩ | ⟨z, rfl, rfl, z1, z2, q⟩
      · exact .inr ⟨e, er⟩
      refine .inl ⟨win_int z1 z2, ?_⟩
      refine ⟨_, rfl, _, rfl, r, C, dx, _, _, rfl, hr0, R.cl, R.nL, rf_lengths _ _, _, rfl, t, _, _, _, rfl, rfl, ht', getL rfl hi, _, rfl, _, _, rfl, rfl, (by show 2 ≤ sizeLine; decide), fun t0 n0 => ?_⟩
      have s0 := (Same.refl H).new (o := .tup [.int z, .int (ls.getD i 0 - z)]) n0
      have h0 : upd H t0 (.tup [.int z, .int (ls.getD i 0 - z)]) t0 = some (.tup ([z, ls.getD i 0 - z].map V.int)) := upd_same
      generalize upd H t0 (.tup [.int z, .int (ls.getD i 0 - z)]) = H0 at s0 h0 ⊢
      refine ⟨_, rfl, r, C, dx, _, _, rfl, s0 _ _ hr0, R.cl, R.nL, rf_lengths _ _, _, rfl, _, rfl, sl_to (s0 _ _ ht) rfl fun t1 H1 h1 s1 => ⟨_, rfl, ?_⟩⟩
      refine catI (xs := ls.take i) (ys := [z, ls.getD i 0 - z]) h1 (s1 _ _ h0) (by rw [List.length_take]; show _ + 2 ≤ 1000; omega) fun t3 H3 h3 s3 => ?_
      have s23 := (s0.trans s1).trans s3
      refine ⟨_, rfl, r, C, dx, _, _, rfl, s23 _ _ hr0, R.cl, R.nL, rf_lengths _ _, _, rfl, _, _, rfl, rfl, _, rfl, ?_⟩
      dsimp only [tNoPart]
      refine sl_from (s23 _ _ ht) (i := i + 1) (by omega) fun t4 H4 h4 s4 => ?_
      refine catI (xs := ls.take i ++ [z, ls.getD i 0 - z]) (ys := ls.drop (i + 1)) (s4 _ _ h3) h4 (by simp only [List.length_append, List.length_take, List.length_drop, List.length_cons, List.length_nil]; omega) fun t5 H5 h5 s5 => ?_
      have el := twoL_len (z := z) hi
      exact made (ls := twoL ls i z) (.inr h5) (by omega) (q.later2 ((s23.trans s4).trans s5))
end
end K
namespace K
open PySem L2 Rg
open Evl (pss_cut)
def natB (l : List Nat) : List Int := l.map fun j : Nat => (j : Int)
theorem rg_nat (n : Nat) : rgV 0 (n : Int) = (natB (List.range n)).map V.int := by
  unfold rgV natB
  rw [List.map_map, show (((n : Nat) : Int) - 0).toNat = n by omega]
  refine List.map_congr_left fun j _ => ?_
  show V.int (0 + (j : Int)) = V.int (j : Int)
  rw [Int.zero_add]
theorem natB_len (n : Nat) : (natB (List.range n)).length = n := by unfold natB; rw [List.length_map, List.length_range]
theorem natB_sorted (n : Nat) : (natB (List.range n)).Pairwise (· ≤ ·) := by
  unfold natB
  rw [List.pairwise_map]
  exact List.pairwise_lt_range.imp fun h => by omega
theorem sorted_eq {a b : List Int} (p : a.Perm b) (ha : a.Pairwise (· ≤ ·)) (hb : b.Pairwise (· ≤ ·)) : a = b := List.Perm.eq_of_pairwise (fun x y _ _ h1 h2 => Int.le_antisymm h1 h2) ha hb p
theorem natB_mem {n : Nat} {x : Int} (h : x ∈ natB (List.range n)) : 0 ≤ x ∧ x < n := by
  obtain ⟨j, hj, rfl⟩ := List.mem_map.mp h
  have := List.mem_range.mp hj
  omega
def ordL (ls ns : List Int) : List Int := ns.map fun b => ls.getD b.toNat 0
theorem ordL_take {ls ns : List Int} {i : Nat} {z : Int} (h : ns[i]? = some z) : ordL ls (ns.take (i + 1)) = ordL ls (ns.take i) ++ [ls.getD z.toNat 0] := by
  unfold ordL
  rw [← take_snoc h, List.map_append]
  rfl
theorem ordL_len (ls ns : List Int) : (ordL ls ns).length = ns.length := List.length_map ..
theorem ordL_bd {ls ns : List Int} {m : Int} (b : Bd m ls) (p : ns.Perm (natB (List.range ls.length))) : Bd m (ordL ls ns) := fun x hx => by
  obtain ⟨z, hz, rfl⟩ := List.mem_map.mp hx
  have := natB_mem (p.mem_iff.mp hz)
  exact b.get (by omega)
theorem get_z {ls : List Int} {z : Int} (h0 : 0 ≤ z) (h1 : z < ls.length) : atI (ls.map V.int) z = some (V.int (ls.getD z.toNat 0)) := getL (i := z.toNat) (by omega) (by omega)
section
variable {P : Program} {w : World} {K : PySem.W.Frag} {mg : Str → Option Value} {base : Heap}
def OrdFin (K : PySem.W.Frag) (C : Addr) (c : Ms) (E : XK) (H : Hp) (ls ns : List Int) (Q : VK) : Prop := ((¬ ns.Perm (natB (List.range ls.length))) ∧ Errs E c.b "part" (.str "order") H) ∨ (ns.Perm (natB (List.range ls.length)) ∧ NewRing K C (ordL ls ns) H Q)
def spOrdO (K : PySem.W.Frag) (C : Addr) (c : Ms) : Sp := fun vs H Q E => ∃ (r : Addr) (v : V) (k : String) (ls : List Int), vs = [.ref r, v] ∧ RingW K C H r ls ∧ Knd K H v k ∧ k ≠ "list" ∧ k ≠ "tuple" ∧ Errs E c.b "part" (.str "order") H
def spOrdL (K : PySem.W.Frag) (C : Addr) (c : Ms) : Sp := fun vs H Q E => ∃ (r a : Addr) (xs : List V) (kf : V → String) (ls : List Int), vs = [.ref r, .ref a] ∧ RingW K C H r ls ∧ 3 ≤ ls.length ∧ ls.length ≤ 8 ∧ Bd 1000000 ls ∧ H a = some (.lst xs) ∧ xs.length ≤ 100 ∧ (∀ x ∈ xs, Knd K H x (kf x)) ∧
  (((xs.all fun x => decide (kf x = "int")) = false ∧ Errs E c.b "part" (.str "order") H) ∨ ((xs.all fun x => decide (kf x = "int")) = true ∧ ∃ ns, xs = ns.map V.int ∧ OrdFin K C c E H ls ns Q))
def spOrdT (K : PySem.W.Frag) (C : Addr) (c : Ms) : Sp := fun vs H Q E => ∃ (r a : Addr) (xs : List V) (kf : V → String) (ls : List Int), vs = [.ref r, .ref a] ∧ RingW K C H r ls ∧ 3 ≤ ls.length ∧ ls.length ≤ 8 ∧ Bd 1000000 ls ∧ H a = some (.tup xs) ∧ xs.length ≤ 100 ∧ (∀ x ∈ xs, Knd K H x (kf x)) ∧
  (((xs.all fun x => decide (kf x = "int")) = false ∧ Errs E c.b "part" (.str "order") H) ∨ ((xs.all fun x => decide (kf x = "int")) = true ∧ ∃ ns, xs = ns.map V.int ∧ OrdFin K C c E H ls ns Q))
abbrev nOrd : List Str := ["self", "order", "bar"]
theorem scOrd : FnScope nOrd ["self", "order"] (defScope sRingInOrder) := ⟨rfl, rfl, rfl, by decide +kernel, rfl, by decide +kernel, by decide +kernel⟩
theorem sh_tup (l : List Int) : SeqAt.shaped (.tuple (l.map PyData.int)) = true := by
  simp [SeqAt.shaped, PyData.canLay0, PyData.depth, lay_ints l, deep_ints l]
theorem eqv_tup (a b : List Int) : PyData.eqv (.tuple (a.map PyData.int)) (.tuple (b.map PyData.int)) = decide (a = b) := by
  simp [PyData.eqv, eqvA_ints]
theorem kit_self {K : PySem.W.Frag} {C : Addr} : PySem.W.kitOne K (.ref C) (.ref C) = some true := by
  unfold PySem.W.kitOne
  simp
theorem sh_ints (l : List Int) : SeqAt.shaped (.list (l.map PyData.int)) = true := shaped_ints l
theorem ok_ordO {C f fI fB fN fU fE : Addr} {c : Ms} {fd fdI fdB fdN fdU fdE : FuncData} (F : Fun K "in_order" "Ring.in_order" sRingInOrder f fd) (T : Bi mg) (R : RingC K mg C) (G : RingP P w K mg base C c fI fB fN fdI fdB fdN) (N : DefAt P w K mg base CX0 2 "is_numbers" ["value"] (spNumsO K) fU fdU) (B : ErrAt P w K mg base "BadNumber" "part" c.b fE fdE) : FnOk P w K mg base (L2.CX P w) 6 f fd ["self", "order"] (spOrdO K C c) := by
  refine F.okX scOrd (fun vs H Q E h => ?_) (fun cdv A outer s H vs Q E hr h => ?_)
  · obtain ⟨r, v, k, ls, rfl, _⟩ := h
    rfl
  · have nd := scOrd.nd
    refine ⟨_, pss_cons (ps_if (PW.pt (pw_or (pt_not (pt_val (pe_call N.ok (hr.mono (by decide)) rfl N.g N.kp N.b .nil pass0 (pa_cons (pv 1) pa_nil)))) (pw_or1 (pt_cmpR (op_neD hr.units) (pe_callB cr_sortedI (by rfl) T.sorted (by decide +kernel) (pa_cons (pv 1) pa_nil)) (pe_listRg rfl (by rfl) T.list (prg_1 (by rfl) T.range (pe_callB call_len_seq (by rfl) T.len PySem.boot_len (pa_cons (pe_fld (pv 0) rfl) pa_nil)))) (nomark _)))))
        (pss_one (ps_raise rfl (takes_of rfl rfl rfl rfl) (pmk_oex B.oex B.ic B.ti B.ok (hr.mono (by decide)) B.b .nil pass0 rfl B.g (pa_cons pe_str pa_nil)))) pss_nil)
      (pss_one (ps_ret (pe_make G.made G.ok hr (by rfl) R.g G.b .nil (passes_call (takes_of rfl rfl rfl rfl) (fun _ _ _ _ h => h)) (pa_cons (pe_lc (own := [("bar", 2)]) (g := gName 2) (tt := tYes) (te := tOp (rIxT K) (tFld K (tVar 0) "lengths") (tVar 2)) rfl nd (pi_list (pv 1))
        (blkOk_by (N := nOrd) (sc := defScope sRingInOrder) (by decide +kernel)) (fun _ _ _ _ _ => pg_name (i := 2) nd rfl (Or.inl rfl)) (fun _ _ _ _ _ => pts_nil) (fun _ _ _ _ _ => pe_ix (r := rIxT K) ix_tup (pe_fld (pv 0) rfl) (pv 2) (fun _ _ => rfl))) pa_nil)))), ?_⟩
    obtain ⟨r, v, k, ls, rfl, rw, hk, n1, n2, er⟩ := h
    exact ⟨_, rfl, v, k, rfl, hk, n1, n2, fun H1 s1 => ⟨_, rfl, iteT (err_made B.oex B.nf (er.later s1))⟩⟩
theorem ok_ordL {C f fI fB fN fU fE : Addr} {c : Ms} {fd fdI fdB fdN fdU fdE : FuncData} (F : Fun K "in_order" "Ring.in_order" sRingInOrder f fd) (T : Bi mg) (R : RingC K mg C) (G : RingP P w K mg base C c fI fB fN fdI fdB fdN) (N : DefAt P w K mg base CX0 2 "is_numbers" ["value"] (spNumsL K) fU fdU) (B : ErrAt P w K mg base "BadNumber" "part" c.b fE fdE) : FnOk P w K mg base (L2.CX P w) 6 f fd ["self", "order"] (spOrdL K C c) := by
  refine F.okX scOrd (fun vs H Q E h => ?_) (fun cdv A outer s H vs Q E hr h => ?_)
  · obtain ⟨r, v, xs, kf, ls, rfl, _⟩ := h
    rfl
  · have nd := scOrd.nd
    refine ⟨_, pss_cons (ps_if (PW.pt (pw_or (pt_not (pt_val (pe_call N.ok (hr.mono (by decide)) rfl N.g N.kp N.b .nil pass0 (pa_cons (pv 1) pa_nil)))) (pw_or1 (pt_cmpR (op_neD hr.units) (pe_callB cr_sortedI (by rfl) T.sorted (by decide +kernel) (pa_cons (pv 1) pa_nil)) (pe_listRg rfl (by rfl) T.list (prg_1 (by rfl) T.range (pe_callB call_len_seq (by rfl) T.len PySem.boot_len (pa_cons (pe_fld (pv 0) rfl) pa_nil)))) (nomark _)))))
        (pss_one (ps_raise rfl (takes_of rfl rfl rfl rfl) (pmk_oex B.oex B.ic B.ti B.ok (hr.mono (by decide)) B.b .nil pass0 rfl B.g (pa_cons pe_str pa_nil)))) pss_nil)
      (pss_one (ps_ret (pe_make G.made G.ok hr (by rfl) R.g G.b .nil (passes_call (takes_of rfl rfl rfl rfl) (fun _ _ _ _ h => h)) (pa_cons (pe_lc (own := [("bar", 2)]) (g := gName 2) (tt := tYes) (te := tOp (rIxT K) (tFld K (tVar 0) "lengths") (tVar 2)) rfl nd (pi_list (pv 1))
        (blkOk_by (N := nOrd) (sc := defScope sRingInOrder) (by decide +kernel)) (fun _ _ _ _ _ => pg_name (i := 2) nd rfl (Or.inl rfl)) (fun _ _ _ _ _ => pts_nil) (fun _ _ _ _ _ => pe_ix (r := rIxT K) ix_tup (pe_fld (pv 0) rfl) (pv 2) (fun _ _ => rfl))) pa_nil)))), ?_⟩
    obtain ⟨r, a, xs, kf, ls, rfl, ⟨dx, t, hr0, ht⟩, l3, l8, bd, ha, hl, hx, h⟩ := h
    refine ⟨_, rfl, a, xs, kf, rfl, ⟨.base (.lst ha), by decide⟩, SqL.of ha, by omega, hx, fun H1 s1 => ⟨_, rfl, ?_⟩⟩
    rcases h with ⟨e, er⟩ | ⟨e, ns, rfl, h⟩
    · rw [e]
      exact iteT (err_made B.oex B.nf (er.later s1))
    rw [e]
    refine iteF ?_
    rw [List.length_map] at hl
    have ha1 := s1 _ _ ha
    refine ⟨_, rfl, a, ns, rfl, SqL.of ha1, fun ns' p pm sorted hp => ?_⟩
    have s2 : Same H1 (upd H1 p (.lst (ns'.map V.int))) := (Same.refl H1).new hp
    have hp2 : upd H1 p (.lst (ns'.map V.int)) p = some (.lst (ns'.map V.int)) := upd_same
    generalize upd H1 p (.lst (ns'.map V.int)) = H2 at s2 hp2 ⊢
    have s12 := s1.trans s2
    refine ⟨_, rfl, r, C, dx, _, _, rfl, s12 _ _ hr0, R.cl, R.nL, rf_lengths _ _, t, _, rfl, .inr (.inl (.inl (s12 _ _ ht))), _, rfl, ?_⟩
    rw [List.length_map]
    refine ⟨RgOk.of_le (by omega) (by omega) (by omega) (by omega), fun q hq => ?_⟩
    rw [rg_nat]
    have s3 := s12.new (o := .lst ((natB (List.range ls.length)).map V.int)) hq
    have e1 : PyData.eqv (.list (ns'.map PyData.int)) (.list ((natB (List.range ls.length)).map PyData.int)) = decide (ns' = natB (List.range ls.length)) := by
      simp [PyData.eqv, eqvA_ints]
    refine ⟨_, _, .lst (SqL.of (by rw [upd_ne (ne_of_none hp2 hq)]; exact hp2)) (dp_ints _), .lst (SqL.of upd_same) (dp_ints _), shaped_ints _, shaped_ints _, _, rfl, ?_⟩
    rw [e1]
    rcases h with ⟨np, er⟩ | ⟨p2, q2⟩
    · rw [decide_eq_false fun z => np (by rw [← z]; exact pm.symm)]
      exact iteT (err_made B.oex B.nf (er.later s3))
    · rw [decide_eq_true (sorted_eq (pm.trans p2) sorted (natB_sorted _))]
      refine iteF ?_
      generalize upd H2 q (.lst ((natB (List.range ls.length)).map V.int)) = H3 at s3 ⊢
      have ha3 := s3 _ _ ha
      refine ⟨_, rfl, a, rfl, ⟨_, SqL.of ha3⟩, fun D hD => ?_⟩
      have nl : ns.length = ls.length := by rw [p2.length_eq, natB_len]
      refine lc_list (K := K) (a := a) (xs := ns.map V.int) (fun i H' => Same H3 H' ∧ H' D = some (.lst ((ordL ls (ns.take i)).map V.int))) ⟨(Same.refl H3).new hD, upd_same⟩ (fun i H' _ q => SqL.of (q.1 _ _ ha3)) ?_ ?_
      · rintro i x H' hi ⟨s4, h4⟩
        obtain ⟨z, hz, rfl⟩ := int_at hi
        have bz := natB_mem (p2.mem_iff.mp (List.mem_of_getElem? hz))
        refine ⟨rfl, _, rfl, r, C, dx, _, _, rfl, s4 _ _ (s3 _ _ hr0), R.cl, R.nL, rf_lengths _ _, _, rfl, t, _, _, _, rfl, rfl, .inl (.inl (s4 _ _ (s3 _ _ ht))), get_z bz.1 bz.2, _, h4, (by rw [List.length_map, ordL_len, List.length_take]; exact sm (by omega)), s4.mut hD, ?_⟩
        rw [upd_same, ordL_take hz, List.map_append]
        rfl
      · rintro H4 ⟨s4, h4⟩
        rw [List.length_map, List.take_length] at h4
        have eo := ordL_len ls ns
        exact made (.inl h4) (by omega) (RingRes.fine (ordL_bd bd p2) (by omega) (by omega) (q2.later (s3.trans s4)))
theorem ok_ordT {C f fI fB fN fU fE : Addr} {c : Ms} {fd fdI fdB fdN fdU fdE : FuncData} (F : Fun K "in_order" "Ring.in_order" sRingInOrder f fd) (T : Bi mg) (R : RingC K mg C) (G : RingP P w K mg base C c fI fB fN fdI fdB fdN) (N : DefAt P w K mg base CX0 2 "is_numbers" ["value"] (spNumsT K) fU fdU) (B : ErrAt P w K mg base "BadNumber" "part" c.b fE fdE) : FnOk P w K mg base (L2.CX P w) 6 f fd ["self", "order"] (spOrdT K C c) := by
  refine F.okX scOrd (fun vs H Q E h => ?_) (fun cdv A outer s H vs Q E hr h => ?_)
  · obtain ⟨r, v, xs, kf, ls, rfl, _⟩ := h
    rfl
  · have nd := scOrd.nd
    refine ⟨_, pss_cons (ps_if (PW.pt (pw_or (pt_not (pt_val (pe_call N.ok (hr.mono (by decide)) rfl N.g N.kp N.b .nil pass0 (pa_cons (pv 1) pa_nil)))) (pw_or1 (pt_cmpR (op_neD hr.units) (pe_callB cr_sortedT (by rfl) T.sorted (by decide +kernel) (pa_cons (pv 1) pa_nil)) (pe_listRg rfl (by rfl) T.list (prg_1 (by rfl) T.range (pe_callB call_len_seq (by rfl) T.len PySem.boot_len (pa_cons (pe_fld (pv 0) rfl) pa_nil)))) (nomark _)))))
        (pss_one (ps_raise rfl (takes_of rfl rfl rfl rfl) (pmk_oex B.oex B.ic B.ti B.ok (hr.mono (by decide)) B.b .nil pass0 rfl B.g (pa_cons pe_str pa_nil)))) pss_nil)
      (pss_one (ps_ret (pe_make G.made G.ok hr (by rfl) R.g G.b .nil (passes_call (takes_of rfl rfl rfl rfl) (fun _ _ _ _ h => h)) (pa_cons (pe_lc (own := [("bar", 2)]) (g := gName 2) (tt := tYes) (te := tOp (rIxT K) (tFld K (tVar 0) "lengths") (tVar 2)) rfl nd (pi_tup (pv 1))
        (blkOk_by (N := nOrd) (sc := defScope sRingInOrder) (by decide +kernel)) (fun _ _ _ _ _ => pg_name (i := 2) nd rfl (Or.inl rfl)) (fun _ _ _ _ _ => pts_nil) (fun _ _ _ _ _ => pe_ix (r := rIxT K) ix_tup (pe_fld (pv 0) rfl) (pv 2) (fun _ _ => rfl))) pa_nil)))), ?_⟩
    obtain ⟨r, a, xs, kf, ls, rfl, ⟨dx, t, hr0, ht⟩, l3, l8, bd, ha, hl, hx, h⟩ := h
    refine ⟨_, rfl, a, xs, kf, rfl, ⟨.base (.tup ha), by decide⟩, .inl (.inl ha), by omega, hx, fun H1 s1 => ⟨_, rfl, ?_⟩⟩
    rcases h with ⟨e, er⟩ | ⟨e, ns, rfl, h⟩
    · rw [e]
      exact iteT (err_made B.oex B.nf (er.later s1))
    rw [e]
    refine iteF ?_
    rw [List.length_map] at hl
    have ha1 := s1 _ _ ha
    refine ⟨_, rfl, a, ns, rfl, .inl (.inl ha1), fun ns' p pm sorted hp => ?_⟩
    have s2 : Same H1 (upd H1 p (.lst (ns'.map V.int))) := (Same.refl H1).new hp
    have hp2 : upd H1 p (.lst (ns'.map V.int)) p = some (.lst (ns'.map V.int)) := upd_same
    generalize upd H1 p (.lst (ns'.map V.int)) = H2 at s2 hp2 ⊢
    have s12 := s1.trans s2
    refine ⟨_, rfl, r, C, dx, _, _, rfl, s12 _ _ hr0, R.cl, R.nL, rf_lengths _ _, t, _, rfl, .inr (.inl (.inl (s12 _ _ ht))), _, rfl, ?_⟩
    rw [List.length_map]
    refine ⟨RgOk.of_le (by omega) (by omega) (by omega) (by omega), fun q hq => ?_⟩
    rw [rg_nat]
    have s3 := s12.new (o := .lst ((natB (List.range ls.length)).map V.int)) hq
    have e1 : PyData.eqv (.list (ns'.map PyData.int)) (.list ((natB (List.range ls.length)).map PyData.int)) = decide (ns' = natB (List.range ls.length)) := by
      simp [PyData.eqv, eqvA_ints]
    refine ⟨_, _, .lst (SqL.of (by rw [upd_ne (ne_of_none hp2 hq)]; exact hp2)) (dp_ints _), .lst (SqL.of upd_same) (dp_ints _), shaped_ints _, shaped_ints _, _, rfl, ?_⟩
    rw [e1]
    rcases h with ⟨np, er⟩ | ⟨p2, q2⟩
    · rw [decide_eq_false fun z => np (by rw [← z]; exact pm.symm)]
      exact iteT (err_made B.oex B.nf (er.later s3))
    · rw [decide_eq_true (sorted_eq (pm.trans p2) sorted (natB_sorted _))]
      refine iteF ?_
      generalize upd H2 q (.lst ((natB (List.range ls.length)).map V.int)) = H3 at s3 ⊢
      have ha3 := s3 _ _ ha
      refine ⟨_, rfl, a, rfl, ⟨_, .inl (.inl ha3)⟩, fun D hD => ?_⟩
      have nl : ns.length = ls.length := by rw [p2.length_eq, natB_len]
      refine lc_tup (K := K) (a := a) (xs := ns.map V.int) (fun i H' => Same H3 H' ∧ H' D = some (.lst ((ordL ls (ns.take i)).map V.int))) ⟨(Same.refl H3).new hD, upd_same⟩ (fun i H' _ q => .inl (.inl (q.1 _ _ ha3))) ?_ ?_
      · rintro i x H' hi ⟨s4, h4⟩
        obtain ⟨z, hz, rfl⟩ := int_at hi
        have bz := natB_mem (p2.mem_iff.mp (List.mem_of_getElem? hz))
        refine ⟨rfl, _, rfl, r, C, dx, _, _, rfl, s4 _ _ (s3 _ _ hr0), R.cl, R.nL, rf_lengths _ _, _, rfl, t, _, _, _, rfl, rfl, .inl (.inl (s4 _ _ (s3 _ _ ht))), get_z bz.1 bz.2, _, h4, (by rw [List.length_map, ordL_len, List.length_take]; exact sm (by omega)), s4.mut hD, ?_⟩
        rw [upd_same, ordL_take hz, List.map_append]
        rfl
      · rintro H4 ⟨s4, h4⟩
        rw [List.length_map, List.take_length] at h4
        have eo := ordL_len ls ns
        exact made (.inl h4) (by omega) (RingRes.fine (ordL_bd bd p2) (by omega) (by omega) (q2.later (s3.trans s4)))
/-! ### == of rings -/
def spREq (K : PySem.W.Frag) (C : Addr) : Sp := fun vs H Q _ => ∃ (r s : Addr) (ls ms : List Int), vs = [.ref r, .ref s] ∧ RingW K C H r ls ∧ RingW K C H s ms ∧ Q (.bl (decide (ls = ms))) H
theorem scREq : FnScope ["self", "other"] ["self", "other"] (defScope sRingEq) := ⟨rfl, rfl, rfl, by decide +kernel, rfl, by decide +kernel, by decide +kernel⟩
theorem ok_req {C f : Addr} {fd : FuncData} (F : Fun K "__eq__" "Ring.__eq__" sRingEq f fd) (T : Bi mg) (R : RingC K mg C) : FnOk P w K mg base CX0 2 f fd ["self", "other"] (spREq K C) := by
  refine F.ok scREq (fun vs H Q E h => ?_) (fun cdv A outer s H vs Q E hr h => ?_)
  · obtain ⟨r, s, ls, ms, rfl, _⟩ := h
    rfl
  · refine ⟨_, pss_one (ps_ret (pe_and (pe_callB call_isi (by rfl) T.isinstance (by decide +kernel) (pa_cons (pv 1) (pa_cons (pe_glob (v := .ref C) rfl R.g rfl) pa_nil))) (pe_one (pe_cmpR (op_eqD hr.units) (pe_fld (pv 0) rfl) (pe_fld (pv 1) rfl) (nomark _))))), ?_⟩
    obtain ⟨r, s', ls, ms, rfl, ⟨dx, t, hr0, ht⟩, ⟨dy, u, hs0, hu⟩, q⟩ := h
    refine ⟨_, rfl, .ref s', .ref C, _, _, _, rfl, .own C, .base (.ins hs0 R.cl R.ha R.hn R.ht R.hm), kit_self, _, rfl, iteT ?_⟩
    refine ⟨_, rfl, r, C, dx, _, _, rfl, hr0, R.cl, R.nL, rf_lengths _ _, _, rfl, s', C, dy, _, _, rfl, hs0, R.cl, R.nL, rf_lengths _ _, _, _, .tup (.inl (.inl ht)) (dp_ints _), .tup (.inl (.inl hu)) (dp_ints _), sh_tup _, sh_tup _, ?_⟩
    rw [eqv_tup]
    exact q
end
end K
namespace K
open PySem L2 Rg LamX
open Evl (pss_cut)
/-- isinstance(e, c), e the caught error with its dict -/
def rIsX (K : PySem.W.Frag) (a : Addr) (cls : Value) (d : Option Addr) : List V → Hp → VK → Prop := fun xs H Q => ∃ (c : V) (cv : Value) (b : Bool) (D dd : Addr) (fs : List (Str × V)), xs = [.ref a, c] ∧ (∀ u, RelV c u → u = cv) ∧ cls = .ref D ∧ ExcC K D ∧ d = some dd ∧ H dd = some (.xd fs) ∧ PySem.W.kitOne K (.ref D) cv = some b ∧ Q (.bl b) H
theorem cr_isX {X : Cx} {a : Addr} {cls : Value} {d : Option Addr} {oe : Obj} {pn : List (Addr × Obj)} (hz : Zc cls d oe) (hf : ∃ vs, oe.data = .fields vs) : CallR (X.suite a ((a, oe) :: pn)) (.builtin "isinstance") (rIsX X.K a cls d) := by
  intro pins s σ H xs us Q I r ⟨c, cv, b, D, dd, fs, ex, hcv, ec, C, ed, hdd, e, q⟩
  subst ex ec ed
  obtain ⟨u1, u2, rfl, r1, r2⟩ := vals2 r
  obtain rfl : u1 = Value.ref a := r1
  obtain rfl := hcv _ r2
  obtain ⟨hget, _⟩ := I.pin (a, oe) (List.mem_append_left _ List.mem_cons_self)
  obtain ⟨vs, hv⟩ := hf
  obtain ⟨mA, hns, _⟩ := (show ObjOk X.prog X.w H s.heap dd (.xd fs) from I.hok dd _ hdd)
  obtain ⟨od, ho, _⟩ := lookIn_ns hns
  have J : PySem.W.InstAt s.heap a oe D (some od) := ⟨hget, hz.1, by unfold PySem.W.notCls; rw [hv] <;> rfl, by rw [hz.2]; exact ho⟩
  have hcl : (PySem.W.clsIn X.K D).isSome = true := by
    obtain ⟨cd, hc, _⟩ := PySem.W.any_some C.hd
    rw [hc]
    rfl
  exact PySem.W.kia_one (PySem.W.kitx_exc hcl C.hg C.hk C.hs C.ha C.hn C.ht C.hm) I.kIn J e (fun z => nomatch z) fun tk => ⟨.bl b, H, I.kept (t' := tk) fun _ _ z => z, rfl, q⟩
structure Hs where
  r : Addr
  b : Addr
  n : Addr
  m : Addr
/-- what the written part says of the errors that are heard -/
structure HeardC (K : PySem.W.Frag) (mg : Str → Option Value) (c : Hs) (eR : Addr) : Prop where
  gRE : mg "RingError" = some (.ref eR)
  gr : mg "BadRing" = some (.ref c.r)
  er : ExcC K c.r
  xr : XfC K c.r
  mr : PySem.W.exmOne K (.ref c.r) (.ref eR) = some true
  nrpart : PySem.W.findIn K (.ref c.r) "part" = some none
  gb : mg "BadNumber" = some (.ref c.b)
  eb : ExcC K c.b
  xb : XfC K c.b
  mb : PySem.W.exmOne K (.ref c.b) (.ref eR) = some true
  nbpart : PySem.W.findIn K (.ref c.b) "part" = some none
  gn : mg "NoBar" = some (.ref c.n)
  en : ExcC K c.n
  xn : XfC K c.n
  mn : PySem.W.exmOne K (.ref c.n) (.ref eR) = some true
  nnvalue : PySem.W.findIn K (.ref c.n) "value" = some none
  gm : mg "TooMany" = some (.ref c.m)
  em : ExcC K c.m
  xm : XfC K c.m
  mm : PySem.W.exmOne K (.ref c.m) (.ref eR) = some true
  nmwhat : PySem.W.findIn K (.ref c.m) "what" = some none
  nmmost : PySem.W.findIn K (.ref c.m) "most" = some none
  kbr : PySem.W.kitOne K (.ref c.b) (.ref c.r) = some false
  knr : PySem.W.kitOne K (.ref c.n) (.ref c.r) = some false
  knb : PySem.W.kitOne K (.ref c.n) (.ref c.b) = some false
  kmr : PySem.W.kitOne K (.ref c.m) (.ref c.r) = some false
  kmb : PySem.W.kitOne K (.ref c.m) (.ref c.b) = some false
  kmn : PySem.W.kitOne K (.ref c.m) (.ref c.n) = some false
inductive Tells (c : Hs) : Addr → List (Str × V) → List V → Prop where
  | r (v : V) : Tells c c.r [("part", v)] [.str "ring", v]
  | b (v : V) : Tells c c.b [("part", v)] [.str "number", v]
  | n (v : V) : Tells c c.n [("value", v)] [.str "bar", v]
  | m (v u : V) : Tells c c.m [("most", u), ("what", v)] [.str "many", v, u]
/-- one of the errors comes: a tuple tells which, and its fields -/
def Told (c : Hs) (Q : VK) : XK := fun cls d H' => ∃ (C dd : Addr) (fs : List (Str × V)) (its : List V), cls = .ref C ∧ d = some dd ∧ H' dd = some (.xd fs) ∧ Tells c C fs its ∧ ∀ p H2, Same H' H2 → H2 p = some (.tup its) → Q (.ref p) H2
def THeard (c : Hs) : (XK → Hp → VK → Prop) → Hp → VK → Prop := fun tl H Q => ∀ e, H e = none → tl (Told c Q) (upd H e (.tup [])) fun _ H' => ∃ v, (some (some (V.ref e)) : Option (Option V)) = some (some v) ∧ Q v H'
theorem takes_len {X : Cx} {W : WX} (t : Takes X W) : Takes X fun c d σ H => σ.length = X.N.length → W c d σ H := fun u s' ⟨a, B, sI, pins, σ, H, cls, d, e, I, nb, up, sky, na, os, ag, w⟩ =>
  t u s' ⟨a, B, sI, pins, σ, H, cls, d, e, I, nb, up, sky, na, os, ag, w I.len⟩
theorem nm_what : ("what" : Str) ≠ "most" := by decide +kernel
abbrev nHeard : List Str := ["_law_ask", "_law_found", "error"]
theorem scHeard : FnScope nHeard ["_law_ask"] (defScope sLwHeard) := ⟨rfl, rfl, rfl, by decide +kernel, rfl, by decide +kernel, by decide +kernel⟩
theorem heard_gives {X : Cx} {c : Hs} {eR g : Addr} {cdg : Value} {q : Str} (T : Bi X.mg) (Hc : HeardC X.K X.mg c eR) : GivesTo X nHeard "_law_heard" (defScope sLwHeard) g cdg (defBody sLwHeard) "_law_ask" q (THeard c) := by
  intro f c' s H Q tl act hc h
  have nd := scHeard.nd
  refine ⟨_, pss_cons (ps_set (i := 1) nd rfl (Or.inl rfl) (pe_tup pa_nil))
    (pss_cons (ps_try_as (X := (cxOf C8.CX0 X.prog X.w X.K X.mg X.base nHeard "_law_heard" (defScope sLwHeard) g cdg X.A X.stack s H C8.E0).nox) (c := .ref eR) (i := 2)
      (tb := fun W D σ H => ∃ Ech : XK, (∀ cls d σ' H', Ech cls d H' → σ'.length = 3 → W cls d σ' H') ∧ σ[0]? = some (some (.ref f)) ∧ H c' = some (CodeO c' q) ∧ tl Ech H fun _ H' => D.nx σ H')
      rfl rfl nd rfl rfl ⟨rfl, rfl, .inl Hc.gRE⟩ L2.takes0 (fun W pn xe tk _ => ?_) (fun a oe cls d pn hz hf =>
        pss_cons (ps_set (i := 1) nd rfl (Or.inl rfl) (pe_tup (pa_cons pe_str pa_nil)))
        (pss_one (ps_if (pt_val (pe_callB (cr_isX hz hf) (by rfl) T.isinstance (by decide +kernel) (pa_cons (pv 2) (pa_cons (pe_glob (v := .ref c.r) rfl Hc.gr rfl) pa_nil))))
          (pss_one (ps_set (i := 1) nd rfl (Or.inl rfl) (pe_tup (pa_cons pe_str (pa_cons (pe_xf Hc.xr Hc.nrpart hz hf (pv 2)) pa_nil))))) (pss_one (ps_if (pt_val (pe_callB (cr_isX hz hf) (by rfl) T.isinstance (by decide +kernel) (pa_cons (pv 2) (pa_cons (pe_glob (v := .ref c.b) rfl Hc.gb rfl) pa_nil))))
          (pss_one (ps_set (i := 1) nd rfl (Or.inl rfl) (pe_tup (pa_cons pe_str (pa_cons (pe_xf Hc.xb Hc.nbpart hz hf (pv 2)) pa_nil))))) (pss_one (ps_if (pt_val (pe_callB (cr_isX hz hf) (by rfl) T.isinstance (by decide +kernel) (pa_cons (pv 2) (pa_cons (pe_glob (v := .ref c.n) rfl Hc.gn rfl) pa_nil))))
          (pss_one (ps_set (i := 1) nd rfl (Or.inl rfl) (pe_tup (pa_cons pe_str (pa_cons (pe_xf Hc.xn Hc.nnvalue hz hf (pv 2)) pa_nil))))) (pss_one (ps_if (pt_val (pe_callB (cr_isX hz hf) (by rfl) T.isinstance (by decide +kernel) (pa_cons (pv 2) (pa_cons (pe_glob (v := .ref c.m) rfl Hc.gm rfl) pa_nil))))
          (pss_one (ps_set (i := 1) nd rfl (Or.inl rfl) (pe_tup (pa_cons pe_str (pa_cons (pe_xf Hc.xm Hc.nmwhat hz hf (pv 2)) (pa_cons (pe_xf Hc.xm Hc.nmmost hz hf (pv 2)) pa_nil)))))) pss_nil))))))))))
    (pss_one (ps_ret (pv 1)))), ?_⟩
  · refine ⟨fun pins s' σ H' D I h' => ?_⟩
    obtain ⟨Ech, hW, h1, h2, h3⟩ := h'
    exact (pss_one (ps_expr (act _ pn xe Ech _ _ (takes_len tk) hW))).run pins s' σ H' D I ⟨h1, h2, h3⟩
  · refine ⟨(by show 0 ≤ sizeLine; decide), fun e he => ⟨Told c Q, ?_, rfl, ?_, h e he⟩⟩
    · rintro cls d σ' H' ⟨C, dd, fs, its, rfl, rfl, hdd, tells, q⟩ hl
      obtain ⟨x0, x1, x2, rfl⟩ : ∃ x0 x1 x2, σ' = [x0, x1, x2] := by
        match σ', hl with
        | [x0, x1, x2], _ => exact ⟨x0, x1, x2, rfl⟩
      cases tells
      · rename_i v
        refine ⟨true, Hc.mr, fun _ a ha => ?_, fun z => by cases z⟩
        refine ⟨(by show 1 ≤ sizeLine; decide), fun y hy => ?_⟩
        have s1 : Same H' (upd H' y (.tup [.str "other"])) := (Same.refl H').new hy
        refine ⟨_, rfl, .ref c.r, .ref c.r, true, c.r, dd, _, rfl, fun _ r => r, rfl, Hc.er, rfl, s1 _ _ hdd, kit_self, _, rfl, iteT ?_⟩
        refine ⟨_, rfl, rfl, rfl, dd, _, v, rfl, s1 _ _ hdd, by simp [List.lookup], (by show 2 ≤ sizeLine; decide), fun p hp => ?_⟩
        exact ⟨_, rfl, q p _ (s1.new hp) upd_same⟩
      · rename_i v
        refine ⟨true, Hc.mb, fun _ a ha => ?_, fun z => by cases z⟩
        refine ⟨(by show 1 ≤ sizeLine; decide), fun y hy => ?_⟩
        have s1 : Same H' (upd H' y (.tup [.str "other"])) := (Same.refl H').new hy
        refine ⟨_, rfl, .ref c.r, .ref c.r, false, c.b, dd, _, rfl, fun _ r => r, rfl, Hc.eb, rfl, s1 _ _ hdd, Hc.kbr, _, rfl, iteF ?_⟩
        refine ⟨_, rfl, .ref c.b, .ref c.b, true, c.b, dd, _, rfl, fun _ r => r, rfl, Hc.eb, rfl, s1 _ _ hdd, kit_self, _, rfl, iteT ?_⟩
        refine ⟨_, rfl, rfl, rfl, dd, _, v, rfl, s1 _ _ hdd, by simp [List.lookup], (by show 2 ≤ sizeLine; decide), fun p hp => ?_⟩
        exact ⟨_, rfl, q p _ (s1.new hp) upd_same⟩
      · rename_i v
        refine ⟨true, Hc.mn, fun _ a ha => ?_, fun z => by cases z⟩
        refine ⟨(by show 1 ≤ sizeLine; decide), fun y hy => ?_⟩
        have s1 : Same H' (upd H' y (.tup [.str "other"])) := (Same.refl H').new hy
        refine ⟨_, rfl, .ref c.r, .ref c.r, false, c.n, dd, _, rfl, fun _ r => r, rfl, Hc.en, rfl, s1 _ _ hdd, Hc.knr, _, rfl, iteF ?_⟩
        refine ⟨_, rfl, .ref c.b, .ref c.b, false, c.n, dd, _, rfl, fun _ r => r, rfl, Hc.en, rfl, s1 _ _ hdd, Hc.knb, _, rfl, iteF ?_⟩
        refine ⟨_, rfl, .ref c.n, .ref c.n, true, c.n, dd, _, rfl, fun _ r => r, rfl, Hc.en, rfl, s1 _ _ hdd, kit_self, _, rfl, iteT ?_⟩
        refine ⟨_, rfl, rfl, rfl, dd, _, v, rfl, s1 _ _ hdd, by simp [List.lookup], (by show 2 ≤ sizeLine; decide), fun p hp => ?_⟩
        exact ⟨_, rfl, q p _ (s1.new hp) upd_same⟩
      · rename_i v u
        refine ⟨true, Hc.mm, fun _ a ha => ?_, fun z => by cases z⟩
        refine ⟨(by show 1 ≤ sizeLine; decide), fun y hy => ?_⟩
        have s1 : Same H' (upd H' y (.tup [.str "other"])) := (Same.refl H').new hy
        refine ⟨_, rfl, .ref c.r, .ref c.r, false, c.m, dd, _, rfl, fun _ r => r, rfl, Hc.em, rfl, s1 _ _ hdd, Hc.kmr, _, rfl, iteF ?_⟩
        refine ⟨_, rfl, .ref c.b, .ref c.b, false, c.m, dd, _, rfl, fun _ r => r, rfl, Hc.em, rfl, s1 _ _ hdd, Hc.kmb, _, rfl, iteF ?_⟩
        refine ⟨_, rfl, .ref c.n, .ref c.n, false, c.m, dd, _, rfl, fun _ r => r, rfl, Hc.em, rfl, s1 _ _ hdd, Hc.kmn, _, rfl, iteF ?_⟩
        refine ⟨_, rfl, .ref c.m, .ref c.m, true, c.m, dd, _, rfl, fun _ r => r, rfl, Hc.em, rfl, s1 _ _ hdd, kit_self, _, rfl, iteT ?_⟩
        refine ⟨_, rfl, rfl, rfl, dd, _, v, rfl, s1 _ _ hdd, by rw [List.lookup_cons, show (("what" : Str) == "most") = false from by decide +kernel]; simp [List.lookup], _, rfl, rfl, rfl, dd, _, u, rfl, s1 _ _ hdd, by simp [List.lookup], (by show 3 ≤ sizeLine; decide), fun p hp => ?_⟩
        exact ⟨_, rfl, q p _ (s1.new hp) upd_same⟩
    · exact ((Same.refl H).new he) _ _ hc
/-- a lambda that raises is heard -/
theorem hear {c : Hs} {C : Addr} {fs : List (Str × V)} {its : List V} (te : Tells c C fs its) {T : List (Addr × Str)} {H : Hp} {σ : St} {t : XK → TE} {Q : VK} (tab : Tabs T H)
    (body : ∀ (E' : XK) (J : Hp) (Q' : VK), ExtN H J → ErrsF E' C fs J → t E' σ J Q') (k : ∀ M p, ExtN H M → Tabs T M → M p = some (.tup its) → Q (.ref p) M) : tLam T (THeard c) t σ H Q := by
  refine ⟨tab, fun I extI tabsI e ne => ?_⟩
  have sI : Same I (upd I e (.tup [])) := (Same.refl I).new ne
  have xI : ExtN H (upd I e (.tup [])) := extI.trans (ExtN.of sI)
  refine body _ _ _ xI fun d L sL nd xd => ⟨C, d, fs, its, rfl, rfl, xd, te, fun p M sM hp => k M p (xI.trans (ExtN.of (sL.trans sM))) ((tabsI.ext sI).ext (sL.trans sM)) hp⟩
/-- all but what stands at h and the tables stay -/
def Kp (h : Addr) (H H' : Hp) : Prop := ∀ b o, b ≠ h → H b = some o → (∀ ps, o ≠ .tbl ps) → H' b = some o
theorem Kp.of_but {h : Addr} {H H' : Hp} (b : But h H H') : Kp h H H' := fun a o n e _ => b a o n e
theorem Kp.ext {h : Addr} {H H1 H2 : Hp} (a : Kp h H H1) (e : ExtN H1 H2) : Kp h H H2 := fun b o n q t => e b o (a b o n q t) t
theorem Kp.same {h : Addr} {H H1 H2 : Hp} (a : Kp h H H1) (s : Same H1 H2) : Kp h H H2 := fun b o n q t => s b o (a b o n q t)
theorem Kp.but {h : Addr} {H H1 H2 : Hp} (a : Kp h H H1) (s : But h H1 H2) : Kp h H H2 := fun b o n q t => s b o n (a b o n q t)
theorem Kp.trans {h : Addr} {H H1 H2 : Hp} (a : Kp h H H1) (s : Kp h H1 H2) : Kp h H H2 := fun b o n q t => s b o n (a b o n q t) t
theorem tabS_but {h : Addr} {xs : List V} {H H' : Hp} {P : Addr} {q : Str} (t : TabS H P q) (b : But h H H') (hh : H h = some (.lst xs)) : TabS H' P q := by
  obtain ⟨ps, h1, h2, h3⟩ := t
  refine ⟨ps, b _ _ (fun e => ?_) h1, h2, fun pos cv hc => ?_⟩
  · rw [e, hh] at h1
    cases h1
  · obtain ⟨c, e1, e2⟩ := h3 pos cv hc
    refine ⟨c, e1, b _ _ (fun e => ?_) e2⟩
    rw [e, hh] at e2
    cases e2
theorem tabs_but {h : Addr} {xs : List V} {H H' : Hp} {T : List (Addr × Str)} (t : Tabs T H) (b : But h H H') (hh : H h = some (.lst xs)) : Tabs T H' := fun p hp => tabS_but (t p hp) b hh
abbrev qCh : Str := "_law_changed_right.<locals>.<lambda>"
abbrev qRf : Str := "_law_refused_right.<locals>.<lambda>"
abbrev T2 (P1 P2 : Addr) : List (Addr × Str) := [(P1, qCh), (P2, qRf)]
/-- a def whose code object stands at c -/
structure FunC (K : PySem.W.Frag) (x qual : Str) (st : Stmt) (f : Addr) (fd : FuncData) (c : Addr) : Prop where
  ex : ∃ (oc : Value) (od : Option Addr) (kV doc pm : Value) (an : Option Addr) (ct : Value) (osl : Array (Option Value)),
    fd = PySem.W.fnOf x qual (defArgs st) (defBody st) (defScope st) .none kV doc pm an (.ref c) ct ∧ K.lookup f = some ⟨oc, od, .func fd, osl⟩ ∧ PySem.W.codeIn K (.ref c) qual = true
theorem FunC.ok {P : Program} {w : World} {K : PySem.W.Frag} {mg : Str → Option Value} {base : Heap} {x qual : Str} {st : Stmt} {f c : Addr} {fd : FuncData} {N ps : List Str} {k : Nat} {sp : Sp} (F : FunC K x qual st f fd c) (S : FnScope N ps (defScope st)) (len : ∀ vs H Q E, sp vs H Q E → vs.length = ps.length)
    (hbody : ∀ (A : Around) (outer : List Env) (s : Shared) (H : Hp) (vs : List V) (Q : VK) (E : XK), Room k (A.deeper (PyProof.Rows.envOfC qual (defScope st) s.heap.objs.size f (.ref c))) → sp vs H Q E →
      ∃ t, PSs (cxOf CX0 P w K mg base N qual (defScope st) f (.ref c) A outer s H E).nox (defBody st) t ∧ t { nx := fun _ H' => Q .non H', rt := Q } (L2.start N vs) H) : FnOk P w K mg base CX0 (k + 1) f fd ps sp := by
  obtain ⟨oc, od, kV, doc, pm, an, ct, osl, rfl, lk, hcd⟩ := F.ex
  exact fn_of lk hcd S len fun A outer s H vs Q E hr hsp => by
    obtain ⟨t, h, q⟩ := hbody A outer s H vs Q E hr hsp
    exact ⟨t, h.nox, q⟩
theorem Same.ext {H H' : Hp} (s : Same H H') : ExtN H H' := ExtN.of s
theorem RingW.ext {K : PySem.W.Frag} {C : Addr} {H H' : Hp} {r : Addr} {ls : List Int} (h : RingW K C H r ls) (s : ExtN H H') : RingW K C H' r ls := by
  obtain ⟨dx, t, h1, h2⟩ := h
  exact ⟨dx, t, s _ _ h1 (fun _ z => nomatch z), s _ _ h2 (fun _ z => nomatch z)⟩
theorem PenAt.ext {K : PySem.W.Frag} {H H' : Hp} {p : Addr} {e : Addr × List Int} {n : Nat} (h : PenAt K H p e n) (s : ExtN H H') : PenAt K H' p e n := by
  obtain ⟨a, r, h1, h5, h6, h7⟩ := h.ex
  refine ⟨⟨a, r, s _ _ h1 (fun _ z => nomatch z), h5, h6, h7⟩, ?_, h.np, h.ln⟩
  rcases h.sq with (z | ⟨o, z⟩) | z
  · exact .inl (.inl (s _ _ z (fun _ z => nomatch z)))
  · exact .inl (.inr ⟨o, s _ _ z (fun _ z => nomatch z)⟩)
  · exact .inr z
end K
namespace K
open PySem L2 Rg
/-! ### lists turned about -/
theorem range_snoc {α : Type} (g : Nat → α) (i : Nat) : (List.range (i + 1)).map g = (List.range i).map g ++ [g i] := by
  rw [List.range_succ, List.map_append]; rfl
theorem emod_nat (a n : Nat) : ((a : Int) % (n : Int)) = ((a % n : Nat) : Int) := (Int.natCast_emod a n).symm
theorem getD_at {ls : List Int} {i : Nat} (h : i < ls.length) : ls.getD i 0 = ls[i] := by
  rw [List.getD_eq_getElem?_getD, List.getElem?_eq_getElem h]; rfl
theorem rot_eq {ls : List Int} {b : Nat} (hb : b < ls.length) : (List.range ls.length).map (fun j => ls.getD ((b + j) % ls.length) 0) = ls.drop b ++ ls.take b := by
  refine List.ext_getElem (by simp only [List.length_map, List.length_range, List.length_append, List.length_drop, List.length_take]; omega) fun j h1 h2 => ?_
  rw [List.length_map, List.length_range] at h1
  rw [List.getElem_map, List.getElem_range, getD_at (Nat.mod_lt _ (by omega))]
  by_cases c : j < ls.length - b
  · rw [List.getElem_append_left (by rw [List.length_drop]; exact c), List.getElem_drop]
    congr 1
    exact Nat.mod_eq_of_lt (by omega)
  · rw [List.getElem_append_right (by rw [List.length_drop]; omega), List.getElem_take]
    congr 1
    rw [List.length_drop, show b + j = (j - (ls.length - b)) + ls.length by omega, Nat.add_mod_right]
    exact Nat.mod_eq_of_lt (by omega)
theorem rot_back {ls : List Int} {b : Nat} (hb : b < ls.length) : (ls.drop b ++ ls.take b).drop ((ls.length - b) % ls.length) ++ (ls.drop b ++ ls.take b).take ((ls.length - b) % ls.length) = ls := by
  by_cases c : b = 0
  · subst c
    rw [Nat.sub_zero, Nat.mod_self]
    simp
  · rw [Nat.mod_eq_of_lt (show ls.length - b < ls.length by omega)]
    have e : (ls.drop b).length = ls.length - b := List.length_drop ..
    rw [← e, List.drop_left, List.take_left, List.take_append_drop]
theorem back_eq {ls : List Int} (h : 0 < ls.length) : (List.range ls.length).map (fun j => ls.getD ((ls.length - j) % ls.length) 0) = backL ls := by
  unfold backL
  refine List.ext_getElem (by simp only [List.length_map, List.length_range, List.length_append, List.length_reverse, List.length_drop, List.length_take]; omega) fun j h1 h2 => ?_
  rw [List.length_map, List.length_range] at h1
  rw [List.getElem_map, List.getElem_range, getD_at (Nat.mod_lt _ h)]
  by_cases c : j = 0
  · subst c
    rw [List.getElem_append_left (by rw [List.length_take]; omega), List.getElem_take]
    congr 1
    rw [Nat.sub_zero, Nat.mod_self]
  · have l1 : (ls.take 1).length = 1 := by rw [List.length_take]; omega
    rw [List.getElem_append_right (by omega), List.getElem_reverse, List.getElem_drop]
    congr 1
    rw [Nat.mod_eq_of_lt (by omega), List.length_drop, l1]
    omega
theorem back_back (ls : List Int) : backL (backL ls) = ls := by
  cases ls with
  | nil => rfl
  | cons x r => simp [backL]
/-! ### the order and the way home -/
def homeL (ns : List Int) (i : Nat) : List Int := (List.range i).map fun j : Nat => ((ns.idxOf (j : Int) : Nat) : Int)
theorem natB_nodup (n : Nat) : (natB (List.range n)).Nodup := by
  unfold natB List.Nodup
  rw [List.pairwise_map]
  exact List.nodup_range.imp fun h => by omega
theorem natB_mem2 {n j : Nat} (h : j < n) : (j : Int) ∈ natB (List.range n) := List.mem_map.mpr ⟨j, List.mem_range.mpr h, rfl⟩
theorem idx_lt {ns : List Int} {n j : Nat} (p : ns.Perm (natB (List.range n))) (h : j < n) : ns.idxOf (j : Int) < ns.length := List.idxOf_lt_length_of_mem (p.mem_iff.mpr (natB_mem2 h))
theorem idx_get {ns : List Int} {n j : Nat} (p : ns.Perm (natB (List.range n))) (h : j < n) : ns[ns.idxOf (j : Int)]? = some (j : Int) := by
  have h1 := idx_lt p h
  rw [List.getElem?_eq_getElem h1, List.getElem_idxOf]
theorem idx_not {ns : List Int} {z : Int} : ∀ {m : Nat}, m < ns.idxOf z → ns[m]? ≠ some z := by
  intro m hm e
  induction ns generalizing m with
  | nil => simp at e
  | cons x r ih =>
    rw [List.idxOf_cons] at hm
    cases c : (x == z) with
    | true => rw [c] at hm; exact absurd hm (Nat.not_lt_zero _)
    | false =>
      rw [c] at hm
      cases m with
      | zero =>
        rw [List.getElem?_cons_zero] at e
        rw [Option.some.inj e] at c
        simp at c
      | succ m =>
        rw [List.getElem?_cons_succ] at e
        exact ih (by simpa using hm) e
theorem home_perm {ns : List Int} {n : Nat} (p : ns.Perm (natB (List.range n))) : (homeL ns n).Perm (natB (List.range n)) := by
  have nl : ns.length = n := by rw [p.length_eq, natB_len]
  have nd : ns.Nodup := p.nodup_iff.mpr (natB_nodup n)
  have inj : ∀ a b : Nat, a < n → b < n → ns.idxOf (a : Int) = ns.idxOf (b : Int) → a = b := fun a b ha hb e => by
    have e1 := idx_get p ha
    rw [e, idx_get p hb] at e1
    have := Option.some.inj e1
    omega
  have hn : (homeL ns n).Nodup := by
    unfold homeL List.Nodup
    rw [List.pairwise_map]
    have pr : (List.range n).Pairwise fun a b => a ∈ List.range n ∧ b ∈ List.range n ∧ a ≠ b := by
      refine List.Pairwise.imp_of_mem (fun {a b} ha hb h => ⟨ha, hb, h⟩) List.nodup_range
    refine pr.imp ?_
    rintro a b ⟨ha, hb, h⟩ e
    exact h (inj a b (List.mem_range.mp ha) (List.mem_range.mp hb) (by omega))
  refine (List.perm_ext_iff_of_nodup hn (natB_nodup n)).mpr fun z => ?_
  constructor
  · intro m
    obtain ⟨j, hj, rfl⟩ := List.mem_map.mp m
    have := idx_lt p (List.mem_range.mp hj)
    exact natB_mem2 (by omega)
  · intro m
    obtain ⟨i, hi, rfl⟩ := List.mem_map.mp m
    have hi' := List.mem_range.mp hi
    have hil : i < ns.length := by omega
    have hm := p.mem_iff.mp (List.getElem_mem hil)
    have bz := natB_mem hm
    refine List.mem_map.mpr ⟨ns[i].toNat, List.mem_range.mpr (by omega), ?_⟩
    have ez : ((ns[i].toNat : Nat) : Int) = ns[i] := by omega
    rw [ez]
    have h1 : ns.idxOf ns[i] < ns.length := List.idxOf_lt_length_of_mem (List.getElem_mem hil)
    have h2 : ns[ns.idxOf ns[i]] = ns[i] := List.getElem_idxOf h1
    have : ns.idxOf ns[i] = i := (List.getElem_inj nd).mp h2
    rw [this]
theorem home_back {ls ns : List Int} (p : ns.Perm (natB (List.range ls.length))) : ordL (ordL ls ns) (homeL ns ls.length) = ls := by
  unfold homeL
  have e : ordL (ordL ls ns) ((List.range ls.length).map fun j : Nat => ((ns.idxOf (j : Int) : Nat) : Int)) = (List.range ls.length).map fun j : Nat => (ordL ls ns).getD (ns.idxOf (j : Int)) 0 := by
    unfold ordL
    rw [List.map_map]
    rfl
  rw [e]
  refine List.ext_getElem (by rw [List.length_map, List.length_range]) fun j h1 h2 => ?_
  rw [List.getElem_map, List.getElem_range]
  have g := idx_get p h2
  have hl := idx_lt p h2
  have g2 : (ordL ls ns)[ns.idxOf (j : Int)]? = some (ls.getD j 0) := by
    unfold ordL
    rw [List.getElem?_map, g]
    rfl
  rw [List.getD_eq_getElem?_getD, g2]
  exact getD_at h2
end K
namespace K
open PySem L2 Rg LamX
open Evl (pss_cut)
def vint : V → Int
  | .int i => i
  | _ => 0
theorem vints : ∀ ns : List Int, (ns.map V.int).map vint = ns
  | [] => rfl
  | i :: ns => by rw [List.map_cons, List.map_cons, vints ns]; rfl
theorem perm_ints {ys : List V} {l : List Int} (h : ys.Perm (l.map V.int)) : ∃ ms : List Int, ys = ms.map V.int ∧ ms.Perm l := by
  refine ⟨ys.map vint, ?_, ?_⟩
  · rw [List.map_map]
    refine (List.map_id ys).symm.trans (List.map_congr_left fun y hy => ?_)
    obtain ⟨i, _, rfl⟩ := List.mem_map.mp (h.mem_iff.mp hy)
    rfl
  · have := h.map vint
    rw [vints] at this
    exact this
abbrev gK2 {α : Type} : List α → List α → List α := fun us ws => match us, ws with
  | [a], [b] => [a, b]
  | _, _ => []
abbrev gK3 {α : Type} : List α → List α → List α := fun us ws => match us, ws with
  | [a], [b, c] => [a, c, b]
  | _, _ => []
section
variable {P : Program} {w : World} {K : PySem.W.Frag} {mg : Str → Option Value} {base : Heap}
structure MethAt (P : Program) (w : World) (K : PySem.W.Frag) (mg : Str → Option Value) (base : Heap) (C : Addr) (x : Str) (ps : List Str) (sp : Sp) (f : Addr) (fd : FuncData) : Prop where
  m : Meth K C x f
  ok : FnOk P w K mg base (L2.CX P w) 6 f fd ps sp
  b : Binds K fd ps []
structure EqAt' (P : Program) (w : World) (K : PySem.W.Frag) (mg : Str → Option Value) (base : Heap) (C f : Addr) (fd : FuncData) : Prop where
  ok : FnOk P w K mg base CX0 2 f fd ["self", "other"] (spREq K C)
  b : Binds K fd ["self", "other"] []
  hs : PySem.W.findIn K (.ref C) "__eq__" = some (some (.ref f))
  hf : PySem.W.isFn K (.ref f) = true
  hne : PySem.W.findIn K (.ref C) "__ne__" = some (some (.builtin "object.__ne__"))
  ho : PySem.W.subIn K (.ref C) (.type "object") = some true
/-- in_order, of anything -/
def spOrd (K : PySem.W.Frag) (C : Addr) (c : Ms) : Sp := fun vs H Q E => spOrdO K C c vs H Q E ∨ spOrdL K C c vs H Q E ∨ spOrdT K C c vs H Q E
theorem no_m {t : Addr} {ls : List Int} {m : Str} (h1 : ¬ m = "lengths") (h2 : ¬ m = "total") (h3 : ¬ m = "closes") (h4 : ¬ m = "is_clear") : (rf t ls).lookup m = none := rf_no t ls h1 h2 h3 h4
theorem eqB (ls : List Int) : (!PyData.eqv (.tuple (ls.map PyData.int)) (.tuple (ls.map PyData.int))) = false := by rw [eqv_tup, decide_eq_true rfl]; rfl
/-- the making of a Ring, as a law asks it -/
theorem made2 {C l : Addr} {c : Rs} {E : XK} {H : Hp} {ls : List Int} {R : Addr → VK} (hs : SqE H l (ls.map V.int)) (bd : Bd 1000000 ls) (l3 : 3 ≤ ls.length) (l8 : ls.length ≤ 8) (h : ∀ x H', RingW K C H' x ls → Same H H' → H x = none → R x .non H') :
    ∀ x dx, H x = none → H dx = none → dx ≠ x → spRX K C c (.ref x :: ([.ref l] ++ [])) (upd (upd H dx (.own x)) x (.ins C dx [])) (R x) E := by
  intro x dx hx hdx _
  have s0 : Same H (upd (upd H dx (.own x)) x (.ins C dx [])) := fun b o q => by
    rw [upd_ne (ne_of_none q hx), upd_ne (ne_of_none q hdx)]
    exact q
  exact ⟨x, l, dx, ls, rfl, upd_same, hs.same s0, by omega, RingRes.fine bd l3 l8 fun H' ring kp => h x H' ring (fun b o e => kp b o (s0 b o e) (ne_of_none e hx)) hx⟩
abbrev nRN : List Str := ["_law_pen_here", "_law_lengths_here", "_law_ring", "_law_many", "_law_bar", "_law_order", "_law_begun", "_law_back", "_law_told", "_law_home", "_law_at"]
theorem scRN : FnScope nRN ["_law_pen_here", "_law_lengths_here"] (defScope sLwRenumberedRight) := ⟨rfl, rfl, rfl, by decide +kernel, rfl, by decide +kernel, by decide +kernel⟩
def spRN (K : PySem.W.Frag) : Sp := fun vs H Q _ => ∃ (p l : Addr) (ls : List Int) (e : Addr × List Int) (n : Nat), vs = [.ref p, .ref l] ∧ n < 800000 ∧ PenAt K H p e n ∧ l ≠ p ∧ H l = some (.lst (ls.map V.int)) ∧ 3 ≤ ls.length ∧ ls.length ≤ 8 ∧ Bd 1000000 ls ∧
  ∀ H', But p H H' → PenAt K H' p e (n + 9) → Q (.bl true) H'
theorem ok_rn {C f fD fM fI fB fN fE m1 m2 m3 : Addr} {c : Ms} {fd fdD fdM fdI fdB fdN fdE d1 d2 d3 : FuncData} {g1 g3 : List Value → List Value → List Value} (F : Fun K "_law_renumbered_right" "_law_renumbered_right" sLwRenumberedRight f fd) (T : Bi mg) (R : RingC K mg C) (D : DrawAt P w K mg base fD fdD)
    (MX : DefAt P w K mg base CX0 3 "_law_mixed" ["_law_pen_here", "_law_items"] (spMixed K) fM fdM) (G : RingP P w K mg base C c fI fB fN fdI fdB fdN) (EQ : EqAt' P w K mg base C fE fdE) (M1 : MethAt P w K mg base C "begun_at" ["self", "bar"] (spBegun K C c) m1 d1) (K1 : KBinds K d1 ["self", "bar"] ["bar"] g1 gK2)
    (M2 : MethAt P w K mg base C "backwards" ["self"] (spBackw K C) m2 d2) (M3 : MethAt P w K mg base C "in_order" ["self", "order"] (spOrd K C c) m3 d3) (K3 : KBinds K d3 ["self", "order"] ["order"] g3 gK2) : FnOk P w K mg base CX0 7 f fd ["_law_pen_here", "_law_lengths_here"] (spRN K) := by
  refine F.ok scRN (fun vs H Q E h => ?_) (fun cdv A outer s H vs Q E hr h => ?_)
  · obtain ⟨p, l, ls, e, n, rfl, _⟩ := h
    rfl
  · have nd := scRN.nd
    refine ⟨_, (pss_cons (ps_asg (pe_tup (pa_cons (pe_make G.made G.ok (hr.mono (by decide)) (by rfl) R.g G.b .nil passL (pa_cons (pv 1) pa_nil)) (pa_cons (pe_callB call_len_seq (by rfl) T.len PySem.boot_len (pa_cons (pv 1) pa_nil)) pa_nil))) (pg_tup (by rfl) (pgs_cons (pg_name (i := 2) nd rfl (Or.inl rfl)) (pgs_cons (pg_name (i := 3) nd rfl (Or.inr rfl)) pgs_nil))))
      (pss_cons (ps_asg (pe_tup (pa_cons (pe_call D.ok (hr.mono (by decide)) rfl D.g D.kp D.b .nil pass0 (pa_cons (pv 0) (pa_cons (pv 3) pa_nil))) (pa_cons (pe_call MX.ok (hr.mono (by decide)) rfl MX.g MX.kp MX.b .nil pass0 (pa_cons (pv 0) (pa_cons (pe_listRg rfl (by rfl) T.list (prg_1 (by rfl) T.range (pv 3))) pa_nil))) pa_nil))) (pg_tup (by rfl) (pgs_cons (pg_name (i := 4) nd rfl (Or.inr rfl)) (pgs_cons (pg_name (i := 5) nd rfl (Or.inr rfl)) pgs_nil))))
      (pss_cons (ps_par (i := 6) (j := 7) (by rfl) nd rfl rfl (by decide) rfl rfl (pa_cons (pe_meth (pv 2) R.cl M1.m M1.ok hr M1.b .nil passL (pa_cons (pv 4) pa_nil)) (pa_cons (pe_meth0 (pv 2) R.cl M2.m M2.ok hr M2.b .nil passL) pa_nil)) (by rfl))
      (pss_cons (ps_if (pt_cmpR (op_neD hr.units) (pe_fld (pv 6) rfl) (pe_callTy call_tuple_of (by rfl) T.tuple (by decide +kernel) (pa_cons (pe_lc (own := [("_law_at", 10)]) (g := gName 10) (tt := tYes) rfl nd (pi_range1 (by rfl) T.range (pa_cons (pv 3) pa_nil))
          (blkOk_by (N := nRN) (sc := defScope sLwRenumberedRight) (by decide +kernel)) (fun _ _ _ _ _ => pg_name (i := 10) nd rfl (Or.inl rfl)) (fun _ _ _ _ _ => pts_nil) (fun _ _ _ _ _ => (pe_ix (r := rIxL K) ix_list (pv 1) (pe_op op_mod (pe_callTy call_int1 (by rfl) T.int (by decide +kernel) (pa_cons (pe_op op_add (pv 4) (pv 10)) pa_nil)) (pv 3)) (fun _ _ => rfl)))) pa_nil)) (nomark _)) (pss_one ps_never) pss_nil)
      (pss_cons (ps_if (pt_cmpR (op_neD hr.units) (pe_fld (pv 7) rfl) (pe_callTy call_tuple_of (by rfl) T.tuple (by decide +kernel) (pa_cons (pe_lc (own := [("_law_at", 10)]) (g := gName 10) (tt := tYes) rfl nd (pi_range1 (by rfl) T.range (pa_cons (pv 3) pa_nil))
          (blkOk_by (N := nRN) (sc := defScope sLwRenumberedRight) (by decide +kernel)) (fun _ _ _ _ _ => pg_name (i := 10) nd rfl (Or.inl rfl)) (fun _ _ _ _ _ => pts_nil) (fun _ _ _ _ _ => (pe_ix (r := rIxL K) ix_list (pv 1) (pe_op op_mod (pe_callTy call_int1 (by rfl) T.int (by decide +kernel) (pa_cons (pe_op op_sub (pv 3) (pv 10)) pa_nil)) (pv 3)) (fun _ _ => rfl)))) pa_nil)) (nomark _)) (pss_one ps_never) pss_nil)
      (pss_cons (ps_if (PW.pt (pw_or (pt_cmpR (op_insNe EQ.ok EQ.hne EQ.ho EQ.hs EQ.hf EQ.b (hr.mono (by decide))) (pe_meth (pv 6) R.cl M1.m M1.ok hr M1.b .nil passL (pa_cons (pe_op op_mod (pe_callTy call_int1 (by rfl) T.int (by decide +kernel) (pa_cons (pe_op op_sub (pv 3) (pv 4)) pa_nil)) (pv 3)) pa_nil)) (pv 2) (nomark _)) (pw_or1 (pt_cmpR (op_insNe EQ.ok EQ.hne EQ.ho EQ.hs EQ.hf EQ.b (hr.mono (by decide))) (pe_meth0 (pv 7) R.cl M2.m M2.ok hr M2.b .nil passL) (pv 2) (nomark _))))) (pss_one ps_never) pss_nil)
      (pss_cons (ps_set (i := 8) nd rfl (Or.inl rfl) (pe_meth (pv 2) R.cl M3.m M3.ok hr M3.b .nil passL (pa_cons (pv 5) pa_nil)))
      (pss_cons (ps_setLc (i := 9) (own := [("_law_at", 10)]) (g := gName 10) (tt := tYes) (te := tBM K "list" (rIndex K) (tVar 5) (tCons (tVar 10) tNil)) rfl nd rfl rfl (sw_true rfl rfl rfl (by decide +kernel)) (pi_range1 (by rfl) T.range (pa_cons (pv 3) pa_nil))
          (blkOk_by (N := nRN) (sc := defScope sLwRenumberedRight) (by decide +kernel)) (fun _ _ _ _ _ => pg_name (i := 10) nd rfl (Or.inl rfl)) (fun _ _ _ _ _ => pts_nil) (fun _ _ _ _ _ => (pe_bm (r := rIndex K) PySem.F.plainAttrs_list PySem.F.slot_list_index PySem.F.type_list_index mt_index (pv 5) (pa_cons (pv 10) pa_nil))))
      (pss_cons (ps_if (PW.pt (pw_or (pt_cmpR (op_neD hr.units) (pe_fld (pv 8) rfl) (pe_callTy call_tuple_of (by rfl) T.tuple (by decide +kernel) (pa_cons (pe_lc (own := [("_law_at", 10)]) (g := gName 10) (tt := tYes) rfl nd (pi_list (pv 5))
          (blkOk_by (N := nRN) (sc := defScope sLwRenumberedRight) (by decide +kernel)) (fun _ _ _ _ _ => pg_name (i := 10) nd rfl (Or.inl rfl)) (fun _ _ _ _ _ => pts_nil) (fun _ _ _ _ _ => (pe_ix (r := rIxL K) ix_list (pv 1) (pv 10) (fun _ _ => rfl)))) pa_nil)) (nomark _)) (pw_or1 (pt_cmpR (op_insNe EQ.ok EQ.hne EQ.ho EQ.hs EQ.hf EQ.b (hr.mono (by decide))) (pe_methK0 (pv 8) R.cl M3.m M3.ok hr K3 passL (pk_cons (pe_callTy call_tuple_of (by rfl) T.tuple (by decide +kernel) (pa_cons (pv 9) pa_nil)) pk_nil)) (pv 2) (nomark _))))) (pss_one ps_never) pss_nil)
      (pss_cons (ps_if (pt_cmpR (op_insNe EQ.ok EQ.hne EQ.ho EQ.hs EQ.hf EQ.b (hr.mono (by decide))) (pe_methK0 (pv 2) R.cl M1.m M1.ok hr K1 passL (pk_cons pe_int pk_nil)) (pv 2) (nomark _)) (pss_one ps_never) pss_nil)
      (pss_one (ps_ret (pe_cmpR (op_eqD hr.units) (pe_fld (pv 2) rfl) (pe_callTy call_tuple_of (by rfl) T.tuple (by decide +kernel) (pa_cons (pv 1) pa_nil)) (nomark _)))))))))))))), ?_⟩
    obtain ⟨p, l, ls, e, n, rfl, hn, pen, hlp, hl, l3, l8, bd, q⟩ := h
    refine ⟨_, rfl, made2 (.inl hl) bd l3 l8 fun r H1 rg1 s1 nr => ⟨rfl, ?_⟩⟩
    have hl1 := s1 _ _ hl
    refine ⟨_, rfl, l, _, rfl, .inl (SqL.of hl1), (by show 2 ≤ sizeLine; decide), fun t0 n0 => ⟨t0, _, rfl, .inl (.inl upd_same), rfl, _, _, rfl, _, _, rfl, rfl, ?_⟩⟩
    rw [List.length_map]
    have s2 := s1.new (o := .tup [.ref r, .int (ls.length : Nat)]) n0
    have rg2 := rg1.same ((Same.refl H1).new (o := .tup [.ref r, .int (ls.length : Nat)]) n0)
    generalize upd H1 t0 (.tup [.ref r, .int (ls.length : Nat)]) = H2 at s2 rg2 ⊢
    have pen2 := pen.same s2
    obtain ⟨pl2, hpl2⟩ := pen2.some
    -- bar, order
    refine ⟨_, rfl, _, rfl, p, e, _, n, rfl, by omega, by omega, by omega, pen2, fun b H3 b0 b1 k3 pen3 => ?_⟩
    obtain ⟨b, rfl⟩ := Int.eq_ofNat_of_zero_le b0
    have hb : b < ls.length := by omega
    have rg := rg_nat ls.length
    refine ⟨_, rfl, _, rfl, _, rfl, RgOk.of_le (by omega) (by omega) (by omega) (by omega), fun q0 hq0 => ?_⟩
    rw [rg]
    have hq0p : q0 ≠ p := pen3.ne hq0
    refine ⟨p, q0, e, _, n + 1, rfl, SqL.of upd_same, hq0p, by rw [List.length_map, natB_len]; omega, by omega, pen3.put hq0, fun q1 ys H4 pm hq1 k4 h4 pen4 => ?_⟩
    rw [List.length_map, natB_len] at pen4
    obtain ⟨ns, rfl, mp⟩ := perm_ints pm
    have nl : ns.length = ls.length := by rw [mp.length_eq, natB_len]
    have hq1p : q1 ≠ p := (pen3.put (o := .lst ((natB (List.range ls.length)).map V.int)) hq0).ne hq1
    have k14 : But p H2 H4 := (k3.trans (But.of ((Same.refl H3).new hq0))).trans k4
    refine ⟨(by show 2 ≤ sizeLine; decide), fun t1 n1 => ⟨t1, _, rfl, .inl (.inl upd_same), rfl, _, _, rfl, _, _, rfl, rfl, ?_⟩⟩
    have s45 : Same H4 (upd H4 t1 (.tup [.int (b : Nat), .ref q1])) := (Same.refl H4).new n1
    generalize upd H4 t1 (.tup [.int (b : Nat), .ref q1]) = H5 at s45 ⊢
    have k05 : But p H H5 := ((But.of s2).trans k14).trans (But.of s45)
    have pen5 := pen4.same s45
    have rg5 : RingW K C H5 r ls := (rg2.but k14 hpl2).same s45
    have hl5 : H5 l = some (.lst (ls.map V.int)) := k05 _ _ hlp hl
    have hq5 : H5 q1 = some (.lst (ns.map V.int)) := s45 _ _ h4
    clear s1 s2 rg1 rg2 pen2 pen3 pen4 k3 k4 k14 s45 hl1 h4 hpl2
    obtain ⟨dx, t, hr5, ht5⟩ := id rg5
    have kb : KndI K H5 (.int ((b : Nat) : Int)) "int" := ⟨Knd.int, fun _ => ⟨_, rfl⟩⟩
    -- begun, back
    refine ⟨_, rfl, r, dx, _, rfl, hr5, no_m (by decide +kernel) (by decide +kernel) (by decide +kernel) (by decide +kernel), _, rfl, r, _, "int", ls, rfl, rg5, l3, l8, bd, kb, .inr ⟨b, rfl, rfl, hb, fun r1 H6 rg6 s6 nr1 => ?_⟩⟩
    refine ⟨_, rfl, r, dx, _, rfl, s6 _ _ hr5, no_m (by decide +kernel) (by decide +kernel) (by decide +kernel) (by decide +kernel), r, ls, rfl, rg5.same s6, l3, l8, bd, fun r2 H7 rg7 s7 nr2 => ⟨_, _, rfl, ?_⟩⟩
    have s57 := s6.trans s7
    have ra7 := rg6.same s7
    obtain ⟨dx1, u1, hr1, hu1⟩ := id ra7
    obtain ⟨dx2, u2, hr2, hu2⟩ := id rg7
    have len1 : (ls.drop b ++ ls.take b).length = ls.length := by rw [List.length_append, List.length_drop, List.length_take]; omega
    have len2 := backL_len ls
    have bd1 : Bd 1000000 (ls.drop b ++ ls.take b) := (bd.drop b).app (bd.take b)
    have bd2 : Bd 1000000 (backL ls) := bd.back
    -- begun.lengths
    refine ⟨_, rfl, r1, C, dx1, _, _, rfl, hr1, R.cl, R.nL, rf_lengths _ _, _, rfl, _, rfl, by omega, by omega, fun D hD => ?_⟩
    refine lc_range (lo := 0) (n := ((ls.length : Nat) : Int).toNat) (fun i H' => Same H7 H' ∧ H' D = some (.lst (((List.range i).map fun j => ls.getD ((b + j) % ls.length) 0).map V.int))) ⟨(Same.refl H7).new hD, upd_same⟩ ?_ ?_
    · rintro i H' hi ⟨s2, h2⟩
      rw [Int.toNat_natCast] at hi
      rw [Int.zero_add]
      refine ⟨rfl, _, rfl, _, rfl, _, rfl, _, _, rfl, rfl, .inl ⟨_, rfl, _, rfl, _, _, rfl, rfl, (show (0 : Int) < ls.length by omega), l, _, _, _, rfl, rfl, SqL.of (s2 _ _ (s57 _ _ hl5)), getL (i := (b + i) % ls.length) (by rw [← Int.natCast_add]; exact emod_nat _ _) (Nat.mod_lt _ (by omega)), _, h2, (by rw [List.length_map, List.length_map, List.length_range]; exact sm (by omega)), s2.mut hD, ?_⟩⟩
      rw [upd_same, range_snoc, List.map_append]
      rfl
    rintro H8 ⟨s8, h8⟩
    rw [Int.toNat_natCast, rot_eq hb] at h8
    refine ⟨D, _, rfl, .inl ⟨SqL.of h8, fun v1 nv1 => ?_⟩⟩
    have s9 := s8.new (o := .tup ((ls.drop b ++ ls.take b).map V.int)) nv1
    refine ⟨_, _, .tup (.inl (.inl (s9 _ _ hu1))) (dp_ints _), .tup (.inl (.inl upd_same)) (dp_ints _), sh_tup _, sh_tup _, _, rfl, iteBF (eqB _) ?_⟩
    generalize upd H8 v1 (.tup ((ls.drop b ++ ls.take b).map V.int)) = H9 at s9 ⊢
    clear s8 h8 nv1 hD
    -- back.lengths
    refine ⟨_, rfl, r2, C, dx2, _, _, rfl, s9 _ _ hr2, R.cl, R.nL, rf_lengths _ _, _, rfl, _, rfl, by omega, by omega, fun D hD => ?_⟩
    refine lc_range (lo := 0) (n := ((ls.length : Nat) : Int).toNat) (fun i H' => Same H9 H' ∧ H' D = some (.lst (((List.range i).map fun j => ls.getD ((ls.length - j) % ls.length) 0).map V.int))) ⟨(Same.refl H9).new hD, upd_same⟩ ?_ ?_
    · rintro i H' hi ⟨s2, h2⟩
      rw [Int.toNat_natCast] at hi
      rw [Int.zero_add]
      refine ⟨rfl, _, rfl, _, rfl, _, rfl, _, _, rfl, rfl, .inl ⟨_, rfl, _, rfl, _, _, rfl, rfl, (show (0 : Int) < ls.length by omega), l, _, _, _, rfl, rfl, SqL.of (s2 _ _ (s9 _ _ (s57 _ _ hl5))), getL (i := (ls.length - i) % ls.length) (by rw [show ((ls.length : Nat) : Int) - (i : Int) = ((ls.length - i : Nat) : Int) by omega]; exact emod_nat _ _) (Nat.mod_lt _ (by omega)), _, h2, (by rw [List.length_map, List.length_map, List.length_range]; exact sm (by omega)), s2.mut hD, ?_⟩⟩
      rw [upd_same, range_snoc, List.map_append]
      rfl
    rintro H8 ⟨s8, h8⟩
    rw [Int.toNat_natCast, back_eq (by omega)] at h8
    refine ⟨D, _, rfl, .inl ⟨SqL.of h8, fun v2 nv2 => ?_⟩⟩
    have s10 := (s9.trans s8).new (o := .tup ((backL ls).map V.int)) nv2
    refine ⟨_, _, .tup (.inl (.inl (s10 _ _ hu2))) (dp_ints _), .tup (.inl (.inl upd_same)) (dp_ints _), sh_tup _, sh_tup _, _, rfl, iteBF (eqB _) ?_⟩
    generalize upd H8 v2 (.tup ((backL ls).map V.int)) = H10 at s10 ⊢
    clear s8 h8 nv2 hD s9
    have r10 := (rg5.same s57).same s10
    have ra10 := ra7.same s10
    have rb10 := rg7.same s10
    have hr10 := s10 _ _ (s57 _ _ hr5)
    -- begun.begun_at(..) != ring
    refine ⟨_, rfl, r1, dx1, _, rfl, s10 _ _ hr1, no_m (by decide +kernel) (by decide +kernel) (by decide +kernel) (by decide +kernel), _, rfl, _, rfl, _, _, rfl, rfl, .inl ⟨_, rfl, _, rfl, _, _, rfl, rfl, (show (0 : Int) < ls.length by omega), r1, _, "int", ls.drop b ++ ls.take b, rfl, ra10, by omega, by omega, bd1, ⟨Knd.int, fun _ => ⟨_, rfl⟩⟩, .inr ⟨(ls.length - b) % ls.length, congrArg V.int (by rw [show ((ls.length : Nat) : Int) - ((b : Nat) : Int) = ((ls.length - b : Nat) : Int) by omega]; exact emod_nat _ _), rfl, by rw [len1]; exact Nat.mod_lt _ (by omega), fun r3 H11 rg11 s11 nr3 => ?_⟩⟩⟩
    rw [rot_back hb] at rg11
    obtain ⟨dx3, u3, hr3, hu3⟩ := id rg11
    refine ⟨_, rfl, r3, r, dx3, dx, _, _, rfl, rfl, hr3, s11 _ _ hr10, r3, r, ls, ls, rfl, rg11, r10.same s11, _, rfl, _, rfl, iteBF (by rw [decide_eq_true rfl]; rfl) ?_⟩
    -- back.backwards() != ring
    refine ⟨_, rfl, r2, dx2, _, rfl, s11 _ _ (s10 _ _ hr2), no_m (by decide +kernel) (by decide +kernel) (by decide +kernel) (by decide +kernel), r2, backL ls, rfl, rb10.same s11, by omega, by omega, bd2, fun r4 H12 rg12 s12 nr4 => ?_⟩
    rw [back_back] at rg12
    obtain ⟨dx4, u4, hr4, hu4⟩ := id rg12
    have s1012 := s11.trans s12
    refine ⟨_, rfl, r4, r, dx4, dx, _, _, rfl, rfl, hr4, s1012 _ _ hr10, r4, r, ls, ls, rfl, rg12, r10.same s1012, _, rfl, _, rfl, iteBF (by rw [decide_eq_true rfl]; rfl) ?_⟩
    have s512 := (s57.trans s10).trans s1012
    have r12 := rg5.same s512
    have hq12 := s512 _ _ hq5
    have hr12 := s512 _ _ hr5
    clear rg11 rg12 hr3 hr4 hu3 hu4 s11 s12 nr3 nr4 s1012 r10 ra10 rb10 hr10 s10 hr1 hr2 hu1 hu2 rg6 rg7 ra7 s6 s7 s57
    -- in_order
    have allI : ((ns.map V.int).all fun x => decide ((fun _ => "int") x = "int")) = true := List.all_eq_true.mpr fun _ _ => rfl
    refine ⟨_, rfl, r, dx, _, rfl, hr12, no_m (by decide +kernel) (by decide +kernel) (by decide +kernel) (by decide +kernel), _, rfl, .inr (.inl ⟨r, q1, ns.map V.int, fun _ => "int", ls, rfl, r12, l3, l8, bd, hq12, by rw [List.length_map]; omega, fun x hx => ?_, .inr ⟨allI, ns, rfl, .inr ⟨mp, fun r5 H13 rg13 s13 nr5 => ?_⟩⟩⟩)⟩
    · obtain ⟨z, _, rfl⟩ := List.mem_map.mp hx
      exact Knd.int
    have s513 := s512.trans s13
    -- home
    refine ⟨_, rfl, _, rfl, by omega, by omega, fun D hD => ?_⟩
    refine lc_range (lo := 0) (n := ((ls.length : Nat) : Int).toNat) (fun i H' => Same H13 H' ∧ H' D = some (.lst ((homeL ns i).map V.int))) ⟨(Same.refl H13).new hD, upd_same⟩ ?_ ?_
    · rintro i H' hi ⟨s2, h2⟩
      rw [Int.toNat_natCast] at hi
      rw [Int.zero_add]
      have hg := idx_get mp hi
      refine ⟨rfl, _, rfl, .inl ⟨rfl, _, SqL.of (s2 _ _ (s513 _ _ hq5))⟩, _, rfl, q1, ns.map V.int, .int (i : Nat), ns.idxOf ((i : Nat) : Int), .int (i : Nat), rfl, rfl, SqL.of (s2 _ _ (s513 _ _ hq5)), rfl, flat_ints _, by rw [List.getElem?_map, hg]; rfl, by simp [eqV], fun m z' hm hz' => ?_, _, h2, (by rw [List.length_map]; unfold homeL; rw [List.length_map, List.length_range]; exact sm (by omega)), s2.mut hD, ?_⟩
      · obtain ⟨y, hy, rfl⟩ := int_at hz'
        have := idx_not hm
        have ne : y ≠ (i : Int) := fun z => this (by rw [hy, z])
        simp [eqV, ne]
      · rw [upd_same]
        unfold homeL
        rw [range_snoc, List.map_append]
        rfl
    rintro H14 ⟨s14, h14⟩
    rw [Int.toNat_natCast] at h14
    have hp := home_perm mp
    have hh := home_back mp
    have hlen : (homeL ns ls.length).length = ls.length := by rw [hp.length_eq, natB_len]
    have s514 := s513.trans s14
    obtain ⟨dx5, u5, hr5', hu5⟩ := id (rg13.same s14)
    -- told.lengths
    refine ⟨_, rfl, r5, C, dx5, _, _, rfl, hr5', R.cl, R.nL, rf_lengths _ _, _, rfl, q1, rfl, ⟨_, SqL.of (s514 _ _ hq5)⟩, fun D2 hD2 => ?_⟩
    refine lc_list (K := K) (a := q1) (xs := ns.map V.int) (fun i H' => Same H14 H' ∧ H' D2 = some (.lst ((ordL ls (ns.take i)).map V.int))) ⟨(Same.refl H14).new hD2, upd_same⟩ (fun i H' _ q => SqL.of (q.1 _ _ (s514 _ _ hq5))) ?_ ?_
    · rintro i x H' hi ⟨s2, h2⟩
      obtain ⟨z, hz, rfl⟩ := int_at hi
      have bz := natB_mem (mp.mem_iff.mp (List.mem_of_getElem? hz))
      have hil : i < ns.length := (List.getElem?_eq_some_iff.mp hz).1
      refine ⟨rfl, _, rfl, _, rfl, l, _, _, _, rfl, rfl, SqL.of (s2 _ _ (s514 _ _ hl5)), get_z bz.1 bz.2, _, h2, (by rw [List.length_map, ordL_len, List.length_take]; exact sm (by omega)), s2.mut hD2, ?_⟩
      rw [upd_same, ordL_take hz, List.map_append]
      rfl
    rintro H15 ⟨s15, h15⟩
    rw [List.length_map, List.take_length] at h15
    refine ⟨D2, _, rfl, .inl ⟨SqL.of h15, fun v3 nv3 => ?_⟩⟩
    have s16 := s15.new (o := .tup ((ordL ls ns).map V.int)) nv3
    refine ⟨_, _, .tup (.inl (.inl (s16 _ _ hu5))) (dp_ints _), .tup (.inl (.inl upd_same)) (dp_ints _), sh_tup _, sh_tup _, _, rfl, iteBF (eqB _) ?_⟩
    generalize upd H15 v3 (.tup ((ordL ls ns).map V.int)) = H16 at s16 ⊢
    -- told.in_order(order = tuple(home)) != ring
    have rt16 := (rg13.same s14).same s16
    have ordlen := ordL_len ls ns
    refine ⟨_, rfl, r5, dx5, _, rfl, s16 _ _ hr5', no_m (by decide +kernel) (by decide +kernel) (by decide +kernel) (by decide +kernel), _, rfl, D, _, rfl, .inl ⟨SqL.of (s16 _ _ h14), fun v4 nv4 => ?_⟩⟩
    have s17 : Same H16 (upd H16 v4 (.tup ((homeL ns ls.length).map V.int))) := (Same.refl H16).new nv4
    have hv4 : upd H16 v4 (.tup ((homeL ns ls.length).map V.int)) v4 = some (.tup ((homeL ns ls.length).map V.int)) := upd_same
    generalize upd H16 v4 (.tup ((homeL ns ls.length).map V.int)) = H17 at s17 hv4 ⊢
    have allH : (((homeL ns ls.length).map V.int).all fun x => decide ((fun _ => "int") x = "int")) = true := List.all_eq_true.mpr fun _ _ => rfl
    refine .inr (.inr ⟨r5, v4, (homeL ns ls.length).map V.int, fun _ => "int", ordL ls ns, rfl, rt16.same s17, by omega, by omega, ordL_bd bd mp, hv4, by rw [List.length_map]; omega, fun x hx => ?_, .inr ⟨allH, _, rfl, .inr ⟨by rw [ordlen, nl]; exact hp, fun r6 H18 rg18 s18 nr6 => ?_⟩⟩⟩)
    · obtain ⟨z, _, rfl⟩ := List.mem_map.mp hx
      exact Knd.int
    rw [hh] at rg18
    obtain ⟨dx6, u6, hr6, hu6⟩ := id rg18
    have s518 := ((s514.trans s16).trans s17).trans s18
    refine ⟨_, rfl, r6, r, dx6, dx, _, _, rfl, rfl, hr6, s518 _ _ hr5, r6, r, ls, ls, rfl, rg18, rg5.same s518, _, rfl, _, rfl, iteBF (by rw [decide_eq_true rfl]; rfl) ?_⟩
    -- ring.begun_at(bar = 0) != ring
    refine ⟨_, rfl, r, dx, _, rfl, s518 _ _ hr5, no_m (by decide +kernel) (by decide +kernel) (by decide +kernel) (by decide +kernel), r, _, "int", ls, rfl, rg5.same s518, l3, l8, bd, ⟨Knd.int, fun _ => ⟨_, rfl⟩⟩, .inr ⟨0, rfl, rfl, by omega, fun r7 H19 rg19 s19 nr7 => ?_⟩⟩
    rw [List.drop_zero, List.take_zero, List.append_nil] at rg19
    obtain ⟨dx7, u7, hr7, hu7⟩ := id rg19
    have s519 := s518.trans s19
    refine ⟨_, rfl, r7, r, dx7, dx, _, _, rfl, rfl, hr7, s519 _ _ hr5, r7, r, ls, ls, rfl, rg19, rg5.same s519, _, rfl, _, rfl, iteBF (by rw [decide_eq_true rfl]; rfl) ?_⟩
    -- the end
    refine ⟨_, rfl, r, C, dx, _, _, rfl, s519 _ _ hr5, R.cl, R.nL, rf_lengths _ _, _, rfl, l, _, rfl, .inl ⟨SqL.of (s519 _ _ hl5), fun v5 nv5 => ?_⟩⟩
    have s520 := s519.new (o := .tup (ls.map V.int)) nv5
    refine ⟨_, _, .tup (.inl (.inl (s520 _ _ ht5))) (dp_ints _), .tup (.inl (.inl upd_same)) (dp_ints _), sh_tup _, sh_tup _, ?_⟩
    rw [eqv_tup, decide_eq_true rfl]
    exact q _ (k05.trans (But.of s520)) ((pen5.same s520).mono (by omega))
end
end K
namespace K
open PySem L2 Rg LamX
theorem getD_split {ls : List Int} {i : Nat} (h : i < ls.length) : ls = ls.take i ++ ls.getD i 0 :: ls.drop (i + 1) := by
  rw [getD_at h, ← List.drop_eq_getElem_cons h, List.take_append_drop]
theorem set_self {ls : List Int} {i : Nat} (h : i < ls.length) : ls.take i ++ [ls.getD i 0] ++ ls.drop (i + 1) = ls := by
  rw [List.append_assoc]
  exact (getD_split h).symm
theorem two_get {ls : List Int} {i : Nat} {z : Int} (h : i < ls.length) : (twoL ls i z).getD i 0 = z ∧ (twoL ls i z).getD (i + 1) 0 = ls.getD i 0 - z := by
  have lt : (ls.take i).length = i := by rw [List.length_take]; omega
  have e : twoL ls i z = ls.take i ++ (z :: (ls.getD i 0 - z) :: ls.drop (i + 1)) := by
    unfold twoL
    rw [List.append_assoc]
    rfl
  rw [e]
  constructor
  · rw [List.getD_eq_getElem?_getD, List.getElem?_append_right (by omega), lt, Nat.sub_self]; rfl
  · rw [List.getD_eq_getElem?_getD, List.getElem?_append_right (by omega), lt, show i + 1 - i = 1 by omega]; rfl
theorem one_two {ls : List Int} {i : Nat} {z : Int} (h : i < ls.length) : oneL (twoL ls i z) i = ls := by
  unfold oneL
  rw [twoL_len h, if_neg (by omega), (two_get h).1, (two_get h).2]
  have lt : (ls.take i).length = i := by rw [List.length_take]; omega
  have e1 : (twoL ls i z).take i = ls.take i := by
    unfold twoL
    rw [List.append_assoc, List.take_append_of_le_length (by omega), List.take_take, Nat.min_self]
  have e2 : (twoL ls i z).drop (i + 2) = ls.drop (i + 1) := by
    unfold twoL
    rw [List.drop_append, List.drop_eq_nil_of_le (by rw [List.length_append, lt]; exact Nat.le_refl _), List.length_append, lt]
    simp
  rw [e1, e2, show z + (ls.getD i 0 - z) = ls.getD i 0 by omega]
  exact set_self h
theorem two_sum {ls : List Int} {i : Nat} {z : Int} (h : i < ls.length) : (twoL ls i z).sum = ls.sum := by
  have e : ls.sum = (ls.take i ++ ls.getD i 0 :: ls.drop (i + 1)).sum := congrArg List.sum (getD_split h)
  rw [e]
  unfold twoL
  simp only [List.sum_append, List.sum_cons, List.sum_nil]
  omega
theorem Bd.two {m z : Int} {ls : List Int} {i : Nat} (b : Bd m ls) (h : i < ls.length) (z1 : 1 ≤ z) (z2 : z ≤ ls.getD i 0 - 1) : Bd m (twoL ls i z) := by
  have bi := b.get h
  unfold twoL
  refine ((b.take i).app fun x hx => ?_).app (b.drop (i + 1))
  rcases List.mem_cons.mp hx with rfl | hx
  · omega
  · rw [List.mem_singleton.mp hx]; omega
theorem one_pos {m : Int} {ls : List Int} {i : Nat} (b : Bd m ls) (h : i < ls.length) : ∀ x ∈ oneL ls i, 1 ≤ x := by
  have bi := b.get h
  intro x hx
  unfold oneL at hx
  split at hx
  · have b0 := b.get (show 0 < ls.length by omega)
    rcases List.mem_append.mp hx with hx | hx
    · rw [List.mem_singleton.mp hx]; omega
    · exact (b x (List.mem_of_mem_drop (List.mem_of_mem_take hx))).1
  · rename_i c
    have b1 := b.get (show i + 1 < ls.length by omega)
    rcases List.mem_append.mp hx with hx | hx
    · rcases List.mem_append.mp hx with hx | hx
      · exact (b x (List.mem_of_mem_take hx)).1
      · rw [List.mem_singleton.mp hx]; omega
    · exact (b x (List.mem_of_mem_drop hx)).1
theorem at_back {α : Type} {xs : List α} {v : α} (hl : 0 < xs.length) (h : xs[xs.length - 1]? = some v) : atI xs (-1) = some v := by
  unfold atI ixN
  rw [if_neg (by decide), if_pos (by omega), show ((-1 : Int) + (xs.length : Int)).toNat = xs.length - 1 by omega]
  exact h
theorem cut_in (xs : List V) (h : 2 ≤ xs.length) : cutV xs (some 1) (some (-1)) = (xs.drop 1).take (xs.length - 1 - 1) := by
  unfold cutV
  have e1 : HT.sIx xs.length 0 (some 1) = 1 := by
    have := HT.sIx_nat xs.length 0 1
    rw [Nat.min_eq_left (by omega)] at this
    exact this
  have e2 : HT.sIx xs.length xs.length (some (-1)) = xs.length - 1 := by
    show (if (-1 : Int) < 0 then ((-1 : Int) + (xs.length : Int)).toNat else min (-1 : Int).toNat xs.length) = _
    rw [if_pos (by decide)]
    omega
  rw [e1, e2]
end K
namespace K
open PySem L2 Rg LamX
open Evl (pss_cut)
section
variable {P : Program} {w : World} {K : PySem.W.Frag} {mg : Str → Option Value} {base : Heap}
abbrev nCH : List Str := ["_law_pen_here", "_law_lengths_here", "_law_many", "_law_length", "_law_one", "_law_due", "_law_first", "_law_two", "_law_bar", "_law_ring"]
theorem scCH : FnScope nCH ["_law_pen_here", "_law_lengths_here"] (defScope sLwChangedRight) := ⟨rfl, rfl, rfl, by decide +kernel, rfl, by decide +kernel, by decide +kernel⟩
def spCH (K : PySem.W.Frag) (P1 P2 : Addr) : Sp := fun vs H Q _ => ∃ (p l : Addr) (ls : List Int) (e : Addr × List Int) (n : Nat), vs = [.ref p, .ref l] ∧ n < 800000 ∧ PenAt K H p e n ∧ l ≠ p ∧ H l = some (.lst (ls.map V.int)) ∧ 3 ≤ ls.length ∧ ls.length ≤ 8 ∧ Bd 1000000 ls ∧ Tabs (T2 P1 P2) H ∧
  ∀ H', Kp p H H' → PenAt K H' p e (n + 9) → Tabs (T2 P1 P2) H' → Q (.bl true) H'
theorem ok_ch {C cd P1 P2 f fD fP fI fB fN fE fH m4 m5 m6 eR : Addr} {c : Ms} {hc : Hs} {fd fdD fdP fdI fdB fdN fdE fdH d4 d5 d6 : FuncData} {g4 g5 g6 : List Value → List Value → List Value} (F : FunC K "_law_changed_right" "_law_changed_right" sLwChangedRight f fd cd) (T : Bi mg) (Tm : mg "min" = none) (R : RingC K mg C) (D : DrawAt P w K mg base fD fdD)
    (PK : DefAt P w K mg base CX0 3 "_law_pick" ["_law_pen_here", "_law_some"] (spPick K) fP fdP) (G : RingP P w K mg base C c fI fB fN fdI fdB fdN) (EQ : EqAt' P w K mg base C fE fdE) (hcs : hc.r = c.x.r ∧ hc.m = c.x.m ∧ hc.n = c.n ∧ hc.b = c.b)
    (M4 : MethAt P w K mg base C "with_length" ["self", "bar", "length"] (spWith K C c) m4 d4) (K4 : KBinds K d4 ["self", "bar", "length"] ["length", "bar"] g4 gK3) (M5 : MethAt P w K mg base C "as_one" ["self", "bar"] (spAsOne K C c) m5 d5) (K5 : KBinds K d5 ["self", "bar"] ["bar"] g5 gK2)
    (M6 : MethAt P w K mg base C "in_two" ["self", "bar", "length"] (spInTwo K C c) m6 d6) (K6 : KBinds K d6 ["self", "bar", "length"] ["length", "bar"] g6 gK3) (Hc : HeardC K mg hc eR) (TB : TabB base mg cd P1) (hmT : (P1, qCh) ∈ T2 P1 P2) (hu : ∀ p ∈ T2 P1 P2, p.1 = P1 → p.2 = qCh)
    (FH : Fun K "_law_heard" "_law_heard" sLwHeard fH fdH) (BH : Binds K fdH ["_law_ask"] []) (GH : mg "_law_heard" = some (.ref fH)) : FnOk P w K mg base CX0 9 f fd ["_law_pen_here", "_law_lengths_here"] (spCH K P1 P2) := by
  refine F.ok scCH (fun vs H Q E h => ?_) (fun A outer s H vs Q E hr h => ?_)
  · obtain ⟨p, l, ls, e, n, rfl, _⟩ := h
    rfl
  · have nd := scCH.nd
    obtain ⟨oc, od, kV, doc, pm, an, cdv, ct, osl, rfl, lk, hcd⟩ := FH.ex
    refine ⟨_, (pss_cons (ps_asg (pe_tup (pa_cons (pe_make G.made G.ok (hr.mono (by decide)) (by rfl) R.g G.b .nil passL (pa_cons (pv 1) pa_nil)) (pa_cons (pe_callB call_len_seq (by rfl) T.len PySem.boot_len (pa_cons (pv 1) pa_nil)) pa_nil))) (pg_tup (by rfl) (pgs_cons (pg_name (i := 9) nd rfl (Or.inr rfl)) (pgs_cons (pg_name (i := 2) nd rfl (Or.inl rfl)) pgs_nil))))
      (pss_cons (ps_asg (pe_tup (pa_cons (pe_call D.ok (hr.mono (by decide)) rfl D.g D.kp D.b .nil pass0 (pa_cons (pv 0) (pa_cons (pv 2) pa_nil))) (pa_cons (pe_call PK.ok (hr.mono (by decide)) rfl PK.g PK.kp PK.b .nil pass0 (pa_cons (pv 0) (pa_cons (pe_lst (pa_cons pe_int (pa_cons pe_int (pa_cons (pe_op op_add pe_int (pe_call D.ok (hr.mono (by decide)) rfl D.g D.kp D.b .nil pass0 (pa_cons (pv 0) (pa_cons pe_int pa_nil)))) pa_nil)))) pa_nil))) pa_nil))) (pg_tup (by rfl) (pgs_cons (pg_name (i := 8) nd rfl (Or.inr rfl)) (pgs_cons (pg_name (i := 3) nd rfl (Or.inl rfl)) pgs_nil))))
      (pss_cons (ps_if (pt_cmpR (op_neD hr.units) (pe_fld (pe_methK0 (pv 9) R.cl M4.m M4.ok (hr.mono (by decide)) K4 passL (pk_cons (pv 3) (pk_cons (pv 8) pk_nil))) rfl) (pe_callTy call_tuple_of (by rfl) T.tuple (by decide +kernel) (pa_cons (pe_op op_cat (pe_op op_cat (pe_slice sl_list (pv 1) po_none (po_some (pv 8))) (pe_lst (pa_cons (pv 3) pa_nil))) (pe_slice sl_list (pv 1) (po_some (pe_op op_add (pv 8) pe_int)) po_none)) pa_nil)) (nomark _)) (pss_one ps_never) pss_nil)
      (pss_cons (ps_if (PW.pt (pw_or (pt_cmpR (op_insNe EQ.ok EQ.hne EQ.ho EQ.hs EQ.hf EQ.b (hr.mono (by decide))) (pe_meth (pv 9) R.cl M4.m M4.ok (hr.mono (by decide)) M4.b .nil passL (pa_cons (pv 8) (pa_cons (pe_ix ix_list (pv 1) (pv 8) (fun _ _ => rfl)) pa_nil))) (pv 9) (nomark _)) (pw_or1 (pt_cmpR (op_neD hr.units) (pe_fld (pv 9) rfl) (pe_callTy call_tuple_of (by rfl) T.tuple (by decide +kernel) (pa_cons (pv 1) pa_nil)) (nomark _))))) (pss_one ps_never) pss_nil)
      (pss_cons (ps_set (i := 4) nd rfl (Or.inl rfl) (pe_op op_cat (pe_lst (pa_cons (pe_op op_add (pe_ix ix_list (pv 1) (pe_un un_neg pe_int) (fun _ _ => rfl)) (pe_ix ix_list (pv 1) pe_int (fun _ _ => rfl))) pa_nil)) (pe_slice sl_list (pv 1) (po_some pe_int) (po_some (pe_un un_neg pe_int)))))
      (pss_cut (ps_if (pt_cmpR op_lt (pv 8) (pe_op op_sub (pv 2) pe_int) (nomark _)) (pss_one (ps_set (i := 4) nd rfl (Or.inl rfl) (pe_op op_cat (pe_op op_cat (pe_slice sl_list (pv 1) po_none (po_some (pv 8))) (pe_lst (pa_cons (pe_op op_add (pe_ix ix_list (pv 1) (pv 8) (fun _ _ => rfl)) (pe_ix ix_list (pv 1) (pe_op op_add (pv 8) pe_int) (fun _ _ => rfl))) pa_nil))) (pe_slice sl_list (pv 1) (po_some (pe_op op_add (pv 8) pe_int)) po_none)))) pss_nil)
      (pss_cons (ps_set (i := 5) nd rfl (Or.inl rfl) (pe_tup pa_nil))
      (pss_cut (ps_if (pt_cmpR op_gt (pe_callB (cr_max rfl) (by rfl) T.max (by decide +kernel) (pa_cons (pv 4) pa_nil)) pe_int (nomark _)) (pss_one (ps_set (i := 5) nd rfl (Or.inl rfl) (pe_tup (pa_cons pe_str (pa_cons pe_str pa_nil))))) (pss_one (ps_if (pt_cmpR op_eq (pv 2) pe_int (nomark _)) (pss_one (ps_set (i := 5) nd rfl (Or.inl rfl) (pe_tup (pa_cons pe_str (pa_cons pe_str pa_nil))))) pss_nil)))
      (pss_cut (ps_if (pt_cmpR (op_neD hr.units) (pv 5) (pe_tup pa_nil) (nomark _)) (pss_one (ps_if (pt_cmpR (op_neD hr.units) (pe_lamcall (T := T2 P1 P2) (TT := THeard hc) (a := "_law_ask") (g := fH) (c := cd) (P := P1) (k := 6) (Ng := nHeard) rfl GH FH.kp lk hcd BH scHeard rfl (Or.inl rfl) (heard_gives T Hc) TB rfl hmT hu hr (lamS_by (sc := defScope sLwChangedRight) (by decide +kernel)) rfl (fun _ _ _ _ _ => rfl)
            (fun A outer s H E f c' hr' => (pe_meth (pv 9) R.cl M5.m M5.ok hr' M5.b .nil (passes_call (takes_of rfl rfl rfl rfl) (fun _ _ _ _ h => h)) (pa_cons (pv 8) pa_nil)))) (pv 5) (nomark _)) (pss_one ps_never) pss_nil)) (pss_one (ps_if (pt_cmpR (op_neD hr.units) (pe_fld (pe_methK0 (pv 9) R.cl M5.m M5.ok (hr.mono (by decide)) K5 passL (pk_cons (pv 8) pk_nil)) rfl) (pe_callTy call_tuple_of (by rfl) T.tuple (by decide +kernel) (pa_cons (pv 4) pa_nil)) (nomark _)) (pss_one ps_never) pss_nil)))
      (pss_cons (ps_if (PW.pt (pw_or (pt_cmpR op_eq (pe_ix ix_list (pv 1) (pv 8) (fun _ _ => rfl)) pe_int (nomark _)) (pw_or1 (pt_cmpR op_eq (pv 2) pe_int (nomark _))))) (pss_cons (ps_set (i := 5) nd rfl (Or.inl rfl) (pe_ifExp (pt_cmpR op_eq (pe_ix ix_list (pv 1) (pv 8) (fun _ _ => rfl)) pe_int (nomark _)) (pe_tup (pa_cons pe_str (pa_cons pe_str pa_nil))) (pe_tup (pa_cons pe_str (pa_cons pe_str (pa_cons pe_int pa_nil))))))
      (pss_one (ps_ret (pe_cmpR (op_eqD hr.units) (pe_lamcall (T := T2 P1 P2) (TT := THeard hc) (a := "_law_ask") (g := fH) (c := cd) (P := P1) (k := 6) (Ng := nHeard) rfl GH FH.kp lk hcd BH scHeard rfl (Or.inl rfl) (heard_gives T Hc) TB rfl hmT hu hr (lamS_by (sc := defScope sLwChangedRight) (by decide +kernel)) rfl (fun _ _ _ _ _ => rfl)
            (fun A outer s H E f c' hr' => (pe_meth (pv 9) R.cl M6.m M6.ok hr' M6.b .nil (passes_call (takes_of rfl rfl rfl rfl) (fun _ _ _ _ h => h)) (pa_cons (pv 8) (pa_cons pe_int pa_nil))))) (pv 5) (nomark _))))) pss_nil)
      (pss_cons (ps_set (i := 6) nd rfl (Or.inl rfl) (pe_op op_add pe_int (pe_call D.ok (hr.mono (by decide)) rfl D.g D.kp D.b .nil pass0 (pa_cons (pv 0) (pa_cons (pe_callB (call_min2 rfl) (by rfl) Tm (by decide +kernel) (pa_cons (pe_op op_sub (pe_ix ix_list (pv 1) (pv 8) (fun _ _ => rfl)) pe_int) (pa_cons pe_int pa_nil))) pa_nil)))))
      (pss_cons (ps_set (i := 7) nd rfl (Or.inl rfl) (pe_methK0 (pv 9) R.cl M6.m M6.ok (hr.mono (by decide)) K6 passL (pk_cons (pv 6) (pk_cons (pv 8) pk_nil))))
      (pss_cons (ps_if (pt_cmpR (op_neD hr.units) (pe_fld (pv 7) rfl) (pe_callTy call_tuple_of (by rfl) T.tuple (by decide +kernel) (pa_cons (pe_op op_cat (pe_op op_cat (pe_slice sl_list (pv 1) po_none (po_some (pv 8))) (pe_lst (pa_cons (pv 6) (pa_cons (pe_op op_sub (pe_ix ix_list (pv 1) (pv 8) (fun _ _ => rfl)) (pv 6)) pa_nil)))) (pe_slice sl_list (pv 1) (po_some (pe_op op_add (pv 8) pe_int)) po_none)) pa_nil)) (nomark _)) (pss_one ps_never) pss_nil)
      (pss_one (ps_ret (pe_and (pe_cmpR (op_insEq EQ.ok EQ.hs EQ.hf EQ.b (hr.mono (by decide))) (pe_meth (pv 7) R.cl M5.m M5.ok (hr.mono (by decide)) M5.b .nil passL (pa_cons (pv 8) pa_nil)) (pv 9) (nomark _)) (pe_one (pe_cmpR op_eq (pe_fld (pv 7) rfl) (pe_fld (pv 9) rfl) (nomark _))))))))))))))))))), ?_⟩
    obtain ⟨p, l, ls, e, n, rfl, hn, pen, hlp, hl, l3, l8, bd, tab, q⟩ := h
    obtain ⟨hc1, hc2, hc3, hc4⟩ := hcs
    refine ⟨_, rfl, made2 (.inl hl) bd l3 l8 fun r H1 rg1 s1 nr => ⟨rfl, ?_⟩⟩
    have hl1 := s1 _ _ hl
    refine ⟨_, rfl, l, _, rfl, .inl (SqL.of hl1), (by show 2 ≤ sizeLine; decide), fun t0 n0 => ⟨t0, _, rfl, .inl (.inl upd_same), rfl, _, _, rfl, _, _, rfl, rfl, ?_⟩⟩
    rw [List.length_map]
    have s2 := s1.new (o := .tup [.ref r, .int (ls.length : Nat)]) n0
    have rg2 := rg1.same ((Same.refl H1).new (o := .tup [.ref r, .int (ls.length : Nat)]) n0)
    generalize upd H1 t0 (.tup [.ref r, .int (ls.length : Nat)]) = H2 at s2 rg2 ⊢
    have pen2 := pen.same s2
    obtain ⟨pl2, hpl2⟩ := pen2.some
    -- bar, length
    refine ⟨_, rfl, _, rfl, p, e, _, n, rfl, by omega, by omega, by omega, pen2, fun b H3 b0 b1 k3 pen3 => ?_⟩
    obtain ⟨b, rfl⟩ := Int.eq_ofNat_of_zero_le b0
    have hb : b < ls.length := by omega
    refine ⟨_, rfl, _, rfl, p, e, _, n + 1, rfl, by omega, by omega, by omega, pen3, fun x H4 x0 x1 k4 pen4 => ?_⟩
    refine ⟨_, _, rfl, rfl, (by show 3 ≤ sizeLine; decide), fun q0 hq0 => ?_⟩
    have hq0p : q0 ≠ p := pen4.ne hq0
    refine ⟨p, q0, e, _, n + 1 + 1, rfl, SqL.of upd_same, hq0p, (by show 1 ≤ 3; decide), (by show 3 ≤ 1000; decide), by omega, pen4.put hq0, fun i0 v0 H5 hv0 k5 pen5 => ?_⟩
    have hz : ∃ z : Int, v0 = .int z ∧ 1 ≤ z ∧ z ≤ 1000000 := by
      rcases i0 with _ | _ | _ | i0
      · cases hv0; exact ⟨_, rfl, by omega, by omega⟩
      · cases hv0; exact ⟨_, rfl, by omega, by omega⟩
      · cases hv0; exact ⟨_, rfl, by omega, by omega⟩
      · cases hv0
    clear hv0
    obtain ⟨z, rfl, z1, z2⟩ := hz
    refine ⟨(by show 2 ≤ sizeLine; decide), fun t1 n1 => ⟨t1, _, rfl, .inl (.inl upd_same), rfl, _, _, rfl, _, _, rfl, rfl, ?_⟩⟩
    have s56 : Same H5 (upd H5 t1 (.tup [.int (b : Nat), .int z])) := (Same.refl H5).new n1
    generalize upd H5 t1 (.tup [.int (b : Nat), .int z]) = H6 at s56 ⊢
    have k26 : But p H2 H6 := (((k3.trans k4).trans (But.of ((Same.refl H4).new hq0))).trans k5).trans (But.of s56)
    have k06 : But p H H6 := (But.of s2).trans k26
    have pen6 := pen5.same s56
    have rg6 : RingW K C H6 r ls := rg2.but k26 hpl2
    have hl6 : H6 l = some (.lst (ls.map V.int)) := k06 _ _ hlp hl
    obtain ⟨pl, hpl⟩ := pen.some
    have tab6 := tabs_but tab k06 hpl
    clear s1 s2 rg1 rg2 pen2 pen3 pen4 pen5 k3 k4 k5 k26 s56 hl1 hpl2 tab hq0 hq0p
    obtain ⟨dx, t, hr6, ht6⟩ := id rg6
    -- ring.with_length(length = length, bar = bar).lengths
    refine ⟨_, rfl, r, dx, _, rfl, hr6, no_m (by decide +kernel) (by decide +kernel) (by decide +kernel) (by decide +kernel), _, rfl, _, rfl, r, _, _, "int", "int", ls, rfl, rg6, l3, l8, bd, ⟨Knd.int, fun _ => ⟨_, rfl⟩⟩, ⟨Knd.int, fun _ => ⟨_, rfl⟩⟩, .inr (.inr ⟨b, z, rfl, rfl, hb, rfl, rfl, z1, z2, fun r1 H7 rg7 s7 nr1 => ?_⟩)⟩
    obtain ⟨dx1, u1, hr1, hu1⟩ := id rg7
    refine ⟨r1, C, dx1, _, _, rfl, hr1, R.cl, R.nL, rf_lengths _ _, _, rfl, _, rfl, _, rfl, l, _, rfl, SqL.of (s7 _ _ hl6), fun a1 na1 => ?_⟩
    rw [cutV_to, ← List.map_take]
    have ta1 : Same H7 (upd H7 a1 (.lst ((ls.take b).map V.int))) := (Same.refl _).new na1
    have fa1 : upd H7 a1 (.lst ((ls.take b).map V.int)) a1 = some (.lst ((ls.take b).map V.int)) := upd_same
    generalize upd H7 a1 (.lst ((ls.take b).map V.int)) = aH1 at ta1 fa1 ⊢
    refine ⟨_, rfl, (by show 1 ≤ sizeLine; decide), fun a2 na2 => ?_⟩
    have ta2 : Same aH1 (upd aH1 a2 (.lst [.int z])) := (Same.refl _).new na2
    have fa2 : upd aH1 a2 (.lst [.int z]) a2 = some (.lst [.int z]) := upd_same
    generalize upd aH1 a2 (.lst [.int z]) = aH2 at ta2 fa2 ⊢
    refine ⟨a1, a2, _, _, rfl, rfl, ta2 _ _ fa1, fa2, Nat.le_of_lt (sm (by rw [List.length_map, List.length_take]; show _ + 1 ≤ 10000; omega)), fun a3 na3 => ?_⟩
    have ta3 : Same aH2 (upd aH2 a3 (.lst ((ls.take b).map V.int ++ [.int z]))) := (Same.refl _).new na3
    have fa3 : upd aH2 a3 (.lst ((ls.take b).map V.int ++ [.int z])) a3 = some (.lst ((ls.take b).map V.int ++ [.int z])) := upd_same
    generalize upd aH2 a3 (.lst ((ls.take b).map V.int ++ [.int z])) = aH3 at ta3 fa3 ⊢
    refine ⟨_, rfl, _, rfl, _, _, rfl, rfl, _, rfl, l, _, rfl, SqL.of (ta3 _ _ (ta2 _ _ (ta1 _ _ (s7 _ _ hl6)))), fun a4 na4 => ?_⟩
    rw [cut_from (k := b + 1) _ (by omega), ← List.map_drop]
    have ta4 : Same aH3 (upd aH3 a4 (.lst ((ls.drop (b + 1)).map V.int))) := (Same.refl _).new na4
    have fa4 : upd aH3 a4 (.lst ((ls.drop (b + 1)).map V.int)) a4 = some (.lst ((ls.drop (b + 1)).map V.int)) := upd_same
    generalize upd aH3 a4 (.lst ((ls.drop (b + 1)).map V.int)) = aH4 at ta4 fa4 ⊢
    refine ⟨a3, a4, _, _, rfl, rfl, ta4 _ _ fa3, fa4, Nat.le_of_lt (sm (by rw [List.length_append, List.length_map, List.length_take, List.length_map, List.length_drop]; show _ + 1 + _ ≤ 10000; omega)), fun a5 na5 => ?_⟩
    rw [show ((ls.take b).map V.int ++ [.int z] ++ (ls.drop (b + 1)).map V.int) = (ls.take b ++ [z] ++ ls.drop (b + 1)).map V.int from ?aE]
    case aE => simp only [List.map_append, List.map_cons, List.map_nil]
    have ta5 : Same aH4 (upd aH4 a5 (.lst ((ls.take b ++ [z] ++ ls.drop (b + 1)).map V.int))) := (Same.refl _).new na5
    have fa5 : upd aH4 a5 (.lst ((ls.take b ++ [z] ++ ls.drop (b + 1)).map V.int)) a5 = some (.lst ((ls.take b ++ [z] ++ ls.drop (b + 1)).map V.int)) := upd_same
    generalize upd aH4 a5 (.lst ((ls.take b ++ [z] ++ ls.drop (b + 1)).map V.int)) = aH5 at ta5 fa5 ⊢
    have aS : Same H7 aH5 := (((ta1.trans ta2).trans ta3).trans ta4).trans ta5
    refine ⟨a5, _, rfl, .inl ⟨SqL.of fa5, fun v1 nv1 => ?_⟩⟩
    have s8 := aS.new (o := .tup ((ls.take b ++ [z] ++ ls.drop (b + 1)).map V.int)) nv1
    refine ⟨_, _, .tup (.inl (.inl (s8 _ _ hu1))) (dp_ints _), .tup (.inl (.inl upd_same)) (dp_ints _), sh_tup _, sh_tup _, _, rfl, iteBF (eqB _) ?_⟩
    generalize upd aH5 v1 (.tup ((ls.take b ++ [z] ++ ls.drop (b + 1)).map V.int)) = H8 at s8 ⊢
    have s68 := s7.trans s8
    clear ta1 ta2 ta3 ta4 ta5 fa1 fa2 fa3 fa4 fa5 aS na1 na2 na3 na4 na5 nv1 rg7 hr1 hu1
    -- ring.with_length(bar, lengths[bar]) != ring
    have bb := bd.get hb
    refine ⟨_, rfl, r, dx, _, rfl, s68 _ _ hr6, no_m (by decide +kernel) (by decide +kernel) (by decide +kernel) (by decide +kernel), _, rfl, _, rfl, _, rfl, l, _, _, _, rfl, rfl, SqL.of (s68 _ _ hl6), getL rfl hb, r, _, _, "int", "int", ls, rfl, rg6.same s68, l3, l8, bd, ⟨Knd.int, fun _ => ⟨_, rfl⟩⟩, ⟨Knd.int, fun _ => ⟨_, rfl⟩⟩, .inr (.inr ⟨b, ls.getD b 0, rfl, rfl, hb, rfl, rfl, bb.1, bb.2, fun r2 H9 rg9 s9 nr2 => ?_⟩)⟩
    rw [set_self hb] at rg9
    obtain ⟨dx2, u2, hr2, hu2⟩ := id rg9
    have s69 := s68.trans s9
    refine ⟨_, rfl, r2, r, dx2, dx, _, _, rfl, rfl, hr2, s69 _ _ hr6, r2, r, ls, ls, rfl, rg9, rg6.same s69, _, rfl, _, rfl, iteBF (by rw [decide_eq_true rfl]; rfl) ?_⟩
    -- ring.lengths != tuple(lengths)
    refine ⟨_, rfl, r, C, dx, _, _, rfl, s69 _ _ hr6, R.cl, R.nL, rf_lengths _ _, _, rfl, l, _, rfl, .inl ⟨SqL.of (s69 _ _ hl6), fun v2 nv2 => ?_⟩⟩
    have s10 := s69.new (o := .tup (ls.map V.int)) nv2
    refine ⟨_, _, .tup (.inl (.inl (s10 _ _ ht6))) (dp_ints _), .tup (.inl (.inl upd_same)) (dp_ints _), sh_tup _, sh_tup _, _, rfl, iteBF (eqB _) ?_⟩
    generalize upd H9 v2 (.tup (ls.map V.int)) = H10 at s10 ⊢
    clear s68 s69 s7 s8 s9 rg9 hr2 hu2 nv2
    have r10 := rg6.same s10
    have hl10 := s10 _ _ hl6
    -- one = [lengths[-1] + lengths[0]] + lengths[1:-1]
    have gl : atI (ls.map V.int) (-1) = some (.int (ls.getD (ls.length - 1) 0)) := at_back (by rw [List.length_map]; omega) (by rw [List.length_map, int_get (show ls.length - 1 < ls.length by omega), getD_at (show ls.length - 1 < ls.length by omega)])
    refine ⟨_, rfl, _, rfl, l, _, _, _, rfl, rfl, SqL.of hl10, gl, _, rfl, l, _, _, _, rfl, rfl, SqL.of hl10, getL (i := 0) rfl (by omega), _, _, rfl, rfl, (by show 1 ≤ sizeLine; decide), fun o1 no1 => ?_⟩
    have to1 : Same H10 (upd H10 o1 (.lst [.int (ls.getD (ls.length - 1) 0 + ls.getD 0 0)])) := (Same.refl _).new no1
    have fo1 : upd H10 o1 (.lst [.int (ls.getD (ls.length - 1) 0 + ls.getD 0 0)]) o1 = some (.lst [.int (ls.getD (ls.length - 1) 0 + ls.getD 0 0)]) := upd_same
    generalize upd H10 o1 (.lst [.int (ls.getD (ls.length - 1) 0 + ls.getD 0 0)]) = H11 at to1 fo1 ⊢
    refine ⟨_, rfl, _, rfl, _, rfl, _, rfl, l, _, rfl, SqL.of (to1 _ _ hl10), fun o2 no2 => ?_⟩
    rw [cut_in _ (by rw [List.length_map]; omega), List.length_map, ← List.map_drop, ← List.map_take]
    have to2 : Same H11 (upd H11 o2 (.lst (((ls.drop 1).take (ls.length - 1 - 1)).map V.int))) := (Same.refl _).new no2
    have fo2 : upd H11 o2 (.lst (((ls.drop 1).take (ls.length - 1 - 1)).map V.int)) o2 = some (.lst (((ls.drop 1).take (ls.length - 1 - 1)).map V.int)) := upd_same
    generalize upd H11 o2 (.lst (((ls.drop 1).take (ls.length - 1 - 1)).map V.int)) = H12 at to2 fo2 ⊢
    refine ⟨o1, o2, _, _, rfl, rfl, to2 _ _ fo1, fo2, Nat.le_of_lt (sm (by rw [List.length_map, List.length_take, List.length_drop]; show 1 + _ ≤ 10000; omega)), fun o3 no3 => ?_⟩
    rw [show ([.int (ls.getD (ls.length - 1) 0 + ls.getD 0 0)] ++ ((ls.drop 1).take (ls.length - 1 - 1)).map V.int) = ([ls.getD (ls.length - 1) 0 + ls.getD 0 0] ++ (ls.drop 1).take (ls.length - 1 - 1)).map V.int from by rw [List.map_append]; rfl]
    have to3 : Same H12 (upd H12 o3 (.lst (([ls.getD (ls.length - 1) 0 + ls.getD 0 0] ++ (ls.drop 1).take (ls.length - 1 - 1)).map V.int))) := (Same.refl _).new no3
    have fo3 : upd H12 o3 (.lst (([ls.getD (ls.length - 1) 0 + ls.getD 0 0] ++ (ls.drop 1).take (ls.length - 1 - 1)).map V.int)) o3 = some (.lst (([ls.getD (ls.length - 1) 0 + ls.getD 0 0] ++ (ls.drop 1).take (ls.length - 1 - 1)).map V.int)) := upd_same
    generalize upd H12 o3 (.lst (([ls.getD (ls.length - 1) 0 + ls.getD 0 0] ++ (ls.drop 1).take (ls.length - 1 - 1)).map V.int)) = H13 at to3 fo3 ⊢
    have s13 := ((s10.trans to1).trans to2).trans to3
    have one_len := oneL_len hb (by omega)
    have one1 := one_pos bd hb
    refine ⟨fun σ H' => ∃ o, σ = [some (.ref p), some (.ref l), some (.int (ls.length : Nat)), some (.int z), some (.ref o), none, none, none, some (.int (b : Nat)), some (.ref r)] ∧ Same H6 H' ∧ H' o = some (.lst ((oneL ls b).map V.int)), ?_, ?_⟩
    · refine ⟨_, rfl, _, rfl, _, _, rfl, rfl, _, _, rfl, rfl, _, rfl, ?_⟩
      refine ite2 (fun c => ?_) (fun c => ?_)
      · have c' : (b : Int) < (ls.length : Int) - 1 := of_decide_eq_true c
        have hl13 := s13 _ _ hl6
        have e1 : oneL ls b = ls.take b ++ [ls.getD b 0 + ls.getD (b + 1) 0] ++ ls.drop (b + 2) := if_neg (by omega)
        refine ⟨_, rfl, _, rfl, _, rfl, l, _, rfl, SqL.of hl13, fun w1 nw1 => ?_⟩
        rw [cutV_to, ← List.map_take]
        have tw1 : Same H13 (upd H13 w1 (.lst ((ls.take b).map V.int))) := (Same.refl _).new nw1
        have fw1 : upd H13 w1 (.lst ((ls.take b).map V.int)) w1 = some (.lst ((ls.take b).map V.int)) := upd_same
        generalize upd H13 w1 (.lst ((ls.take b).map V.int)) = W1 at tw1 fw1 ⊢
        refine ⟨_, rfl, _, rfl, l, _, _, _, rfl, rfl, SqL.of (tw1 _ _ hl13), getL rfl hb, _, rfl, _, rfl, _, _, rfl, rfl, l, _, _, _, rfl, rfl, SqL.of (tw1 _ _ hl13), getL (i := b + 1) (by omega) (by omega), _, _, rfl, rfl, (by show 1 ≤ sizeLine; decide), fun w2 nw2 => ?_⟩
        have tw2 : Same W1 (upd W1 w2 (.lst [.int (ls.getD b 0 + ls.getD (b + 1) 0)])) := (Same.refl _).new nw2
        have fw2 : upd W1 w2 (.lst [.int (ls.getD b 0 + ls.getD (b + 1) 0)]) w2 = some (.lst [.int (ls.getD b 0 + ls.getD (b + 1) 0)]) := upd_same
        generalize upd W1 w2 (.lst [.int (ls.getD b 0 + ls.getD (b + 1) 0)]) = W2 at tw2 fw2 ⊢
        refine ⟨w1, w2, _, _, rfl, rfl, tw2 _ _ fw1, fw2, Nat.le_of_lt (sm (by rw [List.length_map, List.length_take]; show _ + 1 ≤ 10000; omega)), fun w3 nw3 => ?_⟩
        have tw3 : Same W2 (upd W2 w3 (.lst ((ls.take b).map V.int ++ [.int (ls.getD b 0 + ls.getD (b + 1) 0)]))) := (Same.refl _).new nw3
        have fw3 : upd W2 w3 (.lst ((ls.take b).map V.int ++ [.int (ls.getD b 0 + ls.getD (b + 1) 0)])) w3 = some (.lst ((ls.take b).map V.int ++ [.int (ls.getD b 0 + ls.getD (b + 1) 0)])) := upd_same
        generalize upd W2 w3 (.lst ((ls.take b).map V.int ++ [.int (ls.getD b 0 + ls.getD (b + 1) 0)])) = W3 at tw3 fw3 ⊢
        refine ⟨_, rfl, _, rfl, _, _, rfl, rfl, _, rfl, l, _, rfl, SqL.of (tw3 _ _ (tw2 _ _ (tw1 _ _ hl13))), fun w4 nw4 => ?_⟩
        rw [cut_from (k := b + 2) _ (by omega), ← List.map_drop]
        have tw4 : Same W3 (upd W3 w4 (.lst ((ls.drop (b + 2)).map V.int))) := (Same.refl _).new nw4
        have fw4 : upd W3 w4 (.lst ((ls.drop (b + 2)).map V.int)) w4 = some (.lst ((ls.drop (b + 2)).map V.int)) := upd_same
        generalize upd W3 w4 (.lst ((ls.drop (b + 2)).map V.int)) = W4 at tw4 fw4 ⊢
        refine ⟨w3, w4, _, _, rfl, rfl, tw4 _ _ fw3, fw4, Nat.le_of_lt (sm (by rw [List.length_append, List.length_map, List.length_take, List.length_map, List.length_drop]; show _ + 1 + _ ≤ 10000; omega)), fun w5 nw5 => ?_⟩
        refine ⟨w5, rfl, ((((s13.trans tw1).trans tw2).trans tw3).trans tw4).new nw5, ?_⟩
        rw [upd_same, e1]
        simp only [List.map_append, List.map_cons, List.map_nil]
      · have c' : ¬ (b : Int) < (ls.length : Int) - 1 := fun z => c (decide_eq_true z)
        have e1 : oneL ls b = [ls.getD b 0 + ls.getD 0 0] ++ (ls.drop 1).take (b - 1) := if_pos (by omega)
        refine ⟨o3, rfl, s13, ?_⟩
        rw [fo3, e1, show ls.length - 1 = b by omega]
    clear to1 to2 to3 fo1 fo2 fo3 no1 no2 no3 s13 hl10 r10 s10 gl
    rintro σ H7 ⟨o, rfl, s7, ho7⟩
    -- due = ()
    refine ⟨(by show 0 ≤ sizeLine; decide), fun u0 nu0 => ?_⟩
    have tu0 : Same H7 (upd H7 u0 (.tup [])) := (Same.refl _).new nu0
    have fu0 : upd H7 u0 (.tup []) u0 = some (.tup []) := upd_same
    generalize upd H7 u0 (.tup []) = H8 at tu0 fu0 ⊢
    refine ⟨fun σ H' => ∃ (u : Addr) (its : List V), σ = [some (.ref p), some (.ref l), some (.int (ls.length : Nat)), some (.int z), some (.ref o), some (.ref u), none, none, some (.int (b : Nat)), some (.ref r)] ∧ Same H8 H' ∧ H' u = some (.tup its) ∧
      (((¬ Bd 1000000 (oneL ls b)) ∧ its = [.str "ring", .str "lengths"]) ∨ (Bd 1000000 (oneL ls b) ∧ ls.length = 3 ∧ its = [.str "ring", .str "bars"]) ∨ (Bd 1000000 (oneL ls b) ∧ ls.length ≠ 3 ∧ its = [])), ?_, ?_⟩
    · refine ⟨_, rfl, o, _, rfl, SqL.of (tu0 _ _ ho7), by omega, fun mx hm hx => ⟨_, _, rfl, rfl, _, rfl, ?_⟩⟩
      refine ite2 (fun c => ?_) (fun c => ?_)
      · have c' : mx > 1000000 := of_decide_eq_true c
        refine ⟨(by show 2 ≤ sizeLine; decide), fun u1 nu1 => ⟨u1, _, rfl, (Same.refl _).new nu1, upd_same, .inl ⟨fun z => ?_, rfl⟩⟩⟩
        have := (z mx hm).2
        omega
      · have c' : ¬ mx > 1000000 := fun z => c (decide_eq_true z)
        have bo : Bd 1000000 (oneL ls b) := fun y hy => ⟨one1 y hy, by have := hx y hy; omega⟩
        refine ⟨_, rfl, rfl, _, rfl, ?_⟩
        rw [dec_int]
        refine ite2 (fun c => ?_) (fun c => ?_)
        · have c2 : (ls.length : Int) = 3 := of_decide_eq_true c
          exact ⟨(by show 2 ≤ sizeLine; decide), fun u1 nu1 => ⟨u1, _, rfl, (Same.refl _).new nu1, upd_same, .inr (.inl ⟨bo, by omega, rfl⟩)⟩⟩
        · have c2 : ¬ (ls.length : Int) = 3 := fun z => c (decide_eq_true z)
          exact ⟨u0, [], rfl, Same.refl _, fu0, .inr (.inr ⟨bo, by omega, rfl⟩)⟩
    rintro σ H9 ⟨u, its, rfl, s89, hu9, cases3⟩
    have s69 : Same H6 H9 := (s7.trans tu0).trans s89
    have ho9 := s89 _ _ (tu0 _ _ ho7)
    have hr9 := s69 _ _ hr6
    have rg9 := rg6.same s69
    have tab9 := tab6.ext s69
    -- if due != ()
    refine ⟨fun σ H' => σ = [some (.ref p), some (.ref l), some (.int (ls.length : Nat)), some (.int z), some (.ref o), some (.ref u), none, none, some (.int (b : Nat)), some (.ref r)] ∧ ExtN H9 H' ∧ Tabs (T2 P1 P2) H', ?_, ?_⟩
    · refine ⟨_, rfl, (by show 0 ≤ sizeLine; decide), fun u2 nu2 => ?_⟩
      have tu2 : Same H9 (upd H9 u2 (.tup [])) := (Same.refl _).new nu2
      have fu2 : upd H9 u2 (.tup []) u2 = some (.tup []) := upd_same
      generalize upd H9 u2 (.tup []) = H10 at tu2 fu2 ⊢
      have x10 : ExtN H9 H10 := ExtN.of tu2
      have dnil : Dp K H10 (.ref u2) (.tuple []) := .tup (.inl (.inl fu2)) .nil
      have heardB : ∀ (lab : List Char), True := fun _ => True.intro
      rcases cases3 with ⟨nb, rfl⟩ | ⟨bo, e3, rfl⟩ | ⟨bo, n3, rfl⟩
      · refine ⟨_, _, .tup (.inl (.inl (tu2 _ _ hu9))) (.cons (.str _) (.cons (.str _) .nil)), dnil, by decide +kernel, by decide +kernel, _, rfl, iteBT (by decide +kernel) ?_⟩
        refine hear (C := hc.r) (fs := [("part", .str "lengths")]) (its := [.str "ring", .str "lengths"]) (.r _) (tab9.ext tu2) (fun E' J Q' xJ er => ?_) fun M pM xM tM hpM => ?_
        · have xJ' := x10.trans xJ
          refine ⟨_, rfl, r, dx, _, rfl, xJ' _ _ hr9 (fun _ z => nomatch z), no_m (by decide +kernel) (by decide +kernel) (by decide +kernel) (by decide +kernel), _, rfl, r, _, "int", ls, rfl, rg9.ext xJ', l3, l8, ⟨Knd.int, fun _ => ⟨_, rfl⟩⟩, .inr ⟨b, rfl, rfl, hb, .inl ⟨nb, ?_⟩⟩⟩
          rw [← hc1]
          exact er
        · refine ⟨_, rfl, _, _, .tup (.inl (.inl hpM)) (.cons (.str _) (.cons (.str _) .nil)), .tup (.inl (.inl (xM _ _ (tu2 _ _ hu9) (fun _ z => nomatch z)))) (.cons (.str _) (.cons (.str _) .nil)), by decide +kernel, by decide +kernel, _, rfl, iteBF (by decide +kernel) ?_⟩
          exact ⟨rfl, x10.trans xM, tM⟩
      · refine ⟨_, _, .tup (.inl (.inl (tu2 _ _ hu9))) (.cons (.str _) (.cons (.str _) .nil)), dnil, by decide +kernel, by decide +kernel, _, rfl, iteBT (by decide +kernel) ?_⟩
        refine hear (C := hc.r) (fs := [("part", .str "bars")]) (its := [.str "ring", .str "bars"]) (.r _) (tab9.ext tu2) (fun E' J Q' xJ er => ?_) fun M pM xM tM hpM => ?_
        · have xJ' := x10.trans xJ
          refine ⟨_, rfl, r, dx, _, rfl, xJ' _ _ hr9 (fun _ z => nomatch z), no_m (by decide +kernel) (by decide +kernel) (by decide +kernel) (by decide +kernel), _, rfl, r, _, "int", ls, rfl, rg9.ext xJ', l3, l8, ⟨Knd.int, fun _ => ⟨_, rfl⟩⟩, .inr ⟨b, rfl, rfl, hb, .inr (.inl ⟨bo, by omega, ?_⟩)⟩⟩
          rw [← hc1]
          exact er
        · refine ⟨_, rfl, _, _, .tup (.inl (.inl hpM)) (.cons (.str _) (.cons (.str _) .nil)), .tup (.inl (.inl (xM _ _ (tu2 _ _ hu9) (fun _ z => nomatch z)))) (.cons (.str _) (.cons (.str _) .nil)), by decide +kernel, by decide +kernel, _, rfl, iteBF (by decide +kernel) ?_⟩
          exact ⟨rfl, x10.trans xM, tM⟩
      · refine ⟨_, _, .tup (.inl (.inl (tu2 _ _ hu9))) .nil, dnil, by decide +kernel, by decide +kernel, _, rfl, iteBF (by decide +kernel) ?_⟩
        refine ⟨_, rfl, r, dx, _, rfl, tu2 _ _ hr9, no_m (by decide +kernel) (by decide +kernel) (by decide +kernel) (by decide +kernel), _, rfl, r, _, "int", ls, rfl, rg9.same tu2, l3, l8, ⟨Knd.int, fun _ => ⟨_, rfl⟩⟩, .inr ⟨b, rfl, rfl, hb, RingRes.fine bo (by omega) (by omega) fun r1 H11 rg11 s11 nr1 => ?_⟩⟩
        obtain ⟨dx1, u1, hr1, hu1⟩ := id rg11
        refine ⟨r1, C, dx1, _, _, rfl, hr1, R.cl, R.nL, rf_lengths _ _, _, rfl, o, _, rfl, .inl ⟨SqL.of (s11 _ _ (tu2 _ _ ho9)), fun v1 nv1 => ?_⟩⟩
        have s12 := s11.new (o := .tup ((oneL ls b).map V.int)) nv1
        refine ⟨_, _, .tup (.inl (.inl (((Same.refl H11).new nv1) _ _ hu1))) (dp_ints _), .tup (.inl (.inl upd_same)) (dp_ints _), sh_tup _, sh_tup _, _, rfl, iteBF (eqB _) ?_⟩
        exact ⟨rfl, x10.trans (ExtN.of s12), (tab9.ext tu2).ext s12⟩
    rintro σ H10 ⟨rfl, x10, tab10⟩
    have x6 : ExtN H6 H10 := (ExtN.of s69).trans x10
    have hl10 := x6 _ _ hl6 (fun _ z => nomatch z)
    have hr10 := x6 _ _ hr6 (fun _ z => nomatch z)
    have rg10 := rg6.ext x6
    have pen10 := pen6.ext x6
    -- lengths[bar] == 1 or many == 8
    have fin : ∀ H', ExtN H10 H' → Tabs (T2 P1 P2) H' → Q (.bl true) H' := fun H' x tb => q H' ((Kp.of_but k06).ext (x6.trans x)) ((pen6.ext (x6.trans x)).mono (by omega)) tb
    refine ⟨_, rfl, _, rfl, l, _, _, _, rfl, rfl, SqL.of hl10, getL rfl hb, rfl, _, rfl, ?_⟩
    rw [dec_int]
    refine ite2 (fun c => ?_) (fun c => ?_)
    · have c1 : ls.getD b 0 = 1 := of_decide_eq_true c
      refine ⟨_, rfl, _, rfl, l, _, _, _, rfl, rfl, SqL.of hl10, getL rfl hb, rfl, _, rfl, iteDT (by rw [c1]) ⟨(by show 2 ≤ sizeLine; decide), fun w nw => ?_⟩⟩
      have tw : Same H10 (upd H10 w (.tup [.str "number", .str "length"])) := (Same.refl _).new nw
      have fw : upd H10 w (.tup [.str "number", .str "length"]) w = some (.tup [.str "number", .str "length"]) := upd_same
      generalize upd H10 w (.tup [.str "number", .str "length"]) = H11 at tw fw ⊢
      refine hear (C := hc.b) (fs := [("part", .str "length")]) (its := [.str "number", .str "length"]) (.b _) (tab10.ext tw) (fun E' J Q' xJ er => ?_) fun M pM xM tM hpM => ?_
      · have xJ' := (ExtN.of tw).trans xJ
        refine ⟨_, rfl, r, dx, _, rfl, xJ' _ _ hr10 (fun _ z => nomatch z), no_m (by decide +kernel) (by decide +kernel) (by decide +kernel) (by decide +kernel), _, rfl, r, _, _, "int", "int", ls, rfl, rg10.ext xJ', l3, l8, ⟨Knd.int, fun _ => ⟨_, rfl⟩⟩, ⟨Knd.int, fun _ => ⟨_, rfl⟩⟩, .inr ⟨b, rfl, rfl, hb, .inl ⟨by rw [c1]; rfl, ?_⟩⟩⟩
        rw [← hc4]
        exact er
      · refine ⟨_, rfl, _, _, .tup (.inl (.inl hpM)) (.cons (.str _) (.cons (.str _) .nil)), .tup (.inl (.inl (xM _ _ fw (fun _ z => nomatch z)))) (.cons (.str _) (.cons (.str _) .nil)), by decide +kernel, by decide +kernel, ?_⟩
        rw [show PyData.eqv (.tuple [.str "number", .str "length"]) (.tuple [.str "number", .str "length"]) = true by decide +kernel]
        exact fin _ ((ExtN.of tw).trans xM) tM
    have c1 : ¬ ls.getD b 0 = 1 := fun z => c (decide_eq_true z)
    refine ⟨_, rfl, rfl, _, rfl, ?_⟩
    rw [dec_int]
    refine ite2 (fun c => ?_) (fun c => ?_)
    · have c8 : (ls.length : Int) = 8 := of_decide_eq_true c
      refine ⟨_, rfl, _, rfl, l, _, _, _, rfl, rfl, SqL.of hl10, getL rfl hb, rfl, _, rfl, iteDF (fun z => c1 (V.int.inj z)) ⟨(by show 3 ≤ sizeLine; decide), fun w nw => ?_⟩⟩
      have tw : Same H10 (upd H10 w (.tup [.str "many", .str "bars", .int 8])) := (Same.refl _).new nw
      have fw : upd H10 w (.tup [.str "many", .str "bars", .int 8]) w = some (.tup [.str "many", .str "bars", .int 8]) := upd_same
      generalize upd H10 w (.tup [.str "many", .str "bars", .int 8]) = H11 at tw fw ⊢
      refine hear (C := hc.m) (fs := [("most", .int 8), ("what", .str "bars")]) (its := [.str "many", .str "bars", .int 8]) (.m _ _) (tab10.ext tw) (fun E' J Q' xJ er => ?_) fun M pM xM tM hpM => ?_
      · have xJ' := (ExtN.of tw).trans xJ
        have tl := twoL_len (z := 1) hb
        refine ⟨_, rfl, r, dx, _, rfl, xJ' _ _ hr10 (fun _ z => nomatch z), no_m (by decide +kernel) (by decide +kernel) (by decide +kernel) (by decide +kernel), _, rfl, r, _, _, "int", "int", ls, rfl, rg10.ext xJ', l3, l8, ⟨Knd.int, fun _ => ⟨_, rfl⟩⟩, ⟨Knd.int, fun _ => ⟨_, rfl⟩⟩, .inr ⟨b, rfl, rfl, hb, .inr ⟨1, rfl, rfl, by omega, by omega, .inr (.inr (.inl ⟨bd.two hb (by omega) (by omega), by omega, ?_⟩))⟩⟩⟩
        rw [← hc2]
        exact er
      · refine ⟨_, rfl, _, _, .tup (.inl (.inl hpM)) (.cons (.str _) (.cons (.str _) (.cons (.int _) .nil))), .tup (.inl (.inl (xM _ _ fw (fun _ z => nomatch z)))) (.cons (.str _) (.cons (.str _) (.cons (.int _) .nil))), by decide +kernel, by decide +kernel, ?_⟩
        rw [show PyData.eqv (.tuple [.str "many", .str "bars", .int 8]) (.tuple [.str "many", .str "bars", .int 8]) = true by decide +kernel]
        exact fin _ ((ExtN.of tw).trans xM) tM
    have c8 : ¬ (ls.length : Int) = 8 := fun z => c (decide_eq_true z)
    -- first, two
    have bb2 : 2 ≤ ls.getD b 0 := by have := (bd.get hb).1; omega
    obtain ⟨pl10, hpl10⟩ := pen10.some
    refine ⟨_, rfl, _, rfl, _, rfl, l, _, _, _, rfl, rfl, SqL.of hl10, getL rfl hb, _, _, rfl, rfl, _, _, rfl, p, e, _, n + 1 + 1 + 1, rfl, by split <;> omega, by split <;> omega, by omega, pen10, fun f0 H11 f1 f2 k11 pen11 => ⟨_, _, rfl, rfl, ?_⟩⟩
    have f3 : 1 + f0 ≤ ls.getD b 0 - 1 := by
      split at f2 <;> omega
    have f4 : 1 ≤ 1 + f0 := by omega
    have rg11 := rg10.but k11 hpl10
    have hr11 := k11 _ _ (fun w => by rw [w, hpl10] at hr10; cases hr10) hr10
    have hl11 := k11 _ _ hlp hl10
    have tab11 := tabs_but tab10 k11 hpl10
    have tl := twoL_len (z := (1 + f0)) hb
    have bt := bd.two hb f4 f3
    refine ⟨_, rfl, r, dx, _, rfl, hr11, no_m (by decide +kernel) (by decide +kernel) (by decide +kernel) (by decide +kernel), _, rfl, _, rfl, r, _, _, "int", "int", ls, rfl, rg11, l3, l8, ⟨Knd.int, fun _ => ⟨_, rfl⟩⟩, ⟨Knd.int, fun _ => ⟨_, rfl⟩⟩, .inr ⟨b, rfl, rfl, hb, .inr ⟨(1 + f0), rfl, rfl, f4, f3, RingRes.fine bt (by omega) (by omega) fun r2 H12 rg12 s12 nr2 => ?_⟩⟩⟩
    obtain ⟨dx2, u2, hr2, hu2⟩ := id rg12
    refine ⟨_, rfl, r2, C, dx2, _, _, rfl, hr2, R.cl, R.nL, rf_lengths _ _, _, rfl, _, rfl, _, rfl, l, _, rfl, SqL.of (s12 _ _ hl11), fun b1 nb1 => ?_⟩
    rw [cutV_to, ← List.map_take]
    have tb1 : Same H12 (upd H12 b1 (.lst ((ls.take b).map V.int))) := (Same.refl _).new nb1
    have fb1 : upd H12 b1 (.lst ((ls.take b).map V.int)) b1 = some (.lst ((ls.take b).map V.int)) := upd_same
    generalize upd H12 b1 (.lst ((ls.take b).map V.int)) = bH1 at tb1 fb1 ⊢
    refine ⟨_, rfl, _, rfl, _, rfl, l, _, _, _, rfl, rfl, SqL.of (tb1 _ _ (s12 _ _ hl11)), getL rfl hb, _, rfl, _, _, rfl, rfl, (by show 2 ≤ sizeLine; decide), fun b2 nb2 => ?_⟩
    have tb2 : Same bH1 (upd bH1 b2 (.lst [.int (1 + f0), .int (ls.getD b 0 - (1 + f0))])) := (Same.refl _).new nb2
    have fb2 : upd bH1 b2 (.lst [.int (1 + f0), .int (ls.getD b 0 - (1 + f0))]) b2 = some (.lst [.int (1 + f0), .int (ls.getD b 0 - (1 + f0))]) := upd_same
    generalize upd bH1 b2 (.lst [.int (1 + f0), .int (ls.getD b 0 - (1 + f0))]) = bH2 at tb2 fb2 ⊢
    refine ⟨b1, b2, _, _, rfl, rfl, tb2 _ _ fb1, fb2, Nat.le_of_lt (sm (by rw [List.length_map, List.length_take]; show _ + 2 ≤ 10000; omega)), fun b3 nb3 => ?_⟩
    have tb3 : Same bH2 (upd bH2 b3 (.lst ((ls.take b).map V.int ++ [.int (1 + f0), .int (ls.getD b 0 - (1 + f0))]))) := (Same.refl _).new nb3
    have fb3 : upd bH2 b3 (.lst ((ls.take b).map V.int ++ [.int (1 + f0), .int (ls.getD b 0 - (1 + f0))])) b3 = some (.lst ((ls.take b).map V.int ++ [.int (1 + f0), .int (ls.getD b 0 - (1 + f0))])) := upd_same
    generalize upd bH2 b3 (.lst ((ls.take b).map V.int ++ [.int (1 + f0), .int (ls.getD b 0 - (1 + f0))])) = bH3 at tb3 fb3 ⊢
    refine ⟨_, rfl, _, rfl, _, _, rfl, rfl, _, rfl, l, _, rfl, SqL.of (tb3 _ _ (tb2 _ _ (tb1 _ _ (s12 _ _ hl11)))), fun b4 nb4 => ?_⟩
    rw [cut_from (k := b + 1) _ (by omega), ← List.map_drop]
    have tb4 : Same bH3 (upd bH3 b4 (.lst ((ls.drop (b + 1)).map V.int))) := (Same.refl _).new nb4
    have fb4 : upd bH3 b4 (.lst ((ls.drop (b + 1)).map V.int)) b4 = some (.lst ((ls.drop (b + 1)).map V.int)) := upd_same
    generalize upd bH3 b4 (.lst ((ls.drop (b + 1)).map V.int)) = bH4 at tb4 fb4 ⊢
    refine ⟨b3, b4, _, _, rfl, rfl, tb4 _ _ fb3, fb4, Nat.le_of_lt (sm (by rw [List.length_append, List.length_map, List.length_take, List.length_map, List.length_drop]; show _ + 2 + _ ≤ 10000; omega)), fun b5 nb5 => ?_⟩
    rw [show ((ls.take b).map V.int ++ [.int (1 + f0), .int (ls.getD b 0 - (1 + f0))] ++ (ls.drop (b + 1)).map V.int) = (twoL ls b (1 + f0)).map V.int from ?bE]
    case bE => simp only [List.map_append, List.map_cons, List.map_nil, twoL]
    have tb5 : Same bH4 (upd bH4 b5 (.lst ((twoL ls b (1 + f0)).map V.int))) := (Same.refl _).new nb5
    have fb5 : upd bH4 b5 (.lst ((twoL ls b (1 + f0)).map V.int)) b5 = some (.lst ((twoL ls b (1 + f0)).map V.int)) := upd_same
    generalize upd bH4 b5 (.lst ((twoL ls b (1 + f0)).map V.int)) = bH5 at tb5 fb5 ⊢
    have bS : Same H12 bH5 := (((tb1.trans tb2).trans tb3).trans tb4).trans tb5
    refine ⟨b5, _, rfl, .inl ⟨SqL.of fb5, fun v1 nv1 => ?_⟩⟩
    have s13 := bS.new (o := .tup ((twoL ls b (1 + f0)).map V.int)) nv1
    refine ⟨_, _, .tup (.inl (.inl (s13 _ _ hu2))) (dp_ints _), .tup (.inl (.inl upd_same)) (dp_ints _), sh_tup _, sh_tup _, _, rfl, iteBF (eqB _) ?_⟩
    generalize upd bH5 v1 (.tup ((twoL ls b (1 + f0)).map V.int)) = H13 at s13 ⊢
    have sA := s12.trans s13
    -- two.as_one(bar) == ring and two.total == ring.total
    refine ⟨_, rfl, r2, dx2, _, rfl, s13 _ _ hr2, no_m (by decide +kernel) (by decide +kernel) (by decide +kernel) (by decide +kernel), _, rfl, r2, _, "int", twoL ls b (1 + f0), rfl, rg12.same s13, by omega, by omega, ⟨Knd.int, fun _ => ⟨_, rfl⟩⟩, .inr ⟨b, rfl, rfl, by omega, ?_⟩⟩
    rw [one_two hb]
    refine RingRes.fine bd l3 l8 fun r3 H14 rg14 s14 nr3 => ?_
    obtain ⟨dx3, u3, hr3, hu3⟩ := id rg14
    have sB := sA.trans s14
    refine ⟨_, rfl, r3, r, dx3, dx, _, _, rfl, rfl, hr3, sB _ _ hr11, r3, r, ls, ls, rfl, rg14, rg11.same sB, _, rfl, _, rfl, iteDT rfl ?_⟩
    refine ⟨_, rfl, r2, C, dx2, _, _, rfl, s14 _ _ (s13 _ _ hr2), R.cl, R.nT, rf_total _ _, _, rfl, r, C, dx, _, _, rfl, sB _ _ hr11, R.cl, R.nT, rf_total _ _, rfl, ?_⟩
    rw [two_sum hb, decide_eq_true rfl]
    exact q _ ((((Kp.of_but k06).ext x6).but k11).same sB) ((pen11.same sB).mono (by omega)) (tab11.ext sB)
end
end K
namespace K
open PySem L2 Rg LamX
/-- a value that is no bar, no length, as the heap has it; its data -/
inductive El (H : Hp) : V → String → PyData → Prop where
  | non : El H .non "NoneType" .none
  | int (i : Int) : El H (.int i) "int" (.int i)
  | bl (b : Bool) : El H (.bl b) "bool" (.bool b)
  | str (z : Str) (c : PyData.canLay0 (.str z) = true) : El H (.str z) "str" (.str z)
  | tup {a : Addr} {i : Int} (e : H a = some (.tup [.int i])) : El H (.ref a) "tuple" (.tuple [.int i])
  | lst {a : Addr} {i : Int} (e : H a = some (.lst [.int i])) : El H (.ref a) "list" (.list [.int i])
section
variable {K : PySem.W.Frag} {H H' : Hp} {x : V} {k : String} {d : PyData}
theorem El.kndI (q : El H x k d) : KndI K H x k := by
  cases q with
  | non => exact ⟨⟨.base .non, by decide⟩, fun z => absurd z (by decide)⟩
  | int i => exact ⟨⟨.base (.int i), by decide⟩, fun _ => ⟨i, rfl⟩⟩
  | bl b => exact ⟨⟨.base (.bl b), by decide⟩, fun z => absurd z (by decide)⟩
  | str z c => exact ⟨⟨.base (.str z), by decide⟩, fun z => absurd z (by decide)⟩
  | tup e => exact ⟨⟨.base (.tup e), by decide⟩, fun z => absurd z (by decide)⟩
  | lst e => exact ⟨⟨.base (.lst e), by decide⟩, fun z => absurd z (by decide)⟩
theorem El.ext (q : El H x k d) (e : ExtN H H') : El H' x k d := by
  cases q with
  | non => exact .non
  | int i => exact .int i
  | bl b => exact .bl b
  | str z c => exact .str z c
  | tup h => exact .tup (e _ _ h (fun _ z => nomatch z))
  | lst h => exact .lst (e _ _ h (fun _ z => nomatch z))
theorem El.but {p : Addr} {ee : Addr × List Int} {n : Nat} (q : El H x k d) (e : But p H H') (pen : PenAt K H p ee n) : El H' x k d := by
  obtain ⟨u, v, hp, _⟩ := pen.ex
  cases q with
  | non => exact .non
  | int i => exact .int i
  | bl b => exact .bl b
  | str z c => exact .str z c
  | tup h => exact .tup (e _ _ (fun z => by rw [z, hp] at h; cases h) h)
  | lst h => exact .lst (e _ _ (fun z => by rw [z, hp] at h; cases h) h)
theorem El.dp (q : El H x k d) : Dp K H x d := by
  cases q with
  | non => exact .non
  | int i => exact .int i
  | bl b => exact .bl b
  | str z c => exact .str z
  | tup e => exact .tup (.inl (.inl e)) (.cons (.int _) .nil)
  | lst e => exact .lst (SqL.of e) (.cons (.int _) .nil)
theorem El.lay (q : El H x k d) : PyData.canLay0 d = true ∧ PyData.depth d ≤ 1 := by
  cases q with
  | non => exact ⟨by decide +kernel, by decide +kernel⟩
  | int i => exact ⟨by simp [PyData.canLay0], by simp [PyData.depth]⟩
  | bl b => exact ⟨by simp [PyData.canLay0], by simp [PyData.depth]⟩
  | str z c => exact ⟨c, by simp [PyData.depth]⟩
  | tup e => exact ⟨by simp [PyData.canLay0, PyData.canLayAll0], by simp [PyData.depth, PyData.depthAll]⟩
  | lst e => exact ⟨by simp [PyData.canLay0, PyData.canLayAll0], by simp [PyData.depth, PyData.depthAll]⟩
end
theorem par_imp {α β : Type} {R S : α → β → Prop} (i : ∀ a b, R a b → S a b) : ∀ {xs : List α} {ys : List β}, Paired R xs ys → Paired S xs ys
  | _, _, .nil => .nil
  | _, _, .cons h t => .cons (i _ _ h) (par_imp i t)
theorem par_app {α β : Type} {R : α → β → Prop} : ∀ {xs : List α} {ys : List β} {zs : List α} {ws : List β}, Paired R xs ys → Paired R zs ws → Paired R (xs ++ zs) (ys ++ ws)
  | _, _, _, _, .nil, h => h
  | _, _, _, _, .cons h t, k => .cons h (par_app t k)
theorem par_len {α β : Type} {R : α → β → Prop} : ∀ {xs : List α} {ys : List β}, Paired R xs ys → xs.length = ys.length
  | _, _, .nil => rfl
  | _, _, .cons _ t => by rw [List.length_cons, List.length_cons, par_len t]
/-- tuples, with their data, as all later heaps have it -/
def PT (K : PySem.W.Frag) (HB H : Hp) : List V → List (List V × List PyData) → Prop := Paired fun x q => ∃ a, x = V.ref a ∧ H a = some (.tup q.1) ∧ ∀ M, ExtN HB M → DpAll K M q.1 q.2
theorem PT.dp {K : PySem.W.Frag} {HB H : Hp} (x : ExtN HB H) : ∀ {xs : List V} {qs : List (List V × List PyData)}, PT K HB H xs qs → DpAll K H xs (qs.map fun q => .tuple q.2)
  | _, _, .nil => .nil
  | _, _, .cons ⟨a, ea, h, d⟩ t => by
    subst ea
    exact .cons (.tup (.inl (.inl h)) (d _ x)) (PT.dp x t)
/-- what was heard stands in the list at h -/
structure HS (K : PySem.W.Frag) (T : List (Addr × Str)) (HB H : Hp) (h : Addr) (done : List V) (qs : List (List V × List PyData)) : Prop where
  x : ExtN HB H
  tab : Tabs T H
  hb : ∀ o, HB h = some o → (∀ ps, o ≠ .tbl ps) → False
  hh : H h = some (.lst done)
  pt : PT K HB H done qs
theorem HS.first {K : PySem.W.Frag} {T : List (Addr × Str)} {HB M : Hp} {h a : Addr} {q : List V × List PyData} (x : ExtN HB M) (t : Tabs T M) (ha : M a = some (.tup q.1)) (d : ∀ M', ExtN HB M' → DpAll K M' q.1 q.2) (nh : M h = none) : HS K T HB (upd M h (.lst [.ref a])) h [.ref a] [q] := by
  have s : Same M (upd M h (.lst [.ref a])) := (Same.refl M).new nh
  exact ⟨x.trans (ExtN.of s), t.ext s, (fun o e n => by have := x _ _ e n; rw [nh] at this; cases this), upd_same, .cons ⟨a, rfl, s _ _ ha, d⟩ .nil⟩
theorem HS.app {K : PySem.W.Frag} {T : List (Addr × Str)} {HB H M : Hp} {h a : Addr} {done : List V} {qs : List (List V × List PyData)} {q : List V × List PyData} (s : HS K T HB H h done qs) (x : ExtN H M) (t : Tabs T M) (ha : M a = some (.tup q.1)) (d : ∀ M', ExtN HB M' → DpAll K M' q.1 q.2) :
    M h = some (.lst done) ∧ HS K T HB (upd M h (.lst (done ++ [.ref a]))) h (done ++ [.ref a]) (qs ++ [q]) := by
  have hm : M h = some (.lst done) := x _ _ s.hh (fun _ z => nomatch z)
  have b : But h M (upd M h (.lst (done ++ [.ref a]))) := fun c o n e => by rw [upd_ne n]; exact e
  have xB : ExtN HB (upd M h (.lst (done ++ [.ref a]))) := fun c o e n => by
    have nc : c ≠ h := fun z => s.hb o (z ▸ e) n
    rw [upd_ne nc]
    exact x _ _ (s.x _ _ e n) n
  have na : a ≠ h := fun z => by rw [z, hm] at ha; cases ha
  refine ⟨hm, xB, tabs_but t b hm, s.hb, upd_same, par_app ?_ (.cons ⟨a, rfl, by rw [upd_ne na]; exact ha, d⟩ .nil)⟩
  refine par_imp (fun y r ⟨c, ec, hcc, dc⟩ => ⟨c, ec, ?_, dc⟩) s.pt
  have e1 : M c = some (.tup r.1) := x _ _ hcc (fun _ z => nomatch z)
  rw [upd_ne (fun z => by rw [z, hm] at e1; cases e1)]
  exact e1
/-! ### orders that are none -/
/-- an item of such an order: an int, a bool, None -/
inductive Sm : V → Prop where
  | int (i : Int) : Sm (.int i)
  | bl (b : Bool) : Sm (.bl b)
  | non : Sm .non
def kfS : V → String
  | .int _ => "int"
  | .bl _ => "bool"
  | _ => "NoneType"
theorem Sm.knd {K : PySem.W.Frag} {H : Hp} {x : V} (h : Sm x) : Knd K H x (kfS x) := by
  cases h with
  | int i => exact Knd.int
  | bl b => exact ⟨.base (.bl b), show "bool" ∈ kinds by decide⟩
  | non => exact ⟨.base .non, show "NoneType" ∈ kinds by decide⟩
inductive Bad (n : Nat) (H : Hp) : V → Prop where
  | non : Bad n H .non
  | str (z : Str) : Bad n H (.str z)
  | odd {a : Addr} {xs : List V} (h : H a = some (.lst xs)) (l : xs.length ≤ 100) (sm : ∀ x ∈ xs, Sm x) (e : (xs.all fun x => decide (kfS x = "int")) = false) : Bad n H (.ref a)
  | ord {a : Addr} {ns : List Int} (h : H a = some (.lst (ns.map V.int))) (l : ns.length ≤ 100) (np : ¬ ns.Perm (natB (List.range n))) : Bad n H (.ref a)
theorem Bad.ext {n : Nat} {H H' : Hp} {v : V} (b : Bad n H v) (x : ExtN H H') : Bad n H' v := by
  cases b with
  | non => exact .non
  | str z => exact .str z
  | odd h l sm e => exact .odd (x _ _ h (fun _ z => nomatch z)) l sm e
  | ord h l np => exact .ord (x _ _ h (fun _ z => nomatch z)) l np
theorem Bad.but {K : PySem.W.Frag} {n m : Nat} {H H' : Hp} {v : V} {p : Addr} {ee : Addr × List Int} (b : Bad n H v) (e : But p H H') (pen : PenAt K H p ee m) : Bad n H' v := by
  obtain ⟨u, w, hp, _⟩ := pen.ex
  cases b with
  | non => exact .non
  | str z => exact .str z
  | odd h l sm e2 =>
    refine .odd (e _ _ (fun z => ?_) h) l sm e2
    rw [z, hp] at h
    have hx := Option.some.inj h
    have hy := HO.lst.inj hx
    have := sm (.ref ee.1) (by rw [← hy]; exact List.mem_cons_self ..)
    cases this
  | @ord a ns h l np =>
    refine .ord (e _ _ (fun z => ?_) h) l np
    rw [z, hp] at h
    have hx := Option.some.inj h
    have hy := HO.lst.inj hx
    cases ns <;> simp at hy
theorem Bad.lots {K : PySem.W.Frag} {C r : Addr} {c : Ms} {H : Hp} {E : XK} {Q : VK} {v : V} {ls : List Int} (b : Bad ls.length H v) (rg : RingW K C H r ls) (l3 : 3 ≤ ls.length) (l8 : ls.length ≤ 8) (bd : Bd 1000000 ls) (er : Errs E c.b "part" (.str "order") H) : spOrd K C c [.ref r, v] H Q E := by
  cases b with
  | non => exact .inl ⟨r, _, "NoneType", ls, rfl, rg, ⟨.base .non, by decide⟩, by decide, by decide, er⟩
  | str z => exact .inl ⟨r, _, "str", ls, rfl, rg, ⟨.base (.str z), by decide⟩, by decide, by decide, er⟩
  | odd h l sm e => exact .inr (.inl ⟨r, _, _, kfS, ls, rfl, rg, l3, l8, bd, h, l, fun x hx => (sm x hx).knd, .inl ⟨e, er⟩⟩)
  | ord h l np =>
    refine .inr (.inl ⟨r, _, _, fun _ => "int", ls, rfl, rg, l3, l8, bd, h, by rw [List.length_map]; exact l, fun x hx => ?_, .inr ⟨List.all_eq_true.mpr fun _ _ => rfl, _, rfl, .inl ⟨np, er⟩⟩⟩)
    obtain ⟨z, _, rfl⟩ := List.mem_map.mp hx
    exact Knd.int
theorem np_len {n : Nat} {ns : List Int} (h : ns.length ≠ n) : ¬ ns.Perm (natB (List.range n)) := fun p => h (by rw [p.length_eq, natB_len])
theorem np_mem {n : Nat} {ns : List Int} {x : Int} (h : x ∈ ns) (k : ¬ x < n) : ¬ ns.Perm (natB (List.range n)) := fun p => k (natB_mem (p.mem_iff.mp h)).2
theorem np_not {n j : Nat} {ns : List Int} (hj : j < n) (h : (j : Int) ∉ ns) : ¬ ns.Perm (natB (List.range n)) := fun p => h (p.mem_iff.mpr (natB_mem2 hj))
theorem natB_take {n k : Nat} (h : k ≤ n) : (natB (List.range n)).take k = natB (List.range k) := by
  unfold natB
  rw [← List.map_take, List.take_range, Nat.min_eq_left h]
theorem cut_last (xs : List V) (h : 1 ≤ xs.length) : cutV xs none (some (-1)) = xs.take (xs.length - 1) := by
  unfold cutV
  have e2 : HT.sIx xs.length xs.length (some (-1)) = xs.length - 1 := by
    show (if (-1 : Int) < 0 then ((-1 : Int) + (xs.length : Int)).toNat else min (-1 : Int).toNat xs.length) = _
    rw [if_pos (by decide)]
    omega
  rw [HT.sIx_none, e2, List.drop_zero, Nat.sub_zero]
theorem rep_flat (n : Nat) (v : V) : (List.replicate n [v]).flatten = List.replicate n v := by
  induction n with
  | zero => rfl
  | succ n ih => rw [List.replicate_succ, List.flatten_cons, ih, List.replicate_succ]; rfl
theorem sm_ints (ns : List Int) : ∀ x ∈ ns.map V.int, Sm x := fun x hx => by
  obtain ⟨z, _, rfl⟩ := List.mem_map.mp hx
  exact .int z
def DS (d : PyData) : List PyData := [.tuple [.str "bar", d], .tuple [.str "number", .str "length"], .tuple [.str "bar", d], .tuple [.str "bar", d], .tuple [.str "bar", d], .tuple [.str "number", .str "length"], .tuple [.str "number", .str "length"], .tuple [.str "number", .str "order"]]
theorem strok1 : PyData.canLay0 (.str "bar") = true := by decide +kernel
theorem strok2 : PyData.canLay0 (.str "number") = true := by decide +kernel
theorem strok3 : PyData.canLay0 (.str "length") = true := by decide +kernel
theorem strok4 : PyData.canLay0 (.str "order") = true := by decide +kernel
theorem ds_lay {d : PyData} (h : PyData.canLay0 d = true) : PyData.canLay0 (.list (DS d)) = true := by
  simp only [DS, PyData.canLay0, PyData.canLayAll0, h, Bool.true_and, Bool.and_true] at *
  decide +kernel
theorem ds_depth {d : PyData} (h : PyData.depth d ≤ 1) : PyData.depth (.list (DS d)) ≤ 64 := by
  simp only [DS, PyData.depth, PyData.depthAll]
  omega
theorem ds_shaped {d : PyData} (h : PyData.canLay0 d = true ∧ PyData.depth d ≤ 1) : SeqAt.shaped (.list (DS d)) = true := by
  unfold SeqAt.shaped
  rw [ds_lay h.1, decide_eq_true (ds_depth h.2)]
  rfl
theorem ds_eqv {d : PyData} (h : PyData.canLay0 d = true ∧ PyData.depth d ≤ 1) : (!PyData.eqv (.list (DS d)) (.list (DS d))) = false := by
  rw [SeqAt.eqv_refl _ (ds_lay h.1)]
  rfl
def RL3 : List PyData := [.tuple [.str "ring", .str "lengths"], .tuple [.str "ring", .str "lengths"], .tuple [.str "ring", .str "lengths"]]
theorem rl_shaped : SeqAt.shaped (.list RL3) = true := by decide +kernel
theorem rl_eqv : PyData.eqv (.list RL3) (.list RL3) = true := by decide +kernel
end K
namespace K
open PySem L2 Rg LamX
open Evl (pss_cut)
section
variable {P : Program} {w : World} {K : PySem.W.Frag} {mg : Str → Option Value} {base : Heap}
abbrev nRF : List Str := ["_law_pen_here", "_law_lengths_here", "_law_many", "_law_order", "_law_heard_here", "_law_due", "_law_bad", "_law_bar", "_law_far", "_law_great", "_law_odd", "_law_ring"]
theorem scRF : FnScope nRF ["_law_pen_here", "_law_lengths_here"] (defScope sLwRefusedRight) := ⟨rfl, rfl, rfl, by decide +kernel, rfl, by decide +kernel, by decide +kernel⟩
theorem ok_rf {C cd P1 P2 f fD fP fI fB fN fH m1 m3 m4 m5 m6 eR : Addr} {c : Ms} {hc : Hs} {fd fdD fdP fdI fdB fdN fdH d1 d3 d4 d5 d6 : FuncData} (F : FunC K "_law_refused_right" "_law_refused_right" sLwRefusedRight f fd cd) (T : Bi mg) (R : RingC K mg C) (D : DrawAt P w K mg base fD fdD)
    (PK : DefAt P w K mg base CX0 3 "_law_pick" ["_law_pen_here", "_law_some"] (spPick K) fP fdP) (G : RingP P w K mg base C c fI fB fN fdI fdB fdN) (hcs : hc.r = c.x.r ∧ hc.m = c.x.m ∧ hc.n = c.n ∧ hc.b = c.b)
    (M1 : MethAt P w K mg base C "begun_at" ["self", "bar"] (spBegun K C c) m1 d1) (M3 : MethAt P w K mg base C "in_order" ["self", "order"] (spOrd K C c) m3 d3)
    (M4 : MethAt P w K mg base C "with_length" ["self", "bar", "length"] (spWith K C c) m4 d4) (M5 : MethAt P w K mg base C "as_one" ["self", "bar"] (spAsOne K C c) m5 d5)
    (M6 : MethAt P w K mg base C "in_two" ["self", "bar", "length"] (spInTwo K C c) m6 d6) (Hc : HeardC K mg hc eR) (TB : TabB base mg cd P2) (hmT : (P2, qRf) ∈ T2 P1 P2) (hu : ∀ p ∈ T2 P1 P2, p.1 = P2 → p.2 = qRf)
    (FH : Fun K "_law_heard" "_law_heard" sLwHeard fH fdH) (BH : Binds K fdH ["_law_ask"] []) (GH : mg "_law_heard" = some (.ref fH)) : FnOk P w K mg base CX0 9 f fd ["_law_pen_here", "_law_lengths_here"] (spCH K P1 P2) := by
  refine F.ok scRF (fun vs H Q E h => ?_) (fun A outer s H vs Q E hr h => ?_)
  · obtain ⟨p, l, ls, e, n, rfl, _⟩ := h
    rfl
  · have nd := scRF.nd
    obtain ⟨oc, od, kV, doc, pm, an, cdv, ct, osl, rfl, lk, hcd⟩ := FH.ex
    refine ⟨_, (pss_cons (ps_asg (pe_tup (pa_cons (pe_make G.made G.ok (hr.mono (by decide)) (by rfl) R.g G.b .nil passL (pa_cons (pv 1) pa_nil)) (pa_cons (pe_callB call_len_seq (by rfl) T.len PySem.boot_len (pa_cons (pv 1) pa_nil)) pa_nil))) (pg_tup (by rfl) (pgs_cons (pg_name (i := 11) nd rfl (Or.inr rfl)) (pgs_cons (pg_name (i := 2) nd rfl (Or.inl rfl)) pgs_nil))))
      (pss_cons (ps_set (i := 7) nd rfl (Or.inr rfl) (pe_call D.ok (hr.mono (by decide)) rfl D.g D.kp D.b .nil pass0 (pa_cons (pv 0) (pa_cons (pv 2) pa_nil))))
      (pss_cons (ps_asg (pe_tup (pa_cons (pe_call PK.ok (hr.mono (by decide)) rfl PK.g PK.kp PK.b .nil pass0 (pa_cons (pv 0) (pa_cons (pe_lst (pa_cons (pv 2) (pa_cons (pe_un un_neg pe_int) (pa_cons pe_non (pa_cons pe_str (pa_cons pe_bl (pa_cons (pe_tup (pa_cons pe_int pa_nil)) (pa_cons (pe_lst (pa_cons pe_int pa_nil)) (pa_cons (pe_op op_pow pe_int pe_int) pa_nil))))))))) pa_nil))) (pa_cons (pe_call PK.ok (hr.mono (by decide)) rfl PK.g PK.kp PK.b .nil pass0 (pa_cons (pv 0) (pa_cons (pe_lst (pa_cons pe_int (pa_cons (pe_un un_neg pe_int) (pa_cons pe_non (pa_cons pe_str (pa_cons pe_bl (pa_cons (pe_lst (pa_cons pe_int pa_nil)) (pa_cons pe_int pa_nil)))))))) pa_nil))) pa_nil))) (pg_tup (by rfl) (pgs_cons (pg_name (i := 8) nd rfl (Or.inr rfl)) (pgs_cons (pg_name (i := 10) nd rfl (Or.inr rfl)) pgs_nil))))
      (pss_cons (ps_set (i := 3) nd rfl (Or.inl rfl) (pe_listRg rfl (by rfl) T.list (prg_1 (by rfl) T.range (pv 2))))
      (pss_cons (ps_set (i := 6) nd rfl (Or.inr rfl) (pe_call PK.ok (hr.mono (by decide)) rfl PK.g PK.kp PK.b .nil pass0 (pa_cons (pv 0) (pa_cons (pe_lst (pa_cons pe_non (pa_cons (pe_slice sl_list (pv 3) (po_some pe_int) po_none) (pa_cons (pe_op op_cat (pv 3) (pe_lst (pa_cons pe_int pa_nil))) (pa_cons (pe_op op_cat (pe_slice sl_list (pv 3) po_none (po_some (pe_un un_neg pe_int))) (pe_lst (pa_cons (pv 2) pa_nil))) (pa_cons (pe_op op_cat (pe_slice sl_list (pv 3) po_none (po_some (pe_un un_neg pe_int))) (pe_lst (pa_cons pe_int pa_nil))) (pa_cons pe_str (pa_cons (pe_op op_rep (pe_lst (pa_cons pe_non pa_nil)) (pv 2)) (pa_cons (pe_op op_cat (pe_lst (pa_cons pe_bl (pa_cons pe_bl pa_nil))) (pe_slice sl_list (pv 3) (po_some pe_int) po_none)) (pa_cons (pe_op op_cat (pe_op op_cat (pe_slice sl_list (pv 3) po_none (po_some pe_int)) (pe_lst (pa_cons pe_bl pa_nil))) (pe_slice sl_list (pv 3) (po_some pe_int) po_none)) pa_nil)))))))))) pa_nil))))
      (pss_cons (ps_set (i := 4) nd rfl (Or.inl rfl) (pe_lst (pa_cons (pe_lamcall (T := T2 P1 P2) (TT := THeard hc) (a := "_law_ask") (g := fH) (c := cd) (P := P2) (k := 6) (Ng := nHeard) rfl GH FH.kp lk hcd BH scHeard rfl (Or.inl rfl) (heard_gives T Hc) TB rfl hmT hu hr (lamS_by (sc := defScope sLwRefusedRight) (by decide +kernel)) rfl (fun _ _ _ _ _ => rfl)
            (fun A outer s H E f c' hr' => (pe_meth (pv 11) R.cl M4.m M4.ok hr' M4.b .nil (passes_call (takes_of rfl rfl rfl rfl) (fun _ _ _ _ h => h)) (pa_cons (pv 8) (pa_cons (pv 10) pa_nil))))) pa_nil)))
      (pss_cons (ps_expr (pe_bm PySem.F.plainAttrs_list PySem.F.slot_list_append PySem.F.type_list_append mt_append (pv 4) (pa_cons (pe_lamcall (T := T2 P1 P2) (TT := THeard hc) (a := "_law_ask") (g := fH) (c := cd) (P := P2) (k := 6) (Ng := nHeard) rfl GH FH.kp lk hcd BH scHeard rfl (Or.inl rfl) (heard_gives T Hc) TB rfl hmT hu hr (lamS_by (sc := defScope sLwRefusedRight) (by decide +kernel)) rfl (fun _ _ _ _ _ => rfl)
            (fun A outer s H E f c' hr' => (pe_meth (pv 11) R.cl M4.m M4.ok hr' M4.b .nil (passes_call (takes_of rfl rfl rfl rfl) (fun _ _ _ _ h => h)) (pa_cons (pv 7) (pa_cons (pv 10) pa_nil))))) pa_nil)))
      (pss_cons (ps_expr (pe_bm PySem.F.plainAttrs_list PySem.F.slot_list_append PySem.F.type_list_append mt_append (pv 4) (pa_cons (pe_lamcall (T := T2 P1 P2) (TT := THeard hc) (a := "_law_ask") (g := fH) (c := cd) (P := P2) (k := 6) (Ng := nHeard) rfl GH FH.kp lk hcd BH scHeard rfl (Or.inl rfl) (heard_gives T Hc) TB rfl hmT hu hr (lamS_by (sc := defScope sLwRefusedRight) (by decide +kernel)) rfl (fun _ _ _ _ _ => rfl)
            (fun A outer s H E f c' hr' => (pe_meth (pv 11) R.cl M1.m M1.ok hr' M1.b .nil (passes_call (takes_of rfl rfl rfl rfl) (fun _ _ _ _ h => h)) (pa_cons (pv 8) pa_nil)))) pa_nil)))
      (pss_cons (ps_expr (pe_bm PySem.F.plainAttrs_list PySem.F.slot_list_append PySem.F.type_list_append mt_append (pv 4) (pa_cons (pe_lamcall (T := T2 P1 P2) (TT := THeard hc) (a := "_law_ask") (g := fH) (c := cd) (P := P2) (k := 6) (Ng := nHeard) rfl GH FH.kp lk hcd BH scHeard rfl (Or.inl rfl) (heard_gives T Hc) TB rfl hmT hu hr (lamS_by (sc := defScope sLwRefusedRight) (by decide +kernel)) rfl (fun _ _ _ _ _ => rfl)
            (fun A outer s H E f c' hr' => (pe_meth (pv 11) R.cl M5.m M5.ok hr' M5.b .nil (passes_call (takes_of rfl rfl rfl rfl) (fun _ _ _ _ h => h)) (pa_cons (pv 8) pa_nil)))) pa_nil)))
      (pss_cons (ps_expr (pe_bm PySem.F.plainAttrs_list PySem.F.slot_list_append PySem.F.type_list_append mt_append (pv 4) (pa_cons (pe_lamcall (T := T2 P1 P2) (TT := THeard hc) (a := "_law_ask") (g := fH) (c := cd) (P := P2) (k := 6) (Ng := nHeard) rfl GH FH.kp lk hcd BH scHeard rfl (Or.inl rfl) (heard_gives T Hc) TB rfl hmT hu hr (lamS_by (sc := defScope sLwRefusedRight) (by decide +kernel)) rfl (fun _ _ _ _ _ => rfl)
            (fun A outer s H E f c' hr' => (pe_meth (pv 11) R.cl M6.m M6.ok hr' M6.b .nil (passes_call (takes_of rfl rfl rfl rfl) (fun _ _ _ _ h => h)) (pa_cons (pv 8) (pa_cons (pv 10) pa_nil))))) pa_nil)))
      (pss_cons (ps_expr (pe_bm PySem.F.plainAttrs_list PySem.F.slot_list_append PySem.F.type_list_append mt_append (pv 4) (pa_cons (pe_lamcall (T := T2 P1 P2) (TT := THeard hc) (a := "_law_ask") (g := fH) (c := cd) (P := P2) (k := 6) (Ng := nHeard) rfl GH FH.kp lk hcd BH scHeard rfl (Or.inl rfl) (heard_gives T Hc) TB rfl hmT hu hr (lamS_by (sc := defScope sLwRefusedRight) (by decide +kernel)) rfl (fun _ _ _ _ _ => rfl)
            (fun A outer s H E f c' hr' => (pe_meth (pv 11) R.cl M6.m M6.ok hr' M6.b .nil (passes_call (takes_of rfl rfl rfl rfl) (fun _ _ _ _ h => h)) (pa_cons (pv 7) (pa_cons (pv 10) pa_nil))))) pa_nil)))
      (pss_cons (ps_expr (pe_bm PySem.F.plainAttrs_list PySem.F.slot_list_append PySem.F.type_list_append mt_append (pv 4) (pa_cons (pe_lamcall (T := T2 P1 P2) (TT := THeard hc) (a := "_law_ask") (g := fH) (c := cd) (P := P2) (k := 6) (Ng := nHeard) rfl GH FH.kp lk hcd BH scHeard rfl (Or.inl rfl) (heard_gives T Hc) TB rfl hmT hu hr (lamS_by (sc := defScope sLwRefusedRight) (by decide +kernel)) rfl (fun _ _ _ _ _ => rfl)
            (fun A outer s H E f c' hr' => (pe_meth (pv 11) R.cl M6.m M6.ok hr' M6.b .nil (passes_call (takes_of rfl rfl rfl rfl) (fun _ _ _ _ h => h)) (pa_cons (pv 7) (pa_cons (pe_ix (r := rIxL K) ix_list (pv 1) (pv 7) (fun _ _ => rfl)) pa_nil))))) pa_nil)))
      (pss_cons (ps_expr (pe_bm PySem.F.plainAttrs_list PySem.F.slot_list_append PySem.F.type_list_append mt_append (pv 4) (pa_cons (pe_lamcall (T := T2 P1 P2) (TT := THeard hc) (a := "_law_ask") (g := fH) (c := cd) (P := P2) (k := 6) (Ng := nHeard) rfl GH FH.kp lk hcd BH scHeard rfl (Or.inl rfl) (heard_gives T Hc) TB rfl hmT hu hr (lamS_by (sc := defScope sLwRefusedRight) (by decide +kernel)) rfl (fun _ _ _ _ _ => rfl)
            (fun A outer s H E f c' hr' => (pe_meth (pv 11) R.cl M3.m M3.ok hr' M3.b .nil (passes_call (takes_of rfl rfl rfl rfl) (fun _ _ _ _ h => h)) (pa_cons (pv 6) pa_nil)))) pa_nil)))
      (pss_cons (ps_set (i := 5) nd rfl (Or.inl rfl) (pe_op op_cat (pe_lst (pa_cons (pe_tup (pa_cons pe_str (pa_cons (pv 8) pa_nil))) (pa_cons (pe_tup (pa_cons pe_str (pa_cons pe_str pa_nil))) (pa_cons (pe_tup (pa_cons pe_str (pa_cons (pv 8) pa_nil))) (pa_cons (pe_tup (pa_cons pe_str (pa_cons (pv 8) pa_nil))) (pa_cons (pe_tup (pa_cons pe_str (pa_cons (pv 8) pa_nil))) pa_nil)))))) (pe_op op_rep (pe_lst (pa_cons (pe_tup (pa_cons pe_str (pa_cons pe_str pa_nil))) pa_nil)) pe_int)))
      (pss_cons (ps_if (pt_cmpR (op_neD hr.units) (pv 4) (pe_op op_cat (pv 5) (pe_lst (pa_cons (pe_tup (pa_cons pe_str (pa_cons pe_str pa_nil))) pa_nil))) (nomark _)) (pss_one ps_never) pss_nil)
      (pss_cons (ps_set (i := 9) nd rfl (Or.inr rfl) (pe_make G.made G.ok (hr.mono (by decide)) (by rfl) R.g G.b .nil passL (pa_cons (pe_lst (pa_cons pe_int (pa_cons pe_int (pa_cons pe_int pa_nil)))) pa_nil)))
      (pss_cons (ps_set (i := 4) nd rfl (Or.inl rfl) (pe_lst (pa_cons (pe_lamcall (T := T2 P1 P2) (TT := THeard hc) (a := "_law_ask") (g := fH) (c := cd) (P := P2) (k := 6) (Ng := nHeard) rfl GH FH.kp lk hcd BH scHeard rfl (Or.inl rfl) (heard_gives T Hc) TB rfl hmT hu hr (lamS_by (sc := defScope sLwRefusedRight) (by decide +kernel)) rfl (fun _ _ _ _ _ => rfl)
            (fun A outer s H E f c' hr' => (pe_meth (pv 9) R.cl M5.m M5.ok hr' M5.b .nil (passes_call (takes_of rfl rfl rfl rfl) (fun _ _ _ _ h => h)) (pa_cons pe_int pa_nil)))) pa_nil)))
      (pss_cons (ps_expr (pe_bm PySem.F.plainAttrs_list PySem.F.slot_list_append PySem.F.type_list_append mt_append (pv 4) (pa_cons (pe_lamcall (T := T2 P1 P2) (TT := THeard hc) (a := "_law_ask") (g := fH) (c := cd) (P := P2) (k := 6) (Ng := nHeard) rfl GH FH.kp lk hcd BH scHeard rfl (Or.inl rfl) (heard_gives T Hc) TB rfl hmT hu hr (lamS_by (sc := defScope sLwRefusedRight) (by decide +kernel)) rfl (fun _ _ _ _ _ => rfl)
            (fun A outer s H E f c' hr' => (pe_meth (pv 9) R.cl M5.m M5.ok hr' M5.b .nil (passes_call (takes_of rfl rfl rfl rfl) (fun _ _ _ _ h => h)) (pa_cons pe_int pa_nil)))) pa_nil)))
      (pss_cons (ps_expr (pe_bm PySem.F.plainAttrs_list PySem.F.slot_list_append PySem.F.type_list_append mt_append (pv 4) (pa_cons (pe_lamcall (T := T2 P1 P2) (TT := THeard hc) (a := "_law_ask") (g := fH) (c := cd) (P := P2) (k := 6) (Ng := nHeard) rfl GH FH.kp lk hcd BH scHeard rfl (Or.inl rfl) (heard_gives T Hc) TB rfl hmT hu hr (lamS_by (sc := defScope sLwRefusedRight) (by decide +kernel)) rfl (fun _ _ _ _ _ => rfl)
            (fun A outer s H E f c' hr' => (pe_meth (pe_make G.made G.ok (hr'.mono (by decide)) (by rfl) R.g G.b .nil (passes_call (takes_of rfl rfl rfl rfl) (fun _ _ _ _ h => h)) (pa_cons (pe_lst (pa_cons pe_int (pa_cons pe_int (pa_cons pe_int (pa_cons pe_int pa_nil))))) pa_nil)) R.cl M5.m M5.ok hr' M5.b .nil (passes_call (takes_of rfl rfl rfl rfl) (fun _ _ _ _ h => h)) (pa_cons pe_int pa_nil)))) pa_nil)))
      (pss_one (ps_ret (pe_and (pe_cmpR (op_eqD hr.units) (pv 4) (pe_op op_rep (pe_lst (pa_cons (pe_tup (pa_cons pe_str (pa_cons pe_str pa_nil))) pa_nil)) pe_int) (nomark _)) (pe_one (pe_cmpR (op_eqD hr.units) (pe_fld (pe_meth (pe_make G.made G.ok (hr.mono (by decide)) (by rfl) R.g G.b .nil passL (pa_cons (pe_lst (pa_cons pe_int (pa_cons pe_int (pa_cons pe_int (pa_cons pe_int pa_nil))))) pa_nil)) R.cl M5.m M5.ok (hr.mono (by decide)) M5.b .nil passL (pa_cons pe_int pa_nil)) rfl) (pe_tup (pa_cons pe_int (pa_cons pe_int (pa_cons pe_int pa_nil)))) (nomark _))))))))))))))))))))))))), ?_⟩
    obtain ⟨p, l, ls, e, n, rfl, hn, pen, hlp, hl, l3, l8, bd, tab, q⟩ := h
    obtain ⟨hc1, hc2, hc3, hc4⟩ := hcs
    refine ⟨_, rfl, made2 (.inl hl) bd l3 l8 fun r H1 rg1 s1 nr => ⟨rfl, ?_⟩⟩
    have hl1 := s1 _ _ hl
    refine ⟨_, rfl, l, _, rfl, .inl (SqL.of hl1), (by show 2 ≤ sizeLine; decide), fun t0 n0 => ⟨t0, _, rfl, .inl (.inl upd_same), rfl, _, _, rfl, _, _, rfl, rfl, ?_⟩⟩
    rw [List.length_map]
    have s2 := s1.new (o := .tup [.ref r, .int (ls.length : Nat)]) n0
    have rg2 := rg1.same ((Same.refl H1).new (o := .tup [.ref r, .int (ls.length : Nat)]) n0)
    generalize upd H1 t0 (.tup [.ref r, .int (ls.length : Nat)]) = H2 at s2 rg2 ⊢
    have pen2 := pen.same s2
    obtain ⟨pl2, hpl2⟩ := pen2.some
    -- bar
    refine ⟨_, rfl, _, rfl, p, e, _, n, rfl, by omega, by omega, by omega, pen2, fun b H3 b0 b1 k3 pen3 => ?_⟩
    obtain ⟨b, rfl⟩ := Int.eq_ofNat_of_zero_le b0
    have hb : b < ls.length := by omega
    -- far
    have e20 : (10 : Int) ^ (20 : Int).toNat = 100000000000000000000 := by decide +kernel
    have strOk : ∀ z : Str, z = "0" ∨ z = "2" → PyData.canLay0 (.str z) = true := by rintro z (rfl | rfl) <;> decide +kernel
    refine ⟨_, rfl, _, rfl, _, rfl, (by show 1 ≤ sizeLine; decide), fun a1 na1 => ?_⟩
    have ta1 : Same H3 (upd H3 a1 (.tup [.int 0])) := (Same.refl _).new na1
    have fa1 : upd H3 a1 (.tup [.int 0]) a1 = some (.tup [.int 0]) := upd_same
    generalize upd H3 a1 (.tup [.int 0]) = G1 at ta1 fa1 ⊢
    refine ⟨(by show 1 ≤ sizeLine; decide), fun a2 na2 => ?_⟩
    have ta2 : Same G1 (upd G1 a2 (.lst [.int 0])) := (Same.refl _).new na2
    have fa2 : upd G1 a2 (.lst [.int 0]) a2 = some (.lst [.int 0]) := upd_same
    generalize upd G1 a2 (.lst [.int 0]) = G2 at ta2 fa2 ⊢
    have x1 := (ta2 _ _ fa1)
    have x2 := fa2
    have sG2 : Same H3 G2 := (((Same.refl _).trans ta1).trans ta2)
    have penG := pen3.same sG2
    refine ⟨_, _, rfl, rfl, (show CPow 10 20 from by unfold CPow; decide +kernel), (by show 8 ≤ sizeLine; decide), fun q0 hq0 => ?_⟩
    have hq0p : q0 ≠ p := penG.ne hq0
    have fars : ∀ (i : Nat) (v : V), ([V.int (ls.length : Nat), .int (-1), .non, .str "0", .bl true, .ref a1, .ref a2, .int (10 ^ (20 : Int).toNat)] : List V)[i]? = some v → ∃ k d, El G2 v k d ∧ winB k 0 ((ls.length : Int) - 1) v = false := by
      intro i v hv
      rcases i with _ | _ | _ | _ | _ | _ | _ | _ | i
      · cases hv; exact ⟨_, _, .int _, by simp [winB]; omega⟩
      · cases hv; exact ⟨_, _, .int _, by simp [winB]⟩
      · cases hv; exact ⟨_, _, .non, rfl⟩
      · cases hv; exact ⟨_, _, .str _ (strOk _ (.inl rfl)), rfl⟩
      · cases hv; exact ⟨_, _, .bl _, rfl⟩
      · cases hv; exact ⟨_, _, .tup x1, rfl⟩
      · cases hv; exact ⟨_, _, .lst x2, rfl⟩
      · cases hv; exact ⟨_, _, .int _, by rw [e20]; simp [winB]; omega⟩
      · cases hv
    refine ⟨p, q0, e, _, n + 1, rfl, SqL.of upd_same, hq0p, (by show 1 ≤ 8; decide), (by show 8 ≤ 1000; decide), by omega, penG.put hq0, fun i0 far H4 hv0 k4 pen4 => ?_⟩
    obtain ⟨kf, df, elf0, wf⟩ := fars i0 far hv0
    have pq : PenAt K (upd G2 q0 (.lst [V.int (ls.length : Nat), .int (-1), .non, .str "0", .bl true, .ref a1, .ref a2, .int (10 ^ (20 : Int).toNat)])) p e (n + 1) := penG.put hq0
    have elf4 := (elf0.ext (ExtN.of ((Same.refl _).new hq0))).but k4 pq
    have k34 : But p H3 H4 := ((But.of sG2).trans (But.of ((Same.refl _).new hq0))).trans k4
    clear fars hv0 elf0 x1 x2 ta1 ta2 fa1 fa2 sG2 pq na1 na2
    -- odd
    refine ⟨_, rfl, _, rfl, (by show 1 ≤ sizeLine; decide), fun a3 na3 => ?_⟩
    have ta3 : Same H4 (upd H4 a3 (.lst [.int 2])) := (Same.refl _).new na3
    have fa3 : upd H4 a3 (.lst [.int 2]) a3 = some (.lst [.int 2]) := upd_same
    generalize upd H4 a3 (.lst [.int 2]) = I1 at ta3 fa3 ⊢
    refine ⟨(by show 7 ≤ sizeLine; decide), fun q1 hq1 => ?_⟩
    have penG := pen4.same ta3
    have hq1p : q1 ≠ p := penG.ne hq1
    have odds : ∀ (i : Nat) (v : V), ([V.int 0, .int (-1), .non, .str "2", .bl true, .ref a3, .int 1000001] : List V)[i]? = some v → ∃ k d, El I1 v k d ∧ ∀ hi : Int, hi ≤ 1000000 → winB k 1 hi v = false := by
      intro i v hv
      rcases i with _ | _ | _ | _ | _ | _ | _ | i
      · cases hv; exact ⟨_, _, .int _, fun hi h => by simp [winB]⟩
      · cases hv; exact ⟨_, _, .int _, fun hi h => by simp [winB]⟩
      · cases hv; exact ⟨_, _, .non, fun hi h => rfl⟩
      · cases hv; exact ⟨_, _, .str _ (strOk _ (.inr rfl)), fun hi h => rfl⟩
      · cases hv; exact ⟨_, _, .bl _, fun hi h => rfl⟩
      · cases hv; exact ⟨_, _, .lst fa3, fun hi h => rfl⟩
      · cases hv; exact ⟨_, _, .int _, fun hi h => by simp [winB]; omega⟩
      · cases hv
    refine ⟨p, q1, e, _, n + 1 + 1, rfl, SqL.of upd_same, hq1p, (by show 1 ≤ 7; decide), (by show 7 ≤ 1000; decide), by omega, penG.put hq1, fun i1 odd H5 hv1 k5 pen5 => ?_⟩
    obtain ⟨ko, dO, elo0, wo⟩ := odds i1 odd hv1
    have pq : PenAt K (upd I1 q1 (.lst [V.int 0, .int (-1), .non, .str "2", .bl true, .ref a3, .int 1000001])) p e (n + 1 + 1) := penG.put hq1
    have elo5 := (elo0.ext (ExtN.of ((Same.refl _).new hq1))).but k5 pq
    have elf5 := ((elf4.ext (ExtN.of ta3)).ext (ExtN.of ((Same.refl _).new hq1))).but k5 pq
    have k45 : But p H4 H5 := ((But.of ta3).trans (But.of ((Same.refl _).new hq1))).trans k5
    clear odds hv1 elo0 elf4 ta3 fa3 pq na3
    refine ⟨(by show 2 ≤ sizeLine; decide), fun t1 n1 => ⟨t1, _, rfl, .inl (.inl upd_same), rfl, _, _, rfl, _, _, rfl, rfl, ?_⟩⟩
    have s56 : Same H5 (upd H5 t1 (.tup [far, odd])) := (Same.refl H5).new n1
    generalize upd H5 t1 (.tup [far, odd]) = H6 at s56 ⊢
    have elf6 := elf5.ext (ExtN.of s56)
    have elo6 := elo5.ext (ExtN.of s56)
    have pen6 := pen5.same s56
    have k26 : But p H2 H6 := (((k3.trans k34).trans k45).trans (But.of s56))
    clear elf5 elo5 pen5 k34 k45 s56 pen4 pen3 k3 k4 k5 penG
    -- order
    refine ⟨_, rfl, _, rfl, RgOk.of_le (by omega) (by omega) (by omega) (by omega), fun od1 nod => ?_⟩
    rw [rg_nat]
    have sord : Same H6 (upd H6 od1 (.lst ((natB (List.range ls.length)).map V.int))) := (Same.refl _).new nod
    have ford : upd H6 od1 (.lst ((natB (List.range ls.length)).map V.int)) od1 = some (.lst ((natB (List.range ls.length)).map V.int)) := upd_same
    generalize upd H6 od1 (.lst ((natB (List.range ls.length)).map V.int)) = J0 at sord ford ⊢
    have nbl := natB_len ls.length
    -- bad
    refine ⟨_, rfl, _, rfl, _, rfl, od1, _, rfl, SqL.of ford, fun c1 nc1 => ?_⟩
    rw [cut_from (z := 1) (k := 1) _ rfl, ← List.map_drop]
    have tc1 : Same J0 (upd J0 c1 (.lst (((natB (List.range ls.length)).drop 1).map V.int))) := (Same.refl _).new nc1
    have fc1 : upd J0 c1 (.lst (((natB (List.range ls.length)).drop 1).map V.int)) c1 = some (.lst (((natB (List.range ls.length)).drop 1).map V.int)) := upd_same
    generalize upd J0 c1 (.lst (((natB (List.range ls.length)).drop 1).map V.int)) = J1 at tc1 fc1 ⊢
    refine ⟨_, rfl, (by show 1 ≤ sizeLine; decide), fun c2 nc2 => ?_⟩
    have tc2 : Same J1 (upd J1 c2 (.lst [.int 0])) := (Same.refl _).new nc2
    have fc2 : upd J1 c2 (.lst [.int 0]) c2 = some (.lst [.int 0]) := upd_same
    generalize upd J1 c2 (.lst [.int 0]) = J2 at tc2 fc2 ⊢
    refine ⟨od1, c2, _, _, rfl, rfl, (tc2 _ _ (tc1 _ _ ford)), fc2, Nat.le_of_lt (sm (by simp only [List.length_append, List.length_map, List.length_cons, List.length_nil, List.length_take, List.length_drop, natB_len]; omega)), fun c3 nc3 => ?_⟩
    have tc3 : Same J2 (upd J2 c3 (.lst ((natB (List.range ls.length)).map V.int ++ [.int 0]))) := (Same.refl _).new nc3
    have fc3 : upd J2 c3 (.lst ((natB (List.range ls.length)).map V.int ++ [.int 0])) c3 = some (.lst ((natB (List.range ls.length)).map V.int ++ [.int 0])) := upd_same
    generalize upd J2 c3 (.lst ((natB (List.range ls.length)).map V.int ++ [.int 0])) = J3 at tc3 fc3 ⊢
    refine ⟨_, rfl, _, rfl, _, rfl, od1, _, rfl, SqL.of (tc3 _ _ (tc2 _ _ (tc1 _ _ ford))), fun c4 nc4 => ?_⟩
    rw [cut_last _ (by rw [List.length_map]; omega), List.length_map, nbl, ← List.map_take, natB_take (by omega)]
    have tc4 : Same J3 (upd J3 c4 (.lst ((natB (List.range (ls.length - 1))).map V.int))) := (Same.refl _).new nc4
    have fc4 : upd J3 c4 (.lst ((natB (List.range (ls.length - 1))).map V.int)) c4 = some (.lst ((natB (List.range (ls.length - 1))).map V.int)) := upd_same
    generalize upd J3 c4 (.lst ((natB (List.range (ls.length - 1))).map V.int)) = J4 at tc4 fc4 ⊢
    refine ⟨_, rfl, (by show 1 ≤ sizeLine; decide), fun c5 nc5 => ?_⟩
    have tc5 : Same J4 (upd J4 c5 (.lst [.int (ls.length : Nat)])) := (Same.refl _).new nc5
    have fc5 : upd J4 c5 (.lst [.int (ls.length : Nat)]) c5 = some (.lst [.int (ls.length : Nat)]) := upd_same
    generalize upd J4 c5 (.lst [.int (ls.length : Nat)]) = J5 at tc5 fc5 ⊢
    refine ⟨c4, c5, _, _, rfl, rfl, (tc5 _ _ fc4), fc5, Nat.le_of_lt (sm (by simp only [List.length_append, List.length_map, List.length_cons, List.length_nil, List.length_take, List.length_drop, natB_len]; omega)), fun c6 nc6 => ?_⟩
    have tc6 : Same J5 (upd J5 c6 (.lst ((natB (List.range (ls.length - 1))).map V.int ++ [.int (ls.length : Nat)]))) := (Same.refl _).new nc6
    have fc6 : upd J5 c6 (.lst ((natB (List.range (ls.length - 1))).map V.int ++ [.int (ls.length : Nat)])) c6 = some (.lst ((natB (List.range (ls.length - 1))).map V.int ++ [.int (ls.length : Nat)])) := upd_same
    generalize upd J5 c6 (.lst ((natB (List.range (ls.length - 1))).map V.int ++ [.int (ls.length : Nat)])) = J6 at tc6 fc6 ⊢
    refine ⟨_, rfl, _, rfl, _, rfl, od1, _, rfl, SqL.of (tc6 _ _ (tc5 _ _ (tc4 _ _ (tc3 _ _ (tc2 _ _ (tc1 _ _ ford)))))), fun c7 nc7 => ?_⟩
    rw [cut_last _ (by rw [List.length_map]; omega), List.length_map, nbl, ← List.map_take, natB_take (by omega)]
    have tc7 : Same J6 (upd J6 c7 (.lst ((natB (List.range (ls.length - 1))).map V.int))) := (Same.refl _).new nc7
    have fc7 : upd J6 c7 (.lst ((natB (List.range (ls.length - 1))).map V.int)) c7 = some (.lst ((natB (List.range (ls.length - 1))).map V.int)) := upd_same
    generalize upd J6 c7 (.lst ((natB (List.range (ls.length - 1))).map V.int)) = J7 at tc7 fc7 ⊢
    refine ⟨(by show 1 ≤ sizeLine; decide), fun c8 nc8 => ?_⟩
    have tc8 : Same J7 (upd J7 c8 (.lst [.int 0])) := (Same.refl _).new nc8
    have fc8 : upd J7 c8 (.lst [.int 0]) c8 = some (.lst [.int 0]) := upd_same
    generalize upd J7 c8 (.lst [.int 0]) = J8 at tc8 fc8 ⊢
    refine ⟨c7, c8, _, _, rfl, rfl, (tc8 _ _ fc7), fc8, Nat.le_of_lt (sm (by simp only [List.length_append, List.length_map, List.length_cons, List.length_nil, List.length_take, List.length_drop, natB_len]; omega)), fun c9 nc9 => ?_⟩
    have tc9 : Same J8 (upd J8 c9 (.lst ((natB (List.range (ls.length - 1))).map V.int ++ [.int 0]))) := (Same.refl _).new nc9
    have fc9 : upd J8 c9 (.lst ((natB (List.range (ls.length - 1))).map V.int ++ [.int 0])) c9 = some (.lst ((natB (List.range (ls.length - 1))).map V.int ++ [.int 0])) := upd_same
    generalize upd J8 c9 (.lst ((natB (List.range (ls.length - 1))).map V.int ++ [.int 0])) = J9 at tc9 fc9 ⊢
    refine ⟨(by show 1 ≤ sizeLine; decide), fun c10 nc10 => ?_⟩
    have tc10 : Same J9 (upd J9 c10 (.lst [.non])) := (Same.refl _).new nc10
    have fc10 : upd J9 c10 (.lst [.non]) c10 = some (.lst [.non]) := upd_same
    generalize upd J9 c10 (.lst [.non]) = J10 at tc10 fc10 ⊢
    refine ⟨_, rfl, c10, (ls.length : Nat), _, rfl, rfl, fc10, by omega, by omega, Nat.le_of_lt (sm (by rw [Int.toNat_natCast]; show 1 * ls.length ≤ 10000; omega)), fun c11 nc11 => ?_⟩
    rw [Int.toNat_natCast, rep_flat]
    have tc11 : Same J10 (upd J10 c11 (.lst (List.replicate ls.length V.non))) := (Same.refl _).new nc11
    have fc11 : upd J10 c11 (.lst (List.replicate ls.length V.non)) c11 = some (.lst (List.replicate ls.length V.non)) := upd_same
    generalize upd J10 c11 (.lst (List.replicate ls.length V.non)) = J11 at tc11 fc11 ⊢
    refine ⟨(by show 2 ≤ sizeLine; decide), fun c12 nc12 => ?_⟩
    have tc12 : Same J11 (upd J11 c12 (.lst [.bl false, .bl true])) := (Same.refl _).new nc12
    have fc12 : upd J11 c12 (.lst [.bl false, .bl true]) c12 = some (.lst [.bl false, .bl true]) := upd_same
    generalize upd J11 c12 (.lst [.bl false, .bl true]) = J12 at tc12 fc12 ⊢
    refine ⟨_, rfl, _, rfl, od1, _, rfl, SqL.of (tc12 _ _ (tc11 _ _ (tc10 _ _ (tc9 _ _ (tc8 _ _ (tc7 _ _ (tc6 _ _ (tc5 _ _ (tc4 _ _ (tc3 _ _ (tc2 _ _ (tc1 _ _ ford)))))))))))), fun c13 nc13 => ?_⟩
    rw [cut_from (z := 2) (k := 2) _ rfl, ← List.map_drop]
    have tc13 : Same J12 (upd J12 c13 (.lst (((natB (List.range ls.length)).drop 2).map V.int))) := (Same.refl _).new nc13
    have fc13 : upd J12 c13 (.lst (((natB (List.range ls.length)).drop 2).map V.int)) c13 = some (.lst (((natB (List.range ls.length)).drop 2).map V.int)) := upd_same
    generalize upd J12 c13 (.lst (((natB (List.range ls.length)).drop 2).map V.int)) = J13 at tc13 fc13 ⊢
    refine ⟨c12, c13, _, _, rfl, rfl, (tc13 _ _ fc12), fc13, Nat.le_of_lt (sm (by simp only [List.length_append, List.length_map, List.length_cons, List.length_nil, List.length_take, List.length_drop, natB_len]; omega)), fun c14 nc14 => ?_⟩
    have tc14 : Same J13 (upd J13 c14 (.lst ([.bl false, .bl true] ++ ((natB (List.range ls.length)).drop 2).map V.int))) := (Same.refl _).new nc14
    have fc14 : upd J13 c14 (.lst ([.bl false, .bl true] ++ ((natB (List.range ls.length)).drop 2).map V.int)) c14 = some (.lst ([.bl false, .bl true] ++ ((natB (List.range ls.length)).drop 2).map V.int)) := upd_same
    generalize upd J13 c14 (.lst ([.bl false, .bl true] ++ ((natB (List.range ls.length)).drop 2).map V.int)) = J14 at tc14 fc14 ⊢
    refine ⟨_, rfl, _, rfl, od1, _, rfl, SqL.of (tc14 _ _ (tc13 _ _ (tc12 _ _ (tc11 _ _ (tc10 _ _ (tc9 _ _ (tc8 _ _ (tc7 _ _ (tc6 _ _ (tc5 _ _ (tc4 _ _ (tc3 _ _ (tc2 _ _ (tc1 _ _ ford)))))))))))))), fun c15 nc15 => ?_⟩
    rw [show (1 : Int) = ((1 : Nat) : Int) from rfl, cutV_to, ← List.map_take]
    have tc15 : Same J14 (upd J14 c15 (.lst (((natB (List.range ls.length)).take 1).map V.int))) := (Same.refl _).new nc15
    have fc15 : upd J14 c15 (.lst (((natB (List.range ls.length)).take 1).map V.int)) c15 = some (.lst (((natB (List.range ls.length)).take 1).map V.int)) := upd_same
    generalize upd J14 c15 (.lst (((natB (List.range ls.length)).take 1).map V.int)) = J15 at tc15 fc15 ⊢
    refine ⟨(by show 1 ≤ sizeLine; decide), fun c16 nc16 => ?_⟩
    have tc16 : Same J15 (upd J15 c16 (.lst [.bl true])) := (Same.refl _).new nc16
    have fc16 : upd J15 c16 (.lst [.bl true]) c16 = some (.lst [.bl true]) := upd_same
    generalize upd J15 c16 (.lst [.bl true]) = J16 at tc16 fc16 ⊢
    refine ⟨c15, c16, _, _, rfl, rfl, (tc16 _ _ fc15), fc16, Nat.le_of_lt (sm (by simp only [List.length_append, List.length_map, List.length_cons, List.length_nil, List.length_take, List.length_drop, natB_len]; omega)), fun c17 nc17 => ?_⟩
    have tc17 : Same J16 (upd J16 c17 (.lst (((natB (List.range ls.length)).take 1).map V.int ++ [.bl true]))) := (Same.refl _).new nc17
    have fc17 : upd J16 c17 (.lst (((natB (List.range ls.length)).take 1).map V.int ++ [.bl true])) c17 = some (.lst (((natB (List.range ls.length)).take 1).map V.int ++ [.bl true])) := upd_same
    generalize upd J16 c17 (.lst (((natB (List.range ls.length)).take 1).map V.int ++ [.bl true])) = J17 at tc17 fc17 ⊢
    refine ⟨_, rfl, _, rfl, od1, _, rfl, SqL.of (tc17 _ _ (tc16 _ _ (tc15 _ _ (tc14 _ _ (tc13 _ _ (tc12 _ _ (tc11 _ _ (tc10 _ _ (tc9 _ _ (tc8 _ _ (tc7 _ _ (tc6 _ _ (tc5 _ _ (tc4 _ _ (tc3 _ _ (tc2 _ _ (tc1 _ _ ford))))))))))))))))), fun c18 nc18 => ?_⟩
    rw [cut_from (z := 2) (k := 2) _ rfl, ← List.map_drop]
    have tc18 : Same J17 (upd J17 c18 (.lst (((natB (List.range ls.length)).drop 2).map V.int))) := (Same.refl _).new nc18
    have fc18 : upd J17 c18 (.lst (((natB (List.range ls.length)).drop 2).map V.int)) c18 = some (.lst (((natB (List.range ls.length)).drop 2).map V.int)) := upd_same
    generalize upd J17 c18 (.lst (((natB (List.range ls.length)).drop 2).map V.int)) = J18 at tc18 fc18 ⊢
    refine ⟨c17, c18, _, _, rfl, rfl, (tc18 _ _ fc17), fc18, Nat.le_of_lt (sm (by simp only [List.length_append, List.length_map, List.length_cons, List.length_nil, List.length_take, List.length_drop, natB_len]; omega)), fun c19 nc19 => ?_⟩
    have tc19 : Same J18 (upd J18 c19 (.lst (((natB (List.range ls.length)).take 1).map V.int ++ [.bl true] ++ ((natB (List.range ls.length)).drop 2).map V.int))) := (Same.refl _).new nc19
    have fc19 : upd J18 c19 (.lst (((natB (List.range ls.length)).take 1).map V.int ++ [.bl true] ++ ((natB (List.range ls.length)).drop 2).map V.int)) c19 = some (.lst (((natB (List.range ls.length)).take 1).map V.int ++ [.bl true] ++ ((natB (List.range ls.length)).drop 2).map V.int)) := upd_same
    generalize upd J18 c19 (.lst (((natB (List.range ls.length)).take 1).map V.int ++ [.bl true] ++ ((natB (List.range ls.length)).drop 2).map V.int)) = J19 at tc19 fc19 ⊢
    have sJ : Same J0 J19 := ((((((((((((((((((((Same.refl _).trans tc1).trans tc2).trans tc3).trans tc4).trans tc5).trans tc6).trans tc7).trans tc8).trans tc9).trans tc10).trans tc11).trans tc12).trans tc13).trans tc14).trans tc15).trans tc16).trans tc17).trans tc18).trans tc19)
    have s6J := sord.trans sJ
    have penJ := pen6.same s6J
    refine ⟨(by show 9 ≤ sizeLine; decide), fun q2 hq2 => ?_⟩
    have hq2p : q2 ≠ p := penJ.ne hq2
    have yc1 := (tc19 _ _ (tc18 _ _ (tc17 _ _ (tc16 _ _ (tc15 _ _ (tc14 _ _ (tc13 _ _ (tc12 _ _ (tc11 _ _ (tc10 _ _ (tc9 _ _ (tc8 _ _ (tc7 _ _ (tc6 _ _ (tc5 _ _ (tc4 _ _ (tc3 _ _ (tc2 _ _ fc1))))))))))))))))))
    have yc3 := (tc19 _ _ (tc18 _ _ (tc17 _ _ (tc16 _ _ (tc15 _ _ (tc14 _ _ (tc13 _ _ (tc12 _ _ (tc11 _ _ (tc10 _ _ (tc9 _ _ (tc8 _ _ (tc7 _ _ (tc6 _ _ (tc5 _ _ (tc4 _ _ fc3))))))))))))))))
    have yc6 := (tc19 _ _ (tc18 _ _ (tc17 _ _ (tc16 _ _ (tc15 _ _ (tc14 _ _ (tc13 _ _ (tc12 _ _ (tc11 _ _ (tc10 _ _ (tc9 _ _ (tc8 _ _ (tc7 _ _ fc6)))))))))))))
    have yc9 := (tc19 _ _ (tc18 _ _ (tc17 _ _ (tc16 _ _ (tc15 _ _ (tc14 _ _ (tc13 _ _ (tc12 _ _ (tc11 _ _ (tc10 _ _ fc9))))))))))
    have yc11 := (tc19 _ _ (tc18 _ _ (tc17 _ _ (tc16 _ _ (tc15 _ _ (tc14 _ _ (tc13 _ _ (tc12 _ _ fc11))))))))
    have yc14 := (tc19 _ _ (tc18 _ _ (tc17 _ _ (tc16 _ _ (tc15 _ _ fc14)))))
    have yc19 := fc19
    have bads : ∀ (i : Nat) (v : V), ([V.non, .ref c1, .ref c3, .ref c6, .ref c9, .str "012", .ref c11, .ref c14, .ref c19] : List V)[i]? = some v → Bad ls.length J19 v := by
      intro i v hv
      rcases i with _ | _ | _ | _ | _ | _ | _ | _ | _ | i
      · cases hv; exact .non
      · cases hv; exact .ord yc1 (by rw [List.length_drop, nbl]; omega) (np_len (by rw [List.length_drop, nbl]; omega))
      · cases hv; exact .ord (ns := natB (List.range ls.length) ++ [0]) (by rw [List.map_append]; exact yc3) (by rw [List.length_append, nbl]; show _ + 1 ≤ 100; omega) (np_len (by rw [List.length_append, nbl]; show ¬ _ + 1 = _; omega))
      · cases hv; exact .ord (ns := natB (List.range (ls.length - 1)) ++ [(ls.length : Int)]) (by rw [List.map_append]; exact yc6) (by rw [List.length_append, natB_len]; show _ + 1 ≤ 100; omega) (np_mem (x := (ls.length : Int)) (List.mem_append_right _ (List.mem_singleton.mpr rfl)) (by omega))
      · cases hv
        refine .ord (ns := natB (List.range (ls.length - 1)) ++ [0]) (by rw [List.map_append]; exact yc9) (by rw [List.length_append, natB_len]; show _ + 1 ≤ 100; omega) (np_not (j := ls.length - 1) (by omega) fun m => ?_)
        rcases List.mem_append.mp m with m | m
        · have := natB_mem m
          omega
        · have := List.mem_singleton.mp m
          omega
      · cases hv; exact .str _
      · cases hv
        refine .odd yc11 (by rw [List.length_replicate]; omega) (fun x hx => by rw [(List.mem_replicate.mp hx).2]; exact .non) ?_
        rw [show ls.length = (ls.length - 1) + 1 by omega, List.replicate_succ]
        rfl
      · cases hv
        refine .odd yc14 (by simp only [List.length_append, List.length_map, List.length_cons, List.length_nil, List.length_drop, natB_len]; omega) (fun x hx => ?_) rfl
        rcases List.mem_append.mp hx with m | m
        · rcases List.mem_cons.mp m with rfl | m
          · exact .bl _
          · rw [List.mem_singleton.mp m]; exact .bl _
        · exact sm_ints _ _ m
      · cases hv
        refine .odd yc19 (by simp only [List.length_append, List.length_map, List.length_cons, List.length_nil, List.length_drop, List.length_take, natB_len]; omega) (fun x hx => ?_) (List.all_eq_false.mpr ⟨.bl true, List.mem_append_left _ (List.mem_append_right _ (List.mem_singleton.mpr rfl)), by decide⟩)
        rcases List.mem_append.mp hx with m | m
        · rcases List.mem_append.mp m with m | m
          · exact sm_ints _ _ m
          · rw [List.mem_singleton.mp m]; exact .bl _
        · exact sm_ints _ _ m
      · cases hv
    refine ⟨p, q2, e, _, n + 1 + 1 + 1, rfl, SqL.of upd_same, hq2p, (by show 1 ≤ 9; decide), (by show 9 ≤ 1000; decide), by omega, penJ.put hq2, fun i2 bad HB hv2 k6 penB => ?_⟩
    have pq : PenAt K (upd J19 q2 (.lst [V.non, .ref c1, .ref c3, .ref c6, .ref c9, .str "012", .ref c11, .ref c14, .ref c19])) p e (n + 1 + 1 + 1) := penJ.put hq2
    have sq : Same J19 (upd J19 q2 (.lst [V.non, .ref c1, .ref c3, .ref c6, .ref c9, .str "012", .ref c11, .ref c14, .ref c19])) := (Same.refl _).new hq2
    have badB := ((bads i2 bad hv2).ext (ExtN.of sq)).but k6 pq
    have elfB := ((elf6.ext (ExtN.of s6J)).ext (ExtN.of sq)).but k6 pq
    have eloB := ((elo6.ext (ExtN.of s6J)).ext (ExtN.of sq)).but k6 pq
    have k2B : But p H2 HB := ((k26.trans (But.of s6J)).trans (But.of sq)).trans k6
    have k0B : But p H HB := (But.of s2).trans k2B
    obtain ⟨pl, hpl⟩ := pen.some
    have tabB := tabs_but tab k0B hpl
    have rgB := rg2.but k2B hpl2
    have hlB := k0B _ _ hlp hl
    obtain ⟨dx, t, hrB, htB⟩ := id rgB
    clear bads hv2 sJ s6J pq sq k26 k6 hq2p penJ elf6 elo6 pen6 sord ford nod tc1 fc1 nc1 tc2 fc2 nc2 tc3 fc3 nc3 tc4 fc4 nc4 tc5 fc5 nc5 tc6 fc6 nc6 tc7 fc7 nc7 tc8 fc8 nc8 tc9 fc9 nc9 tc10 fc10 nc10 tc11 fc11 nc11 tc12 fc12 nc12 tc13 fc13 nc13 tc14 fc14 nc14 tc15 fc15 nc15 tc16 fc16 nc16 tc17 fc17 nc17 tc18 fc18 nc18 tc19 fc19 nc19 yc1 yc3 yc6 yc9 yc11 yc14 yc19
    have bb := bd.get hb
    refine hear (C := hc.n) (fs := [("value", far)]) (its := [.str "bar", far]) (.n _) tabB (fun E' J Q' xJ er => ?_) fun M p0 xM tM hpM => ⟨(by show 1 ≤ sizeLine; decide), fun h nh => ?_⟩
    · have er2 := hc3 ▸ er
      exact ⟨_, rfl, r, dx, _, rfl, xJ _ _ hrB (fun _ z => nomatch z), no_m (by decide +kernel) (by decide +kernel) (by decide +kernel) (by decide +kernel), _, rfl, _, rfl, r, far, odd, kf, ko, ls, rfl, rgB.ext xJ, l3, l8, bd, (elfB.ext xJ).kndI, (eloB.ext xJ).kndI, .inl ⟨wf, er2⟩⟩
    have hs1 : HS K (T2 P1 P2) HB (upd M h (.lst [.ref p0])) h [.ref p0] [([.str "bar", far], [.str "bar", df])] := HS.first xM tM hpM (fun M' x' => .cons (.str _) (.cons (elfB.ext x').dp .nil)) nh
    generalize upd M h (.lst [.ref p0]) = L1 at hs1 ⊢
    generalize ([V.ref p0] : List V) = dn1 at hs1 ⊢
    clear xM tM hpM nh
    refine ⟨_, rfl, .inl ⟨rfl, _, SqL.of hs1.hh⟩, ?_⟩
    refine hear (C := hc.b) (fs := [("part", .str "length")]) (its := [.str "number", .str "length"]) (.b _) hs1.tab (fun E' J Q' xJ0 er => ?_) fun M p1 xM tM hpM => ?_
    · have xJ := hs1.x.trans xJ0
      have er2 := hc4 ▸ er
      exact ⟨_, rfl, r, dx, _, rfl, xJ _ _ hrB (fun _ z => nomatch z), no_m (by decide +kernel) (by decide +kernel) (by decide +kernel) (by decide +kernel), _, rfl, _, rfl, r, _, odd, "int", ko, ls, rfl, rgB.ext xJ, l3, l8, bd, ⟨Knd.int, fun _ => ⟨_, rfl⟩⟩, (eloB.ext xJ).kndI, .inr (.inl ⟨win_int (by omega) (by omega), wo _ (by omega), er2⟩)⟩
    obtain ⟨hm, hsn⟩ := hs1.app (q := ([.str "number", .str "length"], [.str "number", .str "length"])) xM tM hpM (fun M' x' => .cons (.str _) (.cons (.str _) .nil))
    have hs2 : HS K (T2 P1 P2) HB (upd M h (.lst (dn1 ++ [.ref p1]))) h (dn1 ++ [.ref p1]) [([.str "bar", far], [.str "bar", df]), ([.str "number", .str "length"], [.str "number", .str "length"])] := hsn
    refine ⟨h, dn1, _, rfl, rfl, hm, by rw [par_len hs1.pt]; exact sm (show 1 ≤ 10000 by decide), ?_⟩
    generalize upd M h (.lst (dn1 ++ [.ref p1])) = L2 at hs2 ⊢
    generalize dn1 ++ [V.ref p1] = dn2 at hs2 ⊢
    clear hs1 hsn hm xM tM hpM
    refine ⟨_, rfl, .inl ⟨rfl, _, SqL.of hs2.hh⟩, ?_⟩
    refine hear (C := hc.n) (fs := [("value", far)]) (its := [.str "bar", far]) (.n _) hs2.tab (fun E' J Q' xJ0 er => ?_) fun M p2 xM tM hpM => ?_
    · have xJ := hs2.x.trans xJ0
      have er2 := hc3 ▸ er
      exact ⟨_, rfl, r, dx, _, rfl, xJ _ _ hrB (fun _ z => nomatch z), no_m (by decide +kernel) (by decide +kernel) (by decide +kernel) (by decide +kernel), _, rfl, r, far, kf, ls, rfl, rgB.ext xJ, l3, l8, bd, (elfB.ext xJ).kndI, .inl ⟨wf, er2⟩⟩
    obtain ⟨hm, hsn⟩ := hs2.app (q := ([.str "bar", far], [.str "bar", df])) xM tM hpM (fun M' x' => .cons (.str _) (.cons (elfB.ext x').dp .nil))
    have hs3 : HS K (T2 P1 P2) HB (upd M h (.lst (dn2 ++ [.ref p2]))) h (dn2 ++ [.ref p2]) [([.str "bar", far], [.str "bar", df]), ([.str "number", .str "length"], [.str "number", .str "length"]), ([.str "bar", far], [.str "bar", df])] := hsn
    refine ⟨h, dn2, _, rfl, rfl, hm, by rw [par_len hs2.pt]; exact sm (show 2 ≤ 10000 by decide), ?_⟩
    generalize upd M h (.lst (dn2 ++ [.ref p2])) = L3 at hs3 ⊢
    generalize dn2 ++ [V.ref p2] = dn3 at hs3 ⊢
    clear hs2 hsn hm xM tM hpM
    refine ⟨_, rfl, .inl ⟨rfl, _, SqL.of hs3.hh⟩, ?_⟩
    refine hear (C := hc.n) (fs := [("value", far)]) (its := [.str "bar", far]) (.n _) hs3.tab (fun E' J Q' xJ0 er => ?_) fun M p3 xM tM hpM => ?_
    · have xJ := hs3.x.trans xJ0
      have er2 := hc3 ▸ er
      exact ⟨_, rfl, r, dx, _, rfl, xJ _ _ hrB (fun _ z => nomatch z), no_m (by decide +kernel) (by decide +kernel) (by decide +kernel) (by decide +kernel), _, rfl, r, far, kf, ls, rfl, rgB.ext xJ, l3, l8, (elfB.ext xJ).kndI, .inl ⟨wf, er2⟩⟩
    obtain ⟨hm, hsn⟩ := hs3.app (q := ([.str "bar", far], [.str "bar", df])) xM tM hpM (fun M' x' => .cons (.str _) (.cons (elfB.ext x').dp .nil))
    have hs4 : HS K (T2 P1 P2) HB (upd M h (.lst (dn3 ++ [.ref p3]))) h (dn3 ++ [.ref p3]) [([.str "bar", far], [.str "bar", df]), ([.str "number", .str "length"], [.str "number", .str "length"]), ([.str "bar", far], [.str "bar", df]), ([.str "bar", far], [.str "bar", df])] := hsn
    refine ⟨h, dn3, _, rfl, rfl, hm, by rw [par_len hs3.pt]; exact sm (show 3 ≤ 10000 by decide), ?_⟩
    generalize upd M h (.lst (dn3 ++ [.ref p3])) = L4 at hs4 ⊢
    generalize dn3 ++ [V.ref p3] = dn4 at hs4 ⊢
    clear hs3 hsn hm xM tM hpM
    refine ⟨_, rfl, .inl ⟨rfl, _, SqL.of hs4.hh⟩, ?_⟩
    refine hear (C := hc.n) (fs := [("value", far)]) (its := [.str "bar", far]) (.n _) hs4.tab (fun E' J Q' xJ0 er => ?_) fun M p4 xM tM hpM => ?_
    · have xJ := hs4.x.trans xJ0
      have er2 := hc3 ▸ er
      exact ⟨_, rfl, r, dx, _, rfl, xJ _ _ hrB (fun _ z => nomatch z), no_m (by decide +kernel) (by decide +kernel) (by decide +kernel) (by decide +kernel), _, rfl, _, rfl, r, far, odd, kf, ko, ls, rfl, rgB.ext xJ, l3, l8, (elfB.ext xJ).kndI, (eloB.ext xJ).kndI, .inl ⟨wf, er2⟩⟩
    obtain ⟨hm, hsn⟩ := hs4.app (q := ([.str "bar", far], [.str "bar", df])) xM tM hpM (fun M' x' => .cons (.str _) (.cons (elfB.ext x').dp .nil))
    have hs5 : HS K (T2 P1 P2) HB (upd M h (.lst (dn4 ++ [.ref p4]))) h (dn4 ++ [.ref p4]) [([.str "bar", far], [.str "bar", df]), ([.str "number", .str "length"], [.str "number", .str "length"]), ([.str "bar", far], [.str "bar", df]), ([.str "bar", far], [.str "bar", df]), ([.str "bar", far], [.str "bar", df])] := hsn
    refine ⟨h, dn4, _, rfl, rfl, hm, by rw [par_len hs4.pt]; exact sm (show 4 ≤ 10000 by decide), ?_⟩
    generalize upd M h (.lst (dn4 ++ [.ref p4])) = L5 at hs5 ⊢
    generalize dn4 ++ [V.ref p4] = dn5 at hs5 ⊢
    clear hs4 hsn hm xM tM hpM
    refine ⟨_, rfl, .inl ⟨rfl, _, SqL.of hs5.hh⟩, ?_⟩
    refine hear (C := hc.b) (fs := [("part", .str "length")]) (its := [.str "number", .str "length"]) (.b _) hs5.tab (fun E' J Q' xJ0 er => ?_) fun M p5 xM tM hpM => ?_
    · have xJ := hs5.x.trans xJ0
      have er2 := hc4 ▸ er
      exact ⟨_, rfl, r, dx, _, rfl, xJ _ _ hrB (fun _ z => nomatch z), no_m (by decide +kernel) (by decide +kernel) (by decide +kernel) (by decide +kernel), _, rfl, _, rfl, r, _, odd, "int", ko, ls, rfl, rgB.ext xJ, l3, l8, ⟨Knd.int, fun _ => ⟨_, rfl⟩⟩, (eloB.ext xJ).kndI, .inr ⟨b, rfl, rfl, hb, .inl ⟨wo _ (by omega), er2⟩⟩⟩
    obtain ⟨hm, hsn⟩ := hs5.app (q := ([.str "number", .str "length"], [.str "number", .str "length"])) xM tM hpM (fun M' x' => .cons (.str _) (.cons (.str _) .nil))
    have hs6 : HS K (T2 P1 P2) HB (upd M h (.lst (dn5 ++ [.ref p5]))) h (dn5 ++ [.ref p5]) [([.str "bar", far], [.str "bar", df]), ([.str "number", .str "length"], [.str "number", .str "length"]), ([.str "bar", far], [.str "bar", df]), ([.str "bar", far], [.str "bar", df]), ([.str "bar", far], [.str "bar", df]), ([.str "number", .str "length"], [.str "number", .str "length"])] := hsn
    refine ⟨h, dn5, _, rfl, rfl, hm, by rw [par_len hs5.pt]; exact sm (show 5 ≤ 10000 by decide), ?_⟩
    generalize upd M h (.lst (dn5 ++ [.ref p5])) = L6 at hs6 ⊢
    generalize dn5 ++ [V.ref p5] = dn6 at hs6 ⊢
    clear hs5 hsn hm xM tM hpM
    refine ⟨_, rfl, .inl ⟨rfl, _, SqL.of hs6.hh⟩, ?_⟩
    refine hear (C := hc.b) (fs := [("part", .str "length")]) (its := [.str "number", .str "length"]) (.b _) hs6.tab (fun E' J Q' xJ0 er => ?_) fun M p6 xM tM hpM => ?_
    · have xJ := hs6.x.trans xJ0
      have er2 := hc4 ▸ er
      exact ⟨_, rfl, r, dx, _, rfl, xJ _ _ hrB (fun _ z => nomatch z), no_m (by decide +kernel) (by decide +kernel) (by decide +kernel) (by decide +kernel), _, rfl, _, rfl, _, rfl, l, _, _, _, rfl, rfl, SqL.of (xJ _ _ hlB (fun _ z => nomatch z)), getL rfl hb, r, _, _, "int", "int", ls, rfl, rgB.ext xJ, l3, l8, ⟨Knd.int, fun _ => ⟨_, rfl⟩⟩, ⟨Knd.int, fun _ => ⟨_, rfl⟩⟩, .inr ⟨b, rfl, rfl, hb, .inl ⟨by simp [winB]; omega, er2⟩⟩⟩
    obtain ⟨hm, hsn⟩ := hs6.app (q := ([.str "number", .str "length"], [.str "number", .str "length"])) xM tM hpM (fun M' x' => .cons (.str _) (.cons (.str _) .nil))
    have hs7 : HS K (T2 P1 P2) HB (upd M h (.lst (dn6 ++ [.ref p6]))) h (dn6 ++ [.ref p6]) [([.str "bar", far], [.str "bar", df]), ([.str "number", .str "length"], [.str "number", .str "length"]), ([.str "bar", far], [.str "bar", df]), ([.str "bar", far], [.str "bar", df]), ([.str "bar", far], [.str "bar", df]), ([.str "number", .str "length"], [.str "number", .str "length"]), ([.str "number", .str "length"], [.str "number", .str "length"])] := hsn
    refine ⟨h, dn6, _, rfl, rfl, hm, by rw [par_len hs6.pt]; exact sm (show 6 ≤ 10000 by decide), ?_⟩
    generalize upd M h (.lst (dn6 ++ [.ref p6])) = L7 at hs7 ⊢
    generalize dn6 ++ [V.ref p6] = dn7 at hs7 ⊢
    clear hs6 hsn hm xM tM hpM
    refine ⟨_, rfl, .inl ⟨rfl, _, SqL.of hs7.hh⟩, ?_⟩
    refine hear (C := hc.b) (fs := [("part", .str "order")]) (its := [.str "number", .str "order"]) (.b _) hs7.tab (fun E' J Q' xJ0 er => ?_) fun M p7 xM tM hpM => ?_
    · have xJ := hs7.x.trans xJ0
      have er2 := hc4 ▸ er
      exact ⟨_, rfl, r, dx, _, rfl, xJ _ _ hrB (fun _ z => nomatch z), no_m (by decide +kernel) (by decide +kernel) (by decide +kernel) (by decide +kernel), _, rfl, (badB.ext xJ).lots (rgB.ext xJ) l3 l8 bd er2⟩
    obtain ⟨hm, hsn⟩ := hs7.app (q := ([.str "number", .str "order"], [.str "number", .str "order"])) xM tM hpM (fun M' x' => .cons (.str _) (.cons (.str _) .nil))
    have hs8 : HS K (T2 P1 P2) HB (upd M h (.lst (dn7 ++ [.ref p7]))) h (dn7 ++ [.ref p7]) [([.str "bar", far], [.str "bar", df]), ([.str "number", .str "length"], [.str "number", .str "length"]), ([.str "bar", far], [.str "bar", df]), ([.str "bar", far], [.str "bar", df]), ([.str "bar", far], [.str "bar", df]), ([.str "number", .str "length"], [.str "number", .str "length"]), ([.str "number", .str "length"], [.str "number", .str "length"]), ([.str "number", .str "order"], [.str "number", .str "order"])] := hsn
    refine ⟨h, dn7, _, rfl, rfl, hm, by rw [par_len hs7.pt]; exact sm (show 7 ≤ 10000 by decide), ?_⟩
    generalize upd M h (.lst (dn7 ++ [.ref p7])) = L8 at hs8 ⊢
    generalize dn7 ++ [V.ref p7] = dn8 at hs8 ⊢
    clear hs7 hsn hm xM tM hpM
    have hdone := hs8.hh
    have x8 := hs8.x
    have tab8 := hs8.tab
    have pt8 : PT K HB L8 dn8 [([.str "bar", far], [.str "bar", df]), ([.str "number", .str "length"], [.str "number", .str "length"]), ([.str "bar", far], [.str "bar", df]), ([.str "bar", far], [.str "bar", df]), ([.str "bar", far], [.str "bar", df]), ([.str "number", .str "length"], [.str "number", .str "length"]), ([.str "number", .str "length"], [.str "number", .str "length"]), ([.str "number", .str "order"], [.str "number", .str "order"])] := hs8.pt
    -- due
    refine ⟨_, rfl, (by show 2 ≤ sizeLine; decide), fun d1 nd1 => ?_⟩
    have td1 : Same L8 (upd L8 d1 (.tup [.str "bar", far])) := (Same.refl _).new nd1
    have fd1 : upd L8 d1 (.tup [.str "bar", far]) d1 = some (.tup [.str "bar", far]) := upd_same
    generalize upd L8 d1 (.tup [.str "bar", far]) = Q1 at td1 fd1 ⊢
    refine ⟨(by show 2 ≤ sizeLine; decide), fun d2 nd2 => ?_⟩
    have td2 : Same Q1 (upd Q1 d2 (.tup [.str "number", .str "length"])) := (Same.refl _).new nd2
    have fd2 : upd Q1 d2 (.tup [.str "number", .str "length"]) d2 = some (.tup [.str "number", .str "length"]) := upd_same
    generalize upd Q1 d2 (.tup [.str "number", .str "length"]) = Q2 at td2 fd2 ⊢
    refine ⟨_, rfl, (by show 2 ≤ sizeLine; decide), fun d3 nd3 => ?_⟩
    have td3 : Same Q2 (upd Q2 d3 (.tup [.str "bar", far])) := (Same.refl _).new nd3
    have fd3 : upd Q2 d3 (.tup [.str "bar", far]) d3 = some (.tup [.str "bar", far]) := upd_same
    generalize upd Q2 d3 (.tup [.str "bar", far]) = Q3 at td3 fd3 ⊢
    refine ⟨_, rfl, (by show 2 ≤ sizeLine; decide), fun d4 nd4 => ?_⟩
    have td4 : Same Q3 (upd Q3 d4 (.tup [.str "bar", far])) := (Same.refl _).new nd4
    have fd4 : upd Q3 d4 (.tup [.str "bar", far]) d4 = some (.tup [.str "bar", far]) := upd_same
    generalize upd Q3 d4 (.tup [.str "bar", far]) = Q4 at td4 fd4 ⊢
    refine ⟨_, rfl, (by show 2 ≤ sizeLine; decide), fun d5 nd5 => ?_⟩
    have td5 : Same Q4 (upd Q4 d5 (.tup [.str "bar", far])) := (Same.refl _).new nd5
    have fd5 : upd Q4 d5 (.tup [.str "bar", far]) d5 = some (.tup [.str "bar", far]) := upd_same
    generalize upd Q4 d5 (.tup [.str "bar", far]) = Q5 at td5 fd5 ⊢
    refine ⟨(by show 5 ≤ sizeLine; decide), fun d6 nd6 => ?_⟩
    have td6 : Same Q5 (upd Q5 d6 (.lst [.ref d1, .ref d2, .ref d3, .ref d4, .ref d5])) := (Same.refl _).new nd6
    have fd6 : upd Q5 d6 (.lst [.ref d1, .ref d2, .ref d3, .ref d4, .ref d5]) d6 = some (.lst [.ref d1, .ref d2, .ref d3, .ref d4, .ref d5]) := upd_same
    generalize upd Q5 d6 (.lst [.ref d1, .ref d2, .ref d3, .ref d4, .ref d5]) = Q6 at td6 fd6 ⊢
    refine ⟨(by show 2 ≤ sizeLine; decide), fun d7 nd7 => ?_⟩
    have td7 : Same Q6 (upd Q6 d7 (.tup [.str "number", .str "length"])) := (Same.refl _).new nd7
    have fd7 : upd Q6 d7 (.tup [.str "number", .str "length"]) d7 = some (.tup [.str "number", .str "length"]) := upd_same
    generalize upd Q6 d7 (.tup [.str "number", .str "length"]) = Q7 at td7 fd7 ⊢
    refine ⟨(by show 1 ≤ sizeLine; decide), fun d8 nd8 => ?_⟩
    have td8 : Same Q7 (upd Q7 d8 (.lst [.ref d7])) := (Same.refl _).new nd8
    have fd8 : upd Q7 d8 (.lst [.ref d7]) d8 = some (.lst [.ref d7]) := upd_same
    generalize upd Q7 d8 (.lst [.ref d7]) = Q8 at td8 fd8 ⊢
    refine ⟨d8, 2, _, rfl, rfl, fd8, by decide, by decide, (by show 2 ≤ sizeLine; decide), fun d9 nd9 => ?_⟩
    rw [show (List.replicate (Int.toNat 2) [V.ref d7]).flatten = [.ref d7, .ref d7] from rfl]
    have td9 : Same Q8 (upd Q8 d9 (.lst [.ref d7, .ref d7])) := (Same.refl _).new nd9
    have fd9 : upd Q8 d9 (.lst [.ref d7, .ref d7]) d9 = some (.lst [.ref d7, .ref d7]) := upd_same
    generalize upd Q8 d9 (.lst [.ref d7, .ref d7]) = Q9 at td9 fd9 ⊢
    refine ⟨d6, d9, _, _, rfl, rfl, (td9 _ _ (td8 _ _ (td7 _ _ fd6))), fd9, (by show 7 ≤ sizeLine; decide), fun d10 nd10 => ?_⟩
    rw [show (([.ref d1, .ref d2, .ref d3, .ref d4, .ref d5] : List V) ++ [.ref d7, .ref d7]) = [.ref d1, .ref d2, .ref d3, .ref d4, .ref d5, .ref d7, .ref d7] from rfl]
    have td10 : Same Q9 (upd Q9 d10 (.lst [.ref d1, .ref d2, .ref d3, .ref d4, .ref d5, .ref d7, .ref d7])) := (Same.refl _).new nd10
    have fd10 : upd Q9 d10 (.lst [.ref d1, .ref d2, .ref d3, .ref d4, .ref d5, .ref d7, .ref d7]) d10 = some (.lst [.ref d1, .ref d2, .ref d3, .ref d4, .ref d5, .ref d7, .ref d7]) := upd_same
    generalize upd Q9 d10 (.lst [.ref d1, .ref d2, .ref d3, .ref d4, .ref d5, .ref d7, .ref d7]) = Q10 at td10 fd10 ⊢
    refine ⟨_, rfl, _, rfl, (by show 2 ≤ sizeLine; decide), fun d11 nd11 => ?_⟩
    have td11 : Same Q10 (upd Q10 d11 (.tup [.str "number", .str "order"])) := (Same.refl _).new nd11
    have fd11 : upd Q10 d11 (.tup [.str "number", .str "order"]) d11 = some (.tup [.str "number", .str "order"]) := upd_same
    generalize upd Q10 d11 (.tup [.str "number", .str "order"]) = Q11 at td11 fd11 ⊢
    refine ⟨(by show 1 ≤ sizeLine; decide), fun d12 nd12 => ?_⟩
    have td12 : Same Q11 (upd Q11 d12 (.lst [.ref d11])) := (Same.refl _).new nd12
    have fd12 : upd Q11 d12 (.lst [.ref d11]) d12 = some (.lst [.ref d11]) := upd_same
    generalize upd Q11 d12 (.lst [.ref d11]) = Q12 at td12 fd12 ⊢
    refine ⟨d10, d12, _, _, rfl, rfl, (td12 _ _ (td11 _ _ fd10)), fd12, (by show 8 ≤ sizeLine; decide), fun d13 nd13 => ?_⟩
    rw [show (([.ref d1, .ref d2, .ref d3, .ref d4, .ref d5, .ref d7, .ref d7] : List V) ++ [.ref d11]) = [.ref d1, .ref d2, .ref d3, .ref d4, .ref d5, .ref d7, .ref d7, .ref d11] from rfl]
    have td13 : Same Q12 (upd Q12 d13 (.lst [.ref d1, .ref d2, .ref d3, .ref d4, .ref d5, .ref d7, .ref d7, .ref d11])) := (Same.refl _).new nd13
    have fd13 : upd Q12 d13 (.lst [.ref d1, .ref d2, .ref d3, .ref d4, .ref d5, .ref d7, .ref d7, .ref d11]) d13 = some (.lst [.ref d1, .ref d2, .ref d3, .ref d4, .ref d5, .ref d7, .ref d7, .ref d11]) := upd_same
    generalize upd Q12 d13 (.lst [.ref d1, .ref d2, .ref d3, .ref d4, .ref d5, .ref d7, .ref d7, .ref d11]) = Q13 at td13 fd13 ⊢
    have sQ : Same L8 Q13 := ((((((((((((((Same.refl _).trans td1).trans td2).trans td3).trans td4).trans td5).trans td6).trans td7).trans td8).trans td9).trans td10).trans td11).trans td12).trans td13)
    have xQ : ExtN HB Q13 := x8.trans (ExtN.of sQ)
    have dpF := (elfB.ext xQ).dp (K := K)
    have ptQ : DpAll K Q13 dn8 (DS df) := PT.dp xQ (par_imp (fun _ _ ⟨a, e1, h1, d1⟩ => ⟨a, e1, sQ _ _ h1, d1⟩) pt8)
    have dueD : DpAll K Q13 [.ref d1, .ref d2, .ref d3, .ref d4, .ref d5, .ref d7, .ref d7, .ref d11] (DS df) := (.cons (.tup (.inl (.inl (td13 _ _ (td12 _ _ (td11 _ _ (td10 _ _ (td9 _ _ (td8 _ _ (td7 _ _ (td6 _ _ (td5 _ _ (td4 _ _ (td3 _ _ (td2 _ _ fd1)))))))))))))) (.cons (.str _) (.cons dpF .nil))) (.cons (.tup (.inl (.inl (td13 _ _ (td12 _ _ (td11 _ _ (td10 _ _ (td9 _ _ (td8 _ _ (td7 _ _ (td6 _ _ (td5 _ _ (td4 _ _ (td3 _ _ fd2))))))))))))) (.cons (.str _) (.cons (.str _) .nil))) (.cons (.tup (.inl (.inl (td13 _ _ (td12 _ _ (td11 _ _ (td10 _ _ (td9 _ _ (td8 _ _ (td7 _ _ (td6 _ _ (td5 _ _ (td4 _ _ fd3)))))))))))) (.cons (.str _) (.cons dpF .nil))) (.cons (.tup (.inl (.inl (td13 _ _ (td12 _ _ (td11 _ _ (td10 _ _ (td9 _ _ (td8 _ _ (td7 _ _ (td6 _ _ (td5 _ _ fd4))))))))))) (.cons (.str _) (.cons dpF .nil))) (.cons (.tup (.inl (.inl (td13 _ _ (td12 _ _ (td11 _ _ (td10 _ _ (td9 _ _ (td8 _ _ (td7 _ _ (td6 _ _ fd5)))))))))) (.cons (.str _) (.cons dpF .nil))) (.cons (.tup (.inl (.inl (td13 _ _ (td12 _ _ (td11 _ _ (td10 _ _ (td9 _ _ (td8 _ _ fd7)))))))) (.cons (.str _) (.cons (.str _) .nil))) (.cons (.tup (.inl (.inl (td13 _ _ (td12 _ _ (td11 _ _ (td10 _ _ (td9 _ _ (td8 _ _ fd7)))))))) (.cons (.str _) (.cons (.str _) .nil))) (.cons (.tup (.inl (.inl (td13 _ _ (td12 _ _ fd11)))) (.cons (.str _) (.cons (.str _) .nil))) .nil))))))))
    refine ⟨_, _, .lst (SqL.of (sQ _ _ hdone)) ptQ, .lst (SqL.of fd13) dueD, ds_shaped elfB.lay, ds_shaped elfB.lay, _, rfl, iteBF (ds_eqv elfB.lay) ?_⟩
    have tabQ := tab8.ext sQ
    clear dueD ptQ dpF sQ pt8 x8 tab8 hdone hs8 td1 fd1 nd1 td2 fd2 nd2 td3 fd3 nd3 td4 fd4 nd4 td5 fd5 nd5 td6 fd6 nd6 td7 fd7 nd7 td8 fd8 nd8 td9 fd9 nd9 td10 fd10 nd10 td11 fd11 nd11 td12 fd12 nd12 td13 fd13 nd13
    -- great
    refine ⟨(by show 3 ≤ sizeLine; decide), fun g0 ng0 => ?_⟩
    have tg0 : Same Q13 (upd Q13 g0 (.lst [.int 1000000, .int 1000000, .int 1])) := (Same.refl _).new ng0
    have fg0 : upd Q13 g0 (.lst [.int 1000000, .int 1000000, .int 1]) g0 = some (.lst [.int 1000000, .int 1000000, .int 1]) := upd_same
    generalize upd Q13 g0 (.lst [.int 1000000, .int 1000000, .int 1]) = U1 at tg0 fg0 ⊢
    refine made2 (ls := [1000000, 1000000, 1]) (.inl fg0) (by show ∀ x ∈ _, _; decide) (by decide) (by decide) fun gr HC rgG sG nG => ⟨rfl, ?_⟩
    obtain ⟨dxg, tg, hrG, htG⟩ := id rgG
    have tabC : Tabs (T2 P1 P2) HC := (tabQ.ext tg0).ext sG
    have xC : ExtN HB HC := (xQ.trans (ExtN.of tg0)).trans (ExtN.of sG)
    refine hear (C := hc.r) (fs := [("part", .str "lengths")]) (its := [.str "ring", .str "lengths"]) (.r _) tabC (fun E' J Q' xJ er => ?_) fun M p0 xM tM hpM => ⟨(by show 1 ≤ sizeLine; decide), fun h2 nh => ?_⟩
    · have er2 := hc1 ▸ er
      exact ⟨_, rfl, gr, dxg, _, rfl, xJ _ _ hrG (fun _ z => nomatch z), no_m (by decide +kernel) (by decide +kernel) (by decide +kernel) (by decide +kernel), gr, _, "int", [1000000, 1000000, 1], rfl, rgG.ext xJ, by decide, by decide, ⟨Knd.int, fun _ => ⟨_, rfl⟩⟩, .inr ⟨0, rfl, rfl, by decide, .inl ⟨fun z => absurd (z 2000000 (by decide)).2 (by decide), er2⟩⟩⟩
    have hs1 : HS K (T2 P1 P2) HC (upd M h2 (.lst [.ref p0])) h2 [.ref p0] [([.str "ring", .str "lengths"], [.str "ring", .str "lengths"])] := HS.first xM tM hpM (fun M' x' => .cons (.str _) (.cons (.str _) .nil)) nh
    generalize upd M h2 (.lst [.ref p0]) = W1 at hs1 ⊢
    generalize ([V.ref p0] : List V) = en1 at hs1 ⊢
    clear xM tM hpM nh
    refine ⟨_, rfl, .inl ⟨rfl, _, SqL.of hs1.hh⟩, ?_⟩
    refine hear (C := hc.r) (fs := [("part", .str "lengths")]) (its := [.str "ring", .str "lengths"]) (.r _) hs1.tab (fun E' J Q' xJ0 er => ?_) fun M p1 xM tM hpM => ?_
    · have xJ := hs1.x.trans xJ0
      have er2 := hc1 ▸ er
      exact ⟨_, rfl, gr, dxg, _, rfl, xJ _ _ hrG (fun _ z => nomatch z), no_m (by decide +kernel) (by decide +kernel) (by decide +kernel) (by decide +kernel), gr, _, "int", [1000000, 1000000, 1], rfl, rgG.ext xJ, by decide, by decide, ⟨Knd.int, fun _ => ⟨_, rfl⟩⟩, .inr ⟨1, rfl, rfl, by decide, .inl ⟨fun z => absurd (z 1000001 (by decide)).2 (by decide), er2⟩⟩⟩
    obtain ⟨hm, hsn⟩ := hs1.app (q := ([.str "ring", .str "lengths"], [.str "ring", .str "lengths"])) xM tM hpM (fun M' x' => .cons (.str _) (.cons (.str _) .nil))
    have hs2 : HS K (T2 P1 P2) HC (upd M h2 (.lst (en1 ++ [.ref p1]))) h2 (en1 ++ [.ref p1]) [([.str "ring", .str "lengths"], [.str "ring", .str "lengths"]), ([.str "ring", .str "lengths"], [.str "ring", .str "lengths"])] := hsn
    refine ⟨h2, en1, _, rfl, rfl, hm, by rw [par_len hs1.pt]; exact sm (show 1 ≤ 10000 by decide), ?_⟩
    generalize upd M h2 (.lst (en1 ++ [.ref p1])) = W2 at hs2 ⊢
    generalize en1 ++ [V.ref p1] = en2 at hs2 ⊢
    clear hs1 hsn hm xM tM hpM
    refine ⟨_, rfl, .inl ⟨rfl, _, SqL.of hs2.hh⟩, ?_⟩
    refine hear (C := hc.r) (fs := [("part", .str "lengths")]) (its := [.str "ring", .str "lengths"]) (.r _) hs2.tab (fun E' J Q' xJ0 er => ?_) fun M p2 xM tM hpM => ?_
    · have xJ := hs2.x.trans xJ0
      have er2 := hc1 ▸ er
      refine ⟨(by show 4 ≤ sizeLine; decide), fun aa naa => ?_⟩
      refine made2 (ls := [1, 1, 1, 1000000]) (.inl upd_same) (by show ∀ x ∈ _, _; decide) (by decide) (by decide) fun rr HR rgR sR nR => ⟨rfl, ?_⟩
      obtain ⟨dxr, tr, hrR, htR⟩ := id rgR
      exact ⟨rr, dxr, _, rfl, hrR, no_m (by decide +kernel) (by decide +kernel) (by decide +kernel) (by decide +kernel), rr, _, "int", [1, 1, 1, 1000000], rfl, rgR, by decide, by decide, ⟨Knd.int, fun _ => ⟨_, rfl⟩⟩, .inr ⟨3, rfl, rfl, by decide, .inl ⟨fun z => absurd (z 1000001 (by decide)).2 (by decide), ErrsF.later er2 (((Same.refl J).new naa).trans sR)⟩⟩⟩
    obtain ⟨hm, hsn⟩ := hs2.app (q := ([.str "ring", .str "lengths"], [.str "ring", .str "lengths"])) xM tM hpM (fun M' x' => .cons (.str _) (.cons (.str _) .nil))
    have hs3 : HS K (T2 P1 P2) HC (upd M h2 (.lst (en2 ++ [.ref p2]))) h2 (en2 ++ [.ref p2]) [([.str "ring", .str "lengths"], [.str "ring", .str "lengths"]), ([.str "ring", .str "lengths"], [.str "ring", .str "lengths"]), ([.str "ring", .str "lengths"], [.str "ring", .str "lengths"])] := hsn
    refine ⟨h2, en2, _, rfl, rfl, hm, by rw [par_len hs2.pt]; exact sm (show 2 ≤ 10000 by decide), ?_⟩
    generalize upd M h2 (.lst (en2 ++ [.ref p2])) = W3 at hs3 ⊢
    generalize en2 ++ [V.ref p2] = en3 at hs3 ⊢
    clear hs2 hsn hm xM tM hpM
    -- the end
    refine ⟨_, rfl, (by show 2 ≤ sizeLine; decide), fun e1 ne1 => ?_⟩
    have te1 : Same W3 (upd W3 e1 (.tup [.str "ring", .str "lengths"])) := (Same.refl _).new ne1
    have fe1 : upd W3 e1 (.tup [.str "ring", .str "lengths"]) e1 = some (.tup [.str "ring", .str "lengths"]) := upd_same
    generalize upd W3 e1 (.tup [.str "ring", .str "lengths"]) = Z1 at te1 fe1 ⊢
    refine ⟨(by show 1 ≤ sizeLine; decide), fun e2 ne2 => ?_⟩
    have te2 : Same Z1 (upd Z1 e2 (.lst [.ref e1])) := (Same.refl _).new ne2
    have fe2 : upd Z1 e2 (.lst [.ref e1]) e2 = some (.lst [.ref e1]) := upd_same
    generalize upd Z1 e2 (.lst [.ref e1]) = Z2 at te2 fe2 ⊢
    refine ⟨e2, 3, _, rfl, rfl, fe2, by decide, by decide, (by show 3 ≤ sizeLine; decide), fun e3 ne3 => ?_⟩
    rw [show (List.replicate (Int.toNat 3) [V.ref e1]).flatten = [.ref e1, .ref e1, .ref e1] from rfl]
    have te3 : Same Z2 (upd Z2 e3 (.lst [.ref e1, .ref e1, .ref e1])) := (Same.refl _).new ne3
    have fe3 : upd Z2 e3 (.lst [.ref e1, .ref e1, .ref e1]) e3 = some (.lst [.ref e1, .ref e1, .ref e1]) := upd_same
    generalize upd Z2 e3 (.lst [.ref e1, .ref e1, .ref e1]) = Z3 at te3 fe3 ⊢
    have sZ : Same W3 Z3 := ((((Same.refl _).trans te1).trans te2).trans te3)
    have xZ : ExtN HC Z3 := hs3.x.trans (ExtN.of sZ)
    have ptZ : DpAll K Z3 en3 RL3 := PT.dp xZ (par_imp (fun _ _ ⟨a, e1, h1, d1⟩ => ⟨a, e1, sZ _ _ h1, d1⟩) hs3.pt)
    refine ⟨_, _, .lst (SqL.of (sZ _ _ hs3.hh)) ptZ, .lst (SqL.of fe3) (ds := RL3) (.cons (.tup (.inl (.inl (te3 _ _ (te2 _ _ fe1)))) (.cons (.str _) (.cons (.str _) .nil))) (.cons (.tup (.inl (.inl (te3 _ _ (te2 _ _ fe1)))) (.cons (.str _) (.cons (.str _) .nil))) (.cons (.tup (.inl (.inl (te3 _ _ (te2 _ _ fe1)))) (.cons (.str _) (.cons (.str _) .nil))) .nil))), rl_shaped, rl_shaped, _, rfl, iteBT rl_eqv ?_⟩
    refine ⟨(by show 4 ≤ sizeLine; decide), fun g1 ng1 => ?_⟩
    have tg1 : Same Z3 (upd Z3 g1 (.lst [.int 999999, .int 1, .int 1, .int 1])) := (Same.refl _).new ng1
    have fg1 : upd Z3 g1 (.lst [.int 999999, .int 1, .int 1, .int 1]) g1 = some (.lst [.int 999999, .int 1, .int 1, .int 1]) := upd_same
    generalize upd Z3 g1 (.lst [.int 999999, .int 1, .int 1, .int 1]) = Z4 at tg1 fg1 ⊢
    refine made2 (ls := [999999, 1, 1, 1]) (.inl fg1) (by show ∀ x ∈ _, _; decide) (by decide) (by decide) fun rr HR rgR sR nR => ⟨rfl, ?_⟩
    obtain ⟨dxr, tr, hrR, htR⟩ := id rgR
    refine ⟨rr, dxr, _, rfl, hrR, no_m (by decide +kernel) (by decide +kernel) (by decide +kernel) (by decide +kernel), rr, _, "int", [999999, 1, 1, 1], rfl, rgR, by decide, by decide, ⟨Knd.int, fun _ => ⟨_, rfl⟩⟩, .inr ⟨0, rfl, rfl, by decide, RingRes.fine (by show ∀ x ∈ _, _; decide) (by decide) (by decide) fun r9 HS9 rg9 s9 nr9 => ?_⟩⟩
    obtain ⟨dx9, u9, hr9, hu9⟩ := id rg9
    refine ⟨r9, C, dx9, _, _, rfl, hr9, R.cl, R.nL, rf_lengths _ _, (by show 3 ≤ sizeLine; decide), fun v9 nv9 => ?_⟩
    have sY : Same HS9 (upd HS9 v9 (.tup [.int 1000000, .int 1, .int 1])) := (Same.refl _).new nv9
    refine ⟨_, _, .tup (.inl (.inl (sY _ _ hu9))) (dp_ints _), .tup (.inl (.inl upd_same)) (dp_ints [1000000, 1, 1]), sh_tup _, sh_tup _, ?_⟩
    rw [eqv_tup, decide_eq_true (by decide)]
    have xEnd := (((xC.trans xZ).trans (ExtN.of tg1)).trans (ExtN.of (sR.trans s9))).trans (ExtN.of sY)
    have tEnd := ((((hs3.tab.ext sZ).ext tg1).ext (sR.trans s9)).ext sY)
    exact q _ ((Kp.of_but k0B).ext xEnd) ((penB.ext xEnd).mono (by omega)) tEnd
end
end K
namespace K
open PySem L2 Rg LamX
open Evl (pss_cut)
section
variable {P : Program} {w : World} {K : PySem.W.Frag} {mg : Str → Option Value} {base : Heap}
abbrev nLaw : List Str := ["_law_script", "_law_pen_here", "_law_lap", "_law_lengths_here"]
theorem scLaw : FnScope nLaw ["_law_script"] (defScope sLaw) := ⟨rfl, rfl, rfl, by decide +kernel, rfl, by decide +kernel, by decide +kernel⟩
def spLaw (K : PySem.W.Frag) (P1 P2 : Addr) : Sp := fun vs H Q _ => ∃ (a : Addr) (ns : List Int), vs = [.ref a] ∧ SqL K H a (ns.map V.int) ∧ ns.length ≤ 63 ∧ Tabs (T2 P1 P2) H ∧ ∀ H', Q (.bl true) H'
theorem ok_law {P1 P2 f fP fL fR fW fX : Addr} {fd fdP fdL fdR fdW fdX : FuncData} (F : Fun K "law" "law" sLaw f fd) (T : Bi mg)
    (PN : DefAt P w K mg base CX0 2 "_law_pen" ["_law_script"] (spPen K) fP fdP) (LN : DefAt P w K mg base CX0 3 "_law_lengths" ["_law_pen_here"] (spLengths K) fL fdL)
    (LR : DefAt P w K mg base CX0 7 "_law_renumbered_right" ["_law_pen_here", "_law_lengths_here"] (spRN K) fR fdR) (WR : DefAt P w K mg base CX0 9 "_law_changed_right" ["_law_pen_here", "_law_lengths_here"] (spCH K P1 P2) fW fdW)
    (XR : DefAt P w K mg base CX0 9 "_law_refused_right" ["_law_pen_here", "_law_lengths_here"] (spCH K P1 P2) fX fdX) : FnOk P w K mg base CX0 10 f fd ["_law_script"] (spLaw K P1 P2) := by
  refine F.ok scLaw (fun vs H Q E h => ?_) (fun cdv A outer s H vs Q E hr h => ?_)
  · obtain ⟨a, ns, rfl, _⟩ := h
    rfl
  · have nd := scLaw.nd
    refine ⟨_, pss_cons (ps_set (i := 1) nd rfl (Or.inl rfl) (pe_call PN.ok (hr.mono (by decide)) rfl PN.g PN.kp PN.b .nil pass0 (pa_cons (pv 0) pa_nil)))
      (pss_cons (ps_for PassesOwn.never rfl (pi_range1 (by rfl) T.range (pa_cons pe_int pa_nil)) (pg_name (i := 2) nd rfl (Or.inl rfl))
        (pss_cons (ps_set (i := 3) nd rfl (Or.inl rfl) (pe_call LN.ok (hr.mono (by decide)) rfl LN.g LN.kp LN.b .nil pass0 (pa_cons (pv 1) pa_nil)))
        (pss_one (ps_if (PW.pt (pw_or (pt_not (pt_val (pe_call LR.ok (hr.mono (by decide)) rfl LR.g LR.kp LR.b .nil pass0 (pa_cons (pv 1) (pa_cons (pv 3) pa_nil))))) (pw_or (pt_not (pt_val (pe_call WR.ok hr rfl WR.g WR.kp WR.b .nil pass0 (pa_cons (pv 1) (pa_cons (pv 3) pa_nil))))) (pw_or1 (pt_not (pt_val (pe_call XR.ok hr rfl XR.g XR.kp XR.b .nil pass0 (pa_cons (pv 1) (pa_cons (pv 3) pa_nil))))))))) (pss_one ps_never) pss_nil))))
      (pss_one (ps_ret pe_bl))), ?_⟩
    obtain ⟨a, ns, rfl, hs, hl, tab, q⟩ := h
    refine ⟨_, rfl, a, ns, rfl, hs, hl, fun p e H1 s1 np pen1 => ?_⟩
    have tab1 := tab.ext s1
    refine ⟨_, rfl, by decide, by decide, ?_⟩
    refine for_range (lo := 0) (n := (3 : Int).toNat) (fun i σ H' => ∃ (z2 z3 : Option V), σ = [some (.ref a), some (.ref p), z2, z3] ∧ PenAt K H' p e (i * 80) ∧ Tabs (T2 P1 P2) H') ⟨none, none, rfl, by simpa using pen1, tab1⟩ ?_ ?_
    · rintro i σ H' hi ⟨z2, z3, rfl, pen, tab'⟩
      have hi3 : i < 3 := hi
      refine ⟨_, rfl, p, e, _, rfl, by omega, pen, fun l ls H2 l3 l8 bd nl b2 hl2 pen2 => ?_⟩
      obtain ⟨pl, hpl⟩ := pen.some
      have tab2 := tabs_but tab' b2 hpl
      have nlp : l ≠ p := pen.ne nl
      refine ⟨_, rfl, _, rfl, p, l, ls, e, _, rfl, ?_, pen2, nlp, hl2, l3, l8, bd, fun H3 b3 pen3 => ⟨_, rfl, iteF ?_⟩⟩
      · omega
      obtain ⟨pl2, hpl2⟩ := pen2.some
      have tab3 := tabs_but tab2 b3 hpl2
      refine ⟨_, rfl, _, rfl, p, l, ls, e, _, rfl, ?_, pen3, nlp, b3 _ _ nlp hl2, l3, l8, bd, tab3, fun H4 k4 pen4 tab4 => ⟨_, rfl, iteF ?_⟩⟩
      · omega
      refine ⟨_, rfl, _, rfl, p, l, ls, e, _, rfl, ?_, pen4, nlp, k4 _ _ nlp (b3 _ _ nlp hl2) (fun _ z => nomatch z), l3, l8, bd, tab4, fun H5 k5 pen5 tab5 => ⟨_, rfl, iteF ?_⟩⟩
      · omega
      exact ⟨_, _, rfl, pen5.mono (by omega), tab5⟩
    · rintro σ H' ⟨z2, z3, rfl, pen, tab'⟩
      exact q H'
end
end K
namespace K
open PySem L2 Rg LamX
theorem kb_bar {K : PySem.W.Frag} {fd : FuncData} (h : ∀ (a b : Value) (s : Shared), BindsTo s fd ⟨[a], [("bar", b)]⟩ [("self", a), ("bar", b)]) : KBinds K fd ["self", "bar"] ["bar"] gK2 gK2 := by
  refine ⟨fun s us ws _ hl => ?_, fun {vs us zs ws} r1 r2 => ?_⟩
  · match us, ws, hl with
    | [a], [b], _ => exact h a b s
  · cases r1 with
    | nil => cases r2 <;> exact .nil
    | cons x t =>
      cases t with
      | nil =>
        cases r2 with
        | nil => exact .nil
        | cons y t2 =>
          cases t2 with
          | nil => exact .cons x (.cons y .nil)
          | cons _ _ => exact .nil
      | cons _ _ => exact .nil
theorem kb_order {K : PySem.W.Frag} {fd : FuncData} (h : ∀ (a b : Value) (s : Shared), BindsTo s fd ⟨[a], [("order", b)]⟩ [("self", a), ("order", b)]) : KBinds K fd ["self", "order"] ["order"] gK2 gK2 := by
  refine ⟨fun s us ws _ hl => ?_, fun {vs us zs ws} r1 r2 => ?_⟩
  · match us, ws, hl with
    | [a], [b], _ => exact h a b s
  · cases r1 with
    | nil => cases r2 <;> exact .nil
    | cons x t =>
      cases t with
      | nil =>
        cases r2 with
        | nil => exact .nil
        | cons y t2 =>
          cases t2 with
          | nil => exact .cons x (.cons y .nil)
          | cons _ _ => exact .nil
      | cons _ _ => exact .nil
theorem kb_lb {K : PySem.W.Frag} {fd : FuncData} (h : ∀ (a b c : Value) (s : Shared), BindsTo s fd ⟨[a], [("length", b), ("bar", c)]⟩ [("self", a), ("bar", c), ("length", b)]) : KBinds K fd ["self", "bar", "length"] ["length", "bar"] gK3 gK3 := by
  refine ⟨fun s us ws _ hl => ?_, fun {vs us zs ws} r1 r2 => ?_⟩
  · match us, ws, hl with
    | [a], [b, c], _ => exact h a b c s
  · cases r1 with
    | nil => cases r2 <;> exact .nil
    | cons x t =>
      cases t with
      | nil =>
        cases r2 with
        | nil => exact .nil
        | cons y t2 =>
          cases t2 with
          | nil => exact .nil
          | cons z t3 =>
            cases t3 with
            | nil => exact .cons x (.cons z (.cons y .nil))
            | cons _ _ => exact .nil
      | cons _ _ => exact .nil
theorem code_hd {K : PySem.W.Frag} {c P : Addr} {o : Obj} (l : K.lookup c = some o) (h : PySem.W.codeHdIn [(c, o)] c P = true) : PySem.W.codeHdIn K c P = true := by
  have e : List.lookup c [(c, o)] = some o := by simp [List.lookup]
  unfold PySem.W.codeHdIn at h ⊢
  rw [e] at h
  rw [l]
  exact h
theorem lookup_out {K : PySem.W.Frag} {P : Addr} : ∀ {as : List Addr}, as = K.map (·.1) → P ∉ as → K.lookup P = none := by
  intro as e h
  subst e
  induction K with
  | nil => rfl
  | cons x r ih =>
    obtain ⟨a, o⟩ := x
    rw [List.map_cons, List.mem_cons, not_or] at h
    have hne : (P == a) = false := by simpa using h.1
    rw [List.lookup_cons, hne]
    exact ih h.2
theorem out_of {K : Params → PySem.W.Frag} {as : List Addr} {e : ∀ P, as = (K P).map (·.1)} {ts : List Addr} {w : World} {h : Heap} (_ : (PySem.W.kmHook K as e ts).says w h) {P : Addr} (hP : P ∉ as) : (K w.params).lookup P = none := lookup_out (e w.params) hP

theorem all_mk {l : PySem.W.OpenLaw} {w : World} {K : PySem.W.Frag} {h : Heap} {mg : Str → Option Value} {fa : Addr} (X : K.In h) (G : h.Ns mainGlobals mg) (hfa : mg "law" = some (.ref fa))
    {C eX eR eB eN eM f0 f1 f2 f3 f4 f5 f6 f7 f8 f9 f10 f11 f12 f13 f14 f15 cCH f16 cRF f17 fm0 fm1 fm2 fm3 fm4 fm5 fm6 fm7 fm8 fm9 fm10 fm11 P1 P2 : Addr} {od0 an0 od1 an1 od2 an2 od3 an3 od4 an4 od5 an5 od6 an6 od7 an7 od8 an8 od9 an9 od10 an10 od11 an11 od12 an12 od13 an13 od14 an14 od15 an15 od16 an16 od17 an17 odm0 anm0 odm1 anm1 odm2 anm2 odm3 anm3 odm4 anm4 odm5 anm5 odm6 anm6 odm7 anm7 odm8 anm8 odm9 anm9 odm10 anm10 odm11 anm11 odc1 odc2 : Option Addr} {sl0 sl1 sl2 sl3 sl4 sl5 sl6 sl7 sl8 sl9 sl10 sl11 sl12 sl13 sl14 sl15 sl16 sl17 slm0 slm1 slm2 slm3 slm4 slm5 slm6 slm7 slm8 slm9 slm10 slm11 slc1 slc2 : Array (Option Value)} {oc0 kV0 dc0 pm0 ct0 cd0 oc1 kV1 dc1 pm1 ct1 cd1 oc2 kV2 dc2 pm2 ct2 cd2 oc3 kV3 dc3 pm3 ct3 cd3 oc4 kV4 dc4 pm4 ct4 cd4 oc5 kV5 dc5 pm5 ct5 cd5 oc6 kV6 dc6 pm6 ct6 cd6 oc7 kV7 dc7 pm7 ct7 cd7 oc8 kV8 dc8 pm8 ct8 cd8 oc9 kV9 dc9 pm9 ct9 cd9 oc10 kV10 dc10 pm10 ct10 cd10 oc11 kV11 dc11 pm11 ct11 cd11 oc12 kV12 dc12 pm12 ct12 cd12 oc13 kV13 dc13 pm13 ct13 cd13 oc14 kV14 dc14 pm14 ct14 cd14 oc15 kV15 dc15 pm15 ct15 oc16 kV16 dc16 pm16 ct16 oc17 kV17 dc17 pm17 ct17 cd17 ocm0 kVm0 dcm0 pmm0 ctm0 cdm0 ocm1 kVm1 dcm1 pmm1 ctm1 cdm1 ocm2 kVm2 dcm2 pmm2 ctm2 cdm2 ocm3 kVm3 dcm3 pmm3 ctm3 cdm3 ocm4 kVm4 dcm4 pmm4 ctm4 cdm4 ocm5 kVm5 dcm5 pmm5 ctm5 cdm5 ocm6 kVm6 dcm6 pmm6 ctm6 cdm6 ocm7 kVm7 dcm7 pmm7 ctm7 cdm7 ocm8 kVm8 dcm8 pmm8 ctm8 cdm8 ocm9 kVm9 dcm9 pmm9 ctm9 cdm9 ocm10 kVm10 dcm10 pmm10 ctm10 cdm10 ocm11 kVm11 dcm11 pmm11 ctm11 cdm11 : Value} {tkMOST_LENGTH tkLEAST_BARS tkMOST_BARS : Tok} {vsc1 vsc2 : Array Value}
    {nmeR nmeB nmeN nmeM qqeR qqeB qqeN qqeM : Str} {NeR NeB NeN NeM : Addr} {bseR bseB bseN bseM : List Value} {bmeR bmeB bmeN bmeM : List Value} {sneR sneB sneN sneM : List Str} {subeR subeB subeN subeM : List Value} {abeR abeB abeN abeM : Bool} {coleR coleB coleN coleM : Option Bool} {ddeR ddeB ddeN ddeM : Option Addr} {k0eR k1eR k2eR k3eR k5eR k0eB k1eB k2eB k3eB k5eB k0eN k1eN k2eN k3eN k5eN k0eM k1eM k2eM k3eM k5eM : Option Value}
    (aC : PySem.W.nsIn K mainGlobals "Ring" = some (some (.ref C)))
    (aeX : PySem.W.nsIn K mainGlobals "RingError" = some (some (.ref eX)))
    (aeR : PySem.W.nsIn K mainGlobals "BadRing" = some (some (.ref eR)))
    (aeB : PySem.W.nsIn K mainGlobals "BadNumber" = some (some (.ref eB)))
    (aeN : PySem.W.nsIn K mainGlobals "NoBar" = some (some (.ref eN)))
    (aeM : PySem.W.nsIn K mainGlobals "TooMany" = some (some (.ref eM)))
    (a0 : PySem.W.nsIn K mainGlobals "is_integer" = some (some (.ref f0)))
    (l0 : K.lookup f0 = some ⟨oc0, od0, .func (PySem.W.fnOf "is_integer" "is_integer" (defArgs sIsInteger) (defBody sIsInteger) (defScope sIsInteger) .none kV0 dc0 pm0 an0 cd0 ct0), sl0⟩)
    (c0 : PySem.W.codeIn K cd0 "is_integer" = true)
    (k0 : PySem.W.keepIn K (.ref f0) = true)
    (a1 : PySem.W.nsIn K mainGlobals "is_within" = some (some (.ref f1)))
    (l1 : K.lookup f1 = some ⟨oc1, od1, .func (PySem.W.fnOf "is_within" "is_within" (defArgs sIsWithin) (defBody sIsWithin) (defScope sIsWithin) .none kV1 dc1 pm1 an1 cd1 ct1), sl1⟩)
    (c1 : PySem.W.codeIn K cd1 "is_within" = true)
    (k1 : PySem.W.keepIn K (.ref f1) = true)
    (a2 : PySem.W.nsIn K mainGlobals "is_list" = some (some (.ref f2)))
    (l2 : K.lookup f2 = some ⟨oc2, od2, .func (PySem.W.fnOf "is_list" "is_list" (defArgs sIsList) (defBody sIsList) (defScope sIsList) .none kV2 dc2 pm2 an2 cd2 ct2), sl2⟩)
    (c2 : PySem.W.codeIn K cd2 "is_list" = true)
    (k2 : PySem.W.keepIn K (.ref f2) = true)
    (a3 : PySem.W.nsIn K mainGlobals "is_numbers" = some (some (.ref f3)))
    (l3 : K.lookup f3 = some ⟨oc3, od3, .func (PySem.W.fnOf "is_numbers" "is_numbers" (defArgs sIsNumbers) (defBody sIsNumbers) (defScope sIsNumbers) .none kV3 dc3 pm3 an3 cd3 ct3), sl3⟩)
    (c3 : PySem.W.codeIn K cd3 "is_numbers" = true)
    (k3 : PySem.W.keepIn K (.ref f3) = true)
    (a4 : PySem.W.nsIn K mainGlobals "want_number" = some (some (.ref f4)))
    (l4 : K.lookup f4 = some ⟨oc4, od4, .func (PySem.W.fnOf "want_number" "want_number" (defArgs sWantNumber) (defBody sWantNumber) (defScope sWantNumber) .none kV4 dc4 pm4 an4 cd4 ct4), sl4⟩)
    (c4 : PySem.W.codeIn K cd4 "want_number" = true)
    (k4 : PySem.W.keepIn K (.ref f4) = true)
    (a5 : PySem.W.nsIn K mainGlobals "want_bar" = some (some (.ref f5)))
    (l5 : K.lookup f5 = some ⟨oc5, od5, .func (PySem.W.fnOf "want_bar" "want_bar" (defArgs sWantBar) (defBody sWantBar) (defScope sWantBar) .none kV5 dc5 pm5 an5 cd5 ct5), sl5⟩)
    (c5 : PySem.W.codeIn K cd5 "want_bar" = true)
    (k5 : PySem.W.keepIn K (.ref f5) = true)
    (a6 : PySem.W.nsIn K mainGlobals "are_lengths" = some (some (.ref f6)))
    (l6 : K.lookup f6 = some ⟨oc6, od6, .func (PySem.W.fnOf "are_lengths" "are_lengths" (defArgs sAreLengths) (defBody sAreLengths) (defScope sAreLengths) .none kV6 dc6 pm6 an6 cd6 ct6), sl6⟩)
    (c6 : PySem.W.codeIn K cd6 "are_lengths" = true)
    (k6 : PySem.W.keepIn K (.ref f6) = true)
    (a7 : PySem.W.nsIn K mainGlobals "has_level" = some (some (.ref f7)))
    (l7 : K.lookup f7 = some ⟨oc7, od7, .func (PySem.W.fnOf "has_level" "has_level" (defArgs sHasLevel) (defBody sHasLevel) (defScope sHasLevel) .none kV7 dc7 pm7 an7 cd7 ct7), sl7⟩)
    (c7 : PySem.W.codeIn K cd7 "has_level" = true)
    (k7 : PySem.W.keepIn K (.ref f7) = true)
    (a8 : PySem.W.nsIn K mainGlobals "_law_pen" = some (some (.ref f8)))
    (l8 : K.lookup f8 = some ⟨oc8, od8, .func (PySem.W.fnOf "_law_pen" "_law_pen" (defArgs sLwPen) (defBody sLwPen) (defScope sLwPen) .none kV8 dc8 pm8 an8 cd8 ct8), sl8⟩)
    (c8 : PySem.W.codeIn K cd8 "_law_pen" = true)
    (k8 : PySem.W.keepIn K (.ref f8) = true)
    (a9 : PySem.W.nsIn K mainGlobals "_law_draw" = some (some (.ref f9)))
    (l9 : K.lookup f9 = some ⟨oc9, od9, .func (PySem.W.fnOf "_law_draw" "_law_draw" (defArgs sLwDraw) (defBody sLwDraw) (defScope sLwDraw) .none kV9 dc9 pm9 an9 cd9 ct9), sl9⟩)
    (c9 : PySem.W.codeIn K cd9 "_law_draw" = true)
    (k9 : PySem.W.keepIn K (.ref f9) = true)
    (a10 : PySem.W.nsIn K mainGlobals "_law_pick" = some (some (.ref f10)))
    (l10 : K.lookup f10 = some ⟨oc10, od10, .func (PySem.W.fnOf "_law_pick" "_law_pick" (defArgs sLwPick) (defBody sLwPick) (defScope sLwPick) .none kV10 dc10 pm10 an10 cd10 ct10), sl10⟩)
    (c10 : PySem.W.codeIn K cd10 "_law_pick" = true)
    (k10 : PySem.W.keepIn K (.ref f10) = true)
    (a11 : PySem.W.nsIn K mainGlobals "_law_mixed" = some (some (.ref f11)))
    (l11 : K.lookup f11 = some ⟨oc11, od11, .func (PySem.W.fnOf "_law_mixed" "_law_mixed" (defArgs sLwMixed) (defBody sLwMixed) (defScope sLwMixed) .none kV11 dc11 pm11 an11 cd11 ct11), sl11⟩)
    (c11 : PySem.W.codeIn K cd11 "_law_mixed" = true)
    (k11 : PySem.W.keepIn K (.ref f11) = true)
    (a12 : PySem.W.nsIn K mainGlobals "_law_lengths" = some (some (.ref f12)))
    (l12 : K.lookup f12 = some ⟨oc12, od12, .func (PySem.W.fnOf "_law_lengths" "_law_lengths" (defArgs sLwLengths) (defBody sLwLengths) (defScope sLwLengths) .none kV12 dc12 pm12 an12 cd12 ct12), sl12⟩)
    (c12 : PySem.W.codeIn K cd12 "_law_lengths" = true)
    (k12 : PySem.W.keepIn K (.ref f12) = true)
    (a13 : PySem.W.nsIn K mainGlobals "_law_heard" = some (some (.ref f13)))
    (l13 : K.lookup f13 = some ⟨oc13, od13, .func (PySem.W.fnOf "_law_heard" "_law_heard" (defArgs sLwHeard) (defBody sLwHeard) (defScope sLwHeard) .none kV13 dc13 pm13 an13 cd13 ct13), sl13⟩)
    (c13 : PySem.W.codeIn K cd13 "_law_heard" = true)
    (k13 : PySem.W.keepIn K (.ref f13) = true)
    (a14 : PySem.W.nsIn K mainGlobals "_law_renumbered_right" = some (some (.ref f14)))
    (l14 : K.lookup f14 = some ⟨oc14, od14, .func (PySem.W.fnOf "_law_renumbered_right" "_law_renumbered_right" (defArgs sLwRenumberedRight) (defBody sLwRenumberedRight) (defScope sLwRenumberedRight) .none kV14 dc14 pm14 an14 cd14 ct14), sl14⟩)
    (c14 : PySem.W.codeIn K cd14 "_law_renumbered_right" = true)
    (k14 : PySem.W.keepIn K (.ref f14) = true)
    (a15 : PySem.W.nsIn K mainGlobals "_law_changed_right" = some (some (.ref f15)))
    (l15 : K.lookup f15 = some ⟨oc15, od15, .func (PySem.W.fnOf "_law_changed_right" "_law_changed_right" (defArgs sLwChangedRight) (defBody sLwChangedRight) (defScope sLwChangedRight) .none kV15 dc15 pm15 an15 (.ref cCH) ct15), sl15⟩)
    (c15 : PySem.W.codeIn K (.ref cCH) "_law_changed_right" = true)
    (k15 : PySem.W.keepIn K (.ref f15) = true)
    (a16 : PySem.W.nsIn K mainGlobals "_law_refused_right" = some (some (.ref f16)))
    (l16 : K.lookup f16 = some ⟨oc16, od16, .func (PySem.W.fnOf "_law_refused_right" "_law_refused_right" (defArgs sLwRefusedRight) (defBody sLwRefusedRight) (defScope sLwRefusedRight) .none kV16 dc16 pm16 an16 (.ref cRF) ct16), sl16⟩)
    (c16 : PySem.W.codeIn K (.ref cRF) "_law_refused_right" = true)
    (k16 : PySem.W.keepIn K (.ref f16) = true)
    (a17 : PySem.W.nsIn K mainGlobals "law" = some (some (.ref f17)))
    (l17 : K.lookup f17 = some ⟨oc17, od17, .func (PySem.W.fnOf "law" "law" (defArgs sLaw) (defBody sLaw) (defScope sLaw) .none kV17 dc17 pm17 an17 cd17 ct17), sl17⟩)
    (c17 : PySem.W.codeIn K cd17 "law" = true)
    (k17 : PySem.W.keepIn K (.ref f17) = true)
    (am0 : PySem.W.findIn K (.ref C) "__init__" = some (some (.ref fm0)))
    (im0 : PySem.W.isFn K (.ref fm0) = true)
    (lm0 : K.lookup fm0 = some ⟨ocm0, odm0, .func (PySem.W.fnOf "__init__" "Ring.__init__" (defArgs sRingInit) (defBody sRingInit) (defScope sRingInit) .none kVm0 dcm0 pmm0 anm0 cdm0 ctm0), slm0⟩)
    (cm0 : PySem.W.codeIn K cdm0 "Ring.__init__" = true)
    (km0 : PySem.W.keepIn K (.ref fm0) = true)
    (am1 : PySem.W.findIn K (.ref C) "__eq__" = some (some (.ref fm1)))
    (im1 : PySem.W.isFn K (.ref fm1) = true)
    (lm1 : K.lookup fm1 = some ⟨ocm1, odm1, .func (PySem.W.fnOf "__eq__" "Ring.__eq__" (defArgs sRingEq) (defBody sRingEq) (defScope sRingEq) .none kVm1 dcm1 pmm1 anm1 cdm1 ctm1), slm1⟩)
    (cm1 : PySem.W.codeIn K cdm1 "Ring.__eq__" = true)
    (km1 : PySem.W.keepIn K (.ref fm1) = true)
    (am2 : PySem.W.findIn K (.ref C) "with_length" = some (some (.ref fm2)))
    (im2 : PySem.W.isFn K (.ref fm2) = true)
    (lm2 : K.lookup fm2 = some ⟨ocm2, odm2, .func (PySem.W.fnOf "with_length" "Ring.with_length" (defArgs sRingWithLength) (defBody sRingWithLength) (defScope sRingWithLength) .none kVm2 dcm2 pmm2 anm2 cdm2 ctm2), slm2⟩)
    (cm2 : PySem.W.codeIn K cdm2 "Ring.with_length" = true)
    (km2 : PySem.W.keepIn K (.ref fm2) = true)
    (am3 : PySem.W.findIn K (.ref C) "begun_at" = some (some (.ref fm3)))
    (im3 : PySem.W.isFn K (.ref fm3) = true)
    (lm3 : K.lookup fm3 = some ⟨ocm3, odm3, .func (PySem.W.fnOf "begun_at" "Ring.begun_at" (defArgs sRingBegunAt) (defBody sRingBegunAt) (defScope sRingBegunAt) .none kVm3 dcm3 pmm3 anm3 cdm3 ctm3), slm3⟩)
    (cm3 : PySem.W.codeIn K cdm3 "Ring.begun_at" = true)
    (km3 : PySem.W.keepIn K (.ref fm3) = true)
    (am4 : PySem.W.findIn K (.ref C) "backwards" = some (some (.ref fm4)))
    (im4 : PySem.W.isFn K (.ref fm4) = true)
    (lm4 : K.lookup fm4 = some ⟨ocm4, odm4, .func (PySem.W.fnOf "backwards" "Ring.backwards" (defArgs sRingBackwards) (defBody sRingBackwards) (defScope sRingBackwards) .none kVm4 dcm4 pmm4 anm4 cdm4 ctm4), slm4⟩)
    (cm4 : PySem.W.codeIn K cdm4 "Ring.backwards" = true)
    (km4 : PySem.W.keepIn K (.ref fm4) = true)
    (am5 : PySem.W.findIn K (.ref C) "in_order" = some (some (.ref fm5)))
    (im5 : PySem.W.isFn K (.ref fm5) = true)
    (lm5 : K.lookup fm5 = some ⟨ocm5, odm5, .func (PySem.W.fnOf "in_order" "Ring.in_order" (defArgs sRingInOrder) (defBody sRingInOrder) (defScope sRingInOrder) .none kVm5 dcm5 pmm5 anm5 cdm5 ctm5), slm5⟩)
    (cm5 : PySem.W.codeIn K cdm5 "Ring.in_order" = true)
    (km5 : PySem.W.keepIn K (.ref fm5) = true)
    (am6 : PySem.W.findIn K (.ref C) "as_one" = some (some (.ref fm6)))
    (im6 : PySem.W.isFn K (.ref fm6) = true)
    (lm6 : K.lookup fm6 = some ⟨ocm6, odm6, .func (PySem.W.fnOf "as_one" "Ring.as_one" (defArgs sRingAsOne) (defBody sRingAsOne) (defScope sRingAsOne) .none kVm6 dcm6 pmm6 anm6 cdm6 ctm6), slm6⟩)
    (cm6 : PySem.W.codeIn K cdm6 "Ring.as_one" = true)
    (km6 : PySem.W.keepIn K (.ref fm6) = true)
    (am7 : PySem.W.findIn K (.ref C) "in_two" = some (some (.ref fm7)))
    (im7 : PySem.W.isFn K (.ref fm7) = true)
    (lm7 : K.lookup fm7 = some ⟨ocm7, odm7, .func (PySem.W.fnOf "in_two" "Ring.in_two" (defArgs sRingInTwo) (defBody sRingInTwo) (defScope sRingInTwo) .none kVm7 dcm7 pmm7 anm7 cdm7 ctm7), slm7⟩)
    (cm7 : PySem.W.codeIn K cdm7 "Ring.in_two" = true)
    (km7 : PySem.W.keepIn K (.ref fm7) = true)
    (am8 : PySem.W.findIn K (.ref eR) "__init__" = some (some (.ref fm8)))
    (im8 : PySem.W.isFn K (.ref fm8) = true)
    (lm8 : K.lookup fm8 = some ⟨ocm8, odm8, .func (PySem.W.fnOf "__init__" "BadRing.__init__" (defArgs sBadRingInit) (defBody sBadRingInit) (defScope sBadRingInit) .none kVm8 dcm8 pmm8 anm8 cdm8 ctm8), slm8⟩)
    (cm8 : PySem.W.codeIn K cdm8 "BadRing.__init__" = true)
    (km8 : PySem.W.keepIn K (.ref fm8) = true)
    (tim8 : PySem.W.typeIn K (.ref fm8) = some (.type "function"))
    (am9 : PySem.W.findIn K (.ref eB) "__init__" = some (some (.ref fm9)))
    (im9 : PySem.W.isFn K (.ref fm9) = true)
    (lm9 : K.lookup fm9 = some ⟨ocm9, odm9, .func (PySem.W.fnOf "__init__" "BadNumber.__init__" (defArgs sBadNumberInit) (defBody sBadNumberInit) (defScope sBadNumberInit) .none kVm9 dcm9 pmm9 anm9 cdm9 ctm9), slm9⟩)
    (cm9 : PySem.W.codeIn K cdm9 "BadNumber.__init__" = true)
    (km9 : PySem.W.keepIn K (.ref fm9) = true)
    (tim9 : PySem.W.typeIn K (.ref fm9) = some (.type "function"))
    (am10 : PySem.W.findIn K (.ref eN) "__init__" = some (some (.ref fm10)))
    (im10 : PySem.W.isFn K (.ref fm10) = true)
    (lm10 : K.lookup fm10 = some ⟨ocm10, odm10, .func (PySem.W.fnOf "__init__" "Missing.__init__" (defArgs sMissingInit) (defBody sMissingInit) (defScope sMissingInit) .none kVm10 dcm10 pmm10 anm10 cdm10 ctm10), slm10⟩)
    (cm10 : PySem.W.codeIn K cdm10 "Missing.__init__" = true)
    (km10 : PySem.W.keepIn K (.ref fm10) = true)
    (tim10 : PySem.W.typeIn K (.ref fm10) = some (.type "function"))
    (am11 : PySem.W.findIn K (.ref eM) "__init__" = some (some (.ref fm11)))
    (im11 : PySem.W.isFn K (.ref fm11) = true)
    (lm11 : K.lookup fm11 = some ⟨ocm11, odm11, .func (PySem.W.fnOf "__init__" "TooMany.__init__" (defArgs sTooManyInit) (defBody sTooManyInit) (defScope sTooManyInit) .none kVm11 dcm11 pmm11 anm11 cdm11 ctm11), slm11⟩)
    (cm11 : PySem.W.codeIn K cdm11 "TooMany.__init__" = true)
    (km11 : PySem.W.keepIn K (.ref fm11) = true)
    (tim11 : PySem.W.typeIn K (.ref fm11) = some (.type "function"))
    (rpg : PySem.W.plainGet K C Str.empty = true)
    (rhd : PySem.W.hasDictIn K C = true)
    (rpo : PySem.W.plainOver K C = true)
    (rsa : PySem.W.findIn K (.ref C) "__setattr__" = some (some (.builtin "object.__setattr__")))
    (rmk : PySem.W.makesIn K C = true)
    (rkc : PySem.W.keepIn K (.ref C) = true)
    (rn1 : PySem.W.findIn K (.ref C) "lengths" = some none)
    (rn2 : PySem.W.findIn K (.ref C) "total" = some none)
    (rn3 : PySem.W.findIn K (.ref C) "closes" = some none)
    (rn4 : PySem.W.findIn K (.ref C) "is_clear" = some none)
    (rne : PySem.W.findIn K (.ref C) "__ne__" = some (some (.builtin "object.__ne__")))
    (rho : PySem.W.subIn K (.ref C) (.type "object") = some true)
    (rha : PySem.W.findIn K (.ref C) "__class__" = some (some (.builtin "object.__class__")))
    (rhn : PySem.W.specialIn K (.builtin "object.__class__") "__get__" = some (some (.builtin "getset_descriptor.__get__")))
    (rht : PySem.W.takesIn K (.builtin "object.__class__") = some true)
    (rhm : PySem.W.mroIn K C (.type "object") = some true)
    (z_int : PySem.W.nsIn K mainGlobals "int" = some none)
    (z_len : PySem.W.nsIn K mainGlobals "len" = some none)
    (z_abs : PySem.W.nsIn K mainGlobals "abs" = some none)
    (z_list : PySem.W.nsIn K mainGlobals "list" = some none)
    (z_tuple : PySem.W.nsIn K mainGlobals "tuple" = some none)
    (z_bool : PySem.W.nsIn K mainGlobals "bool" = some none)
    (z_range : PySem.W.nsIn K mainGlobals "range" = some none)
    (z_sum : PySem.W.nsIn K mainGlobals "sum" = some none)
    (z_max : PySem.W.nsIn K mainGlobals "max" = some none)
    (z_all : PySem.W.nsIn K mainGlobals "all" = some none)
    (z_any : PySem.W.nsIn K mainGlobals "any" = some none)
    (z_sorted : PySem.W.nsIn K mainGlobals "sorted" = some none)
    (z_enumerate : PySem.W.nsIn K mainGlobals "enumerate" = some none)
    (z_isinstance : PySem.W.nsIn K mainGlobals "isinstance" = some none)
    (z_min : PySem.W.nsIn K mainGlobals "min" = some none)
    (g_MOST_LENGTH : PySem.W.nsIn K mainGlobals "MOST_LENGTH" = some (some (.int 1000000 tkMOST_LENGTH)))
    (g_LEAST_BARS : PySem.W.nsIn K mainGlobals "LEAST_BARS" = some (some (.int 3 tkLEAST_BARS)))
    (g_MOST_BARS : PySem.W.nsIn K mainGlobals "MOST_BARS" = some (some (.int 8 tkMOST_BARS)))
    (xeR : K.lookup eR = some (excClassObj nmeR qqeR eR NeR bseR bmeR true sneR subeR abeR coleR ddeR k0eR k1eR k2eR k3eR k5eR "ValueError.__new__"))
    (rveR : PySem.HandSPX.refsVE bmeR = true)
    (saeR : PySem.W.findIn K (.ref eR) "__setattr__" = some (some (.builtin "object.__setattr__")))
    (gaeR : PySem.W.findIn K (.ref eR) "__getattribute__" = some (some (.builtin "BaseException.__getattribute__")))
    (ggeR : PySem.W.findIn K (.ref eR) "__getattr__" = some none)
    (eCeR : PySem.W.subIn K (.ref eR) (.type "BaseException") = some true)
    (tCeR : PySem.W.typeIn K (.ref eR) = some (.type "type"))
    (kCeR : PySem.W.keepIn K (.ref eR) = true)
    (hdeR : PySem.W.hasDictIn K eR = true)
    (haeR : PySem.W.findIn K (.ref eR) "__class__" = some (some (.builtin "object.__class__")))
    (hmeR : PySem.W.mroIn K eR (.type "object") = some true)
    (nfeRpart : PySem.W.findIn K (.ref eR) "part" = some none)
    (sbeR : PySem.W.subIn K (.ref eR) (.ref eX) = some true)
    (xeB : K.lookup eB = some (excClassObj nmeB qqeB eB NeB bseB bmeB true sneB subeB abeB coleB ddeB k0eB k1eB k2eB k3eB k5eB "ValueError.__new__"))
    (rveB : PySem.HandSPX.refsVE bmeB = true)
    (saeB : PySem.W.findIn K (.ref eB) "__setattr__" = some (some (.builtin "object.__setattr__")))
    (gaeB : PySem.W.findIn K (.ref eB) "__getattribute__" = some (some (.builtin "BaseException.__getattribute__")))
    (ggeB : PySem.W.findIn K (.ref eB) "__getattr__" = some none)
    (eCeB : PySem.W.subIn K (.ref eB) (.type "BaseException") = some true)
    (tCeB : PySem.W.typeIn K (.ref eB) = some (.type "type"))
    (kCeB : PySem.W.keepIn K (.ref eB) = true)
    (hdeB : PySem.W.hasDictIn K eB = true)
    (haeB : PySem.W.findIn K (.ref eB) "__class__" = some (some (.builtin "object.__class__")))
    (hmeB : PySem.W.mroIn K eB (.type "object") = some true)
    (nfeBpart : PySem.W.findIn K (.ref eB) "part" = some none)
    (sbeB : PySem.W.subIn K (.ref eB) (.ref eX) = some true)
    (xeN : K.lookup eN = some (excClassObj nmeN qqeN eN NeN bseN bmeN true sneN subeN abeN coleN ddeN k0eN k1eN k2eN k3eN k5eN "ValueError.__new__"))
    (rveN : PySem.HandSPX.refsVE bmeN = true)
    (saeN : PySem.W.findIn K (.ref eN) "__setattr__" = some (some (.builtin "object.__setattr__")))
    (gaeN : PySem.W.findIn K (.ref eN) "__getattribute__" = some (some (.builtin "BaseException.__getattribute__")))
    (ggeN : PySem.W.findIn K (.ref eN) "__getattr__" = some none)
    (eCeN : PySem.W.subIn K (.ref eN) (.type "BaseException") = some true)
    (tCeN : PySem.W.typeIn K (.ref eN) = some (.type "type"))
    (kCeN : PySem.W.keepIn K (.ref eN) = true)
    (hdeN : PySem.W.hasDictIn K eN = true)
    (haeN : PySem.W.findIn K (.ref eN) "__class__" = some (some (.builtin "object.__class__")))
    (hmeN : PySem.W.mroIn K eN (.type "object") = some true)
    (nfeNvalue : PySem.W.findIn K (.ref eN) "value" = some none)
    (sbeN : PySem.W.subIn K (.ref eN) (.ref eX) = some true)
    (xeM : K.lookup eM = some (excClassObj nmeM qqeM eM NeM bseM bmeM true sneM subeM abeM coleM ddeM k0eM k1eM k2eM k3eM k5eM "ValueError.__new__"))
    (rveM : PySem.HandSPX.refsVE bmeM = true)
    (saeM : PySem.W.findIn K (.ref eM) "__setattr__" = some (some (.builtin "object.__setattr__")))
    (gaeM : PySem.W.findIn K (.ref eM) "__getattribute__" = some (some (.builtin "BaseException.__getattribute__")))
    (ggeM : PySem.W.findIn K (.ref eM) "__getattr__" = some none)
    (eCeM : PySem.W.subIn K (.ref eM) (.type "BaseException") = some true)
    (tCeM : PySem.W.typeIn K (.ref eM) = some (.type "type"))
    (kCeM : PySem.W.keepIn K (.ref eM) = true)
    (hdeM : PySem.W.hasDictIn K eM = true)
    (haeM : PySem.W.findIn K (.ref eM) "__class__" = some (some (.builtin "object.__class__")))
    (hmeM : PySem.W.mroIn K eM (.type "object") = some true)
    (nfeMwhat : PySem.W.findIn K (.ref eM) "what" = some none)
    (nfeMmost : PySem.W.findIn K (.ref eM) "most" = some none)
    (sbeM : PySem.W.subIn K (.ref eM) (.ref eX) = some true)
    (eCeX : PySem.W.subIn K (.ref eX) (.type "BaseException") = some true)
    (hdeX : PySem.W.hasDictIn K eX = true)
    (tCeX : PySem.W.typeIn K (.ref eX) = some (.type "type"))
    (kBR : PySem.W.kitOne K (.ref eB) (.ref eR) = some false)
    (kNR : PySem.W.kitOne K (.ref eN) (.ref eR) = some false)
    (kNB : PySem.W.kitOne K (.ref eN) (.ref eB) = some false)
    (kMR : PySem.W.kitOne K (.ref eM) (.ref eR) = some false)
    (kMB : PySem.W.kitOne K (.ref eM) (.ref eB) = some false)
    (kMN : PySem.W.kitOne K (.ref eM) (.ref eN) = some false)
    (lc1 : K.lookup cCH = some ⟨.type "code", odc1, .fields vsc1, slc1⟩)
    (hdc1 : PySem.W.codeHdIn [(cCH, ⟨.type "code", odc1, .fields vsc1, slc1⟩)] cCH P1 = true)
    (nT1 : K.lookup P1 = none)
    (hT1 : h.get? P1 = some { cls := .none, data := .fields #[] })
    (lc2 : K.lookup cRF = some ⟨.type "code", odc2, .fields vsc2, slc2⟩)
    (hdc2 : PySem.W.codeHdIn [(cRF, ⟨.type "code", odc2, .fields vsc2, slc2⟩)] cRF P2 = true)
    (nT2 : K.lookup P2 = none)
    (hT2 : h.get? P2 = some { cls := .none, data := .fields #[] })
    (nP : P1 ≠ P2) :
    LawAtS l w K CX0 10 63 "_law_script" mg fa h := by
  have e := hfa.symm.trans (PySem.W.mg_of X G a17)
  cases e
  have gl : ∀ {x : Str} {v : Value}, PySem.W.nsIn K mainGlobals x = some (some v) → mg x = some v := fun q => PySem.W.mg_of X G q
  have T : Bi mg := ⟨PySem.W.mg_none_of X G z_int, PySem.W.mg_none_of X G z_len, PySem.W.mg_none_of X G z_abs, PySem.W.mg_none_of X G z_list, PySem.W.mg_none_of X G z_tuple, PySem.W.mg_none_of X G z_bool, PySem.W.mg_none_of X G z_range, PySem.W.mg_none_of X G z_sum, PySem.W.mg_none_of X G z_max, PySem.W.mg_none_of X G z_all, PySem.W.mg_none_of X G z_any, PySem.W.mg_none_of X G z_sorted, PySem.W.mg_none_of X G z_enumerate, PySem.W.mg_none_of X G z_isinstance⟩
  have Tm : mg "min" = none := PySem.W.mg_none_of X G z_min
  have N : Nm mg := ⟨⟨_, gl g_MOST_LENGTH⟩, ⟨_, gl g_LEAST_BARS⟩, ⟨_, gl g_MOST_BARS⟩⟩
  have R : RingC K mg C := ⟨⟨rpg, rhd, rpo, rsa⟩, rn1, rn2, rn3, rn4, gl aC, rha, rhn, rht, rhm⟩
  have oeR : OexC K eR := ⟨⟨_, _, _, _, _, _, _, _, _, _, _, _, _, _, _, xeR, rveR⟩, saeR, eCeR, tCeR, kCeR⟩
  have oeB : OexC K eB := ⟨⟨_, _, _, _, _, _, _, _, _, _, _, _, _, _, _, xeB, rveB⟩, saeB, eCeB, tCeB, kCeB⟩
  have oeN : OexC K eN := ⟨⟨_, _, _, _, _, _, _, _, _, _, _, _, _, _, _, xeN, rveN⟩, saeN, eCeN, tCeN, kCeN⟩
  have oeM : OexC K eM := ⟨⟨_, _, _, _, _, _, _, _, _, _, _, _, _, _, _, xeM, rveM⟩, saeM, eCeM, tCeM, kCeM⟩
  have Hc : HeardC K mg ⟨eR, eB, eN, eM⟩ eX := ⟨gl aeX, gl aeR, ⟨gaeR, ggeR, eCeR, hdeR, haeR, rhn, rht, hmeR⟩, ⟨gaeR, ggeR, eCeR, hdeR⟩, PySem.W.exm_ref eCeX hdeX tCeX sbeR, nfeRpart, gl aeB, ⟨gaeB, ggeB, eCeB, hdeB, haeB, rhn, rht, hmeB⟩, ⟨gaeB, ggeB, eCeB, hdeB⟩, PySem.W.exm_ref eCeX hdeX tCeX sbeB, nfeBpart, gl aeN, ⟨gaeN, ggeN, eCeN, hdeN, haeN, rhn, rht, hmeN⟩, ⟨gaeN, ggeN, eCeN, hdeN⟩, PySem.W.exm_ref eCeX hdeX tCeX sbeN, nfeNvalue, gl aeM, ⟨gaeM, ggeM, eCeM, hdeM, haeM, rhn, rht, hmeM⟩, ⟨gaeM, ggeM, eCeM, hdeM⟩, PySem.W.exm_ref eCeX hdeX tCeX sbeM, nfeMwhat, nfeMmost, kBR, kNR, kNB, kMR, kMB, kMN⟩
  have F0 := fun_mk (st := sIsInteger) l0 c0 k0
  have b0 := F0.binds (ps := ["value"]) fun _ _ _ _ _ _ us hl => match us, hl with | [_], _ => rfl
  have F1 := fun_mk (st := sIsWithin) l1 c1 k1
  have b1 := F1.binds (ps := ["value", "least", "most"]) fun _ _ _ _ _ _ us hl => match us, hl with | [_, _, _], _ => rfl
  have F2 := fun_mk (st := sIsList) l2 c2 k2
  have b2 := F2.binds (ps := ["value"]) fun _ _ _ _ _ _ us hl => match us, hl with | [_], _ => rfl
  have F3 := fun_mk (st := sIsNumbers) l3 c3 k3
  have b3 := F3.binds (ps := ["value"]) fun _ _ _ _ _ _ us hl => match us, hl with | [_], _ => rfl
  have F4 := fun_mk (st := sWantNumber) l4 c4 k4
  have b4 := F4.binds (ps := ["value", "least", "most", "part"]) fun _ _ _ _ _ _ us hl => match us, hl with | [_, _, _, _], _ => rfl
  have F5 := fun_mk (st := sWantBar) l5 c5 k5
  have b5 := F5.binds (ps := ["value", "many"]) fun _ _ _ _ _ _ us hl => match us, hl with | [_, _], _ => rfl
  have F6 := fun_mk (st := sAreLengths) l6 c6 k6
  have b6 := F6.binds (ps := ["value"]) fun _ _ _ _ _ _ us hl => match us, hl with | [_], _ => rfl
  have F7 := fun_mk (st := sHasLevel) l7 c7 k7
  have b7 := F7.binds (ps := ["lengths"]) fun _ _ _ _ _ _ us hl => match us, hl with | [_], _ => rfl
  have F8 := fun_mk (st := sLwPen) l8 c8 k8
  have b8 := F8.binds (ps := ["_law_script"]) fun _ _ _ _ _ _ us hl => match us, hl with | [_], _ => rfl
  have F9 := fun_mk (st := sLwDraw) l9 c9 k9
  have b9 := F9.binds (ps := ["_law_pen_here", "_law_many"]) fun _ _ _ _ _ _ us hl => match us, hl with | [_, _], _ => rfl
  have F10 := fun_mk (st := sLwPick) l10 c10 k10
  have b10 := F10.binds (ps := ["_law_pen_here", "_law_some"]) fun _ _ _ _ _ _ us hl => match us, hl with | [_, _], _ => rfl
  have F11 := fun_mk (st := sLwMixed) l11 c11 k11
  have b11 := F11.binds (ps := ["_law_pen_here", "_law_items"]) fun _ _ _ _ _ _ us hl => match us, hl with | [_, _], _ => rfl
  have F12 := fun_mk (st := sLwLengths) l12 c12 k12
  have b12 := F12.binds (ps := ["_law_pen_here"]) fun _ _ _ _ _ _ us hl => match us, hl with | [_], _ => rfl
  have F13 := fun_mk (st := sLwHeard) l13 c13 k13
  have b13 := F13.binds (ps := ["_law_ask"]) fun _ _ _ _ _ _ us hl => match us, hl with | [_], _ => rfl
  have F14 := fun_mk (st := sLwRenumberedRight) l14 c14 k14
  have b14 := F14.binds (ps := ["_law_pen_here", "_law_lengths_here"]) fun _ _ _ _ _ _ us hl => match us, hl with | [_, _], _ => rfl
  have F15 : FunC K "_law_changed_right" "_law_changed_right" sLwChangedRight f15 _ cCH := ⟨⟨_, _, _, _, _, _, _, _, rfl, l15, c15⟩⟩
  have F150 := fun_mk (st := sLwChangedRight) l15 c15 k15
  have b15 := F150.binds (ps := ["_law_pen_here", "_law_lengths_here"]) fun _ _ _ _ _ _ us hl => match us, hl with | [_, _], _ => rfl
  have F16 : FunC K "_law_refused_right" "_law_refused_right" sLwRefusedRight f16 _ cRF := ⟨⟨_, _, _, _, _, _, _, _, rfl, l16, c16⟩⟩
  have F160 := fun_mk (st := sLwRefusedRight) l16 c16 k16
  have b16 := F160.binds (ps := ["_law_pen_here", "_law_lengths_here"]) fun _ _ _ _ _ _ us hl => match us, hl with | [_, _], _ => rfl
  have F17 := fun_mk (st := sLaw) l17 c17 k17
  have b17 := F17.binds (ps := ["_law_script"]) fun _ _ _ _ _ _ us hl => match us, hl with | [_], _ => rfl
  have Fm0 := fun_mk (st := sRingInit) lm0 cm0 km0
  have bm0 := Fm0.binds (ps := ["self", "lengths"]) fun _ _ _ _ _ _ us hl => match us, hl with | [_, _], _ => rfl
  have Fm1 := fun_mk (st := sRingEq) lm1 cm1 km1
  have bm1 := Fm1.binds (ps := ["self", "other"]) fun _ _ _ _ _ _ us hl => match us, hl with | [_, _], _ => rfl
  have Fm2 := fun_mk (st := sRingWithLength) lm2 cm2 km2
  have bm2 := Fm2.binds (ps := ["self", "bar", "length"]) fun _ _ _ _ _ _ us hl => match us, hl with | [_, _, _], _ => rfl
  have Fm3 := fun_mk (st := sRingBegunAt) lm3 cm3 km3
  have bm3 := Fm3.binds (ps := ["self", "bar"]) fun _ _ _ _ _ _ us hl => match us, hl with | [_, _], _ => rfl
  have Fm4 := fun_mk (st := sRingBackwards) lm4 cm4 km4
  have bm4 := Fm4.binds (ps := ["self"]) fun _ _ _ _ _ _ us hl => match us, hl with | [_], _ => rfl
  have Fm5 := fun_mk (st := sRingInOrder) lm5 cm5 km5
  have bm5 := Fm5.binds (ps := ["self", "order"]) fun _ _ _ _ _ _ us hl => match us, hl with | [_, _], _ => rfl
  have Fm6 := fun_mk (st := sRingAsOne) lm6 cm6 km6
  have bm6 := Fm6.binds (ps := ["self", "bar"]) fun _ _ _ _ _ _ us hl => match us, hl with | [_, _], _ => rfl
  have Fm7 := fun_mk (st := sRingInTwo) lm7 cm7 km7
  have bm7 := Fm7.binds (ps := ["self", "bar", "length"]) fun _ _ _ _ _ _ us hl => match us, hl with | [_, _, _], _ => rfl
  have Fm8 := fun_mk (st := sBadRingInit) lm8 cm8 km8
  have bm8 := Fm8.binds (ps := ["self", "part"]) fun _ _ _ _ _ _ us hl => match us, hl with | [_, _], _ => rfl
  have Fm9 := fun_mk (st := sBadNumberInit) lm9 cm9 km9
  have bm9 := Fm9.binds (ps := ["self", "part"]) fun _ _ _ _ _ _ us hl => match us, hl with | [_, _], _ => rfl
  have Fm10 := fun_mk (st := sMissingInit) lm10 cm10 km10
  have bm10 := Fm10.binds (ps := ["self", "value"]) fun _ _ _ _ _ _ us hl => match us, hl with | [_, _], _ => rfl
  have Fm11 := fun_mk (st := sTooManyInit) lm11 cm11 km11
  have bm11 := Fm11.binds (ps := ["self", "what", "most"]) fun _ _ _ _ _ _ us hl => match us, hl with | [_, _, _], _ => rfl
  refine ⟨PySem.W.fnOf "law" "law" (defArgs sLaw) (defBody sLaw) (defScope sLaw) .none kV17 dc17 pm17 an17 cd17 ct17, [(cCH, P1), (cRF, P2)], spLaw K P1 P2, fun p hp => ?_, fun p hp => ?_, fun p hp => ?_, fun s v => .of_eq rfl, fun H a ns hl _ hT' hs => ?_, fun base KB GB TB => ?_⟩
  · rcases List.mem_cons.mp hp with e | e
    · rw [e]; exact hT1
    · rw [List.mem_singleton.mp e]; exact hT2
  · rcases List.mem_cons.mp hp with e | e
    · rw [e]; exact nT1
    · rw [List.mem_singleton.mp e]; exact nT2
  · rcases List.mem_cons.mp hp with e | e
    · rw [e]; exact PySem.W.codeHd_of_K X (code_hd lc1 hdc1)
    · rw [List.mem_singleton.mp e]; exact PySem.W.codeHd_of_K X (code_hd lc2 hdc2)
  · refine ⟨a, ns, rfl, hs, by omega, fun p hp => ?_, fun _ => rfl⟩
    rcases List.mem_cons.mp hp with e | e
    · rw [e]; exact TabS.nil (hT' _ (List.mem_cons_self ..))
    · rw [List.mem_singleton.mp e]; exact TabS.nil (hT' _ (List.mem_cons_of_mem _ (List.mem_singleton.mpr rfl)))
  · have tb1 := TB _ (List.mem_cons_self ..)
    have tb2 := TB _ (List.mem_cons_of_mem _ (List.mem_singleton.mpr rfl))
    have hm1 : (P1, qCh) ∈ T2 P1 P2 := List.mem_cons_self ..
    have hm2 : (P2, qRf) ∈ T2 P1 P2 := List.mem_cons_of_mem _ (List.mem_singleton.mpr rfl)
    have hu1 : ∀ p ∈ T2 P1 P2, p.1 = P1 → p.2 = qCh := fun p hp e => by
      rcases List.mem_cons.mp hp with z | z
      · rw [z]
      · rw [List.mem_singleton.mp z] at e
        exact absurd e.symm nP
    have hu2 : ∀ p ∈ T2 P1 P2, p.1 = P2 → p.2 = qRf := fun p hp e => by
      rcases List.mem_cons.mp hp with z | z
      · rw [z] at e
        exact absurd e nP
      · rw [List.mem_singleton.mp z]
    have dInt := (⟨ok_isInt F0 T, gl a0, k0, b0⟩ : DefAt l.prog w K mg base _ _ "is_integer" _ _ _ _)
    have dList := (⟨ok_isList F2 T, gl a2, k2, b2⟩ : DefAt l.prog w K mg base _ _ "is_list" _ _ _ _)
    have dWith := (⟨ok_withinG F1 dInt, gl a1, k1, b1⟩ : DefAt l.prog w K mg base _ _ "is_within" _ _ _ _)
    have dNO := (⟨ok_numsO F3 T dInt dList, gl a3, k3, b3⟩ : DefAt l.prog w K mg base _ _ "is_numbers" _ _ _ _)
    have dNL := (⟨ok_numsL F3 T dInt dList, gl a3, k3, b3⟩ : DefAt l.prog w K mg base _ _ "is_numbers" _ _ _ _)
    have dNT := (⟨ok_numsT F3 T dInt dList, gl a3, k3, b3⟩ : DefAt l.prog w K mg base _ _ "is_numbers" _ _ _ _)
    have eR' : ErrAt l.prog w K mg base "BadRing" "part" eR fm8 _ := ⟨oeR, am8, tim8, nfeRpart, gl aeR, bm8, ok_badRingI Fm8⟩
    have eB' : ErrAt l.prog w K mg base "BadNumber" "part" eB fm9 _ := ⟨oeB, am9, tim9, nfeBpart, gl aeB, bm9, ok_badNumI Fm9⟩
    have eN' : ErrAt l.prog w K mg base "NoBar" "value" eN fm10 _ := ⟨oeN, am10, tim10, nfeNvalue, gl aeN, bm10, ok_missingI Fm10⟩
    have eM' : Err2At l.prog w K mg base "TooMany" "what" "most" eM fm11 _ := ⟨oeM, am11, tim11, nfeMwhat, nfeMmost, gl aeM, bm11, ok_tooManyI Fm11⟩
    have dAL := (⟨ok_areGL F6 T N dWith dList, gl a6, k6, b6⟩ : DefAt l.prog w K mg base _ _ "are_lengths" _ _ _ _)
    have dAT := (⟨ok_areGT F6 T N dWith dList, gl a6, k6, b6⟩ : DefAt l.prog w K mg base _ _ "are_lengths" _ _ _ _)
    have dHL := (⟨ok_hasL F7 T, gl a7, k7, b7⟩ : DefAt l.prog w K mg base _ _ "has_level" _ _ _ _)
    have dBar := (⟨ok_barG F5 dWith eN', gl a5, k5, b5⟩ : DefAt l.prog w K mg base _ _ "want_bar" _ _ _ _)
    have dNum := (⟨ok_numG F4 dWith eB', gl a4, k4, b4⟩ : DefAt l.prog w K mg base _ _ "want_number" _ _ _ _)
    have riL := ok_riL (P := l.prog) (w := w) (base := base) Fm0 T N R dAL dHL eR' eM'
    have riT := ok_riT (P := l.prog) (w := w) (base := base) Fm0 T N R dAT dHL eR' eM'
    have rx := ok_rx (c := ⟨eR, eM⟩) riL riT
    have Gp : RingP l.prog w K mg base C ⟨⟨eR, eM⟩, eN, eB⟩ fm0 _ _ _ _ _ := ⟨⟨rmk, am0, im0, rkc⟩, rx, bm0, dBar, dNum⟩
    have EQ : EqAt' l.prog w K mg base C fm1 _ := ⟨ok_req Fm1 T R, bm1, am1, im1, rne, rho⟩
    have M4 : MethAt l.prog w K mg base C "with_length" _ _ fm2 _ := ⟨⟨am2, im2, km2⟩, ok_with Fm2 T N R Gp, bm2⟩
    have M1 : MethAt l.prog w K mg base C "begun_at" _ _ fm3 _ := ⟨⟨am3, im3, km3⟩, ok_begun Fm3 T R Gp, bm3⟩
    have M2 : MethAt l.prog w K mg base C "backwards" _ _ fm4 _ := ⟨⟨am4, im4, km4⟩, ok_backw Fm4 T R Gp, bm4⟩
    have M3 : MethAt l.prog w K mg base C "in_order" _ (spOrd K C ⟨⟨eR, eM⟩, eN, eB⟩) fm5 _ := ⟨⟨am5, im5, km5⟩, fn_or (ok_ordO Fm5 T R Gp dNO eB') (fn_or (ok_ordL Fm5 T R Gp dNL eB') (ok_ordT Fm5 T R Gp dNT eB')), bm5⟩
    have M5 : MethAt l.prog w K mg base C "as_one" _ _ fm6 _ := ⟨⟨am6, im6, km6⟩, ok_asOne Fm6 T R Gp, bm6⟩
    have M6 : MethAt l.prog w K mg base C "in_two" _ _ fm7 _ := ⟨⟨am7, im7, km7⟩, ok_inTwo Fm7 T R Gp, bm7⟩
    have K4 := kb_lb (fd := PySem.W.fnOf "with_length" "Ring.with_length" (defArgs sRingWithLength) (defBody sRingWithLength) (defScope sRingWithLength) .none kVm2 dcm2 pmm2 anm2 cdm2 ctm2) (K := K) (fun a b c s => .of_eq rfl)
    have K1 := kb_bar (fd := PySem.W.fnOf "begun_at" "Ring.begun_at" (defArgs sRingBegunAt) (defBody sRingBegunAt) (defScope sRingBegunAt) .none kVm3 dcm3 pmm3 anm3 cdm3 ctm3) (K := K) (fun a b s => .of_eq rfl)
    have K3 := kb_order (fd := PySem.W.fnOf "in_order" "Ring.in_order" (defArgs sRingInOrder) (defBody sRingInOrder) (defScope sRingInOrder) .none kVm5 dcm5 pmm5 anm5 cdm5 ctm5) (K := K) (fun a b s => .of_eq rfl)
    have K5 := kb_bar (fd := PySem.W.fnOf "as_one" "Ring.as_one" (defArgs sRingAsOne) (defBody sRingAsOne) (defScope sRingAsOne) .none kVm6 dcm6 pmm6 anm6 cdm6 ctm6) (K := K) (fun a b s => .of_eq rfl)
    have K6 := kb_lb (fd := PySem.W.fnOf "in_two" "Ring.in_two" (defArgs sRingInTwo) (defBody sRingInTwo) (defScope sRingInTwo) .none kVm7 dcm7 pmm7 anm7 cdm7 ctm7) (K := K) (fun a b c s => .of_eq rfl)
    have dDr : DrawAt l.prog w K mg base _ _ := ⟨ok_draw F9 T, gl a9, k9, b9⟩
    have dPn := (⟨ok_pen F8 T, gl a8, k8, b8⟩ : DefAt l.prog w K mg base _ _ "_law_pen" _ _ _ _)
    have dPk := (⟨ok_pick F10 T dDr, gl a10, k10, b10⟩ : DefAt l.prog w K mg base _ _ "_law_pick" _ _ _ _)
    have dMx := (⟨ok_mixed F11 T dDr, gl a11, k11, b11⟩ : DefAt l.prog w K mg base _ _ "_law_mixed" _ _ _ _)
    have dLn := (⟨ok_lengths F12 T dDr, gl a12, k12, b12⟩ : DefAt l.prog w K mg base _ _ "_law_lengths" _ _ _ _)
    have dRN := (⟨ok_rn F14 T R dDr dMx Gp EQ M1 K1 M2 M3 K3, gl a14, k14, b14⟩ : DefAt l.prog w K mg base _ _ "_law_renumbered_right" _ _ _ _)
    have dCH := (⟨ok_ch F15 T Tm R dDr dPk Gp EQ ⟨rfl, rfl, rfl, rfl⟩ M4 K4 M5 K5 M6 K6 Hc tb1 hm1 hu1 F13 b13 (gl a13), gl a15, k15, b15⟩ : DefAt l.prog w K mg base _ _ "_law_changed_right" _ _ _ _)
    have dRF := (⟨ok_rf F16 T R dDr dPk Gp ⟨rfl, rfl, rfl, rfl⟩ M1 M3 M4 M5 M6 Hc tb2 hm2 hu2 F13 b13 (gl a13), gl a16, k16, b16⟩ : DefAt l.prog w K mg base _ _ "_law_refused_right" _ _ _ _)
    exact ok_law F17 T dPn dLn dRN dCH dRF
end K
open PySem PySem.W PyProof.Rows in
set_option maxRecDepth 100000 in
set_option maxHeartbeats 0 in
theorem PySem.Challenge.cw_ringbars_k05_bars_changed_and_renumbered_holds : PySem.Challenge.rw_ringbars_k05_bars_changed_and_renumbered.Holds := by
  w_on; o_law; k_head; (case hw => w_witness2)
  k_fill
  refine LamX.walk_ofTs (l := PySem.Challenge.rw_ringbars_k05_bars_changed_and_renumbered) (n := 63) (k := 10) (x := "_law_script") (CX := fun _ => L2.CX0) rfl (by decide) rfl ⟨rfl, by decide, by decide⟩ (fun w h Y => PySem.W.km_in_of Y) ?F (fun _ _ _ _ _ z => z)
  case F =>
    intro w mg fa h Y KX G hmg
    refine' K.all_mk KX G hmg ?aC ?aeX ?aeR ?aeB ?aeN ?aeM ?a0 ?l0 ?c0 ?k0 ?a1 ?l1 ?c1 ?k1 ?a2 ?l2 ?c2 ?k2 ?a3 ?l3 ?c3 ?k3 ?a4 ?l4 ?c4 ?k4 ?a5 ?l5 ?c5 ?k5 ?a6 ?l6 ?c6 ?k6 ?a7 ?l7 ?c7 ?k7 ?a8 ?l8 ?c8 ?k8 ?a9 ?l9 ?c9 ?k9 ?a10 ?l10 ?c10 ?k10 ?a11 ?l11 ?c11 ?k11 ?a12 ?l12 ?c12 ?k12 ?a13 ?l13 ?c13 ?k13 ?a14 ?l14 ?c14 ?k14 ?a15 ?l15 ?c15 ?k15 ?a16 ?l16 ?c16 ?k16 ?a17 ?l17 ?c17 ?k17 ?am0 ?im0 ?lm0 ?cm0 ?km0 ?am1 ?im1 ?lm1 ?cm1 ?km1 ?am2 ?im2 ?lm2 ?cm2 ?km2 ?am3 ?im3 ?lm3 ?cm3 ?km3 ?am4 ?im4 ?lm4 ?cm4 ?km4 ?am5 ?im5 ?lm5 ?cm5 ?km5 ?am6 ?im6 ?lm6 ?cm6 ?km6 ?am7 ?im7 ?lm7 ?cm7 ?km7 ?am8 ?im8 ?lm8 ?cm8 ?km8 ?tim8 ?am9 ?im9 ?lm9 ?cm9 ?km9 ?tim9 ?am10 ?im10 ?lm10 ?cm10 ?km10 ?tim10 ?am11 ?im11 ?lm11 ?cm11 ?km11 ?tim11 ?rpg ?rhd ?rpo ?rsa ?rmk ?rkc ?rn1 ?rn2 ?rn3 ?rn4 ?rne ?rho ?rha ?rhn ?rht ?rhm ?z_int ?z_len ?z_abs ?z_list ?z_tuple ?z_bool ?z_range ?z_sum ?z_max ?z_all ?z_any ?z_sorted ?z_enumerate ?z_isinstance ?z_min ?g_MOST_LENGTH ?g_LEAST_BARS ?g_MOST_BARS ?xeR ?rveR ?saeR ?gaeR ?ggeR ?eCeR ?tCeR ?kCeR ?hdeR ?haeR ?hmeR ?nfeRpart ?sbeR ?xeB ?rveB ?saeB ?gaeB ?ggeB ?eCeB ?tCeB ?kCeB ?hdeB ?haeB ?hmeB ?nfeBpart ?sbeB ?xeN ?rveN ?saeN ?gaeN ?ggeN ?eCeN ?tCeN ?kCeN ?hdeN ?haeN ?hmeN ?nfeNvalue ?sbeN ?xeM ?rveM ?saeM ?gaeM ?ggeM ?eCeM ?tCeM ?kCeM ?hdeM ?haeM ?hmeM ?nfeMwhat ?nfeMmost ?sbeM ?eCeX ?hdeX ?tCeX ?kBR ?kNR ?kNB ?kMR ?kMB ?kMN ?lc1 ?hdc1 ?nT1 ?hT1 ?lc2 ?hdc2 ?nT2 ?hT2 ?nP
    (case hT1 => exact PySem.W.km_tabs_of Y _ (List.mem_cons_of_mem _ (List.mem_cons_self ..)))
    (case hT2 => exact PySem.W.km_tabs_of Y _ (List.mem_cons_self ..))
    (case aC => k_is)
    (case aeX => k_is)
    (case aeR => k_is)
    (case aeB => k_is)
    (case aeN => k_is)
    (case aeM => k_is)
    (case a0 => k_is)
    (case l0 => k_is)
    (case c0 => k_is)
    (case k0 => k_is)
    (case a1 => k_is)
    (case l1 => k_is)
    (case c1 => k_is)
    (case k1 => k_is)
    (case a2 => k_is)
    (case l2 => k_is)
    (case c2 => k_is)
    (case k2 => k_is)
    (case a3 => k_is)
    (case l3 => k_is)
    (case c3 => k_is)
    (case k3 => k_is)
    (case a4 => k_is)
    (case l4 => k_is)
    (case c4 => k_is)
    (case k4 => k_is)
    (case a5 => k_is)
    (case l5 => k_is)
    (case c5 => k_is)
    (case k5 => k_is)
    (case a6 => k_is)
    (case l6 => k_is)
    (case c6 => k_is)
    (case k6 => k_is)
    (case a7 => k_is)
    (case l7 => k_is)
    (case c7 => k_is)
    (case k7 => k_is)
    (case a8 => k_is)
    (case l8 => k_is)
    (case c8 => k_is)
    (case k8 => k_is)
    (case a9 => k_is)
    (case l9 => k_is)
    (case c9 => k_is)
    (case k9 => k_is)
    (case a10 => k_is)
    (case l10 => k_is)
    (case c10 => k_is)
    (case k10 => k_is)
    (case a11 => k_is)
    (case l11 => k_is)
    (case c11 => k_is)
    (case k11 => k_is)
    (case a12 => k_is)
    (case l12 => k_is)
    (case c12 => k_is)
    (case k12 => k_is)
    (case a13 => k_is)
    (case l13 => k_is)
    (case c13 => k_is)
    (case k13 => k_is)
    (case a14 => k_is)
    (case l14 => k_is)
    (case c14 => k_is)
    (case k14 => k_is)
    (case a15 => k_is)
    (case l15 => k_is)
    (case c15 => k_is)
    (case k15 => k_is)
    (case a16 => k_is)
    (case l16 => k_is)
    (case c16 => k_is)
    (case k16 => k_is)
    (case a17 => k_is)
    (case l17 => k_is)
    (case c17 => k_is)
    (case k17 => k_is)
    (case am0 => k_is)
    (case im0 => k_is)
    (case lm0 => k_is)
    (case cm0 => k_is)
    (case km0 => k_is)
    (case am1 => k_is)
    (case im1 => k_is)
    (case lm1 => k_is)
    (case cm1 => k_is)
    (case km1 => k_is)
    (case am2 => k_is)
    (case im2 => k_is)
    (case lm2 => k_is)
    (case cm2 => k_is)
    (case km2 => k_is)
    (case am3 => k_is)
    (case im3 => k_is)
    (case lm3 => k_is)
    (case cm3 => k_is)
    (case km3 => k_is)
    (case am4 => k_is)
    (case im4 => k_is)
    (case lm4 => k_is)
    (case cm4 => k_is)
    (case km4 => k_is)
    (case am5 => k_is)
    (case im5 => k_is)
    (case lm5 => k_is)
    (case cm5 => k_is)
    (case km5 => k_is)
    (case am6 => k_is)
    (case im6 => k_is)
    (case lm6 => k_is)
    (case cm6 => k_is)
    (case km6 => k_is)
    (case am7 => k_is)
    (case im7 => k_is)
    (case lm7 => k_is)
    (case cm7 => k_is)
    (case km7 => k_is)
    (case am8 => k_is)
    (case im8 => k_is)
    (case lm8 => k_is)
    (case cm8 => k_is)
    (case km8 => k_is)
    (case tim8 => k_is)
    (case am9 => k_is)
    (case im9 => k_is)
    (case lm9 => k_is)
    (case cm9 => k_is)
    (case km9 => k_is)
    (case tim9 => k_is)
    (case am10 => k_is)
    (case im10 => k_is)
    (case lm10 => k_is)
    (case cm10 => k_is)
    (case km10 => k_is)
    (case tim10 => k_is)
    (case am11 => k_is)
    (case im11 => k_is)
    (case lm11 => k_is)
    (case cm11 => k_is)
    (case km11 => k_is)
    (case tim11 => k_is)
    (case rpg => k_is)
    (case rhd => k_is)
    (case rpo => k_is)
    (case rsa => k_is)
    (case rmk => k_is)
    (case rkc => k_is)
    (case rn1 => k_is)
    (case rn2 => k_is)
    (case rn3 => k_is)
    (case rn4 => k_is)
    (case rne => k_is)
    (case rho => k_is)
    (case rha => k_is)
    (case rhn => k_is)
    (case rht => k_is)
    (case rhm => k_is)
    (case z_int => k_is)
    (case z_len => k_is)
    (case z_abs => k_is)
    (case z_list => k_is)
    (case z_tuple => k_is)
    (case z_bool => k_is)
    (case z_range => k_is)
    (case z_sum => k_is)
    (case z_max => k_is)
    (case z_all => k_is)
    (case z_any => k_is)
    (case z_sorted => k_is)
    (case z_enumerate => k_is)
    (case z_isinstance => k_is)
    (case z_min => k_is)
    (case g_MOST_LENGTH => k_is)
    (case g_LEAST_BARS => k_is)
    (case g_MOST_BARS => k_is)
    (case xeR => k_is)
    (case rveR => first | (with_reducible rfl) | decide +kernel | k_is)
    (case saeR => k_is)
    (case gaeR => k_is)
    (case ggeR => k_is)
    (case eCeR => k_is)
    (case tCeR => k_is)
    (case kCeR => k_is)
    (case hdeR => k_is)
    (case haeR => k_is)
    (case hmeR => k_is)
    (case nfeRpart => k_is)
    (case sbeR => k_is)
    (case xeB => k_is)
    (case rveB => first | (with_reducible rfl) | decide +kernel | k_is)
    (case saeB => k_is)
    (case gaeB => k_is)
    (case ggeB => k_is)
    (case eCeB => k_is)
    (case tCeB => k_is)
    (case kCeB => k_is)
    (case hdeB => k_is)
    (case haeB => k_is)
    (case hmeB => k_is)
    (case nfeBpart => k_is)
    (case sbeB => k_is)
    (case xeN => k_is)
    (case rveN => first | (with_reducible rfl) | decide +kernel | k_is)
    (case saeN => k_is)
    (case gaeN => k_is)
    (case ggeN => k_is)
    (case eCeN => k_is)
    (case tCeN => k_is)
    (case kCeN => k_is)
    (case hdeN => k_is)
    (case haeN => k_is)
    (case hmeN => k_is)
    (case nfeNvalue => k_is)
    (case sbeN => k_is)
    (case xeM => k_is)
    (case rveM => first | (with_reducible rfl) | decide +kernel | k_is)
    (case saeM => k_is)
    (case gaeM => k_is)
    (case ggeM => k_is)
    (case eCeM => k_is)
    (case tCeM => k_is)
    (case kCeM => k_is)
    (case hdeM => k_is)
    (case haeM => k_is)
    (case hmeM => k_is)
    (case nfeMwhat => k_is)
    (case nfeMmost => k_is)
    (case sbeM => k_is)
    (case eCeX => k_is)
    (case hdeX => k_is)
    (case tCeX => k_is)
    (case kBR => kit_is)
    (case kNR => kit_is)
    (case kNB => kit_is)
    (case kMR => kit_is)
    (case kMB => kit_is)
    (case kMN => kit_is)
    (case lc1 => k_is)
    (case hdc1 => first | rfl | decide +kernel | with_unfolding_all rfl)
    (case nT1 => exact K.out_of Y (by decide +kernel))
    (case lc2 => k_is)
    (case hdc2 => first | rfl | decide +kernel | with_unfolding_all rfl)
    (case nT2 => exact K.out_of Y (by decide +kernel))
    (case nP => decide)
