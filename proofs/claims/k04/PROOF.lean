import PyProof.Rows.All
import Wide.All
import OpenK.AllK
import Wide.FinOn
import HandS.ForMost
import HandS.IsInst
import HandS.Strs
import HandS.ExcInit
import HandS.ExcField
import HandS.ExcIs
import HandS.TryOnly
import HandS.Lambda
import HandS.EndTab
import HandS.Flow
import HandS.SortInts
import HandS.SortRule
import HandS.SortKw
import KE.KTupSum
import HandS.NamedTupSort
import PyProof.P3Eq
import HandS.ReCall
import HandS.OwnEq
import HandS.TupAny
import HandS.Deep
import PyProof.InstNe
import HandS.Evl
import HandS.Walk
import HandS.WordsExc
import HandS.Conv
import HandS.Style
import HandS.ClsMeth
import HandS.StrMore
import HandS.Steps
import KE.KCallOwn
import HandS.Text
import PyProof.Rows.StrDigits
import KE.IntTextLaws
import PyProof.StrLawsTight
import PyProof.Rows.StrSplitJoin
import PyProof.StrLawsChain
import KE.KExcIs
import PyProof.StrBlock2
import HandS.MakeKwOnly
import KE.KNestM
import PySem.Challenge.RW_ringbars_k04_rings_made_read_refused
set_option Elab.async false
set_option linter.all false
set_option maxRecDepth 100000
set_option maxHeartbeats 4000000
/-! ## rules of our own, for what the rings' program says and the layer has no rule for -/
namespace Rg
open PySem PySem.Spec PyProof.Rows L2

/-! ### f(k = v, ..), oj.m(k = v, ..) -/
section
variable {X : Cx} {CX : CXT} {k : Nat} {f C : Addr} {fd : FuncData} {ps ks : List Str} {sp : Sp} {E : XK} {x m : Str} {p pos apos : Pos} {oj : Expr} {kws : List Keyword} {ta : TE} {tkn : TA}
variable {g : List Value → List Value → List Value} {gV : List V → List V → List V}
theorem pe_callK0 (F : FnOk X.prog X.w X.K X.mg X.base CX k f fd ps sp) (hr : Room k X.A) (hg : Gl X x) (hmm : X.mg x = some (.ref f)) (hk : PySem.W.keepIn X.K (.ref f) = true) (hb : KBinds X.K fd ps ks g gV) (hx : Passes CX X E)
    (hkw : PK X kws tkn) (hall : (backToKw pos (keywordEach kws X.env)).all (·.1.isSome) = true := by rfl) (hks : (backToKw pos (keywordEach kws X.env)).filterMap (·.1) = ks := by rfl)
    (hdb : (x == ("__debug__" : Str)) = false := by decide)
    (hpl : ((backTo pos (starEach [] X.env)).any (·.1) || (backToKw pos (keywordEach kws X.env)).any (·.1.isNone)) = false := by rfl) :
    PE X (.Call (.Name x p) [] kws pos) (tCallK sp gV E tNil tkn) := by
  refine ⟨fun pns s σs Hh Qq Iv h => ?_⟩
  refine wpAny_Call_Name_kw (ld_glob Iv hg hmm ?_ hdb)
  refine PySem.W.callWith_KW0 (h₀ := X.base) Iv.ok.mod.kin hk hall ?_ hpl
  refine thn (hkw.run pos pns s σs Hh _ Iv h) fun kvs2 sh2 ⟨zvs, H2, I2, rlz, q2⟩ => ⟨I2.kIn, ?_⟩
  rw [hks]
  exact run_fnk (us := []) (vs := []) F hr hb hx I2 .nil rlz q2
/-- oj.m(k = v, ..) -/
def tMethK (C : Addr) (m : Str) (sp : Sp) (gV : List V → List V → List V) (E : XK) (ta : TE) (tkn : TA) : TE := fun σs Hh Qq => ta σs Hh fun x H1 => ∃ a dx fs, x = .ref a ∧ H1 a = some (.ins C dx fs) ∧ fs.lookup m = none ∧
  tkn σs H1 fun zvs H2 => sp (gV [.ref a] zvs) H2 Qq E
theorem pe_methK0 {pl : Sem Bool} (he : PE X oj ta) (c : Cls X.K C) (hmm : Meth X.K C m f) (F : FnOk X.prog X.w X.K X.mg X.base CX k f fd ps sp) (hr : Room k X.A) (hb : KBinds X.K fd ps ks g gV) (hx : Passes CX X E)
    (hkw : PK X kws tkn) (hall : (backToKw pos (keywordEach kws X.env)).all (·.1.isSome) = true := by rfl) (hks : (backToKw pos (keywordEach kws X.env)).filterMap (·.1) = ks := by rfl)
    (hpl : ((backTo pos (starEach [] X.env)).any (·.1) || (backToKw pos (keywordEach kws X.env)).any (·.1.isNone)) = false := by rfl)
    (ht : eval (.Call (.Attribute oj m apos) [] kws pos) X.env = (do
      let ov ← eval oj X.env
      standAt apos.atName
      let (f, first) ← holding [ov] (getMethod ov m pl)
      callWith pos f first (backTo pos (starEach [] X.env)) (backToKw pos (keywordEach kws X.env))) := by rfl) :
    PE X (.Call (.Attribute oj m apos) [] kws pos) (tMethK C m sp gV E ta tkn) := by
  refine ⟨fun pns s σs Hh Qq Iv h => ?_⟩
  refine PySem.W.methodCall_KW (pl := pl) (thn (he.run pns s σs Hh _ Iv h) fun u sh1 ⟨x, H1, I1, rlx, a, dx, fs, ex, eqa, l, qq⟩ => ?_) ht
  subst ex
  obtain rfl : u = Value.ref a := rlx
  refine getmeth_ok I1 eqa c hmm l ?_
  refine PySem.W.callWith_KW0 (first := [.ref a]) (h₀ := X.base) Iv.ok.mod.kin hmm.kp hall ?_ hpl
  refine thn (hkw.run pos pns sh1 σs H1 _ I1 qq) fun kvs2 sh2 ⟨zvs, H2, I2, rlz, q2⟩ => ⟨I2.kIn, ?_⟩
  rw [hks]
  exact run_fnk (us := [.ref a]) (vs := [.ref a]) F hr hb hx I2 (.cons rfl .nil) rlz q2
end

/-! ### len(oj), the instance's own __len__ -/
section
variable {X : Cx} {k : Nat} {f : Addr} {fd : FuncData} {sp : Sp}
def rLenO (K : PySem.W.Frag) (f : Addr) (sp : Sp) : List V → Hp → VK → Prop := fun vxs Hh Qq => ∃ a C dx fs, vxs = [.ref a] ∧ Hh a = some (.ins C dx fs) ∧ PySem.W.findIn K (.ref C) "__len__" = some (some (.ref f)) ∧ PySem.W.isFn K (.ref f) = true ∧
  sp [.ref a] Hh (fun v H' => ∃ n : Int, v = .int n ∧ 0 ≤ n ∧ n < 2 ^ 63 ∧ Qq (.int n) H') E0
theorem call_lenO (F : FnOk X.prog X.w X.K X.mg X.base CX0 k f fd ["self"] sp) (hr : Room (k + 1) X.A) (hb : Binds X.K fd ["self"] []) : CallR X (.builtin "len") (rLenO X.K f sp) := by
  intro pns s σs Hh vxs uvs Qq Iv r h
  obtain ⟨a, C, dx, fs, rfl, eqa, hs, hf, qq⟩ := h
  obtain ⟨u, rfl, rlu⟩ := vals1 r
  obtain rfl : u = Value.ref a := rlu
  obtain ⟨mA, O, _, _, _, _⟩ := ins_get Iv.hok eqa
  obtain ⟨m, fr⟩ := Iv.fr
  obtain ⟨od, hod⟩ : ∃ od, s.heap.get? dx = some od := let ⟨oj, _, _, e', _⟩ := O.ns; ⟨oj, e'⟩
  refine PySem.W.len_K fr Iv.ok.mod.kin (ox := PySem.W.instObj C dx) (C := C) (od := some od) ⟨O.obj, rfl, rfl, hod⟩ hs hf ?_
  have hlst : ([Value.ref a] ++ []).length = (["self"] : List Str).length := rfl
  refine wpAny_call (codeAny_mono (F.run X.A.in1 X.stack s Hh ⟨[.ref a], []⟩ [.ref a] [.ref a] _ E0 hr.in1 Iv.env0.in1 (hb s [.ref a] Iv.kIn hlst) (.cons rfl .nil) qq) fun r s' hsq => ?_)
  cases r with
  | error e => exact hsq.elim
  | ok fl =>
    cases fl with
    | ret u =>
      obtain ⟨v, H', I3, rlv, n, ev, h0, hh1, q3⟩ := Iv.after hsq
      subst ev
      obtain ⟨t, rfl⟩ := rlv
      exact ⟨⟨h0, hh1⟩, ⟨.int n, H', I3.tok _, ⟨_, rfl⟩, q3⟩⟩
    | next => exact False.elim hsq
    | brk => exact False.elim hsq
    | cont => exact False.elim hsq
end

/-! ### sum, max of a tuple of ints; vls index -/
section
variable {prog : Program} {w : World} {A : Around} {E : Value → Shared → Prop} {s : Shared} {l : Addr} {vls : List Value} {nms : List Int} {Qq : Value → Shared → Prop}
theorem isTuple_of {h : Heap} (x : IsTup h l vls.toArray) : h.IsTuple l vls.toArray := x
theorem sumT_raw (hcal : A.handled = none) (hlst : s.heap.IsTuple l vls.toArray) (hint : IntsAre vls nms)
    (h : ∀ h' tkn t', (∀ b oj, s.heap.get? b = some oj → h'.get? b = some oj) → Qq (.int nms.sum t') { s with heap := h', toks := tkn }) : wpAny (model prog w) A (call (.builtin "sum") [.ref l]) Qq E s := by
  obtain ⟨vxs, e⟩ := hint.allInts.items
  have hnn : numsOf (intItems vxs).toList = nms := by rw [← e]; exact hint.numsOf
  rw [nums_intItems] at hnn
  rw [e] at hlst
  refine PySem.W.ktm_sumG hcal hlst fun h' tkn t' hk => ?_
  have := h h' tkn t' hk
  rw [preSum_eq, List.take_of_length_le (by simp), hnn]; exact this
end
section
variable {X : Cx}
def rSumT (K : PySem.W.Frag) : List V → Hp → VK → Prop := fun vs Hh Qq => ∃ (a : Addr) (nms : List Int), vs = [V.ref a] ∧ SqT K Hh a (nms.map V.int) ∧ Qq (.int nms.sum) Hh
theorem cr_sumT (hc : X.calm = true) : CallR X (.builtin "sum") (rSumT X.K) := by
  intro pns s σs Hh vs uvs Qq Iv r h
  obtain ⟨a, nms, rfl, hs, qq⟩ := h
  obtain ⟨vls, rlv, hlst, _⟩ := Iv.tuple hs
  rw [Vals.ref1 r]
  exact sumT_raw (Iv.ok.hd hc) (isTuple_of hlst) rlv.ints fun h' tkn t' hk => ⟨.int _, Hh, Iv.kept hk, ⟨_, rfl⟩, qq⟩
end
end Rg
namespace Rg
open PySem PySem.Spec PyProof.Rows L2
/-! ### max of a tuple of ints, vls index, isinstance of a caught error with fields -/
section
variable {prog : Program} {w : World} {A : Around} {E : Value → Shared → Prop} {s : Shared} {l : Addr} {vls : List Value} {nms : List Int} {Qq : Value → Shared → Prop}
theorem max_intTup {vxs : Array (Int × Tok)} (hcal : A.handled = none) (ht : s.heap.IsTuple l (intItems vxs)) (hpos : 0 < vxs.size)
    (h : ∀ v h' tkn, (intItems vxs)[argBest (fun i j => decide (numAt vxs i > numAt vxs j)) (vxs.size - 1)]? = some v → (∀ b oj, s.heap.get? b = some oj → h'.get? b = some oj) → Qq v { s with heap := h', toks := tkn }) :
    wpAny (model prog w) A (call (.builtin "max") [.ref l]) Qq E s := by
  obtain ⟨oj, hob, hc, n, hd⟩ := id ht
  have hI : l ≠ s.heap.objs.size := Nat.ne_of_lt (Heap.lt_size hob)
  refine call_max_walk (wpAny_pyIter_tuple ht ?_)
  refine ⟨s.heap.objs.size, _, _, _, _, _, _, rfl, Walks.tuple (A := A.in1) hcal _ l hI (intItems vxs), ⟨⟨_, Heap.get?_push_size _ rfl, rfl, rfl⟩, ht.at fun oj e => Heap.get?_push_of_some _ e⟩, fun b hb => ?_, by simpa [intItems] using hpos, CmpOf.ints_gt (numAt vxs) (fun _ _ => intItems_at), fun v h' tkn hP hk => ?_⟩
  · rcases List.mem_cons.mp hb with rfl | hb
    · exact Heap.lt_size (Heap.get?_push_size _ rfl)
    · obtain rfl := List.mem_singleton.mp hb
      exact Heap.lt_size (Heap.get?_push_of_some _ hob)
  · refine h v h' tkn (by simpa [intItems] using hP) fun b oj e => ?_
    exact hk b oj (fun hb => absurd (Heap.lt_size e) ((List.mem_singleton.mp hb) ▸ Nat.lt_irrefl _)) (Heap.get?_push_of_some _ e)
theorem maxT_raw (hcal : A.handled = none) (hlst : s.heap.IsTuple l vls.toArray) (hint : IntsAre vls nms) (hpos : 0 < nms.length)
    (h : ∀ h' tkn M t', (∀ b oj, s.heap.get? b = some oj → h'.get? b = some oj) → M ∈ nms → (∀ a, a ∈ nms → a ≤ M) → Qq (.int M t') { s with heap := h', toks := tkn }) : wpAny (model prog w) A (call (.builtin "max") [.ref l]) Qq E s := by
  obtain ⟨vxs, e⟩ := hint.allInts.items
  have hnn : numsOf (intItems vxs).toList = nms := by rw [← e]; exact hint.numsOf
  rw [nums_intItems] at hnn
  subst hnn
  rw [e] at hlst
  have hsz : 0 < vxs.size := by simpa using hpos
  refine max_intTup hcal hlst hsz fun v h' tkn hval hk => ?_
  obtain ⟨t, rfl⟩ := intItems_at hval
  obtain ⟨hh1, hh2⟩ := argBest_gt (numAt vxs) (vxs.size - 1)
  refine h h' tkn _ t hk ?_ fun a ha => ?_
  · rw [numAt_eq]; exact PySem.getD_mem (by rw [List.length_map, Array.length_toList]; omega)
  · obtain ⟨j, hjj, rfl⟩ := mem_getD ha
    rw [List.length_map, Array.length_toList] at hjj
    rw [← numAt_eq]; exact hh2 j (by omega)
end
section
variable {X : Cx}
def rMaxT (K : PySem.W.Frag) : List V → Hp → VK → Prop := fun vs Hh Qq => ∃ (a : Addr) (nms : List Int), vs = [V.ref a] ∧ SqT K Hh a (nms.map V.int) ∧ 0 < nms.length ∧ ∀ m, m ∈ nms → (∀ y, y ∈ nms → y ≤ m) → Qq (.int m) Hh
theorem cr_maxT (hc : X.calm = true) : CallR X (.builtin "max") (rMaxT X.K) := by
  intro pns s σs Hh vs uvs Qq Iv r h
  obtain ⟨a, nms, rfl, hs, hpos, qq⟩ := h
  obtain ⟨vls, rlv, hlst, _⟩ := Iv.tuple hs
  rw [Vals.ref1 r]
  exact maxT_raw (Iv.ok.hd hc) (isTuple_of hlst) rlv.ints hpos fun h' tkn m t' hk hh1 hh2 => ⟨.int _, Hh, Iv.kept hk, ⟨_, rfl⟩, qq m hh1 hh2⟩
theorem flat_ints (yms : List Int) : (yms.map V.int).all flatV = true := by
  rw [List.all_map]
  exact List.all_eq_true.mpr fun _ _ => rfl
def rTIdx (K : PySem.W.Frag) : V → List V → Hp → VK → Prop := fun x vxs Hh Qq => ∃ (p : Addr) (yms : List Int) (z : Int) (j : Nat), x = .ref p ∧ vxs = [.int z] ∧ SqT K Hh p (yms.map V.int) ∧ yms[j]? = some z ∧ (∀ m, m < j → yms[m]? ≠ some z) ∧ Qq (.int (j : Nat)) Hh
theorem mt_tupIdx : MtR X "tuple.index" (rTIdx X.K) := by
  intro pns s σs Hh x vxs v uvs Qq Iv rlx rs h
  obtain ⟨p, yms, z, j, rfl, rfl, hsq, hatj, hnot, qq⟩ := h
  cases rlx
  obtain ⟨u, rfl, t, rfl⟩ := vals1 rs
  obtain ⟨vls, r, pl, hszz⟩ := Iv.tuple hsq
  obtain ⟨⟨cls, dct, dta, slt⟩, hob, hc, n, hd⟩ := pl
  simp only at hc hd
  subst hc
  subst hd
  have hlst : vls.toArray.size = yms.length := by rw [List.size_toArray, ← r.length, List.length_map]
  have hjj : j < vls.toArray.size := by rw [hlst]; exact (List.getElem?_eq_some_iff.mp hatj).1
  have at' : ∀ (m : Nat) (hmm : m < vls.toArray.size), ∃ y t', yms[m]? = some y ∧ vls.toArray[m] = Value.int y t' := fun m hmm => by
    have hm' : m < yms.length := by rw [← hlst]; exact hmm
    obtain ⟨w, hwv, t', hw'⟩ := r.get (i := m) (x := .int yms[m]) (by simp [hm'])
    refine ⟨yms[m], t', List.getElem?_eq_getElem hm', ?_⟩
    have e := (List.getElem?_eq_some_iff.mp hwv).2
    rw [← hw', ← e]
    simp
  refine call_meets PySem.F.slot_tuple_index ⟨_, hob, rfl⟩ PySem.F.entry_tuple_index (PySem.F.args_tuple_index_2 _ _) (TI.tuple_indexAt p vls.toArray n dct slt (.int z t) (eqU (.int z)) j hjj ?_ ?_)
    ⟨hob, fun w hwv => mem_eqAt (x := .int z) ⟨t, rfl⟩ rfl r (flat_ints yms) w (by simpa using hwv), ⟨.int (j : Nat), Hh, Iv.tok _, ⟨_, rfl⟩, qq⟩⟩
  · obtain ⟨y, t', hh1, hh2⟩ := at' j hjj
    rw [hatj] at hh1
    cases hh1
    rw [hh2]
    simp [eqU, eqV]
  · intro m hmm hlt
    obtain ⟨y, t', hh1, hh2⟩ := at' m hmm
    rw [hh2]
    have : y ≠ z := fun e => hnot m hlt (by rw [hh1, e])
    simp [eqU, eqV, this]
end
/-! isinstance(e, c), e the exception that the suite holds, with vls dict -/
def rIsED (K : PySem.W.Frag) (D a : Addr) : List V → Hp → VK → Prop := fun vxs Hh Qq => ∃ (c : V) (cv : Value) (b : Bool), vxs = [.ref a, c] ∧ (∀ u, RelV c u → u = cv) ∧ PySem.W.kitOne K (.ref D) cv = some b ∧ Qq (.bl b) Hh
end Rg
namespace Rg
open PySem PySem.Spec PyProof.Rows L2 SrtO
/-! ### sorted(t), t a tuple -/
section
variable {prog : Program} {w : World} {A : Around} {E : Value → Shared → Prop} {s : Shared} {l : Addr} {vs : List Value}
/-- the heap behind the collecting -/
abbrev colHeap (h : Heap) (vs : List Value) : Heap := (h.push (seqObj "list" #[] 0)).update h.objs.size (Obj.mapSeq (· ++ vs.toArray))
theorem col_tup {Qq : List Value → Shared → Prop} (hlst : s.heap.IsTuple l vs.toArray) (hszz : vs.length ≤ sizeLine) (h : Qq vs { s with heap := colHeap s.heap vs }) : wpAny (model prog w) A (collect (.ref l)) Qq E s := by
  obtain ⟨oj, hob, hc, n, hd⟩ := hlst
  have hnew : (s.heap.push (seqObj "list" #[] 0)).get? s.heap.objs.size = some (seqObj "list" #[] 0) := Heap.get?_push_size _ rfl
  have hold : (s.heap.push (seqObj "list" #[] 0)).get? l = some oj := Heap.get?_push_of_some _ hob
  have tt : (Value.type "tuple" == Value.type "tuple") = true := by rfl
  unfold collect
  refine wpAny_bind (wpAny_runValue (codeAny_builtin entry_proto_collect' ?_))
  show wpAny _ _ (do again (.builtin "list.__iadd__" ⟨[← newList [], .ref l], []⟩)) _ _ s
  refine wpAny_bind (wpAny_newList (wpAny_pure ⟨Code.quiet_builtin _ (by decide +kernel), codeAny_builtin entry_list_iadd' ?_⟩))
  show wpAny _ _ (Builtin.List.listExtendWith (.ref s.heap.objs.size) (.ref l) (.ref s.heap.objs.size)) _ _ { s with heap := s.heap.push (seqObj "list" #[] 0) }
  unfold Builtin.List.listExtendWith
  refine wpAny_bind (wpAny_typeOf (T := "tuple") ⟨oj, hold, hc⟩ ?_)
  rw [if_pos (by rw [tt]; simp)]
  refine wpAny_bind (listItems_at hold hd (wpAny_bind (listItems_at (xs := #[]) (n := 0) hnew rfl ?_)))
  rw [if_neg (by simp)]
  refine wpAny_bind (listUpdate_at (xs := #[]) (n := 0) hnew rfl (wpAny_pure ?_) (Nat.zero_le _) (by show (#[] ++ vs.toArray).size ≤ sizeLine + 1; simp only [Array.size_append, List.size_toArray, List.length_nil]; omega))
  show wpAny (model prog w) A (do
      let oj ← load s.heap.objs.size
      match oj.data with
      | .seq vxs _ => pure vxs.toList
      | _ => unsupported "internal:collect") Qq E { s with heap := colHeap s.heap vs }
  refine wpAny_bind (wpAny_load (get?_update_seq hnew _) ?_)
  show wpAny _ _ (pure ((#[] : Array Value) ++ vs.toArray).toList) Qq E _
  have e : ((#[] : Array Value) ++ vs.toArray).toList = vs := by simp
  rw [e]
  exact wpAny_pure h
theorem sorted_tup {ltv : Value → Value → Bool} {Qq : Value → Shared → Prop} (O : Swo ltv) (hlst : s.heap.IsTuple l vs.toArray) (hszz : vs.length ≤ sizeLine)
    (hS : 2 ≤ vs.length → ∀ (h₁ : Heap) (a : Addr), h₁.get? a = some (seqObj "list" vs.toArray 0) → (∀ b oj, s.heap.get? b = some oj → b ≠ a ∧ h₁.get? b = some oj) → SortableO prog w A.in1.in1 { s with heap := h₁ } a vs ltv)
    (h : ∀ out : List Value, Srtd ltv out → Stb ltv out vs → Qq (.ref (s.heap.objs.size + 1)) { s with heap := sortedAll s.heap vs out.toArray }) : wpAny (model prog w) A (call (.builtin "sorted") [.ref l]) Qq E s := by
  have size1 : (colHeap s.heap vs).objs.size = s.heap.objs.size + 1 := by rw [Heap.size_update, size_push']
  have at1 : ((colHeap s.heap vs).push (seqObj "list" vs.toArray 0)).get? (s.heap.objs.size + 1) = some (seqObj "list" vs.toArray 0) := size1 ▸ Heap.get?_push_size (colHeap s.heap vs) rfl
  have old : ∀ b oj, s.heap.get? b = some oj → b ≠ s.heap.objs.size + 1 ∧ ((colHeap s.heap vs).push (seqObj "list" vs.toArray 0)).get? b = some oj := fun b oj qq => by
    have lt : b < s.heap.objs.size := Heap.lt_size qq
    exact ⟨Nat.ne_of_lt (Nat.lt_succ_of_lt lt), Heap.get?_push_of_some _ ((Heap.get?_update_ne _ _ _ _ (Nat.ne_of_lt lt)).trans (Heap.get?_push_of_some _ qq))⟩
  refine Calls.call_function_entry kind_sorted plain_sorted entry_sorted (args_sorted1 _) ?_
  unfold Builtin.«sorted»
  refine wpAny_bind (m := checkCount "sorted" 1 1 _) (wpAny_pure (wpAny_bind (col_tup hlst hszz (wpAny_bind (wpAny_newList ?_ hszz)))))
  show wpAny _ _ _ _ _ { s with heap := (colHeap s.heap vs).push (seqObj "list" vs.toArray 0) }
  rw [size1]
  exact wpAny_bind (wpAny_holding (wpAny_call_entry slot_list_sort ⟨_, at1, rfl⟩ entry_list_sort (list_sort_ord O at1 hszz (fun hh2 => hS hh2 _ _ at1 old) fun out hs hb => ⟨_, rfl, wpAny_pure ⟨_, rfl, h out hs hb⟩⟩) (args_list_sort _)))
end
section
variable {X : Cx}
def rSortedT (K : PySem.W.Frag) : List V → Hp → VK → Prop := fun vs Hh Qq => ∃ (a : Addr) (nms : List Int), vs = [V.ref a] ∧ SqT K Hh a (nms.map V.int) ∧
  ∀ (ns' : List Int) (p : Addr), ns'.Perm nms → ns'.Pairwise (· ≤ ·) → Hh p = none → Qq (.ref p) (upd Hh p (.lst (ns'.map V.int)))
theorem cr_sortedT : CallR X (.builtin "sorted") (rSortedT X.K) := by
  intro pns s σs Hh vs uvs Qq Iv r h
  obtain ⟨a, nms, rfl, hs, qq⟩ := h
  obtain ⟨vls, rlv, hlst, hszz⟩ := Iv.tuple hs
  have hint := rlv.ints
  rw [List.length_map] at hszz
  rw [Vals.ref1 r]
  refine sorted_tup swo_int (isTuple_of hlst) (by rw [hint.length]; exact hszz) (fun hh2 h₁ a' _ _ => ints_sortable hint hh2) fun out hh1 hh2 => ?_
  obtain ⟨k1, k2, k3⟩ := ints_out hint hh1 hh2
  obtain ⟨ep, he'⟩ := PyProof.Rows.sortedAll_at s.heap vls out.toArray
  exact ⟨.ref _, upd Hh (s.heap.objs.size + 1) (.lst ((out.map iv).map V.int)), Iv.laid (t' := s.toks) (fun _ _ => PyProof.Rows.sortedAll_old) (Nat.le_succ _) ⟨by rw [List.length_map, k2.length_eq]; exact hszz, out, ep, vals_of_ints k1, he'⟩, rfl, qq _ _ k2 k3 (Iv.hok.fresh (Nat.le_succ _))⟩
end
end Rg
namespace Rg
open PySem PySem.Spec PyProof.Rows L2 SrtO
/-! ### sorted(vxs), vxs a list of pairs (k, t): k an int, t a tuple of ints -/
/-- at v a pair of x and a tuple of the ints nms -/
def Nest (h : Heap) (v : Value) (x : Int) (nms : List Int) : Prop := ∃ (a b : Addr) (oj : Obj) (t : Tok) (n : Nat) (vls : List Value), v = .ref a ∧ h.get? a = some oj ∧ oj.cls = .type "tuple" ∧ oj.data = .seq #[.int x t, .ref b] n ∧ IsTup h b vls.toArray ∧ IntsAre vls nms
theorem Nest.kept {h h' : Heap} {v : Value} {x : Int} {nms : List Int} (p : Nest h v x nms) (k : ∀ b oj, h.get? b = some oj → oj.cls = .type "tuple" → h'.get? b = some oj) : Nest h' v x nms := by
  obtain ⟨a, b, oj, t, n, vls, e, hob, hc, hd, ⟨ob, hb, hbc, hbd⟩, hint⟩ := p
  exact ⟨a, b, oj, t, n, vls, e, k _ _ hob hc, hc, hd, ⟨ob, k _ _ hb hbc, hbc, hbd⟩, hint⟩
theorem reads_ints {h : Heap} : ∀ {vs : List Value} {nms : List Int}, IntsAre vs nms → ∃ as, ReadsAll h vs (nms.map PyData.int) as
  | _, _, .nil => ⟨_, .nil⟩
  | _, _, .cons i t r => by
    obtain ⟨as, qq⟩ := reads_ints (h := h) r
    exact ⟨_, .cons (.int i t) qq⟩
theorem eqvA_ints : ∀ vxs yms : List Int, PyData.eqvAll (vxs.map PyData.int) (yms.map PyData.int) = decide (vxs = yms)
  | [], [] => by simp [PyData.eqvAll]
  | [], y :: yms => by simp [PyData.eqvAll]
  | x :: vxs, [] => by simp [PyData.eqvAll]
  | x :: vxs, y :: yms => by
    simp only [List.map_cons, PyData.eqvAll, eqvA_ints vxs yms, PyData.eqv]
    by_cases e : x = y <;> by_cases f : vxs = yms <;> simp [e, f]
theorem layA_ints : ∀ l : List Int, PyData.canLayAll0 (l.map PyData.int) = true
  | [] => by simp [PyData.canLayAll0]
  | i :: l => by simp [PyData.canLayAll0, PyData.canLay0, layA_ints l]
theorem depA_ints : ∀ l : List Int, PyData.depthAll (l.map PyData.int) = 0
  | [] => by simp [PyData.depthAll]
  | i :: l => by simp [PyData.depthAll, PyData.depth, depA_ints l]
theorem lex_self : ∀ l : List Int, HT.lexLt l l = false
  | [] => rfl
  | x :: l => by rw [HT.lexLt_cons, if_pos rfl]; exact lex_self l
section
variable {prog : Program} {w : World} {A : Around} {E : Value → Shared → Prop} {s : Shared}
theorem eq_tupInts {b c : Addr} {vls jts : List Value} {nms ms : List Int} (hb : IsTup s.heap b vls.toArray) (hc : IsTup s.heap c jts.toArray) (hint : IntsAre vls nms) (hjj : IntsAre jts ms) (hu : A.units + 1 < cLine) :
    SeqAt.EqAt A s (.ref b) (.ref c) (decide (nms = ms)) := by
  obtain ⟨o1, hh1, c1, n1, d1⟩ := hb
  obtain ⟨o2, hh2, c2, n2, d2⟩ := hc
  obtain ⟨as, r1⟩ := reads_ints (h := s.heap) hint
  obtain ⟨bs, r2⟩ := reads_ints (h := s.heap) hjj
  have qq := SeqAt.eqAt_reads (.tuple (nms.map PyData.int)) (.tuple (ms.map PyData.int)) A s (.ref b) (.ref c) _ _ (Reads.tuple hh1 c1 d1 r1) (Reads.tuple hh2 c2 d2 r2) (by simp only [PyData.canLay0]; exact layA_ints nms) (by simp only [PyData.canLay0]; exact layA_ints ms)
    (by simp only [PyData.depth, depA_ints]; omega)
  have e : PyData.eqv (.tuple (nms.map PyData.int)) (.tuple (ms.map PyData.int)) = decide (nms = ms) := by
    simp only [PyData.eqv]
    exact eqvA_ints nms ms
  rwa [e] at qq
theorem nest_cmp {vs : List Value} {k : Value → Int × List Int} (hp : ∀ v ∈ vs, Nest s.heap v (k v).1 (k v).2) (hu : A.units + 1 < cLine) :
    SrtO.Cmp prog w A s (tuples' true) (fun p => p.1 ∈ vs) (lt2 fun v u => HT.lexLt ((k v).1 :: (k v).2) ((k u).1 :: (k u).2)) := by
  intro p qq hmm hm'
  have hh1 := hp _ hmm
  have hh2 := hp _ hm'
  show wpAny (model prog w) A (keyLt' (tuples' true) p.1 qq.1) (fun r s' => s' = s ∧ r = HT.lexLt ((k p.1).1 :: (k p.1).2) ((k qq.1).1 :: (k qq.1).2)) (fun _ _ => False) s
  generalize (k p.1).1 = x at hh1 ⊢
  generalize (k p.1).2 = nms at hh1 ⊢
  generalize (k qq.1).1 = y at hh2 ⊢
  generalize (k qq.1).2 = ms at hh2 ⊢
  obtain ⟨a, b, oj, t, n, vls, e, hob, hc, hd, hb, hint⟩ := hh1
  obtain ⟨a', b', o', t', n', its', e', ho', hc', hd', hb', hi'⟩ := hh2
  rw [e, e', HT.lexLt_cons]
  refine PySem.W.kat_lt hob hd ho' hd' ?_
  show PySem.W.KatLex prog w A true (decide (2 < 2)) _ [(.int x t, .int y t'), (.ref b, .ref b')] 0 s
  refine PySem.W.kat_cons (SeqAt.EqAt.int_int x t y t' prog w _ _ (PySem.W.kat_go (fun e1 => PySem.W.kat_yes (PySem.W.kat_cons (eq_tupInts hb hb' hint hi' hu prog w _ _ (PySem.W.kat_go (fun ee2 => ?_) (fun ee2 => ?_))))) (fun e1 => ?_)))
  · have ex : x = y := by simpa using e1
    have ey : nms = ms := of_decide_eq_true ee2
    refine PySem.W.kat_yes (PySem.W.kat_nil ⟨rfl, ?_⟩)
    rw [if_pos ex, ey, lex_self]
    rfl
  · have ex : x = y := by simpa using e1
    rw [if_pos ex]
    exact PySem.W.kat_no (PySem.W.kat_one _ _ (HT.lt_tupInts hb hb' hint hi' (by omega) ⟨rfl, rfl⟩))
  · have ex : ¬ x = y := by simpa using e1
    rw [if_neg ex]
    exact PySem.W.kat_no (oneLt_int ⟨rfl, rfl⟩)
theorem nest_firsts {h : Heap} {k : Value → Int × List Int} : ∀ {vs : List Value}, (∀ v ∈ vs, Nest h v (k v).1 (k v).2) → ∃ fs : List Value, PySem.W.KatTups h vs fs ∧ fs.length = vs.length ∧ ∀ f ∈ fs, ∃ x t, f = Value.int x t
  | [], _ => ⟨[], PySem.W.KatTups.nil, rfl, fun _ z => nomatch z⟩
  | v :: vs, hp => by
    obtain ⟨fs, q1, q2, q3⟩ := nest_firsts fun v' z => hp v' (List.mem_cons_of_mem _ z)
    obtain ⟨a, b, oj, t, n, vls, e, hob, hc, hd, _⟩ := hp v (List.mem_cons_self ..)
    rw [e]
    refine ⟨.int _ t :: fs, PySem.W.KatTups.cons hob hc hd rfl q1, congrArg (· + 1) q2, fun f z => ?_⟩
    rcases List.mem_cons.mp z with z | z
    · exact ⟨_, t, z⟩
    · exact q3 f z
theorem nest_sortable {a : Addr} {vs : List Value} {k : Value → Int × List Int} (h0 : 0 < vs.length) (hu : A.units + 1 < cLine) (hp : ∀ v ∈ vs, Nest s.heap v (k v).1 (k v).2) (ha : ∀ oj, s.heap.get? a = some oj → oj.cls ≠ .type "tuple") :
    SortableO prog w A s a vs fun v u => HT.lexLt ((k v).1 :: (k v).2) ((k u).1 :: (k u).2) := by
  intro h' keep
  have hp' : ∀ v ∈ vs, Nest h' v (k v).1 (k v).2 := fun v z => (hp v z).kept fun b oj e c => keep b oj (fun z => ha oj (z ▸ e) c) e
  obtain ⟨fs, q1, q2, q3⟩ := nest_firsts hp'
  refine ⟨tuples' true, fun Qq E hsq => PySem.W.kat_kind (T := .type "int") q1 (by omega) (fun f z => ?_) (by rfl) ?_, nest_cmp hp' hu⟩
  · obtain ⟨x, t, e⟩ := q3 f z
    rw [e]
    exact PySem.W.Looks.now
  · rw [show (Value.type "int" != Value.type "tuple") = true by decide +kernel]
    exact hsq
end
section
variable {X : Cx}
/-- k says what stands at each item -/
def rSortedN (K : PySem.W.Frag) : List V → Hp → VK → Prop := fun vs Hh Qq => ∃ (a : Addr) (vxs : List V) (k : V → Int × List Int), vs = [V.ref a] ∧ SqL K Hh a vxs ∧ (∀ x ∈ vxs, ∃ t b, x = V.ref t ∧ Hh t = some (.tup [.int (k x).1, .ref b]) ∧ Hh b = some (.tup ((k x).2.map V.int))) ∧
  ∀ yms p, Srtd (fun v u => HT.lexLt ((k v).1 :: (k v).2) ((k u).1 :: (k u).2)) yms → yms.Perm vxs → Hh p = none → Qq (.ref p) (upd Hh p (.lst yms))
theorem cr_sortedN (hu : X.A.units + 64 < cLine) : CallR X (.builtin "sorted") (rSortedN X.K) := by
  intro pns s σs Hh vs uvs Qq Iv r h
  obtain ⟨a, vxs, k, rfl, hs, hx, qq⟩ := h
  obtain ⟨vls, rlv, hlst, hszz⟩ := Iv.list hs
  rw [Vals.ref1 r]
  obtain ⟨e1, ee2⟩ := refs_back rlv fun x m => let ⟨t, _, e, _⟩ := hx x m; ⟨t, e⟩
  have nst : ∀ v ∈ vls, Nest s.heap v (k (backV v)).1 (k (backV v)).2 := fun v hval => by
    obtain ⟨t, rfl⟩ := ee2 v hval
    obtain ⟨t', b, et, hh1, hh2⟩ := hx (V.ref t) (by rw [e1]; exact List.mem_map.mpr ⟨_, hval, rfl⟩)
    cases et
    obtain ⟨_, jts, r2, oj, hob, hc, n, hd⟩ := Iv.hok _ _ hh1
    obtain ⟨u1, u2, rfl, ⟨t1, rfl⟩, r3⟩ := vals2 r2
    obtain rfl : u2 = Value.ref b := r3
    obtain ⟨_, kts, r4, p4⟩ := Iv.hok _ _ hh2
    exact ⟨t, b, oj, t1, n, kts, rfl, hob, hc, hd, p4, r4.ints⟩
  refine sorted_ord (NtL.swo_lexL fun u : Value => (k (backV u)).1 :: (k (backV u)).2) hlst.isList (by rw [← rlv.length]; exact hszz) (fun hh2 h₁ a' ha kk => ?_) fun out hh1 hh2 => ?_
  · refine nest_sortable (s := { s with heap := h₁ }) (k := fun u => k (backV u)) (by omega) (show X.A.units + 1 + 1 + 1 < cLine by omega) (fun v hval => (nst v hval).kept fun b oj e _ => (kk b oj e).2) fun oj e c => ?_
    cases e.symm.trans ha
    exact absurd (Value.type.inj c) (by decide)
  · have h3 : ∀ u ∈ out, ∃ a, u = Value.ref a := fun u hu => ee2 u (hh2.perm.mem_iff.mp hu)
    have hp : (out.map backV).Perm vxs := by rw [e1]; exact hh2.perm.map backV
    obtain ⟨n, hnn⟩ := PyProof.Rows.sortedAll_at s.heap vls out.toArray
    exact ⟨.ref _, upd Hh (s.heap.objs.size + 1) (.lst (out.map backV)), Iv.laid (t' := s.toks) (fun _ _ => PyProof.Rows.sortedAll_old) (Nat.le_succ _) ⟨by rw [hp.length_eq]; exact hszz, out, n, vals_back h3, hnn⟩, rfl,
      qq _ _ (List.pairwise_map.mpr hh1) hp (Iv.hok.fresh (Nat.le_succ _))⟩
end
end Rg
namespace Rg
open PySem PySem.Spec PyProof.Rows L2
/-! tuple(list), whose object is known to have no dict: so that vls methods can be called -/
section
variable {X : Cx}
def rTupF (K : PySem.W.Frag) : List V → Hp → VK → Prop := fun vxs Hh Qq => ∃ p yms, vxs = [V.ref p] ∧ SqL K Hh p yms ∧ ∀ l oj, Hh l = none → oj.dict = none → Qq (.ref l) (upd Hh l (.frz oj (.tup yms)))
theorem cr_tupF : CallR X (.type "tuple") (rTupF X.K) := by
  intro pns s σs Hh vxs uvs Qq Iv r ⟨p, yms, e, hsq, qq⟩
  subst e
  obtain ⟨u, rfl, rlx⟩ := vals1 r
  cases rlx
  obtain ⟨vls, rlv, pl, sz⟩ := Iv.list hsq
  have hnn := rlv.length
  refine call_tuple_list pl.isList (fun hh1 kp => ?_) (by rw [List.size_toArray]; omega)
  have J : Inv X pns σs Hh { s with heap := hh1 } := Iv.kept (t' := s.toks) kp
  have J2 : Inv X pns σs (upd Hh hh1.objs.size (.frz { cls := .type "tuple", data := .seq vls.toArray } (.tup yms))) { s with heap := hh1.push { cls := .type "tuple", data := .seq vls.toArray } } :=
    J.laid (t' := s.toks) (fun b oj e => Heap.get?_push_of_some _ e) (Nat.le_refl _)
      (show ObjOk X.prog X.w _ _ _ (.frz _ (.tup yms)) from ⟨Heap.get?_push_size _ rfl, sz, vls, rlv, IsTup.new _ _⟩)
  exact ⟨.ref hh1.objs.size, _, J2, rfl, qq _ _ (J.hok.fresh (Nat.le_refl _)) rfl⟩
def tyTF (x : V) (Hh : Hp) : Prop := ∃ a oj yms, x = .ref a ∧ Hh a = some (.frz oj (.tup yms)) ∧ oj.dict = none
theorem ty_tf : TyOk X "tuple" tyTF := by
  intro pns σs Hh s x v Iv r ⟨a, oj, yms, e, h, hd⟩
  subst e
  cases r
  obtain ⟨e, _, vls, _, o2, ee2, hc, _⟩ := (show ObjOk X.prog X.w Hh s.heap a (.frz oj (.tup yms)) from Iv.hok a _ h)
  refine ⟨⟨_, ee2, hc⟩, fun b qq => ?_⟩
  cases qq
  exact ⟨oj, e, hd⟩
end
end Rg
namespace Rg
open PySem PySem.Spec PyProof.Rows L2
/-! ### x != y, x == y of instances whose class has an own == and no own != -/
section
variable {prog : Program} {w : World} {A : Around} {E : Value → Shared → Prop} {s : Shared} {K : PySem.W.Frag} {x C L f : Addr} {h₀ : Heap} {m : Str → Option Value} {ox : Obj} {od : Option Obj} {b tb : Value}
theorem boundNe {M : Model} {args : List Value} {Q : Option Value → Shared → Prop} (Xk : K.In s.heap) (Ia : PySem.W.InstAt s.heap x ox C od) (hs : PySem.W.findIn K (.ref C) "__ne__" = some (some (.builtin "object.__ne__")))
    (h : wpAny M A (call (.builtin "object.__ne__") (.ref x :: args)) (fun v => Q (some v)) E s) : wpAny M A (callSpecialIfBound? (.ref x) "__ne__" args) Q E s := by
  simp only [callSpecialIfBound?, bindSpecialIfBound?]
  refine wpAny_holding (wpAny_bind (wpAny_bind (wpAny_bind (Ia.type.here ((PySem.W.looks_findIn Xk hs).here ?_)))))
  dsimp only
  simp only [F.cmp_object.ne.bind]
  refine wpAny_bind (wpAny_askSetting (wpAny_ite ?_))
  have fin : wpAny M A (call (.builtin "object.__ne__") ([.ref x] ++ args) >>= fun v => pure (some v)) Q E s := wpAny_bind (wpAny_mono h (fun v s' h' => wpAny_pure h') fun _ _ h' => h')
  split
  · exact wpAny_bind (wpAny_pure (wpAny_pure fin))
  · exact wpAny_tryCatch (wpAny_bind (wpAny_pure (wpAny_pure fin)))
theorem checkNe {M : Model} {Q : Unit → Shared → Prop} (Xk : K.In s.heap) (Ia : PySem.W.InstAt s.heap x ox C od) (ho : PySem.W.subIn K (.ref C) (.type "object") = some true) (hq : Q () s) : wpAny M A (checkBuiltinCall "object.__ne__" ⟨[.ref x, b], []⟩) Q E s := by
  simp only [checkBuiltinCall, F.cmpKind_ne, F.cmpSplit_ne]
  refine wpAny_bind ?_
  unfold isInstance
  refine wpAny_bind (Ia.type.here ((PySem.W.looks_subIn Xk ho).here ?_))
  simp only [Bool.not_true, Bool.false_eq_true, if_false]
  have ha := F.cmpArgs_ne (.ref x) b
  cases hsig : Manifest.signature? "object.__ne__" with
  | none => exact wpAny_pure hq
  | some sig =>
    simp only [argsOk, hsig] at ha
    have h2 : Bind.checkArgs "object.__ne__" sig ⟨[.ref x, b], []⟩ = pure () := ha
    show wpAny M A (Bind.checkArgs "object.__ne__" sig ⟨[.ref x, b], []⟩) Q E _
    rw [h2]; exact wpAny_pure hq
theorem objNeK {Q : Fin → Shared → Prop} (Xk : K.In s.heap) (Ia : PySem.W.InstAt s.heap x ox C od) (hs : PySem.W.findIn K (.ref C) "__eq__" = some (some (.ref f))) (hf : PySem.W.isFn K (.ref f) = true) (hu : A.units < cLine)
    (h : wpAny (model prog w) A (call (.ref f) [.ref x, b]) (fun v s' => ∃ r, v = .bool r ∧ Q (.done (.ret (.bool (!r)))) s') E s) :
    wpAny (model prog w) A (Builtin.«object.__ne__» ⟨[.ref x, b], []⟩) Q E s := by
  unfold Builtin.«object.__ne__»
  repeat (first
    | with_reducible refine wpAny_cRoomFor hu ?_
    | (refine wpAny_bind (m := callSpecialIfBound? (.ref x) (Str.ofString "__eq__") [b])
        (PySem.W.ifBound_K Xk Ia hs hf (wpAny_mono h (fun r s' hr => by
          obtain ⟨b, rfl, hq⟩ := hr
          repeat (first | exact hq | exact wpAny_pure hq | exact wpAny_truthy_bool hq | (refine wpAny_bind (m := truthy (.bool _)) (wpAny_truthy_bool ?_)) | wp_step)) fun _ _ e => e)))
    | wp_step)
theorem neK {Q : Value → Shared → Prop} (hu : A.units + 1 < cLine) (Fr0 : Fr h₀ L s.heap m) (X₀ : K.In h₀) (Ia : PySem.W.InstAt s.heap x ox C od) (hb : PySem.W.Looks (model prog w) s.heap (typeOf b) tb) (hn : PySem.W.notFirst K C tb = true)
    (hne : PySem.W.findIn K (.ref C) "__ne__" = some (some (.builtin "object.__ne__"))) (ho : PySem.W.subIn K (.ref C) (.type "object") = some true) (hs : PySem.W.findIn K (.ref C) "__eq__" = some (some (.ref f))) (hf : PySem.W.isFn K (.ref f) = true)
    (h : wpAny (model prog w) A.in1 (call (.ref f) [.ref x, b]) (fun v s' => ∃ r, v = .bool r ∧ Q (.bool (!r)) s') E s) : wpAny (model prog w) A (richCompare .NotEq (.ref x) b) Q E s := by
  have Xk := X₀.keeps Fr0.keep
  have one : wpAny (model prog w) A (tryCompare (.ref x) "__ne__" b) (fun r s' => ∃ v, r = some v ∧ Q v s') E s := by
    unfold tryCompare
    refine wpAny_bind (boundNe Xk Ia hne (wpAny_call (codeAny_call_builtin F.cmp_object.ne.plain F.cmpEntry_ne (checkNe Xk Ia ho (objNeK (A := A.in1) Xk Ia hs hf hu (wpAny_mono h (fun v s' hv => ?_) fun _ _ e => e))))))
    obtain ⟨r, rfl, hq⟩ := hv
    exact ⟨r, rfl, wpAny_pure ⟨_, rfl, hq⟩⟩
  unfold richCompare
  simp only [oneThing_ref]
  refine wpAny_holding (wpAny_bind (wpAny_cRoomFor (Nat.lt_of_succ_lt hu) ?_))
  refine wpAny_bind (Ia.type.here (wpAny_bind (hb.here ?_)))
  split
  · rename_i q
    have e : PySem.W.subIn K tb (.ref C) = some false := by
      rcases Bool.or_eq_true_iff.mp hn with e | e
      · rw [beq_iff_eq.mp e] at q; simp at q
      · exact beq_iff_eq.mp e
    refine wpAny_bind ((PySem.W.looks_subIn Xk e).here ?_)
    simp only [Bool.false_eq_true, if_false]
    refine wpAny_bind (wpAny_mono one (fun r s' z => ?_) fun _ _ e => e)
    obtain ⟨v, rfl, hq⟩ := z
    exact wpAny_pure hq
  · refine wpAny_bind (wpAny_pure ?_)
    simp only [Bool.false_eq_true, if_false]
    refine wpAny_bind (wpAny_mono one (fun r s' z => ?_) fun _ _ e => e)
    obtain ⟨v, rfl, hq⟩ := z
    exact wpAny_pure hq
end
section
variable {X : Cx} {n : Nat} {C f : Addr} {fd : FuncData} {ps : List Str} {sp : Sp}
/-- both are instances of C; what the own == says of them, as a bool -/
def rInsEq (C : Addr) (sp : Sp) : R2 := fun x y H Q => ∃ a b dx dy fs gs, x = .ref a ∧ y = .ref b ∧ H a = some (.ins C dx fs) ∧ H b = some (.ins C dy gs) ∧ sp [.ref a, .ref b] H (fun v H' => ∃ r, v = .bl r ∧ Q (.bl r) H') E0
def rInsNe (C : Addr) (sp : Sp) : R2 := fun x y H Q => ∃ a b dx dy fs gs, x = .ref a ∧ y = .ref b ∧ H a = some (.ins C dx fs) ∧ H b = some (.ins C dy gs) ∧ sp [.ref a, .ref b] H (fun v H' => ∃ r, v = .bl r ∧ Q (.bl (!r)) H') E0
theorem op_insNe (F : FnOk X.prog X.w X.K X.mg X.base CX0 n f fd ps sp) (hne : PySem.W.findIn X.K (.ref C) "__ne__" = some (some (.builtin "object.__ne__"))) (ho : PySem.W.subIn X.K (.ref C) (.type "object") = some true)
    (hs : PySem.W.findIn X.K (.ref C) "__eq__" = some (some (.ref f))) (hf : PySem.W.isFn X.K (.ref f) = true) (hb : Binds X.K fd ps []) (hr : Room (n + 1) X.A) : OpR X (compareOp .NotEq) (rInsNe C sp) := by
  intro pins s σ H x y u v Q I rx ry ⟨a, b, dx, dy, fs, gs, ex, ey, ha, hb', hsp⟩
  subst ex ey
  cases rx
  cases ry
  obtain ⟨mA, J, _⟩ := ins_get I.hok ha
  obtain ⟨mB, J', _⟩ := ins_get I.hok hb'
  obtain ⟨od, J, _⟩ := J.look
  obtain ⟨od', J', _⟩ := J'.look
  obtain ⟨m, hF⟩ := I.fr
  show wpAny (model X.prog X.w) X.A (richCompare .NotEq (.ref a) (.ref b)) (EP X pins σ Q) X.xe s
  refine neK (tb := .ref C) (by have := hr.un; omega) hF I.ok.mod.kin J J'.type (by simp [PySem.W.notFirst]) hne ho hs hf ?_
  have hl := F.len _ _ _ _ hsp
  have r2 : Vals [V.ref a, V.ref b] [Value.ref a, Value.ref b] := .cons rfl (.cons rfl .nil)
  refine wpAny_call (codeAny_mono (F.run X.A.in1 X.stack s H ⟨[.ref a, .ref b], []⟩ [.ref a, .ref b] [.ref a, .ref b] _ E0 hr.in1 I.env0.in1 (by
    have := hb s [.ref a, .ref b] I.kIn (by simpa using hl)
    simpa using this) r2 hsp) fun r s' hq => ?_)
  cases r with
  | error e => exact hq.elim
  | ok fl =>
    cases fl with
    | ret w =>
      obtain ⟨z, H', I', rz, r0, ez, q⟩ := I.after hq
      subst ez
      cases rz
      exact ⟨r0, rfl, .bl (!r0), H', I', rfl, q⟩
    | next => exact False.elim hq
    | brk => exact False.elim hq
    | cont => exact False.elim hq
theorem op_insEq (F : FnOk X.prog X.w X.K X.mg X.base CX0 n f fd ps sp)
    (hs : PySem.W.findIn X.K (.ref C) "__eq__" = some (some (.ref f))) (hf : PySem.W.isFn X.K (.ref f) = true) (hb : Binds X.K fd ps []) (hr : Room n X.A) : OpR X (compareOp .Eq) (rInsEq C sp) := by
  intro pins s σ H x y u v Q I rx ry ⟨a, b, dx, dy, fs, gs, ex, ey, ha, hb', hsp⟩
  subst ex ey
  cases rx
  cases ry
  obtain ⟨mA, J, _⟩ := ins_get I.hok ha
  obtain ⟨mB, J', _⟩ := ins_get I.hok hb'
  obtain ⟨od, J, _⟩ := J.look
  obtain ⟨od', J', _⟩ := J'.look
  obtain ⟨m, hF⟩ := I.fr
  show wpAny (model X.prog X.w) X.A (richCompare .Eq (.ref a) (.ref b)) (EP X pins σ Q) X.xe s
  refine PySem.W.cmp_K (op := .Eq) (tb := .ref C) hr.units0 hF I.ok.mod.kin J J'.type (by simp [PySem.W.notFirst]) hs hf ?_
  have hl := F.len _ _ _ _ hsp
  have r2 : Vals [V.ref a, V.ref b] [Value.ref a, Value.ref b] := .cons rfl (.cons rfl .nil)
  refine wpAny_call (codeAny_mono (F.run X.A X.stack s H ⟨[.ref a, .ref b], []⟩ [.ref a, .ref b] [.ref a, .ref b] _ E0 hr I.env0 (by
    have := hb s [.ref a, .ref b] I.kIn (by simpa using hl)
    simpa using this) r2 hsp) fun r s' hq => ?_)
  cases r with
  | error e => exact hq.elim
  | ok fl =>
    cases fl with
    | ret w =>
      obtain ⟨z, H', I', rz, r0, ez, q⟩ := I.after hq
      subst ez
      cases rz
      exact ⟨.bl r0, H', I', rfl, q⟩
    | next => exact False.elim hq
    | brk => exact False.elim hq
    | cont => exact False.elim hq
end
end Rg
namespace Rg
open PySem PySem.Spec PyProof.Rows L2 HT
/-! ### t[:0:-1] of a tuple -/
theorem adjust_back {n : Nat} (hn : 1 ≤ n) : Builtin.Slice.sliceAdjust none (some 0) (-1) (n : Int) = (((n - 1 : Nat) : Int), 0) := by
  unfold Builtin.Slice.sliceAdjust
  have h1 : ((-1 : Int) < 0) := by omega
  have h2 : ¬ ((0 : Int) < 0) := by omega
  simp only [h1, h2, if_true, if_false]
  refine Prod.ext ?_ ?_
  · show (n : Int) - 1 = _
    omega
  · show min (0 : Int) ((n : Int) - 1) = 0
    omega
theorem places_back (n : Nat) : Builtin.Slice.slicePlaces (n : Int) 0 (-1) = n := by
  unfold Builtin.Slice.slicePlaces
  have h1 : ¬ ((-1 : Int) > 0) := by omega
  simp only [h1, if_false, Int.neg_neg, Int.ediv_one]
  split <;> omega
theorem pick_back0 {α : Type} (l : List α) (h : 1 ≤ l.length) : (List.range (l.length - 1)).filterMap (fun m => l[l.length - 1 - m]?) = (l.drop 1).reverse := by
  have e : ∀ k, k ≤ l.length - 1 → (List.range k).filterMap (fun m => l[l.length - 1 - m]?) = (l.drop (l.length - k)).reverse := by
    intro k
    induction k with
    | zero => intro _; simp
    | succ k ih =>
      intro hk
      rw [List.range_succ, List.filterMap_append, ih (by omega)]
      have hlt : l.length - (k + 1) < l.length := by omega
      rw [List.drop_eq_getElem_cons hlt, List.reverse_cons, show l.length - (k + 1) + 1 = l.length - k by omega]
      congr 1
      have e2 : l[l.length - 1 - k]? = some l[l.length - (k + 1)] := by
        rw [show l.length - 1 - k = l.length - (k + 1) by omega]
        exact List.getElem?_eq_getElem hlt
      simp [e2]
  have := e (l.length - 1) (Nat.le_refl _)
  rw [show l.length - (l.length - 1) = 1 by omega] at this
  exact this
theorem fmap_congr {α β : Type} {f g : α → Option β} : ∀ {l : List α}, (∀ x ∈ l, f x = g x) → l.filterMap f = l.filterMap g
  | [], _ => rfl
  | x :: l, h => by
    rw [List.filterMap_cons, List.filterMap_cons, h x (List.mem_cons_self ..), fmap_congr fun y hy => h y (List.mem_cons_of_mem _ hy)]
theorem pick_back (xs : Array Value) (h : 1 ≤ xs.size) : ((List.range (xs.size - 1)).filterMap fun (m : Nat) => xs[((((xs.size - 1 : Nat) : Int)) + (m : Int) * (-1)).toNat]?).toArray = (xs.toList.drop 1).reverse.toArray := by
  have h2 := pick_back0 xs.toList (by simpa using h)
  rw [Array.length_toList] at h2
  rw [← h2]
  congr 1
  refine fmap_congr fun m hm => ?_
  have hm' := List.mem_range.mp hm
  rw [show ((((xs.size - 1 : Nat) : Int)) + (m : Int) * (-1)).toNat = xs.size - 1 - m by omega]
  simp
section
variable {prog : Program} {w : World} {A : Around} {E : Value → Shared → Prop} {s : Shared}
theorem applied_back {sl : Addr} {vu vs : Value} {n : Nat} {Q : Int × Int × Nat → Shared → Prop} (hs : s.heap.IsSliceOf sl .none vu vs) (pu : IsPart vu (some 0)) (ps : IsPart vs (some (-1))) (hn : 1 ≤ n)
    (h : Q (((n - 1 : Nat) : Int), -1, n - 1) s) : wpAny (model prog w) A (Builtin.Slice.sliceApplied (.ref sl) (pure (n : Int))) Q E s := by
  obtain ⟨os, hos, hcs, hds⟩ := id hs
  unfold Builtin.Slice.sliceApplied Builtin.Slice.sliceFields
  refine wpAny_bind (wpAny_bind (wpAny_field hos hds (x := .none) rfl (wpAny_bind (wpAny_field hos hds (x := vu) rfl (wpAny_bind (wpAny_field hos hds (x := vs) rfl (wpAny_pure ?_)))))))
  refine wpAny_bind (slicePart_ ps ?_)
  show wpAny _ _ (if ((-1 : Int) == 0) = true then _ else _) _ _ s
  rw [if_neg (by decide)]
  refine wpAny_bind (slicePart_none (wpAny_bind (slicePart_ pu (wpAny_bind (wpAny_pure ?_)))))
  show wpAny _ _ (match Builtin.Slice.sliceAdjust none (some 0) (-1) (n : Int) with | (lo, hi) => pure (lo, (-1 : Int), Builtin.Slice.slicePlaces lo hi (-1))) _ _ s
  rw [adjust_back hn]
  show wpAny _ _ (pure (((n - 1 : Nat) : Int), (-1 : Int), Builtin.Slice.slicePlaces ((n - 1 : Nat) : Int) 0 (-1))) _ _ s
  rw [places_back]
  exact wpAny_pure h
theorem getItem_back {t sl : Addr} {items : Array Value} {vu vs : Value} {Q : Value → Shared → Prop} (ht : IsTup s.heap t items) (hs : s.heap.IsSliceOf sl .none vu vs) (pu : IsPart vu (some 0)) (ps : IsPart vs (some (-1))) (hn : 1 ≤ items.size)
    (h : Q (.ref s.heap.objs.size) { s with heap := s.heap.push { cls := .type "tuple", data := .seq (items.toList.drop 1).reverse.toArray } })
    (hsz : items.size ≤ sizeLine) : wpAny (model prog w) A (getItem (.ref t) (.ref sl)) Q E s := by
  have htake : sizeOk (.seq (items.toList.drop 1).reverse.toArray) := by
    show (items.toList.drop 1).reverse.toArray.size ≤ sizeLine
    rw [List.size_toArray, List.length_reverse, List.length_drop, Array.length_toList]
    omega
  obtain ⟨os, hos, hcs, hds⟩ := id hs
  have hTs : s.TypeIs (.ref sl) "slice" := ⟨os, hos, hcs⟩
  unfold getItem
  try with_reducible refine wpAny_holding ?_
  first | refine wpAny_bind (wpAny_pure ?_) | skip
  refine wpAny_bind (wpAny_sequenceKey ht.typeIs (by decide) ?_)
  refine wpAny_bind (wpAny_callSpecial?_slot (name := Str.ofString "__getitem__") ht.typeIs PyProof.Rows.slot_tuple_getitem
    (wpAny_call_entry PyProof.Rows.slot_tuple_getitem ht.typeIs entry_tuple_getitem ?_ (args_tuple_getitem _ _)))
  show wpAny _ _ (Builtin.Tuple.tupleItemsOf (.ref t) >>= _) _ _ s
  refine wpAny_bind (tupleItemsOf_ ht ?_)
  refine wpAny_bind (wpAny_typeOf hTs ?_)
  rw [if_pos (by decide)]
  refine wpAny_bind (applied_back hs pu ps hn ?_)
  have hno : ¬ ((((items.size - 1 : Nat) : Int) == 0 && (-1 : Int) == 1 && (items.size - 1) == items.size) = true) := by
    intro q
    rw [Bool.and_eq_true, Bool.and_eq_true] at q
    exact absurd q.1.2 (by decide)
  show wpAny _ _ (if (((items.size - 1 : Nat) : Int) == 0 && (-1 : Int) == 1 && (items.size - 1) == items.size) = true then _ else _) _ _ s
  rw [if_neg hno, pick_back items hn]
  first
    | exact wpAny_bind (m := Builtin.Tuple.tupleExact _) (wpAny_newObj_type (wpAny_pure ⟨_, rfl, wpAny_pure h⟩) htake)
    | exact wpAny_bind (m := Builtin.Tuple.tupleExact _) (wpAny_newObj_type (wpAny_bind (wpAny_pure (wpAny_pure ⟨_, rfl, wpAny_pure h⟩))) htake)
    | exact wpAny_bind (wpAny_bind (m := Builtin.Tuple.tupleExact _) (wpAny_newObj_type (wpAny_pure (wpAny_pure ⟨_, rfl, wpAny_pure h⟩)) htake))
    | exact wpAny_bind (wpAny_bind (m := Builtin.Tuple.tupleExact _) (wpAny_newObj_type (wpAny_pure ⟨_, rfl, wpAny_pure h⟩) htake))
end
section
variable {X : Cx}
def tBackT (K : PySem.W.Frag) (te : TE) : TE := fun σ H Q => te σ H fun x H1 => ∃ a xs, x = .ref a ∧ SqT K H1 a xs ∧ 1 ≤ xs.length ∧ ∀ p, H1 p = none → Q (.ref p) (upd H1 p (.tup (xs.drop 1).reverse))
theorem pe_backT {e : Expr} {te : TE} {k k0 : Nat} {p0 p1 p2 p3 pos : Pos} (he : PE X e te) : PE X (.Subscript e (.Slice none (some (.Constant (.int 0) k0 p0)) (some (.UnaryOp .USub (.Constant (.int 1) k p1) p2)) p3) pos) (tBackT X.K te) := by
  refine ⟨fun pins s σ H Q I h => ?_⟩
  refine Subscript_ (thn (he.run pins s σ H _ I h) fun v s1 ⟨x, H1, I1, r1, q1⟩ => ?_)
  obtain ⟨a, xs, ex, hx, hn, q⟩ := q1
  subst ex
  cases r1
  have hst : PO X (some (.UnaryOp .USub (.Constant (.int 1) k p1) p2)) (tPart (tUn (rU fun i => .int (-i)) (tC (.int 1)))) := po_some (pe_un un_neg pe_int)
  have hz0 : PO X (some (.Constant (.int 0) k0 p0)) (tPart (tC (.int 0))) := po_some pe_int
  refine wpAny_Slice (thn (po_none.run pins s1 σ H1 (fun o H2 => o = none ∧ H2 = H1) I1 ⟨rfl, rfl⟩) fun vl s2 ⟨l, H2, I2, pl, el, e2⟩ => ?_)
  subst el e2
  refine thn (hz0.run pins s2 σ H2 (fun o H3 => o = some 0 ∧ H3 = H2) I2 ⟨0, rfl, rfl, rfl⟩) fun vu s3 ⟨u, H3, I3, pu, eu, e3⟩ => ?_
  subst eu e3
  refine thn (hst.run pins s3 σ H3 (fun o H4 => o = some (-1) ∧ H4 = H3) I3 ⟨1, rfl, -1, rfl, rfl, rfl⟩) fun vs s4 ⟨o, H4, I4, ps, eo, e4⟩ => ?_
  subst eo e4
  cases pl
  have I5 : Inv X pins σ H4 { s4 with heap := s4.heap.push { cls := .type "slice", data := .fields #[.none, vu, vs] } } := I4.kept (t' := s4.toks) fun b ob q => Heap.get?_push_of_some _ q
  obtain ⟨its, r, ht, hz⟩ := I5.tuple hx
  have hlen := r.length
  show wpAny (model X.prog X.w) X.A (subscriptTail e (.Slice none (some (.Constant (.int 0) k0 p0)) (some (.UnaryOp .USub (.Constant (.int 1) k p1) p2)) p3) (.ref a) (.ref s4.heap.objs.size)) (EP X pins σ Q) X.xe { s4 with heap := s4.heap.push { cls := .type "slice", data := .fields #[.none, vu, vs] } }
  refine tail_any (T := "tuple") (ops := [.ref a, .ref s4.heap.objs.size]) ht.typeIs (PyProof.Rows.slot_tuple_getitem.lookup) ?_ (by with_unfolding_all rfl)
  refine getItem_back ht (Heap.IsSliceOf.new _ .none vu vs) pu ps (by rw [List.size_toArray]; omega) ?_ (by rw [List.size_toArray]; omega)
  refine ⟨.ref _, _, I5.laid (t' := s4.toks) (o := .tup (xs.drop 1).reverse) (fun b ob q => Heap.get?_push_of_some _ q) (Nat.le_refl _) ?_, rfl, q _ (I5.hok.fresh (Nat.le_refl _))⟩
  exact ⟨by rw [List.length_reverse, List.length_drop]; omega, _, (r.drop 1).reverse, IsTup.new _ _⟩
end
end Rg
namespace K
open PySem L2 Rg
open Evl (pss_cut)
def top (i : Nat) : Stmt := PySem.Challenge.pw_ringbars_k04_rings_made_read_refused.main.body.getD i (.Pass ⟨0, 0, 0, 0⟩)
abbrev sWall : Stmt := top 0
abbrev sIsInteger : Stmt := top 2
abbrev sIsWithin : Stmt := top 3
abbrev sIsList : Stmt := top 4
abbrev sBadRingInit : Stmt := inClass (top 7) 0
abbrev sTooManyInit : Stmt := inClass (top 8) 0
abbrev sBadTextInit : Stmt := inClass (top 9) 0
abbrev sItemsOf : Stmt := top 12
abbrev sIntegerOf : Stmt := top 13
abbrev sItemAt : Stmt := top 14
abbrev sNumberAt : Stmt := top 15
abbrev sRingInit : Stmt := inClass (top 20) 0
abbrev sRingLen : Stmt := inClass (top 20) 1
abbrev sRingEq : Stmt := inClass (top 20) 2
abbrev sRingStr : Stmt := inClass (top 20) 3
abbrev sRingLengthOf : Stmt := inClass (top 20) 4
abbrev sRingSortOf : Stmt := inClass (top 20) 5
abbrev sRingWithLength : Stmt := inClass (top 20) 6
abbrev sRingBegunAt : Stmt := inClass (top 20) 7
abbrev sRingBackwards : Stmt := inClass (top 20) 8
abbrev sRingInOrder : Stmt := inClass (top 20) 9
abbrev sRingAsOne : Stmt := inClass (top 20) 10
abbrev sRingInTwo : Stmt := inClass (top 20) 11
abbrev sRingRead : Stmt := inClass (top 20) 12
abbrev sAreLengths : Stmt := top 21
abbrev sHasLevel : Stmt := top 22
abbrev sReadRing : Stmt := top 23
abbrev sLwPen : Stmt := top 25
abbrev sLwDraw : Stmt := top 26
abbrev sLwPick : Stmt := top 27
abbrev sLwLengths : Stmt := top 28
abbrev sLwLots : Stmt := top 29
abbrev sLwSort : Stmt := top 30
abbrev sLwHeard : Stmt := top 31
abbrev sLwMadeRight : Stmt := top 32
abbrev sLwStop : Stmt := top 33
abbrev sLwTextRight : Stmt := top 34
abbrev sLwRefusedRight : Stmt := top 35
abbrev sLaw : Stmt := top 36

/-- all but what stands at p is as it was -/
def But (p : Addr) (H H' : Hp) : Prop := ∀ b o, b ≠ p → H b = some o → H' b = some o
theorem But.refl (p : Addr) (H : Hp) : But p H H := fun _ _ _ h => h
theorem But.trans {p : Addr} {H H1 H2 : Hp} (a : But p H H1) (b : But p H1 H2) : But p H H2 := fun c o n h => b c o n (a c o n h)
theorem But.new {p q : Addr} {H H' : Hp} {o : HO} (a : But p H H') (n : H' q = none) : But p H (upd H' q o) := fun c u hc h => by
  have e := a c u hc h
  rw [upd_ne (ne_of_none e n)]
  exact e
theorem But.at {p : Addr} {H H' : Hp} {o : HO} (a : But p H H') : But p H (upd H' p o) := fun c u hc h => by
  rw [upd_ne hc]
  exact a c u hc h
theorem But.seq {K : PySem.W.Frag} {p a : Addr} {H H' : Hp} {xs : List V} (e : But p H H') (n : a ≠ p) (h : SqL K H a xs) : SqL K H' a xs := by
  rcases h with (h | ⟨o, h⟩) | h
  · exact .inl (.inl (e _ _ n h))
  · exact .inl (.inr ⟨o, e _ _ n h⟩)
  · exact .inr h
/-- the pen: its cells, how many were begun (at most n), what a great one has left -/
structure PenAt (K : PySem.W.Frag) (H : Hp) (p : Addr) (e : Addr × List Int) (n : Nat) : Prop where
  ex : ∃ (at' rest : Int), H p = some (.lst [.ref e.1, .int at', .int rest]) ∧ 0 ≤ at' ∧ at' ≤ n ∧ 0 ≤ rest
  sq : SqL K H e.1 (e.2.map V.int)
  np : e.1 ≠ p
  ln : e.2.length ≤ 62
theorem But.of {p : Addr} {H H' : Hp} (e : Same H H') : But p H H' := fun b o _ h => e b o h
theorem But.mut {p q : Addr} {H H' : Hp} {o : HO} (a : But p H H') (n : H q = none) : But p H (upd H' q o) := fun c u hc h => by
  have e := a c u hc h
  rw [upd_ne (ne_of_none h n)]
  exact e
theorem But.free {p q : Addr} {H H' : Hp} (a : But p H H') (hq : q ≠ p) (n : H' q = none) : H q = none := by
  cases e : H q with
  | none => rfl
  | some o =>
    rw [a q o hq e] at n
    cases n
theorem But.tup {K : PySem.W.Frag} {p a : Addr} {H H' : Hp} {xs : List V} (e : But p H H') (n : a ≠ p) (h : SqT K H a xs) : SqT K H' a xs := by
  rcases h with (h | ⟨o, h⟩) | h
  · exact .inl (.inl (e _ _ n h))
  · exact .inl (.inr ⟨o, e _ _ n h⟩)
  · exact .inr h
theorem _root_.L2.Same.new {q : Addr} {H H' : Hp} {o : HO} (a : Same H H') (n : H' q = none) : Same H (upd H' q o) := fun c u h => by
  have e := a c u h
  rw [upd_ne (ne_of_none e n)]
  exact e
theorem _root_.L2.Same.mut {q : Addr} {H H' : Hp} {o : HO} (a : Same H H') (n : H q = none) : Same H (upd H' q o) := fun c u h => by
  have e := a c u h
  rw [upd_ne (ne_of_none h n)]
  exact e
theorem _root_.L2.Same.tup {K : PySem.W.Frag} {a : Addr} {H H' : Hp} {xs : List V} (e : Same H H') (h : SqT K H a xs) : SqT K H' a xs := by
  rcases h with (h | ⟨o, h⟩) | h
  · exact .inl (.inl (e _ _ h))
  · exact .inl (.inr ⟨o, e _ _ h⟩)
  · exact .inr h
section
variable {K : PySem.W.Frag} {H H' : Hp} {p q : Addr} {e : Addr × List Int} {n m : Nat} {o : HO}
theorem PenAt.mono (h : PenAt K H p e n) (le : n ≤ m) : PenAt K H p e m := by
  obtain ⟨a, r, h1, h5, h6, h7⟩ := h.ex
  exact ⟨⟨a, r, h1, h5, by omega, h7⟩, h.sq, h.np, h.ln⟩
/-- the pen stands while all that is tracked stands -/
theorem PenAt.same (h : PenAt K H p e n) (s : Same H H') : PenAt K H' p e n := by
  obtain ⟨a, r, h1, h5, h6, h7⟩ := h.ex
  exact ⟨⟨a, r, s _ _ h1, h5, h6, h7⟩, s.seq h.sq, h.np, h.ln⟩
theorem PenAt.some (h : PenAt K H p e n) : ∃ xs, H p = some (.lst xs) := by
  obtain ⟨a, r, h1, _⟩ := h.ex
  exact ⟨_, h1⟩
theorem PenAt.ne (h : PenAt K H p e n) (z : H q = none) : q ≠ p := by
  obtain ⟨xs, h1⟩ := h.some
  exact (ne_of_none h1 z).symm
/-- the pen stands while a new thing is laid -/
theorem PenAt.put (h : PenAt K H p e n) (z : H q = none) : PenAt K (upd H q o) p e n := h.same (Same.new (Same.refl H) z)
/-- .. while a thing is written that was not there ahead -/
theorem PenAt.mut (h : PenAt K H p e m) (h2 : PenAt K H' p e n) (b : But p H H') (z : H q = none) : PenAt K (upd H' q o) p e n := by
  obtain ⟨a, r, h1, h5, h6, h7⟩ := h2.ex
  exact ⟨⟨a, r, by rw [upd_ne (h.ne z).symm]; exact h1, h5, h6, h7⟩, (b.mut z).seq h.np h.sq, h.np, h.ln⟩
end
/-- the built-ins that the text names -/
structure Bi (mg : Str → Option Value) : Prop where
  int : mg "int" = none
  len : mg "len" = none
  abs : mg "abs" = none
  list : mg "list" = none
  tuple : mg "tuple" = none
  bool : mg "bool" = none
  range : mg "range" = none
  sum : mg "sum" = none
  max : mg "max" = none
  all : mg "all" = none
  any : mg "any" = none
  sorted : mg "sorted" = none
  enumerate : mg "enumerate" = none
  isinstance : mg "isinstance" = none
section
variable {K : PySem.W.Frag}
theorem eqv_nil (l : List Int) : PyData.eqv (.list (l.map PyData.int)) (.list []) = l.isEmpty := by
  cases l <;> simp [PyData.eqv, PyData.eqvAll] <;> rfl
theorem dp_ints {H : Hp} : ∀ l : List Int, DpAll K H (l.map V.int) (l.map PyData.int)
  | [] => .nil
  | i :: l => .cons (.int i) (dp_ints l)
theorem lay_ints : ∀ l : List Int, PyData.canLayAll0 (l.map PyData.int) = true
  | [] => by simp [PyData.canLayAll0]
  | i :: l => by simp [PyData.canLayAll0, PyData.canLay0, lay_ints l]
theorem deep_ints : ∀ l : List Int, PyData.depthAll (l.map PyData.int) = 0
  | [] => by simp [PyData.depthAll]
  | i :: l => by simp [PyData.depthAll, PyData.depth, deep_ints l]
theorem shaped_ints (l : List Int) : SeqAt.shaped (.list (l.map PyData.int)) = true := by
  simp [SeqAt.shaped, PyData.canLay0, PyData.depth, lay_ints l, deep_ints l]
end
end K
namespace K
open PySem L2 Rg
open Evl (pss_cut)
def spDraw (K : PySem.W.Frag) : Sp := fun vs H Q _ => ∃ (p : Addr) (e : Addr × List Int) (many : Int) (n : Nat), vs = [.ref p, .int many] ∧ 1 ≤ many ∧ many ≤ 1000000 ∧ n < 1000000 ∧ PenAt K H p e n ∧
  ∀ (r : Int) (H' : Hp), 0 ≤ r → r < many → But p H H' → PenAt K H' p e (n + 1) → Q (.int r) H'
section
variable {P : Program} {w : World} {K : PySem.W.Frag} {mg : Str → Option Value} {base : Heap}
abbrev nDraw : List Str := ["_law_pen_here", "_law_many", "_law_digit", "_law_at", "_law_cell", "_law_great", "_law_mixed"]
theorem scDraw : FnScope nDraw ["_law_pen_here", "_law_many"] (defScope sLwDraw) := ⟨rfl, rfl, rfl, by decide +kernel, rfl, by decide +kernel, by decide +kernel⟩
theorem ok_draw {f : Addr} {fd : FuncData} (F : Fun K "_law_draw" "_law_draw" sLwDraw f fd) (T : Bi mg) : FnOk P w K mg base CX0 2 f fd ["_law_pen_here", "_law_many"] (spDraw K) := by
  refine F.ok scDraw (fun vs H Q E h => ?_) (fun cdv A outer s H vs Q E hr h => ?_)
  · obtain ⟨p, e, many, n, rfl, _⟩ := h
    rfl
  · have nd := scDraw.nd
    refine ⟨_, pss_cons (ps_if (pt_cmpR op_gt (pe_ix ix_list (pv 0) pe_int (fun _ _ => rfl)) pe_int (nomark _))
        (pss_cons (ps_set (i := 2) nd rfl (Or.inl rfl) (pe_op op_mod (pe_callTy call_int1 (by rfl) T.int (by decide +kernel) (pa_cons (pe_ix ix_list (pv 0) pe_int (fun _ _ => rfl)) pa_nil)) (pv 1)))
        (pss_cons (ps_asg (pe_op op_fdiv (pe_callTy call_int1 (by rfl) T.int (by decide +kernel) (pa_cons (pe_ix ix_list (pv 0) pe_int (fun _ _ => rfl)) pa_nil)) (pv 1)) (pg_sub (pv 0) pe_int set_list))
        (pss_one (ps_ret (pv 2))))) pss_nil)
      (pss_cons (ps_set (i := 3) nd rfl (Or.inl rfl) (pe_ix ix_list (pv 0) pe_int (fun _ _ => rfl)))
      (pss_cons (ps_asg (pe_op op_add (pv 3) pe_int) (pg_sub (pv 0) pe_int set_list))
      (pss_cons (ps_set (i := 4) nd rfl (Or.inl rfl) (pe_op op_add (pe_op op_mul pe_int (pv 3)) pe_int))
      (pss_cut (ps_if (pt_cmpR (op_neD hr.units) (pe_ix ix_list (pv 0) pe_int (fun _ _ => rfl)) (pe_lst pa_nil) (nomark _))
        (pss_one (ps_set (i := 4) nd rfl (Or.inl rfl) (pe_ix ix_list (pe_ix ix_list (pv 0) pe_int (fun _ _ => rfl)) (pe_op op_mod (pe_callTy call_int1 (by rfl) T.int (by decide +kernel) (pa_cons (pv 3) pa_nil)) (pe_callB call_len_seq (by rfl) T.len PySem.boot_len (pa_cons (pe_ix ix_list (pv 0) pe_int (fun _ _ => rfl)) pa_nil))) (fun _ _ => rfl)))) pss_nil)
      (pss_cut (ps_if (PW.pt (pw_and (pt_cmpR op_lt (pv 3) (pe_callB call_len_seq (by rfl) T.len PySem.boot_len (pa_cons (pe_ix ix_list (pv 0) pe_int (fun _ _ => rfl)) pa_nil)) (nomark _))
          (pw_and1 (pt_cmpR op_ge (pe_callB call_abs (by rfl) T.abs (by decide +kernel) (pa_cons (pv 4) pa_nil)) (pe_op op_pow pe_int pe_int) (nomark _)))))
        (pss_cons (ps_set (i := 5) nd rfl (Or.inl rfl) (pe_op op_add (pe_op op_mul pe_int (pe_op op_sub (pe_callB call_abs (by rfl) T.abs (by decide +kernel) (pa_cons (pv 4) pa_nil)) (pe_op op_pow pe_int pe_int))) (pe_callTy call_int1 (by rfl) T.int (by decide +kernel) (pa_cons (pe_cmpR op_lt (pv 4) pe_int (nomark _)) pa_nil))))
        (pss_cons (ps_asg (pe_op op_fdiv (pe_callTy call_int1 (by rfl) T.int (by decide +kernel) (pa_cons (pv 5) pa_nil)) (pv 1)) (pg_sub (pv 0) pe_int set_list))
        (pss_one (ps_ret (pe_op op_mod (pe_callTy call_int1 (by rfl) T.int (by decide +kernel) (pa_cons (pv 5) pa_nil)) (pv 1)))))) pss_nil)
      (pss_cut (ps_set (i := 6) nd rfl (Or.inl rfl) (pe_op op_mod (pe_callTy call_int1 (by rfl) T.int (by decide +kernel) (pa_cons (pe_op op_pow (pe_op op_add (pe_op op_add (pe_op op_mod (pe_callTy call_int1 (by rfl) T.int (by decide +kernel) (pa_cons (pv 4) pa_nil)) pe_int) (pe_op op_mul pe_int (pv 3))) pe_int) pe_int) pa_nil)) pe_int))
      (pss_cons (ps_set (i := 6) nd rfl (Or.inl rfl) (pe_op op_mod (pe_callTy call_int1 (by rfl) T.int (by decide +kernel) (pa_cons (pe_op op_pow (pe_op op_add (pe_op op_add (pe_op op_mul (pv 6) (pe_op op_add (pe_op op_mul pe_int (pv 3)) pe_int)) (pe_op op_mul (pe_op op_mul pe_int (pv 3)) (pv 3))) pe_int) pe_int) pa_nil)) pe_int))
      (pss_one (ps_ret (pe_op op_mod (pe_callTy call_int1 (by rfl) T.int (by decide +kernel) (pa_cons (pe_op op_fdiv (pv 6) pe_int) pa_nil)) (pv 1))))))))))), ?_⟩
    obtain ⟨p, ⟨c, cells⟩, many, n, rfl, m1, m2, hn, ⟨⟨at0, rest, hp, a0, a1, r0⟩, hc, hcp, hcl⟩, k⟩ := h
    dsimp only at hp hc hcp hcl
    have mp : (0 : Int) < many := by omega
    have md : (0 : Int) < many ∧ many < 1073741824 := ⟨mp, by omega⟩
    refine ⟨_, rfl, p, _, _, _, rfl, rfl, SqL.of hp, atI_nat (j := 2) rfl, _, _, rfl, rfl, _, rfl, ?_⟩
    refine ite2 (fun hg => ?_) (fun hg => ?_)
    · have g0 : rest > 0 := of_decide_eq_true hg
      refine ⟨_, rfl, p, _, _, _, rfl, rfl, SqL.of hp, atI_nat (j := 2) rfl, .inl ⟨_, rfl, _, rfl, _, _, rfl, rfl, mp, ?_⟩⟩
      refine ⟨_, rfl, p, _, _, _, rfl, rfl, SqL.of hp, atI_nat (j := 2) rfl, .inl ⟨_, rfl, _, rfl, _, _, rfl, rfl, md, _, rfl, p, _, _, 2, rfl, rfl, hp, rfl, ?_⟩⟩
      refine ⟨_, rfl, ?_⟩
      have b1 : But p H (upd H p (.lst [.ref c, .int at0, .int (rest / many)])) := (But.refl p H).at
      exact k _ _ (Int.emod_nonneg _ (by omega)) (Int.emod_lt_of_pos _ mp) b1 ⟨⟨at0, rest / many, upd_same, a0, by omega, Int.ediv_nonneg r0 (by omega)⟩, b1.seq hcp hc, hcp, hcl⟩
    · refine ⟨_, rfl, p, _, _, _, rfl, rfl, SqL.of hp, atI_nat (j := 1) rfl, ?_⟩
      refine ⟨_, rfl, _, _, rfl, rfl, _, rfl, p, _, _, 1, rfl, rfl, hp, rfl, ?_⟩
      have h1 : upd H p (.lst [.ref c, .int (at0 + 1), .int rest]) p = some (.lst [.ref c, .int (at0 + 1), .int rest]) := upd_same
      have b1 : But p H (upd H p (.lst [.ref c, .int (at0 + 1), .int rest])) := (But.refl p H).at
      refine ⟨_, rfl, _, _, rfl, rfl, .inl ⟨by decide, by decide⟩, _, _, rfl, rfl, ?_⟩
      refine ⟨fun σ' H' => ∃ cell : Int, σ' = [some (.ref p), some (.int many), none, some (.int at0), some (.int cell), none, none] ∧ But p H H' ∧ H' p = some (.lst [.ref c, .int (at0 + 1), .int rest]), ?_, ?_⟩
      · refine ⟨_, rfl, p, _, _, _, rfl, rfl, SqL.of h1, atI_nat (j := 0) rfl, (by decide), fun q hq => ?_⟩
        have hqp : p ≠ q := ne_of_none h1 hq
        have b2 : But p H (upd (upd H p (.lst [.ref c, .int (at0 + 1), .int rest])) q (.lst [])) := b1.new hq
        have h2 : upd (upd H p (.lst [.ref c, .int (at0 + 1), .int rest])) q (.lst []) p = some (.lst [.ref c, .int (at0 + 1), .int rest]) := by rw [upd_ne hqp]; exact h1
        refine ⟨_, _, .lst (b2.seq hcp hc) (dp_ints cells), .lst (SqL.of upd_same) .nil, shaped_ints _, rfl, _, rfl, ?_⟩
        rw [eqv_nil]
        cases e : cells.isEmpty with
        | true =>
          refine iteF ?_
          exact ⟨_, rfl, b2, h2⟩
        | false =>
          have hl : 0 < cells.length := by
            cases cells with
            | nil => cases e
            | cons z zs => simp
          refine iteT ?_
          have hlt : (at0 % (cells.length : Int)).toNat < cells.length := by
            have := Int.emod_lt_of_pos at0 (show (0 : Int) < cells.length by omega)
            have := Int.emod_nonneg at0 (show (cells.length : Int) ≠ 0 by omega)
            omega
          have hix : (cells.map V.int)[(at0 % (cells.length : Int)).toNat]? = some (V.int (cells[(at0 % (cells.length : Int)).toNat])) := by
            rw [List.getElem?_map, List.getElem?_eq_getElem hlt]
            rfl
          refine ⟨_, rfl, p, _, _, _, rfl, rfl, SqL.of h2, atI_nat (j := 0) rfl, _, rfl, .inl ⟨_, rfl, _, rfl, p, _, _, _, rfl, rfl, SqL.of h2, atI_nat (j := 0) rfl, c, _, rfl, .inl (b2.seq hcp hc), ?_⟩⟩
          rw [List.length_map]
          refine ⟨_, _, rfl, rfl, (by omega), c, _, _, _, rfl, rfl, b2.seq hcp hc, at_of (j := (at0 % (cells.length : Int)).toNat) (by
            have := Int.emod_nonneg at0 (show (cells.length : Int) ≠ 0 by omega)
            omega) hix, ?_⟩
          exact ⟨_, rfl, b2, h2⟩
      · rintro σ' H' ⟨cell, rfl, b2, h2⟩
        have pw : CPow 10 18 := ⟨by decide, by decide, by decide⟩
        refine ⟨fun σ' H'' => σ' = [some (.ref p), some (.int many), none, some (.int at0), some (.int cell), none, none] ∧ But p H H'' ∧ H'' p = some (.lst [.ref c, .int (at0 + 1), .int rest]), ?_, ?_⟩
        · refine ⟨_, rfl, _, rfl, p, _, _, _, rfl, rfl, SqL.of h2, atI_nat (j := 0) rfl, c, _, rfl, .inl (b2.seq hcp hc), _, _, rfl, rfl, _, rfl, ?_⟩
          refine ite2 (fun _ => ?_) (fun _ => iteF ?_)
          · refine ⟨_, rfl, _, rfl, _, _, rfl, rfl, pw, _, _, rfl, rfl, _, rfl, ?_⟩
            refine ite2 (fun hge => ?_) (fun _ => ?_)
            · have ge := of_decide_eq_true hge
              have ge2 : (10 : Int) ^ (18 : Int).toNat ≤ if cell < 0 then -cell else cell := ge
              have gr0 : 0 ≤ (2 * ((if cell < 0 then -cell else cell) - (10 : Int) ^ (18 : Int).toNat) + (if decide (cell < 0) = true then 1 else 0) : Int) := by
                split <;> omega
              refine ⟨_, rfl, _, rfl, _, _, rfl, rfl, pw, _, _, rfl, rfl, _, _, rfl, rfl, .inl ⟨by decide, by decide⟩, _, rfl, _, _, rfl, rfl, .inr ⟨_, rfl, _, _, rfl, rfl, ?_⟩⟩
              refine ⟨_, rfl, .inl ⟨_, rfl, _, rfl, _, _, rfl, rfl, md, _, rfl, p, _, _, 2, rfl, rfl, h2, rfl, ?_⟩⟩
              refine ⟨_, rfl, .inl ⟨_, rfl, _, rfl, _, _, rfl, rfl, mp, ?_⟩⟩
              exact k _ _ (Int.emod_nonneg _ (by omega)) (Int.emod_lt_of_pos _ mp) b2.at ⟨⟨at0 + 1, _, upd_same, by omega, by omega, Int.ediv_nonneg gr0 (by omega)⟩, (b2.at).seq hcp hc, hcp, hcl⟩
            · exact ⟨rfl, b2, h2⟩
          · exact ⟨rfl, b2, h2⟩
        · rintro σ'' H'' ⟨rfl, b3, h3⟩
          refine ⟨fun σ' H4 => ∃ x : Int, 0 ≤ x ∧ x < 2147483629 ∧ σ' = [some (.ref p), some (.int many), none, some (.int at0), some (.int cell), none, some (.int x)] ∧ H4 = H'', ?_, ?_⟩
          · have q0 := Int.emod_nonneg cell (show (2147483543 : Int) ≠ 0 by decide)
            have q1 := Int.emod_lt_of_pos cell (show (0 : Int) < 2147483543 by decide)
            have pw5 : CPow (cell % 2147483543 + 52361 * at0 + 1361) 5 := ⟨by decide, by decide, by omega⟩
            refine ⟨_, rfl, .inl ⟨_, rfl, _, _, rfl, rfl, (by show (0 : Int) < 2147483543; decide), _, rfl, _, _, rfl, rfl, .inl ⟨by decide, by decide⟩, _, _, rfl, rfl, _, _, rfl, rfl, _, _, rfl, rfl, pw5, .inl ⟨_, rfl, _, _, rfl, rfl, (by show (0 : Int) < 2147483629; decide), ?_⟩⟩⟩
            exact ⟨_, Int.emod_nonneg _ (by decide), Int.emod_lt_of_pos _ (by decide), rfl, rfl⟩
          · rintro σ' H4 ⟨x, x0, x1, rfl, rfl⟩
            have e1 : x * (2 * at0 + 2137) ≤ 2147483629 * 2002137 := Int.mul_le_mul (by omega) (by omega) (by omega) (by decide)
            have e2 : 0 ≤ x * (2 * at0 + 2137) := Int.mul_nonneg x0 (by omega)
            have e3 : 57037 * at0 * at0 ≤ 57037000000 * 1000000 := Int.mul_le_mul (by omega) (by omega) a0 (by decide)
            have e4 : 0 ≤ 57037 * at0 * at0 := Int.mul_nonneg (by omega) a0
            have pw3 : CPow (x * (2 * at0 + 2137) + 57037 * at0 * at0 + 1361) 3 := ⟨by decide, by decide, by omega⟩
            refine ⟨_, rfl, _, rfl, _, _, rfl, rfl, .inl ⟨by decide, by decide⟩, _, _, rfl, rfl, _, _, rfl, rfl, .inl ⟨by omega, by omega⟩, _, rfl, _, _, rfl, rfl, .inl ⟨by decide, by decide⟩, _, rfl, _, _, rfl, rfl, .inr ⟨by omega, by omega⟩, _, _, rfl, rfl, _, _, rfl, rfl, _, _, rfl, rfl, pw3, .inl ⟨_, rfl, _, _, rfl, rfl, (by show (0 : Int) < 2147483647; decide), ?_⟩⟩
            refine ⟨_, rfl, _, _, rfl, rfl, ⟨by decide, by decide⟩, .inl ⟨_, rfl, _, rfl, _, _, rfl, rfl, mp, ?_⟩⟩
            exact k _ _ (Int.emod_nonneg _ (by omega)) (Int.emod_lt_of_pos _ mp) b3 ⟨⟨at0 + 1, rest, h3, by omega, by omega, r0⟩, b3.seq hcp hc, hcp, hcl⟩
end
end K
namespace K
open PySem L2 Rg
open Evl (pss_cut)
theorem int_at {l : List Int} {i : Nat} {v : V} (h : (l.map V.int)[i]? = some v) : ∃ z, l[i]? = some z ∧ v = .int z := by
  rw [List.getElem?_map] at h
  cases e : l[i]? with
  | none => rw [e] at h; cases h
  | some z => rw [e] at h; exact ⟨z, rfl, (Option.some.inj h).symm⟩
theorem take_snoc {α : Type} {l : List α} {i : Nat} {z : α} (h : l[i]? = some z) : l.take i ++ [z] = l.take (i + 1) := by
  rw [List.take_succ, h]; rfl
theorem sz {n : Nat} (h : n ≤ 100000) : n ≤ sizeLine := Nat.le_trans h (by decide)
theorem szl {n : Nat} (h : n < 100000) : n < sizeLine := Nat.lt_of_lt_of_le h (by decide)
theorem cutV_to (xs : List V) (k : Nat) : cutV xs none (some (k : Int)) = xs.take k := by
  unfold cutV
  rw [HT.sIx_none, HT.sIx_nat, List.drop_zero, Nat.sub_zero]
  rcases Nat.le_total k xs.length with h | h
  · rw [Nat.min_eq_left h]
  · rw [Nat.min_eq_right h, List.take_length, List.take_of_length_le h]
section
variable {P : Program} {w : World} {K : PySem.W.Frag} {mg : Str → Option Value} {base : Heap}
/-! ### the pen -/
def spPen (K : PySem.W.Frag) : Sp := fun vs H Q _ => ∃ (a : Addr) (ns : List Int), vs = [.ref a] ∧ SqL K H a (ns.map V.int) ∧ ns.length ≤ 63 ∧
  ∀ (p : Addr) (e : Addr × List Int) (H' : Hp), Same H H' → H p = none → PenAt K H' p e 0 → Q (.ref p) H'
abbrev nPen : List Str := ["_law_script", "_law_cell"]
theorem scPen : FnScope nPen ["_law_script"] (defScope sLwPen) := ⟨rfl, rfl, rfl, by decide +kernel, rfl, by decide +kernel, by decide +kernel⟩
theorem ok_pen {f : Addr} {fd : FuncData} (F : Fun K "_law_pen" "_law_pen" sLwPen f fd) (T : Bi mg) : FnOk P w K mg base CX0 2 f fd ["_law_script"] (spPen K) := by
  refine F.ok scPen (fun vs H Q E h => ?_) (fun cdv A outer s H vs Q E hr h => ?_)
  · obtain ⟨a, ns, rfl, _⟩ := h
    rfl
  · have nd := scPen.nd
    refine ⟨_, pss_one (ps_ret (pe_lst (pa_cons (pe_lc (own := [("_law_cell", 1)]) (g := gName 1) (tt := tYes) rfl nd (pi_list (pe_slice sl_list (pv 0) po_none (po_some pe_int)))
      (blkOk_by (N := nPen) (sc := defScope sLwPen) (by decide +kernel)) (fun _ _ _ _ _ => pg_name (i := 1) nd rfl (Or.inl rfl)) (fun _ _ _ _ _ => pts_nil)
      (fun _ _ _ _ _ => pe_callTy call_int1 (by rfl) T.int (by decide +kernel) (pa_cons (pv 1) pa_nil))) (pa_cons pe_int (pa_cons pe_int pa_nil))))), ?_⟩
    obtain ⟨a, ns, rfl, hS, hl, k⟩ := h
    refine ⟨_, rfl, _, rfl, a, _, rfl, hS, fun q hq => ?_⟩
    have e0 : cutV (ns.map V.int) none (some 60) = (ns.take 60).map V.int := by
      rw [show (60 : Int) = ((60 : Nat) : Int) from rfl, cutV_to, List.map_take]
    rw [e0]
    refine ⟨q, rfl, ⟨_, SqL.of upd_same⟩, fun D hD => ?_⟩
    have hqD : q ≠ D := ne_of_none upd_same hD
    have sD : Same (upd H q (.lst ((ns.take 60).map V.int))) (upd (upd H q (.lst ((ns.take 60).map V.int))) D (.lst [])) := (Same.refl _).new hD
    refine lc_list (K := K) (a := q) (xs := (ns.take 60).map V.int) (fun i H' => Same (upd H q (.lst ((ns.take 60).map V.int))) H' ∧ H' D = some (.lst (((ns.take 60).take i).map V.int)))
      ⟨sD, upd_same⟩ (fun i H' _ p => p.1.seq (SqL.of upd_same)) ?_ ?_
    · rintro i x H' hi ⟨s1, h1⟩
      obtain ⟨z, hz, rfl⟩ := int_at hi
      refine ⟨rfl, _, rfl, .inl ⟨_, rfl, _, h1, szl (by rw [List.length_map, List.length_take, List.length_take]; omega), s1.mut hD, ?_⟩⟩
      rw [← take_snoc hz, List.map_append]
      exact upd_same
    · rintro H' ⟨s1, h1⟩
      rw [List.length_map, List.take_length] at h1
      refine ⟨(by show 3 ≤ sizeLine; decide), fun p hp => ?_⟩
      have nD : H D = none := by
        rw [upd_ne hqD.symm] at hD
        exact hD
      have s2 : Same H H' := fun b o e => s1 b o (by rw [upd_ne (ne_of_none e hq)]; exact e)
      refine k p (D, ns.take 60) _ (s2.new hp) (s2.free hp) ⟨⟨0, 0, upd_same, by decide, by decide, by decide⟩, SqL.of (by rw [upd_ne (ne_of_none h1 hp)]; exact h1), ne_of_none h1 hp, by rw [List.length_take]; omega⟩
end
end K
namespace K
open PySem L2 Rg
open Evl (pss_cut)
section
variable {P : Program} {w : World} {K : PySem.W.Frag} {mg : Str → Option Value} {base : Heap}
/-! ### one of some things -/
def spPick (K : PySem.W.Frag) : Sp := fun vs H Q _ => ∃ (p l : Addr) (e : Addr × List Int) (xs : List V) (n : Nat), vs = [.ref p, .ref l] ∧ SqL K H l xs ∧ l ≠ p ∧ 1 ≤ xs.length ∧ xs.length ≤ 1000 ∧ n < 1000000 ∧ PenAt K H p e n ∧
  ∀ (i : Nat) (v : V) (H' : Hp), xs[i]? = some v → But p H H' → PenAt K H' p e (n + 1) → Q v H'
abbrev nPick : List Str := ["_law_pen_here", "_law_some"]
theorem scPick : FnScope nPick ["_law_pen_here", "_law_some"] (defScope sLwPick) := ⟨rfl, rfl, rfl, by decide +kernel, rfl, by decide +kernel, by decide +kernel⟩
/-- the draw as a def called by its name -/
structure DrawAt (P : Program) (w : World) (K : PySem.W.Frag) (mg : Str → Option Value) (base : Heap) (f : Addr) (fd : FuncData) : Prop where
  ok : FnOk P w K mg base CX0 2 f fd ["_law_pen_here", "_law_many"] (spDraw K)
  g : mg "_law_draw" = some (.ref f)
  kp : PySem.W.keepIn K (.ref f) = true
  b : Binds K fd ["_law_pen_here", "_law_many"] []
theorem ok_pick {f fD : Addr} {fd fdD : FuncData} (F : Fun K "_law_pick" "_law_pick" sLwPick f fd) (T : Bi mg) (D : DrawAt P w K mg base fD fdD) : FnOk P w K mg base CX0 3 f fd ["_law_pen_here", "_law_some"] (spPick K) := by
  refine F.ok scPick (fun vs H Q E h => ?_) (fun cdv A outer s H vs Q E hr h => ?_)
  · obtain ⟨p, l, e, xs, n, rfl, _⟩ := h
    rfl
  · have nd := scPick.nd
    refine ⟨_, pss_one (ps_ret (pe_ix ix_list (pv 1) (pe_call D.ok hr rfl D.g D.kp D.b .nil pass0 (pa_cons (pv 0) (pa_cons (pe_callB call_len_seq (by rfl) T.len PySem.boot_len (pa_cons (pv 1) pa_nil)) pa_nil))) (fun _ _ => rfl))), ?_⟩
    obtain ⟨p, l, e, xs, n, rfl, hl, hlp, l1, l2, hn, pen, k⟩ := h
    refine ⟨_, rfl, _, rfl, _, rfl, l, xs, rfl, .inl hl, p, e, _, n, rfl, by omega, by omega, hn, pen, fun r H' r0 r1 b pen' => ?_⟩
    have hr : r.toNat < xs.length := by omega
    exact ⟨l, xs, r, _, rfl, rfl, b.seq hlp hl, at_of (j := r.toNat) (by omega) (List.getElem?_eq_getElem hr), k _ _ _ (List.getElem?_eq_getElem hr) b pen'⟩
end
end K
namespace K
open PySem L2 Rg
open Evl (pss_cut)
/-- each from 1 to m -/
def Bd (m : Int) (ls : List Int) : Prop := ∀ x ∈ ls, 1 ≤ x ∧ x ≤ m
theorem Bd.snoc {m x : Int} {ls : List Int} (h : Bd m ls) (h1 : 1 ≤ x) (h2 : x ≤ m) : Bd m (ls ++ [x]) := fun y hy => by
  rcases List.mem_append.mp hy with z | z
  · exact h y z
  · rw [List.mem_singleton.mp z]
    exact ⟨h1, h2⟩
theorem Bd.le {m k : Int} {ls : List Int} (h : Bd m ls) (hk : m ≤ k) : Bd k ls := fun x hx => ⟨(h x hx).1, by have := (h x hx).2; omega⟩
theorem Bd.set {m x : Int} {ls : List Int} {i : Nat} (h : Bd m ls) (h1 : 1 ≤ x) (h2 : x ≤ m) : Bd m (ls.set i x) := fun y hy => by
  rcases List.mem_or_eq_of_mem_set hy with z | z
  · exact h y z
  · rw [z]; exact ⟨h1, h2⟩
theorem Bd.sum {m : Int} : ∀ {ls : List Int}, Bd m ls → (ls.length : Int) ≤ ls.sum ∧ ls.sum ≤ m * ls.length
  | [], _ => by simp
  | x :: ls, h => by
    have ih := Bd.sum (m := m) (ls := ls) fun y hy => h y (List.mem_cons_of_mem _ hy)
    have hx := h x (List.mem_cons_self ..)
    rw [List.sum_cons, List.length_cons]
    have e : m * ((ls.length + 1 : Nat) : Int) = m * ls.length + m := by push_cast; rw [Int.mul_add, Int.mul_one]
    rw [e]
    push_cast
    omega
theorem ixN_at {n : Nat} {r : Int} (h0 : 0 ≤ r) (h1 : r < n) : ixN n r = some r.toNat := by
  unfold ixN
  rw [if_pos h0, if_pos h1]
theorem int_get {ls : List Int} {i : Nat} (h : i < ls.length) : (ls.map V.int)[i]? = some (V.int ls[i]) := by
  rw [List.getElem?_map, List.getElem?_eq_getElem h]; rfl
theorem set_map (ls : List Int) (i : Nat) (x : Int) : (ls.map V.int).set i (V.int x) = (ls.set i x).map V.int := by
  rw [List.map_set]
theorem erase_sum : ∀ {ls : List Int} {i : Nat} (h : i < ls.length), (ls.eraseIdx i).sum = ls.sum - ls[i]
  | x :: ls, 0, h => by simp [List.sum_cons]; omega
  | x :: ls, i + 1, h => by
    have h' : i < ls.length := by simpa using h
    have ih := erase_sum h'
    rw [List.eraseIdx_cons_succ, List.sum_cons, List.sum_cons, ih, List.getElem_cons_succ]
    omega
theorem abs_sum {m : Int} (hm : 0 ≤ m) : ∀ {ls : List Int}, (∀ x ∈ ls, -m ≤ x ∧ x ≤ m) → -(m * ls.length) ≤ ls.sum ∧ ls.sum ≤ m * ls.length
  | [], _ => by simp
  | x :: ls, h => by
    have ih := abs_sum hm (ls := ls) fun y hy => h y (List.mem_cons_of_mem _ hy)
    have hx := h x (List.mem_cons_self ..)
    have e : m * ((ls.length + 1 : Nat) : Int) = m * ls.length + m := by push_cast; rw [Int.mul_add, Int.mul_one]
    rw [List.sum_cons, List.length_cons, e]
    omega
section
variable {P : Program} {w : World} {K : PySem.W.Frag} {mg : Str → Option Value} {base : Heap}
def spLengths (K : PySem.W.Frag) : Sp := fun vs H Q _ => ∃ (p : Addr) (e : Addr × List Int) (n : Nat), vs = [.ref p] ∧ n < 800000 ∧ PenAt K H p e n ∧
  ∀ (q : Addr) (ls : List Int) (H' : Hp), 3 ≤ ls.length → ls.length ≤ 8 → Bd 1000000 ls → H q = none → But p H H' → H' q = some (.lst (ls.map V.int)) → PenAt K H' p e (n + 30) → Q (.ref q) H'
abbrev nLengths : List Str := ["_law_pen_here", "_law_many", "_law_way", "_law_most", "_law_found", "_law_at", "_law_rest", "_law_signed", "_law_bar", "_law_length"]
theorem scLengths : FnScope nLengths ["_law_pen_here"] (defScope sLwLengths) := ⟨rfl, rfl, rfl, by decide +kernel, rfl, by decide +kernel, by decide +kernel⟩
theorem ok_lengths {f fD : Addr} {fd fdD : FuncData} (F : Fun K "_law_lengths" "_law_lengths" sLwLengths f fd) (T : Bi mg) (D : DrawAt P w K mg base fD fdD) : FnOk P w K mg base CX0 3 f fd ["_law_pen_here"] (spLengths K) := by
  refine F.ok scLengths (fun vs H Q E h => ?_) (fun cdv A outer s H vs Q E hr h => ?_)
  · obtain ⟨p, e, n, rfl, _⟩ := h
    rfl
  · have nd := scLengths.nd
    refine ⟨_, pss_cons (ps_par (i := 1) (j := 2) (by rfl) nd rfl rfl (by decide) rfl rfl (pa_cons (pe_op op_add pe_int (pe_call D.ok hr rfl D.g D.kp D.b .nil pass0 (pa_cons (pv 0) (pa_cons pe_int pa_nil)))) (pa_cons (pe_call D.ok hr rfl D.g D.kp D.b .nil pass0 (pa_cons (pv 0) (pa_cons pe_int pa_nil))) pa_nil)) (by rfl))
      (pss_cut (ps_set (i := 3) nd rfl (Or.inr rfl) (pe_ix ix_list (pe_lst (pa_cons pe_int (pa_cons pe_int (pa_cons pe_int (pa_cons pe_int (pa_cons pe_int (pa_cons pe_int (pa_cons pe_int pa_nil)))))))) (pv 2) (fun _ _ => rfl)))
      (pss_cons (ps_setLc (i := 4) (own := [("_law_bar", 8)]) (g := gName 8) rfl nd rfl rfl (sw_true rfl rfl rfl (by decide +kernel)) (pi_range1 (by rfl) T.range (pa_cons (pv 1) pa_nil)) (blkOk_by (N := nLengths) (sc := defScope sLwLengths) (by decide +kernel))
        (fun _ _ _ _ _ => pg_name (i := 8) nd rfl (Or.inl rfl)) (fun _ _ _ _ _ => pts_nil) (fun _ _ _ _ _ => pe_op op_add pe_int (pe_call D.ok hr rfl D.g D.kp D.b .nil pass0 (pa_cons (pv 0) (pa_cons (pv 3) pa_nil)))))
      (pss_cons (ps_set (i := 5) nd rfl (Or.inr rfl) (pe_call D.ok hr rfl D.g D.kp D.b .nil pass0 (pa_cons (pv 0) (pa_cons (pv 1) pa_nil))))
      (pss_cons (ps_set (i := 6) nd rfl (Or.inl rfl) (pe_op op_sub (pe_callB (cr_sum rfl) (by rfl) T.sum (by decide +kernel) (pa_cons (pv 4) pa_nil)) (pe_ix ix_list (pv 4) (pv 5) (fun _ _ => rfl))))
      (pss_cut (ps_if (pt_cmpR op_eq (pv 2) pe_int (nomark _)) (pss_one (ps_asg (pe_op op_add (pv 6) (pe_call D.ok hr rfl D.g D.kp D.b .nil pass0 (pa_cons (pv 0) (pa_cons pe_int pa_nil)))) (pg_sub (pv 4) (pv 5) set_list))) pss_nil)
      (pss_cut (ps_if (pt_cmpR op_eq (pv 2) pe_int (nomark _))
        (pss_cons (ps_set (i := 7) nd rfl (Or.inl rfl) (pe_callB (cr_sum rfl) (by rfl) T.sum (by decide +kernel) (pa_cons (pe_lc (own := [("_law_bar", 8), ("_law_length", 9)]) (g := gTup K 2 (gCons (gName 8) (gCons (gName 9) gNil))) rfl nd (pi_enum (by rfl) T.enumerate (pa_cons (pv 4) pa_nil)) (blkOk_by (N := nLengths) (sc := defScope sLwLengths) (by decide +kernel))
          (fun _ _ _ _ _ => pg_tup rfl (pgs_cons (pg_name (i := 8) nd rfl (Or.inl rfl)) (pgs_cons (pg_name (i := 9) nd rfl (Or.inl rfl)) pgs_nil))) (fun _ _ _ _ _ => pts_one (pt_cmpR op_ne (pv 8) (pv 5) (nomark _)))
          (fun _ _ _ _ _ => pe_op op_mul (pv 9) (pe_op op_sub pe_int (pe_op op_mul pe_int (pe_call D.ok hr rfl D.g D.kp D.b .nil pass0 (pa_cons (pv 0) (pa_cons pe_int pa_nil))))))) pa_nil)))
        (pss_one (ps_asg (pe_callB (call_max2 rfl) (by rfl) T.max (by decide +kernel) (pa_cons pe_int (pa_cons (pe_callB call_abs (by rfl) T.abs (by decide +kernel) (pa_cons (pv 7) pa_nil)) pa_nil))) (pg_sub (pv 4) (pv 5) set_list)))) pss_nil)
      (pss_one (ps_ret (pv 4))))))))), ?_⟩
    obtain ⟨p, e, n, rfl, hn, pen, k⟩ := h
    refine ⟨_, rfl, p, e, 6, n, rfl, by decide, by decide, by omega, pen, fun r1 H1 r1a r1b b1 pen1 => ?_⟩
    refine ⟨_, _, rfl, rfl, _, rfl, p, e, 7, n + 1, rfl, by decide, by decide, by omega, pen1, fun r2 H2 r2a r2b b2 pen2 => ⟨_, _, rfl, ?_⟩⟩
    have b12 := b1.trans b2
    refine ⟨fun σ' H' => ∃ most : Int, 1 ≤ most ∧ most ≤ 1000000 ∧ (r2 = 4 → most = 4) ∧ (r2 = 5 → most = 9) ∧ σ' = [some (.ref p), some (.int (3 + r1)), some (.int r2), some (.int most), none, none, none, none, none, none] ∧ But p H H' ∧ PenAt K H' p e (n + 2), ?_, ?_⟩
    · refine ⟨(by show 7 ≤ sizeLine; decide), fun q hq => ?_⟩
      have hb := (b12.new hq : But p H (upd H2 q (.lst [.int 9, .int 9, .int 3, .int 1000000, .int 4, .int 9, .int 2])))
      have hp := (pen2.put hq : PenAt K (upd H2 q (.lst [.int 9, .int 9, .int 3, .int 1000000, .int 4, .int 9, .int 2])) p e (n + 1 + 1))
      have c7 : r2 = 0 ∨ r2 = 1 ∨ r2 = 2 ∨ r2 = 3 ∨ r2 = 4 ∨ r2 = 5 ∨ r2 = 6 := by omega
      rcases c7 with c | c | c | c | c | c | c <;> subst c <;> refine ⟨_, rfl, q, _, _, _, rfl, rfl, SqL.of upd_same, rfl, ?_⟩ <;> exact ⟨_, by decide, by decide, by decide, by decide, rfl, hb, hp⟩
    · rintro σ' H3 ⟨most, m1, m2, m4, m5, rfl, b3, pen3⟩
      have hmany : (3 + r1).toNat ≤ 8 := by omega
      have hmn : (((3 + r1).toNat : Nat) : Int) = 3 + r1 := by omega
      -- found = [1 + draw(pen, most) for bar in range(many)]
      refine ⟨_, rfl, _, rfl, by omega, by omega, fun D hD => ?_⟩
      have hDp : D ≠ p := pen3.ne hD
      have hD0 : H D = none := b3.free hDp hD
      refine lc_range (lo := 0) (n := (3 + r1).toNat) (fun i H' => ∃ ls : List Int, ls.length = i ∧ Bd most ls ∧ H' D = some (.lst (ls.map V.int)) ∧ But p H H' ∧ PenAt K H' p e (n + 2 + i)) ⟨[], rfl, fun x hx => (by cases hx), upd_same, b3.mut hD0, pen.mut pen3 b3 hD0⟩ ?_ ?_
      · rintro i H' hi ⟨ls, ll, bd, hd, b, pen'⟩
        refine ⟨rfl, _, rfl, _, rfl, p, e, most, n + 2 + i, rfl, m1, m2, by omega, pen', fun r H4 q0 q1 b4 pen4 => ⟨_, _, rfl, rfl, _, b4 D _ hDp hd, szl (by rw [List.length_map]; omega), ls ++ [1 + r], by rw [List.length_append, ll]; rfl, bd.snoc (by omega) (by omega), ?_, (b.trans b4).mut hD0, pen.mut pen4 (b.trans b4) hD0⟩⟩
        rw [List.map_append]
        exact upd_same
      · rintro H4 ⟨ls, ll, bd, hd, b4, pen4⟩
        have l3 : 3 ≤ ls.length := by omega
        have l8 : ls.length ≤ 8 := by omega
        -- at = draw(pen, many)
        refine ⟨_, rfl, _, rfl, p, e, 3 + r1, _, rfl, by omega, by omega, by omega, pen4, fun r5 H5 r5a r5b b5 pen5 => ?_⟩
        have hd5 := b5 D _ hDp hd
        have b45 := b4.trans b5
        have h5 : r5.toNat < ls.length := by omega
        have h5' : r5 < (ls.length : Int) := by omega
        have hsum := bd.sum
        have hat := bd _ (List.getElem_mem h5)
        have hsum2 := Bd.sum (m := most) (ls := ls.eraseIdx r5.toNat) fun x hx => bd x (List.mem_of_mem_eraseIdx hx)
        have hser : (ls.eraseIdx r5.toNat).sum = ls.sum - ls[r5.toNat] := by
          exact erase_sum h5
        -- rest = sum(found) - found[at]
        refine ⟨_, rfl, D, ls, rfl, SqL.of hd5, _, rfl, _, rfl, D, _, r5, _, rfl, rfl, SqL.of hd5, at_of (j := r5.toNat) (by omega) (int_get h5), _, _, rfl, rfl, ?_⟩
        refine ⟨fun σ' H' => ∃ (ls' : List Int), ls'.length = ls.length ∧ Bd 1000000 ls' ∧ (r2 = 5 → Bd 9 ls') ∧ σ' = [some (.ref p), some (.int (3 + r1)), some (.int r2), some (.int most), some (.ref D), some (.int r5), some (.int (ls.sum - ls[r5.toNat])), none, none, none] ∧ But p H H' ∧ H' D = some (.lst (ls'.map V.int)) ∧ PenAt K H' p e (n + 12), ?_, ?_⟩
        · refine ⟨_, rfl, rfl, _, rfl, ?_⟩
          refine ite2 (fun c => ?_) (fun c => ?_)
          · have c4 : r2 = 4 := by simpa using c
            have e4 := m4 c4
            subst e4
            refine ⟨_, rfl, _, rfl, p, e, 3, _, rfl, by decide, by decide, by omega, pen5, fun r6 H6 r6a r6b b6 pen6 => ⟨_, _, rfl, rfl, _, rfl, _, rfl, D, _, r5, r5.toNat, rfl, rfl, b6 D _ hDp hd5, ixN_at r5a (by rw [List.length_map]; exact h5'), ?_⟩⟩
            rw [set_map]
            have le : (ls.eraseIdx r5.toNat).length = ls.length - 1 := by rw [List.length_eraseIdx_of_lt h5]
            refine ⟨ls.set r5.toNat (ls.sum - ls[r5.toNat] + r6), by rw [List.length_set], (bd.le (by decide)).set (by omega) (by omega), fun z => by omega, rfl, (b45.trans b6).mut hD0, upd_same, (pen.mut pen6 (b45.trans b6) hD0).mono (by omega)⟩
          · exact ⟨ls, rfl, bd.le m2, fun z => by rw [m5 z] at bd; exact bd, rfl, b45, hd5, pen5.mono (by omega)⟩
        · rintro σ' H6 ⟨ls6, ll6, bd6, bd65, rfl, b6, hd6, pen6⟩
          refine ⟨fun σ' H' => ∃ (ls' : List Int) (u7 : Option V), ls'.length = ls.length ∧ Bd 1000000 ls' ∧ σ' = [some (.ref p), some (.int (3 + r1)), some (.int r2), some (.int most), some (.ref D), some (.int r5), some (.int (ls.sum - ls[r5.toNat])), u7, none, none] ∧ But p H H' ∧ H' D = some (.lst (ls'.map V.int)) ∧ PenAt K H' p e (n + 30), ?_, ?_⟩
          · refine ⟨_, rfl, rfl, _, rfl, ?_⟩
            refine ite2 (fun c => ?_) (fun c => ?_)
            · have c5 : r2 = 5 := by simpa using c
              have b9 := bd65 c5
              -- signed = sum([length * (1 - 2 * draw(pen, 2)) for bar, length in enumerate(found) if bar != at])
              refine ⟨_, rfl, D, _, rfl, SqL.of hd6, fun G hG => ?_⟩
              have hGp : G ≠ p := pen6.ne hG
              have hG0 : H G = none := b6.free hGp hG
              have hDG : D ≠ G := ne_of_none hd6 hG
              refine lc_it walk_enum (fun i H' => ∃ ms : List Int, ms.length ≤ i ∧ (∀ x ∈ ms, -9 ≤ x ∧ x ≤ 9) ∧ H' G = some (.lst (ms.map V.int)) ∧ H' D = some (.lst (ls6.map V.int)) ∧ But p H H' ∧ PenAt K H' p e (n + 12 + i))
                ⟨[], Nat.le_refl _, fun x hx => (by cases hx), upd_same, by rw [upd_ne hDG]; exact hd6, b6.mut hG0, pen.mut pen6 b6 hG0⟩ (fun i H' _ ⟨_, _, _, _, h, _⟩ => SqL.of h) ?_ ?_
              · rintro i x H7 H8 hi ⟨ms, ml, mb, hg, hd7, b7, pen7⟩ ⟨U, x1, x2, rfl, hU, rfl, e1, e2⟩
                obtain rfl := (Option.some.inj e1).symm
                obtain ⟨z, hz, rfl⟩ := int_at e2
                rw [List.length_map] at hi
                have hUp : U ≠ p := pen7.ne hU
                have hU0 : H U = none := b7.free hUp hU
                have hGU : G ≠ U := ne_of_none hg hU
                have hDU : D ≠ U := ne_of_none hd7 hU
                have b8 : But p H (upd H7 U (.tup [.int (i : Nat), .int z])) := b7.mut hU0
                have pen8 : PenAt K (upd H7 U (.tup [.int (i : Nat), .int z])) p e (n + 12 + i) := pen.mut pen7 b7 hU0
                have hg8 : upd H7 U (.tup [.int (i : Nat), .int z]) G = some (.lst (ms.map V.int)) := by rw [upd_ne hGU]; exact hg
                have hd8 : upd H7 U (.tup [.int (i : Nat), .int z]) D = some (.lst (ls6.map V.int)) := by rw [upd_ne hDU]; exact hd7
                refine ⟨U, _, rfl, .inl (.inl upd_same), rfl, _, _, rfl, _, _, rfl, rfl, rfl, _, rfl, _, rfl, rfl, _, rfl, ?_⟩
                refine ite2 (fun c => ?_) (fun c => ?_)
                · refine ⟨_, rfl, _, rfl, p, e, 2, n + 12 + i, rfl, by decide, by decide, by omega, pen8, fun r H9 q0 q1 b9' pen9 => ⟨_, _, rfl, rfl, .inl ⟨by decide, by decide⟩, _, _, rfl, rfl, ?_⟩⟩
                  have hz9 := b9 z (List.mem_of_getElem? hz)
                  refine ⟨_, _, rfl, rfl, .inl ⟨by omega, by omega⟩, _, b9' G _ hGp hg8, szl (by rw [List.length_map]; omega), ms ++ [z * (1 - 2 * r)], by rw [List.length_append]; simp; omega, ?_, ?_, by rw [upd_ne hDG]; exact b9' D _ hDp hd8, (b8.trans b9').mut hG0, pen.mut pen9 (b8.trans b9') hG0⟩
                  · intro y hy
                    rcases List.mem_append.mp hy with q | q
                    · exact mb y q
                    · rw [List.mem_singleton.mp q]
                      have hr : r = 0 ∨ r = 1 := by omega
                      rcases hr with rfl | rfl <;> omega
                  · rw [List.map_append]
                    exact upd_same
                · exact ⟨ms, by omega, mb, hg8, hd8, b8, pen8.mono (by omega)⟩
              · rintro H7 ⟨ms, ml, mb, hg, hd7, b7, pen7⟩
                rw [List.length_map] at ml
                have hs := abs_sum (by decide) mb
                refine ⟨G, ms, rfl, SqL.of hg, ?_⟩
                -- found[at] = max(1, abs(signed))
                refine ⟨_, rfl, _, rfl, _, _, rfl, _, rfl, _, rfl, D, _, r5, r5.toNat, rfl, rfl, hd7, ixN_at r5a (by rw [List.length_map]; omega), ?_⟩
                rw [set_map]
                refine ⟨_, _, by rw [List.length_set]; exact ll6, bd6.set ?_ ?_, rfl, b7.mut hD0, upd_same, (pen.mut pen7 b7 hD0).mono (by rw [List.length_map]; omega)⟩
                · split <;> split <;> omega
                · split <;> split <;> omega
            · exact ⟨ls6, none, ll6, bd6, rfl, b6, hd6, pen6.mono (by omega)⟩
          · rintro σ' H8 ⟨ls8, u7, ll8, bd8, rfl, b8, hd8, pen8⟩
            exact ⟨_, rfl, k D ls8 H8 (by omega) (by omega) bd8 hD0 b8 hd8 pen8⟩
end
end K
namespace K
open PySem L2 Rg
open Evl (pss_cut)
/-- the kinds that are asked for -/
def kinds : List String := ["NoneType", "bool", "int", "str", "list", "tuple", "dict"]
theorem kit_int : ∀ k ∈ kinds, kitB k "int" = some (decide (k = "int" ∨ k = "bool")) := by decide +kernel
theorem kit_bool : ∀ k ∈ kinds, kitB k "bool" = some (decide (k = "bool")) := by decide +kernel
theorem kit_list : ∀ k ∈ kinds, kitB k "list" = some (decide (k = "list")) := by decide +kernel
theorem kit_tuple : ∀ k ∈ kinds, kitB k "tuple" = some (decide (k = "tuple")) := by decide +kernel
/-- v is of the kind k -/
def Knd (K : PySem.W.Frag) (H : Hp) (v : V) (k : String) : Prop := TyX K H v (.type k) ∧ k ∈ kinds
section
variable {P : Program} {w : World} {K : PySem.W.Frag} {mg : Str → Option Value} {base : Heap}
theorem Knd.int {H : Hp} {i : Int} : Knd K H (.int i) "int" := ⟨.base (.int i), by decide⟩
theorem tyx_same {H H' : Hp} {v : V} {t : Value} (h : TyX K H v t) (s : Same H H') : TyX K H' v t := by
  cases h with
  | base h =>
    refine .base ?_
    cases h with
    | non => exact .non
    | bl x => exact .bl x
    | int x => exact .int x
    | str x => exact .str x
    | flt x => exact .flt x
    | lst e => exact .lst (s _ _ e)
    | frz e => exact .frz (s _ _ e)
    | tup e => exact .tup (s _ _ e)
    | dK e => exact .dK (s _ _ e)
    | dT e => exact .dT (s _ _ e)
    | ins e cl ha hn htk hm => exact .ins (s _ _ e) cl ha hn htk hm
  | byt b => exact .byt b
  | set e => exact .set (s _ _ e)
  | kList e c => exact .kList e c
  | kTuple e c => exact .kTuple e c
  | kDict e c => exact .kDict e c
  | fTuple e => exact .fTuple (s _ _ e)
  | fDict e => exact .fDict (s _ _ e)
theorem Knd.same {H H' : Hp} {v : V} {k : String} (h : Knd K H v k) (s : Same H H') : Knd K H' v k := ⟨tyx_same h.1 s, h.2⟩
/-! ### is_integer -/
def spIsInt (K : PySem.W.Frag) : Sp := fun vs H Q _ => ∃ (v : V) (k : String), vs = [v] ∧ Knd K H v k ∧ Q (.bl (decide (k = "int"))) H
theorem scIsInt : FnScope ["value"] ["value"] (defScope sIsInteger) := ⟨rfl, rfl, rfl, by decide +kernel, rfl, by decide +kernel, by decide +kernel⟩
theorem ok_isInt {f : Addr} {fd : FuncData} (F : Fun K "is_integer" "is_integer" sIsInteger f fd) (T : Bi mg) : FnOk P w K mg base CX0 1 f fd ["value"] (spIsInt K) := by
  refine F.ok scIsInt (fun vs H Q E h => ?_) (fun cdv A outer s H vs Q E hr h => ?_)
  · obtain ⟨v, k, rfl, _⟩ := h
    rfl
  · refine ⟨_, pss_one (ps_ret (pe_and (pe_callB call_isi (by rfl) T.isinstance (by decide +kernel) (pa_cons (pv 0) (pa_cons (pe_bltn (v := .ty "int") (u := .type "int") (by rfl) T.int (by decide +kernel) rfl) pa_nil)))
      (pe_one (pe_not (pe_callB call_isi (by rfl) T.isinstance (by decide +kernel) (pa_cons (pv 0) (pa_cons (pe_bltn (v := .ty "bool") (u := .type "bool") (by rfl) T.bool (by decide +kernel) rfl) pa_nil))))))), ?_⟩
    obtain ⟨v, k, rfl, ⟨ty, hk⟩, q⟩ := h
    refine ⟨_, rfl, v, .ty "int", _, _, _, rfl, .ty _, ty, kit_ty (kit_int k hk), _, rfl, ?_⟩
    refine ite2 (fun c => ?_) (fun c => ?_)
    · refine ⟨_, rfl, v, .ty "bool", _, _, _, rfl, .ty _, ty, kit_ty (kit_bool k hk), _, rfl, ?_⟩
      have c' : k = "int" ∨ k = "bool" := of_decide_eq_true c
      have e : (!decide (k = "bool")) = decide (k = "int") := by
        rcases c' with rfl | rfl <;> decide
      rw [e]
      exact q
    · have c' : ¬ (k = "int" ∨ k = "bool") := fun z => c (decide_eq_true z)
      have e : decide (k = "int") = false := decide_eq_false fun z => c' (.inl z)
      rw [e] at q
      exact q
/-! ### is_list -/
def spIsList (K : PySem.W.Frag) : Sp := fun vs H Q _ => ∃ (v : V) (k : String), vs = [v] ∧ Knd K H v k ∧ ∀ H', Same H H' → Q (.bl (decide (k = "list" ∨ k = "tuple"))) H'
theorem scIsList : FnScope ["value"] ["value"] (defScope sIsList) := ⟨rfl, rfl, rfl, by decide +kernel, rfl, by decide +kernel, by decide +kernel⟩
theorem ok_isList {f : Addr} {fd : FuncData} (F : Fun K "is_list" "is_list" sIsList f fd) (T : Bi mg) : FnOk P w K mg base CX0 1 f fd ["value"] (spIsList K) := by
  refine F.ok scIsList (fun vs H Q E h => ?_) (fun cdv A outer s H vs Q E hr h => ?_)
  · obtain ⟨v, k, rfl, _⟩ := h
    rfl
  · refine ⟨_, pss_one (ps_ret (pe_callB call_isiT (by rfl) T.isinstance (by decide +kernel) (pa_cons (pv 0) (pa_cons (pe_tup (pa_cons (pe_bltn (v := .ty "list") (u := .type "list") (by rfl) T.list (by decide +kernel) rfl) (pa_cons (pe_bltn (v := .ty "tuple") (u := .type "tuple") (by rfl) T.tuple (by decide +kernel) rfl) pa_nil))) pa_nil)))), ?_⟩
    obtain ⟨v, k, rfl, ⟨ty, hk⟩, q⟩ := h
    refine ⟨_, rfl, (by show 2 ≤ sizeLine; decide), fun p hp => ?_⟩
    have s1 : Same H (upd H p (.tup [.ty "list", .ty "tuple"])) := (Same.refl H).new hp
    refine ⟨v, p, [.ty "list", .ty "tuple"], _, _, decide (k = "list" ∨ k = "tuple"), rfl, upd_same, .cons (.ty _) (.cons (.ty _) .nil), tyx_same ty s1, kitAny_cons (kit_ty (kit_list k hk)) (fun e => kitAny_cons (b := decide (k = "tuple")) (r := decide (k = "list" ∨ k = "tuple")) (kit_ty (kit_tuple k hk)) (fun e' => ?_) fun e' => ?_) fun e => ?_, q _ s1⟩
    · have h1 : ¬ k = "list" := of_decide_eq_false e
      have h2 : ¬ k = "tuple" := of_decide_eq_false e'
      rw [kitAny_nil, decide_eq_false (fun z => z.elim h1 h2)]
    · exact decide_eq_true (.inr (of_decide_eq_true e'))
    · exact decide_eq_true (.inl (of_decide_eq_true e))
end
end K
namespace K
open PySem L2 Rg
open Evl (pss_cut)
theorem iteDT {c A B : Prop} [Decidable c] (hc : c) (h : A) : if decide c = true then A else B := by
  rw [if_pos (decide_eq_true hc)]; exact h
theorem iteDF {c A B : Prop} [Decidable c] (hc : ¬ c) (h : B) : if decide c = true then A else B := by
  rw [if_neg (by rw [decide_eq_false hc]; exact Bool.false_ne_true)]; exact h
theorem iteBT {c : Bool} {A B : Prop} (hc : c = true) (h : A) : if c = true then A else B := by
  rw [if_pos hc]; exact h
theorem iteBF {c : Bool} {A B : Prop} (hc : c = false) (h : B) : if c = true then A else B := by
  rw [if_neg (by rw [hc]; exact Bool.false_ne_true)]; exact h
theorem sm {n : Nat} (h : n ≤ 10000) : n < sizeLine := Nat.lt_of_le_of_lt h (by decide)
/-- a def of the text, by its name -/
structure DefAt (P : Program) (w : World) (K : PySem.W.Frag) (mg : Str → Option Value) (base : Heap) (CX : CXT) (k : Nat) (x : Str) (ps : List Str) (sp : Sp) (f : Addr) (fd : FuncData) : Prop where
  ok : FnOk P w K mg base CX k f fd ps sp
  g : mg x = some (.ref f)
  kp : PySem.W.keepIn K (.ref f) = true
  b : Binds K fd ps []
section
variable {P : Program} {w : World} {K : PySem.W.Frag} {mg : Str → Option Value} {base : Heap}
/-- two promises of one def -/
theorem fn_or {CX : CXT} {k : Nat} {f : Addr} {fd : FuncData} {ps : List Str} {sp sp' : Sp} (F : FnOk P w K mg base CX k f fd ps sp) (G : FnOk P w K mg base CX k f fd ps sp') : FnOk P w K mg base CX k f fd ps (fun vs H Q E => sp vs H Q E ∨ sp' vs H Q E) :=
  ⟨fun vs H Q E h => h.elim (F.len vs H Q E) (G.len vs H Q E), fun A outer s H args us vs Q E hr e0 hb hv h => h.elim (F.run A outer s H args us vs Q E hr e0 hb hv) (G.run A outer s H args us vs Q E hr e0 hb hv)⟩
/-! ### is_within, of ints -/
def spWithin : Sp := fun vs H Q _ => ∃ (v lo hi : Int), vs = [.int v, .int lo, .int hi] ∧ Q (.bl (decide (lo ≤ v) && decide (v ≤ hi))) H
theorem scWithin : FnScope ["value", "least", "most"] ["value", "least", "most"] (defScope sIsWithin) := ⟨rfl, rfl, rfl, by decide +kernel, rfl, by decide +kernel, by decide +kernel⟩
theorem ok_within {f fI : Addr} {fd fdI : FuncData} (F : Fun K "is_within" "is_within" sIsWithin f fd) (G : DefAt P w K mg base CX0 1 "is_integer" ["value"] (spIsInt K) fI fdI) : FnOk P w K mg base CX0 2 f fd ["value", "least", "most"] spWithin := by
  refine F.ok scWithin (fun vs H Q E h => ?_) (fun cdv A outer s H vs Q E hr h => ?_)
  · obtain ⟨v, lo, hi, rfl, _⟩ := h
    rfl
  · refine ⟨_, pss_cons (ps_if (pt_not (pt_val (pe_call G.ok hr rfl G.g G.kp G.b .nil pass0 (pa_cons (pv 0) pa_nil)))) (pss_one (ps_ret pe_bl)) pss_nil)
      (pss_one (ps_ret (pe_and (pe_or (pe_cmpR op_isN (pv 1) pe_non (nomark _)) (pe_one (pe_cmpR op_ge (pv 0) (pv 1) (nomark _)))) (pe_one (pe_or (pe_cmpR op_isN (pv 2) pe_non (nomark _)) (pe_one (pe_cmpR op_le (pv 0) (pv 2) (nomark _)))))))), ?_⟩
    obtain ⟨v, lo, hi, rfl, q⟩ := h
    refine ⟨_, rfl, V.int v, "int", rfl, Knd.int, _, rfl, iteNS rfl ?_⟩
    refine ⟨_, rfl, rfl, _, rfl, iteDF (fun z => nomatch z) ⟨_, rfl, _, rfl, _, _, rfl, rfl, _, rfl, ?_⟩⟩
    refine ite2 (fun c => ?_) (fun c => ?_)
    · have c' : lo ≤ v := of_decide_eq_true c
      refine ⟨_, rfl, rfl, _, rfl, iteDF (fun z => nomatch z) ⟨_, rfl, _, rfl, _, _, rfl, rfl, ?_⟩⟩
      rw [decide_eq_true c', Bool.true_and] at q
      exact q
    · have c' : ¬ lo ≤ v := fun z => c (decide_eq_true z)
      rw [decide_eq_false c', Bool.false_and] at q
      exact q
theorem all_map_bl (xs : List V) (g : V → Bool) : ((xs.map g).all id) = xs.all g := by
  rw [List.all_map]; rfl
end
end K
namespace K
open PySem L2 Rg
open Evl (pss_cut)
section
variable {P : Program} {w : World} {K : PySem.W.Frag} {mg : Str → Option Value} {base : Heap}
/-! ### errors with one field -/
def spIni (K : PySem.W.Frag) (f : Str) : Sp := fun vs H Q _ => ∃ (a C : Addr) (v : V), vs = [.ref a, v] ∧ OexC K C ∧ PySem.W.findIn K (.ref C) f = some none ∧ H a = some (exo a C none) ∧
  ∀ d, H d = none → d ≠ a → Q .non (upd (upd H d (exd d [(f, v)])) a (exo a C (some d)))
/-- the class x of errors with the field f, at C, its __init__ at fI -/
structure ErrAt (P : Program) (w : World) (K : PySem.W.Frag) (mg : Str → Option Value) (base : Heap) (x f : Str) (C fI : Addr) (fdI : FuncData) : Prop where
  oex : OexC K C
  ic : PySem.W.findIn K (.ref C) "__init__" = some (some (.ref fI))
  ti : PySem.W.typeIn K (.ref fI) = some (.type "function")
  nf : PySem.W.findIn K (.ref C) f = some none
  g : mg x = some (.ref C)
  b : Binds K fdI ["self", f] []
  ok : FnOk P w K mg base CX0 1 fI fdI ["self", f] (spIni K f)
/-- an error of the class at C with the field f holding v leaves; what was tracked stands -/
def Errs (E : XK) (C : Addr) (f : Str) (v : V) (H : Hp) : Prop := ∀ (d : Addr) (H' : Hp), Same H H' → H d = none → H' d = some (.xd [(f, v)]) → E (.ref C) (some d) H'
theorem Errs.later {E : XK} {C : Addr} {f : Str} {v : V} {H H1 : Hp} (h : Errs E C f v H) (s : Same H H1) : Errs E C f v H1 := fun d H' s' n e => h d H' (s.trans s') (s.free n) e
/-- the making of such an error, as a raise asks it -/
theorem err_made {E : XK} {C : Addr} {f : Str} {v : V} {H : Hp} (o : OexC K C) (n : PySem.W.findIn K (.ref C) f = some none) (h : Errs E C f v H) :
    ([v] : List V).length ≤ 1000 ∧ ∀ a, H a = none → spIni K f (.ref a :: ([v] ++ [])) (upd H a (exo a C none))
      (fun u H2 => u = .non ∧ ∃ (d : Addr) (fs : List (Str × V)), H2 a = some (exo a C (some d)) ∧ H2 d = some (exd d fs) ∧ H d = none ∧ E (.ref C) (some d) (upd (del H2 a) d (.xd fs))) (fun _ _ _ => False) := by
  refine ⟨(by show 1 ≤ 1000; decide), fun a ha => ⟨a, C, v, rfl, o, n, upd_same, fun d hd hda => ⟨rfl, d, [(f, v)], upd_same, by rw [upd_ne hda, upd_same], ?_, ?_⟩⟩⟩
  · rw [upd_ne hda] at hd
    exact hd
  · rw [upd_ne hda] at hd
    refine h d _ (fun b u e => ?_) hd upd_same
    have hba : b ≠ a := ne_of_none e ha
    have hbd : b ≠ d := ne_of_none e hd
    rw [upd_ne hbd, del_ne hba, upd_ne hba, upd_ne hbd, upd_ne hba]
    exact e
end
end K
namespace K
open PySem L2 Rg
open Evl (pss_cut)
/-! ### what a ring tells -/
def sumsOf (ls : List Int) : List Int := ls.foldl (fun s l => s ++ s.map (· + l)) [0]
def levelB (ls : List Int) : Bool := (sumsOf ls).any fun o => decide (2 * o = ls.sum)
def closesB (ls : List Int) : Bool := ls.all fun x => decide (2 * x ≤ ls.sum)
def lsum (ls ns : List Int) : Int := (ns.map fun b => ls.getD b.toNat 0).sum
def sortV (ls ns : List Int) : Str := if 2 * lsum ls ns = ls.sum then "level" else if 2 * lsum ls ns < ls.sum then "short" else "long"
theorem sums_take {ls : List Int} {i : Nat} {z : Int} (h : ls[i]? = some z) : sumsOf (ls.take (i + 1)) = sumsOf (ls.take i) ++ (sumsOf (ls.take i)).map (· + z) := by
  unfold sumsOf
  rw [← take_snoc h, List.foldl_append]
  rfl
theorem sums_len : ∀ (ls : List Int) (i : Nat), i ≤ ls.length → (sumsOf (ls.take i)).length = 2 ^ i
  | ls, 0, _ => rfl
  | ls, i + 1, h => by
    have hz : ls[i]? = some ls[i] := List.getElem?_eq_getElem h
    rw [sums_take hz, List.length_append, List.length_map, sums_len ls i (by omega), Nat.pow_succ]
    omega
theorem closes_max {ls : List Int} {m : Int} (hm : m ∈ ls) (hx : ∀ y ∈ ls, y ≤ m) : decide (2 * m ≤ ls.sum) = closesB ls := by
  unfold closesB
  by_cases c : 2 * m ≤ ls.sum
  · rw [decide_eq_true c]
    refine (List.all_eq_true.mpr fun y hy => decide_eq_true ?_).symm
    have := hx y hy
    omega
  · rw [decide_eq_false c]
    cases e : ls.all fun x => decide (2 * x ≤ ls.sum) with
    | false => rfl
    | true => exact absurd (of_decide_eq_true (List.all_eq_true.mp e m hm)) c
theorem dec_int (a b : Int) : decide (V.int a = V.int b) = decide (a = b) := by
  by_cases e : a = b
  · rw [e]; simp
  · rw [decide_eq_false e, decide_eq_false fun z => e (V.int.inj z)]
theorem all_any (l : List Int) (g : Int → Bool) : (l.map g).any id = l.any g := by
  rw [List.any_map]; rfl
/-- the attributes of a ring, in the order in which __init__ stores them -/
def rf (t : Addr) (ls : List Int) : List (Str × V) := putF "is_clear" (.bl (!levelB ls)) (putF "closes" (.bl (closesB ls)) (putF "total" (.int ls.sum) (putF "lengths" (.ref t) [])))
theorem n1 : ¬ (("lengths" : Str) = "total") := by decide +kernel
theorem n2 : ¬ (("lengths" : Str) = "closes") := by decide +kernel
theorem n3 : ¬ (("lengths" : Str) = "is_clear") := by decide +kernel
theorem n4 : ¬ (("total" : Str) = "closes") := by decide +kernel
theorem n5 : ¬ (("total" : Str) = "is_clear") := by decide +kernel
theorem n6 : ¬ (("closes" : Str) = "is_clear") := by decide +kernel
theorem rf_lengths (t : Addr) (ls : List Int) : (rf t ls).lookup ("lengths" : Str) = some (.ref t) := by
  unfold rf
  rw [lookup_putF, if_neg n3, lookup_putF, if_neg n2, lookup_putF, if_neg n1, lookup_putF, if_pos rfl]
theorem rf_total (t : Addr) (ls : List Int) : (rf t ls).lookup ("total" : Str) = some (.int ls.sum) := by
  unfold rf
  rw [lookup_putF, if_neg n5, lookup_putF, if_neg n4, lookup_putF, if_pos rfl]
theorem rf_closes (t : Addr) (ls : List Int) : (rf t ls).lookup ("closes" : Str) = some (.bl (closesB ls)) := by
  unfold rf
  rw [lookup_putF, if_neg n6, lookup_putF, if_pos rfl]
theorem rf_clear (t : Addr) (ls : List Int) : (rf t ls).lookup ("is_clear" : Str) = some (.bl (!levelB ls)) := by
  unfold rf
  rw [lookup_putF, if_pos rfl]
theorem rf_no (t : Addr) (ls : List Int) {m : Str} (h1 : ¬ m = "lengths") (h2 : ¬ m = "total") (h3 : ¬ m = "closes") (h4 : ¬ m = "is_clear") : (rf t ls).lookup m = none := by
  unfold rf
  rw [lookup_putF, if_neg h4, lookup_putF, if_neg h3, lookup_putF, if_neg h2, lookup_putF, if_neg h1]
  rfl
section
variable {P : Program} {w : World} {K : PySem.W.Frag} {mg : Str → Option Value} {base : Heap}
def RingAt (K : PySem.W.Frag) (C : Addr) (H : Hp) (r : Addr) (ls : List Int) : Prop := ∃ dx t, H r = some (.ins C dx (rf t ls)) ∧ SqT K H t (ls.map V.int) ∧ ∃ o : Obj, H t = some (.frz o (.tup (ls.map V.int))) ∧ o.dict = none
theorem RingAt.same {C : Addr} {H H' : Hp} {r : Addr} {ls : List Int} (h : RingAt K C H r ls) (s : Same H H') : RingAt K C H' r ls := by
  obtain ⟨dx, t, h1, h2, o, h3, h4⟩ := h
  exact ⟨dx, t, s _ _ h1, s.tup h2, o, s _ _ h3, h4⟩
/-- the class Ring as the top has made it -/
structure RingC (K : PySem.W.Frag) (mg : Str → Option Value) (C : Addr) : Prop where
  cl : Cls K C
  nL : NoAttr K C "lengths"
  nT : NoAttr K C "total"
  nC : NoAttr K C "closes"
  nI : NoAttr K C "is_clear"
  g : mg "Ring" = some (.ref C)
  ha : PySem.W.findIn K (.ref C) "__class__" = some (some (.builtin "object.__class__"))
  hn : PySem.W.specialIn K (.builtin "object.__class__") "__get__" = some (some (.builtin "getset_descriptor.__get__"))
  ht : PySem.W.takesIn K (.builtin "object.__class__") = some true
  hm : PySem.W.mroIn K C (.type "object") = some true
structure Nm (mg : Str → Option Value) : Prop where
  mostL : ∃ t, mg "MOST_LENGTH" = some (.int 1000000 t)
  leastB : ∃ t, mg "LEAST_BARS" = some (.int 3 t)
  mostB : ∃ t, mg "MOST_BARS" = some (.int 8 t)
/-! ### are_lengths -/
def spAreL (K : PySem.W.Frag) : Sp := fun vs H Q _ => ∃ (a : Addr) (ls : List Int), vs = [.ref a] ∧ Knd K H (.ref a) "list" ∧ SqL K H a (ls.map V.int) ∧ ls.length ≤ 1000 ∧ Bd 1000000 ls ∧ ∀ H', Same H H' → Q (.bl true) H'
abbrev nAreL : List Str := ["value", "one"]
theorem scAreL : FnScope nAreL ["value"] (defScope sAreLengths) := ⟨rfl, rfl, rfl, by decide +kernel, rfl, by decide +kernel, by decide +kernel⟩
theorem all_true {bs : List Bool} (h : ∀ b ∈ bs, b = true) : bs.all id = true := List.all_eq_true.mpr fun b hb => h b hb
theorem ok_areL {f fW fL : Addr} {fd fdW fdL : FuncData} (F : Fun K "are_lengths" "are_lengths" sAreLengths f fd) (T : Bi mg) (N : Nm mg) (W : DefAt P w K mg base CX0 2 "is_within" ["value", "least", "most"] spWithin fW fdW) (L : DefAt P w K mg base CX0 1 "is_list" ["value"] (spIsList K) fL fdL) : FnOk P w K mg base CX0 3 f fd ["value"] (spAreL K) := by
  refine F.ok scAreL (fun vs H Q E h => ?_) (fun cdv A outer s H vs Q E hr h => ?_)
  · obtain ⟨a, ls, rfl, _⟩ := h
    rfl
  · obtain ⟨tM, hM⟩ := N.mostL
    refine ⟨_, pss_one (ps_ret (pe_and (pe_call L.ok (hr.mono (by decide)) rfl L.g L.kp L.b .nil pass0 (pa_cons (pv 0) pa_nil)) (pe_one (pe_callB (cr_all rfl) (by rfl) T.all (by decide +kernel) (pa_cons (pe_lc (own := [("one", 1)]) (g := gName 1) (tt := tYes) rfl scAreL.nd (pi_list (pv 0))
      (blkOk_by (N := nAreL) (sc := defScope sAreLengths) (by decide +kernel)) (fun _ _ _ _ _ => pg_name (i := 1) scAreL.nd rfl (Or.inl rfl)) (fun _ _ _ _ _ => pts_nil) (fun _ _ _ _ _ => pe_call W.ok hr rfl W.g W.kp W.b .nil pass0 (pa_cons (pv 1) (pa_cons pe_int (pa_cons (pe_glob (v := .int 1000000) rfl hM ⟨_, rfl⟩) pa_nil))))) pa_nil))))), ?_⟩
    obtain ⟨a, ls, rfl, hk, hs, hl, hb, q⟩ := h
    refine ⟨_, rfl, _, "list", rfl, hk, fun H1 s1 => ⟨_, rfl, iteDT (.inl rfl) ?_⟩⟩
    refine ⟨_, rfl, a, rfl, ⟨_, s1.seq hs⟩, fun D hD => ?_⟩
    have hD0 := s1.free hD
    refine lc_list (K := K) (a := a) (xs := ls.map V.int) (fun i H' => Same H H' ∧ ∃ bs : List Bool, (∀ b ∈ bs, b = true) ∧ bs.length ≤ i ∧ H' D = some (.lst (bs.map V.bl))) ⟨s1.new hD, [], (fun b hb => nomatch hb), Nat.le_refl _, upd_same⟩ (fun i H' _ p => p.1.seq hs) ?_ ?_
    · rintro i x H' hi ⟨s2, bs, h1, h2, h3⟩
      obtain ⟨z, hz, rfl⟩ := int_at hi
      have hil : i < ls.length := (List.getElem?_eq_some_iff.mp hz).1
      have hzb := hb z (List.mem_of_getElem? hz)
      refine ⟨rfl, _, rfl, z, 1, 1000000, rfl, _, h3, (by rw [List.length_map]; exact sm (by omega)), s2.mut hD0, bs ++ [true], fun b hb => ?_, by rw [List.length_append, List.length_singleton]; omega, ?_⟩
      · rcases List.mem_append.mp hb with m | m
        · exact h1 b m
        · exact List.mem_singleton.mp m
      · rw [upd_same, List.map_append, decide_eq_true hzb.1, decide_eq_true hzb.2]
        rfl
    · rintro H' ⟨s2, bs, h1, h2, h3⟩
      refine ⟨D, bs, rfl, SqL.of h3, ?_⟩
      rw [all_true h1]
      exact q H' s2
/-! ### has_level -/
def spHasL (K : PySem.W.Frag) : Sp := fun vs H Q _ => ∃ (t : Addr) (ls : List Int), vs = [.ref t] ∧ SqT K H t (ls.map V.int) ∧ ls.length ≤ 8 ∧ ∀ H', Same H H' → Q (.bl (levelB ls)) H'
abbrev nHasL : List Str := ["lengths", "sums", "length", "one"]
theorem scHasL : FnScope nHasL ["lengths"] (defScope sHasLevel) := ⟨rfl, rfl, rfl, by decide +kernel, rfl, by decide +kernel, by decide +kernel⟩
theorem ok_hasL {f : Addr} {fd : FuncData} (F : Fun K "has_level" "has_level" sHasLevel f fd) (T : Bi mg) : FnOk P w K mg base CX0 2 f fd ["lengths"] (spHasL K) := by
  refine F.ok scHasL (fun vs H Q E h => ?_) (fun cdv A outer s H vs Q E hr h => ?_)
  · obtain ⟨a, ls, rfl, _⟩ := h
    rfl
  · have nd := scHasL.nd
    refine ⟨_, pss_cons (ps_set (i := 1) nd rfl (Or.inl rfl) (pe_lst (pa_cons pe_int pa_nil)))
      (pss_cons (ps_for PassesOwn.never rfl (pi_tup (pv 0)) (pg_name (i := 2) nd rfl (Or.inr rfl)) (pss_one (ps_set (i := 1) nd rfl (Or.inl rfl) (pe_op op_cat (pv 1) (pe_lc (own := [("one", 3)]) (g := gName 3) (tt := tYes) rfl nd (pi_list (pv 1))
        (blkOk_by (N := nHasL) (sc := defScope sHasLevel) (by decide +kernel)) (fun _ _ _ _ _ => pg_name (i := 3) nd rfl (Or.inl rfl)) (fun _ _ _ _ _ => pts_nil) (fun _ _ _ _ _ => pe_op op_add (pv 3) (pv 2)))))))
      (pss_one (ps_ret (pe_callB (cr_any rfl) (by rfl) T.any (by decide +kernel) (pa_cons (pe_lc (own := [("one", 3)]) (g := gName 3) (tt := tYes) rfl nd (pi_list (pv 1))
        (blkOk_by (N := nHasL) (sc := defScope sHasLevel) (by decide +kernel)) (fun _ _ _ _ _ => pg_name (i := 3) nd rfl (Or.inl rfl)) (fun _ _ _ _ _ => pts_nil) (fun _ _ _ _ _ => pe_cmpR op_eq (pe_op op_mul pe_int (pv 3)) (pe_callB (r := rSumT K) (cr_sumT (by rfl)) (by rfl) T.sum (by decide +kernel) (pa_cons (pv 0) pa_nil)) (nomark _))) pa_nil))))), ?_⟩
    obtain ⟨t, ls, rfl, hs, hl, q⟩ := h
    refine ⟨(by show 1 ≤ sizeLine; decide), fun l0 hl0 => ?_⟩
    have s0 : Same H (upd H l0 (.lst [.int 0])) := (Same.refl H).new hl0
    have pw : ∀ i, i ≤ ls.length → (sumsOf (ls.take i)).length ≤ 256 := fun i hi => by
      rw [sums_len ls i hi]
      exact Nat.pow_le_pow_right (by decide) (show i ≤ 8 by omega)
    refine ⟨_, rfl, t, rfl, ⟨_, s0.tup hs⟩, for_tup (K := K) (a := t) (xs := ls.map V.int) (fun i σ H' => ∃ (l : Addr) (z : Option V), σ = [some (.ref t), some (.ref l), z, none] ∧ Same H H' ∧ H' l = some (.lst ((sumsOf (ls.take i)).map V.int)))
      ⟨l0, none, rfl, s0, upd_same⟩ (fun i σ H' _ ⟨_, _, _, s, _⟩ => s.tup hs) ?_ ?_⟩
    · rintro i x σ H' hi ⟨l, z, rfl, s1, h1⟩
      obtain ⟨z, hz, rfl⟩ := int_at hi
      have hil : i < ls.length := (List.getElem?_eq_some_iff.mp hz).1
      have p1 := pw i (by omega)
      refine ⟨_, rfl, _, rfl, l, rfl, ⟨_, SqL.of h1⟩, fun D hD => ?_⟩
      have hlD : l ≠ D := ne_of_none h1 hD
      refine lc_list (K := K) (a := l) (xs := (sumsOf (ls.take i)).map V.int) (fun j H2 => Same H' H2 ∧ H2 D = some (.lst ((((sumsOf (ls.take i)).take j).map (· + z)).map V.int))) ⟨(Same.refl H').new hD, upd_same⟩ (fun j H2 _ p => p.1.seq (SqL.of h1)) ?_ ?_
      · rintro j y H2 hj ⟨s2, h2⟩
        obtain ⟨o, ho, rfl⟩ := int_at hj
        refine ⟨rfl, _, rfl, _, rfl, _, _, rfl, rfl, _, h2, (by rw [List.length_map, List.length_map, List.length_take]; exact sm (by omega)), s2.mut hD, ?_⟩
        rw [upd_same, ← take_snoc ho, List.map_append, List.map_append]
        rfl
      · rintro H2 ⟨s2, h2⟩
        rw [List.length_map, List.take_length] at h2
        refine ⟨l, D, _, _, rfl, rfl, s2 _ _ h1, h2, (by rw [List.length_map, List.length_map, List.length_map]; exact Nat.le_of_lt (sm (by omega))), fun p hp => ⟨p, _, rfl, (s1.trans s2).new hp, ?_⟩⟩
        rw [upd_same, sums_take hz, List.map_append]
    · rintro σ H' ⟨l, z, rfl, s1, h1⟩
      rw [List.length_map, List.take_length] at h1
      have p1 := pw ls.length (Nat.le_refl _)
      rw [List.take_length] at p1
      refine ⟨_, rfl, l, rfl, ⟨_, SqL.of h1⟩, fun D hD => ?_⟩
      refine lc_list (K := K) (a := l) (xs := (sumsOf ls).map V.int) (fun j H2 => Same H' H2 ∧ H2 D = some (.lst ((((sumsOf ls).take j).map fun o => decide (2 * o = ls.sum)).map V.bl))) ⟨(Same.refl H').new hD, upd_same⟩ (fun j H2 _ p => p.1.seq (SqL.of h1)) ?_ ?_
      · rintro j y H2 hj ⟨s2, h2⟩
        obtain ⟨o, ho, rfl⟩ := int_at hj
        refine ⟨rfl, _, rfl, _, _, rfl, rfl, .inl ⟨by decide, by decide⟩, _, rfl, t, ls, rfl, (s1.trans s2).tup hs, rfl, _, h2, (by rw [List.length_map, List.length_map, List.length_take]; exact sm (by omega)), s2.mut hD, ?_⟩
        rw [upd_same, ← take_snoc ho, List.map_append, List.map_append, dec_int]
        rfl
      · rintro H2 ⟨s2, h2⟩
        rw [List.length_map, List.take_length] at h2
        refine ⟨D, _, rfl, SqL.of h2, ?_⟩
        rw [all_any]
        exact q H2 (s1.trans s2)
/-! ### Ring.__init__ -/
def spRI (K : PySem.W.Frag) (C : Addr) : Sp := fun vs H Q _ => ∃ (r l dx : Addr) (ls : List Int), vs = [.ref r, .ref l] ∧ H r = some (.ins C dx []) ∧ Knd K H (.ref l) "list" ∧ SqL K H l (ls.map V.int) ∧ 3 ≤ ls.length ∧ ls.length ≤ 8 ∧ Bd 1000000 ls ∧
  ∀ H', RingAt K C H' r ls → (∀ b o, H b = some o → b ≠ r → H' b = some o) → Q .non H'
theorem scRI : FnScope ["self", "lengths"] ["self", "lengths"] (defScope sRingInit) := ⟨rfl, rfl, rfl, by decide +kernel, rfl, by decide +kernel, by decide +kernel⟩
theorem ok_ri {C f fA fH : Addr} {fd fdA fdH : FuncData} (F : Fun K "__init__" "Ring.__init__" sRingInit f fd) (T : Bi mg) (N : Nm mg) (R : RingC K mg C) (A' : DefAt P w K mg base CX0 3 "are_lengths" ["value"] (spAreL K) fA fdA) (L : DefAt P w K mg base CX0 2 "has_level" ["lengths"] (spHasL K) fH fdH) : FnOk P w K mg base CX0 4 f fd ["self", "lengths"] (spRI K C) := by
  refine F.ok scRI (fun vs H Q E h => ?_) (fun cdv A outer s H vs Q E hr h => ?_)
  · obtain ⟨r, l, dx, ls, rfl, _⟩ := h
    rfl
  · obtain ⟨t3, h3⟩ := N.leastB
    obtain ⟨t8, h8⟩ := N.mostB
    refine ⟨_, pss_cons (ps_if (pt_not (pt_val (pe_call A'.ok hr rfl A'.g A'.kp A'.b .nil pass0 (pa_cons (pv 1) pa_nil)))) (pss_one ps_never) pss_nil)
      (pss_cons (ps_if (pt_cmpR op_lt (pe_callB call_len_seq (by rfl) T.len PySem.boot_len (pa_cons (pv 1) pa_nil)) (pe_glob (v := .int 3) rfl h3 ⟨_, rfl⟩) (nomark _)) (pss_one ps_never) pss_nil)
      (pss_cons (ps_if (pt_cmpR op_gt (pe_callB call_len_seq (by rfl) T.len PySem.boot_len (pa_cons (pv 1) pa_nil)) (pe_glob (v := .int 8) rfl h8 ⟨_, rfl⟩) (nomark _)) (pss_one ps_never) pss_nil)
      (pss_cons (ps_fld (pv 0) (pe_callTy cr_tupF (by rfl) T.tuple (by decide +kernel) (pa_cons (pv 1) pa_nil)) rfl)
      (pss_cons (ps_fld (pv 0) (pe_callB (cr_sumT rfl) (by rfl) T.sum (by decide +kernel) (pa_cons (pe_fld (pv 0) rfl) pa_nil)) rfl)
      (pss_cons (ps_fld (pv 0) (pe_cmpR op_le (pe_op op_mul pe_int (pe_callB (cr_maxT rfl) (by rfl) T.max (by decide +kernel) (pa_cons (pe_fld (pv 0) rfl) pa_nil))) (pe_fld (pv 0) rfl) (nomark _)) rfl)
      (pss_one (ps_fld (pv 0) (pe_not (pe_call L.ok (hr.mono (by decide)) rfl L.g L.kp L.b .nil pass0 (pa_cons (pe_fld (pv 0) rfl) pa_nil))) rfl))))))), ?_⟩
    obtain ⟨r, l, dx, ls, rfl, hr0, hk, hs, l3, l8, hb, q⟩ := h
    refine ⟨_, rfl, l, ls, rfl, hk, hs, by omega, hb, fun H1 s1 => ⟨_, rfl, iteF ?_⟩⟩
    refine ⟨_, rfl, l, _, rfl, .inl (s1.seq hs), _, _, rfl, rfl, _, rfl, iteDF (by rw [List.length_map]; omega) ?_⟩
    refine ⟨_, rfl, l, _, rfl, .inl (s1.seq hs), _, _, rfl, rfl, _, rfl, iteDF (by rw [List.length_map]; omega) ?_⟩
    have hr1 := s1 _ _ hr0
    refine ⟨_, rfl, l, _, rfl, s1.seq hs, fun t o ht hd => ?_⟩
    have nrt : r ≠ t := ne_of_none hr1 ht
    have ht0 := s1.free ht
    have tup0 : ∀ u, upd (upd H1 t (.frz o (.tup (ls.map V.int)))) r u t = some (.frz o (.tup (ls.map V.int))) := fun u => by rw [upd_ne nrt.symm, upd_same]
    refine ⟨_, rfl, r, C, dx, [], rfl, (by rw [upd_ne nrt]; exact hr1), R.cl, R.nL, (by show 0 < 1000; decide), ?_⟩
    -- self.total
    refine ⟨_, rfl, r, C, dx, _, _, rfl, upd_same, R.cl, R.nL, (by rw [lookup_putF, if_pos rfl]), t, ls, rfl, .inl (.inr ⟨o, tup0 _⟩), _, rfl, r, C, dx, _, rfl, upd_same, R.cl, R.nT, (by show 1 < 1000; decide), ?_⟩
    rw [upd_upd]
    -- self.closes
    refine ⟨_, rfl, r, C, dx, _, _, rfl, upd_same, R.cl, R.nL, (by rw [lookup_putF, if_neg n1, lookup_putF, if_pos rfl]), t, ls, rfl, .inl (.inr ⟨o, tup0 _⟩), by omega, fun m hm hx => ?_⟩
    refine ⟨_, _, rfl, rfl, .inl ⟨by decide, by decide⟩, _, rfl, r, C, dx, _, _, rfl, upd_same, R.cl, R.nT, (by rw [lookup_putF, if_pos rfl]), _, _, rfl, rfl, _, rfl, r, C, dx, _, rfl, upd_same, R.cl, R.nC, ?_, ?_⟩
    · have e1 := length_putF "total" (V.int ls.sum) (putF "lengths" (V.ref t) [])
      have e2 := length_putF "lengths" (V.ref t) []
      simp only [List.length_nil] at e2
      omega
    dsimp only
    rw [upd_upd, closes_max hm hx]
    -- self.is_clear
    refine ⟨_, rfl, r, C, dx, _, _, rfl, upd_same, R.cl, R.nL, (by rw [lookup_putF, if_neg n2, lookup_putF, if_neg n1, lookup_putF, if_pos rfl]), t, ls, rfl, .inl (.inr ⟨o, tup0 _⟩), l8, fun H5 s5 => ⟨_, rfl, _, rfl, r, C, dx, _, rfl, s5 _ _ upd_same, R.cl, R.nI, ?_, ?_⟩⟩
    · have e1 := length_putF "total" (V.int ls.sum) (putF "lengths" (V.ref t) [])
      have e2 := length_putF "lengths" (V.ref t) []
      have e3 := length_putF "closes" (V.bl (closesB ls)) (putF "total" (V.int ls.sum) (putF "lengths" (V.ref t) []))
      simp only [List.length_nil] at e2
      omega
    · have tf := s5 _ _ (tup0 _)
      refine q _ ⟨dx, t, upd_same, .inl (.inr ⟨o, by rw [upd_ne nrt.symm]; exact tf⟩), o, by rw [upd_ne nrt.symm]; exact tf, hd⟩ fun b o e hbr => ?_
      rw [upd_ne hbr]
      refine s5 _ _ ?_
      rw [upd_ne hbr, upd_ne (ne_of_none (s1 _ _ e) ht)]
      exact s1 _ _ e
end
end K
namespace K
open PySem L2 Rg
open Evl (pss_cut)
section
variable {P : Program} {w : World} {K : PySem.W.Frag} {mg : Str → Option Value} {base : Heap}
/-! ### is_within of anything -/
/-- what is_within tells of a value of the kind k -/
def winB (k : String) (lo hi : Int) (v : V) : Bool := decide (k = "int") && match v with
  | .int i => decide (lo ≤ i) && decide (i ≤ hi)
  | _ => false
def spWithinO (K : PySem.W.Frag) : Sp := fun vs H Q _ => ∃ (v : V) (k : String) (lo hi : Int), vs = [v, .int lo, .int hi] ∧ Knd K H v k ∧ k ≠ "int" ∧ Q (.bl false) H
theorem ok_withinO {f fI : Addr} {fd fdI : FuncData} (F : Fun K "is_within" "is_within" sIsWithin f fd) (G : DefAt P w K mg base CX0 1 "is_integer" ["value"] (spIsInt K) fI fdI) : FnOk P w K mg base CX0 2 f fd ["value", "least", "most"] (spWithinO K) := by
  refine F.ok scWithin (fun vs H Q E h => ?_) (fun cdv A outer s H vs Q E hr h => ?_)
  · obtain ⟨v, k, lo, hi, rfl, _⟩ := h
    rfl
  · refine ⟨_, pss_cons (ps_if (pt_not (pt_val (pe_call G.ok hr rfl G.g G.kp G.b .nil pass0 (pa_cons (pv 0) pa_nil)))) (pss_one (ps_ret pe_bl)) pss_nil) (pss_one ps_never), ?_⟩
    obtain ⟨v, k, lo, hi, rfl, hk, nk, q⟩ := h
    refine ⟨_, rfl, v, k, rfl, hk, _, rfl, ?_⟩
    rw [decide_eq_false nk]
    exact iteT q
/-- a value, of a kind, that is an int just if the kind says so -/
def KndI (K : PySem.W.Frag) (H : Hp) (v : V) (k : String) : Prop := Knd K H v k ∧ (k = "int" → ∃ i, v = .int i)
def spWithinG (K : PySem.W.Frag) : Sp := fun vs H Q _ => ∃ (v : V) (k : String) (lo hi : Int), vs = [v, .int lo, .int hi] ∧ KndI K H v k ∧ Q (.bl (winB k lo hi v)) H
theorem ok_withinG {f fI : Addr} {fd fdI : FuncData} (F : Fun K "is_within" "is_within" sIsWithin f fd) (G : DefAt P w K mg base CX0 1 "is_integer" ["value"] (spIsInt K) fI fdI) : FnOk P w K mg base CX0 2 f fd ["value", "least", "most"] (spWithinG K) := by
  refine (fn_or (ok_within F G) (ok_withinO F G)).imp fun vs H Q E h => ?_
  obtain ⟨v, k, lo, hi, rfl, ⟨hk, hi'⟩, q⟩ := h
  by_cases c : k = "int"
  · obtain ⟨i, rfl⟩ := hi' c
    refine .inl ⟨i, lo, hi, rfl, ?_⟩
    unfold winB at q
    rw [decide_eq_true c, Bool.true_and] at q
    exact q
  · refine .inr ⟨v, k, lo, hi, rfl, hk, c, ?_⟩
    unfold winB at q
    rw [decide_eq_false c, Bool.false_and] at q
    exact q
/-! ### are_lengths of anything -/
def lenB (k : String) (v : V) : Bool := winB k 1 1000000 v
def spAreO (K : PySem.W.Frag) : Sp := fun vs H Q _ => ∃ (v : V) (k : String), vs = [v] ∧ Knd K H v k ∧ k ≠ "list" ∧ k ≠ "tuple" ∧ ∀ H', Same H H' → Q (.bl false) H'
theorem ok_areO {f fW fL : Addr} {fd fdW fdL : FuncData} (F : Fun K "are_lengths" "are_lengths" sAreLengths f fd) (T : Bi mg) (N : Nm mg) (W : DefAt P w K mg base CX0 2 "is_within" ["value", "least", "most"] (spWithinG K) fW fdW) (L : DefAt P w K mg base CX0 1 "is_list" ["value"] (spIsList K) fL fdL) : FnOk P w K mg base CX0 3 f fd ["value"] (spAreO K) := by
  refine F.ok scAreL (fun vs H Q E h => ?_) (fun cdv A outer s H vs Q E hr h => ?_)
  · obtain ⟨v, k, rfl, _⟩ := h
    rfl
  · obtain ⟨tM, hM⟩ := N.mostL
    refine ⟨_, pss_one (ps_ret (pe_and (pe_call L.ok (hr.mono (by decide)) rfl L.g L.kp L.b .nil pass0 (pa_cons (pv 0) pa_nil)) (pe_one (pe_callB (cr_all rfl) (by rfl) T.all (by decide +kernel) (pa_cons (pe_lc (own := [("one", 1)]) (g := gName 1) (tt := tYes) rfl scAreL.nd (pi_list (pv 0))
      (blkOk_by (N := nAreL) (sc := defScope sAreLengths) (by decide +kernel)) (fun _ _ _ _ _ => pg_name (i := 1) scAreL.nd rfl (Or.inl rfl)) (fun _ _ _ _ _ => pts_nil) (fun _ _ _ _ _ => pe_call W.ok hr rfl W.g W.kp W.b .nil pass0 (pa_cons (pv 1) (pa_cons pe_int (pa_cons (pe_glob (v := .int 1000000) rfl hM ⟨_, rfl⟩) pa_nil))))) pa_nil))))), ?_⟩
    obtain ⟨v, k, rfl, hk, n1, n2, q⟩ := h
    refine ⟨_, rfl, v, k, rfl, hk, fun H1 s1 => ⟨_, rfl, iteDF (fun z => z.elim n1 n2) (q H1 s1)⟩⟩
def spAreGL (K : PySem.W.Frag) : Sp := fun vs H Q _ => ∃ (a : Addr) (xs : List V) (kf : V → String), vs = [.ref a] ∧ Knd K H (.ref a) "list" ∧ SqL K H a xs ∧ xs.length ≤ 1000 ∧ (∀ x ∈ xs, KndI K H x (kf x)) ∧ ∀ H', Same H H' → Q (.bl (xs.all fun x => lenB (kf x) x)) H'
theorem ok_areGL {f fW fL : Addr} {fd fdW fdL : FuncData} (F : Fun K "are_lengths" "are_lengths" sAreLengths f fd) (T : Bi mg) (N : Nm mg) (W : DefAt P w K mg base CX0 2 "is_within" ["value", "least", "most"] (spWithinG K) fW fdW) (L : DefAt P w K mg base CX0 1 "is_list" ["value"] (spIsList K) fL fdL) : FnOk P w K mg base CX0 3 f fd ["value"] (spAreGL K) := by
  refine F.ok scAreL (fun vs H Q E h => ?_) (fun cdv A outer s H vs Q E hr h => ?_)
  · obtain ⟨a, xs, kf, rfl, _⟩ := h
    rfl
  · obtain ⟨tM, hM⟩ := N.mostL
    refine ⟨_, pss_one (ps_ret (pe_and (pe_call L.ok (hr.mono (by decide)) rfl L.g L.kp L.b .nil pass0 (pa_cons (pv 0) pa_nil)) (pe_one (pe_callB (cr_all rfl) (by rfl) T.all (by decide +kernel) (pa_cons (pe_lc (own := [("one", 1)]) (g := gName 1) (tt := tYes) rfl scAreL.nd (pi_list (pv 0))
      (blkOk_by (N := nAreL) (sc := defScope sAreLengths) (by decide +kernel)) (fun _ _ _ _ _ => pg_name (i := 1) scAreL.nd rfl (Or.inl rfl)) (fun _ _ _ _ _ => pts_nil) (fun _ _ _ _ _ => pe_call W.ok hr rfl W.g W.kp W.b .nil pass0 (pa_cons (pv 1) (pa_cons pe_int (pa_cons (pe_glob (v := .int 1000000) rfl hM ⟨_, rfl⟩) pa_nil))))) pa_nil))))), ?_⟩
    obtain ⟨a, xs, kf, rfl, hk, hs, hl, hx, q⟩ := h
    refine ⟨_, rfl, _, "list", rfl, hk, fun H1 s1 => ⟨_, rfl, iteDT (.inl rfl) ?_⟩⟩
    refine ⟨_, rfl, a, rfl, ⟨_, s1.seq hs⟩, fun D hD => ?_⟩
    have hD0 := s1.free hD
    refine lc_list (K := K) (a := a) (xs := xs) (fun i H' => Same H H' ∧ H' D = some (.lst (((xs.take i).map fun x => lenB (kf x) x).map V.bl))) ⟨s1.new hD, upd_same⟩ (fun i H' _ p => p.1.seq hs) ?_ ?_
    · rintro i x H' hi ⟨s2, h3⟩
      have hil : i < xs.length := (List.getElem?_eq_some_iff.mp hi).1
      have kx := hx x (List.mem_of_getElem? hi)
      refine ⟨rfl, _, rfl, x, kf x, 1, 1000000, rfl, ⟨kx.1.same s2, kx.2⟩, _, h3, (by rw [List.length_map, List.length_map, List.length_take]; exact sm (by omega)), s2.mut hD0, ?_⟩
      rw [upd_same, ← take_snoc hi, List.map_append, List.map_append]
      rfl
    · rintro H' ⟨s2, h3⟩
      rw [List.take_length] at h3
      refine ⟨D, _, rfl, SqL.of h3, ?_⟩
      rw [List.all_map]
      exact q H' s2
def spAreGT (K : PySem.W.Frag) : Sp := fun vs H Q _ => ∃ (a : Addr) (xs : List V) (kf : V → String), vs = [.ref a] ∧ Knd K H (.ref a) "tuple" ∧ SqT K H a xs ∧ xs.length ≤ 1000 ∧ (∀ x ∈ xs, KndI K H x (kf x)) ∧ ∀ H', Same H H' → Q (.bl (xs.all fun x => lenB (kf x) x)) H'
theorem ok_areGT {f fW fL : Addr} {fd fdW fdL : FuncData} (F : Fun K "are_lengths" "are_lengths" sAreLengths f fd) (T : Bi mg) (N : Nm mg) (W : DefAt P w K mg base CX0 2 "is_within" ["value", "least", "most"] (spWithinG K) fW fdW) (L : DefAt P w K mg base CX0 1 "is_list" ["value"] (spIsList K) fL fdL) : FnOk P w K mg base CX0 3 f fd ["value"] (spAreGT K) := by
  refine F.ok scAreL (fun vs H Q E h => ?_) (fun cdv A outer s H vs Q E hr h => ?_)
  · obtain ⟨a, xs, kf, rfl, _⟩ := h
    rfl
  · obtain ⟨tM, hM⟩ := N.mostL
    refine ⟨_, pss_one (ps_ret (pe_and (pe_call L.ok (hr.mono (by decide)) rfl L.g L.kp L.b .nil pass0 (pa_cons (pv 0) pa_nil)) (pe_one (pe_callB (cr_all rfl) (by rfl) T.all (by decide +kernel) (pa_cons (pe_lc (own := [("one", 1)]) (g := gName 1) (tt := tYes) rfl scAreL.nd (pi_tup (pv 0))
      (blkOk_by (N := nAreL) (sc := defScope sAreLengths) (by decide +kernel)) (fun _ _ _ _ _ => pg_name (i := 1) scAreL.nd rfl (Or.inl rfl)) (fun _ _ _ _ _ => pts_nil) (fun _ _ _ _ _ => pe_call W.ok hr rfl W.g W.kp W.b .nil pass0 (pa_cons (pv 1) (pa_cons pe_int (pa_cons (pe_glob (v := .int 1000000) rfl hM ⟨_, rfl⟩) pa_nil))))) pa_nil))))), ?_⟩
    obtain ⟨a, xs, kf, rfl, hk, hs, hl, hx, q⟩ := h
    refine ⟨_, rfl, _, "tuple", rfl, hk, fun H1 s1 => ⟨_, rfl, iteDT (.inr rfl) ?_⟩⟩
    refine ⟨_, rfl, a, rfl, ⟨_, s1.tup hs⟩, fun D hD => ?_⟩
    have hD0 := s1.free hD
    refine lc_tup (K := K) (a := a) (xs := xs) (fun i H' => Same H H' ∧ H' D = some (.lst (((xs.take i).map fun x => lenB (kf x) x).map V.bl))) ⟨s1.new hD, upd_same⟩ (fun i H' _ p => p.1.tup hs) ?_ ?_
    · rintro i x H' hi ⟨s2, h3⟩
      have hil : i < xs.length := (List.getElem?_eq_some_iff.mp hi).1
      have kx := hx x (List.mem_of_getElem? hi)
      refine ⟨rfl, _, rfl, x, kf x, 1, 1000000, rfl, ⟨kx.1.same s2, kx.2⟩, _, h3, (by rw [List.length_map, List.length_map, List.length_take]; exact sm (by omega)), s2.mut hD0, ?_⟩
      rw [upd_same, ← take_snoc hi, List.map_append, List.map_append]
      rfl
    · rintro H' ⟨s2, h3⟩
      rw [List.take_length] at h3
      refine ⟨D, _, rfl, SqL.of h3, ?_⟩
      rw [List.all_map]
      exact q H' s2
/-! ### errors with two fields: TooMany(what, most) -/
def spIni2 (K : PySem.W.Frag) (f g : Str) : Sp := fun vs H Q _ => ∃ (a C : Addr) (v u : V), vs = [.ref a, v, u] ∧ OexC K C ∧ PySem.W.findIn K (.ref C) f = some none ∧ PySem.W.findIn K (.ref C) g = some none ∧ H a = some (exo a C none) ∧
  ∀ d, H d = none → d ≠ a → Q .non (upd (upd (upd H d (exd d [(f, v)])) a (exo a C (some d))) d (exd d [(g, u), (f, v)]))
theorem scTooMany : FnScope ["self", "what", "most"] ["self", "what", "most"] (defScope sTooManyInit) := ⟨rfl, rfl, rfl, by decide +kernel, rfl, by decide +kernel, by decide +kernel⟩
theorem ok_tooManyI {f : Addr} {fd : FuncData} (F : Fun K "__init__" "TooMany.__init__" sTooManyInit f fd) : FnOk P w K mg base CX0 1 f fd ["self", "what", "most"] (spIni2 K "what" "most") := by
  refine F.ok scTooMany (fun vs H Q E h => ?_) (fun cdv A outer s H vs Q E hr h => ?_)
  · obtain ⟨a, C, v, u, rfl, _⟩ := h
    rfl
  · refine ⟨_, pss_cons (ps_ost (pv 0) (pv 1)) (pss_one (ps_ost (pv 0) (pv 2))), ?_⟩
    obtain ⟨a, C, v, u, rfl, o, n, n2, ha, k⟩ := h
    refine ⟨_, rfl, _, rfl, a, C, rfl, o, n, .inl ⟨ha, fun d h1 h2 => ?_⟩⟩
    refine ⟨_, rfl, _, rfl, a, C, rfl, o, n2, .inr ⟨d, [("what", v)], upd_same, ?_, (by show 1 ≤ 900; decide), k d h1 h2⟩⟩
    rw [upd_ne h2, upd_same]
/-- the class x of errors with the fields f, g, at C, its __init__ at fI -/
structure Err2At (P : Program) (w : World) (K : PySem.W.Frag) (mg : Str → Option Value) (base : Heap) (x f f2 : Str) (C fI : Addr) (fdI : FuncData) : Prop where
  oex : OexC K C
  ic : PySem.W.findIn K (.ref C) "__init__" = some (some (.ref fI))
  ti : PySem.W.typeIn K (.ref fI) = some (.type "function")
  nf : PySem.W.findIn K (.ref C) f = some none
  ng : PySem.W.findIn K (.ref C) f2 = some none
  g : mg x = some (.ref C)
  b : Binds K fdI ["self", f, f2] []
  ok : FnOk P w K mg base CX0 1 fI fdI ["self", f, f2] (spIni2 K f f2)
/-- an error of the class at C with these fields leaves; what was tracked stands -/
def ErrsF (E : XK) (C : Addr) (fs : List (Str × V)) (H : Hp) : Prop := ∀ (d : Addr) (H' : Hp), Same H H' → H d = none → H' d = some (.xd fs) → E (.ref C) (some d) H'
theorem err_made2 {E : XK} {C : Addr} {f g : Str} {v u : V} {H : Hp} (o : OexC K C) (n : PySem.W.findIn K (.ref C) f = some none) (n2 : PySem.W.findIn K (.ref C) g = some none) (h : ErrsF E C [(g, u), (f, v)] H) :
    ([v, u] : List V).length ≤ 1000 ∧ ∀ a, H a = none → spIni2 K f g (.ref a :: ([v, u] ++ [])) (upd H a (exo a C none))
      (fun x H2 => x = .non ∧ ∃ (d : Addr) (fs : List (Str × V)), H2 a = some (exo a C (some d)) ∧ H2 d = some (exd d fs) ∧ H d = none ∧ E (.ref C) (some d) (upd (del H2 a) d (.xd fs))) (fun _ _ _ => False) := by
  refine ⟨(by show 2 ≤ 1000; decide), fun a ha => ⟨a, C, v, u, rfl, o, n, n2, upd_same, fun d hd hda => ⟨rfl, d, [(g, u), (f, v)], by rw [upd_ne hda.symm, upd_same], upd_same, ?_, ?_⟩⟩⟩
  · rw [upd_ne hda] at hd
    exact hd
  · rw [upd_ne hda] at hd
    refine h d _ (fun b x e => ?_) hd upd_same
    have hba : b ≠ a := ne_of_none e ha
    have hbd : b ≠ d := ne_of_none e hd
    rw [upd_ne hbd, del_ne hba, upd_ne hbd, upd_ne hba, upd_ne hbd, upd_ne hba]
    exact e
theorem scBadRing : FnScope ["self", "part"] ["self", "part"] (defScope sBadRingInit) := ⟨rfl, rfl, rfl, by decide +kernel, rfl, by decide +kernel, by decide +kernel⟩
theorem ok_badRingI {f : Addr} {fd : FuncData} (F : Fun K "__init__" "BadRing.__init__" sBadRingInit f fd) : FnOk P w K mg base CX0 1 f fd ["self", "part"] (spIni K "part") := by
  refine F.ok scBadRing (fun vs H Q E h => ?_) (fun cdv A outer s H vs Q E hr h => ?_)
  · obtain ⟨a, C, v, rfl, _⟩ := h
    rfl
  · refine ⟨_, pss_one (ps_ost (pv 0) (pv 1)), ?_⟩
    obtain ⟨a, C, v, rfl, o, n, ha, k⟩ := h
    exact ⟨_, rfl, _, rfl, a, C, rfl, o, n, .inl ⟨ha, fun d h1 h2 => k d h1 h2⟩⟩
end
end K
namespace K
open PySem L2 Rg
open Evl (pss_cut)
section
variable {P : Program} {w : World} {K : PySem.W.Frag} {mg : Str → Option Value} {base : Heap}
/-! ### a Ring made of any value -/
/-- a ring, of whose tuple of lengths nothing is known but its items -/
def RingW (K : PySem.W.Frag) (C : Addr) (H : Hp) (r : Addr) (ls : List Int) : Prop := ∃ dx t, H r = some (.ins C dx (rf t ls)) ∧ H t = some (.tup (ls.map V.int))
def RingFin (E : XK) (cR cM : Addr) (H : Hp) (ls : List Int) (k : Prop) : Prop :=
  (ls.length < 3 ∧ Errs E cR "part" (.str "bars") H) ∨ (8 < ls.length ∧ ErrsF E cM [("most", .int 8), ("what", .str "bars")] H) ∨ (3 ≤ ls.length ∧ ls.length ≤ 8 ∧ k)
def RingK (K : PySem.W.Frag) (C r : Addr) (ls : List Int) (H : Hp) (Q : VK) : Prop := ∀ H', RingW K C H' r ls → (∀ b o, H b = some o → b ≠ r → H' b = some o) → Q .non H'
theorem SqT.own {C dx r t : Addr} {fs : List (Str × V)} {H : Hp} {xs : List V} {u : HO} (h : SqT K H t xs) (hr : H r = some (.ins C dx fs)) : SqT K (upd H r u) t xs := by
  rcases h with (h | ⟨o, h⟩) | h
  · exact .inl (.inl (by rw [upd_ne fun z => by rw [z, hr] at h; cases h]; exact h))
  · exact .inl (.inr ⟨o, by rw [upd_ne fun z => by rw [z, hr] at h; cases h]; exact h⟩)
  · exact .inr h
def spRIO (K : PySem.W.Frag) (C cR : Addr) : Sp := fun vs H _ E => ∃ (r dx : Addr) (v : V) (k : String), vs = [.ref r, v] ∧ H r = some (.ins C dx []) ∧ Knd K H v k ∧ k ≠ "list" ∧ k ≠ "tuple" ∧ Errs E cR "part" (.str "lengths") H
def spRIL (K : PySem.W.Frag) (C cR cM : Addr) : Sp := fun vs H Q E => ∃ (r l dx : Addr) (xs : List V) (kf : V → String), vs = [.ref r, .ref l] ∧ H r = some (.ins C dx []) ∧ Knd K H (.ref l) "list" ∧ SqL K H l xs ∧ xs.length ≤ 1000 ∧ (∀ x ∈ xs, KndI K H x (kf x)) ∧
  (((xs.all fun x => lenB (kf x) x) = false ∧ Errs E cR "part" (.str "lengths") H) ∨ ((xs.all fun x => lenB (kf x) x) = true ∧ ∃ ls, xs = ls.map V.int ∧ RingFin E cR cM H ls (RingK K C r ls H Q)))
def spRIT (K : PySem.W.Frag) (C cR cM : Addr) : Sp := fun vs H Q E => ∃ (r l dx : Addr) (xs : List V) (kf : V → String), vs = [.ref r, .ref l] ∧ H r = some (.ins C dx []) ∧ Knd K H (.ref l) "tuple" ∧ H l = some (.tup xs) ∧ xs.length ≤ 1000 ∧ (∀ x ∈ xs, KndI K H x (kf x)) ∧
  (((xs.all fun x => lenB (kf x) x) = false ∧ Errs E cR "part" (.str "lengths") H) ∨ ((xs.all fun x => lenB (kf x) x) = true ∧ ∃ ls, xs = ls.map V.int ∧ RingFin E cR cM H ls (RingK K C r ls H Q)))
theorem ok_riO {C f fA fH cR fR cM fM : Addr} {fd fdA fdH fdR fdM : FuncData} (F : Fun K "__init__" "Ring.__init__" sRingInit f fd) (T : Bi mg) (N : Nm mg) (R : RingC K mg C) (A' : DefAt P w K mg base CX0 3 "are_lengths" ["value"] (spAreO K) fA fdA) (L : DefAt P w K mg base CX0 2 "has_level" ["lengths"] (spHasL K) fH fdH)
    (B : ErrAt P w K mg base "BadRing" "part" cR fR fdR) (M : Err2At P w K mg base "TooMany" "what" "most" cM fM fdM) : FnOk P w K mg base (L2.CX P w) 4 f fd ["self", "lengths"] (spRIO K C cR) := by
  refine F.okX scRI (fun vs H Q E h => ?_) (fun cdv A outer s H vs Q E hr h => ?_)
  · obtain ⟨r, dx, v, k, rfl, _⟩ := h
    rfl
  · obtain ⟨t3, h3⟩ := N.leastB
    obtain ⟨t8, h8⟩ := N.mostB
    have hr1 := hr.mono (show 2 ≤ 3 by decide)
    refine ⟨_, pss_cons (ps_if (pt_not (pt_val (pe_call A'.ok hr rfl A'.g A'.kp A'.b .nil pass0 (pa_cons (pv 1) pa_nil)))) (pss_one (ps_raise rfl (takes_of rfl rfl rfl rfl) (pmk_oex B.oex B.ic B.ti B.ok hr1 B.b .nil pass0 rfl B.g (pa_cons pe_str pa_nil)))) pss_nil)
      (pss_cons (ps_if (pt_cmpR op_lt (pe_callB call_len_seq (by rfl) T.len PySem.boot_len (pa_cons (pv 1) pa_nil)) (pe_glob (v := .int 3) rfl h3 ⟨_, rfl⟩) (nomark _)) (pss_one (ps_raise rfl (takes_of rfl rfl rfl rfl) (pmk_oex B.oex B.ic B.ti B.ok hr1 B.b .nil pass0 rfl B.g (pa_cons pe_str pa_nil)))) pss_nil)
      (pss_cons (ps_if (pt_cmpR op_gt (pe_callB call_len_seq (by rfl) T.len PySem.boot_len (pa_cons (pv 1) pa_nil)) (pe_glob (v := .int 8) rfl h8 ⟨_, rfl⟩) (nomark _)) (pss_one (ps_raise rfl (takes_of rfl rfl rfl rfl) (pmk_oex M.oex M.ic M.ti M.ok hr1 M.b .nil pass0 rfl M.g (pa_cons pe_str (pa_cons (pe_glob (v := .int 8) rfl h8 ⟨_, rfl⟩) pa_nil))))) pss_nil)
      (pss_cons (ps_fld (pv 0) (pe_callTy call_tuple_of (by rfl) T.tuple (by decide +kernel) (pa_cons (pv 1) pa_nil)) rfl)
      (pss_cons (ps_fld (pv 0) (pe_callB (cr_sumT rfl) (by rfl) T.sum (by decide +kernel) (pa_cons (pe_fld (pv 0) rfl) pa_nil)) rfl)
      (pss_cons (ps_fld (pv 0) (pe_cmpR op_le (pe_op op_mul pe_int (pe_callB (cr_maxT rfl) (by rfl) T.max (by decide +kernel) (pa_cons (pe_fld (pv 0) rfl) pa_nil))) (pe_fld (pv 0) rfl) (nomark _)) rfl)
      (pss_one (ps_fld (pv 0) (pe_not (pe_call L.ok (hr.mono (by decide)) rfl L.g L.kp L.b .nil pass0 (pa_cons (pe_fld (pv 0) rfl) pa_nil))) rfl))))))), ?_⟩
    obtain ⟨r, dx, v, k, rfl, hr0, hk, n1, n2, er⟩ := h
    refine ⟨_, rfl, v, k, rfl, hk, n1, n2, fun H1 s1 => ⟨_, rfl, iteT ?_⟩⟩
    exact err_made B.oex B.nf (er.later s1)
theorem ok_riL {C f fA fH cR fR cM fM : Addr} {fd fdA fdH fdR fdM : FuncData} (F : Fun K "__init__" "Ring.__init__" sRingInit f fd) (T : Bi mg) (N : Nm mg) (R : RingC K mg C) (A' : DefAt P w K mg base CX0 3 "are_lengths" ["value"] (spAreGL K) fA fdA) (L : DefAt P w K mg base CX0 2 "has_level" ["lengths"] (spHasL K) fH fdH)
    (B : ErrAt P w K mg base "BadRing" "part" cR fR fdR) (M : Err2At P w K mg base "TooMany" "what" "most" cM fM fdM) : FnOk P w K mg base (L2.CX P w) 4 f fd ["self", "lengths"] (spRIL K C cR cM) := by
  refine F.okX scRI (fun vs H Q E h => ?_) (fun cdv A outer s H vs Q E hr h => ?_)
  · obtain ⟨r, l, dx, xs, kf, rfl, _⟩ := h
    rfl
  · obtain ⟨t3, h3⟩ := N.leastB
    obtain ⟨t8, h8⟩ := N.mostB
    have hr1 := hr.mono (show 2 ≤ 3 by decide)
    refine ⟨_, pss_cons (ps_if (pt_not (pt_val (pe_call A'.ok hr rfl A'.g A'.kp A'.b .nil pass0 (pa_cons (pv 1) pa_nil)))) (pss_one (ps_raise rfl (takes_of rfl rfl rfl rfl) (pmk_oex B.oex B.ic B.ti B.ok hr1 B.b .nil pass0 rfl B.g (pa_cons pe_str pa_nil)))) pss_nil)
      (pss_cons (ps_if (pt_cmpR op_lt (pe_callB call_len_seq (by rfl) T.len PySem.boot_len (pa_cons (pv 1) pa_nil)) (pe_glob (v := .int 3) rfl h3 ⟨_, rfl⟩) (nomark _)) (pss_one (ps_raise rfl (takes_of rfl rfl rfl rfl) (pmk_oex B.oex B.ic B.ti B.ok hr1 B.b .nil pass0 rfl B.g (pa_cons pe_str pa_nil)))) pss_nil)
      (pss_cons (ps_if (pt_cmpR op_gt (pe_callB call_len_seq (by rfl) T.len PySem.boot_len (pa_cons (pv 1) pa_nil)) (pe_glob (v := .int 8) rfl h8 ⟨_, rfl⟩) (nomark _)) (pss_one (ps_raise rfl (takes_of rfl rfl rfl rfl) (pmk_oex M.oex M.ic M.ti M.ok hr1 M.b .nil pass0 rfl M.g (pa_cons pe_str (pa_cons (pe_glob (v := .int 8) rfl h8 ⟨_, rfl⟩) pa_nil))))) pss_nil)
      (pss_cons (ps_fld (pv 0) (pe_callTy call_tuple_of (by rfl) T.tuple (by decide +kernel) (pa_cons (pv 1) pa_nil)) rfl)
      (pss_cons (ps_fld (pv 0) (pe_callB (cr_sumT rfl) (by rfl) T.sum (by decide +kernel) (pa_cons (pe_fld (pv 0) rfl) pa_nil)) rfl)
      (pss_cons (ps_fld (pv 0) (pe_cmpR op_le (pe_op op_mul pe_int (pe_callB (cr_maxT rfl) (by rfl) T.max (by decide +kernel) (pa_cons (pe_fld (pv 0) rfl) pa_nil))) (pe_fld (pv 0) rfl) (nomark _)) rfl)
      (pss_one (ps_fld (pv 0) (pe_not (pe_call L.ok (hr.mono (by decide)) rfl L.g L.kp L.b .nil pass0 (pa_cons (pe_fld (pv 0) rfl) pa_nil))) rfl))))))), ?_⟩
    obtain ⟨r, l, dx, xs, kf, rfl, hr0, hk, hs, hl, hx, h⟩ := h
    refine ⟨_, rfl, l, xs, kf, rfl, hk, hs, hl, hx, fun H1 s1 => ⟨_, rfl, ?_⟩⟩
    rcases h with ⟨ea, er⟩ | ⟨ea, ls, rfl, fin⟩
    · rw [ea]
      exact iteT (err_made B.oex B.nf (er.later s1))
    rw [ea]
    refine iteF ?_
    have hs1 := s1.seq hs
    refine ⟨_, rfl, l, _, rfl, .inl hs1, _, _, rfl, rfl, _, rfl, ?_⟩
    rw [List.length_map]
    rcases fin with ⟨c3, er⟩ | fin
    · exact iteDT (by omega) (err_made B.oex B.nf (er.later s1))
    have l3 : 3 ≤ ls.length := by
      rcases fin with ⟨c8, _⟩ | ⟨c3, _⟩ <;> omega
    refine iteDF (by omega) ?_
    refine ⟨_, rfl, l, _, rfl, .inl hs1, _, _, rfl, rfl, _, rfl, ?_⟩
    rw [List.length_map]
    rcases fin with ⟨c8, er⟩ | ⟨_, c8, q⟩
    · refine iteDT (by omega) ?_
      exact err_made2 M.oex M.nf M.ng (fun d H' s n e => er d H' (s1.trans s) (s1.free n) e)
    refine iteDF (by omega) ?_
    have hr1' := s1 _ _ hr0
    have kp1 : ∀ b o, H b = some o → b ≠ r → H1 b = some o := fun b o e _ => s1 b o e
    refine ⟨_, rfl, l, _, rfl, .inl ⟨hs1, fun t ht => ?_⟩⟩
    have nrt : r ≠ t := ne_of_none hr1' ht
    have hrn : upd H1 t (.tup (ls.map V.int)) r = some (.ins C dx []) := by rw [upd_ne nrt]; exact hr1'
    have hsn : upd H1 t (.tup (ls.map V.int)) t = some (.tup (ls.map V.int)) := upd_same
    have kpn : ∀ b o, H b = some o → b ≠ r → upd H1 t (.tup (ls.map V.int)) b = some o := fun b o e n => by
      rw [upd_ne (ne_of_none (s1 b o e) ht)]
      exact s1 b o e
    generalize upd H1 t (.tup (ls.map V.int)) = Hn at hrn hsn kpn ⊢
    have ntr : t ≠ r := fun z => by rw [z, hrn] at hsn; cases hsn
    have sqt : ∀ u, upd Hn r u t = some (.tup (ls.map V.int)) := fun u => by rw [upd_ne ntr]; exact hsn
    have sq : ∀ u, SqT K (upd Hn r u) t (ls.map V.int) := fun u => .inl (.inl (sqt u))
    refine ⟨_, rfl, r, C, dx, [], rfl, hrn, R.cl, R.nL, (by show 0 < 1000; decide), ?_⟩
    refine ⟨_, rfl, r, C, dx, _, _, rfl, upd_same, R.cl, R.nL, (by rw [lookup_putF, if_pos rfl]), t, ls, rfl, sq _, _, rfl, r, C, dx, _, rfl, upd_same, R.cl, R.nT, (by show 1 < 1000; decide), ?_⟩
    rw [upd_upd]
    refine ⟨_, rfl, r, C, dx, _, _, rfl, upd_same, R.cl, R.nL, (by rw [lookup_putF, if_neg n1, lookup_putF, if_pos rfl]), t, ls, rfl, sq _, by omega, fun m hm hx => ?_⟩
    refine ⟨_, _, rfl, rfl, .inl ⟨by decide, by decide⟩, _, rfl, r, C, dx, _, _, rfl, upd_same, R.cl, R.nT, (by rw [lookup_putF, if_pos rfl]), _, _, rfl, rfl, _, rfl, r, C, dx, _, rfl, upd_same, R.cl, R.nC, ?_, ?_⟩
    · have e1 := length_putF "total" (V.int ls.sum) (putF "lengths" (V.ref t) [])
      have e2 := length_putF "lengths" (V.ref t) []
      simp only [List.length_nil] at e2
      omega
    dsimp only
    rw [upd_upd, closes_max hm hx]
    refine ⟨_, rfl, r, C, dx, _, _, rfl, upd_same, R.cl, R.nL, (by rw [lookup_putF, if_neg n2, lookup_putF, if_neg n1, lookup_putF, if_pos rfl]), t, ls, rfl, sq _, c8, fun H5 s5 => ⟨_, rfl, _, rfl, r, C, dx, _, rfl, s5 _ _ upd_same, R.cl, R.nI, ?_, ?_⟩⟩
    · have e1 := length_putF "total" (V.int ls.sum) (putF "lengths" (V.ref t) [])
      have e2 := length_putF "lengths" (V.ref t) []
      have e3 := length_putF "closes" (V.bl (closesB ls)) (putF "total" (V.int ls.sum) (putF "lengths" (V.ref t) []))
      simp only [List.length_nil] at e2
      omega
    · refine q _ ⟨dx, t, upd_same, by rw [upd_ne ntr]; exact s5 _ _ (sqt _)⟩ fun b o e hbr => ?_
      rw [upd_ne hbr]
      refine s5 _ _ ?_
      rw [upd_ne hbr]
      exact kpn b o e hbr
theorem ok_riT {C f fA fH cR fR cM fM : Addr} {fd fdA fdH fdR fdM : FuncData} (F : Fun K "__init__" "Ring.__init__" sRingInit f fd) (T : Bi mg) (N : Nm mg) (R : RingC K mg C) (A' : DefAt P w K mg base CX0 3 "are_lengths" ["value"] (spAreGT K) fA fdA) (L : DefAt P w K mg base CX0 2 "has_level" ["lengths"] (spHasL K) fH fdH)
    (B : ErrAt P w K mg base "BadRing" "part" cR fR fdR) (M : Err2At P w K mg base "TooMany" "what" "most" cM fM fdM) : FnOk P w K mg base (L2.CX P w) 4 f fd ["self", "lengths"] (spRIT K C cR cM) := by
  refine F.okX scRI (fun vs H Q E h => ?_) (fun cdv A outer s H vs Q E hr h => ?_)
  · obtain ⟨r, l, dx, xs, kf, rfl, _⟩ := h
    rfl
  · obtain ⟨t3, h3⟩ := N.leastB
    obtain ⟨t8, h8⟩ := N.mostB
    have hr1 := hr.mono (show 2 ≤ 3 by decide)
    refine ⟨_, pss_cons (ps_if (pt_not (pt_val (pe_call A'.ok hr rfl A'.g A'.kp A'.b .nil pass0 (pa_cons (pv 1) pa_nil)))) (pss_one (ps_raise rfl (takes_of rfl rfl rfl rfl) (pmk_oex B.oex B.ic B.ti B.ok hr1 B.b .nil pass0 rfl B.g (pa_cons pe_str pa_nil)))) pss_nil)
      (pss_cons (ps_if (pt_cmpR op_lt (pe_callB call_len_seq (by rfl) T.len PySem.boot_len (pa_cons (pv 1) pa_nil)) (pe_glob (v := .int 3) rfl h3 ⟨_, rfl⟩) (nomark _)) (pss_one (ps_raise rfl (takes_of rfl rfl rfl rfl) (pmk_oex B.oex B.ic B.ti B.ok hr1 B.b .nil pass0 rfl B.g (pa_cons pe_str pa_nil)))) pss_nil)
      (pss_cons (ps_if (pt_cmpR op_gt (pe_callB call_len_seq (by rfl) T.len PySem.boot_len (pa_cons (pv 1) pa_nil)) (pe_glob (v := .int 8) rfl h8 ⟨_, rfl⟩) (nomark _)) (pss_one (ps_raise rfl (takes_of rfl rfl rfl rfl) (pmk_oex M.oex M.ic M.ti M.ok hr1 M.b .nil pass0 rfl M.g (pa_cons pe_str (pa_cons (pe_glob (v := .int 8) rfl h8 ⟨_, rfl⟩) pa_nil))))) pss_nil)
      (pss_cons (ps_fld (pv 0) (pe_callTy call_tuple_of (by rfl) T.tuple (by decide +kernel) (pa_cons (pv 1) pa_nil)) rfl)
      (pss_cons (ps_fld (pv 0) (pe_callB (cr_sumT rfl) (by rfl) T.sum (by decide +kernel) (pa_cons (pe_fld (pv 0) rfl) pa_nil)) rfl)
      (pss_cons (ps_fld (pv 0) (pe_cmpR op_le (pe_op op_mul pe_int (pe_callB (cr_maxT rfl) (by rfl) T.max (by decide +kernel) (pa_cons (pe_fld (pv 0) rfl) pa_nil))) (pe_fld (pv 0) rfl) (nomark _)) rfl)
      (pss_one (ps_fld (pv 0) (pe_not (pe_call L.ok (hr.mono (by decide)) rfl L.g L.kp L.b .nil pass0 (pa_cons (pe_fld (pv 0) rfl) pa_nil))) rfl))))))), ?_⟩
    obtain ⟨r, l, dx, xs, kf, rfl, hr0, hk, hs, hl, hx, h⟩ := h
    refine ⟨_, rfl, l, xs, kf, rfl, hk, .inl (.inl hs), hl, hx, fun H1 s1 => ⟨_, rfl, ?_⟩⟩
    rcases h with ⟨ea, er⟩ | ⟨ea, ls, rfl, fin⟩
    · rw [ea]
      exact iteT (err_made B.oex B.nf (er.later s1))
    rw [ea]
    refine iteF ?_
    have hs1t := s1 _ _ hs
    have hs1 : SqT K H1 l (ls.map V.int) := .inl (.inl hs1t)
    refine ⟨_, rfl, l, _, rfl, .inr hs1, _, _, rfl, rfl, _, rfl, ?_⟩
    rw [List.length_map]
    rcases fin with ⟨c3, er⟩ | fin
    · exact iteDT (by omega) (err_made B.oex B.nf (er.later s1))
    have l3 : 3 ≤ ls.length := by
      rcases fin with ⟨c8, _⟩ | ⟨c3, _⟩ <;> omega
    refine iteDF (by omega) ?_
    refine ⟨_, rfl, l, _, rfl, .inr hs1, _, _, rfl, rfl, _, rfl, ?_⟩
    rw [List.length_map]
    rcases fin with ⟨c8, er⟩ | ⟨_, c8, q⟩
    · refine iteDT (by omega) ?_
      exact err_made2 M.oex M.nf M.ng (fun d H' s n e => er d H' (s1.trans s) (s1.free n) e)
    refine iteDF (by omega) ?_
    have hr1' := s1 _ _ hr0
    have kp1 : ∀ b o, H b = some o → b ≠ r → H1 b = some o := fun b o e _ => s1 b o e
    refine ⟨_, rfl, l, _, rfl, .inr ⟨hs1, ?_⟩⟩
    obtain ⟨t, et⟩ : ∃ t, t = l := ⟨_, rfl⟩
    subst et
    have hrn := hr1'
    have hsn := hs1t
    have kpn := kp1
    generalize H1 = Hn at hrn hsn kpn ⊢
    have ntr : t ≠ r := fun z => by rw [z, hrn] at hsn; cases hsn
    have sqt : ∀ u, upd Hn r u t = some (.tup (ls.map V.int)) := fun u => by rw [upd_ne ntr]; exact hsn
    have sq : ∀ u, SqT K (upd Hn r u) t (ls.map V.int) := fun u => .inl (.inl (sqt u))
    refine ⟨_, rfl, r, C, dx, [], rfl, hrn, R.cl, R.nL, (by show 0 < 1000; decide), ?_⟩
    refine ⟨_, rfl, r, C, dx, _, _, rfl, upd_same, R.cl, R.nL, (by rw [lookup_putF, if_pos rfl]), t, ls, rfl, sq _, _, rfl, r, C, dx, _, rfl, upd_same, R.cl, R.nT, (by show 1 < 1000; decide), ?_⟩
    rw [upd_upd]
    refine ⟨_, rfl, r, C, dx, _, _, rfl, upd_same, R.cl, R.nL, (by rw [lookup_putF, if_neg n1, lookup_putF, if_pos rfl]), t, ls, rfl, sq _, by omega, fun m hm hx => ?_⟩
    refine ⟨_, _, rfl, rfl, .inl ⟨by decide, by decide⟩, _, rfl, r, C, dx, _, _, rfl, upd_same, R.cl, R.nT, (by rw [lookup_putF, if_pos rfl]), _, _, rfl, rfl, _, rfl, r, C, dx, _, rfl, upd_same, R.cl, R.nC, ?_, ?_⟩
    · have e1 := length_putF "total" (V.int ls.sum) (putF "lengths" (V.ref t) [])
      have e2 := length_putF "lengths" (V.ref t) []
      simp only [List.length_nil] at e2
      omega
    dsimp only
    rw [upd_upd, closes_max hm hx]
    refine ⟨_, rfl, r, C, dx, _, _, rfl, upd_same, R.cl, R.nL, (by rw [lookup_putF, if_neg n2, lookup_putF, if_neg n1, lookup_putF, if_pos rfl]), t, ls, rfl, sq _, c8, fun H5 s5 => ⟨_, rfl, _, rfl, r, C, dx, _, rfl, s5 _ _ upd_same, R.cl, R.nI, ?_, ?_⟩⟩
    · have e1 := length_putF "total" (V.int ls.sum) (putF "lengths" (V.ref t) [])
      have e2 := length_putF "lengths" (V.ref t) []
      have e3 := length_putF "closes" (V.bl (closesB ls)) (putF "total" (V.int ls.sum) (putF "lengths" (V.ref t) []))
      simp only [List.length_nil] at e2
      omega
    · refine q _ ⟨dx, t, upd_same, by rw [upd_ne ntr]; exact s5 _ _ (sqt _)⟩ fun b o e hbr => ?_
      rw [upd_ne hbr]
      refine s5 _ _ ?_
      rw [upd_ne hbr]
      exact kpn b o e hbr
end
end K
namespace K
open PySem L2 Rg
open Evl (pss_cut)
section
variable {P : Program} {w : World} {K : PySem.W.Frag} {mg : Str → Option Value} {base : Heap}
/-- the errors that a Ring of integers may raise -/
structure Rs where
  r : Addr
  m : Addr
def RingRes (E : XK) (c : Rs) (H : Hp) (ls : List Int) (k : Prop) : Prop :=
  ((¬ Bd 1000000 ls) ∧ Errs E c.r "part" (.str "lengths") H) ∨ (Bd 1000000 ls ∧ ls.length < 3 ∧ Errs E c.r "part" (.str "bars") H) ∨ (Bd 1000000 ls ∧ 8 < ls.length ∧ ErrsF E c.m [("most", .int 8), ("what", .str "bars")] H) ∨ (Bd 1000000 ls ∧ 3 ≤ ls.length ∧ ls.length ≤ 8 ∧ k)
theorem lenB_bd (ls : List Int) : ((ls.map V.int).all fun x => lenB "int" x) = true ↔ Bd 1000000 ls := by
  rw [List.all_map, List.all_eq_true]
  constructor
  · intro h x hx
    have := h x hx
    simp [lenB, winB] at this
    exact this
  · intro h x hx
    have := h x hx
    simp [lenB, winB]
    exact this
def SqE (H : Hp) (l : Addr) (xs : List V) : Prop := H l = some (.lst xs) ∨ H l = some (.tup xs)
theorem SqE.same {H H' : Hp} {l : Addr} {xs : List V} (h : SqE H l xs) (s : Same H H') : SqE H' l xs := h.imp (s _ _) (s _ _)
def spRX (K : PySem.W.Frag) (C : Addr) (c : Rs) : Sp := fun vs H Q E => ∃ (r l dx : Addr) (ls : List Int), vs = [.ref r, .ref l] ∧ H r = some (.ins C dx []) ∧ SqE H l (ls.map V.int) ∧ ls.length ≤ 1000 ∧ RingRes E c H ls (RingK K C r ls H Q)
theorem ring_fin {E : XK} {c : Rs} {H : Hp} {ls : List Int} {k : List Int → Prop} (h : RingRes E c H ls (k ls)) : ((((ls.map V.int).all fun x => lenB "int" x) = false ∧ Errs E c.r "part" (.str "lengths") H) ∨ (((ls.map V.int).all fun x => lenB "int" x) = true ∧ ∃ ms, ls.map V.int = ms.map V.int ∧ RingFin E c.r c.m H ms (k ms))) := by
  rcases h with ⟨nb, e⟩ | ⟨b, l, e⟩ | ⟨b, l, e⟩ | ⟨b, l, l', e⟩
  · refine .inl ⟨?_, e⟩
    cases z : ((ls.map V.int).all fun x => lenB "int" x) with
    | false => rfl
    | true => exact absurd ((lenB_bd ls).mp z) nb
  · exact .inr ⟨(lenB_bd ls).mpr b, ls, rfl, .inl ⟨l, e⟩⟩
  · exact .inr ⟨(lenB_bd ls).mpr b, ls, rfl, .inr (.inl ⟨l, e⟩)⟩
  · exact .inr ⟨(lenB_bd ls).mpr b, ls, rfl, .inr (.inr ⟨l, l', e⟩)⟩
theorem ok_rx {CX : CXT} {k : Nat} {C f : Addr} {fd : FuncData} {c : Rs} (FL : FnOk P w K mg base CX k f fd ["self", "lengths"] (spRIL K C c.r c.m)) (FT : FnOk P w K mg base CX k f fd ["self", "lengths"] (spRIT K C c.r c.m)) : FnOk P w K mg base CX k f fd ["self", "lengths"] (spRX K C c) := by
  refine (fn_or FL FT).imp fun vs H Q E ⟨r, l, dx, ls, hv, hr, hs, hl, h⟩ => ?_
  subst hv
  have kn : ∀ x ∈ ls.map V.int, KndI K H x ((fun _ => "int") x) := fun x hx => by
    obtain ⟨z, _, rfl⟩ := List.mem_map.mp hx
    exact ⟨Knd.int, fun _ => ⟨z, rfl⟩⟩
  rcases hs with hs | hs
  · exact .inl ⟨r, l, dx, ls.map V.int, fun _ => "int", rfl, hr, ⟨.base (.lst hs), by decide⟩, SqL.of hs, by rw [List.length_map]; exact hl, kn, ring_fin (k := fun ms => RingK K C r ms H Q) h⟩
  · exact .inr ⟨r, l, dx, ls.map V.int, fun _ => "int", rfl, hr, ⟨.base (.tup hs), by decide⟩, hs, by rw [List.length_map]; exact hl, kn, ring_fin (k := fun ms => RingK K C r ms H Q) h⟩
theorem RingRes.imp {E : XK} {c : Rs} {H : Hp} {ls : List Int} {k k' : Prop} (h : RingRes E c H ls k) (i : k → k') : RingRes E c H ls k' := by
  rcases h with z | z | z | ⟨b, l, l', e⟩
  · exact .inl z
  · exact .inr (.inl z)
  · exact .inr (.inr (.inl z))
  · exact .inr (.inr (.inr ⟨b, l, l', i e⟩))
theorem ErrsF.later {E : XK} {C : Addr} {fs : List (Str × V)} {H H1 : Hp} (h : ErrsF E C fs H) (s : Same H H1) : ErrsF E C fs H1 := fun d H' s' n e => h d H' (s.trans s') (s.free n) e
theorem RingRes.later {E : XK} {c : Rs} {H H1 : Hp} {ls : List Int} {k : Prop} (h : RingRes E c H ls k) (s : Same H H1) : RingRes E c H1 ls k := by
  rcases h with ⟨b, z⟩ | ⟨b, l, z⟩ | ⟨b, l, z⟩ | z
  · exact .inl ⟨b, z.later s⟩
  · exact .inr (.inl ⟨b, l, z.later s⟩)
  · exact .inr (.inr (.inl ⟨b, l, z.later s⟩))
  · exact .inr (.inr (.inr z))
theorem RingRes.fine {E : XK} {c : Rs} {H : Hp} {ls : List Int} {k : Prop} (b : Bd 1000000 ls) (l3 : 3 ≤ ls.length) (l8 : ls.length ≤ 8) (h : k) : RingRes E c H ls k := .inr (.inr (.inr ⟨b, l3, l8, h⟩))
theorem RingW.same {C : Addr} {H H' : Hp} {r : Addr} {ls : List Int} (h : RingW K C H r ls) (s : Same H H') : RingW K C H' r ls := by
  obtain ⟨dx, t, h1, h2⟩ := h
  exact ⟨dx, t, s _ _ h1, s _ _ h2⟩
theorem RingW.but {C p : Addr} {H H' : Hp} {r : Addr} {ls : List Int} {ys : List V} (h : RingW K C H r ls) (b : But p H H') (hp : H p = some (.lst ys)) : RingW K C H' r ls := by
  obtain ⟨dx, t, h1, h2⟩ := h
  exact ⟨dx, t, b _ _ (fun z => by rw [z, hp] at h1; cases h1) h1, b _ _ (fun z => by rw [z, hp] at h2; cases h2) h2⟩
theorem RingW.at_ {C : Addr} {H : Hp} {r : Addr} {ls : List Int} (h : RingW K C H r ls) : ∃ dx fs, H r = some (.ins C dx fs) := by
  obtain ⟨dx, t, h1, h2⟩ := h
  exact ⟨dx, _, h1⟩
/-- a new ring is told, all that was tracked stands -/
def NewRing (K : PySem.W.Frag) (C : Addr) (ls : List Int) (H : Hp) (Q : VK) : Prop := ∀ r H', RingW K C H' r ls → Same H H' → H r = none → Q (.ref r) H'
theorem NewRing.later {C : Addr} {ls : List Int} {H H1 : Hp} {Q : VK} (h : NewRing K C ls H Q) (s : Same H H1) : NewRing K C ls H1 Q := fun r H' a b c => h r H' a (s.trans b) (s.free c)
/-- what the making of a Ring asks, from what is promised of it -/
theorem made {C l : Addr} {c : Rs} {E : XK} {H : Hp} {ls : List Int} {Q : VK} (hs : SqE H l (ls.map V.int)) (hl : ls.length ≤ 1000) (h : RingRes E c H ls (NewRing K C ls H Q)) :
    ∀ x dx, H x = none → H dx = none → dx ≠ x → spRX K C c (.ref x :: ([.ref l] ++ [])) (upd (upd H dx (.own x)) x (.ins C dx [])) (fun v H2 => v = .non ∧ Q (.ref x) H2) E := by
  intro x dx hx hdx _
  have s0 : Same H (upd (upd H dx (.own x)) x (.ins C dx [])) := fun b o q => by
    rw [upd_ne (ne_of_none q hx), upd_ne (ne_of_none q hdx)]
    exact q
  refine ⟨x, l, dx, ls, rfl, upd_same, hs.same s0, hl, (h.later s0).imp fun q H' ring kp => ⟨rfl, q x H' ring (fun b o e => kp b o (s0 b o e) (ne_of_none e hx)) hx⟩⟩
/-- t[lo:hi] -/
theorem slA {a : Addr} {xs : List V} {lo hi : Option Int} {H : Hp} {Q : VK} (hs : H a = some (.tup xs)) (k : ∀ t H', H' t = some (.tup (cutV xs lo hi)) → Same H H' → Q (.ref t) H') : rSlA K (.ref a) lo hi H Q := by
  refine ⟨a, xs, rfl, .inl (.inl hs), fun ⟨e1, e2⟩ => k a H ?_ (Same.refl H), fun _ p hp => k p _ upd_same ((Same.refl H).new hp)⟩
  unfold cutV
  rw [e1, e2, List.drop_zero, Nat.sub_zero, List.take_length]
  exact hs
theorem catA {a b : Addr} {xs ys : List V} {H : Hp} {Q : VK} (ha : H a = some (.tup xs)) (hb : H b = some (.tup ys)) (hl : xs.length + ys.length ≤ 1000) (k : ∀ t H', H' t = some (.tup (xs ++ ys)) → Same H H' → Q (.ref t) H') : rCatA K (.ref a) (.ref b) H Q := by
  refine ⟨a, b, xs, ys, rfl, rfl, .inl (.inl ha), .inl (.inl hb), Nat.le_of_lt (sm (by omega)), fun e => k b H ?_ (Same.refl H), fun _ e => k a H ?_ (Same.refl H), fun _ _ p hp => k p _ upd_same ((Same.refl H).new hp)⟩
  · rw [e]; exact hb
  · rw [e, List.append_nil]; exact ha
end
end K
namespace K
open PySem L2 Rg
open Evl (pss_cut)
/-! ### lists -/
theorem Bd.app {m : Int} {a b : List Int} (h : Bd m a) (k : Bd m b) : Bd m (a ++ b) := fun x hx => (List.mem_append.mp hx).elim (h x) (k x)
theorem Bd.take {m : Int} {a : List Int} (i : Nat) (h : Bd m a) : Bd m (a.take i) := fun x hx => h x (List.mem_of_mem_take hx)
theorem Bd.drop {m : Int} {a : List Int} (i : Nat) (h : Bd m a) : Bd m (a.drop i) := fun x hx => h x (List.mem_of_mem_drop hx)
theorem Bd.rev {m : Int} {a : List Int} (h : Bd m a) : Bd m a.reverse := fun x hx => h x (List.mem_reverse.mp hx)
theorem Bd.one {m x : Int} (h1 : 1 ≤ x) (h2 : x ≤ m) : Bd m [x] := fun y hy => by rw [List.mem_singleton.mp hy]; exact ⟨h1, h2⟩
theorem getD_mem {ls : List Int} {i : Nat} (h : i < ls.length) : ls.getD i 0 ∈ ls := by
  rw [List.getD_eq_getElem?_getD, List.getElem?_eq_getElem h]
  exact List.getElem_mem h
theorem Bd.get {m : Int} {ls : List Int} (h : Bd m ls) {i : Nat} (hi : i < ls.length) : 1 ≤ ls.getD i 0 ∧ ls.getD i 0 ≤ m := h _ (getD_mem hi)
theorem cut_from (xs : List V) {z : Int} {k : Nat} (hz : z = (k : Int)) : cutV xs (some z) none = xs.drop k := by
  subst hz
  unfold cutV
  rw [HT.sIx_nat, HT.sIx_none]
  by_cases h : k ≤ xs.length
  · rw [Nat.min_eq_left h, List.take_of_length_le (by rw [List.length_drop]; omega)]
  · rw [Nat.min_eq_right (by omega), List.drop_eq_nil_of_le (Nat.le_refl _), List.drop_eq_nil_of_le (show xs.length ≤ k by omega), List.take_nil]
theorem cut_mid (xs : List V) {z w : Int} {j k : Nat} (hz : z = (j : Int)) (hw : w = (k : Int)) (hj : j ≤ xs.length) (hk : k ≤ xs.length) : cutV xs (some z) (some w) = (xs.drop j).take (k - j) := by
  subst hz hw
  unfold cutV
  rw [HT.sIx_nat, HT.sIx_nat, Nat.min_eq_left hj, Nat.min_eq_left hk]
theorem getL {ls : List Int} {z : Int} {i : Nat} (hz : z = (i : Int)) (h1 : i < ls.length) : atI (ls.map V.int) z = some (V.int (ls.getD i 0)) := by
  subst hz
  have h : (ls.map V.int)[i]? = some (V.int (ls.getD i 0)) := by rw [int_get h1, List.getD_eq_getElem?_getD, List.getElem?_eq_getElem h1]; rfl
  exact atI_nat h
theorem win_int {lo hi i : Int} (h1 : lo ≤ i) (h2 : i ≤ hi) : winB "int" lo hi (.int i) = true := by simp [winB, h1, h2]
section
variable {P : Program} {w : World} {K : PySem.W.Frag} {mg : Str → Option Value} {base : Heap}
theorem sl_to {a : Addr} {ls : List Int} {z : Int} {i : Nat} {H : Hp} {Q : VK} (hs : H a = some (.tup (ls.map V.int))) (hz : z = (i : Int)) (k : ∀ t H', H' t = some (.tup ((ls.take i).map V.int)) → Same H H' → Q (.ref t) H') : rSlA K (.ref a) none (some z) H Q := by
  subst hz
  refine slA hs fun t H' h s => k t H' ?_ s
  rw [h, cutV_to, List.map_take]
theorem sl_from {a : Addr} {ls : List Int} {z : Int} {i : Nat} {H : Hp} {Q : VK} (hs : H a = some (.tup (ls.map V.int))) (hz : z = (i : Int)) (k : ∀ t H', H' t = some (.tup ((ls.drop i).map V.int)) → Same H H' → Q (.ref t) H') : rSlA K (.ref a) (some z) none H Q := by
  refine slA hs fun t H' h s => k t H' ?_ s
  rw [h, cut_from _ hz, List.map_drop]
theorem sl_mid {a : Addr} {ls : List Int} {z w : Int} {i j : Nat} {H : Hp} {Q : VK} (hs : H a = some (.tup (ls.map V.int))) (hz : z = (i : Int)) (hw : w = (j : Int)) (hi : i ≤ ls.length) (hj : j ≤ ls.length) (k : ∀ t H', H' t = some (.tup (((ls.drop i).take (j - i)).map V.int)) → Same H H' → Q (.ref t) H') : rSlA K (.ref a) (some z) (some w) H Q := by
  refine slA hs fun t H' h s => k t H' ?_ s
  rw [h, cut_mid _ hz hw (by rw [List.length_map]; exact hi) (by rw [List.length_map]; exact hj), List.map_take, List.map_drop]
theorem catI {a b : Addr} {xs ys : List Int} {H : Hp} {Q : VK} (ha : H a = some (.tup (xs.map V.int))) (hb : H b = some (.tup (ys.map V.int))) (hl : xs.length + ys.length ≤ 1000) (k : ∀ t H', H' t = some (.tup ((xs ++ ys).map V.int)) → Same H H' → Q (.ref t) H') : rCatA K (.ref a) (.ref b) H Q := by
  refine catA ha hb (by rw [List.length_map, List.length_map]; exact hl) fun t H' h s => k t H' ?_ s
  rw [h, List.map_append]
end
end K
namespace Rg
open PySem PySem.Spec PyProof.Rows L2
/-! ### str(oj), the instance's own __str__ -/
section
variable {X : Cx} {k : Nat} {f : Addr} {fd : FuncData} {sp : Sp}
def rStrO (K : PySem.W.Frag) (f : Addr) (sp : Sp) : List V → Hp → VK → Prop := fun vxs Hh Qq => ∃ a C dx fs, vxs = [.ref a] ∧ Hh a = some (.ins C dx fs) ∧ PySem.W.findIn K (.ref C) "__str__" = some (some (.ref f)) ∧ PySem.W.isFn K (.ref f) = true ∧
  sp [.ref a] Hh (fun v H' => ∃ y : Str, v = .str y ∧ Qq (.str y) H') E0
theorem call_strO (F : FnOk X.prog X.w X.K X.mg X.base CX0 k f fd ["self"] sp) (hr : Room (k + 2) X.A) (hb : Binds X.K fd ["self"] []) : CallR X (.type "str") (rStrO X.K f sp) := by
  intro pns s σs Hh vxs uvs Qq Iv r h
  obtain ⟨a, C, dx, fs, rfl, eqa, hs, hf, qq⟩ := h
  obtain ⟨u, rfl, rlu⟩ := vals1 r
  obtain rfl : u = Value.ref a := rlu
  obtain ⟨mA, O, _, _, _, _⟩ := ins_get Iv.hok eqa
  obtain ⟨od, hod⟩ : ∃ od, s.heap.get? dx = some od := let ⟨oj, _, _, e', _⟩ := O.ns; ⟨oj, e'⟩
  have hu := hr.units
  refine PySem.W.kso_call (K := X.K) (ox := PySem.W.instObj C dx) (C := C) (od := some od) (by show X.A.units + 1 + 1 < cLine; omega) Iv.kIn ⟨O.obj, rfl, rfl, hod⟩ hs hf ?_
  have hlst : ([Value.ref a] ++ []).length = (["self"] : List Str).length := rfl
  refine wpAny_call (codeAny_mono (F.run X.A.in1.in1 X.stack s Hh ⟨[.ref a], []⟩ [.ref a] [.ref a] _ E0 hr.in1.in1 Iv.env0.in1.in1 (hb s [.ref a] Iv.kIn hlst) (.cons rfl .nil) qq) fun r s' hsq => ?_)
  cases r with
  | error e => exact hsq.elim
  | ok fl =>
    cases fl with
    | ret u =>
      obtain ⟨v, H', I3, rlv, y, ev, q3⟩ := Iv.after hsq
      subst ev
      obtain ⟨t, rfl⟩ := rlv
      exact ⟨.str y, H', I3, ⟨t, rfl⟩, q3⟩
    | next => exact False.elim hsq
    | brk => exact False.elim hsq
    | cont => exact False.elim hsq
end

/-! ### C.m(e, ..), C.m(k = v), m a staticmethod of the class C -/
structure SMet (K : PySem.W.Frag) (C : Addr) (mc : Value) (m : Str) (p g : Addr) : Prop where
  at_ : PySem.W.findCls K (.ref C) mc m = some (.get (.builtin "staticmethod.__get__") (.ref p) .none (.ref C))
  rc : ∃ rest, PySem.W.recIn K p "staticmethod" = some (.ref g :: rest)
  kp : PySem.W.keepIn K (.ref g) = true
section
variable {X : Cx} {pins : List (Addr × Obj)} {σ : L2.St} {H : Hp} {s : Shared} {C p g : Addr} {mc : Value} {m : Str} {A : Around} {E : Value → Shared → Prop}
theorem smeth_ok {pl : Sem Bool} {Q : Value × List Value → Shared → Prop} (Iv : Inv X pins σ H s) (r : ClX.CRead X.K C mc) (k : SMet X.K C mc m p g)
    (h : ∀ s', Inv X pins σ H s' → Q (.ref g, []) s') : wpAny (model X.prog X.w) A (getMethod (.ref C) m pl) Q E s := by
  obtain ⟨rest, hp⟩ := k.rc
  refine PySem.W.method_cls Iv.kIn r.ga ?_
  refine PySem.W.cls_bind Iv.kIn r.rd k.at_ ?_
  refine wpAny_call (PySem.W.sm_get (s := { s with toks := s.toks + 1 }) Iv.kIn hp (PySem.W.handed_on rfl ?_))
  exact h _ (Iv.tok _)
end
def tSMeth (C : Addr) (sp : Sp) (E : XK) (ta : TE) (t : TA) : TE := fun σs Hh Qq => ta σs Hh fun x H1 => x = .ref C ∧ t σs H1 fun vs H2 => sp vs H2 Qq E
def tSMethK (C : Addr) (sp : Sp) (gV : List V → List V → List V) (E : XK) (ta : TE) (tkn : TA) : TE := fun σs Hh Qq => ta σs Hh fun x H1 => x = .ref C ∧ tkn σs H1 fun zvs H2 => sp (gV [] zvs) H2 Qq E
section
variable {X : Cx} {CX : CXT} {k : Nat} {C p g : Addr} {mc : Value} {fd : FuncData} {ps ks : List Str} {sp : Sp} {E : XK} {oj e : Expr} {es : List Expr} {m : Str} {pos apos : Pos} {ta : TE} {t tkn : TA} {kws : List Keyword}
variable {gg : List Value → List Value → List Value} {gV : List V → List V → List V}
theorem pe_smeth {pl : Sem Bool} (he : PE X oj ta) (r : ClX.CRead X.K C mc) (c : SMet X.K C mc m p g) (F : FnOk X.prog X.w X.K X.mg X.base CX k g fd ps sp) (hr : Room k X.A) (hb : Binds X.K fd ps []) (hx : Passes CX X E) (ha : PA X (e :: es) t)
    (hst : starEach (e :: es) X.env = (false, eval e X.env) :: starEach es X.env := by rfl) (hpl : (backTo pos (starEach es X.env)).any (·.1) = false := by rfl)
    (ht : eval (.Call (.Attribute oj m apos) (e :: es) [] pos) X.env = (do
      let ov ← eval oj X.env
      standAt apos.atName
      let (f, first) ← holding [ov] (getMethod ov m pl)
      callWith pos f first (backTo pos (starEach (e :: es) X.env)) (backToKw pos (keywordEach [] X.env))) := by rfl) :
    PE X (.Call (.Attribute oj m apos) (e :: es) [] pos) (tSMeth C sp E ta t) := by
  refine ⟨fun pns s σs Hh Qq Iv h => ?_⟩
  refine PySem.W.methodCall_KW (pl := pl) (thn (he.run pns s σs Hh _ Iv h) fun u sh1 ⟨x, H1, I1, rlx, ex, qq⟩ => ?_) ht
  subst ex
  obtain rfl : u = Value.ref C := rlx
  refine smeth_ok I1 r c fun sh2 I2 => ?_
  refine PySem.W.callWith_K (first := []) (h₀ := X.base) Iv.ok.mod.kin c.kp (thn (ha.run pos pns sh2 σs H1 _ I2 qq) fun us sh3 ⟨vs, H2, I3, rlv, q2⟩ => ⟨I3.kIn, ?_⟩) hst hpl
  exact run_fn F hr hb .nil hx I3 rlv (by rw [List.append_nil]; exact q2)
theorem pe_smethK {pl : Sem Bool} (he : PE X oj ta) (r : ClX.CRead X.K C mc) (c : SMet X.K C mc m p g) (F : FnOk X.prog X.w X.K X.mg X.base CX k g fd ps sp) (hr : Room k X.A) (hb : KBinds X.K fd ps ks gg gV) (hx : Passes CX X E)
    (hkw : PK X kws tkn) (hall : (backToKw pos (keywordEach kws X.env)).all (·.1.isSome) = true := by rfl) (hks : (backToKw pos (keywordEach kws X.env)).filterMap (·.1) = ks := by rfl)
    (hpl : ((backTo pos (starEach [] X.env)).any (·.1) || (backToKw pos (keywordEach kws X.env)).any (·.1.isNone)) = false := by rfl)
    (ht : eval (.Call (.Attribute oj m apos) [] kws pos) X.env = (do
      let ov ← eval oj X.env
      standAt apos.atName
      let (f, first) ← holding [ov] (getMethod ov m pl)
      callWith pos f first (backTo pos (starEach [] X.env)) (backToKw pos (keywordEach kws X.env))) := by rfl) :
    PE X (.Call (.Attribute oj m apos) [] kws pos) (tSMethK C sp gV E ta tkn) := by
  refine ⟨fun pns s σs Hh Qq Iv h => ?_⟩
  refine PySem.W.methodCall_KW (pl := pl) (thn (he.run pns s σs Hh _ Iv h) fun u sh1 ⟨x, H1, I1, rlx, ex, qq⟩ => ?_) ht
  subst ex
  obtain rfl : u = Value.ref C := rlx
  refine smeth_ok I1 r c fun sh2 I2 => ?_
  refine PySem.W.callWith_KW0 (first := []) (h₀ := X.base) Iv.ok.mod.kin c.kp hall ?_ hpl
  refine thn (hkw.run pos pns sh2 σs H1 _ I2 qq) fun kvs2 sh3 ⟨zvs, H2, I3, rlz, q2⟩ => ⟨I3.kIn, ?_⟩
  rw [hks]
  exact run_fnk (us := []) (vs := []) F hr hb hx I3 .nil rlz q2
end
/-! ### x == y, x != y, x an instance with an own ==, y a text or a tuple -/
section
variable {X : Cx} {n : Nat} {C f : Addr} {fd : FuncData} {ps : List Str} {sp : Sp}
def rEqS (C : Addr) (sp : Sp) : R2 := fun x y Hh Qq => ∃ a z dx fs, x = .ref a ∧ y = .str z ∧ Hh a = some (.ins C dx fs) ∧ sp [.ref a, .str z] Hh (fun v H' => ∃ r, v = .bl r ∧ Qq (.bl r) H') E0
def rNeT (C : Addr) (sp : Sp) : R2 := fun x y Hh Qq => ∃ a b dx fs xs, x = .ref a ∧ y = .ref b ∧ Hh a = some (.ins C dx fs) ∧ Hh b = some (.tup xs) ∧ sp [.ref a, .ref b] Hh (fun v H' => ∃ r, v = .bl r ∧ Qq (.bl (!r)) H') E0
theorem notFirst_of {K : PySem.W.Frag} {tb : Value} (h : PySem.W.subIn K tb (.ref C) = some false) : PySem.W.notFirst K C tb = true := by
  simp [PySem.W.notFirst, h]
theorem op_insNeT (F : FnOk X.prog X.w X.K X.mg X.base CX0 n f fd ps sp) (hne : PySem.W.findIn X.K (.ref C) "__ne__" = some (some (.builtin "object.__ne__"))) (ho : PySem.W.subIn X.K (.ref C) (.type "object") = some true) (hnt : PySem.W.subIn X.K (.type "tuple") (.ref C) = some false)
    (hs : PySem.W.findIn X.K (.ref C) "__eq__" = some (some (.ref f))) (hf : PySem.W.isFn X.K (.ref f) = true) (hb : Binds X.K fd ps []) (hr : Room (n + 1) X.A) : OpR X (compareOp .NotEq) (rNeT C sp) := by
  intro pns s σs Hh x y u v Qq Iv rx ry ⟨a, b, dx, fs, xs, ex, ey, ha, hb', hsp⟩
  subst ex ey
  cases rx
  cases ry
  obtain ⟨mA, J, _⟩ := ins_get Iv.hok ha
  obtain ⟨od, J, _⟩ := J.look
  obtain ⟨_, _, _, o, h1, h2, _⟩ := (show ObjOk X.prog X.w Hh s.heap b (.tup xs) from Iv.hok b _ hb')
  have lk : PySem.W.Looks (model X.prog X.w) s.heap (typeOf (.ref b)) (.type "tuple") := h2 ▸ (PySem.W.Looks.ld h1).andThen .now
  obtain ⟨m, hF⟩ := Iv.fr
  show wpAny (model X.prog X.w) X.A (richCompare .NotEq (.ref a) (.ref b)) (EP X pns σs Qq) X.xe s
  refine neK (tb := .type "tuple") (by have := hr.un; omega) hF Iv.ok.mod.kin J lk (notFirst_of hnt) hne ho hs hf ?_
  have hl := F.len _ _ _ _ hsp
  have r2 : Vals [V.ref a, V.ref b] [Value.ref a, Value.ref b] := .cons rfl (.cons rfl .nil)
  refine wpAny_call (codeAny_mono (F.run X.A.in1 X.stack s Hh ⟨[.ref a, .ref b], []⟩ [.ref a, .ref b] [.ref a, .ref b] _ E0 hr.in1 Iv.env0.in1 (by
    have := hb s [.ref a, .ref b] Iv.kIn (by simpa using hl)
    simpa using this) r2 hsp) fun r s' hq => ?_)
  cases r with
  | error e => exact hq.elim
  | ok fl =>
    cases fl with
    | ret w =>
      obtain ⟨z, H', I', rz, r0, ez, q⟩ := Iv.after hq
      subst ez
      cases rz
      exact ⟨r0, rfl, .bl (!r0), H', I', rfl, q⟩
    | next => exact False.elim hq
    | brk => exact False.elim hq
    | cont => exact False.elim hq
theorem op_insEqS (F : FnOk X.prog X.w X.K X.mg X.base CX0 n f fd ps sp) (hnt : PySem.W.subIn X.K (.type "str") (.ref C) = some false)
    (hs : PySem.W.findIn X.K (.ref C) "__eq__" = some (some (.ref f))) (hf : PySem.W.isFn X.K (.ref f) = true) (hb : Binds X.K fd ps []) (hr : Room n X.A) : OpR X (compareOp .Eq) (rEqS C sp) := by
  intro pns s σs Hh x y u v Qq Iv rx ry ⟨a, z, dx, fs, ex, ey, ha, hsp⟩
  subst ex ey
  cases rx
  obtain ⟨tz, rfl⟩ := ry
  obtain ⟨mA, J, _⟩ := ins_get Iv.hok ha
  obtain ⟨od, J, _⟩ := J.look
  obtain ⟨m, hF⟩ := Iv.fr
  show wpAny (model X.prog X.w) X.A (richCompare .Eq (.ref a) (.str z tz)) (EP X pns σs Qq) X.xe s
  refine PySem.W.cmp_K (op := .Eq) (tb := .type "str") hr.units0 hF Iv.ok.mod.kin J (PySem.W.Looks.of_pure rfl) (notFirst_of hnt) hs hf ?_
  have hl := F.len _ _ _ _ hsp
  have r2 : Vals [V.ref a, V.str z] [Value.ref a, Value.str z tz] := .cons rfl (.cons ⟨tz, rfl⟩ .nil)
  refine wpAny_call (codeAny_mono (F.run X.A X.stack s Hh ⟨[.ref a, .str z tz], []⟩ [.ref a, .str z tz] [.ref a, .str z] _ E0 hr Iv.env0 (by
    have := hb s [.ref a, .str z tz] Iv.kIn (by simpa using hl)
    simpa using this) r2 hsp) fun r s' hq => ?_)
  cases r with
  | error e => exact hq.elim
  | ok fl =>
    cases fl with
    | ret w =>
      obtain ⟨z2, H', I', rz, r0, ez, q⟩ := Iv.after hq
      subst ez
      cases rz
      exact ⟨.bl r0, H', I', rfl, q⟩
    | next => exact False.elim hq
    | brk => exact False.elim hq
    | cont => exact False.elim hq
end
end Rg
namespace K
open PySem L2 Rg
open TL (tl tl_num numL numL_lt numL_step numL_digits numL_ne numL_free numL_val numL_inj numL_len)
open NumText (AllDigits digitsVal)
/-! ### texts and numbers -/
def digB (l : List Nat) : Bool := l.all fun c => decide (48 ≤ c) && decide (c ≤ 57)
theorem digB_iff {l : List Nat} : digB l = true ↔ AllDigits l := by
  unfold digB
  rw [List.all_eq_true]
  constructor
  · intro h c hc
    have := h c hc
    simp only [Bool.and_eq_true, decide_eq_true_eq] at this
    exact this
  · intro h c hc
    have := h c hc
    simp only [Bool.and_eq_true, decide_eq_true_eq]
    exact this
/-- what can stand as a length in the text of a ring -/
def okT (x : Str) : Bool := decide (1 ≤ (tl x).length) && (decide ((tl x).length ≤ 7) && (digB (tl x) && (!decide ((tl x).head? = some 48) && decide (digitsVal (tl x) ≤ 1000000))))
def valT (x : Str) : Int := (digitsVal (tl x) : Nat)
def numT (i : Int) : Str := Str.ofString (toString i)
theorem okT_iff {x : Str} : okT x = true ↔ 1 ≤ (tl x).length ∧ (tl x).length ≤ 7 ∧ AllDigits (tl x) ∧ (tl x).head? ≠ some 48 ∧ digitsVal (tl x) ≤ 1000000 := by
  unfold okT
  simp only [Bool.and_eq_true, decide_eq_true_eq, digB_iff, Bool.not_eq_true', decide_eq_false_iff_not, ne_eq]
theorem dig_class : ∀ c, c < 128 → Unicode.isDigit c = (decide (48 ≤ c) && decide (c ≤ 57)) := by decide +kernel
theorem ascii_digits (x : Str) : (Txt.isascii x && Txt.isdigit x) = (decide (1 ≤ (tl x).length) && digB (tl x)) := by
  unfold Txt.isascii Txt.isdigit digB
  have hl : x.length = (tl x).length := TL.len_tl x
  rw [hl, ← Array.all_toList, ← Array.all_toList]
  show ((tl x).all (fun c => decide (c < 128)) && (decide ((tl x).length > 0) && (tl x).all Unicode.isDigit)) = _
  generalize tl x = l
  have e : ((l.all fun c => decide (c < 128)) && l.all Unicode.isDigit) = l.all fun c => decide (48 ≤ c) && decide (c ≤ 57) := by
    induction l with
    | nil => rfl
    | cons c l ih =>
      rw [List.all_cons, List.all_cons, List.all_cons, ← ih]
      by_cases h : c < 128
      · rw [decide_eq_true h, dig_class c h]
        cases (decide (48 ≤ c) && decide (c ≤ 57)) <;> cases (l.all fun c => decide (c < 128)) <;> cases l.all Unicode.isDigit <;> rfl
      · rw [decide_eq_false h, decide_eq_false (show ¬ c ≤ 57 by omega)]
        simp
  have e2 : decide (l.length > 0) = decide (1 ≤ l.length) := rfl
  rw [e2, ← e]
  cases decide (1 ≤ l.length) <;> cases (l.all fun c => decide (c < 128)) <;> cases l.all Unicode.isDigit <;> rfl
theorem starts_one (x : Str) (c : Nat) : Txt.startswith x ⟨#[c]⟩ = decide ((tl x).head? = some c) := by
  unfold Txt.startswith
  have hl : x.length = (tl x).length := TL.len_tl x
  have h := StrLaws.subAt_one x c 0
  have e : x.cps.toList[0]? = (tl x).head? := List.head?_eq_getElem?.symm
  rw [e] at h
  by_cases k : (tl x).head? = some c
  · rw [decide_eq_true k]
    obtain ⟨h1, h2⟩ := h.mpr k
    rw [h2, Bool.and_true]
    exact decide_eq_true h1
  · rw [decide_eq_false k]
    cases z : Builtin.Str.subAt x ⟨#[c]⟩ 0 with
    | false => rw [Bool.and_false]
    | true =>
      rw [Bool.and_true]
      exact decide_eq_false fun g => k (h.mp ⟨g, z⟩)
theorem dv_snoc (l : List Nat) (c : Nat) : digitsVal (l ++ [c]) = digitsVal l * 10 + (c - 48) := by
  unfold digitsVal
  rw [List.foldl_append]
  rfl
theorem dv_from (l : List Nat) : ∀ a : Nat, a * 10 ^ l.length ≤ l.foldl (fun acc c => acc * 10 + (c - 48)) a := by
  induction l with
  | nil => intro a; simp
  | cons c l ih =>
    intro a
    rw [List.foldl_cons, List.length_cons, Nat.pow_succ]
    refine Nat.le_trans ?_ (ih (a * 10 + (c - 48)))
    rw [Nat.mul_comm (10 ^ l.length) 10, ← Nat.mul_assoc]
    exact Nat.mul_le_mul_right _ (by omega)
theorem dv_ge {c : Nat} {l : List Nat} (h : AllDigits (c :: l)) (n : c ≠ 48) : 10 ^ l.length ≤ digitsVal (c :: l) := by
  unfold digitsVal
  rw [List.foldl_cons]
  have hc := h.head
  refine Nat.le_trans ?_ (dv_from l _)
  have : 1 ≤ 0 * 10 + (c - 48) := by omega
  exact Nat.le_trans (by omega) (Nat.mul_le_mul_right _ this)
theorem one_pow (k : Nat) : 1 ≤ 10 ^ k := Nat.pow_le_pow_right (by decide : 10 > 0) (Nat.zero_le k)
theorem num_back : ∀ (n : Nat) (l : List Nat), l.length = n → AllDigits l → l ≠ [] → l.head? ≠ some 48 → numL (digitsVal l) = l := by
  intro n
  induction n with
  | zero => intro l hl _ hn; exact absurd (List.length_eq_zero_iff.mp hl) hn
  | succ n ih =>
    intro l hl ha hn hh
    obtain ⟨m, c, rfl⟩ : ∃ m c, l = m ++ [c] := ⟨l.dropLast, l.getLast hn, (List.dropLast_concat_getLast hn).symm⟩
    have hc := ha c (List.mem_append_right _ (List.mem_singleton.mpr rfl))
    rw [dv_snoc]
    by_cases z : m = []
    · subst z
      have : digitsVal [] = 0 := rfl
      have h48 : c ≠ 48 := fun e => hh (by rw [e]; rfl)
      rw [this, numL_lt (by omega)]
      show [48 + (0 * 10 + (c - 48))] = [c]
      congr 1
      omega
    · have hm : m.head? ≠ some 48 := by
        cases m with
        | nil => exact absurd rfl z
        | cons a m => exact hh
      have am : AllDigits m := fun d hd => ha d (List.mem_append_left _ hd)
      rw [List.length_append, List.length_singleton] at hl
      have e := ih m (by omega) am z hm
      have g : 1 ≤ digitsVal m := by
        cases m with
        | nil => exact absurd rfl z
        | cons a m => exact Nat.le_trans (one_pow _) (dv_ge am fun e => hm (by rw [e]; rfl))
      rw [numL_step (by omega)]
      have e1 : (digitsVal m * 10 + (c - 48)) / 10 = digitsVal m := by omega
      have e2 : (digitsVal m * 10 + (c - 48)) % 10 = c - 48 := by omega
      rw [e1, e2, e]
      congr 2
      omega
theorem num_head : ∀ n : Nat, 1 ≤ n → (numL n).head? ≠ some 48 := by
  intro n
  induction n using Nat.strongRecOn with
  | _ n ih =>
    intro h
    by_cases c : n < 10
    · rw [numL_lt c]
      intro e
      have := Option.some.inj e
      omega
    · rw [numL_step (by omega), List.head?_append]
      have := ih (n / 10) (by omega) (by omega)
      cases e : (numL (n / 10)).head? with
      | none => exact absurd (List.head?_eq_none_iff.mp e) (numL_ne _)
      | some a =>
        rw [e] at this
        exact this
theorem tl_numT {i : Int} (h : 0 ≤ i) : tl (numT i) = numL i.toNat := by
  obtain ⟨n, rfl⟩ := Int.eq_ofNat_of_zero_le h
  exact tl_num n
theorem okT_num {i : Int} (h1 : 1 ≤ i) (h2 : i ≤ 1000000) : okT (numT i) = true := by
  rw [okT_iff, tl_numT (by omega)]
  refine ⟨List.length_pos_iff.mpr (numL_ne _), numL_len (by decide) (by omega), numL_digits _, num_head _ (by omega), ?_⟩
  rw [numL_val]
  omega
theorem valT_num {i : Int} (h1 : 0 ≤ i) : valT (numT i) = i := by
  unfold valT
  rw [tl_numT h1, numL_val]
  omega
theorem okT_head {x : Str} (h : okT x = true) : ∃ c l, tl x = c :: l ∧ 49 ≤ c ∧ c ≤ 57 := by
  obtain ⟨h1, _, h3, h4, _⟩ := okT_iff.mp h
  cases e : tl x with
  | nil => rw [e] at h1; simp at h1
  | cons c l =>
    rw [e] at h3 h4
    have := h3.head
    have n : c ≠ 48 := fun z => h4 (by rw [z]; rfl)
    exact ⟨c, l, rfl, by omega, this.2⟩
theorem okT_val {x : Str} (h : okT x = true) : 1 ≤ valT x ∧ valT x ≤ 1000000 := by
  obtain ⟨c, l, e, c1, c2⟩ := okT_head h
  obtain ⟨h1, _, h3, h4, h5⟩ := okT_iff.mp h
  unfold valT
  refine ⟨?_, by omega⟩
  rw [e] at h3 ⊢
  have g := dv_ge h3 (by omega)
  have : 1 ≤ 10 ^ l.length := one_pow _
  omega
theorem okT_back {x : Str} (h : okT x = true) : numT (valT x) = x := by
  obtain ⟨h1, _, h3, h4, h5⟩ := okT_iff.mp h
  refine TL.ext_tl ?_
  rw [tl_numT (by have := okT_val h; omega)]
  unfold valT
  rw [Int.toNat_natCast]
  exact num_back _ _ rfl h3 (fun e => by rw [e] at h1; simp at h1) h4
/-! ### the integer that an item is -/
def partF (x : Str) : List Nat := if (tl x).head? = some 45 then (tl x).drop 1 else tl x
def badD (d : List Nat) : Bool := decide (60 < d.length) || !(decide (1 ≤ d.length) && digB d)
def intF (x : Str) : Option Int :=
  if badD (partF x) = true then none else if (partF x).head? = some 48 ∧ x ≠ "0" then none
  else if (tl x).head? = some 45 then some (-((digitsVal (partF x) : Nat) : Int)) else some ((digitsVal (partF x) : Nat) : Int)
def oV : Option Int → V
  | none => .non
  | some i => .int i
def oK : Option Int → String
  | none => "NoneType"
  | some _ => "int"
theorem zero_tl : tl ("0" : Str) = [48] := by decide +kernel
theorem int_ok {x : Str} (h : okT x = true) : intF x = some (valT x) := by
  obtain ⟨c, l, e, c1, c2⟩ := okT_head h
  obtain ⟨h1, h2, h3, h4, h5⟩ := okT_iff.mp h
  have n45 : ¬ (tl x).head? = some 45 := by
    rw [e]
    intro z
    have := Option.some.inj z
    omega
  have p : partF x = tl x := if_neg n45
  have b : badD (tl x) = false := by
    unfold badD
    rw [decide_eq_false (show ¬ 60 < (tl x).length by omega), decide_eq_true h1, digB_iff.mpr h3]
    rfl
  unfold intF
  rw [p, b, if_neg Bool.false_ne_true, if_neg (fun z => h4 z.1), if_neg n45]
  rfl
theorem int_in {x : Str} {i : Int} (h : intF x = some i) (h1 : 1 ≤ i) (h2 : i ≤ 1000000) : okT x = true := by
  unfold intF at h
  cases b : badD (partF x) with
  | true => rw [b, if_pos rfl] at h; cases h
  | false =>
    rw [b, if_neg Bool.false_ne_true] at h
    by_cases z : (partF x).head? = some 48 ∧ x ≠ "0"
    · rw [if_pos z] at h; cases h
    rw [if_neg z] at h
    by_cases n : (tl x).head? = some 45
    · rw [if_pos n] at h
      have := Option.some.inj h
      omega
    rw [if_neg n] at h
    have hv := Option.some.inj h
    have p : partF x = tl x := if_neg n
    rw [p] at hv b z
    unfold badD at b
    simp only [Bool.or_eq_false_iff, decide_eq_false_iff_not, Bool.not_eq_false', Bool.and_eq_true, decide_eq_true_eq] at b
    obtain ⟨b1, b2, b3⟩ := b
    have ad := digB_iff.mp b3
    have h48 : (tl x).head? ≠ some 48 := fun c => z ⟨c, fun ex => by
      rw [ex, zero_tl] at hv
      have : digitsVal [48] = 0 := rfl
      omega⟩
    refine okT_iff.mpr ⟨b2, ?_, ad, h48, by omega⟩
    cases e : tl x with
    | nil => simp
    | cons c l =>
      rw [e] at ad h48 hv
      have g := dv_ge ad fun q => h48 (by rw [q]; rfl)
      rw [List.length_cons]
      by_cases k : l.length ≤ 6
      · omega
      · have : 10 ^ 7 ≤ 10 ^ l.length := Nat.pow_le_pow_right (by decide) (by omega)
        omega
/-- the index of the first item that cannot stand -/
def stopF : Nat → List Str → Option Nat
  | i, [] => if i < 3 then some i else none
  | i, x :: r => if i = 8 ∨ okT x = false then some i else stopF (i + 1) r
theorem stop_none : ∀ (l : List Str) (i : Nat), stopF i l = none → (∀ x ∈ l, okT x = true) ∧ 3 ≤ i + l.length ∧ (i ≤ 8 → i + l.length ≤ 8) := by
  intro l
  induction l with
  | nil =>
    intro i h
    unfold stopF at h
    refine ⟨fun x hx => (nomatch hx), ?_, fun h8 => by simpa using h8⟩
    by_cases c : i < 3
    · rw [if_pos c] at h; cases h
    · simp; omega
  | cons x l ih =>
    intro i h
    unfold stopF at h
    by_cases c : i = 8 ∨ okT x = false
    · rw [if_pos c] at h; cases h
    · rw [if_neg c] at h
      obtain ⟨a, b, d⟩ := ih _ h
      have ox : okT x = true := by
        cases e : okT x with
        | true => rfl
        | false => exact absurd (.inr e) c
      have n8 : i ≠ 8 := fun e => c (.inl e)
      refine ⟨fun y hy => (List.mem_cons.mp hy).elim (fun e => e ▸ ox) (a y), by rw [List.length_cons]; omega, fun h8 => ?_⟩
      rw [List.length_cons]
      have := d (by omega)
      omega
theorem stop_all : ∀ (l : List Str) (i : Nat), (∀ x ∈ l, okT x = true) → 3 ≤ i + l.length → i + l.length ≤ 8 → stopF i l = none := by
  intro l
  induction l with
  | nil =>
    intro i _ h3 _
    unfold stopF
    rw [if_neg (by simpa using h3)]
  | cons x l ih =>
    intro i a h3 h8
    rw [List.length_cons] at h3 h8
    unfold stopF
    rw [if_neg (fun c => by
      rcases c with c | c
      · omega
      · rw [a x (List.mem_cons_self ..)] at c; cases c)]
    exact ih _ (fun y hy => a y (List.mem_cons_of_mem _ hy)) (by omega) (by omega)
theorem le_sum {n : Nat} : ∀ {l : List Nat}, n ∈ l → n ≤ l.sum
  | [], h => nomatch h
  | a :: l, h => by
    rw [List.sum_cons]
    rcases List.mem_cons.mp h with e | h
    · omega
    · have := le_sum h
      omega
theorem item_len {x : Str} {y : Str} (h : y ∈ Txt.split x ⟨#[32]⟩) : y.length ≤ x.length + 1 := by
  have w := PyProof.Rows.split_weight x ⟨#[32]⟩ (Nat.le_refl 1)
  have : y.length ≤ ((Txt.split x ⟨#[32]⟩).map (·.length)).sum := le_sum (List.mem_map.mpr ⟨y, h, rfl⟩)
  omega
theorem items_len (x : Str) : (Txt.split x ⟨#[32]⟩).length ≤ x.length + 1 := by
  have w := PyProof.Rows.split_weight x ⟨#[32]⟩ (Nat.le_refl 1)
  omega
end K
namespace K
open PySem L2 Rg
open Evl (pss_cut)
open TL (tl)
theorem kit_self {K : PySem.W.Frag} {C : Addr} : PySem.W.kitOne K (.ref C) (.ref C) = some true := by
  simp [PySem.W.kitOne]
section
variable {P : Program} {w : World} {K : PySem.W.Frag} {mg : Str → Option Value} {base : Heap}
/-! ### BadText(line, item) -/
theorem scBadText : FnScope ["self", "line", "item"] ["self", "line", "item"] (defScope sBadTextInit) := ⟨rfl, rfl, rfl, by decide +kernel, rfl, by decide +kernel, by decide +kernel⟩
theorem ok_badTextI {f : Addr} {fd : FuncData} (F : Fun K "__init__" "BadText.__init__" sBadTextInit f fd) : FnOk P w K mg base CX0 1 f fd ["self", "line", "item"] (spIni2 K "line" "item") := by
  refine F.ok scBadText (fun vs H Q E h => ?_) (fun cdv A outer s H vs Q E hr h => ?_)
  · obtain ⟨a, C, v, u, rfl, _⟩ := h
    rfl
  · refine ⟨_, pss_cons (ps_ost (pv 0) (pv 1)) (pss_one (ps_ost (pv 0) (pv 2))), ?_⟩
    obtain ⟨a, C, v, u, rfl, o, n, n2, ha, k⟩ := h
    refine ⟨_, rfl, _, rfl, a, C, rfl, o, n, .inl ⟨ha, fun d h1 h2 => ?_⟩⟩
    refine ⟨_, rfl, _, rfl, a, C, rfl, o, n2, .inr ⟨d, [("line", v)], upd_same, ?_, (by show 1 ≤ 900; decide), k d h1 h2⟩⟩
    rw [upd_ne h2, upd_same]
/-- the text is refused at its item k -/
def ErrT (E : XK) (cT : Addr) (k : Int) (H : Hp) : Prop := ErrsF E cT [("item", .int k), ("line", .int 0)] H
theorem ErrT.later {E : XK} {cT : Addr} {k : Int} {H H1 : Hp} (h : ErrT E cT k H) (s : Same H H1) : ErrT E cT k H1 := ErrsF.later h s
/-! ### items_of -/
def itemsT (x : Str) : List Str := Txt.split x ⟨#[32]⟩
theorem spc_eq : (Str.ofString " ") = ⟨#[32]⟩ := by decide +kernel
theorem min_eq : (Str.ofString "-") = ⟨#[45]⟩ := by decide +kernel
theorem zer_eq : (Str.ofString "0") = ⟨#[48]⟩ := by decide +kernel
def spItO (K : PySem.W.Frag) (cT : Addr) : Sp := fun vs H _ E => ∃ (v : V) (t : Value), vs = [v] ∧ TyX K H v t ∧ PySem.W.kitOne K t (.type "str") = some false ∧ ErrT E cT 0 H
def spItS : Sp := fun vs H Q _ => ∃ x : Str, vs = [.str x] ∧ x.length ≤ 1000 ∧ ∀ p H', H' p = some (.lst ((itemsT x).map V.str)) → Same H H' → Q (.ref p) H'
theorem scItems : FnScope ["text"] ["text"] (defScope sItemsOf) := ⟨rfl, rfl, rfl, by decide +kernel, rfl, by decide +kernel, by decide +kernel⟩
theorem ok_items {f cT fT : Addr} {fd fdT : FuncData} (F : Fun K "items_of" "items_of" sItemsOf f fd) (T : Bi mg) (Ts : mg "str" = none) (M : Err2At P w K mg base "BadText" "line" "item" cT fT fdT) : FnOk P w K mg base (L2.CX P w) 3 f fd ["text"] (fun vs H Q E => spItO K cT vs H Q E ∨ spItS vs H Q E) := by
  refine F.okX scItems (fun vs H Q E h => ?_) (fun cdv A outer s H vs Q E hr h => ?_)
  · rcases h with ⟨v, t, rfl, _⟩ | ⟨x, rfl, _⟩ <;> rfl
  · have hr1 := hr
    refine ⟨_, pss_cons (ps_if (pt_not (pt_val (pe_callB call_isi (by rfl) T.isinstance (by decide +kernel) (pa_cons (pv 0) (pa_cons (pe_bltn (v := .ty "str") (u := .type "str") (by rfl) Ts (by decide +kernel) rfl) pa_nil)))))
        (pss_one (ps_raise rfl (takes_of rfl rfl rfl rfl) (pmk_oex M.oex M.ic M.ti M.ok hr1 M.b .nil pass0 rfl M.g (pa_cons pe_int (pa_cons pe_int pa_nil))))) pss_nil)
      (pss_one (ps_ret (pe_split (pv 0) pe_str))), ?_⟩
    rcases h with ⟨v, t, rfl, ty, kt, er⟩ | ⟨x, rfl, hx, q⟩
    · refine ⟨_, rfl, v, .ty "str", _, _, _, rfl, .ty _, ty, kt, _, rfl, iteT ?_⟩
      exact err_made2 M.oex M.nf M.ng er
    · have hk : PySem.W.kitOne K (.type "str") (.type "str") = some true := kit_ty (by decide +kernel)
      refine ⟨_, rfl, .str x, .ty "str", _, _, _, rfl, .ty _, .base (.str x), hk, _, rfl, iteF ?_⟩
      refine ⟨_, rfl, ⟨_, rfl⟩, x, _, rfl, rfl, by decide +kernel, Nat.le_of_lt (sm (by omega)), fun p hp => ?_⟩
      refine q p _ ?_ ((Same.refl H).new hp)
      rw [upd_same]
      exact congrArg (fun z => some (HO.lst ((Txt.split x z).map V.str))) spc_eq
/-! ### integer_of -/
theorem cut1 (x : Str) (h : 1 ≤ (tl x).length) : tl (cutS x (some 1) none) = (tl x).drop 1 := by
  unfold cutS
  have hl : x.length = (tl x).length := TL.len_tl x
  have s1 : HT.sIx x.length 0 (some 1) = 1 := by
    have := HT.sIx_nat x.length 0 1
    rw [Nat.min_eq_left (by omega)] at this
    exact this
  rw [s1, HT.sIx_none]
  show ((tl x).drop 1).take (x.length - 1) = _
  exact List.take_of_length_le (by rw [List.length_drop, hl]; exact Nat.le_refl _)
def spInt : Sp := fun vs H Q _ => ∃ x : Str, vs = [.str x] ∧ x.length ≤ 1002 ∧ Q (oV (intF x)) H
theorem scInt : FnScope ["item", "digits"] ["item"] (defScope sIntegerOf) := ⟨rfl, rfl, rfl, by decide +kernel, rfl, by decide +kernel, by decide +kernel⟩
theorem str_eq0 (x : Str) : decide (V.str x = V.str (Str.ofString "0")) = decide (x = Str.ofString "0") := by
  by_cases e : x = Str.ofString "0"
  · rw [e]; simp
  · rw [decide_eq_false e, decide_eq_false fun z => e (V.str.inj z)]
theorem int_last {x : Str} (b : badD (partF x) = false) (h : ¬ ((partF x).head? = some 48 ∧ x ≠ Str.ofString "0")) : ∃ i, intText? x = some i ∧ x.length ≤ 640 ∧ intF x = some i := by
  have hl : x.length = (tl x).length := TL.len_tl x
  have e := b
  unfold badD at e
  simp only [Bool.or_eq_false_iff, decide_eq_false_iff_not, Bool.not_eq_false', Bool.and_eq_true, decide_eq_true_eq] at e
  obtain ⟨e1, e2, e3⟩ := e
  have ad := digB_iff.mp e3
  by_cases n : (tl x).head? = some 45
  · have p : partF x = (tl x).drop 1 := if_pos n
    obtain ⟨l, hx⟩ : ∃ l, tl x = 45 :: l := by
      cases z : tl x with
      | nil => rw [z] at n; cases n
      | cons a l => rw [z] at n; exact ⟨l, by rw [Option.some.inj n]⟩
    rw [hx] at p hl
    have pd : partF x = l := p
    have ll : (45 :: l).length = l.length + 1 := rfl
    refine ⟨_, intText_neg hx (pd ▸ ad) (fun z => by rw [pd, z] at e2; simp at e2) (by rw [pd] at e1; omega), by rw [pd] at e1; omega, ?_⟩
    unfold intF
    rw [b, if_neg Bool.false_ne_true, if_neg h, if_pos n, pd]
  · have p : partF x = tl x := if_neg n
    rw [p] at ad e1 e2
    refine ⟨_, intText_digits ad (fun z => by rw [show tl x = [] from z] at e2; simp at e2) (by omega), by omega, ?_⟩
    unfold intF
    rw [b, if_neg Bool.false_ne_true, if_neg h, if_neg n, p]
theorem int_bad {x : Str} (b : badD (partF x) = true) : intF x = none := if_pos b
theorem int_zero {x : Str} (b : badD (partF x) = false) (h : (partF x).head? = some 48 ∧ x ≠ Str.ofString "0") : intF x = none := by
  unfold intF
  rw [b, if_neg Bool.false_ne_true, if_pos h]
theorem ok_int {f : Addr} {fd : FuncData} (F : Fun K "integer_of" "integer_of" sIntegerOf f fd) (T : Bi mg) (h60 : ∃ t, mg "MOST_DIGITS" = some (.int 60 t)) : FnOk P w K mg base CX0 1 f fd ["item"] spInt := by
  refine F.ok scInt (fun vs H Q E h => ?_) (fun cdv A outer s H vs Q E hr h => ?_)
  · obtain ⟨x, rfl, _⟩ := h
    rfl
  · have nd := scInt.nd
    obtain ⟨t60, h60⟩ := h60
    refine ⟨_, pss_cons (ps_set (i := 1) nd rfl (Or.inl rfl) (pe_ifExp (pt_val (pe_m1 PySem.F.slot_str_startswith PySem.F.type_str_startswith mt_startswith (pv 0) pe_str)) (pe_slice sl_str (pv 0) (po_some pe_int) po_none) (pv 0)))
      (pss_cons (ps_if (PW.pt (pw_or (pt_cmpR op_gt (pe_callB call_len_str (by rfl) T.len PySem.boot_len (pa_cons (pv 1) pa_nil)) (pe_glob (v := .int 60) rfl h60 ⟨_, rfl⟩) (nomark _)) (pw_or1 (pt_not (PW.pt (pw_and (pt_val (pe_m0 PySem.F.slot_str_isascii PySem.F.type_str_isascii mt_isascii (pv 1))) (pw_and1 (pt_val (pe_m0 PySem.F.slot_str_isdigit PySem.F.type_str_isdigit mt_isdigit (pv 1))))))))))
        (pss_one (ps_ret pe_non)) pss_nil)
      (pss_cons (ps_if (PW.pt (pw_and (pt_val (pe_m1 PySem.F.slot_str_startswith PySem.F.type_str_startswith mt_startswith (pv 1) pe_str)) (pw_and1 (pt_cmpR op_ne (pv 0) pe_str (nomark _))))) (pss_one (ps_ret pe_non)) pss_nil)
      (pss_one (ps_ret (pe_callTy call_int_str (by rfl) T.int (by decide +kernel) (pa_cons (pv 0) pa_nil)))))), ?_⟩
    obtain ⟨x, rfl, hx, q⟩ := h
    have hlx : x.length = (tl x).length := TL.len_tl x
    refine ⟨_, rfl, ⟨_, rfl⟩, x, _, rfl, rfl, _, rfl, ?_⟩
    rw [min_eq, starts_one]
    by_cases n : (tl x).head? = some 45
    · have l1 : 1 ≤ (tl x).length := by
        cases z : tl x with
        | nil => rw [z] at n; cases n
        | cons a l => simp
      have pd : tl (cutS x (some 1) none) = partF x := by rw [cut1 x l1]; exact (if_pos n).symm
      have dl : (cutS x (some 1) none).length ≤ 1002 := Nat.le_trans (cutS_length x _ _) hx
      refine iteDT n ⟨_, rfl, 1, rfl, ?_⟩
      dsimp only [tNoPart]
      refine ⟨x, rfl, Nat.le_of_lt (sm (by omega)), ?_⟩
      generalize cutS x (some 1) none = d at pd dl ⊢
      have hld : d.length = (partF x).length := by rw [TL.len_tl d, pd]
      refine ⟨_, rfl, d, rfl, Nat.le_of_lt (sm (by omega)), _, _, rfl, rfl, _, rfl, ?_⟩
      by_cases c60 : 60 < (partF x).length
      · refine iteDT (by omega) (iteT ?_)
        rw [int_bad (by unfold badD; rw [decide_eq_true c60]; rfl)] at q
        exact q
      refine iteDF (by omega) ?_
      have ab := ascii_digits d
      rw [pd] at ab
      have bd : badD (partF x) = !(Txt.isascii d && Txt.isdigit d) := by
        unfold badD
        rw [decide_eq_false c60, ab]
        rfl
      refine ⟨_, rfl, ⟨_, rfl⟩, d, rfl, rfl, True.intro, _, rfl, ?_⟩
      cases ha : Txt.isascii d with
      | false =>
        rw [ha] at bd
        refine iteF (iteT ?_)
        rw [int_bad bd] at q
        exact q
      | true =>
      refine iteT ⟨_, rfl, ⟨_, rfl⟩, d, rfl, rfl, True.intro, _, rfl, ?_⟩
      rw [ha] at bd
      cases hb : Txt.isdigit d with
      | false =>
        rw [hb] at bd
        refine iteT ?_
        rw [int_bad bd] at q
        exact q
      | true =>
      rw [hb] at bd
      refine iteF ?_
      refine ⟨_, rfl, ⟨_, rfl⟩, d, _, rfl, rfl, _, rfl, ?_⟩
      rw [zer_eq, starts_one, pd, ← zer_eq]
      by_cases z48 : (partF x).head? = some 48
      · refine iteDT z48 ⟨_, rfl, rfl, _, rfl, ?_⟩
        rw [str_eq0]
        by_cases e0 : x = Str.ofString "0"
        · rw [decide_eq_true e0]
          refine iteF ?_
          obtain ⟨i, i1, i2, i3⟩ := int_last bd fun z => z.2 e0
          rw [i3] at q
          exact ⟨_, rfl, x, i, rfl, i1, i2, q⟩
        · rw [decide_eq_false e0]
          refine iteT ?_
          rw [int_zero bd ⟨z48, e0⟩] at q
          exact q
      · refine iteDF z48 (iteF ?_)
        obtain ⟨i, i1, i2, i3⟩ := int_last bd fun z => z48 z.1
        rw [i3] at q
        exact ⟨_, rfl, x, i, rfl, i1, i2, q⟩
    · have pd : tl x = partF x := (if_neg n).symm
      have dl := hx
      refine iteDF n ⟨_, rfl, ?_⟩
      have hld : x.length = (partF x).length := by rw [TL.len_tl x, pd]
      refine ⟨_, rfl, x, rfl, Nat.le_of_lt (sm (by omega)), _, _, rfl, rfl, _, rfl, ?_⟩
      by_cases c60 : 60 < (partF x).length
      · refine iteDT (by omega) (iteT ?_)
        rw [int_bad (by unfold badD; rw [decide_eq_true c60]; rfl)] at q
        exact q
      refine iteDF (by omega) ?_
      have ab := ascii_digits x
      rw [pd] at ab
      have bd : badD (partF x) = !(Txt.isascii x && Txt.isdigit x) := by
        unfold badD
        rw [decide_eq_false c60, ab]
        rfl
      refine ⟨_, rfl, ⟨_, rfl⟩, x, rfl, rfl, True.intro, _, rfl, ?_⟩
      cases ha : Txt.isascii x with
      | false =>
        rw [ha] at bd
        refine iteF (iteT ?_)
        rw [int_bad bd] at q
        exact q
      | true =>
      refine iteT ⟨_, rfl, ⟨_, rfl⟩, x, rfl, rfl, True.intro, _, rfl, ?_⟩
      rw [ha] at bd
      cases hb : Txt.isdigit x with
      | false =>
        rw [hb] at bd
        refine iteT ?_
        rw [int_bad bd] at q
        exact q
      | true =>
      rw [hb] at bd
      refine iteF ?_
      refine ⟨_, rfl, ⟨_, rfl⟩, x, _, rfl, rfl, _, rfl, ?_⟩
      rw [zer_eq, starts_one, pd, ← zer_eq]
      by_cases z48 : (partF x).head? = some 48
      · refine iteDT z48 ⟨_, rfl, rfl, _, rfl, ?_⟩
        rw [str_eq0]
        by_cases e0 : x = Str.ofString "0"
        · rw [decide_eq_true e0]
          refine iteF ?_
          obtain ⟨i, i1, i2, i3⟩ := int_last bd fun z => z.2 e0
          rw [i3] at q
          exact ⟨_, rfl, x, i, rfl, i1, i2, q⟩
        · rw [decide_eq_false e0]
          refine iteT ?_
          rw [int_zero bd ⟨z48, e0⟩] at q
          exact q
      · refine iteDF z48 (iteF ?_)
        obtain ⟨i, i1, i2, i3⟩ := int_last bd fun z => z48 z.1
        rw [i3] at q
        exact ⟨_, rfl, x, i, rfl, i1, i2, q⟩
end
end K
namespace K
open PySem L2 Rg
open Evl (pss_cut)
open TL (tl)
theorem deqI (a b : Int) : decide (V.int a = V.int b) = decide (a = b) := by
  by_cases e : a = b
  · rw [e]; simp
  · rw [decide_eq_false e, decide_eq_false fun z => e (V.int.inj z)]
section
variable {P : Program} {w : World} {K : PySem.W.Frag} {mg : Str → Option Value} {base : Heap}
/-! ### item_at -/
def spItAt (K : PySem.W.Frag) (cT : Addr) : Sp := fun vs H Q E => ∃ (a : Addr) (i : Nat) (xs : List Str), vs = [.ref a, .int i] ∧ SqL K H a (xs.map V.str) ∧ xs.length ≤ 1002 ∧ ((xs.length ≤ i ∧ ErrT E cT xs.length H) ∨ ∃ x, xs[i]? = some x ∧ Q (.str x) H)
theorem scItAt : FnScope ["items", "at"] ["items", "at"] (defScope sItemAt) := ⟨rfl, rfl, rfl, by decide +kernel, rfl, by decide +kernel, by decide +kernel⟩
theorem ok_itAt {f cT fT : Addr} {fd fdT : FuncData} (F : Fun K "item_at" "item_at" sItemAt f fd) (T : Bi mg) (M : Err2At P w K mg base "BadText" "line" "item" cT fT fdT) : FnOk P w K mg base (L2.CX P w) 3 f fd ["items", "at"] (spItAt K cT) := by
  refine F.okX scItAt (fun vs H Q E h => ?_) (fun cdv A outer s H vs Q E hr h => ?_)
  · obtain ⟨a, i, xs, rfl, _⟩ := h
    rfl
  · have hr1 := hr
    refine ⟨_, pss_cons (ps_if (pt_cmpR op_ge (pv 1) (pe_callB call_len_seq (by rfl) T.len PySem.boot_len (pa_cons (pv 0) pa_nil)) (nomark _))
        (pss_one (ps_raise rfl (takes_of rfl rfl rfl rfl) (pmk_oex M.oex M.ic M.ti M.ok hr1 M.b .nil pass0 rfl M.g (pa_cons pe_int (pa_cons (pe_callB call_len_seq (by rfl) T.len PySem.boot_len (pa_cons (pv 0) pa_nil)) pa_nil))))) pss_nil)
      (pss_one (ps_ret (pe_ix (r := rIxL K) ix_list (pv 0) (pv 1) (fun _ _ => rfl)))), ?_⟩
    obtain ⟨a, i, xs, rfl, hs, hl, h⟩ := h
    refine ⟨_, rfl, _, rfl, a, _, rfl, .inl hs, _, _, rfl, rfl, _, rfl, ?_⟩
    rw [List.length_map]
    rcases h with ⟨c, er⟩ | ⟨x, hx, q⟩
    · refine iteDT (by omega) ?_
      refine ⟨_, rfl, a, _, rfl, .inl hs, ?_⟩
      rw [List.length_map]
      exact err_made2 M.oex M.nf M.ng er
    · have hi := (List.getElem?_eq_some_iff.mp hx).1
      refine iteDF (by omega) ?_
      refine ⟨_, rfl, _, rfl, a, _, _, _, rfl, rfl, hs, atI_nat (v := V.str x) (by rw [List.getElem?_map, hx]; rfl), q⟩
/-! ### number_at -/
theorem knd_o {H : Hp} (o : Option Int) : KndI K H (oV o) (oK o) := by
  cases o with
  | none => exact ⟨⟨.base .non, by decide⟩, fun z => absurd (show "NoneType" = "int" from z) (by decide)⟩
  | some i => exact ⟨Knd.int, fun _ => ⟨i, rfl⟩⟩
theorem win_ok (x : Str) : winB (oK (intF x)) 1 1000000 (oV (intF x)) = okT x := by
  cases h : okT x with
  | true =>
    rw [int_ok h]
    have := okT_val h
    exact win_int this.1 this.2
  | false =>
    cases e : intF x with
    | none => rfl
    | some i =>
      show (decide ("int" = "int") && (decide (1 ≤ i) && decide (i ≤ 1000000))) = false
      by_cases h1 : 1 ≤ i
      · by_cases h2 : i ≤ 1000000
        · rw [int_in e h1 h2] at h; cases h
        · rw [decide_eq_false h2]; simp
      · rw [decide_eq_false h1]; simp
def spNumAt (K : PySem.W.Frag) (cT : Addr) : Sp := fun vs H Q E => ∃ (a : Addr) (i : Nat) (xs : List Str), vs = [.ref a, .int i, .int 1, .int 1000000] ∧ SqL K H a (xs.map V.str) ∧ xs.length ≤ 1002 ∧ (∀ x ∈ xs, x.length ≤ 1002) ∧
  ((xs.length ≤ i ∧ ErrT E cT xs.length H) ∨ ∃ x, xs[i]? = some x ∧ ((okT x = false ∧ ErrT E cT i H) ∨ (okT x = true ∧ Q (.int (valT x)) H)))
abbrev nNumAt : List Str := ["items", "at", "least", "most", "number"]
theorem scNumAt : FnScope nNumAt ["items", "at", "least", "most"] (defScope sNumberAt) := ⟨rfl, rfl, rfl, by decide +kernel, rfl, by decide +kernel, by decide +kernel⟩
theorem ok_numAt {f fI fN fW cT fT : Addr} {fd fdI fdN fdW fdT : FuncData} (F : Fun K "number_at" "number_at" sNumberAt f fd) (T : Bi mg) (I : DefAt P w K mg base (L2.CX P w) 3 "item_at" ["items", "at"] (spItAt K cT) fI fdI) (N : DefAt P w K mg base CX0 1 "integer_of" ["item"] spInt fN fdN)
    (W : DefAt P w K mg base CX0 2 "is_within" ["value", "least", "most"] (spWithinG K) fW fdW) (M : Err2At P w K mg base "BadText" "line" "item" cT fT fdT) : FnOk P w K mg base (L2.CX P w) 4 f fd ["items", "at", "least", "most"] (spNumAt K cT) := by
  refine F.okX scNumAt (fun vs H Q E h => ?_) (fun cdv A outer s H vs Q E hr h => ?_)
  · obtain ⟨a, i, xs, rfl, _⟩ := h
    rfl
  · have nd := scNumAt.nd
    refine ⟨_, pss_cons (ps_set (i := 4) nd rfl (Or.inl rfl) (pe_call N.ok (hr.mono (by decide)) rfl N.g N.kp N.b .nil pass0 (pa_cons (pe_call I.ok hr rfl I.g I.kp I.b .nil (passes_call (takes_of rfl rfl rfl rfl) (fun _ _ _ _ h => h)) (pa_cons (pv 0) (pa_cons (pv 1) pa_nil))) pa_nil)))
      (pss_cons (ps_if (pt_not (pt_val (pe_call W.ok (hr.mono (by decide)) rfl W.g W.kp W.b .nil pass0 (pa_cons (pv 4) (pa_cons (pv 2) (pa_cons (pv 3) pa_nil))))))
        (pss_one (ps_raise rfl (takes_of rfl rfl rfl rfl) (pmk_oex M.oex M.ic M.ti M.ok (hr.mono (by decide)) M.b .nil pass0 rfl M.g (pa_cons pe_int (pa_cons (pv 1) pa_nil))))) pss_nil)
      (pss_one (ps_ret (pv 4)))), ?_⟩
    obtain ⟨a, i, xs, rfl, hs, hl, hx1, h⟩ := h
    refine ⟨_, rfl, _, rfl, a, i, xs, rfl, hs, hl, ?_⟩
    rcases h with ⟨c, er⟩ | ⟨x, hx, h⟩
    · exact .inl ⟨c, er⟩
    · refine .inr ⟨x, hx, x, rfl, hx1 x (List.mem_of_getElem? hx), ?_⟩
      refine ⟨_, rfl, _, rfl, _, rfl, oV (intF x), oK (intF x), 1, 1000000, rfl, knd_o _, _, rfl, ?_⟩
      rw [win_ok]
      rcases h with ⟨e, er⟩ | ⟨e, q⟩
      · rw [e]
        refine iteT ⟨_, rfl, ?_⟩
        exact err_made2 M.oex M.nf M.ng er
      · rw [e]
        refine iteF ⟨_, rfl, ?_⟩
        rw [int_ok e]
        exact q
/-! ### read_ring -/
structure TextP (P : Program) (w : World) (K : PySem.W.Frag) (mg : Str → Option Value) (base : Heap) (C : Addr) (c : Rs) (fI : Addr) (fdI : FuncData) : Prop where
  made : Mk K C fI
  ok : FnOk P w K mg base (L2.CX P w) 4 fI fdI ["self", "lengths"] (spRX K C c)
  b : Binds K fdI ["self", "lengths"] []
def ReadRes (K : PySem.W.Frag) (C cT : Addr) (E : XK) (H : Hp) (xs : List Str) (Q : VK) : Prop := (∃ k : Nat, stopF 0 xs = some k ∧ ErrT E cT k H) ∨ (stopF 0 xs = none ∧ NewRing K C (xs.map valT) H Q)
theorem ReadRes.later {C cT : Addr} {E : XK} {H H1 : Hp} {xs : List Str} {Q : VK} (h : ReadRes K C cT E H xs Q) (s : Same H H1) : ReadRes K C cT E H1 xs Q := by
  rcases h with ⟨k, e, er⟩ | ⟨e, q⟩
  · exact .inl ⟨k, e, ErrT.later er s⟩
  · exact .inr ⟨e, q.later s⟩
def spRdR (K : PySem.W.Frag) (C cT : Addr) : Sp := fun vs H Q E => ∃ (a : Addr) (xs : List Str), vs = [.ref a, .int 0] ∧ SqL K H a (xs.map V.str) ∧ xs.length ≤ 1002 ∧ (∀ x ∈ xs, x.length ≤ 1002) ∧ ReadRes K C cT E H xs Q
abbrev nRd : List Str := ["items", "at", "lengths"]
theorem scRd : FnScope nRd ["items", "at"] (defScope sReadRing) := ⟨rfl, rfl, rfl, by decide +kernel, rfl, by decide +kernel, by decide +kernel⟩
structure RdInv (H : Hp) (a L : Addr) (xs : List Str) (i : Nat) (σ : St) (H' : Hp) : Prop where
  σ : σ = [some (.ref a), some (.int i), some (.ref L)]
  s : Same H H'
  l : H' L = some (.lst (((xs.take i).map valT).map V.int))
  i1 : i ≤ xs.length
  i8 : i ≤ 8
  st : stopF i (xs.drop i) = stopF 0 xs
theorem stop_step {xs : List Str} {i : Nat} {x : Str} (hx : xs[i]? = some x) (n8 : i ≠ 8) (ok : okT x = true) : stopF i (xs.drop i) = stopF (i + 1) (xs.drop (i + 1)) := by
  have hi := (List.getElem?_eq_some_iff.mp hx).1
  have e : xs.drop i = x :: xs.drop (i + 1) := by
    rw [List.drop_eq_getElem_cons hi]
    congr 1
    exact (List.getElem?_eq_some_iff.mp hx).2
  rw [e, stopF, if_neg (fun c => by
    rcases c with c | c
    · exact n8 c
    · rw [ok] at c; cases c)]
theorem stop_here {xs : List Str} {i : Nat} {x : Str} (hx : xs[i]? = some x) (c : i = 8 ∨ okT x = false) : stopF i (xs.drop i) = some i := by
  have hi := (List.getElem?_eq_some_iff.mp hx).1
  have e : xs.drop i = x :: xs.drop (i + 1) := by
    rw [List.drop_eq_getElem_cons hi]
    congr 1
    exact (List.getElem?_eq_some_iff.mp hx).2
  rw [e, stopF, if_pos c]
theorem stop_end {xs : List Str} {i : Nat} (h : xs.length ≤ i) : stopF i (xs.drop i) = if i < 3 then some i else none := by
  rw [List.drop_eq_nil_of_le h, stopF]
theorem ok_rdR {C f fA fI cT fT : Addr} {c : Rs} {fd fdA fdI fdT : FuncData} (F : Fun K "read_ring" "read_ring" sReadRing f fd) (T : Bi mg) (N : Nm mg) (R : RingC K mg C) (G : TextP P w K mg base C c fI fdI) (A' : DefAt P w K mg base (L2.CX P w) 4 "number_at" ["items", "at", "least", "most"] (spNumAt K cT) fA fdA)
    (M : Err2At P w K mg base "BadText" "line" "item" cT fT fdT) : FnOk P w K mg base (L2.CX P w) 6 f fd ["items", "at"] (spRdR K C cT) := by
  refine F.okX scRd (fun vs H Q E h => ?_) (fun cdv A outer s H vs Q E hr h => ?_)
  · obtain ⟨a, xs, rfl, _⟩ := h
    rfl
  · have nd := scRd.nd
    obtain ⟨t3, h3⟩ := N.leastB
    obtain ⟨t8, h8⟩ := N.mostB
    obtain ⟨tM, hM⟩ := N.mostL
    refine ⟨_, pss_cons (ps_set (i := 2) nd rfl (Or.inl rfl) (pe_lst pa_nil))
      (pss_cons (ps_while (passes_of rfl) (PW.pt (pw_or (pt_cmpR op_lt (pe_callB call_len_seq (by rfl) T.len PySem.boot_len (pa_cons (pv 2) pa_nil)) (pe_glob (v := .int 3) rfl h3 ⟨_, rfl⟩) (nomark _)) (pw_or1 (pt_cmpR op_lt (pv 1) (pe_callB call_len_seq (by rfl) T.len PySem.boot_len (pa_cons (pv 0) pa_nil)) (nomark _)))))
        (pss_cons (ps_if (pt_cmpR op_eq (pe_callB call_len_seq (by rfl) T.len PySem.boot_len (pa_cons (pv 2) pa_nil)) (pe_glob (v := .int 8) rfl h8 ⟨_, rfl⟩) (nomark _)) (pss_one (ps_raise rfl (takes_of rfl rfl rfl rfl) (pmk_oex M.oex M.ic M.ti M.ok (hr.mono (by decide)) M.b .nil pass0 rfl M.g (pa_cons pe_int (pa_cons (pv 1) pa_nil))))) pss_nil)
        (pss_cons (ps_expr (pe_bm PySem.F.plainAttrs_list PySem.F.slot_list_append PySem.F.type_list_append mt_append (pv 2) (pa_cons (pe_call A'.ok (hr.mono (by decide)) rfl A'.g A'.kp A'.b .nil (passes_call (takes_of rfl rfl rfl rfl) (fun _ _ _ _ h => h)) (pa_cons (pv 0) (pa_cons (pv 1) (pa_cons pe_int (pa_cons (pe_glob (v := .int 1000000) rfl hM ⟨_, rfl⟩) pa_nil))))) pa_nil)))
        (pss_one (ps_aug (i := 1) nd rfl (.inl rfl) pe_int ip_add)))))
      (pss_one (ps_ret (pe_make G.made G.ok hr (by rfl) R.g G.b .nil (passes_call (takes_of rfl rfl rfl rfl) (fun _ _ _ _ h => h)) (pa_cons (pv 2) pa_nil))))), ?_⟩
    obtain ⟨a, xs, rfl, hs, hl, hx1, res⟩ := h
    refine ⟨(by show 0 ≤ sizeLine; decide), fun L hL => ?_⟩
    refine ⟨fun m σ H' => ∃ i, RdInv H a L xs i σ H' ∧ m = xs.length - i, ⟨_, 0, ⟨rfl, (Same.refl H).new hL, upd_same, Nat.zero_le _, by decide, rfl⟩, rfl⟩, ?_⟩
    rintro m σ H' ⟨i, ⟨rfl, s1, h1, i1, i8, st⟩, rfl⟩
    have len2 : (((xs.take i).map valT).map V.int).length = i := by
      rw [List.length_map, List.length_map, List.length_take]
      omega
    have hs1 := s1.seq hs
    have go : (i < 3 ∨ i < xs.length) → ((i = 8 → ErrT E cT i H') ∧ ((i ≠ 8) → ((xs.length ≤ i ∧ ErrT E cT xs.length H') ∨ ∃ x, xs[i]? = some x ∧ ((okT x = false ∧ ErrT E cT i H') ∨ (okT x = true ∧ True))))) := by
      intro c
      constructor
      · intro e8
        have hx : xs[i]? = some xs[i] := List.getElem?_eq_getElem (by omega)
        have e := stop_here hx (.inl e8)
        rw [st] at e
        rcases res with ⟨k, ek, er⟩ | ⟨en, _⟩
        · rw [e] at ek
          cases ek
          exact ErrT.later er s1
        · rw [e] at en; cases en
      · intro n8
        by_cases ci : i < xs.length
        · have hx : xs[i]? = some xs[i] := List.getElem?_eq_getElem ci
          refine .inr ⟨xs[i], hx, ?_⟩
          cases ho : okT xs[i] with
          | true => exact .inr ⟨rfl, True.intro⟩
          | false =>
            have e := stop_here hx (.inr ho)
            rw [st] at e
            rcases res with ⟨k, ek, er⟩ | ⟨en, _⟩
            · rw [e] at ek
              cases ek
              exact .inl ⟨rfl, ErrT.later er s1⟩
            · rw [e] at en; cases en
        · have ei : i = xs.length := by omega
          have e := stop_end (xs := xs) (i := i) (by omega)
          rw [st, if_pos (by omega)] at e
          rcases res with ⟨k, ek, er⟩ | ⟨en, _⟩
          · rw [e] at ek
            cases ek
            refine .inl ⟨by omega, ?_⟩
            rw [← ei]
            exact ErrT.later er s1
          · rw [e] at en; cases en
    refine ⟨_, rfl, L, _, rfl, .inl (SqL.of h1), _, _, rfl, rfl, _, rfl, ?_⟩
    rw [len2]
    by_cases c3 : i < 3
    · refine iteDT (by omega) (iteT ?_)
      have c : i < 3 ∨ i < xs.length := .inl c3
      refine ⟨fun σ2 H2 => RdInv H a L xs (i + 1) σ2 H2 ∧ i < xs.length, fun σ2 H2 h => ⟨xs.length - (i + 1), by have := h.2; omega, i + 1, h.1, rfl⟩, ?_⟩
      refine ⟨_, rfl, L, _, rfl, .inl (SqL.of h1), rfl, _, rfl, ?_⟩
      rw [len2, deqI]
      by_cases e8 : i = 8
      · refine iteDT (by omega) ⟨_, rfl, ?_⟩
        exact err_made2 M.oex M.nf M.ng ((go c).1 e8)
      refine iteDF (by omega) ?_
      refine ⟨_, rfl, Or.inl ⟨rfl, _, Or.inl (Or.inl h1)⟩, _, rfl, _, rfl, a, i, xs, rfl, hs1, hl, hx1, ?_⟩
      rcases (go c).2 e8 with ⟨n, er⟩ | ⟨x, hx, ⟨ho, er⟩ | ⟨ho, _⟩⟩
      · exact .inl ⟨n, er⟩
      · exact .inr ⟨x, hx, .inl ⟨ho, er⟩⟩
      · have hi := (List.getElem?_eq_some_iff.mp hx).1
        refine .inr ⟨x, hx, .inr ⟨ho, L, _, _, rfl, rfl, h1, (by rw [len2]; exact sm (by omega)), _, rfl, _, _, rfl, rfl, ⟨rfl, s1.mut hL, ?_, hi, by omega, ?_⟩, hi⟩⟩
        · rw [upd_same, ← take_snoc hx, List.map_append, List.map_append]
          rfl
        · rw [← stop_step hx e8 ho]
          exact st
    refine iteDF (by omega) ?_
    refine ⟨_, rfl, _, rfl, a, _, rfl, .inl hs1, _, _, rfl, rfl, _, rfl, ?_⟩
    rw [List.length_map]
    by_cases cl : i < xs.length
    · refine iteDT (by omega) ?_
      have c : i < 3 ∨ i < xs.length := .inr cl
      refine ⟨fun σ2 H2 => RdInv H a L xs (i + 1) σ2 H2 ∧ i < xs.length, fun σ2 H2 h => ⟨xs.length - (i + 1), by have := h.2; omega, i + 1, h.1, rfl⟩, ?_⟩
      refine ⟨_, rfl, L, _, rfl, .inl (SqL.of h1), rfl, _, rfl, ?_⟩
      rw [len2, deqI]
      by_cases e8 : i = 8
      · refine iteDT (by omega) ⟨_, rfl, ?_⟩
        exact err_made2 M.oex M.nf M.ng ((go c).1 e8)
      refine iteDF (by omega) ?_
      refine ⟨_, rfl, Or.inl ⟨rfl, _, Or.inl (Or.inl h1)⟩, _, rfl, _, rfl, a, i, xs, rfl, hs1, hl, hx1, ?_⟩
      rcases (go c).2 e8 with ⟨n, er⟩ | ⟨x, hx, ⟨ho, er⟩ | ⟨ho, _⟩⟩
      · exact .inl ⟨n, er⟩
      · exact .inr ⟨x, hx, .inl ⟨ho, er⟩⟩
      · have hi := (List.getElem?_eq_some_iff.mp hx).1
        refine .inr ⟨x, hx, .inr ⟨ho, L, _, _, rfl, rfl, h1, (by rw [len2]; exact sm (by omega)), _, rfl, _, _, rfl, rfl, ⟨rfl, s1.mut hL, ?_, hi, by omega, ?_⟩, hi⟩⟩
        · rw [upd_same, ← take_snoc hx, List.map_append, List.map_append]
          rfl
        · rw [← stop_step hx e8 ho]
          exact st
    refine iteDF (by omega) ?_
    have ei : i = xs.length := by omega
    have e := stop_end (xs := xs) (i := i) (by omega)
    rw [st, if_neg c3] at e
    rw [ei, List.take_length] at h1
    refine ⟨_, rfl, ?_⟩
    rcases res with ⟨k, ek, _⟩ | ⟨en, q⟩
    · rw [e] at ek; cases ek
    have lx : (xs.map valT).length = xs.length := List.length_map ..
    exact made (.inl h1) (by omega) (RingRes.fine (fun z hz => by
      obtain ⟨y, hy, rfl⟩ := List.mem_map.mp hz
      exact okT_val ((stop_none xs 0 en).1 y hy)) (by omega) (by omega) (q.later s1))
end
end K
namespace K
open PySem L2 Rg
open Evl (pss_cut)
open TL (tl tl_num numL numL_digits numL_len)
/-! ### joined texts -/
def textN (ls : List Int) : Str := Txt.join ⟨#[32]⟩ (ls.map numT)
theorem spc_free {x : Str} (h : NumText.AllDigits (tl x)) : 32 ∉ tl x := fun z => by have := h 32 z; omega
theorem num_free {i : Int} (h : 0 ≤ i) : 32 ∉ tl (numT i) := by
  refine spc_free ?_
  rw [tl_numT h]
  exact numL_digits _
/-- items without a blank are had back by the split of their text -/
theorem items_back {xs : List Str} (hne : xs ≠ []) (h : ∀ x ∈ xs, 32 ∉ tl x) : itemsT (Txt.join ⟨#[32]⟩ xs) = xs :=
  TL.split_join (s := 32) (S := []) rfl (by decide +kernel) hne h
theorem items_none : itemsT (Txt.join ⟨#[32]⟩ []) = [⟨#[]⟩] := by decide +kernel
theorem text_back (x : Str) : Txt.join ⟨#[32]⟩ (itemsT x) = x := by
  rw [TL.join_eq]
  exact StrLaws.join_split x _
theorem items_num {ls : List Int} (hne : ls ≠ []) (h : Bd 1000000 ls) : itemsT (textN ls) = ls.map numT := by
  refine items_back (fun z => hne (List.map_eq_nil_iff.mp z)) fun x hx => ?_
  obtain ⟨i, hi, rfl⟩ := List.mem_map.mp hx
  exact num_free (by have := h i hi; omega)
theorem num_len {i : Int} (h1 : 1 ≤ i) (h2 : i ≤ 1000000) : (numT i).length ≤ 7 := by
  rw [TL.len_tl, tl_numT (by omega)]
  exact numL_len (by decide) (by omega)
theorem join_len {xs : List Str} {m : Nat} (h : ∀ x ∈ xs, x.length ≤ m) : (Txt.join ⟨#[32]⟩ xs).length ≤ (m + 1) * xs.length := by
  rw [TL.join_eq]
  cases xs with
  | nil => exact Nat.zero_le _
  | cons a l =>
    rw [PyProof.Rows.len_join_cons]
    have e : ∀ ys : List Str, (∀ x ∈ ys, x.length ≤ m) → (ys.map (·.length)).sum ≤ m * ys.length := by
      intro ys
      induction ys with
      | nil => intro _; exact Nat.zero_le _
      | cons b ys ih =>
        intro g
        have := ih fun x hx => g x (List.mem_cons_of_mem _ hx)
        have g1 := g b (List.mem_cons_self ..)
        rw [List.map_cons, List.sum_cons, List.length_cons, Nat.mul_succ]
        omega
    have e1 := e (a :: l) h
    have e2 : (⟨#[32]⟩ : Str).length = 1 := by decide
    rw [e2, Nat.mul_one, Nat.add_mul, Nat.one_mul]
    rw [List.length_cons] at e1 ⊢
    omega
theorem stop_num {ls : List Int} (h : Bd 1000000 ls) (l3 : 3 ≤ ls.length) (l8 : ls.length ≤ 8) : stopF 0 (ls.map numT) = none ∧ (ls.map numT).map valT = ls := by
  refine ⟨stop_all _ 0 (fun x hx => ?_) (by rw [List.length_map]; omega) (by rw [List.length_map]; omega), ?_⟩
  · obtain ⟨i, hi, rfl⟩ := List.mem_map.mp hx
    have := h i hi
    exact okT_num this.1 this.2
  · rw [List.map_map]
    conv => rhs; rw [← List.map_id ls]
    refine List.map_congr_left fun i hi => ?_
    have := h i hi
    exact valT_num (by omega)
theorem back_num {xs : List Str} (h : ∀ x ∈ xs, okT x = true) : (xs.map valT).map numT = xs := by
  rw [List.map_map]
  conv => rhs; rw [← List.map_id xs]
  exact List.map_congr_left fun x hx => okT_back (h x hx)
section
variable {P : Program} {w : World} {K : PySem.W.Frag} {mg : Str → Option Value} {base : Heap}
/-! ### Ring.read -/
def spRead (K : PySem.W.Frag) (C cT : Addr) : Sp := fun vs H Q E => spItO K cT vs H Q E ∨ ∃ x : Str, vs = [.str x] ∧ x.length ≤ 1000 ∧ ReadRes K C cT E H (itemsT x) Q
theorem scRead : FnScope ["text"] ["text"] (defScope sRingRead) := ⟨rfl, rfl, rfl, by decide +kernel, rfl, by decide +kernel, by decide +kernel⟩
theorem ok_read {C f fI fR cT : Addr} {fd fdI fdR : FuncData} (F : Fun K "read" "Ring.read" sRingRead f fd) (T : Bi mg)
    (I : DefAt P w K mg base (L2.CX P w) 3 "items_of" ["text"] (fun vs H Q E => spItO K cT vs H Q E ∨ spItS vs H Q E) fI fdI) (R : DefAt P w K mg base (L2.CX P w) 6 "read_ring" ["items", "at"] (spRdR K C cT) fR fdR) : FnOk P w K mg base (L2.CX P w) 7 f fd ["text"] (spRead K C cT) := by
  refine F.okX scRead (fun vs H Q E h => ?_) (fun cdv A outer s H vs Q E hr h => ?_)
  · rcases h with ⟨v, t, rfl, _⟩ | ⟨x, rfl, _⟩ <;> rfl
  · refine ⟨_, pss_one (ps_ret (pe_call R.ok hr rfl R.g R.kp R.b .nil (passes_call (takes_of rfl rfl rfl rfl) (fun _ _ _ _ h => h)) (pa_cons (pe_call I.ok (hr.mono (by decide)) rfl I.g I.kp I.b .nil (passes_call (takes_of rfl rfl rfl rfl) (fun _ _ _ _ h => h)) (pa_cons (pv 0) pa_nil)) (pa_cons pe_int pa_nil)))), ?_⟩
    rcases h with ⟨v, t, rfl, ty, kt, er⟩ | ⟨x, rfl, hx, res⟩
    · exact ⟨_, rfl, .inl ⟨v, t, rfl, ty, kt, er⟩⟩
    · refine ⟨_, rfl, .inr ⟨x, rfl, hx, fun p H' hp s => ⟨p, itemsT x, rfl, SqL.of hp, ?_, fun y hy => ?_, res.later s⟩⟩⟩
      · have := items_len x
        show (Txt.split x ⟨#[32]⟩).length ≤ 1002
        omega
      · have := item_len hy
        omega
/-! ### len, ==, str of a ring -/
def spRLen (K : PySem.W.Frag) (C : Addr) : Sp := fun vs H Q _ => ∃ (r : Addr) (ls : List Int), vs = [.ref r] ∧ RingW K C H r ls ∧ Q (.int ls.length) H
theorem scRLen : FnScope ["self"] ["self"] (defScope sRingLen) := ⟨rfl, rfl, rfl, by decide +kernel, rfl, by decide +kernel, by decide +kernel⟩
theorem ok_rlen {C f : Addr} {fd : FuncData} (F : Fun K "__len__" "Ring.__len__" sRingLen f fd) (T : Bi mg) (R : RingC K mg C) : FnOk P w K mg base CX0 1 f fd ["self"] (spRLen K C) := by
  refine F.ok scRLen (fun vs H Q E h => ?_) (fun cdv A outer s H vs Q E hr h => ?_)
  · obtain ⟨r, ls, rfl, _⟩ := h
    rfl
  · refine ⟨_, pss_one (ps_ret (pe_callB call_len_seq (by rfl) T.len PySem.boot_len (pa_cons (pe_fld (pv 0) rfl) pa_nil))), ?_⟩
    obtain ⟨r, ls, rfl, ⟨dx, t, hr0, ht⟩, q⟩ := h
    refine ⟨_, rfl, r, C, dx, _, _, rfl, hr0, R.cl, R.nL, rf_lengths _ _, t, _, rfl, .inr (.inl (.inl ht)), ?_⟩
    rw [List.length_map]
    exact q
theorem sh_tup (l : List Int) : SeqAt.shaped (.tuple (l.map PyData.int)) = true := by
  simp [SeqAt.shaped, PyData.canLay0, PyData.depth, lay_ints l, deep_ints l]
theorem eqv_tup (a b : List Int) : PyData.eqv (.tuple (a.map PyData.int)) (.tuple (b.map PyData.int)) = decide (a = b) := by
  simp [PyData.eqv, eqvA_ints]
def spREq1 (K : PySem.W.Frag) (C : Addr) : Sp := fun vs H Q _ => ∃ (r s : Addr) (ls ms : List Int), vs = [.ref r, .ref s] ∧ RingW K C H r ls ∧ RingW K C H s ms ∧ Q (.bl (decide (ls = ms))) H
def spREqF (K : PySem.W.Frag) (C : Addr) : Sp := fun vs H Q _ => ∃ (r : Addr) (v : V) (t : Value), vs = [.ref r, v] ∧ TyX K H v t ∧ PySem.W.kitOne K t (.ref C) = some false ∧ Q (.bl false) H
def spREq (K : PySem.W.Frag) (C : Addr) : Sp := fun vs H Q E => spREq1 K C vs H Q E ∨ spREqF K C vs H Q E
theorem scREq : FnScope ["self", "other"] ["self", "other"] (defScope sRingEq) := ⟨rfl, rfl, rfl, by decide +kernel, rfl, by decide +kernel, by decide +kernel⟩
theorem ok_req {C f : Addr} {fd : FuncData} (F : Fun K "__eq__" "Ring.__eq__" sRingEq f fd) (T : Bi mg) (R : RingC K mg C) : FnOk P w K mg base CX0 2 f fd ["self", "other"] (spREq K C) := by
  refine F.ok scREq (fun vs H Q E h => ?_) (fun cdv A outer s H vs Q E hr h => ?_)
  · rcases h with ⟨r, s, ls, ms, rfl, _⟩ | ⟨r, v, t, rfl, _⟩ <;> rfl
  · refine ⟨_, pss_one (ps_ret (pe_and (pe_callB call_isi (by rfl) T.isinstance (by decide +kernel) (pa_cons (pv 1) (pa_cons (pe_glob (v := .ref C) rfl R.g rfl) pa_nil))) (pe_one (pe_cmpR (op_eqD hr.units) (pe_fld (pv 0) rfl) (pe_fld (pv 1) rfl) (nomark _))))), ?_⟩
    rcases h with ⟨r, s', ls, ms, rfl, ⟨dx, t, hr0, ht⟩, ⟨dy, u, hs0, hu⟩, q⟩ | ⟨r, v, t, rfl, ty, kt, q⟩
    · refine ⟨_, rfl, .ref s', .ref C, _, _, _, rfl, .own C, .base (.ins hs0 R.cl R.ha R.hn R.ht R.hm), kit_self, _, rfl, iteT ?_⟩
      refine ⟨_, rfl, r, C, dx, _, _, rfl, hr0, R.cl, R.nL, rf_lengths _ _, _, rfl, s', C, dy, _, _, rfl, hs0, R.cl, R.nL, rf_lengths _ _, _, _, .tup (.inl (.inl ht)) (dp_ints _), .tup (.inl (.inl hu)) (dp_ints _), sh_tup _, sh_tup _, ?_⟩
      rw [eqv_tup]
      exact q
    · exact ⟨_, rfl, v, .ref C, _, _, _, rfl, .own C, ty, kt, _, rfl, iteF q⟩
def spStrR (K : PySem.W.Frag) (C : Addr) : Sp := fun vs H Q _ => ∃ (r : Addr) (ls : List Int), vs = [.ref r] ∧ RingW K C H r ls ∧ ls.length ≤ 8 ∧ Bd 1000000 ls ∧ ∀ H', Same H H' → Q (.str (textN ls)) H'
abbrev nStrR : List Str := ["self", "length"]
theorem scStrR : FnScope nStrR ["self"] (defScope sRingStr) := ⟨rfl, rfl, rfl, by decide +kernel, rfl, by decide +kernel, by decide +kernel⟩
theorem log_small {i : Int} (h1 : 1 ≤ i) (h2 : i ≤ 1000000) : i.natAbs.log2 < 1920 := by
  refine (Nat.log2_lt (by omega)).mpr (Nat.lt_of_lt_of_le (show i.natAbs < 2 ^ 20 by omega) (Nat.pow_le_pow_right (by decide) (by decide)))
theorem sum_small {ls : List Int} (bd : Bd 1000000 ls) : ((ls.map numT).map (·.length)).sum ≤ 7 * ls.length := by
  induction ls with
  | nil => exact Nat.le_refl _
  | cons a l ih =>
    have ba := bd a (List.mem_cons_self ..)
    have := num_len ba.1 ba.2
    have := ih fun x hx => bd x (List.mem_cons_of_mem _ hx)
    rw [List.map_cons, List.map_cons, List.sum_cons, List.length_cons]
    omega
theorem ok_strR {C f : Addr} {fd : FuncData} (F : Fun K "__str__" "Ring.__str__" sRingStr f fd) (Ts : mg "str" = none) (R : RingC K mg C) : FnOk P w K mg base CX0 2 f fd ["self"] (spStrR K C) := by
  refine F.ok scStrR (fun vs H Q E h => ?_) (fun cdv A outer s H vs Q E hr h => ?_)
  · obtain ⟨r, ls, rfl, _⟩ := h
    rfl
  · have nd := scStrR.nd
    refine ⟨_, pss_one (ps_ret (pe_join pe_str (pe_lc (own := [("length", 1)]) (g := gName 1) (tt := tYes) rfl nd (pi_tup (pe_fld (pv 0) rfl))
        (blkOk_by (N := nStrR) (sc := defScope sRingStr) (by decide +kernel)) (fun _ _ _ _ _ => pg_name (i := 1) nd rfl (Or.inl rfl)) (fun _ _ _ _ _ => pts_nil) (fun _ _ _ _ _ => pe_callTy call_str_int (by rfl) Ts (by decide +kernel) (pa_cons (pv 1) pa_nil))))), ?_⟩
    obtain ⟨r, ls, rfl, ⟨dx, t, hr0, ht⟩, l8, bd, q⟩ := h
    refine ⟨⟨_, rfl⟩, _, rfl, r, C, dx, _, _, rfl, hr0, R.cl, R.nL, rf_lengths _ _, t, rfl, ⟨_, .inl (.inl ht)⟩, fun D hD => ?_⟩
    refine lc_tup (K := K) (a := t) (xs := ls.map V.int) (fun i H' => Same H H' ∧ H' D = some (.lst (((ls.take i).map numT).map V.str))) ⟨(Same.refl H).new hD, upd_same⟩ (fun i H' _ q => .inl (.inl (q.1 _ _ ht))) ?_ ?_
    · rintro i x H' hi ⟨s2, h2⟩
      obtain ⟨z, hz, rfl⟩ := int_at hi
      have bz := bd z (List.mem_of_getElem? hz)
      have hil : i < ls.length := (List.getElem?_eq_some_iff.mp hz).1
      refine ⟨rfl, _, rfl, z, rfl, log_small bz.1 bz.2, _, h2, (by rw [List.length_map, List.length_map, List.length_take]; exact sm (by omega)), s2.mut hD, ?_⟩
      rw [upd_same, ← take_snoc hz, List.map_append, List.map_append]
      rfl
    · rintro H' ⟨s2, h2⟩
      rw [List.length_map, List.take_length] at h2
      refine ⟨_, D, _, rfl, rfl, .inl (SqL.of h2), ?_, ?_⟩
      · have := sum_small bd
        rw [List.length_map]
        show _ + ls.length * 1 ≤ 16777216
        omega
      · rw [spc_eq]
        exact q _ s2
end
end K
namespace K
open PySem L2 Rg LamX
open Evl (pss_cut)
/-- isinstance(e, c), e the caught error with its dict -/
def rIsX (K : PySem.W.Frag) (a : Addr) (cls : Value) (d : Option Addr) : List V → Hp → VK → Prop := fun xs H Q => ∃ (c : V) (cv : Value) (b : Bool) (D dd : Addr) (fs : List (Str × V)), xs = [.ref a, c] ∧ (∀ u, RelV c u → u = cv) ∧ cls = .ref D ∧ ExcC K D ∧ d = some dd ∧ H dd = some (.xd fs) ∧ PySem.W.kitOne K (.ref D) cv = some b ∧ Q (.bl b) H
theorem cr_isX {X : Cx} {a : Addr} {cls : Value} {d : Option Addr} {oe : Obj} {pn : List (Addr × Obj)} (hz : Zc cls d oe) (hf : ∃ vs, oe.data = .fields vs) : CallR (X.suite a ((a, oe) :: pn)) (.builtin "isinstance") (rIsX X.K a cls d) := by
  intro pins s σ H xs us Q I r ⟨c, cv, b, D, dd, fs, ex, hcv, ec, C, ed, hdd, e, q⟩
  subst ex ec ed
  obtain ⟨u1, u2, rfl, r1, r2⟩ := vals2 r
  obtain rfl : u1 = Value.ref a := r1
  obtain rfl := hcv _ r2
  obtain ⟨hget, _⟩ := I.pin (a, oe) (List.mem_append_left _ List.mem_cons_self)
  obtain ⟨vs, hv⟩ := hf
  obtain ⟨mA, hns, _⟩ := (show ObjOk X.prog X.w H s.heap dd (.xd fs) from I.hok dd _ hdd)
  obtain ⟨od, ho, _⟩ := lookIn_ns hns
  have J : PySem.W.InstAt s.heap a oe D (some od) := ⟨hget, hz.1, by unfold PySem.W.notCls; rw [hv] <;> rfl, by rw [hz.2]; exact ho⟩
  have hcl : (PySem.W.clsIn X.K D).isSome = true := by
    obtain ⟨cd, hc, _⟩ := PySem.W.any_some C.hd
    rw [hc]
    rfl
  exact PySem.W.kia_one (PySem.W.kitx_exc hcl C.hg C.hk C.hs C.ha C.hn C.ht C.hm) I.kIn J e (fun z => nomatch z) fun tk => ⟨.bl b, H, I.kept (t' := tk) fun _ _ z => z, rfl, q⟩
structure Hs where
  r : Addr
  m : Addr
  t : Addr
/-- what the written part says of the errors that are heard -/
structure HeardC (K : PySem.W.Frag) (mg : Str → Option Value) (c : Hs) (eR : Addr) : Prop where
  gRE : mg "RingError" = some (.ref eR)
  gr : mg "BadRing" = some (.ref c.r)
  er : ExcC K c.r
  xr : XfC K c.r
  mr : PySem.W.exmOne K (.ref c.r) (.ref eR) = some true
  nrpart : PySem.W.findIn K (.ref c.r) "part" = some none
  gm : mg "TooMany" = some (.ref c.m)
  em : ExcC K c.m
  xm : XfC K c.m
  mm : PySem.W.exmOne K (.ref c.m) (.ref eR) = some true
  nmwhat : PySem.W.findIn K (.ref c.m) "what" = some none
  nmmost : PySem.W.findIn K (.ref c.m) "most" = some none
  gt : mg "BadText" = some (.ref c.t)
  et : ExcC K c.t
  xt : XfC K c.t
  mt : PySem.W.exmOne K (.ref c.t) (.ref eR) = some true
  ntline : PySem.W.findIn K (.ref c.t) "line" = some none
  ntitem : PySem.W.findIn K (.ref c.t) "item" = some none
  kmr : PySem.W.kitOne K (.ref c.m) (.ref c.r) = some false
  ktr : PySem.W.kitOne K (.ref c.t) (.ref c.r) = some false
  ktm : PySem.W.kitOne K (.ref c.t) (.ref c.m) = some false
inductive Tells (c : Hs) : Addr → List (Str × V) → List V → Prop where
  | r (v : V) : Tells c c.r [("part", v)] [.str "ring", v]
  | m (v u : V) : Tells c c.m [("most", u), ("what", v)] [.str "many", v, u]
  | t (v u : V) : Tells c c.t [("item", u), ("line", v)] [.str "text", v, u]
/-- one of the errors comes: a tuple tells which, and its fields -/
def Told (c : Hs) (Q : VK) : XK := fun cls d H' => ∃ (C dd : Addr) (fs : List (Str × V)) (its : List V), cls = .ref C ∧ d = some dd ∧ H' dd = some (.xd fs) ∧ Tells c C fs its ∧ ∀ p H2, Same H' H2 → H2 p = some (.tup its) → Q (.ref p) H2
def THeard (c : Hs) : (XK → Hp → VK → Prop) → Hp → VK → Prop := fun tl H Q => ∀ e, H e = none → tl (Told c Q) (upd H e (.tup [])) fun _ H' => ∃ v, (some (some (V.ref e)) : Option (Option V)) = some (some v) ∧ Q v H'
theorem takes_len {X : Cx} {W : WX} (t : Takes X W) : Takes X fun c d σ H => σ.length = X.N.length → W c d σ H := fun u s' ⟨a, B, sI, pins, σ, H, cls, d, e, I, nb, up, sky, na, os, ag, w⟩ =>
  t u s' ⟨a, B, sI, pins, σ, H, cls, d, e, I, nb, up, sky, na, os, ag, w I.len⟩
abbrev nHeard : List Str := ["_law_ask", "_law_found", "error"]
theorem scHeard : FnScope nHeard ["_law_ask"] (defScope sLwHeard) := ⟨rfl, rfl, rfl, by decide +kernel, rfl, by decide +kernel, by decide +kernel⟩
theorem heard_gives {X : Cx} {c : Hs} {eR g : Addr} {cdg : Value} {q : Str} (T : Bi X.mg) (Hc : HeardC X.K X.mg c eR) : GivesTo X nHeard "_law_heard" (defScope sLwHeard) g cdg (defBody sLwHeard) "_law_ask" q (THeard c) := by
  intro f c' s H Q tl act hc h
  have nd := scHeard.nd
  refine ⟨_, pss_cons (ps_set (i := 1) nd rfl (Or.inl rfl) (pe_tup pa_nil))
    (pss_cons (ps_try_as (X := (cxOf C8.CX0 X.prog X.w X.K X.mg X.base nHeard "_law_heard" (defScope sLwHeard) g cdg X.A X.stack s H C8.E0).nox) (c := .ref eR) (i := 2)
      (tb := fun W D σ H => ∃ Ech : XK, (∀ cls d σ' H', Ech cls d H' → σ'.length = 3 → W cls d σ' H') ∧ σ[0]? = some (some (.ref f)) ∧ H c' = some (CodeO c' q) ∧ tl Ech H fun _ H' => D.nx σ H')
      rfl rfl nd rfl rfl ⟨rfl, rfl, .inl Hc.gRE⟩ L2.takes0 (fun W pn xe tk _ => ?_) (fun a oe cls d pn hz hf =>
        pss_cons (ps_set (i := 1) nd rfl (Or.inl rfl) (pe_tup (pa_cons pe_str pa_nil)))
        (pss_one (ps_if (pt_val (pe_callB (cr_isX hz hf) (by rfl) T.isinstance (by decide +kernel) (pa_cons (pv 2) (pa_cons (pe_glob (v := .ref c.r) rfl Hc.gr rfl) pa_nil))))
          (pss_one (ps_set (i := 1) nd rfl (Or.inl rfl) (pe_tup (pa_cons pe_str (pa_cons (pe_xf Hc.xr Hc.nrpart hz hf (pv 2)) pa_nil))))) (pss_one (ps_if (pt_val (pe_callB (cr_isX hz hf) (by rfl) T.isinstance (by decide +kernel) (pa_cons (pv 2) (pa_cons (pe_glob (v := .ref c.m) rfl Hc.gm rfl) pa_nil))))
          (pss_one (ps_set (i := 1) nd rfl (Or.inl rfl) (pe_tup (pa_cons pe_str (pa_cons (pe_xf Hc.xm Hc.nmwhat hz hf (pv 2)) (pa_cons (pe_xf Hc.xm Hc.nmmost hz hf (pv 2)) pa_nil)))))) (pss_one (ps_if (pt_val (pe_callB (cr_isX hz hf) (by rfl) T.isinstance (by decide +kernel) (pa_cons (pv 2) (pa_cons (pe_glob (v := .ref c.t) rfl Hc.gt rfl) pa_nil))))
          (pss_one (ps_set (i := 1) nd rfl (Or.inl rfl) (pe_tup (pa_cons pe_str (pa_cons (pe_xf Hc.xt Hc.ntline hz hf (pv 2)) (pa_cons (pe_xf Hc.xt Hc.ntitem hz hf (pv 2)) pa_nil)))))) pss_nil))))))))
    (pss_one (ps_ret (pv 1)))), ?_⟩
  · refine ⟨fun pins s' σ H' D I h' => ?_⟩
    obtain ⟨Ech, hW, h1, h2, h3⟩ := h'
    exact (pss_one (ps_expr (act _ pn xe Ech _ _ (takes_len tk) hW))).run pins s' σ H' D I ⟨h1, h2, h3⟩
  · refine ⟨(by show 0 ≤ sizeLine; decide), fun e he => ⟨Told c Q, ?_, rfl, ?_, h e he⟩⟩
    · rintro cls d σ' H' ⟨C, dd, fs, its, rfl, rfl, hdd, tells, q⟩ hl
      obtain ⟨x0, x1, x2, rfl⟩ : ∃ x0 x1 x2, σ' = [x0, x1, x2] := by
        match σ', hl with
        | [x0, x1, x2], _ => exact ⟨x0, x1, x2, rfl⟩
      cases tells
      · rename_i v
        refine ⟨true, Hc.mr, fun _ a ha => ?_, fun z => by cases z⟩
        refine ⟨(by show 1 ≤ sizeLine; decide), fun y hy => ?_⟩
        have s1 : Same H' (upd H' y (.tup [.str "other"])) := (Same.refl H').new hy
        refine ⟨_, rfl, .ref c.r, .ref c.r, true, c.r, dd, _, rfl, fun _ r => r, rfl, Hc.er, rfl, s1 _ _ hdd, kit_self, _, rfl, iteT ?_⟩
        refine ⟨_, rfl, rfl, rfl, dd, _, v, rfl, s1 _ _ hdd, by simp [List.lookup], (by show 2 ≤ sizeLine; decide), fun p hp => ?_⟩
        exact ⟨_, rfl, q p _ (s1.new hp) upd_same⟩
      · rename_i v u
        refine ⟨true, Hc.mm, fun _ a ha => ?_, fun z => by cases z⟩
        refine ⟨(by show 1 ≤ sizeLine; decide), fun y hy => ?_⟩
        have s1 : Same H' (upd H' y (.tup [.str "other"])) := (Same.refl H').new hy
        refine ⟨_, rfl, .ref c.r, .ref c.r, false, c.m, dd, _, rfl, fun _ r => r, rfl, Hc.em, rfl, s1 _ _ hdd, Hc.kmr, _, rfl, iteF ?_⟩
        refine ⟨_, rfl, .ref c.m, .ref c.m, true, c.m, dd, _, rfl, fun _ r => r, rfl, Hc.em, rfl, s1 _ _ hdd, kit_self, _, rfl, iteT ?_⟩
        refine ⟨_, rfl, rfl, rfl, dd, _, v, rfl, s1 _ _ hdd, by rw [List.lookup_cons, show (("what" : Str) == "most") = false from by decide +kernel]; simp [List.lookup], _, rfl, rfl, rfl, dd, _, u, rfl, s1 _ _ hdd, by simp [List.lookup], (by show 3 ≤ sizeLine; decide), fun p hp => ?_⟩
        exact ⟨_, rfl, q p _ (s1.new hp) upd_same⟩
      · rename_i v u
        refine ⟨true, Hc.mt, fun _ a ha => ?_, fun z => by cases z⟩
        refine ⟨(by show 1 ≤ sizeLine; decide), fun y hy => ?_⟩
        have s1 : Same H' (upd H' y (.tup [.str "other"])) := (Same.refl H').new hy
        refine ⟨_, rfl, .ref c.r, .ref c.r, false, c.t, dd, _, rfl, fun _ r => r, rfl, Hc.et, rfl, s1 _ _ hdd, Hc.ktr, _, rfl, iteF ?_⟩
        refine ⟨_, rfl, .ref c.m, .ref c.m, false, c.t, dd, _, rfl, fun _ r => r, rfl, Hc.et, rfl, s1 _ _ hdd, Hc.ktm, _, rfl, iteF ?_⟩
        refine ⟨_, rfl, .ref c.t, .ref c.t, true, c.t, dd, _, rfl, fun _ r => r, rfl, Hc.et, rfl, s1 _ _ hdd, kit_self, _, rfl, iteT ?_⟩
        refine ⟨_, rfl, rfl, rfl, dd, _, v, rfl, s1 _ _ hdd, by rw [List.lookup_cons, show (("line" : Str) == "item") = false from by decide +kernel]; simp [List.lookup], _, rfl, rfl, rfl, dd, _, u, rfl, s1 _ _ hdd, by simp [List.lookup], (by show 3 ≤ sizeLine; decide), fun p hp => ?_⟩
        exact ⟨_, rfl, q p _ (s1.new hp) upd_same⟩
    · exact ((Same.refl H).new he) _ _ hc
/-- a lambda that raises is heard -/
theorem hear {c : Hs} {C : Addr} {fs : List (Str × V)} {its : List V} (te : Tells c C fs its) {T : List (Addr × Str)} {H : Hp} {σ : St} {t : XK → TE} {Q : VK} (tab : Tabs T H)
    (body : ∀ (E' : XK) (J : Hp) (Q' : VK), ExtN H J → ErrsF E' C fs J → t E' σ J Q') (k : ∀ M p, ExtN H M → Tabs T M → M p = some (.tup its) → Q (.ref p) M) : tLam T (THeard c) t σ H Q := by
  refine ⟨tab, fun I extI tabsI e ne => ?_⟩
  have sI : Same I (upd I e (.tup [])) := (Same.refl I).new ne
  have xI : ExtN H (upd I e (.tup [])) := extI.trans (ExtN.of sI)
  refine body _ _ _ xI fun d L sL nd xd => ⟨C, d, fs, its, rfl, rfl, xd, te, fun p M sM hp => k M p (xI.trans (ExtN.of (sL.trans sM))) ((tabsI.ext sI).ext (sL.trans sM)) hp⟩
/-- all but what stands at h and the tables stay -/
def Kp (h : Addr) (H H' : Hp) : Prop := ∀ b o, b ≠ h → H b = some o → (∀ ps, o ≠ .tbl ps) → H' b = some o
theorem Kp.of_but {h : Addr} {H H' : Hp} (b : But h H H') : Kp h H H' := fun a o n e _ => b a o n e
theorem Kp.ext {h : Addr} {H H1 H2 : Hp} (a : Kp h H H1) (e : ExtN H1 H2) : Kp h H H2 := fun b o n q t => e b o (a b o n q t) t
theorem Kp.same {h : Addr} {H H1 H2 : Hp} (a : Kp h H H1) (s : Same H1 H2) : Kp h H H2 := fun b o n q t => s b o (a b o n q t)
theorem Kp.but {h : Addr} {H H1 H2 : Hp} (a : Kp h H H1) (s : But h H1 H2) : Kp h H H2 := fun b o n q t => s b o n (a b o n q t)
theorem Kp.trans {h : Addr} {H H1 H2 : Hp} (a : Kp h H H1) (s : Kp h H1 H2) : Kp h H H2 := fun b o n q t => s b o n (a b o n q t) t
theorem tabS_but {h : Addr} {xs : List V} {H H' : Hp} {P : Addr} {q : Str} (t : TabS H P q) (b : But h H H') (hh : H h = some (.lst xs)) : TabS H' P q := by
  obtain ⟨ps, h1, h2, h3⟩ := t
  refine ⟨ps, b _ _ (fun e => ?_) h1, h2, fun pos cv hc => ?_⟩
  · rw [e, hh] at h1
    cases h1
  · obtain ⟨c, e1, e2⟩ := h3 pos cv hc
    refine ⟨c, e1, b _ _ (fun e => ?_) e2⟩
    rw [e, hh] at e2
    cases e2
theorem tabs_but {h : Addr} {xs : List V} {H H' : Hp} {T : List (Addr × Str)} (t : Tabs T H) (b : But h H H') (hh : H h = some (.lst xs)) : Tabs T H' := fun p hp => tabS_but (t p hp) b hh
abbrev qTx : Str := "_law_text_right.<locals>.<lambda>"
abbrev qRf : Str := "_law_refused_right.<locals>.<lambda>"
abbrev T2 (P1 P2 : Addr) : List (Addr × Str) := [(P1, qTx), (P2, qRf)]
/-- a def whose code object stands at c -/
structure FunC (K : PySem.W.Frag) (x qual : Str) (st : Stmt) (f : Addr) (fd : FuncData) (c : Addr) : Prop where
  ex : ∃ (oc : Value) (od : Option Addr) (kV doc pm : Value) (an : Option Addr) (ct : Value) (osl : Array (Option Value)),
    fd = PySem.W.fnOf x qual (defArgs st) (defBody st) (defScope st) .none kV doc pm an (.ref c) ct ∧ K.lookup f = some ⟨oc, od, .func fd, osl⟩ ∧ PySem.W.codeIn K (.ref c) qual = true
theorem FunC.ok {P : Program} {w : World} {K : PySem.W.Frag} {mg : Str → Option Value} {base : Heap} {x qual : Str} {st : Stmt} {f c : Addr} {fd : FuncData} {N ps : List Str} {k : Nat} {sp : Sp} (F : FunC K x qual st f fd c) (S : FnScope N ps (defScope st)) (len : ∀ vs H Q E, sp vs H Q E → vs.length = ps.length)
    (hbody : ∀ (A : Around) (outer : List Env) (s : Shared) (H : Hp) (vs : List V) (Q : VK) (E : XK), Room k (A.deeper (PyProof.Rows.envOfC qual (defScope st) s.heap.objs.size f (.ref c))) → sp vs H Q E →
      ∃ t, PSs (cxOf CX0 P w K mg base N qual (defScope st) f (.ref c) A outer s H E).nox (defBody st) t ∧ t { nx := fun _ H' => Q .non H', rt := Q } (L2.start N vs) H) : FnOk P w K mg base CX0 (k + 1) f fd ps sp := by
  obtain ⟨oc, od, kV, doc, pm, an, ct, osl, rfl, lk, hcd⟩ := F.ex
  exact fn_of lk hcd S len fun A outer s H vs Q E hr hsp => by
    obtain ⟨t, h, q⟩ := hbody A outer s H vs Q E hr hsp
    exact ⟨t, h.nox, q⟩
theorem Same.ext {H H' : Hp} (s : Same H H') : ExtN H H' := ExtN.of s
theorem RingW.ext {K : PySem.W.Frag} {C : Addr} {H H' : Hp} {r : Addr} {ls : List Int} (h : RingW K C H r ls) (s : ExtN H H') : RingW K C H' r ls := by
  obtain ⟨dx, t, h1, h2⟩ := h
  exact ⟨dx, t, s _ _ h1 (fun _ z => nomatch z), s _ _ h2 (fun _ z => nomatch z)⟩
theorem PenAt.ext {K : PySem.W.Frag} {H H' : Hp} {p : Addr} {e : Addr × List Int} {n : Nat} (h : PenAt K H p e n) (s : ExtN H H') : PenAt K H' p e n := by
  obtain ⟨a, r, h1, h5, h6, h7⟩ := h.ex
  refine ⟨⟨a, r, s _ _ h1 (fun _ z => nomatch z), h5, h6, h7⟩, ?_, h.np, h.ln⟩
  rcases h.sq with (z | ⟨o, z⟩) | z
  · exact .inl (.inl (s _ _ z (fun _ z => nomatch z)))
  · exact .inl (.inr ⟨o, s _ _ z (fun _ z => nomatch z)⟩)
  · exact .inr z
end K
namespace K
open PySem L2 Rg
open Evl (pss_cut)
theorem perm_sum {a b : List Int} (h : a.Perm b) : a.sum = b.sum := by
  induction h with
  | nil => rfl
  | cons x _ ih => rw [List.sum_cons, List.sum_cons, ih]
  | swap x y l => simp only [List.sum_cons]; omega
  | trans _ _ ih1 ih2 => exact ih1.trans ih2
theorem lsum_perm {ls a b : List Int} (h : a.Perm b) : lsum ls a = lsum ls b := perm_sum (h.map _)
theorem get_len {ls : List Int} {b : Int} (h0 : 0 ≤ b) (h1 : b < (ls.length : Int)) : atI (ls.map V.int) b = some (V.int (ls.getD b.toNat 0)) := by
  have hb : b.toNat < ls.length := by omega
  refine at_of (j := b.toNat) (by omega) ?_
  rw [int_get hb, List.getD_eq_getElem?_getD, List.getElem?_eq_getElem hb]
  rfl
/-! ### all lots -/
def lotsN : Nat → List (List Int)
  | 0 => [[]]
  | n + 1 => lotsN n ++ (lotsN n).map (· ++ [(n : Int)])
def barsN : Nat → List Int
  | 0 => []
  | n + 1 => barsN n ++ [(n : Int)]
theorem lotsN_succ (n : Nat) : lotsN (n + 1) = lotsN n ++ (lotsN n).map (· ++ [(n : Int)]) := rfl
theorem barsN_succ (n : Nat) : barsN (n + 1) = barsN n ++ [(n : Int)] := rfl
theorem barsN_length : ∀ n, (barsN n).length = n
  | 0 => rfl
  | n + 1 => by unfold barsN; rw [List.length_append, barsN_length n]; rfl
theorem lotsN_length : ∀ n, (lotsN n).length = 2 ^ n
  | 0 => rfl
  | n + 1 => by unfold lotsN; rw [List.length_append, List.length_map, lotsN_length n, Nat.pow_succ]; omega
theorem lotsN_len : ∀ n, ∀ l ∈ lotsN n, l.length ≤ n
  | 0, l, h => by rw [List.mem_singleton.mp h]; exact Nat.le_refl _
  | n + 1, l, h => by
    rcases List.mem_append.mp h with h | h
    · exact Nat.le_succ_of_le (lotsN_len n l h)
    · obtain ⟨a, ha, rfl⟩ := List.mem_map.mp h
      have := lotsN_len n a ha
      rw [List.length_append, List.length_singleton]
      omega
theorem lotsN_full : ∀ n, ∀ l ∈ lotsN n, l.length = n → l = barsN n
  | 0, l, h, _ => List.mem_singleton.mp h
  | n + 1, l, h, hl => by
    rcases List.mem_append.mp h with h | h
    · have := lotsN_len n l h
      omega
    · obtain ⟨a, ha, rfl⟩ := List.mem_map.mp h
      rw [List.length_append, List.length_singleton] at hl
      rw [lotsN_full n a ha (by omega)]
      rfl
theorem lotsN_in : ∀ n, ∀ l ∈ lotsN n, ∀ b ∈ l, 0 ≤ b ∧ b < n
  | 0, l, h, b, hb => by rw [List.mem_singleton.mp h] at hb; cases hb
  | n + 1, l, h, b, hb => by
    rcases List.mem_append.mp h with h | h
    · have := lotsN_in n l h b hb
      omega
    · obtain ⟨a, ha, rfl⟩ := List.mem_map.mp h
      rcases List.mem_append.mp hb with hb | hb
      · have := lotsN_in n a ha b hb
        omega
      · rw [List.mem_singleton.mp hb]
        omega
theorem lotsN_nodup : ∀ n, ∀ l ∈ lotsN n, l.Nodup
  | 0, l, h => by rw [List.mem_singleton.mp h]; exact List.nodup_nil
  | n + 1, l, h => by
    rcases List.mem_append.mp h with h | h
    · exact lotsN_nodup n l h
    · obtain ⟨a, ha, rfl⟩ := List.mem_map.mp h
      rw [List.nodup_append]
      refine ⟨lotsN_nodup n a ha, by simp, fun x hx y hy => ?_⟩
      have := lotsN_in n a ha x hx
      rw [List.mem_singleton.mp hy]
      omega
theorem lotsN_nil : ∀ n, [] ∈ lotsN n
  | 0 => List.mem_singleton.mpr rfl
  | n + 1 => List.mem_append_left _ (lotsN_nil n)
theorem barsN_mem : ∀ n, barsN n ∈ lotsN n
  | 0 => List.mem_singleton.mpr rfl
  | n + 1 => List.mem_append_right _ (List.mem_map.mpr ⟨_, barsN_mem n, rfl⟩)
/-- the sums of the lengths are those of all lots -/
theorem lots_sums {ls : List Int} : ∀ n, n ≤ ls.length → (lotsN n).map (lsum ls) = sumsOf (ls.take n)
  | 0, _ => rfl
  | n + 1, h => by
    have hz : ls[n]? = some ls[n] := List.getElem?_eq_getElem h
    have ih := lots_sums (ls := ls) n (by omega)
    rw [sums_take hz, ← ih, lotsN_succ, List.map_append, List.map_map, List.map_map]
    congr 1
    refine List.map_congr_left fun l _ => ?_
    show lsum ls (l ++ [(n : Int)]) = lsum ls l + ls[n]
    unfold lsum
    rw [List.map_append, List.sum_append, List.map_singleton, List.sum_singleton, List.getD_eq_getElem?_getD, Int.toNat_natCast, hz]
    rfl
theorem level_lots (ls : List Int) : levelB ls = (lotsN ls.length).any fun l => decide (2 * lsum ls l = ls.sum) := by
  have h := lots_sums (ls := ls) ls.length (Nat.le_refl _)
  rw [List.take_length] at h
  unfold levelB
  rw [← h, List.any_map]
  rfl
theorem sum_bars {ls : List Int} : ∀ n, n ≤ ls.length → lsum ls (barsN n) = (ls.take n).sum
  | 0, _ => rfl
  | n + 1, h => by
    have hz : ls[n]? = some ls[n] := List.getElem?_eq_getElem h
    rw [← take_snoc hz, List.sum_append, ← sum_bars n (by omega), barsN_succ]
    unfold lsum
    rw [List.map_append, List.sum_append, List.map_singleton, List.sum_singleton, List.sum_singleton, List.getD_eq_getElem?_getD, Int.toNat_natCast, hz]
    rfl
section
variable {P : Program} {w : World} {K : PySem.W.Frag} {mg : Str → Option Value} {base : Heap}
/-- lots in a heap: kf tells the bars of each -/
def LotsAt (H : Hp) (xs : List V) (kf : V → List Int) : Prop := ∀ x ∈ xs, ∃ a, x = .ref a ∧ H a = some (.tup ((kf x).map V.int))
theorem LotsAt.same {H H' : Hp} {xs : List V} {kf : V → List Int} (h : LotsAt H xs kf) (s : Same H H') : LotsAt H' xs kf := fun x hx => let ⟨a, e, q⟩ := h x hx; ⟨a, e, s _ _ q⟩
/-- refs to tuples of ints, what they hold -/
def TL (H : Hp) : List V → List (List Int) → Prop := Paired fun x ns => ∃ a, x = V.ref a ∧ H a = some (.tup (ns.map V.int))
def PL (H : Hp) : List V → List (List Int) → Prop := Paired fun x ns => ∃ t b, x = V.ref t ∧ H t = some (.tup [.int (ns.length : Nat), .ref b]) ∧ H b = some (.tup (ns.map V.int))
theorem par_imp {α β : Type} {R S : α → β → Prop} (i : ∀ a b, R a b → S a b) : ∀ {xs : List α} {ys : List β}, Paired R xs ys → Paired S xs ys
  | _, _, .nil => .nil
  | _, _, .cons h t => .cons (i _ _ h) (par_imp i t)
theorem par_app {α β : Type} {R : α → β → Prop} : ∀ {xs : List α} {ys : List β} {zs : List α} {ws : List β}, Paired R xs ys → Paired R zs ws → Paired R (xs ++ zs) (ys ++ ws)
  | _, _, _, _, .nil, q => q
  | _, _, _, _, .cons h t, q => .cons h (par_app t q)
theorem par_len {α β : Type} {R : α → β → Prop} : ∀ {xs : List α} {ys : List β}, Paired R xs ys → xs.length = ys.length
  | _, _, .nil => rfl
  | _, _, .cons _ t => congrArg (· + 1) (par_len t)
theorem par_get {α β : Type} {R : α → β → Prop} : ∀ {xs : List α} {ys : List β}, Paired R xs ys → ∀ {i : Nat} {x : α}, xs[i]? = some x → ∃ y, ys[i]? = some y ∧ R x y
  | _, _, .cons h t, 0, x, e => ⟨_, rfl, by cases e; exact h⟩
  | _, _, .cons h t, i + 1, x, e => par_get t (by simpa using e)
theorem par_mem {α β : Type} {R : α → β → Prop} : ∀ {xs : List α} {ys : List β}, Paired R xs ys → ∀ {x : α}, x ∈ xs → ∃ y ∈ ys, R x y
  | _, _, .cons h t, x, e => by
    rcases List.mem_cons.mp e with rfl | e
    · exact ⟨_, List.mem_cons_self .., h⟩
    · obtain ⟨y, hy, r⟩ := par_mem t e
      exact ⟨y, List.mem_cons_of_mem _ hy, r⟩
theorem par_mem2 {α β : Type} {R : α → β → Prop} : ∀ {xs : List α} {ys : List β}, Paired R xs ys → ∀ {y : β}, y ∈ ys → ∃ x ∈ xs, R x y
  | _, _, .cons h t, y, e => by
    rcases List.mem_cons.mp e with rfl | e
    · exact ⟨_, List.mem_cons_self .., h⟩
    · obtain ⟨x, hx, r⟩ := par_mem2 t e
      exact ⟨x, List.mem_cons_of_mem _ hx, r⟩
theorem par_map {α β : Type} {R : α → β → Prop} {f : α → β} (i : ∀ a b, R a b → f a = b) : ∀ {xs : List α} {ys : List β}, Paired R xs ys → xs.map f = ys
  | _, _, .nil => rfl
  | _, _, .cons h t => by rw [List.map_cons, i _ _ h, par_map i t]
theorem TL.same {H H' : Hp} {xs : List V} {nss : List (List Int)} (h : TL H xs nss) (s : Same H H') : TL H' xs nss := par_imp (fun _ _ ⟨a, e, q⟩ => ⟨a, e, s _ _ q⟩) h
theorem PL.same {H H' : Hp} {xs : List V} {nss : List (List Int)} (h : PL H xs nss) (s : Same H H') : PL H' xs nss := par_imp (fun _ _ ⟨t, b, e, q, r⟩ => ⟨t, b, e, s _ _ q, s _ _ r⟩) h
def vint : V → Int
  | .int z => z
  | _ => 0
theorem vints : ∀ ns : List Int, (ns.map V.int).map vint = ns
  | [] => rfl
  | n :: ns => by rw [List.map_cons, List.map_cons, vints ns]; rfl
def cont (H : Hp) (x : V) : List Int := match x with
  | .ref a => (match H a with
    | some (.tup ys) => ys.map vint
    | _ => [])
  | _ => []
theorem cont_at {H : Hp} {a : Addr} {ns : List Int} (h : H a = some (.tup (ns.map V.int))) : cont H (.ref a) = ns := by
  show (match H a with
    | some (.tup ys) => ys.map vint
    | _ => []) = ns
  rw [h]
  exact vints ns
def lotOf (H : Hp) (x : V) : V := match x with
  | .ref a => (match H a with
    | some (.tup [_, b]) => b
    | _ => .non)
  | _ => .non
theorem lotOf_at {H : Hp} {a : Addr} {x y : V} (h : H a = some (.tup [x, y])) : lotOf H (.ref a) = y := by
  show (match H a with
    | some (.tup [_, b]) => b
    | _ => .non) = y
  rw [h]
/-- what a pair is sorted by -/
def keyOf (H : Hp) (x : V) : Int × List Int := (((cont H (lotOf H x)).length : Nat), cont H (lotOf H x))
theorem keyOf_at {H : Hp} {x : V} {ns : List Int} (h : ∃ t b, x = V.ref t ∧ H t = some (.tup [.int (ns.length : Nat), .ref b]) ∧ H b = some (.tup (ns.map V.int))) : keyOf H x = (((ns.length : Nat) : Int), ns) := by
  obtain ⟨t, b, rfl, h1, h2⟩ := h
  unfold keyOf
  rw [lotOf_at h1, cont_at h2]
theorem sorted_first {ys : List V} {k : V → List Int} (h : ys.Pairwise fun u v => HT.lexLt (((k v).length : Int) :: k v) (((k u).length : Int) :: k u) = false) (h0 : ∃ y ∈ ys, k y = []) : ∀ y, ys[0]? = some y → k y = [] := by
  intro y hy
  cases ys with
  | nil => cases hy
  | cons z zs =>
    obtain rfl : z = y := Option.some.inj hy
    obtain ⟨u, hu, e⟩ := h0
    rcases List.mem_cons.mp hu with rfl | hu
    · exact e
    · have q := (List.pairwise_cons.mp h).1 u hu
      rw [e, HT.lexLt_cons] at q
      by_cases c : (([] : List Int).length : Int) = ((k z).length : Int)
      · exact List.eq_nil_of_length_eq_zero (by simp at c; omega)
      · rw [if_neg c] at q
        have := of_decide_eq_false q
        rw [List.length_nil] at this
        exact List.eq_nil_of_length_eq_zero (by omega)
theorem sorted_last {n : Nat} {ys : List V} {k : V → List Int} (h : ys.Pairwise fun u v => HT.lexLt (((k v).length : Int) :: k v) (((k u).length : Int) :: k u) = false) (hn : ∀ y ∈ ys, (k y).length ≤ n) (h0 : ∃ y ∈ ys, (k y).length = n) : ∀ y, ys[ys.length - 1]? = some y → (k y).length = n := by
  intro y hy
  obtain ⟨u, hu, e⟩ := h0
  obtain ⟨i, hi, eu⟩ := List.mem_iff_getElem.mp hu
  obtain ⟨hj, ey⟩ := List.getElem?_eq_some_iff.mp hy
  by_cases c : i = ys.length - 1
  · subst c
    rw [← ey, eu, e]
  · have q := (List.pairwise_iff_getElem.mp h) i (ys.length - 1) hi hj (by omega)
    rw [eu, ey, HT.lexLt_cons] at q
    have b := hn y (List.mem_of_getElem? hy)
    by_cases d : ((k y).length : Int) = ((k u).length : Int)
    · omega
    · rw [if_neg d] at q
      have := of_decide_eq_false q
      omega
def rLenS (K : PySem.W.Frag) : List V → Hp → VK → Prop := fun xs H Q => ∃ p ys, xs = [.ref p] ∧ (SqL K H p ys ∨ SqT K H p ys) ∧ Q (.int ys.length) H
def spLots (K : PySem.W.Frag) : Sp := fun vs H Q _ => ∃ n : Nat, vs = [.int n] ∧ 1 ≤ n ∧ n ≤ 8 ∧
  ∀ (p : Addr) (xs : List V) (kf : V → List Int) (H' : Hp), Same H H' → H' p = some (.lst xs) → LotsAt H' xs kf → (xs.map kf).Perm (lotsN n) → (xs.Pairwise fun u v => HT.lexLt (((kf v).length : Int) :: kf v) (((kf u).length : Int) :: kf u) = false) → Q (.ref p) H'
abbrev nLots : List Str := ["_law_many", "_law_found", "_law_bar", "_law_lot", "_law_size"]
theorem scLots : FnScope nLots ["_law_many"] (defScope sLwLots) := ⟨rfl, rfl, rfl, by decide +kernel, rfl, by decide +kernel, by decide +kernel⟩
theorem ok_lots {f : Addr} {fd : FuncData} (F : Fun K "_law_lots" "_law_lots" sLwLots f fd) (T : Bi mg) : FnOk P w K mg base CX0 2 f fd ["_law_many"] (spLots K) := by
  refine F.ok scLots (fun vs H Q E h => ?_) (fun cdv A outer s H vs Q E hr h => ?_)
  · obtain ⟨n, rfl, _⟩ := h
    rfl
  · have nd := scLots.nd
    refine ⟨_, pss_cons (ps_set (i := 1) nd rfl (Or.inl rfl) (pe_lst (pa_cons (pe_tup pa_nil) pa_nil)))
      (pss_cons (ps_for PassesOwn.never rfl (pi_range1 (by rfl) T.range (pa_cons (pv 0) pa_nil)) (pg_name (i := 2) nd rfl (Or.inr rfl)) (pss_one (ps_set (i := 1) nd rfl (Or.inl rfl) (pe_op op_cat (pv 1) (pe_lc (own := [("_law_lot", 3)]) (g := gName 3) (tt := tYes) (te := tOp (rCatA K) (tVar 3) (tTup (tCons (tVar 2) tNil))) rfl nd (pi_list (pv 1))
        (blkOk_by (N := nLots) (sc := defScope sLwLots) (by decide +kernel)) (fun _ _ _ _ _ => pg_name (i := 3) nd rfl (Or.inl rfl)) (fun _ _ _ _ _ => pts_nil) (fun _ _ _ _ _ => pe_op op_catA (pv 3) (pe_tup (pa_cons (pv 2) pa_nil))))))))
      (pss_one (ps_ret (pe_lc (own := [("_law_size", 4), ("_law_lot", 3)]) (g := gTup K 2 (gCons (gName 4) (gCons (gName 3) gNil))) (tt := tYes) rfl nd
        (pi_list (pe_callB (cr_sortedN hr.units) (by rfl) T.sorted (by decide +kernel) (pa_cons (pe_lc (own := [("_law_lot", 3)]) (g := gName 3) (tt := tYes) (te := tTup (tCons (tCB (rLenS K) (tCons (tVar 3) tNil)) (tCons (tVar 3) tNil))) rfl nd (pi_list (pv 1))
          (blkOk_by (N := nLots) (sc := defScope sLwLots) (by decide +kernel)) (fun _ _ _ _ _ => pg_name (i := 3) nd rfl (Or.inl rfl)) (fun _ _ _ _ _ => pts_nil) (fun _ _ _ _ _ => pe_tup (pa_cons (pe_callB (r := rLenS K) call_len_seq (by rfl) T.len PySem.boot_len (pa_cons (pv 3) pa_nil)) (pa_cons (pv 3) pa_nil)))) pa_nil)))
        (blkOk_by (N := nLots) (sc := defScope sLwLots) (by decide +kernel)) (fun _ _ _ _ _ => pg_tup rfl (pgs_cons (pg_name (i := 4) nd rfl (Or.inl rfl)) (pgs_cons (pg_name (i := 3) nd rfl (Or.inl rfl)) pgs_nil))) (fun _ _ _ _ _ => pts_nil) (fun _ _ _ _ _ => pv 3))))), ?_⟩
    obtain ⟨n, rfl, n1, n8, q⟩ := h
    refine ⟨(by show 0 ≤ sizeLine; decide), fun e0 he0 => ⟨(by show 1 ≤ sizeLine; decide), fun l0 hl0 => ?_⟩⟩
    have s0 : Same H (upd (upd H e0 (.tup [])) l0 (.lst [.ref e0])) := ((Same.refl H).new he0).new hl0
    have he1 : upd (upd H e0 (.tup [])) l0 (.lst [.ref e0]) e0 = some (.tup []) := by rw [upd_ne (ne_of_none upd_same hl0), upd_same]
    refine ⟨_, rfl, _, rfl, by omega, by omega, ?_⟩
    refine for_range (lo := 0) (n := ((n : Nat) : Int).toNat) (fun i σ H' => ∃ (l : Addr) (t : Option V) (xs : List V), σ = [some (.int n), some (.ref l), t, none, none] ∧ Same H H' ∧ H' l = some (.lst xs) ∧ TL H' xs (lotsN i))
      ⟨l0, none, [.ref e0], rfl, s0, upd_same, .cons ⟨e0, rfl, he1⟩ .nil⟩ ?_ ?_
    · rintro i σ H' hi ⟨l, t, xs, rfl, s1, h1, tl⟩
      have hi8 : i < 8 := by omega
      have hxl : xs.length = 2 ^ i := by rw [par_len tl, lotsN_length]
      have h256 : 2 ^ i ≤ 128 := Nat.pow_le_pow_right (by decide) (show i ≤ 7 by omega)
      rw [Int.zero_add]
      refine ⟨_, rfl, _, rfl, l, rfl, ⟨_, SqL.of h1⟩, fun D hD => ?_⟩
      refine lc_list (K := K) (a := l) (xs := xs) (fun j H2 => Same H' H2 ∧ ∃ ys, H2 D = some (.lst ys) ∧ TL H2 ys (((lotsN i).take j).map (· ++ [(i : Int)]))) ⟨(Same.refl H').new hD, [], upd_same, .nil⟩ (fun j H2 _ p => p.1.seq (SqL.of h1)) ?_ ?_
      · rintro j y H2 hj ⟨s2, ys, h2, yl⟩
        obtain ⟨ns, hns, a, rfl, ha⟩ := par_get tl hj
        have ha2 := s2 _ _ ha
        have hjl : j < (lotsN i).length := (List.getElem?_eq_some_iff.mp hns).1
        have hyl : ys.length < sizeLine := by
          have := lotsN_length i
          rw [par_len yl, List.length_map, List.length_take]
          exact sm (by omega)
        have fin : ∀ (c : Addr) (H3 : Hp), Same H2 H3 → H3 c = some (.tup ((ns ++ [(i : Int)]).map V.int)) → ∃ acc, H3 D = some (.lst acc) ∧ acc.length < sizeLine ∧ (Same H' (upd H3 D (.lst (acc ++ [.ref c]))) ∧ ∃ zs, upd H3 D (.lst (acc ++ [.ref c])) D = some (.lst zs) ∧ TL (upd H3 D (.lst (acc ++ [.ref c]))) zs (((lotsN i).take (j + 1)).map (· ++ [(i : Int)]))) := by
          intro c H3 s3 hc
          have sD : Same H' (upd H3 D (.lst (ys ++ [.ref c]))) := (s2.trans s3).mut hD
          have s4 : ∀ (q : Addr) (zs : List V), H3 q = some (.tup zs) → upd H3 D (.lst (ys ++ [.ref c])) q = some (.tup zs) := fun q zs hq => by
            rw [upd_ne fun e => ?_]
            · exact hq
            · rw [e, s3 _ _ h2] at hq
              cases hq
          refine ⟨ys, s3 _ _ h2, hyl, sD, _, upd_same, ?_⟩
          rw [← take_snoc hns, List.map_append]
          exact par_app (par_imp (fun _ _ ⟨q, e, hq⟩ => ⟨q, e, s4 _ _ hq⟩) (yl.same s3)) (.cons ⟨c, rfl, s4 _ _ hc⟩ .nil)
        refine ⟨rfl, _, rfl, _, rfl, (by show 1 ≤ sizeLine; decide), fun b hb => ⟨a, b, ns.map V.int, [.int i], rfl, rfl, .inl (.inl (by rw [upd_ne (ne_of_none ha2 hb)]; exact ha2)), .inl (.inl upd_same), ?_, fun e => ?_, (fun _ z => by cases z), fun _ _ p hp => ?_⟩⟩
        · have := lotsN_len i ns (List.mem_of_getElem? hns)
          rw [List.length_map, List.length_singleton]
          exact Nat.le_of_lt (sm (by omega))
        · have e' : ns = [] := by cases ns with
            | nil => rfl
            | cons _ _ => cases e
          subst e'
          exact fin b _ ((Same.refl H2).new hb) upd_same
        · refine fin p _ (((Same.refl H2).new hb).new hp) ?_
          rw [upd_same, List.map_append]
          rfl
      · rintro H2 ⟨s2, ys, h2, yl⟩
        have eh : xs.length = (lotsN i).length := par_len tl
        rw [eh, List.take_length] at yl
        refine ⟨l, D, _, _, rfl, rfl, s2 _ _ h1, h2, ?_, fun p hp => ⟨p, _, _, rfl, (s1.trans s2).new hp, upd_same, ?_⟩⟩
        · rw [par_len yl, List.length_map, ← eh]
          exact Nat.le_of_lt (sm (by omega))
        · have s3 : Same H2 (upd H2 p (.lst (xs ++ ys))) := (Same.refl H2).new hp
          rw [lotsN_succ]
          exact par_app (tl.same (s2.trans s3)) (yl.same s3)
    · rintro σ H' ⟨l, t, xs, rfl, s1, h1, tl⟩
      rw [Int.toNat_natCast] at tl
      have hxl : xs.length = 2 ^ n := by rw [par_len tl, lotsN_length]
      have h256 : 2 ^ n ≤ 256 := Nat.pow_le_pow_right (by decide) (show n ≤ 8 by omega)
      -- the pairs
      refine ⟨_, rfl, l, rfl, ⟨_, SqL.of h1⟩, fun D hD => ?_⟩
      refine lc_list (K := K) (a := l) (xs := xs) (fun j H2 => Same H' H2 ∧ ∃ ys, H2 D = some (.lst ys) ∧ PL H2 ys ((lotsN n).take j)) ⟨(Same.refl H').new hD, [], upd_same, .nil⟩ (fun j H2 _ p => p.1.seq (SqL.of h1)) ?_ ?_
      · rintro j y H2 hj ⟨s2, ys, h2, yl⟩
        obtain ⟨ns, hns, a, rfl, ha⟩ := par_get tl hj
        have ha2 := s2 _ _ ha
        refine ⟨rfl, _, rfl, a, _, rfl, .inr (.inl (.inl ha2)), _, rfl, (by show 2 ≤ sizeLine; decide), fun b hb => ⟨ys, by rw [upd_ne (ne_of_none h2 hb)]; exact h2, ?_, ((s2.new hb).mut hD), _, upd_same, ?_⟩⟩
        · have := lotsN_length n
          rw [par_len yl, List.length_take]
          exact sm (by omega)
        · have hbD : b ≠ D := (ne_of_none h2 hb).symm
          have haD : a ≠ D := fun e => by
            rw [e, h2] at ha2
            cases ha2
          have s4 : ∀ (q : Addr) (zs : List V), H2 q = some (.tup zs) → upd (upd H2 b (.tup [.int (ns.map V.int).length, .ref a])) D (.lst (ys ++ [.ref b])) q = some (.tup zs) := fun q zs hq => by
            rw [upd_ne fun e => ?_, upd_ne (ne_of_none hq hb)]
            · exact hq
            · rw [e, h2] at hq
              cases hq
          rw [← take_snoc hns]
          refine par_app (par_imp (fun _ _ ⟨t, b', e, q, r⟩ => ⟨t, b', e, s4 _ _ q, s4 _ _ r⟩) yl) (.cons ⟨b, a, rfl, ?_, s4 _ _ ha2⟩ .nil)
          rw [upd_ne hbD, upd_same, List.length_map]
      · rintro H2 ⟨s2, ys, h2, yl⟩
        have eh : xs.length = (lotsN n).length := par_len tl
        rw [eh, List.take_length] at yl
        have yk : ∀ y ∈ ys, ∃ ns ∈ lotsN n, ∃ t b, y = V.ref t ∧ H2 t = some (.tup [.int (ns.length : Nat), .ref b]) ∧ H2 b = some (.tup (ns.map V.int)) := fun y hy => par_mem yl hy
        refine ⟨D, ys, keyOf H2, rfl, SqL.of h2, fun y hy => ?_, fun zs p hz1 hz2 hp => ?_⟩
        · obtain ⟨ns, _, t, b, e, q1, q2⟩ := yk y hy
          rw [keyOf_at ⟨t, b, e, q1, q2⟩]
          exact ⟨t, b, e, q1, q2⟩
        have s3 : Same H2 (upd H2 p (.lst zs)) := (Same.refl H2).new hp
        have zl : zs.length = 2 ^ n := by rw [hz2.length_eq, par_len yl, lotsN_length]
        have zk : ∀ z ∈ zs, ∃ ns ∈ lotsN n, ∃ t b, z = V.ref t ∧ H2 t = some (.tup [.int (ns.length : Nat), .ref b]) ∧ H2 b = some (.tup (ns.map V.int)) := fun z hz => yk z (hz2.mem_iff.mp hz)
        refine ⟨p, rfl, ⟨_, SqL.of upd_same⟩, fun G hG => ?_⟩
        have hG2 := s3.free hG
        refine lc_list (K := K) (a := p) (xs := zs) (fun j H3 => Same H2 H3 ∧ H3 p = some (.lst zs) ∧ H3 G = some (.lst ((zs.take j).map (lotOf H2)))) ⟨s3.new hG, by rw [upd_ne (ne_of_none upd_same hG)]; exact upd_same, upd_same⟩ (fun j H3 _ q => SqL.of q.2.1) ?_ ?_
        · rintro j z H3 hj ⟨s5, h5, h6⟩
          obtain ⟨ns, _, t, b, rfl, q1, q2⟩ := zk z (List.mem_of_getElem? hj)
          have hjl : j < zs.length := (List.getElem?_eq_some_iff.mp hj).1
          refine ⟨t, _, rfl, .inl (.inl (s5 _ _ q1)), rfl, ⟨_, _, rfl, _, _, rfl, rfl, rfl, _, rfl, _, h6, (by rw [List.length_map, List.length_take]; exact sm (by omega)), s5.mut hG2, by rw [upd_ne (ne_of_none upd_same hG)]; exact h5, ?_⟩⟩
          rw [upd_same, ← take_snoc hj, List.map_append, List.map_singleton, lotOf_at q1]
        · rintro H3 ⟨s5, h5, h6⟩
          rw [List.take_length] at h6
          have kk : ∀ z ∈ zs, ∃ ns ∈ lotsN n, keyOf H2 z = (((ns.length : Nat) : Int), ns) ∧ cont H3 (lotOf H2 z) = ns ∧ ∃ b, lotOf H2 z = .ref b ∧ H3 b = some (.tup (ns.map V.int)) := fun z hz => by
            obtain ⟨ns, m, t, b, e, q1, q2⟩ := zk z hz
            subst e
            refine ⟨ns, m, keyOf_at ⟨t, b, rfl, q1, q2⟩, ?_, b, lotOf_at q1, s5 _ _ q2⟩
            rw [lotOf_at q1, cont_at (s5 _ _ q2)]
          have srt : zs.Pairwise fun u v => HT.lexLt (((cont H3 (lotOf H2 v)).length : Int) :: cont H3 (lotOf H2 v)) (((cont H3 (lotOf H2 u)).length : Int) :: cont H3 (lotOf H2 u)) = false := by
            refine List.Pairwise.imp_of_mem (fun {a b} ha hb r => ?_) hz1
            obtain ⟨na, _, ea, ca, _⟩ := kk a ha
            obtain ⟨nb, _, eb, cb, _⟩ := kk b hb
            dsimp only at r
            rw [ea, eb] at r
            rw [ca, cb]
            exact r
          have mp : (zs.map fun z => cont H3 (lotOf H2 z)).Perm (lotsN n) := by
            have e1 : zs.map (fun z => cont H3 (lotOf H2 z)) = zs.map fun z => (keyOf H2 z).2 := List.map_congr_left fun z hz => by
              obtain ⟨nz, _, ez, cz, _⟩ := kk z hz
              rw [ez, cz]
            have e2 : ys.map (fun z => (keyOf H2 z).2) = lotsN n := par_map (fun a b r => by rw [keyOf_at r]) yl
            rw [e1, ← e2]
            exact hz2.map _
          have zm : ∀ ns ∈ lotsN n, ∃ z ∈ zs, cont H3 (lotOf H2 z) = ns := fun ns m => by
            obtain ⟨z, hz, e⟩ := List.mem_map.mp (mp.mem_iff.mpr m)
            exact ⟨z, hz, e⟩
          refine q G _ (cont H3) H3 ((s1.trans s2).trans s5) h6 (fun x hx => ?_) (by rw [List.map_map]; exact mp) (List.pairwise_map.mpr srt)
          obtain ⟨z, hz, rfl⟩ := List.mem_map.mp hx
          obtain ⟨ns, _, _, c, b, e, h⟩ := kk z hz
          refine ⟨b, e, ?_⟩
          rw [c]
          exact h
end
end K
namespace K
open PySem L2 Rg
open Evl (pss_cut)
/-! ### a lot against all other bars -/
def Lot (n : Nat) (ns : List Int) : Prop := ns.Nodup ∧ ∀ b ∈ ns, 0 ≤ b ∧ b < (n : Int)
def hasB (ns : List Int) (j : Nat) : Bool := ns.any fun y => decide (y = (j : Int))
def oth (ls ns : List Int) (i : Nat) : List Int := ((List.range i).filter fun j => !hasB ns j).map fun j => ls.getD j 0
theorem inV_int (z : Int) : ∀ ns : List Int, inV (.int z) (ns.map V.int) = ns.any fun y => decide (y = z) := by
  intro ns
  unfold inV
  rw [List.any_map]
  rfl
theorem oth_len (ls ns : List Int) (i : Nat) : (oth ls ns i).length ≤ i := by
  unfold oth
  rw [List.length_map]
  exact Nat.le_trans (List.length_filter_le ..) (by rw [List.length_range]; exact Nat.le_refl _)
theorem oth_in {ls ns : List Int} {i : Nat} {z : Int} (hz : ls[i]? = some z) (h : hasB ns i = false) : oth ls ns (i + 1) = oth ls ns i ++ [z] := by
  unfold oth
  rw [List.range_succ, List.filter_append, List.map_append]
  simp [h, List.getD_eq_getElem?_getD, hz]
theorem oth_out {ls ns : List Int} {i : Nat} (h : hasB ns i = true) : oth ls ns (i + 1) = oth ls ns i := by
  unfold oth
  rw [List.range_succ, List.filter_append, List.map_append]
  simp [h]
theorem sum_range (ls : List Int) : ∀ n, n ≤ ls.length → ((List.range n).map fun j => ls.getD j 0).sum = (ls.take n).sum
  | 0, _ => rfl
  | n + 1, h => by
    have hz : ls[n]? = some ls[n] := List.getElem?_eq_getElem h
    rw [← take_snoc hz, List.sum_append, ← sum_range ls n (by omega), List.range_succ, List.map_append, List.sum_append]
    simp [List.getD_eq_getElem?_getD, hz]
theorem sum_split (f : Nat → Int) (p : Nat → Bool) : ∀ l : List Nat, ((l.filter fun j => !p j).map f).sum + ((l.filter p).map f).sum = (l.map f).sum
  | [] => rfl
  | x :: l => by
    have ih := sum_split f p l
    cases e : p x <;> simp [e, List.sum_cons] <;> omega
theorem hasB_iff {ns : List Int} {j : Nat} : hasB ns j = true ↔ (j : Int) ∈ ns := by
  unfold hasB
  rw [List.any_eq_true]
  constructor
  · rintro ⟨y, hy, e⟩
    rw [← of_decide_eq_true e]
    exact hy
  · intro h
    exact ⟨_, h, decide_eq_true rfl⟩
theorem nodup_cast : ∀ {l : List Nat}, l.Nodup → (l.map fun j : Nat => (j : Int)).Nodup
  | [], _ => List.nodup_nil
  | x :: l, h => by
    rw [List.nodup_cons] at h
    rw [List.map_cons, List.nodup_cons]
    refine ⟨fun m => ?_, nodup_cast h.2⟩
    obtain ⟨y, hy, e⟩ := List.mem_map.mp m
    exact h.1 (by rw [show x = y by omega]; exact hy)
theorem lot_sorted {n : Nat} {ns : List Int} (h : Lot n ns) : (((List.range n).filter (hasB ns)).map fun j : Nat => (j : Int)).Perm ns := by
    refine (List.perm_ext_iff_of_nodup (nodup_cast (List.Pairwise.filter _ List.nodup_range)) h.1).mpr fun z => ?_
    constructor
    · intro m
      obtain ⟨j, hj, rfl⟩ := List.mem_map.mp m
      exact hasB_iff.mp (List.mem_filter.mp hj).2
    · intro m
      have b := h.2 z m
      refine List.mem_map.mpr ⟨z.toNat, List.mem_filter.mpr ⟨List.mem_range.mpr (by omega), hasB_iff.mpr ?_⟩, by omega⟩
      rw [show ((z.toNat : Nat) : Int) = z by omega]
      exact m
theorem oth_sum {ls ns : List Int} (h : Lot ls.length ns) : (oth ls ns ls.length).sum + lsum ls ns = ls.sum := by
  have e1 := sum_split (fun j => ls.getD j 0) (hasB ns) (List.range ls.length)
  rw [sum_range ls _ (Nat.le_refl _), List.take_length] at e1
  rw [← e1]
  congr 1
  rw [← lsum_perm (lot_sorted h)]
  unfold lsum
  rw [List.map_map]
  rfl
theorem sort_eq {ls ns : List Int} (h : Lot ls.length ns) : sortV ls ns = (if lsum ls ns = (oth ls ns ls.length).sum then ("level" : Str) else if lsum ls ns < (oth ls ns ls.length).sum then ("short" : Str) else ("long" : Str) : Str) := by
  have e := oth_sum h
  unfold sortV
  by_cases c : 2 * lsum ls ns = ls.sum
  · rw [if_pos c, if_pos (show lsum ls ns = (oth ls ns ls.length).sum by omega)]
  · rw [if_neg c, if_neg (show ¬ lsum ls ns = (oth ls ns ls.length).sum by omega)]
    by_cases d : 2 * lsum ls ns < ls.sum
    · rw [if_pos d, if_pos (show lsum ls ns < (oth ls ns ls.length).sum by omega)]
    · rw [if_neg d, if_neg (show ¬ lsum ls ns < (oth ls ns ls.length).sum by omega)]
theorem lsum_take {ls ns : List Int} {i : Nat} {z : Int} (h : ns[i]? = some z) : (ns.take (i + 1)).map (fun b => ls.getD b.toNat 0) = (ns.take i).map (fun b => ls.getD b.toNat 0) ++ [ls.getD z.toNat 0] := by
  rw [← take_snoc h, List.map_append]
  rfl
section
variable {P : Program} {w : World} {K : PySem.W.Frag} {mg : Str → Option Value} {base : Heap}
abbrev nSort : List Str := ["_law_lengths_here", "_law_lot", "_law_mine", "_law_others", "_law_bar", "_law_length"]
theorem scSort : FnScope nSort ["_law_lengths_here", "_law_lot"] (defScope sLwSort) := ⟨rfl, rfl, rfl, by decide +kernel, rfl, by decide +kernel, by decide +kernel⟩
def spSortL (K : PySem.W.Frag) : Sp := fun vs H Q _ => ∃ (l m : Addr) (ls ns : List Int), vs = [.ref l, .ref m] ∧ SqL K H l (ls.map V.int) ∧ SqL K H m (ns.map V.int) ∧ ls.length ≤ 8 ∧ ns.length ≤ 8 ∧ Lot ls.length ns ∧ ∀ H', Same H H' → Q (.str (sortV ls ns)) H'
theorem ok_sortL {f : Addr} {fd : FuncData} (F : Fun K "_law_sort" "_law_sort" sLwSort f fd) (T : Bi mg) : FnOk P w K mg base CX0 2 f fd ["_law_lengths_here", "_law_lot"] (spSortL K) := by
  refine F.ok scSort (fun vs H Q E h => ?_) (fun cdv A outer s H vs Q E hr h => ?_)
  · obtain ⟨l, m, ls, ns, rfl, _⟩ := h
    rfl
  · have nd := scSort.nd
    refine ⟨_, pss_cons (ps_set (i := 2) nd rfl (Or.inl rfl) (pe_callB (cr_sum rfl) (by rfl) T.sum (by decide +kernel) (pa_cons (pe_lc (own := [("_law_bar", 4)]) (g := gName 4) (tt := tYes) (te := tOp (rIxL K) (tVar 0) (tVar 4)) rfl nd (pi_list (pv 1))
        (blkOk_by (N := nSort) (sc := defScope sLwSort) (by decide +kernel)) (fun _ _ _ _ _ => pg_name (i := 4) nd rfl (Or.inl rfl)) (fun _ _ _ _ _ => pts_nil) (fun _ _ _ _ _ => pe_ix ix_list (pv 0) (pv 4) (fun _ _ => rfl))) pa_nil)))
      (pss_cons (ps_set (i := 3) nd rfl (Or.inl rfl) (pe_callB (cr_sum rfl) (by rfl) T.sum (by decide +kernel) (pa_cons (pe_lc (own := [("_law_bar", 4), ("_law_length", 5)]) (g := gTup K 2 (gCons (gName 4) (gCons (gName 5) gNil))) (tt := tTest (tOp (rIn K true) (tVar 4) (tVar 1))) (te := tVar 5) rfl nd (pi_enum (by rfl) T.enumerate (pa_cons (pv 0) pa_nil))
        (blkOk_by (N := nSort) (sc := defScope sLwSort) (by decide +kernel)) (fun _ _ _ _ _ => pg_tup rfl (pgs_cons (pg_name (i := 4) nd rfl (Or.inl rfl)) (pgs_cons (pg_name (i := 5) nd rfl (Or.inl rfl)) pgs_nil))) (fun _ _ _ _ _ => pts_one (pt_cmpR op_notIn_seq (pv 4) (pv 1) (by rfl))) (fun _ _ _ _ _ => pv 5)) pa_nil)))
      (pss_cons (ps_if (pt_cmpR op_eq (pv 2) (pv 3) (nomark _)) (pss_one (ps_ret pe_str)) pss_nil)
      (pss_one (ps_ret (pe_ifExp (pt_cmpR op_lt (pv 2) (pv 3) (nomark _)) pe_str pe_str))))), ?_⟩
    obtain ⟨l, m, ls, ns, rfl, hl, hm, l8, n8, lot, q⟩ := h
    refine ⟨_, rfl, m, rfl, ⟨_, hm⟩, fun D hD => ?_⟩
    refine lc_list (K := K) (a := m) (xs := ns.map V.int) (fun i H' => Same H H' ∧ H' D = some (.lst (((ns.take i).map fun b => ls.getD b.toNat 0).map V.int))) ⟨(Same.refl H).new hD, upd_same⟩ (fun i H' _ p => p.1.seq hm) ?_ ?_
    · rintro i x H' hi ⟨s2, h2⟩
      obtain ⟨z, hz, rfl⟩ := int_at hi
      have hil : i < ns.length := (List.getElem?_eq_some_iff.mp hz).1
      have az := lot.2 z (List.mem_of_getElem? hz)
      refine ⟨rfl, _, rfl, _, rfl, l, _, z, _, rfl, rfl, s2.seq hl, get_len az.1 az.2, _, h2, (by rw [List.length_map, List.length_map, List.length_take]; exact sm (by omega)), s2.mut hD, ?_⟩
      rw [upd_same, lsum_take hz, List.map_append]
      rfl
    · rintro H1 ⟨s1, h1⟩
      rw [List.length_map, List.take_length] at h1
      refine ⟨D, _, rfl, SqL.of h1, ?_⟩
      refine ⟨_, rfl, l, _, rfl, s1.seq hl, fun G hG => ?_⟩
      have hG0 := s1.free hG
      refine lc_it walk_enum (fun i H' => Same H H' ∧ H' G = some (.lst ((oth ls ns i).map V.int))) ⟨s1.new hG, upd_same⟩ (fun i H' _ p => p.1.seq hl) ?_ ?_
      · rintro i x H2 H3 hi ⟨s2, h2⟩ ⟨U, x1, x2, rfl, hU, rfl, e1, e2⟩
        obtain rfl := (Option.some.inj e1).symm
        obtain ⟨z, hz, rfl⟩ := int_at e2
        rw [List.length_map] at hi
        have hGU : G ≠ U := ne_of_none h2 hU
        have s3 : Same H (upd H2 U (.tup [.int (i : Nat), .int z])) := s2.new hU
        refine ⟨U, _, rfl, .inl (.inl upd_same), rfl, _, _, rfl, _, _, rfl, rfl, rfl, _, rfl, _, rfl, m, _, rfl, .inl (s3.seq hm), rfl, flat_ints _, _, rfl, ?_⟩
        have eb : inV (.int (i : Nat)) (ns.map V.int) = hasB ns i := inV_int _ _
        rw [eb]
        cases e : hasB ns i with
        | true => exact ite2 (fun z => by cases z) (fun _ => ⟨s3, by rw [upd_ne hGU, oth_out e]; exact h2⟩)
        | false =>
          refine ite2 (fun _ => ?_) (fun z => absurd rfl z)
          refine ⟨_, rfl, _, by rw [upd_ne hGU]; exact h2, ?_, s3.mut hG0, ?_⟩
          · have := oth_len ls ns i
            rw [List.length_map]
            exact sm (by omega)
          · rw [upd_same, oth_in hz e, List.map_append]
            rfl
      · rintro H2 ⟨s2, h2⟩
        rw [List.length_map] at h2
        refine ⟨G, _, rfl, SqL.of h2, ?_⟩
        have q1 := q H2 s2
        rw [sort_eq lot] at q1
        refine ⟨_, rfl, _, rfl, rfl, ?_⟩
        by_cases e : lsum ls ns = (oth ls ns ls.length).sum
        · rw [if_pos e] at q1
          exact ⟨_, rfl, iteDT (congrArg V.int e) q1⟩
        · rw [if_neg e] at q1
          refine ⟨_, rfl, iteDF (fun z => e (V.int.inj z)) ⟨_, rfl, _, rfl, _, _, rfl, rfl, _, rfl, ?_⟩⟩
          by_cases e2 : lsum ls ns < (oth ls ns ls.length).sum
          · rw [if_pos e2] at q1
            exact iteDT e2 q1
          · rw [if_neg e2] at q1
            exact iteDF e2 q1
def spSortT (K : PySem.W.Frag) : Sp := fun vs H Q _ => ∃ (l m : Addr) (ls ns : List Int), vs = [.ref l, .ref m] ∧ SqL K H l (ls.map V.int) ∧ SqT K H m (ns.map V.int) ∧ ls.length ≤ 8 ∧ ns.length ≤ 8 ∧ Lot ls.length ns ∧ ∀ H', Same H H' → Q (.str (sortV ls ns)) H'
theorem ok_sortT {f : Addr} {fd : FuncData} (F : Fun K "_law_sort" "_law_sort" sLwSort f fd) (T : Bi mg) : FnOk P w K mg base CX0 2 f fd ["_law_lengths_here", "_law_lot"] (spSortT K) := by
  refine F.ok scSort (fun vs H Q E h => ?_) (fun cdv A outer s H vs Q E hr h => ?_)
  · obtain ⟨l, m, ls, ns, rfl, _⟩ := h
    rfl
  · have nd := scSort.nd
    refine ⟨_, pss_cons (ps_set (i := 2) nd rfl (Or.inl rfl) (pe_callB (cr_sum rfl) (by rfl) T.sum (by decide +kernel) (pa_cons (pe_lc (own := [("_law_bar", 4)]) (g := gName 4) (tt := tYes) (te := tOp (rIxL K) (tVar 0) (tVar 4)) rfl nd (pi_tup (pv 1))
        (blkOk_by (N := nSort) (sc := defScope sLwSort) (by decide +kernel)) (fun _ _ _ _ _ => pg_name (i := 4) nd rfl (Or.inl rfl)) (fun _ _ _ _ _ => pts_nil) (fun _ _ _ _ _ => pe_ix ix_list (pv 0) (pv 4) (fun _ _ => rfl))) pa_nil)))
      (pss_cons (ps_set (i := 3) nd rfl (Or.inl rfl) (pe_callB (cr_sum rfl) (by rfl) T.sum (by decide +kernel) (pa_cons (pe_lc (own := [("_law_bar", 4), ("_law_length", 5)]) (g := gTup K 2 (gCons (gName 4) (gCons (gName 5) gNil))) (tt := tTest (tOp (rIn K true) (tVar 4) (tVar 1))) (te := tVar 5) rfl nd (pi_enum (by rfl) T.enumerate (pa_cons (pv 0) pa_nil))
        (blkOk_by (N := nSort) (sc := defScope sLwSort) (by decide +kernel)) (fun _ _ _ _ _ => pg_tup rfl (pgs_cons (pg_name (i := 4) nd rfl (Or.inl rfl)) (pgs_cons (pg_name (i := 5) nd rfl (Or.inl rfl)) pgs_nil))) (fun _ _ _ _ _ => pts_one (pt_cmpR op_notIn_seq (pv 4) (pv 1) (by rfl))) (fun _ _ _ _ _ => pv 5)) pa_nil)))
      (pss_cons (ps_if (pt_cmpR op_eq (pv 2) (pv 3) (nomark _)) (pss_one (ps_ret pe_str)) pss_nil)
      (pss_one (ps_ret (pe_ifExp (pt_cmpR op_lt (pv 2) (pv 3) (nomark _)) pe_str pe_str))))), ?_⟩
    obtain ⟨l, m, ls, ns, rfl, hl, hm, l8, n8, lot, q⟩ := h
    refine ⟨_, rfl, m, rfl, ⟨_, hm⟩, fun D hD => ?_⟩
    refine lc_tup (K := K) (a := m) (xs := ns.map V.int) (fun i H' => Same H H' ∧ H' D = some (.lst (((ns.take i).map fun b => ls.getD b.toNat 0).map V.int))) ⟨(Same.refl H).new hD, upd_same⟩ (fun i H' _ p => p.1.tup hm) ?_ ?_
    · rintro i x H' hi ⟨s2, h2⟩
      obtain ⟨z, hz, rfl⟩ := int_at hi
      have hil : i < ns.length := (List.getElem?_eq_some_iff.mp hz).1
      have az := lot.2 z (List.mem_of_getElem? hz)
      refine ⟨rfl, _, rfl, _, rfl, l, _, z, _, rfl, rfl, s2.seq hl, get_len az.1 az.2, _, h2, (by rw [List.length_map, List.length_map, List.length_take]; exact sm (by omega)), s2.mut hD, ?_⟩
      rw [upd_same, lsum_take hz, List.map_append]
      rfl
    · rintro H1 ⟨s1, h1⟩
      rw [List.length_map, List.take_length] at h1
      refine ⟨D, _, rfl, SqL.of h1, ?_⟩
      refine ⟨_, rfl, l, _, rfl, s1.seq hl, fun G hG => ?_⟩
      have hG0 := s1.free hG
      refine lc_it walk_enum (fun i H' => Same H H' ∧ H' G = some (.lst ((oth ls ns i).map V.int))) ⟨s1.new hG, upd_same⟩ (fun i H' _ p => p.1.seq hl) ?_ ?_
      · rintro i x H2 H3 hi ⟨s2, h2⟩ ⟨U, x1, x2, rfl, hU, rfl, e1, e2⟩
        obtain rfl := (Option.some.inj e1).symm
        obtain ⟨z, hz, rfl⟩ := int_at e2
        rw [List.length_map] at hi
        have hGU : G ≠ U := ne_of_none h2 hU
        have s3 : Same H (upd H2 U (.tup [.int (i : Nat), .int z])) := s2.new hU
        refine ⟨U, _, rfl, .inl (.inl upd_same), rfl, _, _, rfl, _, _, rfl, rfl, rfl, _, rfl, _, rfl, m, _, rfl, .inr (s3.tup hm), rfl, flat_ints _, _, rfl, ?_⟩
        have eb : inV (.int (i : Nat)) (ns.map V.int) = hasB ns i := inV_int _ _
        rw [eb]
        cases e : hasB ns i with
        | true => exact ite2 (fun z => by cases z) (fun _ => ⟨s3, by rw [upd_ne hGU, oth_out e]; exact h2⟩)
        | false =>
          refine ite2 (fun _ => ?_) (fun z => absurd rfl z)
          refine ⟨_, rfl, _, by rw [upd_ne hGU]; exact h2, ?_, s3.mut hG0, ?_⟩
          · have := oth_len ls ns i
            rw [List.length_map]
            exact sm (by omega)
          · rw [upd_same, oth_in hz e, List.map_append]
            rfl
      · rintro H2 ⟨s2, h2⟩
        rw [List.length_map] at h2
        refine ⟨G, _, rfl, SqL.of h2, ?_⟩
        have q1 := q H2 s2
        rw [sort_eq lot] at q1
        refine ⟨_, rfl, _, rfl, rfl, ?_⟩
        by_cases e : lsum ls ns = (oth ls ns ls.length).sum
        · rw [if_pos e] at q1
          exact ⟨_, rfl, iteDT (congrArg V.int e) q1⟩
        · rw [if_neg e] at q1
          refine ⟨_, rfl, iteDF (fun z => e (V.int.inj z)) ⟨_, rfl, _, rfl, _, _, rfl, rfl, _, rfl, ?_⟩⟩
          by_cases e2 : lsum ls ns < (oth ls ns ls.length).sum
          · rw [if_pos e2] at q1
            exact iteDT e2 q1
          · rw [if_neg e2] at q1
            exact iteDF e2 q1
def spSort (K : PySem.W.Frag) : Sp := fun vs H Q _ => ∃ (l m : Addr) (ls ns : List Int), vs = [.ref l, .ref m] ∧ SqL K H l (ls.map V.int) ∧ (SqL K H m (ns.map V.int) ∨ SqT K H m (ns.map V.int)) ∧ ls.length ≤ 8 ∧ ns.length ≤ 8 ∧ Lot ls.length ns ∧ ∀ H', Same H H' → Q (.str (sortV ls ns)) H'
theorem ok_sort {f : Addr} {fd : FuncData} (F : Fun K "_law_sort" "_law_sort" sLwSort f fd) (T : Bi mg) : FnOk P w K mg base CX0 2 f fd ["_law_lengths_here", "_law_lot"] (spSort K) := by
  refine (fn_or (ok_sortL F T) (ok_sortT F T)).imp fun vs H Q E h => ?_
  obtain ⟨l, m, ls, ns, e, hl, hm, r⟩ := h
  rcases hm with hm | hm
  · exact .inl ⟨l, m, ls, ns, e, hl, hm, r⟩
  · exact .inr ⟨l, m, ls, ns, e, hl, hm, r⟩
end
end K
namespace K
open PySem L2 Rg LamX
/-- a value that is no bar, no length, as the heap has it; its data -/
inductive El (H : Hp) : V → String → PyData → Prop where
  | non : El H .non "NoneType" .none
  | int (i : Int) : El H (.int i) "int" (.int i)
  | bl (b : Bool) : El H (.bl b) "bool" (.bool b)
  | str (z : Str) (c : PyData.canLay0 (.str z) = true) : El H (.str z) "str" (.str z)
  | tup {a : Addr} {i : Int} (e : H a = some (.tup [.int i])) : El H (.ref a) "tuple" (.tuple [.int i])
  | lst {a : Addr} {i : Int} (e : H a = some (.lst [.int i])) : El H (.ref a) "list" (.list [.int i])
section
variable {K : PySem.W.Frag} {H H' : Hp} {x : V} {k : String} {d : PyData}
theorem El.kndI (q : El H x k d) : KndI K H x k := by
  cases q with
  | non => exact ⟨⟨.base .non, by decide⟩, fun z => absurd z (by decide)⟩
  | int i => exact ⟨⟨.base (.int i), by decide⟩, fun _ => ⟨i, rfl⟩⟩
  | bl b => exact ⟨⟨.base (.bl b), by decide⟩, fun z => absurd z (by decide)⟩
  | str z c => exact ⟨⟨.base (.str z), by decide⟩, fun z => absurd z (by decide)⟩
  | tup e => exact ⟨⟨.base (.tup e), by decide⟩, fun z => absurd z (by decide)⟩
  | lst e => exact ⟨⟨.base (.lst e), by decide⟩, fun z => absurd z (by decide)⟩
theorem El.ext (q : El H x k d) (e : ExtN H H') : El H' x k d := by
  cases q with
  | non => exact .non
  | int i => exact .int i
  | bl b => exact .bl b
  | str z c => exact .str z c
  | tup h => exact .tup (e _ _ h (fun _ z => nomatch z))
  | lst h => exact .lst (e _ _ h (fun _ z => nomatch z))
theorem El.but {p : Addr} {ee : Addr × List Int} {n : Nat} (q : El H x k d) (e : But p H H') (pen : PenAt K H p ee n) : El H' x k d := by
  obtain ⟨u, v, hp, _⟩ := pen.ex
  cases q with
  | non => exact .non
  | int i => exact .int i
  | bl b => exact .bl b
  | str z c => exact .str z c
  | tup h => exact .tup (e _ _ (fun z => by rw [z, hp] at h; cases h) h)
  | lst h => exact .lst (e _ _ (fun z => by rw [z, hp] at h; cases h) h)
theorem El.dp (q : El H x k d) : Dp K H x d := by
  cases q with
  | non => exact .non
  | int i => exact .int i
  | bl b => exact .bl b
  | str z c => exact .str z
  | tup e => exact .tup (.inl (.inl e)) (.cons (.int _) .nil)
  | lst e => exact .lst (SqL.of e) (.cons (.int _) .nil)
theorem El.lay (q : El H x k d) : PyData.canLay0 d = true ∧ PyData.depth d ≤ 1 := by
  cases q with
  | non => exact ⟨by decide +kernel, by decide +kernel⟩
  | int i => exact ⟨by simp [PyData.canLay0], by simp [PyData.depth]⟩
  | bl b => exact ⟨by simp [PyData.canLay0], by simp [PyData.depth]⟩
  | str z c => exact ⟨c, by simp [PyData.depth]⟩
  | tup e => exact ⟨by simp [PyData.canLay0, PyData.canLayAll0], by simp [PyData.depth, PyData.depthAll]⟩
  | lst e => exact ⟨by simp [PyData.canLay0, PyData.canLayAll0], by simp [PyData.depth, PyData.depthAll]⟩
end
/-- tuples, with their data, as all later heaps have it -/
def PT (K : PySem.W.Frag) (HB H : Hp) : List V → List (List V × List PyData) → Prop := Paired fun x q => ∃ a, x = V.ref a ∧ H a = some (.tup q.1) ∧ ∀ M, ExtN HB M → DpAll K M q.1 q.2
theorem PT.dp {K : PySem.W.Frag} {HB H : Hp} (x : ExtN HB H) : ∀ {xs : List V} {qs : List (List V × List PyData)}, PT K HB H xs qs → DpAll K H xs (qs.map fun q => .tuple q.2)
  | _, _, .nil => .nil
  | _, _, .cons ⟨a, ea, h, d⟩ t => by
    subst ea
    exact .cons (.tup (.inl (.inl h)) (d _ x)) (PT.dp x t)
/-- what was heard stands in the list at h -/
structure HS (K : PySem.W.Frag) (T : List (Addr × Str)) (HB H : Hp) (h : Addr) (done : List V) (qs : List (List V × List PyData)) : Prop where
  x : ExtN HB H
  tab : Tabs T H
  hb : ∀ o, HB h = some o → (∀ ps, o ≠ .tbl ps) → False
  hh : H h = some (.lst done)
  pt : PT K HB H done qs
theorem HS.first {K : PySem.W.Frag} {T : List (Addr × Str)} {HB M : Hp} {h a : Addr} {q : List V × List PyData} (x : ExtN HB M) (t : Tabs T M) (ha : M a = some (.tup q.1)) (d : ∀ M', ExtN HB M' → DpAll K M' q.1 q.2) (nh : M h = none) : HS K T HB (upd M h (.lst [.ref a])) h [.ref a] [q] := by
  have s : Same M (upd M h (.lst [.ref a])) := (Same.refl M).new nh
  exact ⟨x.trans (ExtN.of s), t.ext s, (fun o e n => by have := x _ _ e n; rw [nh] at this; cases this), upd_same, .cons ⟨a, rfl, s _ _ ha, d⟩ .nil⟩
theorem HS.app {K : PySem.W.Frag} {T : List (Addr × Str)} {HB H M : Hp} {h a : Addr} {done : List V} {qs : List (List V × List PyData)} {q : List V × List PyData} (s : HS K T HB H h done qs) (x : ExtN H M) (t : Tabs T M) (ha : M a = some (.tup q.1)) (d : ∀ M', ExtN HB M' → DpAll K M' q.1 q.2) :
    M h = some (.lst done) ∧ HS K T HB (upd M h (.lst (done ++ [.ref a]))) h (done ++ [.ref a]) (qs ++ [q]) := by
  have hm : M h = some (.lst done) := x _ _ s.hh (fun _ z => nomatch z)
  have b : But h M (upd M h (.lst (done ++ [.ref a]))) := fun c o n e => by rw [upd_ne n]; exact e
  have xB : ExtN HB (upd M h (.lst (done ++ [.ref a]))) := fun c o e n => by
    have nc : c ≠ h := fun z => s.hb o (z ▸ e) n
    rw [upd_ne nc]
    exact x _ _ (s.x _ _ e n) n
  have na : a ≠ h := fun z => by rw [z, hm] at ha; cases ha
  refine ⟨hm, xB, tabs_but t b hm, s.hb, upd_same, par_app ?_ (.cons ⟨a, rfl, by rw [upd_ne na]; exact ha, d⟩ .nil)⟩
  refine par_imp (fun y r ⟨c, ec, hcc, dc⟩ => ⟨c, ec, ?_, dc⟩) s.pt
  have e1 : M c = some (.tup r.1) := x _ _ hcc (fun _ z => nomatch z)
  rw [upd_ne (fun z => by rw [z, hm] at e1; cases e1)]
  exact e1
theorem rep_flat (n : Nat) (v : V) : (List.replicate n [v]).flatten = List.replicate n v := by
  induction n with
  | zero => rfl
  | succ n ih => rw [List.replicate_succ, List.flatten_cons, ih, List.replicate_succ]; rfl
/-- a lambda that raises is heard; W: what it may have done ahead -/
theorem hear2 {c : Hs} {C : Addr} {fs : List (Str × V)} {its : List V} (te : Tells c C fs its) {T : List (Addr × Str)} {H : Hp} {σ : St} {t : XK → TE} {Q : VK} (tab : Tabs T H) (W : Hp → Hp → Prop)
    (body : ∀ (E' : XK) (J : Hp) (Q' : VK), ExtN H J → Tabs T J → (∀ L, W J L → ErrsF E' C fs L) → t E' σ J Q') (k : ∀ J L M p, ExtN H J → Tabs T J → W J L → Same L M → M p = some (.tup its) → Q (.ref p) M) : tLam T (THeard c) t σ H Q := by
  refine ⟨tab, fun I extI tabsI e ne => ?_⟩
  have sI : Same I (upd I e (.tup [])) := (Same.refl I).new ne
  have xI : ExtN H (upd I e (.tup [])) := extI.trans (ExtN.of sI)
  have tI : Tabs T (upd I e (.tup [])) := tabsI.ext sI
  exact body _ _ _ xI tI fun L wl d L2 sL nd xd => ⟨C, d, fs, its, rfl, rfl, xd, te, fun p M sM hp => k _ L M p xI tI wl (sL.trans sM) hp⟩
theorem PenAt.frees {K : PySem.W.Frag} {H : Hp} {p q : Addr} {e : Addr × List Int} {n : Nat} (pen : PenAt K H p e n) (z : H q = none) : q ≠ p := pen.ne z
/-- the making of a Ring, as a law asks it -/
theorem made2 {K : PySem.W.Frag} {C l : Addr} {c : Rs} {E : XK} {H : Hp} {ls : List Int} {R : Addr → VK} (hs : SqE H l (ls.map V.int)) (bd : Bd 1000000 ls) (l3 : 3 ≤ ls.length) (l8 : ls.length ≤ 8) (h : ∀ x H', RingW K C H' x ls → Same H H' → H x = none → R x .non H') :
    ∀ x dx, H x = none → H dx = none → dx ≠ x → spRX K C c (.ref x :: ([.ref l] ++ [])) (upd (upd H dx (.own x)) x (.ins C dx [])) (R x) E := by
  intro x dx hx hdx _
  have s0 : Same H (upd (upd H dx (.own x)) x (.ins C dx [])) := fun b o q => by
    rw [upd_ne (ne_of_none q hx), upd_ne (ne_of_none q hdx)]
    exact q
  exact ⟨x, l, dx, ls, rfl, upd_same, hs.same s0, by omega, RingRes.fine bd l3 l8 fun H' ring kp => h x H' ring (fun b o e => kp b o (s0 b o e) (ne_of_none e hx)) hx⟩
/-- all that a Ring may be made of -/
def spRA (K : PySem.W.Frag) (C : Addr) (c : Rs) : Sp := fun vs H Q E => spRIO K C c.r vs H Q E ∨ spRIL K C c.r c.m vs H Q E ∨ spRIT K C c.r c.m vs H Q E
/-- what makes no ring, as the heap has it -/
theorem none_o {K : PySem.W.Frag} {C : Addr} {c : Rs} {E : XK} {H : Hp} {v : V} {k : String} {R : Addr → VK} (hk : Knd K H v k) (n1 : k ≠ "list") (n2 : k ≠ "tuple") (er : Errs E c.r "part" (.str "lengths") H) :
    ∀ x dx, H x = none → H dx = none → dx ≠ x → spRA K C c (.ref x :: ([v] ++ [])) (upd (upd H dx (.own x)) x (.ins C dx [])) (R x) E := by
  intro x dx hx hdx _
  have s0 : Same H (upd (upd H dx (.own x)) x (.ins C dx [])) := fun b o q => by
    rw [upd_ne (ne_of_none q hx), upd_ne (ne_of_none q hdx)]
    exact q
  exact .inl ⟨x, dx, v, k, rfl, upd_same, hk.same s0, n1, n2, er.later s0⟩
theorem none_l {K : PySem.W.Frag} {C l : Addr} {c : Rs} {E : XK} {H : Hp} {xs : List V} {kf : V → String} {R : Addr → VK} (hl : H l = some (.lst xs)) (hn : xs.length ≤ 1000) (hx : ∀ x ∈ xs, KndI K H x (kf x)) (e : (xs.all fun x => lenB (kf x) x) = false) (er : Errs E c.r "part" (.str "lengths") H) :
    ∀ x dx, H x = none → H dx = none → dx ≠ x → spRA K C c (.ref x :: ([.ref l] ++ [])) (upd (upd H dx (.own x)) x (.ins C dx [])) (R x) E := by
  intro x dx hx0 hdx _
  have s0 : Same H (upd (upd H dx (.own x)) x (.ins C dx [])) := fun b o q => by
    rw [upd_ne (ne_of_none q hx0), upd_ne (ne_of_none q hdx)]
    exact q
  have hl0 := s0 _ _ hl
  exact .inr (.inl ⟨x, l, dx, xs, kf, rfl, upd_same, ⟨.base (.lst hl0), by decide⟩, SqL.of hl0, hn, fun y hy => ⟨(hx y hy).1.same s0, (hx y hy).2⟩, .inl ⟨e, er.later s0⟩⟩)
/-- integers that make no ring -/
theorem none_i {K : PySem.W.Frag} {C l : Addr} {c : Rs} {E : XK} {H : Hp} {ls : List Int} {R : Addr → VK} (hl : H l = some (.lst (ls.map V.int))) (hn : ls.length ≤ 1000) (res : RingRes E c H ls False) :
    ∀ x dx, H x = none → H dx = none → dx ≠ x → spRX K C c (.ref x :: ([.ref l] ++ [])) (upd (upd H dx (.own x)) x (.ins C dx [])) (R x) E := by
  intro x dx hx0 hdx _
  have s0 : Same H (upd (upd H dx (.own x)) x (.ins C dx [])) := fun b o q => by
    rw [upd_ne (ne_of_none q hx0), upd_ne (ne_of_none q hdx)]
    exact q
  exact ⟨x, l, dx, ls, rfl, upd_same, .inl (s0 _ _ hl), hn, (res.later s0).imp fun f => f.elim⟩
end K
namespace Rg
open PySem PySem.Spec PyProof.Rows L2
/-! ### a text taken so many times -/
def rRepS : R2 := fun x y Hh Qq => ∃ z k, x = .str z ∧ y = .int k ∧ MulOk z k ∧ Qq (.str (Txt.mul z k)) Hh
theorem op_repS {X : Cx} : OpR X (binaryOp .Mult) rRepS := by
  intro pns s σs Hh x y u v Qq Iv rx ry ⟨z, k, ex, ey, ok, q⟩
  subst ex ey
  obtain ⟨tz, rfl⟩ := rx
  obtain ⟨tk, rfl⟩ := ry
  exact PySem.SB.mul ok fun t' j => ⟨.str _, Hh, Iv.tok _, ⟨_, rfl⟩, q⟩
end Rg
namespace K
open PySem L2 Rg
open Evl (pss_cut)
open _root_.TL (tl)
open NumText (AllDigits digitsVal)
/-! ### the first item that cannot stand, as the law finds it -/
def digB1 (c : Nat) : Bool := decide (c ∈ (Str.ofString "0123456789").cps.toList)
def oddL (l : List Nat) : List Nat := l.filter fun c => !digB1 c
def sgV (c : Nat) : V := .str ⟨#[c]⟩
def sgD (c : Nat) : PyData := .str ⟨#[c]⟩
theorem dig_list : (Str.ofString "0123456789").cps.toList = [48, 49, 50, 51, 52, 53, 54, 55, 56, 57] := by decide +kernel
theorem dig_mem (c : Nat) : digB1 c = (decide (48 ≤ c) && decide (c ≤ 57)) := by
  unfold digB1
  rw [dig_list]
  by_cases h : 48 ≤ c ∧ c ≤ 57
  · obtain ⟨a, b⟩ := h
    rw [decide_eq_true a, decide_eq_true b]
    refine decide_eq_true ?_
    simp only [List.mem_cons, List.not_mem_nil, or_false]
    omega
  · have : ¬ c ∈ [48, 49, 50, 51, 52, 53, 54, 55, 56, 57] := fun z => h (by
      simp only [List.mem_cons, List.not_mem_nil, or_false] at z
      omega)
    rw [decide_eq_false this]
    by_cases a : 48 ≤ c
    · rw [decide_eq_false (show ¬ c ≤ 57 from fun b => h ⟨a, b⟩), Bool.and_false]
    · rw [decide_eq_false a, Bool.false_and]
theorem odd_nil (l : List Nat) : (oddL l).isEmpty = digB l := by
  unfold oddL digB
  induction l with
  | nil => rfl
  | cons c l ih =>
    rw [List.filter_cons, List.all_cons, ← dig_mem, ← ih]
    cases digB1 c <;> rfl
theorem odd_snoc {l : List Nat} {i c : Nat} (h : l[i]? = some c) : oddL (l.take (i + 1)) = oddL (l.take i) ++ (if (!digB1 c) = true then [c] else []) := by
  unfold oddL
  rw [← take_snoc h, List.filter_append, List.filter_cons, List.filter_nil]
theorem sg_eqv (l : List Nat) : PyData.eqv (.list (l.map sgD)) (.list []) = l.isEmpty := by
  cases l <;> simp [PyData.eqv, PyData.eqvAll] <;> rfl
theorem sg_dp {K : PySem.W.Frag} {H : Hp} : ∀ l : List Nat, DpAll K H (l.map sgV) (l.map sgD)
  | [] => .nil
  | i :: l => .cons (.str _) (sg_dp l)
theorem sg_lay : ∀ {l : List Nat}, (∀ c ∈ l, c < 128) → PyData.canLayAll0 (l.map sgD) = true
  | [], _ => by simp [PyData.canLayAll0]
  | i :: l, h => by
    have a := h i (List.mem_cons_self ..)
    have b := sg_lay fun c hc => h c (List.mem_cons_of_mem _ hc)
    have e : PyData.canLay0 (sgD i) = true := by
      unfold sgD
      simp [PyData.canLay0, PySem.PyData.strOk]
      omega
    simp [PyData.canLayAll0, e, b]
theorem sg_deep : ∀ l : List Nat, PyData.depthAll (l.map sgD) = 0
  | [] => by simp [PyData.depthAll]
  | i :: l => by simp [PyData.depthAll, PyData.depth, sgD, sg_deep l]
theorem sg_shaped {l : List Nat} (h : ∀ c ∈ l, c < 128) : SeqAt.shaped (.list (l.map sgD)) = true := by
  simp [SeqAt.shaped, PyData.canLay0, PyData.depth, sg_lay h, sg_deep l]
theorem str_at {l : List Str} {i : Nat} {v : V} (h : (l.map V.str)[i]? = some v) : ∃ z, l[i]? = some z ∧ v = .str z := by
  rw [List.getElem?_map] at h
  cases e : l[i]? with
  | none => rw [e] at h; cases h
  | some z => rw [e] at h; exact ⟨z, rfl, (Option.some.inj h).symm⟩
theorem one_zero (c : Nat) : decide (V.str ⟨#[c]⟩ = V.str (Str.ofString "0")) = decide (c = 48) := by
  rw [zer_eq]
  by_cases e : c = 48
  · rw [e]; simp
  · rw [decide_eq_false e, decide_eq_false fun z => e (by
      have := V.str.inj z
      have := congrArg Str.cps this
      simpa using this)]
section
variable {P : Program} {w : World} {K : PySem.W.Frag} {mg : Str → Option Value} {base : Heap}
def oN : Option Nat → V
  | none => .non
  | some k => .int k
def spStop (K : PySem.W.Frag) : Sp := fun vs H Q _ => ∃ (a : Addr) (xs : List Str), vs = [.ref a] ∧ SqL K H a (xs.map V.str) ∧ xs.length ≤ 100 ∧ (∀ x ∈ xs, x.length ≤ 1000 ∧ ∀ c ∈ tl x, c < 128) ∧ ∀ H', Same H H' → Q (oN (stopF 0 xs)) H'
abbrev nStop : List Str := ["_law_items", "_law_at", "_law_item", "_law_sign"]
theorem scStop : FnScope nStop ["_law_items"] (defScope sLwStop) := ⟨rfl, rfl, rfl, by decide +kernel, rfl, by decide +kernel, by decide +kernel⟩
theorem ok_stop {f : Addr} {fd : FuncData} (F : Fun K "_law_stop" "_law_stop" sLwStop f fd) (T : Bi mg) : FnOk P w K mg base CX0 2 f fd ["_law_items"] (spStop K) := by
  refine F.ok scStop (fun vs H Q E h => ?_) (fun cdv A outer s H vs Q E hr h => ?_)
  · obtain ⟨a, xs, rfl, _⟩ := h
    rfl
  · have nd := scStop.nd
    refine ⟨_, pss_cons (ps_for PassesOwn.never rfl (pi_enum (by rfl) T.enumerate (pa_cons (pv 0) pa_nil)) (pg_tup rfl (pgs_cons (pg_name (i := 1) nd rfl (Or.inl rfl)) (pgs_cons (pg_name (i := 2) nd rfl (Or.inl rfl)) pgs_nil)))
        (pss_cons (ps_if (PW.pt (pw_or (pt_cmpR op_eq (pv 1) pe_int (nomark _)) (pw_or (pt_not (pt_chain op_le op_le pe_int (pe_callB call_len_str (by rfl) T.len PySem.boot_len (pa_cons (pv 2) pa_nil)) pe_int)) (pw_or1 (pt_cmpR (op_neD hr.units) (pe_lc (own := [("_law_sign", 3)]) (g := gName 3) (tt := tTest (tOp rNotInS (tVar 3) (tC (.str "0123456789")))) (te := tVar 3) rfl nd (pi_str (pv 2)) (blkOk_by (N := nStop) (sc := defScope sLwStop) (by decide +kernel)) (fun _ _ _ _ _ => pg_name (i := 3) nd rfl (Or.inl rfl)) (fun _ _ _ _ _ => pts_one (pt_cmpR op_notInS (pv 3) pe_str (by rfl))) (fun _ _ _ _ _ => pv 3)) (pe_lst pa_nil) (nomark _)))))) (pss_one (ps_ret (pv 1))) pss_nil)
        (pss_one (ps_if (PW.pt (pw_or (pt_cmpR op_eq (pe_ix (r := rIxS) ix_str (pv 2) pe_int (fun _ _ => rfl)) pe_str (nomark _)) (pw_or1 (pt_cmpR op_gt (pe_callTy call_int_str (by rfl) T.int (by decide +kernel) (pa_cons (pv 2) pa_nil)) pe_int (nomark _))))) (pss_one (ps_ret (pv 1))) pss_nil))))
      (pss_one (ps_ret (pe_ifExp (pt_cmpR op_lt (pe_callB call_len_seq (by rfl) T.len PySem.boot_len (pa_cons (pv 0) pa_nil)) pe_int (nomark _)) (pe_callB call_len_seq (by rfl) T.len PySem.boot_len (pa_cons (pv 0) pa_nil)) pe_non))), ?_⟩
    obtain ⟨a, xs, rfl, hs, hl, hx, q⟩ := h
    refine ⟨_, rfl, a, _, rfl, hs, ?_⟩
    refine for_it walk_enum (fun i σ H' => ∃ z1 v : Option V, σ = [some (.ref a), z1, v, none] ∧ Same H H' ∧ stopF 0 xs = stopF i (xs.drop i))
      ⟨none, none, rfl, Same.refl H, rfl⟩ (fun i σ H' _ ⟨_, _, _, s, _⟩ => s.seq hs) ?_ ?_
    · rintro i x σ H1 H2 hi ⟨z1, v, rfl, s1, e1⟩ ⟨U, x1, x2, rfl, hU, rfl, ex1, ex2⟩
      obtain rfl := (Option.some.inj ex1).symm
      obtain ⟨z, hz, rfl⟩ := str_at ex2
      rw [List.length_map] at hi
      have hzm := hx z (List.mem_of_getElem? hz)
      have hlz : z.length = (tl z).length := _root_.TL.len_tl z
      have s2 : Same H (upd H1 U (.tup [.int (i : Nat), .str z])) := s1.new hU
      refine ⟨U, _, rfl, .inl (.inl upd_same), rfl, _, _, rfl, _, _, rfl, rfl, ?_⟩
      generalize upd H1 U (.tup [.int (i : Nat), .str z]) = H2 at s2 ⊢
      have bad : ∀ J, Same H J → i = 8 ∨ okT z = false → Q (.int (i : Nat)) J := fun J sJ c => by
        have := q J sJ
        rw [e1, stop_here hz c] at this
        exact this
      have notok : ∀ {p : Prop}, p → (okT z = true → ¬ p) → okT z = false := fun hp hn => by
        cases e : okT z with
        | false => rfl
        | true => exact absurd hp (hn e)
      refine ⟨_, rfl, rfl, _, rfl, ?_⟩
      rw [deqI]
      by_cases c8 : (i : Int) = 8
      · exact iteDT c8 (iteT ⟨_, rfl, bad _ s2 (.inl (by omega))⟩)
      refine iteDF c8 ?_
      refine ⟨_, rfl, z, rfl, Nat.le_of_lt (sm (by omega)), 1, _, rfl, rfl, _, rfl, ?_⟩
      by_cases c1 : (1 : Int) ≤ z.length
      · refine iteDT c1 ⟨_, _, rfl, rfl, _, rfl, ?_⟩
        by_cases c7 : (z.length : Int) ≤ 7
        · rw [decide_eq_true c7]
          refine iteF ?_
          refine ⟨_, rfl, z, rfl, fun D hD => ?_⟩
          have hDH := s2.free hD
          refine lc_it walk_str (fun i H' => Same H H' ∧ H' D = some (.lst ((oddL ((tl z).take i)).map sgV))) ⟨s2.new hD, upd_same⟩ (fun _ _ _ _ => True.intro) ?_ ?_
          · rintro j y H3 H4 hj ⟨s3, h3⟩ ⟨rfl, c, hc, rfl⟩
            have hc' : (tl z)[j]? = some c := by
              show z.cps.toList[j]? = some c
              rw [Array.getElem?_toList]
              exact hc
            have lz : (oddL ((tl z).take j)).length ≤ 1000 := by
              have a1 := List.length_filter_le (fun c => !digB1 c) ((tl z).take j)
              have a2 := List.length_take_le' j (tl z)
              have := hzm.1
              unfold oddL
              omega
            have so := odd_snoc hc'
            refine ⟨rfl, _, rfl, c, _, rfl, rfl, _, rfl, ?_⟩
            cases e : digB1 c with
            | false =>
              have : (!decide (c ∈ (Str.ofString "0123456789").cps.toList)) = true := by
                show (!digB1 c) = true
                rw [e]; rfl
              rw [e] at so
              refine iteBT this ⟨_, rfl, _, h3, by rw [List.length_map]; exact sm (by omega), s3.mut hDH, ?_⟩
              rw [upd_same, so, List.map_append]
              rfl
            | true =>
              have : (!decide (c ∈ (Str.ofString "0123456789").cps.toList)) = false := by
                show (!digB1 c) = false
                rw [e]; rfl
              rw [e] at so
              have so' : oddL ((tl z).take (j + 1)) = oddL ((tl z).take j) := by rw [so]; exact List.append_nil _
              refine iteBF this ⟨s3, ?_⟩
              rw [so']
              exact h3
          · rintro H3 ⟨s3, h3⟩
            rw [show z.cps.size = (tl z).length from hlz, List.take_length] at h3
            refine ⟨(by decide), fun e he => ?_⟩
            have h4 := ((Same.refl H3).new (o := .lst []) he) _ _ h3
            have s4 : Same H (upd H3 e (.lst [])) := s3.new he
            refine ⟨_, _, .lst (SqL.of h4) (sg_dp _), .lst (SqL.of upd_same) .nil, sg_shaped (fun c hc => hzm.2 c (List.mem_filter.mp hc).1), rfl, _, rfl, ?_⟩
            rw [sg_eqv, odd_nil]
            generalize upd H3 e (.lst []) = H4 at s4 ⊢
            cases ed : digB (tl z) with
            | false => exact iteT ⟨_, rfl, bad _ s4 (.inr (notok ed fun k => by rw [digB_iff.mpr (okT_iff.mp k).2.2.1]; decide))⟩
            | true =>
              refine iteF ?_
              obtain ⟨c0, l0, e0⟩ : ∃ c l, tl z = c :: l := by
                cases k : tl z with
                | nil => rw [k] at hlz; simp at hlz; omega
                | cons c l => exact ⟨c, l, rfl⟩
              refine ⟨_, rfl, z, 0, c0, rfl, rfl, Nat.le_of_lt (sm (by omega)), atI_nat (j := 0) (by show (tl z)[0]? = some c0; rw [e0]; rfl), rfl, _, rfl, ?_⟩
              rw [one_zero]
              by_cases c48 : c0 = 48
              · exact iteDT c48 (iteT ⟨_, rfl, bad _ s4 (.inr (notok c48 fun k z => (okT_iff.mp k).2.2.2.1 (by rw [e0, z]; rfl)))⟩)
              refine iteDF c48 ?_
              refine ⟨_, rfl, z, _, rfl, intText_digits (digB_iff.mp ed) (fun k => by rw [show tl z = [] from k] at e0; cases e0) (by omega), by omega, _, _, rfl, rfl, _, rfl, ?_⟩
              by_cases cm : (1000000 : Int) < (digitsVal (tl z) : Nat)
              · exact iteDT cm ⟨_, rfl, bad _ s4 (.inr (notok cm fun k => by have := (okT_iff.mp k).2.2.2.2; omega))⟩
              · have ok : okT z = true := okT_iff.mpr ⟨by omega, by omega, digB_iff.mp ed, fun k => by rw [e0] at k; exact c48 (Option.some.inj k), by omega⟩
                exact iteDF cm ⟨_, _, rfl, s4, e1.trans (stop_step hz (by omega) ok)⟩
        · rw [decide_eq_false c7]
          exact iteT (iteT ⟨_, rfl, bad _ s2 (.inr (notok c7 fun k => by have := (okT_iff.mp k).2.1; omega))⟩)
      · refine iteDF c1 ⟨_, rfl, ?_⟩
        exact iteT (iteT ⟨_, rfl, bad _ s2 (.inr (notok c1 fun k => by have := (okT_iff.mp k).1; omega))⟩)
    · rintro σ H' ⟨z1, v, rfl, s1, e1⟩
      rw [List.length_map, stop_end (Nat.le_refl _)] at e1
      have q' := q H' s1
      rw [e1] at q'
      refine ⟨_, rfl, a, _, rfl, .inl (s1.seq hs), _, _, rfl, rfl, _, rfl, ?_⟩
      rw [List.length_map]
      by_cases c3 : xs.length < 3
      · rw [if_pos c3] at q'
        refine iteDT (by omega) ⟨_, rfl, a, _, rfl, .inl (s1.seq hs), ?_⟩
        rw [List.length_map]
        exact q'
      · rw [if_neg c3] at q'
        exact iteDF (by omega) q'
end
end K
namespace K
open PySem L2 Rg LamX
open Evl (pss_cut)
open _root_.TL (tl tl_num numL numL_digits)
/-- an item that may stand in a drawn text -/
def itemB (m : Nat) (z : Str) : Bool := decide (z.length ≤ m) && (tl z).all fun c => decide (c < 128) && !decide (c = 32)
theorem itemB_iff {m : Nat} {z : Str} : itemB m z = true ↔ z.length ≤ m ∧ ∀ c ∈ tl z, c < 128 ∧ c ≠ 32 := by
  unfold itemB
  simp only [Bool.and_eq_true, decide_eq_true_eq, List.all_eq_true, Bool.not_eq_true', decide_eq_false_iff_not, ne_eq]
theorem item_num {i : Int} (h1 : 1 ≤ i) (h2 : i ≤ 1000000) : itemB 20 (numT i) = true := by
  refine itemB_iff.mpr ⟨by have := num_len h1 h2; omega, fun c hc => ?_⟩
  rw [tl_numT (by omega)] at hc
  have := numL_digits _ c hc
  omega
theorem item_free {m : Nat} {z : Str} (h : itemB m z = true) : 32 ∉ tl z := fun k => ((itemB_iff.mp h).2 32 k).2 rfl
/-- the items of a joined text -/
theorem items_of_join {B : List Str} (l9 : B.length ≤ 9) (h : ∀ x ∈ B, itemB 20 x = true) :
    (Txt.join ⟨#[32]⟩ B).length ≤ 189 ∧ (itemsT (Txt.join ⟨#[32]⟩ B)).length ≤ 9 ∧ ∀ x ∈ itemsT (Txt.join ⟨#[32]⟩ B), x.length ≤ 20 ∧ ∀ c ∈ tl x, c < 128 := by
  refine ⟨?_, ?_⟩
  · have := join_len (xs := B) (m := 20) fun x hx => (itemB_iff.mp (h x hx)).1
    have e : (20 + 1) * B.length ≤ 21 * 9 := Nat.mul_le_mul_left 21 l9
    omega
  · by_cases e : B = []
    · subst e
      rw [items_none]
      refine ⟨by decide, fun x hx => ?_⟩
      obtain rfl := List.mem_singleton.mp hx
      exact ⟨by decide, fun c hc => by cases hc⟩
    · rw [items_back e fun x hx => item_free (h x hx)]
      exact ⟨l9, fun x hx => ⟨(itemB_iff.mp (h x hx)).1, fun c hc => ((itemB_iff.mp (h x hx)).2 c hc).1⟩⟩
theorem mul9 : MulOk (Str.ofString "9") 20 := ⟨by decide, fun _ _ => by decide +kernel, fun _ _ => by decide +kernel⟩
theorem told_shaped (k : Int) : SeqAt.shaped (.tuple [.str "text", .int 0, .int k]) = true := by
  have c : PyData.canLay0 (.str (Str.ofString "text")) = true := by decide +kernel
  simp [SeqAt.shaped, PyData.canLay0, PyData.canLayAll0, PyData.depth, PyData.depthAll]
  simpa [PyData.canLay0] using c
theorem told_eqv (k : Int) : PyData.eqv (.tuple [.str "text", .int 0, .int k]) (.tuple [.str "text", .int 0, .int k]) = true := by
  simp [PyData.eqv, PyData.eqvAll]
section
variable {P : Program} {w : World} {K : PySem.W.Frag} {mg : Str → Option Value} {base : Heap}
/-- the reading of a text, as a method of the class -/
structure ReadAt (P : Program) (w : World) (K : PySem.W.Frag) (mg : Str → Option Value) (base : Heap) (C cT : Addr) (mc : Value) (pp f : Addr) (fd : FuncData) : Prop where
  r : ClX.CRead K C mc
  c : SMet K C mc "read" pp f
  ok : FnOk P w K mg base (L2.CX P w) 7 f fd ["text"] (spRead K C cT)
  b : Binds K fd ["text"] []
structure StrAt (P : Program) (w : World) (K : PySem.W.Frag) (mg : Str → Option Value) (base : Heap) (C : Addr) (f : Addr) (fd : FuncData) : Prop where
  ok : FnOk P w K mg base CX0 2 f fd ["self"] (spStrR K C)
  b : Binds K fd ["self"] []
  s : PySem.W.findIn K (.ref C) "__str__" = some (some (.ref f))
  f : PySem.W.isFn K (.ref f) = true
def spCH (K : PySem.W.Frag) (P1 P2 : Addr) : Sp := fun vs H Q _ => ∃ (p l : Addr) (ls : List Int) (e : Addr × List Int) (n : Nat), vs = [.ref p, .ref l] ∧ n < 800000 ∧ PenAt K H p e n ∧ l ≠ p ∧ H l = some (.lst (ls.map V.int)) ∧ 3 ≤ ls.length ∧ ls.length ≤ 8 ∧ Bd 1000000 ls ∧ Tabs (T2 P1 P2) H ∧
  ∀ H', Kp p H H' → PenAt K H' p e (n + 9) → Tabs (T2 P1 P2) H' → Q (.bl true) H'
abbrev nTX : List Str := ["_law_pen_here", "_law_lengths_here", "_law_items", "_law_at", "_law_way", "_law_item", "_law_bent", "_law_stop_here", "_law_text", "_law_length"]
theorem scTX : FnScope nTX ["_law_pen_here", "_law_lengths_here"] (defScope sLwTextRight) := ⟨rfl, rfl, rfl, by decide +kernel, rfl, by decide +kernel, by decide +kernel⟩
theorem ok_tx {C cd P1 P2 f fD fP fS fT fH fR pp eR : Addr} {mc : Value} {hc : Hs} {fd fdD fdP fdS fdT fdR fdH : FuncData} (F : FunC K "_law_text_right" "_law_text_right" sLwTextRight f fd cd) (T : Bi mg) (Ts : mg "str" = none) (R : RingC K mg C) (D : DrawAt P w K mg base fD fdD)
    (PK : DefAt P w K mg base CX0 3 "_law_pick" ["_law_pen_here", "_law_some"] (spPick K) fP fdP) (ST : DefAt P w K mg base CX0 2 "_law_stop" ["_law_items"] (spStop K) fT fdT) (SR : StrAt P w K mg base C fS fdS) (RD : ReadAt P w K mg base C hc.t mc pp fR fdR)
    (Hc : HeardC K mg hc eR) (TB : TabB base mg cd P1) (hmT : (P1, qTx) ∈ T2 P1 P2) (hu : ∀ p ∈ T2 P1 P2, p.1 = P1 → p.2 = qTx)
    (FH : Fun K "_law_heard" "_law_heard" sLwHeard fH fdH) (BH : Binds K fdH ["_law_ask"] []) (GH : mg "_law_heard" = some (.ref fH)) : FnOk P w K mg base CX0 10 f fd ["_law_pen_here", "_law_lengths_here"] (spCH K P1 P2) := by
  refine F.ok scTX (fun vs H Q E h => ?_) (fun A outer s H vs Q E hr h => ?_)
  · obtain ⟨p, l, ls, e, n, rfl, _⟩ := h
    rfl
  · have nd := scTX.nd
    obtain ⟨oc, od, kV, doc, pm, an, cdv, ct, osl, rfl, lk, hcd⟩ := FH.ex
    refine ⟨_, (pss_cons (ps_setLc (i := 2) (own := [("_law_length", 9)]) (g := gName 9) (tt := tYes) rfl nd rfl rfl (sw_true rfl rfl rfl (by decide +kernel)) (pi_list (pv 1))
          (blkOk_by (N := nTX) (sc := defScope sLwTextRight) (by decide +kernel)) (fun _ _ _ _ _ => pg_name (i := 9) nd rfl (Or.inl rfl)) (fun _ _ _ _ _ => pts_nil) (fun _ _ _ _ _ => (pe_callTy call_str_int (by rfl) Ts (by decide +kernel) (pa_cons (pv 9) pa_nil))))
      (pss_cons (ps_par (i := 3) (j := 4) (by rfl) nd rfl rfl (by decide) rfl rfl (pa_cons (pe_call D.ok (hr.mono (by decide)) rfl D.g D.kp D.b .nil pass0 (pa_cons (pv 0) (pa_cons (pe_op op_add (pe_callB call_len_seq (by rfl) T.len PySem.boot_len (pa_cons (pv 2) pa_nil)) pe_int) pa_nil))) (pa_cons (pe_call D.ok (hr.mono (by decide)) rfl D.g D.kp D.b .nil pass0 (pa_cons (pv 0) (pa_cons pe_int pa_nil))) pa_nil)) (by rfl))
      (pss_cons (ps_set (i := 5) nd rfl (Or.inl rfl) (pe_call PK.ok (hr.mono (by decide)) rfl PK.g PK.kp PK.b .nil pass0 (pa_cons (pv 0) (pa_cons (pe_lst (pa_cons pe_str (pa_cons pe_str (pa_cons pe_str (pa_cons pe_str (pa_cons pe_str (pa_cons pe_str (pa_cons pe_str (pa_cons pe_str (pa_cons pe_str (pa_cons pe_str (pa_cons pe_str (pa_cons pe_str (pa_cons (pe_op op_repS pe_str pe_int) pa_nil)))))))))))))) pa_nil))))
      (pss_cut (ps_set (i := 6) nd rfl (Or.inl rfl) (pe_ifExp (pt_cmpR op_lt (pv 4) pe_int (nomark _)) (pe_op op_cat (pe_op op_cat (pe_slice sl_list (pv 2) po_none (po_some (pv 3))) (pe_op op_rep (pe_lst (pa_cons (pv 5) pa_nil)) (pe_callTy call_int1 (by rfl) T.int (by decide +kernel) (pa_cons (pe_cmpR op_ne (pv 4) pe_int (nomark _)) pa_nil)))) (pe_slice sl_list (pv 2) (po_some (pe_op op_add (pv 3) (pe_callTy call_int1 (by rfl) T.int (by decide +kernel) (pa_cons (pe_cmpR op_gt (pv 4) pe_int (nomark _)) pa_nil)))) po_none)) (pe_slice sl_list (pv 2) po_none (po_some (pv 3)))))
      (pss_cons (ps_set (i := 8) nd rfl (Or.inr rfl) (pe_join pe_str (pv 6)))
      (pss_cons (ps_set (i := 7) nd rfl (Or.inl rfl) (pe_call ST.ok (hr.mono (by decide)) rfl ST.g ST.kp ST.b .nil pass0 (pa_cons (pe_split (pv 8) pe_str) pa_nil)))
      (pss_cons (ps_if (pt_cmpR op_isN1 (pv 7) pe_non (nomark _)) (pss_one (ps_ret (pe_cmpR op_eq (pe_callTy (call_strO SR.ok (hr.mono (by decide)) SR.b) (by rfl) Ts (by decide +kernel) (pa_cons (pe_smeth (pe_glob (v := .ref C) rfl R.g rfl) RD.r RD.c RD.ok (hr.mono (by decide)) RD.b passL (pa_cons (pv 8) pa_nil)) pa_nil)) (pv 8) (nomark _)))) pss_nil)
      (pss_one (ps_ret (pe_cmpR (op_eqD hr.units) (pe_lamcall (T := T2 P1 P2) (TT := THeard hc) (a := "_law_ask") (g := fH) (c := cd) (P := P1) (k := 7) (Ng := nHeard) rfl GH FH.kp lk hcd BH scHeard rfl (Or.inl rfl) (heard_gives T Hc) TB rfl hmT hu hr (lamS_by (sc := defScope sLwTextRight) (by decide +kernel)) rfl (fun _ _ _ _ _ => rfl)
            (fun A outer s H E f c' hr' => (pe_smeth (pe_glob (v := .ref C) rfl R.g rfl) RD.r RD.c RD.ok hr' RD.b (passes_call (takes_of rfl rfl rfl rfl) (fun _ _ _ _ h => h)) (pa_cons (pv 8) pa_nil)))) (pe_tup (pa_cons pe_str (pa_cons pe_int (pa_cons (pv 7) pa_nil)))) (nomark _))))))))))), ?_⟩
    obtain ⟨p, l, ls, e, n, rfl, hn, pen, hlp, hl, l3, l8, bd, tab, q⟩ := h
    -- items
    refine ⟨_, rfl, l, rfl, ⟨_, SqL.of hl⟩, fun D hD => ?_⟩
    refine lc_list (K := K) (a := l) (xs := ls.map V.int) (fun i H' => Same H H' ∧ H' D = some (.lst (((ls.take i).map numT).map V.str))) ⟨(Same.refl H).new hD, upd_same⟩ (fun i H' _ q => SqL.of (q.1 _ _ hl)) ?_ ?_
    · rintro i x H' hi ⟨s2, h2⟩
      obtain ⟨z, hz, rfl⟩ := int_at hi
      have bz := bd z (List.mem_of_getElem? hz)
      refine ⟨rfl, _, rfl, z, rfl, log_small bz.1 bz.2, _, h2, (by rw [List.length_map, List.length_map, List.length_take]; exact sm (by omega)), s2.mut hD, ?_⟩
      rw [upd_same, ← take_snoc hz, List.map_append, List.map_append]
      rfl
    rintro H1 ⟨s1, hD1⟩
    rw [List.length_map, List.take_length] at hD1
    obtain ⟨its, hits⟩ : ∃ its, its = ls.map numT := ⟨_, rfl⟩
    rw [← hits] at hD1
    have il : its.length = ls.length := by rw [hits, List.length_map]
    have good : ∀ x ∈ its, itemB 20 x = true := fun x hx => by
      rw [hits] at hx
      obtain ⟨i, hi, rfl⟩ := List.mem_map.mp hx
      exact item_num (bd i hi).1 (bd i hi).2
    clear hits
    have pen1 := pen.same s1
    have hDp : D ≠ p := pen.ne hD
    have tab1 := tab.ext s1
    have k1 : But p H H1 := But.of s1
    -- at, way
    refine ⟨_, rfl, _, rfl, D, _, rfl, .inl (SqL.of hD1), ?_⟩
    rw [List.length_map]
    refine ⟨_, _, rfl, rfl, p, e, _, n, rfl, by omega, by omega, by omega, pen1, fun a H2 a0 a1 b2 pen2 => ?_⟩
    obtain ⟨a, rfl⟩ := Int.eq_ofNat_of_zero_le a0
    have ha : a ≤ its.length := by omega
    have hD2 := b2 _ _ hDp hD1
    refine ⟨_, rfl, p, e, _, n + 1, rfl, by decide, by decide, by omega, pen2, fun w H3 w0 w1 b3 pen3 => ⟨_, _, rfl, ?_⟩⟩
    have hD3 := b3 _ _ hDp hD2
    have k3 := (k1.trans b2).trans b3
    -- item
    refine ⟨_, rfl, _, _, rfl, rfl, mul9, (by show 13 ≤ sizeLine; decide), fun q0 hq0 => ?_⟩
    have hq0p : q0 ≠ p := pen3.ne hq0
    have pool : ∀ (i : Nat) (v : V), ([V.str "0", .str "", .str "-1", .str "a", .str "01", .str "1000000", .str "1000001", .str "+1", .str "1.0", .str "7", .str "12", .str "1_0", .str (Txt.mul "9" 20)] : List V)[i]? = some v → ∃ z, v = .str z ∧ itemB 20 z = true := by
      intro i v hv
      rcases i with _ | _ | _ | _ | _ | _ | _ | _ | _ | _ | _ | _ | _ | i
      all_goals first | (cases hv; exact ⟨_, rfl, by decide +kernel⟩) | cases hv
    have s3 : Same H3 (upd H3 q0 (.lst [V.str "0", .str "", .str "-1", .str "a", .str "01", .str "1000000", .str "1000001", .str "+1", .str "1.0", .str "7", .str "12", .str "1_0", .str (Txt.mul "9" 20)])) := (Same.refl _).new hq0
    refine ⟨p, q0, e, _, n + 1 + 1, rfl, SqL.of upd_same, hq0p, (by show 1 ≤ 13; decide), (by show 13 ≤ 1000; decide), by omega, pen3.put hq0, fun i0 item H4 hv0 b4 pen4 => ?_⟩
    obtain ⟨item, rfl, gi⟩ := pool i0 item hv0
    have hD4 := b4 _ _ hDp (s3 _ _ hD3)
    have k4 := (k3.trans (But.of s3)).trans b4
    clear pool hv0 s3 b2 b3 b4 pen1 pen2 pen3 hD1 hD2 hD3 k1 k3
    -- bent
    refine ⟨fun σ' H' => ∃ (d : Addr) (B : List Str), σ' = [some (.ref p), some (.ref l), some (.ref D), some (.int a), some (.int w), some (.str item), some (.ref d), none, none, none] ∧ Same H4 H' ∧ H' d = some (.lst (B.map V.str)) ∧ B.length ≤ 9 ∧ ∀ x ∈ B, itemB 20 x = true, ?_, ?_⟩
    · refine ⟨_, rfl, _, _, rfl, rfl, _, rfl, ?_⟩
      refine ite2 (fun c => ?_) (fun c => ?_)
      · obtain ⟨k, hk, k1⟩ : ∃ k : Nat, (if (!decide (V.int w = V.int 2)) = true then (1 : Int) else 0) = k ∧ k ≤ 1 := by
          split
          · exact ⟨1, rfl, by decide⟩
          · exact ⟨0, rfl, by decide⟩
        obtain ⟨s, hs, s1⟩ : ∃ s : Nat, (if decide (0 < w) = true then (1 : Int) else 0) = s ∧ s ≤ 1 := by
          split
          · exact ⟨1, rfl, by decide⟩
          · exact ⟨0, rfl, by decide⟩
        refine ⟨_, rfl, _, rfl, _, rfl, D, _, rfl, SqL.of hD4, fun c1 nc1 => ?_⟩
        rw [cutV_to, ← List.map_take]
        have t1 : Same H4 (upd H4 c1 (.lst ((its.take a).map V.str))) := (Same.refl _).new nc1
        have f1 : upd H4 c1 (.lst ((its.take a).map V.str)) c1 = some (.lst ((its.take a).map V.str)) := upd_same
        generalize upd H4 c1 (.lst ((its.take a).map V.str)) = G1 at t1 f1 ⊢
        refine ⟨_, rfl, (by show 1 ≤ sizeLine; decide), fun c2 nc2 => ?_⟩
        have t2 : Same G1 (upd G1 c2 (.lst [.str item])) := (Same.refl _).new nc2
        have f2 : upd G1 c2 (.lst [.str item]) c2 = some (.lst [.str item]) := upd_same
        generalize upd G1 c2 (.lst [.str item]) = G2 at t2 f2 ⊢
        refine ⟨_, rfl, rfl, .inr ⟨_, rfl, ?_⟩⟩
        rw [hk]
        refine ⟨c2, k, _, rfl, rfl, f2, by omega, by omega, Nat.le_of_lt (sm (by rw [Int.toNat_natCast]; show 1 * k ≤ 10000; omega)), fun c3 nc3 => ?_⟩
        rw [Int.toNat_natCast, rep_flat, ← List.map_replicate]
        have t3 : Same G2 (upd G2 c3 (.lst ((List.replicate k item).map V.str))) := (Same.refl _).new nc3
        have f3 : upd G2 c3 (.lst ((List.replicate k item).map V.str)) c3 = some (.lst ((List.replicate k item).map V.str)) := upd_same
        generalize upd G2 c3 (.lst ((List.replicate k item).map V.str)) = G3 at t3 f3 ⊢
        have lt : (its.take a).length = a := by rw [List.length_take]; omega
        refine ⟨c1, c3, _, _, rfl, rfl, t3 _ _ (t2 _ _ f1), f3, Nat.le_of_lt (sm (by simp only [List.length_map, List.length_replicate]; omega)), fun c4 nc4 => ?_⟩
        rw [← List.map_append]
        have t4 : Same G3 (upd G3 c4 (.lst ((its.take a ++ List.replicate k item).map V.str))) := (Same.refl _).new nc4
        have f4 : upd G3 c4 (.lst ((its.take a ++ List.replicate k item).map V.str)) c4 = some (.lst ((its.take a ++ List.replicate k item).map V.str)) := upd_same
        generalize upd G3 c4 (.lst ((its.take a ++ List.replicate k item).map V.str)) = G4 at t4 f4 ⊢
        refine ⟨_, rfl, _, rfl, _, rfl, _, _, rfl, rfl, .inr ⟨_, rfl, _, _, rfl, rfl, _, rfl, ?_⟩⟩
        rw [hs]
        refine ⟨D, _, rfl, SqL.of (t4 _ _ (t3 _ _ (t2 _ _ (t1 _ _ hD4)))), fun c5 nc5 => ?_⟩
        rw [cut_from (k := a + s) _ (by omega), ← List.map_drop]
        have t5 : Same G4 (upd G4 c5 (.lst ((its.drop (a + s)).map V.str))) := (Same.refl _).new nc5
        have f5 : upd G4 c5 (.lst ((its.drop (a + s)).map V.str)) c5 = some (.lst ((its.drop (a + s)).map V.str)) := upd_same
        generalize upd G4 c5 (.lst ((its.drop (a + s)).map V.str)) = G5 at t5 f5 ⊢
        have ld : (its.drop (a + s)).length = its.length - (a + s) := List.length_drop
        refine ⟨c4, c5, _, _, rfl, rfl, t5 _ _ f4, f5, Nat.le_of_lt (sm (by simp only [List.length_map, List.length_append, List.length_replicate]; omega)), fun c6 nc6 => ?_⟩
        rw [← List.map_append]
        refine ⟨c6, _, rfl, ((t1.trans (t2.trans (t3.trans (t4.trans t5)))).new nc6), upd_same, ?_, fun x hx => ?_⟩
        · simp only [List.length_append, List.length_replicate]
          omega
        · rcases List.mem_append.mp hx with hx | hx
          · rcases List.mem_append.mp hx with hx | hx
            · exact good x (List.mem_of_mem_take hx)
            · rw [List.eq_of_mem_replicate hx]; exact gi
          · exact good x (List.mem_of_mem_drop hx)
      · refine ⟨_, rfl, _, rfl, _, rfl, D, _, rfl, SqL.of hD4, fun c1 nc1 => ?_⟩
        rw [cutV_to, ← List.map_take]
        exact ⟨c1, _, rfl, (Same.refl _).new nc1, upd_same, by rw [List.length_take]; omega, fun x hx => good x (List.mem_of_mem_take hx)⟩
    rintro σ' H5 ⟨d, B, rfl, s5, hd, b9, gB⟩
    obtain ⟨jl, jn, jx⟩ := items_of_join b9 gB
    have k5 := k4.trans (But.of s5)
    have pen5 := pen4.same s5
    have tab5 : Tabs (T2 P1 P2) H5 := tabs_but tab k5 (pen.some.choose_spec)
    -- text
    refine ⟨⟨_, rfl⟩, _, rfl, _, d, B, rfl, rfl, .inl (SqL.of hd), ?_, ?_⟩
    · have : (B.map (·.length)).sum ≤ 20 * B.length := by
        have : ∀ l : List Str, (∀ x ∈ l, itemB 20 x = true) → (l.map (·.length)).sum ≤ 20 * l.length := by
          intro l
          induction l with
          | nil => intro _; exact Nat.le_refl _
          | cons x l ih =>
            intro h
            have h1 := (itemB_iff.mp (h x (List.mem_cons_self ..))).1
            have h2 := ih fun y hy => h y (List.mem_cons_of_mem _ hy)
            rw [List.map_cons, List.sum_cons, List.length_cons]
            omega
        exact this B gB
      show _ + B.length * 1 ≤ 16777216
      omega
    rw [spc_eq]
    generalize Txt.join ⟨#[32]⟩ B = x at jl jn jx ⊢
    -- stop
    refine ⟨_, rfl, ⟨_, rfl⟩, x, _, rfl, rfl, by decide +kernel, Nat.le_of_lt (sm (by omega)), fun r hr0 => ?_⟩
    have s6 : Same H5 (upd H5 r (.lst ((itemsT x).map V.str))) := (Same.refl _).new hr0
    refine ⟨r, itemsT x, rfl, SqL.of upd_same, by omega, fun y hy => ⟨by have := (jx y hy).1; omega, (jx y hy).2⟩, fun H7 s7 => ?_⟩
    have k7 : But p H H7 := k5.trans (But.of (s6.trans s7))
    have pen7 := pen5.same (s6.trans s7)
    have tab7 := tab5.ext (s6.trans s7)
    refine ⟨_, rfl, rfl, _, rfl, ?_⟩
    cases st : stopF 0 (itemsT x) with
    | none =>
      refine iteT ?_
      obtain ⟨okx, x3, x8⟩ := stop_none _ _ st
      have x8 := x8 (by decide)
      have vl : ((itemsT x).map valT).length = (itemsT x).length := List.length_map ..
      have vb : Bd 1000000 ((itemsT x).map valT) := fun i hi => by
        obtain ⟨y, hy, rfl⟩ := List.mem_map.mp hi
        exact okT_val (okx y hy)
      refine ⟨rfl, _, rfl, .inr ⟨x, rfl, by omega, .inr ⟨st, fun rg H8 ring s8 nr => ?_⟩⟩⟩
      obtain ⟨dx, t, hrg, ht⟩ := ring
      refine ⟨rg, C, dx, _, rfl, hrg, SR.s, SR.f, rg, _, rfl, ⟨dx, t, hrg, ht⟩, by omega, vb, fun H9 s9 => ⟨_, rfl, ?_⟩⟩
      refine ⟨_, rfl, rfl, ?_⟩
      have et : textN ((itemsT x).map valT) = x := by
        unfold textN
        rw [back_num okx]
        exact text_back x
      rw [et, decide_eq_true rfl]
      have s79 := s8.trans s9
      exact q _ ((Kp.of_but k7).same s79) ((pen7.same s79).mono (by omega)) (tab7.ext s79)
    | some k =>
      refine iteF ?_
      refine hear (Tells.t (.int 0) (.int k)) tab7 (fun E' J Q' xJ er => ?_) (fun M t xM tM ht => ?_)
      · exact ⟨rfl, _, rfl, .inr ⟨x, rfl, by omega, .inl ⟨k, st, er⟩⟩⟩
      · refine ⟨_, rfl, (by show 3 ≤ sizeLine; decide), fun u hu => ?_⟩
        have sM : Same M (upd M u (.tup [.str "text", .int 0, .int k])) := (Same.refl _).new hu
        refine ⟨.tuple [.str "text", .int 0, .int k], .tuple [.str "text", .int 0, .int k], .tup (.inl (.inl (sM _ _ ht))) (.cons (.str _) (.cons (.int _) (.cons (.int _) .nil))), .tup (.inl (.inl upd_same)) (.cons (.str _) (.cons (.int _) (.cons (.int _) .nil))), told_shaped k, told_shaped k, ?_⟩
        rw [told_eqv]
        have xF : ExtN H7 (upd M u (.tup [.str "text", .int 0, .int k])) := xM.trans (ExtN.of sM)
        exact q _ ((Kp.of_but k7).ext xF) ((pen7.ext xF).mono (by omega)) (tM.ext sM)
end
end K
namespace K
open PySem L2 Rg
theorem ne_sl : ¬ (("short" : Str) = "long") := by decide +kernel
theorem ne_sv : ¬ (("short" : Str) = "level") := by decide +kernel
theorem ne_lv : ¬ (("long" : Str) = "level") := by decide +kernel
theorem sort_cases (ls ns : List Int) : (2 * lsum ls ns = ls.sum ∧ sortV ls ns = "level") ∨ (2 * lsum ls ns < ls.sum ∧ sortV ls ns = "short") ∨ (ls.sum < 2 * lsum ls ns ∧ sortV ls ns = "long") := by
  unfold sortV
  by_cases c : 2 * lsum ls ns = ls.sum
  · exact .inl ⟨c, if_pos c⟩
  · by_cases d : 2 * lsum ls ns < ls.sum
    · exact .inr (.inl ⟨d, by rw [if_neg c, if_pos d]⟩)
    · exact .inr (.inr ⟨by omega, by rw [if_neg c, if_neg d]⟩)
theorem lotsN_lot {n : Nat} {l : List Int} (h : l ∈ lotsN n) : Lot n l := ⟨lotsN_nodup n l h, lotsN_in n l h⟩
theorem level_any {ls : List Int} {xs : List V} {kf : V → List Int} (p : (xs.map kf).Perm (lotsN ls.length)) : inV (.str "level") (xs.map fun x => V.str (sortV ls (kf x))) = levelB ls := by
  rw [level_lots]
  have e1 : (lotsN ls.length).any (fun l => decide (2 * lsum ls l = ls.sum)) = (xs.map kf).any fun l => decide (2 * lsum ls l = ls.sum) := by
    rw [Bool.eq_iff_iff, List.any_eq_true, List.any_eq_true]
    exact ⟨fun ⟨x, hx, q⟩ => ⟨x, p.mem_iff.mpr hx, q⟩, fun ⟨x, hx, q⟩ => ⟨x, p.mem_iff.mp hx, q⟩⟩
  rw [e1, List.any_map]
  unfold inV
  rw [List.any_map]
  congr 1
  funext x
  show decide (sortV ls (kf x) = "level") = decide (2 * lsum ls (kf x) = ls.sum)
  rcases sort_cases ls (kf x) with ⟨a, e⟩ | ⟨a, e⟩ | ⟨a, e⟩ <;> rw [e]
  · rw [decide_eq_true rfl, decide_eq_true a]
  · rw [decide_eq_false ne_sv, decide_eq_false (by omega)]
  · rw [decide_eq_false ne_lv, decide_eq_false (by omega)]
theorem lot_len8 {n : Nat} {l : List Int} (h : l ∈ lotsN n) (h8 : n ≤ 8) : l.length ≤ 8 := Nat.le_trans (lotsN_len n l h) h8
/-! ### bars that are long alone -/
def longJ (ls : List Int) (j : Nat) : Bool := decide (V.str (sortV ls [(j : Int)]) = V.str "long")
def aloneL (ls : List Int) (i : Nat) : List Int := ((List.range i).filter (longJ ls)).map fun j : Nat => (j : Int)
theorem alone_in {ls : List Int} {i : Nat} (h : longJ ls i = true) : aloneL ls (i + 1) = aloneL ls i ++ [(i : Int)] := by
  unfold aloneL
  rw [List.range_succ, List.filter_append, List.map_append]
  congr 1
  simp [h]
theorem alone_out {ls : List Int} {i : Nat} (h : longJ ls i = false) : aloneL ls (i + 1) = aloneL ls i := by
  unfold aloneL
  rw [List.range_succ, List.filter_append, List.map_append]
  simp [h]
theorem alone_len (ls : List Int) (i : Nat) : (aloneL ls i).length ≤ i := by
  unfold aloneL
  rw [List.length_map]
  have := List.length_filter_le (longJ ls) (List.range i)
  rw [List.length_range] at this
  exact this
theorem long_iff {ls : List Int} {j : Nat} : longJ ls j = true ↔ ls.sum < 2 * ls.getD j 0 := by
  have e : lsum ls [(j : Int)] = ls.getD j 0 := by unfold lsum; simp
  unfold longJ
  rw [decide_eq_true_eq]
  constructor
  · intro h
    have h := V.str.inj h
    rcases sort_cases ls [(j : Int)] with ⟨a, q⟩ | ⟨a, q⟩ | ⟨a, q⟩
    · rw [q] at h; exact absurd h.symm ne_lv
    · rw [q] at h; exact absurd h ne_sl
    · omega
  · intro h
    rcases sort_cases ls [(j : Int)] with ⟨a, q⟩ | ⟨a, q⟩ | ⟨a, q⟩
    · omega
    · omega
    · rw [q]
theorem alone_nil (ls : List Int) : (aloneL ls ls.length).isEmpty = closesB ls := by
  rw [Bool.eq_iff_iff, List.isEmpty_iff]
  unfold closesB
  rw [List.all_eq_true]
  constructor
  · intro h x hx
    obtain ⟨j, hj, e⟩ := List.getElem_of_mem hx
    refine decide_eq_true ?_
    refine Classical.byContradiction fun no => ?_
    have g : ls.getD j 0 = x := by rw [List.getD_eq_getElem?_getD, List.getElem?_eq_getElem hj]; exact e
    have l : longJ ls j = true := long_iff.mpr (by rw [g]; omega)
    have m : (j : Int) ∈ aloneL ls ls.length := List.mem_map.mpr ⟨j, List.mem_filter.mpr ⟨List.mem_range.mpr hj, l⟩, rfl⟩
    rw [h] at m
    cases m
  · intro h
    unfold aloneL
    rw [List.map_eq_nil_iff, List.filter_eq_nil_iff]
    intro j hj l
    have hj := List.mem_range.mp hj
    have := of_decide_eq_true (h _ (getD_mem hj))
    have := long_iff.mp l
    omega
theorem lot_one {n j : Nat} (h : j < n) : Lot n [(j : Int)] := ⟨List.pairwise_singleton _ _, fun b hb => by rw [List.mem_singleton.mp hb]; omega⟩
/-- what a drawn length becomes, is another one -/
theorem other_ne {x : Int} (h1 : 1 ≤ x) (h2 : x ≤ 1000000) : x % 1000000 + 1 ≠ x ∧ 1 ≤ x % 1000000 + 1 ∧ x % 1000000 + 1 ≤ 1000000 := by omega
theorem other_list {ls : List Int} {i : Nat} (hi : i < ls.length) {y : Int} (h : y ≠ ls.getD i 0) : ls.take i ++ [y] ++ ls.drop (i + 1) ≠ ls := fun e => by
  have g : (ls.take i ++ ([y] ++ ls.drop (i + 1)))[i]? = some y := by
    rw [List.getElem?_append_right (by rw [List.length_take]; omega), List.length_take, Nat.min_eq_left (by omega), Nat.sub_self]
    rfl
  rw [List.append_assoc] at e
  rw [e] at g
  exact h (by rw [List.getD_eq_getElem?_getD, g]; rfl)
end K
namespace K
open PySem L2 Rg LamX
open Evl (pss_cut)
/-- what == and != of a ring ask -/
structure EqAt' (P : Program) (w : World) (K : PySem.W.Frag) (mg : Str → Option Value) (base : Heap) (C f : Addr) (fd : FuncData) : Prop where
  ok : FnOk P w K mg base CX0 2 f fd ["self", "other"] (spREq K C)
  b : Binds K fd ["self", "other"] []
  hs : PySem.W.findIn K (.ref C) "__eq__" = some (some (.ref f))
  hf : PySem.W.isFn K (.ref f) = true
  hne : PySem.W.findIn K (.ref C) "__ne__" = some (some (.builtin "object.__ne__"))
  ho : PySem.W.subIn K (.ref C) (.type "object") = some true
  nS : PySem.W.subIn K (.type "str") (.ref C) = some false
  nT : PySem.W.subIn K (.type "tuple") (.ref C) = some false
  kS : PySem.W.kitOne K (.type "str") (.ref C) = some false
  kT : PySem.W.kitOne K (.type "tuple") (.ref C) = some false
structure LenAt (P : Program) (w : World) (K : PySem.W.Frag) (mg : Str → Option Value) (base : Heap) (C f : Addr) (fd : FuncData) : Prop where
  ok : FnOk P w K mg base CX0 1 f fd ["self"] (spRLen K C)
  b : Binds K fd ["self"] []
  s : PySem.W.findIn K (.ref C) "__len__" = some (some (.ref f))
  f : PySem.W.isFn K (.ref f) = true
abbrev gK2 {α : Type} : List α → List α → List α := fun us ws => match us, ws with
  | [a], [b] => [a, b]
  | _, _ => []
abbrev gK1 {α : Type} : List α → List α → List α := fun us ws => match us, ws with
  | [], [b] => [b]
  | _, _ => []
theorem in_two (c : Bool) : (!inV (.bl c) [.bl true, .bl false]) = false := by cases c <;> decide
theorem dec_bl (c : Bool) : decide (V.bl (decide (c = true)) = V.bl c) = true := by cases c <;> decide
theorem text_len {ls : List Int} (bd : Bd 1000000 ls) (l8 : ls.length ≤ 8) : (textN ls).length ≤ 64 := by
  have := join_len (xs := ls.map numT) (m := 7) fun x hx => by
    obtain ⟨i, hi, rfl⟩ := List.mem_map.mp hx
    exact num_len (bd i hi).1 (bd i hi).2
  rw [List.length_map] at this
  unfold textN
  omega
theorem read_num {ls : List Int} (bd : Bd 1000000 ls) (l3 : 3 ≤ ls.length) (l8 : ls.length ≤ 8) : stopF 0 (itemsT (textN ls)) = none ∧ (itemsT (textN ls)).map valT = ls := by
  rw [items_num (fun e => by rw [e] at l3; simp at l3) bd]
  exact stop_num bd l3 l8
section
variable {P : Program} {w : World} {K : PySem.W.Frag} {mg : Str → Option Value} {base : Heap}
def spMR (K : PySem.W.Frag) : Sp := fun vs H Q _ => ∃ (p l : Addr) (ls : List Int) (e : Addr × List Int) (n : Nat), vs = [.ref p, .ref l] ∧ n < 800000 ∧ PenAt K H p e n ∧ l ≠ p ∧ H l = some (.lst (ls.map V.int)) ∧ 3 ≤ ls.length ∧ ls.length ≤ 8 ∧ Bd 1000000 ls ∧
  ∀ H', But p H H' → PenAt K H' p e (n + 9) → Q (.bl true) H'
abbrev nMR : List Str := ["_law_pen_here", "_law_lengths_here", "_law_told", "_law_ring", "_law_sorts", "_law_alone", "_law_text", "_law_at", "_law_other", "_law_lot", "_law_bar", "_law_length"]
theorem scMR : FnScope nMR ["_law_pen_here", "_law_lengths_here"] (defScope sLwMadeRight) := ⟨rfl, rfl, rfl, by decide +kernel, rfl, by decide +kernel, by decide +kernel⟩
theorem ok_mr {C cT f fD fI fS fE fN fL fO fR pp : Addr} {mc : Value} {c : Rs} {fd fdD fdI fdS fdE fdN fdL fdO fdR : FuncData} {gl gt : List Value → List Value → List Value} (F : Fun K "_law_made_right" "_law_made_right" sLwMadeRight f fd) (T : Bi mg) (Ts : mg "str" = none) (R : RingC K mg C) (D : DrawAt P w K mg base fD fdD)
    (G : TextP P w K mg base C c fI fdI) (KL : KBn K fdI ["self", "lengths"] 1 ["lengths"] gl gK2) (SR : StrAt P w K mg base C fS fdS) (RD : ReadAt P w K mg base C cT mc pp fR fdR) (KT : KBinds K fdR ["text"] ["text"] gt gK1) (EQ : EqAt' P w K mg base C fE fdE) (NL : LenAt P w K mg base C fN fdN)
    (SO : DefAt P w K mg base CX0 2 "_law_sort" ["_law_lengths_here", "_law_lot"] (spSort K) fO fdO) (LO : DefAt P w K mg base CX0 2 "_law_lots" ["_law_many"] (spLots K) fL fdL) : FnOk P w K mg base CX0 8 f fd ["_law_pen_here", "_law_lengths_here"] (spMR K) := by
  refine F.ok scMR (fun vs H Q E h => ?_) (fun cdv A outer s H vs Q E hr h => ?_)
  · obtain ⟨p, l, ls, e, n, rfl, _⟩ := h
    rfl
  · have nd := scMR.nd
    refine ⟨_, (pss_cons (ps_set (i := 2) nd rfl (Or.inl rfl) (pe_callTy call_list_of (by rfl) T.list (by decide +kernel) (pa_cons (pv 1) pa_nil)))
      (pss_cons (ps_set (i := 3) nd rfl (Or.inl rfl) (pe_make G.made G.ok (hr.mono (by decide)) (by rfl) R.g G.b .nil passL (pa_cons (pv 2) pa_nil)))
      (pss_cons (ps_expr (pe_bm PySem.F.plainAttrs_list PySem.F.slot_list_append PySem.F.type_list_append mt_append (pv 2) (pa_cons pe_int pa_nil)))
      (pss_cons (ps_asg pe_int (pg_sub (pv 2) pe_int set_list))
      (pss_cons (ps_setLc (i := 4) (own := [("_law_lot", 9)]) (g := gName 9) (tt := tYes) (te := tCall (spSort K) [] E0 (tCons (tVar 1) (tCons (tVar 9) tNil))) rfl nd rfl rfl (sw_true rfl rfl rfl (by decide +kernel)) (pi_list (pe_call LO.ok (hr.mono (by decide)) rfl LO.g LO.kp LO.b .nil pass0 (pa_cons (pe_callB call_len_seq (by rfl) T.len PySem.boot_len (pa_cons (pv 1) pa_nil)) pa_nil)))
          (blkOk_by (N := nMR) (sc := defScope sLwMadeRight) (by decide +kernel)) (fun _ _ _ _ _ => pg_name (i := 9) nd rfl (Or.inl rfl)) (fun _ _ _ _ _ => pts_nil) (fun _ _ _ _ _ => (pe_call SO.ok (hr.mono (by decide)) rfl SO.g SO.kp SO.b .nil pass0 (pa_cons (pv 1) (pa_cons (pv 9) pa_nil)))))
      (pss_cons (ps_setLc (i := 5) (own := [("_law_bar", 10)]) (g := gName 10) (tt := tTest (tOp rEq (tCall (spSort K) [] E0 (tCons (tVar 1) (tCons (tTup (tCons (tVar 10) tNil)) tNil))) (tC (.str "long")))) (te := tVar 10) rfl nd rfl rfl (sw_true rfl rfl rfl (by decide +kernel)) (pi_range1 (by rfl) T.range (pa_cons (pe_callB (r := rLenS K) call_len_seq (by rfl) T.len PySem.boot_len (pa_cons (pv 1) pa_nil)) pa_nil))
          (blkOk_by (N := nMR) (sc := defScope sLwMadeRight) (by decide +kernel)) (fun _ _ _ _ _ => pg_name (i := 10) nd rfl (Or.inl rfl)) (fun _ _ _ _ _ => pts_one (pt_cmpR op_eq (pe_call SO.ok (hr.mono (by decide)) rfl SO.g SO.kp SO.b .nil pass0 (pa_cons (pv 1) (pa_cons (pe_tup (pa_cons (pv 10) pa_nil)) pa_nil))) pe_str (nomark _))) (fun _ _ _ _ _ => (pv 10)))
      (pss_cons (ps_if (PW.pt (pw_or (pt_cmpR (op_neD hr.units) (pe_fld (pv 3) rfl) (pe_callTy call_tuple_of (by rfl) T.tuple (by decide +kernel) (pa_cons (pv 1) pa_nil)) (nomark _)) (pw_or (pt_not (pt_val (pe_callB call_isi (by rfl) T.isinstance (by decide +kernel) (pa_cons (pe_fld (pv 3) rfl) (pa_cons (pe_bltn (v := .ty "tuple") (u := .type "tuple") (by rfl) T.tuple (by decide +kernel) rfl) pa_nil))))) (pw_or (pt_cmpR op_ne (pe_fld (pv 3) rfl) (pe_callB (cr_sum rfl) (by rfl) T.sum (by decide +kernel) (pa_cons (pv 1) pa_nil)) (nomark _)) (pw_or1 (pt_cmpR op_ne (pe_callB (call_lenO NL.ok (hr.mono (by decide)) NL.b) (by rfl) T.len PySem.boot_len (pa_cons (pv 3) pa_nil)) (pe_callB call_len_seq (by rfl) T.len PySem.boot_len (pa_cons (pv 1) pa_nil)) (nomark _))))))) (pss_one ps_never) pss_nil)
      (pss_cons (ps_if (PW.pt (pw_or (pt_cmpR op_ne (pe_cmpR op_isBl (pe_fld (pv 3) rfl) pe_bl (nomark _)) (pe_cmpR (op_eqD hr.units) (pv 5) (pe_lst pa_nil) (nomark _)) (nomark _)) (pw_or1 (pt_cmpR op_ne (pe_cmpR op_isBl (pe_fld (pv 3) rfl) pe_bl (nomark _)) (pe_cmpR op_notIn_seq pe_str (pv 4) (by rfl)) (nomark _))))) (pss_one ps_never) pss_nil)
      (pss_cons (ps_if (PW.pt (pw_or (pt_cmpR op_notIn_seq (pe_fld (pv 3) rfl) (pe_tup (pa_cons pe_bl (pa_cons pe_bl pa_nil))) (by rfl)) (pw_or1 (pt_cmpR op_notIn_seq (pe_fld (pv 3) rfl) (pe_tup (pa_cons pe_bl (pa_cons pe_bl pa_nil))) (by rfl))))) (pss_one ps_never) pss_nil)
      (pss_cons (ps_set (i := 6) nd rfl (Or.inl rfl) (pe_join pe_str (pe_lc (own := [("_law_length", 11)]) (g := gName 11) (tt := tYes) rfl nd (pi_list (pv 1))
          (blkOk_by (N := nMR) (sc := defScope sLwMadeRight) (by decide +kernel)) (fun _ _ _ _ _ => pg_name (i := 11) nd rfl (Or.inl rfl)) (fun _ _ _ _ _ => pts_nil) (fun _ _ _ _ _ => (pe_callTy call_str_int (by rfl) Ts (by decide +kernel) (pa_cons (pv 11) pa_nil))))))
      (pss_cons (ps_if (PW.pt (pw_or (pt_cmpR op_ne (pe_callTy (call_strO SR.ok (hr.mono (by decide)) SR.b) (by rfl) Ts (by decide +kernel) (pa_cons (pv 3) pa_nil)) (pv 6) (nomark _)) (pw_or (pt_cmpR (op_insNe EQ.ok EQ.hne EQ.ho EQ.hs EQ.hf EQ.b (hr.mono (by decide))) (pe_smeth (pe_glob (v := .ref C) rfl R.g rfl) RD.r RD.c RD.ok (hr.mono (by decide)) RD.b passL (pa_cons (pv 6) pa_nil)) (pv 3) (nomark _)) (pw_or1 (pt_not (pt_cmpR (op_insEq EQ.ok EQ.hs EQ.hf EQ.b (hr.mono (by decide))) (pe_makeK0 G.made G.ok (hr.mono (by decide)) (by rfl) R.g KL passL (pk_cons (pe_callTy call_tuple_of (by rfl) T.tuple (by decide +kernel) (pa_cons (pv 1) pa_nil)) pk_nil)) (pv 3) (nomark _))))))) (pss_one ps_never) pss_nil)
      (pss_cons (ps_set (i := 7) nd rfl (Or.inl rfl) (pe_call D.ok (hr.mono (by decide)) rfl D.g D.kp D.b .nil pass0 (pa_cons (pv 0) (pa_cons (pe_callB call_len_seq (by rfl) T.len PySem.boot_len (pa_cons (pv 1) pa_nil)) pa_nil))))
      (pss_cons (ps_set (i := 8) nd rfl (Or.inl rfl) (pe_op op_cat (pe_op op_cat (pe_slice sl_list (pv 1) po_none (po_some (pv 7))) (pe_lst (pa_cons (pe_op op_add (pe_op op_mod (pe_ix ix_list (pv 1) (pv 7) (fun _ _ => rfl)) pe_int) pe_int) pa_nil))) (pe_slice sl_list (pv 1) (po_some (pe_op op_add (pv 7) pe_int)) po_none)))
      (pss_one (ps_ret (pe_and (pe_cmpR (op_insNe EQ.ok EQ.hne EQ.ho EQ.hs EQ.hf EQ.b (hr.mono (by decide))) (pe_make G.made G.ok (hr.mono (by decide)) (by rfl) R.g G.b .nil passL (pa_cons (pv 8) pa_nil)) (pv 3) (nomark _)) (pe_and (pe_not (pe_cmpR (op_insEqS EQ.ok EQ.nS EQ.hs EQ.hf EQ.b (hr.mono (by decide))) (pv 3) (pv 6) (nomark _))) (pe_and (pe_cmpR (op_insNeT EQ.ok EQ.hne EQ.ho EQ.nT EQ.hs EQ.hf EQ.b (hr.mono (by decide))) (pv 3) (pe_callTy call_tuple_of (by rfl) T.tuple (by decide +kernel) (pa_cons (pv 1) pa_nil)) (nomark _)) (pe_one (pe_cmpR (op_eqD hr.units) (pe_fld (pe_smethK (pe_glob (v := .ref C) rfl R.g rfl) RD.r RD.c RD.ok (hr.mono (by decide)) KT passL (pk_cons (pe_callTy (call_strO SR.ok (hr.mono (by decide)) SR.b) (by rfl) Ts (by decide +kernel) (pa_cons (pe_make G.made G.ok (hr.mono (by decide)) (by rfl) R.g G.b .nil passL (pa_cons (pv 8) pa_nil)) pa_nil)) pk_nil)) rfl) (pe_callTy call_tuple_of (by rfl) T.tuple (by decide +kernel) (pa_cons (pv 8) pa_nil)) (nomark _))))))))))))))))))))), ?_⟩
    obtain ⟨p, l, ls, e, n, rfl, hn, pen, hlp, hl, l3, l8, bd, q⟩ := h
    have tl64 := text_len bd l8
    obtain ⟨rd1, rd2⟩ := read_num bd l3 l8
    -- told, ring
    refine ⟨_, rfl, l, _, rfl, .inl (SqL.of hl), fun d hd => ?_⟩
    have s1 : Same H (upd H d (.lst (ls.map V.int))) := (Same.refl H).new hd
    have f1 : upd H d (.lst (ls.map V.int)) d = some (.lst (ls.map V.int)) := upd_same
    generalize upd H d (.lst (ls.map V.int)) = H1 at s1 f1 ⊢
    refine ⟨_, rfl, made2 (.inl f1) bd l3 l8 fun r H2 ring2 s2 nr => ⟨rfl, ?_⟩⟩
    have f2 := s2 _ _ f1
    refine ⟨_, rfl, .inl ⟨rfl, _, SqL.of f2⟩, d, _, _, rfl, rfl, f2, (by rw [List.length_map]; exact sm (by omega)), ?_⟩
    refine ⟨_, rfl, d, _, _, 0, rfl, rfl, upd_same, (ixN_at (by decide) (by rw [List.length_append, List.length_map]; simp)), ?_⟩
    have b3 : But d H2 (upd (upd H2 d (.lst (ls.map V.int ++ [V.int 1]))) d (.lst ((ls.map V.int ++ [V.int 1]).set 0 (V.int 7)))) := (But.refl d H2).at.at
    have s3 : Same H (upd (upd H2 d (.lst (ls.map V.int ++ [V.int 1]))) d (.lst ((ls.map V.int ++ [V.int 1]).set 0 (V.int 7)))) := fun b o h => b3 b o (ne_of_none h hd) ((s1.trans s2) _ _ h)
    have ring3 := ring2.but b3 f2
    generalize upd (upd H2 d (.lst (ls.map V.int ++ [V.int 1]))) d (.lst ((ls.map V.int ++ [V.int 1]).set 0 (V.int 7))) = H3 at s3 ring3 ⊢
    clear b3 ring2 f2 s2 f1 s1
    -- sorts
    refine ⟨_, rfl, l, _, rfl, .inl (SqL.of (s3 _ _ hl)), ?_⟩
    rw [List.length_map]
    refine ⟨ls.length, rfl, by omega, l8, fun q0 xs kf H4 s4 hq la pm _ => ⟨q0, rfl, ⟨_, SqL.of hq⟩, fun D4 hD4 => ?_⟩⟩
    have hl4 := s4 _ _ (s3 _ _ hl)
    have xl : xs.length ≤ 256 := by
      have e := pm.length_eq
      rw [List.length_map, lotsN_length] at e
      rw [e]
      exact Nat.pow_le_pow_right (by decide) (show ls.length ≤ 8 from l8)
    have lots : ∀ x ∈ xs, kf x ∈ lotsN ls.length := fun x hx => pm.mem_iff.mp (List.mem_map.mpr ⟨_, hx, rfl⟩)
    refine lc_list (K := K) (a := q0) (xs := xs) (fun i H' => Same H4 H' ∧ H' D4 = some (.lst ((xs.take i).map fun x => V.str (sortV ls (kf x))))) ⟨(Same.refl H4).new hD4, upd_same⟩ (fun i H' _ q => SqL.of (q.1 _ _ hq)) ?_ ?_
    · rintro i x H' hi ⟨s5, h5⟩
      have hx := List.mem_of_getElem? hi
      obtain ⟨a, rfl, ha⟩ := la x hx
      refine ⟨rfl, _, rfl, _, rfl, l, a, ls, kf (.ref a), rfl, SqL.of (s5 _ _ hl4), .inr (.inl (.inl (s5 _ _ ha))), l8, lot_len8 (lots _ hx) l8, lotsN_lot (lots _ hx), fun H6 s6 => ⟨_, s6 _ _ h5, ?_, (s5.trans s6).mut hD4, ?_⟩⟩
      · rw [List.length_map, List.length_take]
        exact sm (by omega)
      · rw [upd_same, ← take_snoc hi, List.map_append]
        rfl
    rintro H5 ⟨s5, h5⟩
    rw [List.take_length] at h5
    have s35 := (s3.trans s4).trans s5
    have ring5 := ring3.same (s4.trans s5)
    have hl5 := s35 _ _ hl
    have lv := level_any pm
    have flat : (xs.map fun x => V.str (sortV ls (kf x))).all flatV = true := List.all_eq_true.mpr fun v hv => by
      obtain ⟨x, _, rfl⟩ := List.mem_map.mp hv
      rfl
    -- alone
    refine ⟨_, rfl, l, _, rfl, .inl (SqL.of hl5), ?_⟩
    rw [List.length_map]
    refine ⟨_, rfl, by omega, by omega, fun D6 hD6 => ?_⟩
    refine lc_range (lo := 0) (n := ((ls.length : Nat) : Int).toNat) (fun i H' => Same H5 H' ∧ H' D6 = some (.lst ((aloneL ls i).map V.int))) ⟨(Same.refl H5).new hD6, upd_same⟩ ?_ ?_
    · rintro i H' hi ⟨s6, h6⟩
      rw [Int.toNat_natCast] at hi
      rw [Int.zero_add]
      refine ⟨rfl, _, rfl, _, rfl, (by show 1 ≤ sizeLine; decide), fun t ht => ?_⟩
      have s7 : Same H' (upd H' t (.tup [.int (i : Int)])) := (Same.refl _).new ht
      refine ⟨l, t, ls, [(i : Int)], rfl, SqL.of (s7 _ _ (s6 _ _ hl5)), .inr (.inl (.inl upd_same)), l8, (by show 1 ≤ 8; decide), lot_one hi, fun H8 s8 => ⟨rfl, _, rfl, ?_⟩⟩
      have h8 := s8 _ _ (s7 _ _ h6)
      have s68 := s6.trans (s7.trans s8)
      have al := alone_len ls i
      cases el : longJ ls i with
      | true =>
        refine iteBT el ⟨_, rfl, _, h8, (by rw [List.length_map]; exact sm (by omega)), s68.mut hD6, ?_⟩
        rw [upd_same, alone_in el, List.map_append]
        rfl
      | false =>
        refine iteBF el ⟨s68, ?_⟩
        rw [alone_out el]
        exact h8
    rintro H6 ⟨s6, h6⟩
    rw [Int.toNat_natCast] at h6
    have s36 := s35.trans s6
    have h56 := s6 _ _ h5
    have ring6 := ring5.same s6
    have hl6 := s36 _ _ hl
    clear s35 ring5 hl5 s6 h5 la lots s5 s4 s3 ring3 hl4
    obtain ⟨dx, t, hr6, ht6⟩ := ring6
    -- lengths, total, len
    refine ⟨_, rfl, r, C, dx, _, _, rfl, hr6, R.cl, R.nL, rf_lengths _ _, _, rfl, l, _, rfl, .inl ⟨SqL.of hl6, fun t1 nt1 => ?_⟩⟩
    have s7 : Same H6 (upd H6 t1 (.tup (ls.map V.int))) := (Same.refl _).new nt1
    have f7 : upd H6 t1 (.tup (ls.map V.int)) t1 = some (.tup (ls.map V.int)) := upd_same
    generalize upd H6 t1 (.tup (ls.map V.int)) = H7 at s7 f7 ⊢
    have hr7 := s7 _ _ hr6
    have ht7 := s7 _ _ ht6
    have hl7 := s7 _ _ hl6
    refine ⟨_, _, .tup (.inl (.inl ht7)) (dp_ints _), .tup (.inl (.inl f7)) (dp_ints _), sh_tup _, sh_tup _, _, rfl, ?_⟩
    rw [eqv_tup, decide_eq_true rfl]
    refine iteF ?_
    refine ⟨_, rfl, r, C, dx, _, _, rfl, hr7, R.cl, R.nL, rf_lengths _ _, .ref t, .ty "tuple", .type "tuple", _, true, rfl, .ty _, .base (.tup ht7), kit_ty (by decide +kernel), _, rfl, ?_⟩
    refine iteF ?_
    refine ⟨_, rfl, r, C, dx, _, _, rfl, hr7, R.cl, R.nT, rf_total _ _, _, rfl, l, ls, rfl, SqL.of hl7, rfl, _, rfl, ?_⟩
    rw [decide_eq_true rfl]
    refine iteF ?_
    refine ⟨_, rfl, r, C, dx, _, rfl, hr7, NL.s, NL.f, r, ls, rfl, ⟨dx, t, hr7, ht7⟩, ⟨_, rfl, by omega, by omega, _, rfl, l, _, rfl, .inl (SqL.of hl7), rfl, _, rfl, ?_⟩⟩
    rw [List.length_map, decide_eq_true rfl]
    refine iteF ?_
    -- closes, is_clear
    refine ⟨_, rfl, r, C, dx, _, _, rfl, hr7, R.cl, R.nC, rf_closes _ _, _, _, rfl, rfl, _, rfl, (by show 0 ≤ sizeLine; decide), fun e0 ne0 => ?_⟩
    have s8 : Same H7 (upd H7 e0 (.lst [])) := (Same.refl _).new ne0
    have f8 : upd H7 e0 (.lst []) e0 = some (.lst []) := upd_same
    generalize upd H7 e0 (.lst []) = H8 at s8 f8 ⊢
    have hr8 := s8 _ _ hr7
    have ht8 := s8 _ _ ht7
    have hl8 := s8 _ _ hl7
    have s78 := s7.trans s8
    refine ⟨_, _, .lst (SqL.of (s78 _ _ h6)) (dp_ints _), .lst (SqL.of f8) .nil, shaped_ints _, rfl, rfl, _, rfl, ?_⟩
    rw [eqv_nil, alone_nil, dec_bl]
    refine iteF ?_
    refine ⟨_, rfl, r, C, dx, _, _, rfl, hr8, R.cl, R.nI, rf_clear _ _, _, _, rfl, rfl, _, rfl, D4, _, rfl, .inl (SqL.of (s78 _ _ h56)), rfl, flat, rfl, _, rfl, ?_⟩
    rw [if_pos rfl, lv, dec_bl]
    refine iteF ?_
    refine ⟨_, rfl, r, C, dx, _, _, rfl, hr8, R.cl, R.nC, rf_closes _ _, (by show 2 ≤ sizeLine; decide), fun t2 nt2 => ⟨t2, _, rfl, .inr (.inl (.inl upd_same)), rfl, rfl, _, rfl, ?_⟩⟩
    rw [if_pos rfl, in_two]
    refine iteF ?_
    have s9 : Same H8 (upd H8 t2 (.tup [.bl true, .bl false])) := (Same.refl _).new nt2
    generalize upd H8 t2 (.tup [.bl true, .bl false]) = H9 at s9 ⊢
    refine ⟨_, rfl, r, C, dx, _, _, rfl, s9 _ _ hr8, R.cl, R.nI, rf_clear _ _, (by show 2 ≤ sizeLine; decide), fun t3 nt3 => ⟨t3, _, rfl, .inr (.inl (.inl upd_same)), rfl, rfl, _, rfl, ?_⟩⟩
    rw [if_pos rfl, in_two]
    refine iteF ?_
    have s10 : Same H8 (upd H9 t3 (.tup [.bl true, .bl false])) := s9.new nt3
    generalize upd H9 t3 (.tup [.bl true, .bl false]) = H10 at s10 ⊢
    have hr10 := s10 _ _ hr8
    have ht10 := s10 _ _ ht8
    have hl10 := s10 _ _ hl8
    have S10 := s36.trans (s78.trans s10)
    clear s36 s78 s10 s9 hr8 ht8 hl8 hr7 ht7 hl7 hr6 ht6 hl6 s7 s8 h56 h6 f7 f8 flat lv
    -- text
    refine ⟨⟨_, rfl⟩, _, rfl, l, rfl, ⟨_, SqL.of hl10⟩, fun D hD => ?_⟩
    refine lc_list (K := K) (a := l) (xs := ls.map V.int) (fun i H' => Same H10 H' ∧ H' D = some (.lst (((ls.take i).map numT).map V.str))) ⟨(Same.refl H10).new hD, upd_same⟩ (fun i H' _ q => SqL.of (q.1 _ _ hl10)) ?_ ?_
    · rintro i x H' hi ⟨s2, h2⟩
      obtain ⟨z, hz, rfl⟩ := int_at hi
      have bz := bd z (List.mem_of_getElem? hz)
      refine ⟨rfl, _, rfl, z, rfl, log_small bz.1 bz.2, _, h2, (by rw [List.length_map, List.length_map, List.length_take]; exact sm (by omega)), s2.mut hD, ?_⟩
      rw [upd_same, ← take_snoc hz, List.map_append, List.map_append]
      rfl
    rintro H11 ⟨s11, hD11⟩
    rw [List.length_map, List.take_length] at hD11
    have hr11 := s11 _ _ hr10
    have ht11 := s11 _ _ ht10
    have hl11 := s11 _ _ hl10
    have S11 := S10.trans s11
    clear S10 s11 hr10 ht10 hl10
    refine ⟨_, D, ls.map numT, rfl, rfl, .inl (SqL.of hD11), ?_, ?_⟩
    · have := sum_small bd
      rw [List.length_map]
      show _ + ls.length * 1 ≤ 16777216
      omega
    rw [spc_eq]
    have tx : Txt.join ⟨#[32]⟩ (ls.map numT) = textN ls := rfl
    rw [tx]
    -- str, read, made by name
    refine ⟨_, rfl, r, C, dx, _, rfl, hr11, SR.s, SR.f, r, ls, rfl, ⟨dx, t, hr11, ht11⟩, l8, bd, fun H12 s12 => ⟨_, rfl, _, rfl, rfl, _, rfl, ?_⟩⟩
    rw [decide_eq_true rfl]
    refine iteF ?_
    have hr12 := s12 _ _ hr11
    have ht12 := s12 _ _ ht11
    have hl12 := s12 _ _ hl11
    refine ⟨rfl, _, rfl, .inr ⟨textN ls, rfl, by omega, .inr ⟨rd1, fun rg H13 ring13 s13 nr13 => ?_⟩⟩⟩
    rw [rd2] at ring13
    have hr13 := s13 _ _ hr12
    have ht13 := s13 _ _ ht12
    have hl13 := s13 _ _ hl12
    obtain ⟨dy, gs, hg13⟩ := ring13.at_
    refine ⟨_, rfl, rg, r, dy, dx, _, _, rfl, rfl, hg13, hr13, .inl ⟨rg, r, ls, ls, rfl, ring13, ⟨dx, t, hr13, ht13⟩, ⟨_, rfl, _, rfl, ?_⟩⟩⟩
    rw [decide_eq_true rfl]
    refine iteF ?_
    refine ⟨_, rfl, l, _, rfl, .inl ⟨SqL.of hl13, fun t4 nt4 => ?_⟩⟩
    have s14 : Same H13 (upd H13 t4 (.tup (ls.map V.int))) := (Same.refl _).new nt4
    have f14 : upd H13 t4 (.tup (ls.map V.int)) t4 = some (.tup (ls.map V.int)) := upd_same
    generalize upd H13 t4 (.tup (ls.map V.int)) = H14 at s14 f14 ⊢
    refine ⟨rfl, rfl, made2 (.inr f14) bd l3 l8 fun rh H15 ring15 s15 nr15 => ⟨rfl, ?_⟩⟩
    have s1315 := s14.trans s15
    have hr15 := s1315 _ _ hr13
    have ht15 := s1315 _ _ ht13
    have hl15 := s1315 _ _ hl13
    obtain ⟨dz, hs, hh15⟩ := ring15.at_
    refine ⟨_, rfl, rh, r, dz, dx, _, _, rfl, rfl, hh15, hr15, .inl ⟨rh, r, ls, ls, rfl, ring15, ⟨dx, t, hr15, ht15⟩, ⟨_, rfl, _, rfl, ?_⟩⟩⟩
    rw [decide_eq_true rfl]
    refine iteF ?_
    have S15 := S11.trans (s12.trans (s13.trans s1315))
    clear S11 s12 s13 s1315 s14 s15 hr11 ht11 hl11 hr12 ht12 hl12 hr13 ht13 hl13 hg13 ring13 f14 hh15 ring15 hD11
    -- at
    have pen15 := pen.same S15
    refine ⟨_, rfl, _, rfl, l, _, rfl, .inl (SqL.of hl15), ?_⟩
    rw [List.length_map]
    refine ⟨p, e, _, n, rfl, by omega, by omega, by omega, pen15, fun a H16 a0 a1 b16 pen16 => ?_⟩
    obtain ⟨a, rfl⟩ := Int.eq_ofNat_of_zero_le a0
    have ha : a < ls.length := by omega
    obtain ⟨pl, hpl⟩ := pen15.some
    have ring16 := RingW.but (K := K) (C := C) (ls := ls) ⟨dx, t, hr15, ht15⟩ b16 hpl
    have hl16 := b16 _ _ hlp hl15
    have K16 : But p H H16 := (But.of S15).trans b16
    clear b16 pen15 hr15 ht15 hl15 hpl
    -- other
    refine ⟨_, rfl, _, rfl, _, rfl, l, _, rfl, SqL.of hl16, fun c1 nc1 => ?_⟩
    rw [cutV_to, ← List.map_take]
    have t1 : Same H16 (upd H16 c1 (.lst ((ls.take a).map V.int))) := (Same.refl _).new nc1
    have f1 : upd H16 c1 (.lst ((ls.take a).map V.int)) c1 = some (.lst ((ls.take a).map V.int)) := upd_same
    generalize upd H16 c1 (.lst ((ls.take a).map V.int)) = G1 at t1 f1 ⊢
    refine ⟨_, rfl, _, rfl, l, _, a, _, rfl, rfl, SqL.of (t1 _ _ hl16), getL rfl ha, _, _, rfl, rfl, (by show (0 : Int) < 1000000; decide), _, _, rfl, rfl, (by show 1 ≤ sizeLine; decide), fun c2 nc2 => ?_⟩
    have bg := bd.get ha
    have ot := other_ne bg.1 bg.2
    have t2 : Same G1 (upd G1 c2 (.lst [.int (ls.getD a 0 % 1000000 + 1)])) := (Same.refl _).new nc2
    have f2 : upd G1 c2 (.lst [.int (ls.getD a 0 % 1000000 + 1)]) c2 = some (.lst [.int (ls.getD a 0 % 1000000 + 1)]) := upd_same
    generalize upd G1 c2 (.lst [.int (ls.getD a 0 % 1000000 + 1)]) = G2 at t2 f2 ⊢
    generalize ho : ls.getD a 0 % 1000000 + 1 = y at ot f2
    have lt : (ls.take a).length = a := by rw [List.length_take]; omega
    refine ⟨c1, c2, _, _, rfl, rfl, t2 _ _ f1, f2, Nat.le_of_lt (sm (by simp only [List.length_map, List.length_cons, List.length_nil]; omega)), fun c3 nc3 => ?_⟩
    have em : (ls.take a).map V.int ++ [V.int y] = (ls.take a ++ [y]).map V.int := by rw [List.map_append]; rfl
    rw [em]
    have t3 : Same G2 (upd G2 c3 (.lst ((ls.take a ++ [y]).map V.int))) := (Same.refl _).new nc3
    have f3 : upd G2 c3 (.lst ((ls.take a ++ [y]).map V.int)) c3 = some (.lst ((ls.take a ++ [y]).map V.int)) := upd_same
    generalize upd G2 c3 (.lst ((ls.take a ++ [y]).map V.int)) = G3 at t3 f3 ⊢
    refine ⟨_, rfl, _, rfl, _, _, rfl, rfl, _, rfl, l, _, rfl, SqL.of (t3 _ _ (t2 _ _ (t1 _ _ hl16))), fun c4 nc4 => ?_⟩
    rw [cut_from (k := a + 1) _ (by omega), ← List.map_drop]
    have t4 : Same G3 (upd G3 c4 (.lst ((ls.drop (a + 1)).map V.int))) := (Same.refl _).new nc4
    have f4 : upd G3 c4 (.lst ((ls.drop (a + 1)).map V.int)) c4 = some (.lst ((ls.drop (a + 1)).map V.int)) := upd_same
    generalize upd G3 c4 (.lst ((ls.drop (a + 1)).map V.int)) = G4 at t4 f4 ⊢
    have ld : (ls.drop (a + 1)).length = ls.length - (a + 1) := List.length_drop
    refine ⟨c3, c4, _, _, rfl, rfl, t4 _ _ f3, f4, Nat.le_of_lt (sm (by simp only [List.length_map, List.length_append, List.length_cons, List.length_nil]; omega)), fun c5 nc5 => ?_⟩
    rw [← List.map_append]
    have one := other_list (ls := ls) ha (y := y) ot.1
    have mlen : (ls.take a ++ [y] ++ ls.drop (a + 1)).length = ls.length := by
      simp only [List.length_append, List.length_cons, List.length_nil]
      omega
    have mbd : Bd 1000000 (ls.take a ++ [y] ++ ls.drop (a + 1)) := ((bd.take a).app (Bd.one ot.2.1 ot.2.2)).app (bd.drop _)
    generalize ls.take a ++ [y] ++ ls.drop (a + 1) = ms at one mlen mbd ⊢
    have S5 : Same H16 (upd G4 c5 (.lst (ms.map V.int))) := (t1.trans (t2.trans (t3.trans t4))).new nc5
    have f5 : upd G4 c5 (.lst (ms.map V.int)) c5 = some (.lst (ms.map V.int)) := upd_same
    generalize upd G4 c5 (.lst (ms.map V.int)) = H17 at S5 f5 ⊢
    clear t1 t2 t3 t4 f1 f2 f3 f4
    have m3 : 3 ≤ ms.length := by omega
    have m8 : ms.length ≤ 8 := by omega
    obtain ⟨md1, md2⟩ := read_num mbd m3 m8
    have mtl := text_len mbd m8
    have ring17 := ring16.same S5
    -- the end
    refine ⟨_, rfl, made2 (.inl f5) mbd m3 m8 fun ro H18 ring18 s18 nr18 => ⟨rfl, ?_⟩⟩
    obtain ⟨dx2, t2, hr18, ht18⟩ := ring17.same s18
    obtain ⟨dz2, hs2, hh18⟩ := ring18.at_
    refine ⟨_, rfl, ro, r, dz2, dx2, _, _, rfl, rfl, hh18, hr18, .inl ⟨ro, r, ms, ls, rfl, ring18, ⟨dx2, t2, hr18, ht18⟩, ⟨_, rfl, _, rfl, ?_⟩⟩⟩
    rw [decide_eq_false one]
    refine iteT ?_
    refine ⟨_, rfl, _, rfl, r, textN ls, dx2, _, rfl, rfl, hr18, .inr ⟨r, .str (textN ls), .type "str", rfl, .base (.str _), EQ.kS, ⟨_, rfl, _, rfl, _, rfl, ?_⟩⟩⟩
    refine iteT ?_
    refine ⟨_, rfl, _, rfl, l, _, rfl, .inl ⟨SqL.of (s18 _ _ (S5 _ _ hl16)), fun t6 nt6 => ?_⟩⟩
    have s19 : Same H18 (upd H18 t6 (.tup (ls.map V.int))) := (Same.refl _).new nt6
    have f19 : upd H18 t6 (.tup (ls.map V.int)) t6 = some (.tup (ls.map V.int)) := upd_same
    generalize upd H18 t6 (.tup (ls.map V.int)) = H19 at s19 f19 ⊢
    refine ⟨r, t6, dx2, _, _, rfl, rfl, s19 _ _ hr18, f19, .inr ⟨r, .ref t6, .type "tuple", rfl, .base (.tup f19), EQ.kT, ⟨_, rfl, _, rfl, ?_⟩⟩⟩
    refine iteT ?_
    refine ⟨rfl, _, rfl, made2 (.inl (s19 _ _ (s18 _ _ f5))) mbd m3 m8 fun ru H20 ring20 s20 nr20 => ⟨rfl, ?_⟩⟩
    obtain ⟨du, tu, hu20, htu20⟩ := ring20
    refine ⟨ru, C, du, _, rfl, hu20, SR.s, SR.f, ru, ms, rfl, ⟨du, tu, hu20, htu20⟩, m8, mbd, fun H21 s21 => ⟨_, rfl, ?_⟩⟩
    refine .inr ⟨textN ms, rfl, by omega, .inr ⟨md1, fun rv H22 ring22 s22 nr22 => ?_⟩⟩
    rw [md2] at ring22
    obtain ⟨dv, tv, hv22, htv22⟩ := ring22
    have sAll := s19.trans (s20.trans (s21.trans s22))
    refine ⟨rv, C, dv, _, _, rfl, hv22, R.cl, R.nL, rf_lengths _ _, _, rfl, c5, _, rfl, .inl ⟨SqL.of (sAll _ _ (s18 _ _ f5)), fun t8 nt8 => ?_⟩⟩
    have s23 : Same H22 (upd H22 t8 (.tup (ms.map V.int))) := (Same.refl _).new nt8
    refine ⟨_, _, .tup (.inl (.inl (s23 _ _ htv22))) (dp_ints _), .tup (.inl (.inl upd_same)) (dp_ints _), sh_tup _, sh_tup _, ?_⟩
    rw [eqv_tup, decide_eq_true rfl]
    have sF : Same H16 (upd H22 t8 (.tup (ms.map V.int))) := S5.trans (s18.trans (sAll.trans s23))
    exact q _ (K16.trans (But.of sF)) ((pen16.same sF).mono (by omega))
end
end K
namespace K
open PySem L2 Rg LamX
open Evl (pss_cut)
theorem Kp.of_ext {p : Addr} {H H' : Hp} (x : ExtN H H') : Kp p H H' := fun b o _ e t => x b o e t
theorem PenAt.at_ {K : PySem.W.Frag} {HB M : Hp} {p h : Addr} {e : Addr × List Int} {m n : Nat} {o : HO} (pb : PenAt K HB p e m) (pm : PenAt K M p e n) (nh : HB h = none) : PenAt K (upd M h o) p e n := by
  obtain ⟨a, r, h1, h5, h6, h7⟩ := pm.ex
  refine ⟨⟨a, r, by rw [upd_ne (pb.ne nh).symm]; exact h1, h5, h6, h7⟩, ?_, pm.np, pm.ln⟩
  have go : e.1 ≠ h → SqL K (upd M h o) e.1 (e.2.map V.int) := fun ne => by
    rcases pm.sq with (z | ⟨o', z⟩) | z
    · exact .inl (.inl (by rw [upd_ne ne]; exact z))
    · exact .inl (.inr ⟨o', by rw [upd_ne ne]; exact z⟩)
    · exact .inr z
  rcases pb.sq with (z | ⟨o', z⟩) | z
  · exact go (ne_of_none z nh)
  · exact go (ne_of_none z nh)
  · exact .inr z
theorem El.kp {K : PySem.W.Frag} {H H' : Hp} {x : V} {k : String} {d : PyData} {p : Addr} {e : Addr × List Int} {n : Nat} (q : El H x k d) (kp : Kp p H H') (pen : PenAt K H p e n) : El H' x k d := by
  obtain ⟨u, v, hp, _⟩ := pen.ex
  cases q with
  | non => exact .non
  | int i => exact .int i
  | bl b => exact .bl b
  | str z c => exact .str z c
  | tup h => exact .tup (kp _ _ (fun z => by rw [z, hp] at h; cases h) h (fun _ z => nomatch z))
  | lst h => exact .lst (kp _ _ (fun z => by rw [z, hp] at h; cases h) h (fun _ z => nomatch z))
/-- the heap between two things that are heard -/
structure RS (K : PySem.W.Frag) (T : List (Addr × Str)) (p h : Addr) (e : Addr × List Int) (n : Nat) (HB H : Hp) (done : List V) (qs : List (List V × List PyData)) : Prop where
  kp : Kp p HB H
  nh : HB h = none
  penB : ∃ m, PenAt K HB p e m
  pen : PenAt K H p e n
  tab : Tabs T H
  hh : H h = some (.lst done)
  pt : Paired (fun x q => ∃ a, x = V.ref a ∧ H a = some (.tup q.1) ∧ ∀ M, DpAll K M q.1 q.2) done qs
theorem RS.first {K : PySem.W.Frag} {T : List (Addr × Str)} {p h : Addr} {e : Addr × List Int} {n : Nat} {M : Hp} {a : Addr} {q : List V × List PyData} (t : Tabs T M) (pen : PenAt K M p e n) (ha : M a = some (.tup q.1)) (d : ∀ M', DpAll K M' q.1 q.2) (nh : M h = none) : RS K T p h e n M (upd M h (.lst [.ref a])) [.ref a] [q] := by
  have s : Same M (upd M h (.lst [.ref a])) := (Same.refl M).new nh
  exact ⟨Kp.of_ext (ExtN.of s), nh, ⟨_, pen⟩, pen.same s, t.ext s, upd_same, .cons ⟨a, rfl, s _ _ ha, d⟩ .nil⟩
theorem RS.step {K : PySem.W.Frag} {T : List (Addr × Str)} {p h : Addr} {e : Addr × List Int} {n m : Nat} {HB H M : Hp} {a : Addr} {done : List V} {qs : List (List V × List PyData)} {q : List V × List PyData} (s : RS K T p h e n HB H done qs) (ke : Kp p H M) (t : Tabs T M) (pen : PenAt K M p e m) (ha : M a = some (.tup q.1)) (d : ∀ M', DpAll K M' q.1 q.2) :
    M h = some (.lst done) ∧ RS K T p h e m HB (upd M h (.lst (done ++ [.ref a]))) (done ++ [.ref a]) (qs ++ [q]) := by
  obtain ⟨m0, pb⟩ := s.penB
  have hne : h ≠ p := pb.ne s.nh
  have hm : M h = some (.lst done) := ke _ _ hne s.hh (fun _ z => nomatch z)
  have b : But h M (upd M h (.lst (done ++ [.ref a]))) := fun c o n e => by rw [upd_ne n]; exact e
  obtain ⟨u, v, hp, _⟩ := s.pen.ex
  have na : a ≠ h := fun z => by rw [z, hm] at ha; cases ha
  refine ⟨hm, fun c o nc ec tc => ?_, s.nh, ⟨_, pb⟩, pb.at_ pen s.nh, tabs_but t b hm, upd_same, par_app ?_ (.cons ⟨a, rfl, by rw [upd_ne na]; exact ha, d⟩ .nil)⟩
  · have nch : c ≠ h := ne_of_none ec s.nh
    rw [upd_ne nch]
    exact ke _ _ nc (s.kp _ _ nc ec tc) tc
  · refine par_imp (fun y r ⟨c, ec, hcc, dc⟩ => ⟨c, ec, ?_, dc⟩) s.pt
    have e1 : M c = some (.tup r.1) := ke _ _ (fun z => by rw [z, hp] at hcc; cases hcc) hcc (fun _ z => nomatch z)
    rw [upd_ne (fun z => by rw [z, hm] at e1; cases e1)]
    exact e1
theorem RS.dp {K : PySem.W.Frag} {H : Hp} : ∀ {xs : List V} {qs : List (List V × List PyData)}, Paired (fun x q => ∃ a, x = V.ref a ∧ H a = some (.tup q.1) ∧ ∀ M, DpAll K M q.1 q.2) xs qs → DpAll K H xs (qs.map fun q => .tuple q.2)
  | _, _, .nil => .nil
  | _, _, .cons ⟨a, ea, h, d⟩ t => by
    subst ea
    exact .cons (.tup (.inl (.inl h)) (d _)) (RS.dp t)
/-- what may be drawn ahead of an error -/
def WD (K : PySem.W.Frag) (p : Addr) (e : Addr × List Int) (n : Nat) (J L : Hp) : Prop := But p J L ∧ PenAt K L p e n
theorem RS.drawn {K : PySem.W.Frag} {T : List (Addr × Str)} {p h : Addr} {e : Addr × List Int} {n m : Nat} {HB H J L M : Hp} {done : List V} {qs : List (List V × List PyData)} (s : RS K T p h e n HB H done qs) (xJ : ExtN H J) (tJ : Tabs T J) (wl : WD K p e m J L) (sL : Same L M) : Kp p H M ∧ Tabs T M ∧ PenAt K M p e m :=
  ⟨fun b o nb eb tb => sL _ _ (wl.1 _ _ nb (xJ _ _ eb tb)), (tabs_but tJ wl.1 ((s.pen.ext xJ).some.choose_spec)).ext sL, wl.2.same sL⟩
def kfO (ko : String) (v : V) : String := match v with
  | .int _ => "int"
  | _ => ko
theorem kfO_el {H : Hp} {x : V} {k : String} {d : PyData} (q : El H x k d) : kfO k x = k := by cases q <;> rfl
theorem bent_knd {K : PySem.W.Frag} {H : Hp} {odd : V} {ko : String} {d : PyData} (q : El H odd ko d) {xs : List V} (h : ∀ x ∈ xs, x = odd ∨ ∃ i, x = .int i) : ∀ x ∈ xs, KndI K H x (kfO ko x) := fun x hx => by
  rcases h x hx with rfl | ⟨i, rfl⟩
  · rw [kfO_el q]; exact q.kndI
  · exact ⟨Knd.int, fun _ => ⟨_, rfl⟩⟩
theorem bent_not {H : Hp} {odd : V} {ko : String} {d : PyData} (q : El H odd ko d) (wo : lenB ko odd = false) {xs : List V} (h : odd ∈ xs) : (xs.all fun x => lenB (kfO ko x) x) = false := by
  cases e : xs.all fun x => lenB (kfO ko x) x with
  | false => rfl
  | true =>
    have := List.all_eq_true.mp e odd h
    rw [kfO_el q, wo] at this
    cases this
def dueL : List PyData := [.tuple [.str "ring", .str "lengths"], .tuple [.str "ring", .str "lengths"], .tuple [.str "ring", .str "lengths"], .tuple [.str "ring", .str "lengths"], .tuple [.str "ring", .str "bars"], .tuple [.str "many", .str "bars", .int 8], .tuple [.str "text", .int 0, .int 0]]
theorem due_shaped : SeqAt.shaped (.list dueL) = true := by decide +kernel
theorem due_eqv : PyData.eqv (.list dueL) (.list dueL) = true := by decide +kernel
section
variable {P : Program} {w : World} {K : PySem.W.Frag} {mg : Str → Option Value} {base : Heap}
structure RingA (P : Program) (w : World) (K : PySem.W.Frag) (mg : Str → Option Value) (base : Heap) (C : Addr) (c : Rs) (fI : Addr) (fdI : FuncData) : Prop where
  made : Mk K C fI
  ok : FnOk P w K mg base (L2.CX P w) 4 fI fdI ["self", "lengths"] (spRA K C c)
  b : Binds K fdI ["self", "lengths"] []
abbrev nRF : List Str := ["_law_pen_here", "_law_lengths_here", "_law_at", "_law_heard_here", "_law_due", "_law_bent", "_law_odd"]
theorem scRF : FnScope nRF ["_law_pen_here", "_law_lengths_here"] (defScope sLwRefusedRight) := ⟨rfl, rfl, rfl, by decide +kernel, rfl, by decide +kernel, by decide +kernel⟩
theorem ok_rf {C cd P1 P2 f fD fP fI fH fR pp eR : Addr} {mc : Value} {hc : Hs} {fd fdD fdP fdI fdR fdH : FuncData} (F : FunC K "_law_refused_right" "_law_refused_right" sLwRefusedRight f fd cd) (T : Bi mg) (R : RingC K mg C) (D : DrawAt P w K mg base fD fdD)
    (PK : DefAt P w K mg base CX0 3 "_law_pick" ["_law_pen_here", "_law_some"] (spPick K) fP fdP) (G : TextP P w K mg base C ⟨hc.r, hc.m⟩ fI fdI) (GA : RingA P w K mg base C ⟨hc.r, hc.m⟩ fI fdI) (RD : ReadAt P w K mg base C hc.t mc pp fR fdR) (kRS : PySem.W.kitOne K (.ref C) (.type "str") = some false)
    (Hc : HeardC K mg hc eR) (TB : TabB base mg cd P2) (hmT : (P2, qRf) ∈ T2 P1 P2) (hu : ∀ p ∈ T2 P1 P2, p.1 = P2 → p.2 = qRf)
    (FH : Fun K "_law_heard" "_law_heard" sLwHeard fH fdH) (BH : Binds K fdH ["_law_ask"] []) (GH : mg "_law_heard" = some (.ref fH)) : FnOk P w K mg base CX0 10 f fd ["_law_pen_here", "_law_lengths_here"] (spCH K P1 P2) := by
  refine F.ok scRF (fun vs H Q E h => ?_) (fun A outer s H vs Q E hr h => ?_)
  · obtain ⟨p, l, ls, e, n, rfl, _⟩ := h
    rfl
  · have nd := scRF.nd
    obtain ⟨oc, od, kV, doc, pm, an, cdv, ct, osl, rfl, lk, hcd⟩ := FH.ex
    refine ⟨_, (pss_cons (ps_asg (pe_tup (pa_cons (pe_call D.ok (hr.mono (by decide)) rfl D.g D.kp D.b .nil pass0 (pa_cons (pv 0) (pa_cons (pe_callB call_len_seq (by rfl) T.len PySem.boot_len (pa_cons (pv 1) pa_nil)) pa_nil))) (pa_cons (pe_call PK.ok (hr.mono (by decide)) rfl PK.g PK.kp PK.b .nil pass0 (pa_cons (pv 0) (pa_cons (pe_lst (pa_cons pe_int (pa_cons (pe_un un_neg pe_int) (pa_cons pe_int (pa_cons pe_non (pa_cons pe_str (pa_cons pe_bl (pa_cons (pe_tup (pa_cons pe_int pa_nil)) (pa_cons (pe_lst (pa_cons pe_int pa_nil)) pa_nil))))))))) pa_nil))) pa_nil))) (pg_tup (by rfl) (pgs_cons (pg_name (i := 2) nd rfl (Or.inl rfl)) (pgs_cons (pg_name (i := 6) nd rfl (Or.inr rfl)) pgs_nil))))
      (pss_cons (ps_set (i := 5) nd rfl (Or.inr rfl) (pe_op op_cat (pe_op op_cat (pe_slice sl_list (pv 1) po_none (po_some (pv 2))) (pe_lst (pa_cons (pv 6) pa_nil))) (pe_slice sl_list (pv 1) (po_some (pe_op op_add (pv 2) pe_int)) po_none)))
      (pss_cons (ps_set (i := 3) nd rfl (Or.inl rfl) (pe_lst (pa_cons (pe_lamcall (T := T2 P1 P2) (TT := THeard hc) (a := "_law_ask") (g := fH) (c := cd) (P := P2) (k := 7) (Ng := nHeard) rfl GH FH.kp lk hcd BH scHeard rfl (Or.inl rfl) (heard_gives T Hc) TB rfl hmT hu hr (lamS_by (sc := defScope sLwRefusedRight) (by decide +kernel)) rfl (fun _ _ _ _ _ => rfl)
            (fun A outer s H E f c' hr' => (pe_make GA.made GA.ok (hr'.mono (by decide)) (by rfl) R.g GA.b .nil (passes_call (takes_of rfl rfl rfl rfl) (fun _ _ _ _ h => h)) (pa_cons (pv 5) pa_nil)))) pa_nil)))
      (pss_cons (ps_expr (pe_bm PySem.F.plainAttrs_list PySem.F.slot_list_append PySem.F.type_list_append mt_append (pv 3) (pa_cons (pe_lamcall (T := T2 P1 P2) (TT := THeard hc) (a := "_law_ask") (g := fH) (c := cd) (P := P2) (k := 7) (Ng := nHeard) rfl GH FH.kp lk hcd BH scHeard rfl (Or.inl rfl) (heard_gives T Hc) TB rfl hmT hu hr (lamS_by (sc := defScope sLwRefusedRight) (by decide +kernel)) rfl (fun _ _ _ _ _ => rfl)
            (fun A outer s H E f c' hr' => (pe_make GA.made GA.ok (hr'.mono (by decide)) (by rfl) R.g GA.b .nil (passes_call (takes_of rfl rfl rfl rfl) (fun _ _ _ _ h => h)) (pa_cons (pe_lst (pa_cons (pv 6) pa_nil)) pa_nil)))) pa_nil)))
      (pss_cons (ps_expr (pe_bm PySem.F.plainAttrs_list PySem.F.slot_list_append PySem.F.type_list_append mt_append (pv 3) (pa_cons (pe_lamcall (T := T2 P1 P2) (TT := THeard hc) (a := "_law_ask") (g := fH) (c := cd) (P := P2) (k := 7) (Ng := nHeard) rfl GH FH.kp lk hcd BH scHeard rfl (Or.inl rfl) (heard_gives T Hc) TB rfl hmT hu hr (lamS_by (sc := defScope sLwRefusedRight) (by decide +kernel)) rfl (fun _ _ _ _ _ => rfl)
            (fun A outer s H E f c' hr' => (pe_make GA.made GA.ok (hr'.mono (by decide)) (by rfl) R.g GA.b .nil (passes_call (takes_of rfl rfl rfl rfl) (fun _ _ _ _ h => h)) (pa_cons (pe_op op_cat (pe_op op_rep (pe_lst (pa_cons pe_int pa_nil)) pe_int) (pe_lst (pa_cons (pv 6) pa_nil))) pa_nil)))) pa_nil)))
      (pss_cons (ps_expr (pe_bm PySem.F.plainAttrs_list PySem.F.slot_list_append PySem.F.type_list_append mt_append (pv 3) (pa_cons (pe_lamcall (T := T2 P1 P2) (TT := THeard hc) (a := "_law_ask") (g := fH) (c := cd) (P := P2) (k := 7) (Ng := nHeard) rfl GH FH.kp lk hcd BH scHeard rfl (Or.inl rfl) (heard_gives T Hc) TB rfl hmT hu hr (lamS_by (sc := defScope sLwRefusedRight) (by decide +kernel)) rfl (fun _ _ _ _ _ => rfl)
            (fun A outer s H E f c' hr' => (pe_make GA.made GA.ok (hr'.mono (by decide)) (by rfl) R.g GA.b .nil (passes_call (takes_of rfl rfl rfl rfl) (fun _ _ _ _ h => h)) (pa_cons (pe_call PK.ok (hr'.mono (by decide)) rfl PK.g PK.kp PK.b .nil pass0 (pa_cons (pv 0) (pa_cons (pe_lst (pa_cons pe_non (pa_cons pe_int (pa_cons pe_str (pa_cons pe_str (pa_cons (pe_disp (pps_cons pe_int pe_int (pps_cons pe_int pe_int (pps_cons pe_int pe_int pps_nil))) rfl rfl (by decide) (by decide)) pa_nil)))))) pa_nil))) pa_nil)))) pa_nil)))
      (pss_cons (ps_expr (pe_bm PySem.F.plainAttrs_list PySem.F.slot_list_append PySem.F.type_list_append mt_append (pv 3) (pa_cons (pe_lamcall (T := T2 P1 P2) (TT := THeard hc) (a := "_law_ask") (g := fH) (c := cd) (P := P2) (k := 7) (Ng := nHeard) rfl GH FH.kp lk hcd BH scHeard rfl (Or.inl rfl) (heard_gives T Hc) TB rfl hmT hu hr (lamS_by (sc := defScope sLwRefusedRight) (by decide +kernel)) rfl (fun _ _ _ _ _ => rfl)
            (fun A outer s H E f c' hr' => (pe_make G.made G.ok (hr'.mono (by decide)) (by rfl) R.g G.b .nil (passes_call (takes_of rfl rfl rfl rfl) (fun _ _ _ _ h => h)) (pa_cons (pe_slice (r := rSlL K) sl_list (pv 1) po_none (po_some (pe_call D.ok (hr'.mono (by decide)) rfl D.g D.kp D.b .nil pass0 (pa_cons (pv 0) (pa_cons pe_int pa_nil))))) pa_nil)))) pa_nil)))
      (pss_cons (ps_expr (pe_bm PySem.F.plainAttrs_list PySem.F.slot_list_append PySem.F.type_list_append mt_append (pv 3) (pa_cons (pe_lamcall (T := T2 P1 P2) (TT := THeard hc) (a := "_law_ask") (g := fH) (c := cd) (P := P2) (k := 7) (Ng := nHeard) rfl GH FH.kp lk hcd BH scHeard rfl (Or.inl rfl) (heard_gives T Hc) TB rfl hmT hu hr (lamS_by (sc := defScope sLwRefusedRight) (by decide +kernel)) rfl (fun _ _ _ _ _ => rfl)
            (fun A outer s H E f c' hr' => (pe_make G.made G.ok (hr'.mono (by decide)) (by rfl) R.g G.b .nil (passes_call (takes_of rfl rfl rfl rfl) (fun _ _ _ _ h => h)) (pa_cons (pe_op op_rep (pe_lst (pa_cons pe_int pa_nil)) (pe_op op_add pe_int (pe_call D.ok (hr'.mono (by decide)) rfl D.g D.kp D.b .nil pass0 (pa_cons (pv 0) (pa_cons pe_int pa_nil))))) pa_nil)))) pa_nil)))
      (pss_cons (ps_expr (pe_bm PySem.F.plainAttrs_list PySem.F.slot_list_append PySem.F.type_list_append mt_append (pv 3) (pa_cons (pe_lamcall (T := T2 P1 P2) (TT := THeard hc) (a := "_law_ask") (g := fH) (c := cd) (P := P2) (k := 7) (Ng := nHeard) rfl GH FH.kp lk hcd BH scHeard rfl (Or.inl rfl) (heard_gives T Hc) TB rfl hmT hu hr (lamS_by (sc := defScope sLwRefusedRight) (by decide +kernel)) rfl (fun _ _ _ _ _ => rfl)
            (fun A outer s H E f c' hr' => (pe_smeth (pe_glob (v := .ref C) rfl R.g rfl) RD.r RD.c RD.ok hr' RD.b (passes_call (takes_of rfl rfl rfl rfl) (fun _ _ _ _ h => h)) (pa_cons (pe_call PK.ok (hr'.mono (by decide)) rfl PK.g PK.kp PK.b .nil pass0 (pa_cons (pv 0) (pa_cons (pe_lst (pa_cons pe_non (pa_cons pe_int (pa_cons (pv 1) (pa_cons (pe_make G.made G.ok (hr'.mono (by decide)) (by rfl) R.g G.b .nil (passes_call (takes_of rfl rfl rfl rfl) (fun _ _ _ _ h => h)) (pa_cons (pv 1) pa_nil)) pa_nil))))) pa_nil))) pa_nil)))) pa_nil)))
      (pss_cons (ps_set (i := 4) nd rfl (Or.inl rfl) (pe_op op_cat (pe_op op_rep (pe_lst (pa_cons (pe_tup (pa_cons pe_str (pa_cons pe_str pa_nil))) pa_nil)) pe_int) (pe_lst (pa_cons (pe_tup (pa_cons pe_str (pa_cons pe_str pa_nil))) (pa_cons (pe_tup (pa_cons pe_str (pa_cons pe_str (pa_cons pe_int pa_nil)))) (pa_cons (pe_tup (pa_cons pe_str (pa_cons pe_int (pa_cons pe_int pa_nil)))) pa_nil))))))
      (pss_one (ps_ret (pe_and (pe_cmpR (op_eqD hr.units) (pv 3) (pv 4) (nomark _)) (pe_one (pe_cmpR op_eq (pe_fld (pe_make G.made G.ok (hr.mono (by decide)) (by rfl) R.g G.b .nil passL (pa_cons (pe_op op_rep (pe_lst (pa_cons pe_int pa_nil)) pe_int) pa_nil)) rfl) pe_int (nomark _)))))))))))))))), ?_⟩
    obtain ⟨p, l, ls, e, n, rfl, hn, pen, hlp, hl, l3, l8, bd, tab, q⟩ := h
    -- at, odd
    refine ⟨_, rfl, _, rfl, l, _, rfl, .inl (SqL.of hl), ?_⟩
    rw [List.length_map]
    refine ⟨p, e, _, n, rfl, by omega, by omega, by omega, pen, fun a H3 a0 a1 k3 pen3 => ?_⟩
    obtain ⟨a, rfl⟩ := Int.eq_ofNat_of_zero_le a0
    have ha : a < ls.length := by omega
    have c3 : PyData.canLay0 (.str (Str.ofString "3")) = true := by decide +kernel
    refine ⟨_, rfl, _, rfl, (by show 1 ≤ sizeLine; decide), fun a1 na1 => ?_⟩
    have ta1 : Same H3 (upd H3 a1 (.tup [.int 3])) := (Same.refl _).new na1
    have fa1 : upd H3 a1 (.tup [.int 3]) a1 = some (.tup [.int 3]) := upd_same
    generalize upd H3 a1 (.tup [.int 3]) = G1 at ta1 fa1 ⊢
    refine ⟨(by show 1 ≤ sizeLine; decide), fun a2 na2 => ?_⟩
    have ta2 : Same G1 (upd G1 a2 (.lst [.int 3])) := (Same.refl _).new na2
    have fa2 : upd G1 a2 (.lst [.int 3]) a2 = some (.lst [.int 3]) := upd_same
    generalize upd G1 a2 (.lst [.int 3]) = G2 at ta2 fa2 ⊢
    have x1 := (ta2 _ _ fa1)
    have x2 := fa2
    have sG2 : Same H3 G2 := ta1.trans ta2
    have penG := pen3.same sG2
    refine ⟨(by show 8 ≤ sizeLine; decide), fun q0 hq0 => ?_⟩
    have hq0p : q0 ≠ p := penG.ne hq0
    have odds : ∀ (i : Nat) (v : V), ([V.int 0, .int (-1), .int 1000001, .non, .str "3", .bl true, .ref a1, .ref a2] : List V)[i]? = some v → ∃ k d, El G2 v k d ∧ lenB k v = false := by
      intro i v hv
      rcases i with _ | _ | _ | _ | _ | _ | _ | _ | i
      · cases hv; exact ⟨_, _, .int _, by simp [lenB, winB]⟩
      · cases hv; exact ⟨_, _, .int _, by simp [lenB, winB]⟩
      · cases hv; exact ⟨_, _, .int _, by simp [lenB, winB]⟩
      · cases hv; exact ⟨_, _, .non, rfl⟩
      · cases hv; exact ⟨_, _, .str _ c3, rfl⟩
      · cases hv; exact ⟨_, _, .bl _, rfl⟩
      · cases hv; exact ⟨_, _, .tup x1, rfl⟩
      · cases hv; exact ⟨_, _, .lst x2, rfl⟩
      · cases hv
    refine ⟨p, q0, e, _, n + 1, rfl, SqL.of upd_same, hq0p, (by show 1 ≤ 8; decide), (by show 8 ≤ 1000; decide), by omega, penG.put hq0, fun i0 odd H4 hv0 k4 pen4 => ?_⟩
    obtain ⟨ko, dO, elo0, wo⟩ := odds i0 odd hv0
    have pq : PenAt K (upd G2 q0 (.lst [V.int 0, .int (-1), .int 1000001, .non, .str "3", .bl true, .ref a1, .ref a2])) p e (n + 1) := penG.put hq0
    have elo4 := (elo0.ext (ExtN.of ((Same.refl _).new hq0))).but k4 pq
    have k34 : But p H3 H4 := ((But.of sG2).trans (But.of ((Same.refl _).new hq0))).trans k4
    have k04 := k3.trans k34
    clear odds hv0 elo0 x1 x2 ta1 ta2 fa1 fa2 sG2 pq na1 na2 penG k34 k3 k4
    refine ⟨(by show 2 ≤ sizeLine; decide), fun t1 n1 => ⟨t1, _, rfl, .inl (.inl upd_same), rfl, _, _, rfl, _, _, rfl, rfl, ?_⟩⟩
    have s45 : Same H4 (upd H4 t1 (.tup [.int a, odd])) := (Same.refl H4).new n1
    generalize upd H4 t1 (.tup [.int a, odd]) = H5 at s45 ⊢
    have elo5 := elo4.ext (ExtN.of s45)
    have pen5 := pen4.same s45
    have hl5 := s45 _ _ (k04 _ _ hlp hl)
    have k05 := k04.trans (But.of s45)
    clear elo4 pen4 pen3 k04 s45
    -- bent
    refine ⟨_, rfl, _, rfl, _, rfl, l, _, rfl, SqL.of hl5, fun c1 nc1 => ?_⟩
    rw [cutV_to, ← List.map_take]
    have t1 : Same H5 (upd H5 c1 (.lst ((ls.take a).map V.int))) := (Same.refl _).new nc1
    have f1 : upd H5 c1 (.lst ((ls.take a).map V.int)) c1 = some (.lst ((ls.take a).map V.int)) := upd_same
    generalize upd H5 c1 (.lst ((ls.take a).map V.int)) = G1 at t1 f1 ⊢
    refine ⟨_, rfl, (by show 1 ≤ sizeLine; decide), fun c2 nc2 => ?_⟩
    have t2 : Same G1 (upd G1 c2 (.lst [odd])) := (Same.refl _).new nc2
    have f2 : upd G1 c2 (.lst [odd]) c2 = some (.lst [odd]) := upd_same
    generalize upd G1 c2 (.lst [odd]) = G2 at t2 f2 ⊢
    have lt : (ls.take a).length = a := by rw [List.length_take]; omega
    refine ⟨c1, c2, _, _, rfl, rfl, t2 _ _ f1, f2, Nat.le_of_lt (sm (by simp only [List.length_map, List.length_cons, List.length_nil]; omega)), fun c3 nc3 => ?_⟩
    have t3 : Same G2 (upd G2 c3 (.lst ((ls.take a).map V.int ++ [odd]))) := (Same.refl _).new nc3
    have f3 : upd G2 c3 (.lst ((ls.take a).map V.int ++ [odd])) c3 = some (.lst ((ls.take a).map V.int ++ [odd])) := upd_same
    generalize upd G2 c3 (.lst ((ls.take a).map V.int ++ [odd])) = G3 at t3 f3 ⊢
    refine ⟨_, rfl, _, rfl, _, _, rfl, rfl, _, rfl, l, _, rfl, SqL.of (t3 _ _ (t2 _ _ (t1 _ _ hl5))), fun c4 nc4 => ?_⟩
    rw [cut_from (k := a + 1) _ (by omega), ← List.map_drop]
    have t4 : Same G3 (upd G3 c4 (.lst ((ls.drop (a + 1)).map V.int))) := (Same.refl _).new nc4
    have f4 : upd G3 c4 (.lst ((ls.drop (a + 1)).map V.int)) c4 = some (.lst ((ls.drop (a + 1)).map V.int)) := upd_same
    generalize upd G3 c4 (.lst ((ls.drop (a + 1)).map V.int)) = G4 at t4 f4 ⊢
    have ld : (ls.drop (a + 1)).length = ls.length - (a + 1) := List.length_drop
    have blen : ((ls.take a).map V.int ++ [odd] ++ (ls.drop (a + 1)).map V.int).length ≤ 8 := by
      simp only [List.length_map, List.length_append, List.length_cons, List.length_nil]
      omega
    have bmem : odd ∈ (ls.take a).map V.int ++ [odd] ++ (ls.drop (a + 1)).map V.int := List.mem_append_left _ (List.mem_append_right _ (List.mem_singleton.mpr rfl))
    have bel : ∀ x ∈ (ls.take a).map V.int ++ [odd] ++ (ls.drop (a + 1)).map V.int, x = odd ∨ ∃ i, x = .int i := fun x hx => by
      rcases List.mem_append.mp hx with hx | hx
      · rcases List.mem_append.mp hx with hx | hx
        · obtain ⟨i, _, rfl⟩ := List.mem_map.mp hx
          exact .inr ⟨i, rfl⟩
        · exact .inl (List.mem_singleton.mp hx)
      · obtain ⟨i, _, rfl⟩ := List.mem_map.mp hx
        exact .inr ⟨i, rfl⟩
    refine ⟨c3, c4, _, _, rfl, rfl, t4 _ _ f3, f4, Nat.le_of_lt (sm (by simp only [List.length_map, List.length_append, List.length_cons, List.length_nil]; omega)), fun b nb => ?_⟩
    have hbp : b ≠ p := (pen5.same (t1.trans (t2.trans (t3.trans t4)))).ne nb
    have S6 : Same H5 (upd G4 b (.lst ((ls.take a).map V.int ++ [odd] ++ (ls.drop (a + 1)).map V.int))) := (t1.trans (t2.trans (t3.trans t4))).new nb
    have fb : upd G4 b (.lst ((ls.take a).map V.int ++ [odd] ++ (ls.drop (a + 1)).map V.int)) b = some (.lst ((ls.take a).map V.int ++ [odd] ++ (ls.drop (a + 1)).map V.int)) := upd_same
    generalize (ls.take a).map V.int ++ [odd] ++ (ls.drop (a + 1)).map V.int = bs at blen bmem bel S6 fb ⊢
    generalize upd G4 b (.lst bs) = H6 at S6 fb ⊢
    clear t1 t2 t3 t4 f1 f2 f3 f4 nc1 nc2 nc3 nc4 nb
    have elo6 := elo5.ext (ExtN.of S6)
    have pen6 := pen5.same S6
    have hl6 := S6 _ _ hl5
    have k06 := k05.trans (But.of S6)
    have tab6 : Tabs (T2 P1 P2) H6 := tabs_but tab k06 (pen.some.choose_spec)
    clear elo5 pen5 hl5 k05 S6
    -- the first
    refine hear (Tells.r (.str "lengths")) tab6 (fun E' J Q' xJ er => ?_) (fun M p0 xM tM hp0 => ⟨(by show 1 ≤ sizeLine; decide), fun h nh => ?_⟩)
    · exact ⟨_, rfl, none_l (xJ _ _ fb (fun _ z => nomatch z)) (by omega) (bent_knd (elo6.ext xJ) bel) (bent_not (elo6.ext xJ) wo bmem) er⟩
    have penB := pen6.ext xM
    have fbB := xM _ _ fb (fun _ z => nomatch z)
    have hlB := xM _ _ hl6 (fun _ z => nomatch z)
    have eloB := elo6.ext xM
    have k0B := (Kp.of_but k06).ext xM
    have rs1 : RS K (T2 P1 P2) p h e (n + 1 + 1) M (upd M h (.lst [.ref p0])) [.ref p0] [([V.str "ring", .str "lengths"], [PyData.str "ring", .str "lengths"])] := RS.first tM penB hp0 (fun _ => .cons (.str _) (.cons (.str _) .nil)) nh
    generalize upd M h (.lst [.ref p0]) = L1 at rs1 ⊢
    generalize [V.ref p0] = dn1 at rs1 ⊢
    clear elo6 pen6 hl6 k06 fb tab6 xM tM hp0
    refine ⟨_, rfl, .inl ⟨rfl, _, SqL.of rs1.hh⟩, ?_⟩
    refine hear (Tells.r (.str "lengths")) rs1.tab (fun E' J Q' xJ er => ?_) (fun M1 p1 xJ tM hp1 => ?_)
    · have eJ := (eloB.kp rs1.kp penB).ext xJ
      refine ⟨_, rfl, (by show 1 ≤ sizeLine; decide), fun z nz => ?_⟩
      have sz : Same J (upd J z (.lst [odd])) := (Same.refl J).new nz
      exact none_l upd_same (by show 1 ≤ 1000; decide) (bent_knd (eJ.ext (ExtN.of sz)) (fun x hx => .inl (List.mem_singleton.mp hx))) (bent_not (eJ.ext (ExtN.of sz)) wo (List.mem_singleton.mpr rfl)) (Errs.later er sz)
    obtain ⟨ke1, te1, pe1⟩ := (⟨Kp.of_ext xJ, tM, rs1.pen.ext xJ⟩ : Kp p L1 M1 ∧ Tabs (T2 P1 P2) M1 ∧ PenAt K M1 p e (n + 1 + 1))
    obtain ⟨hm1, rs2⟩ := rs1.step (q := ([V.str "ring", .str "lengths"], [PyData.str "ring", .str "lengths"])) ke1 te1 pe1 hp1 (fun _ => .cons (.str _) (.cons (.str _) .nil))
    have rs2 : RS K (T2 P1 P2) p h e (n + 1 + 1) M (upd M1 h (.lst (dn1 ++ [.ref p1]))) (dn1 ++ [.ref p1]) [([V.str "ring", .str "lengths"], [PyData.str "ring", .str "lengths"]), ([V.str "ring", .str "lengths"], [PyData.str "ring", .str "lengths"])] := rs2
    refine ⟨h, dn1, _, rfl, rfl, hm1, by rw [par_len rs1.pt]; exact sm (show 1 ≤ 10000 by decide), ?_⟩
    generalize upd M1 h (.lst (dn1 ++ [.ref p1])) = L2 at rs2 ⊢
    generalize dn1 ++ [V.ref p1] = dn2 at rs2 ⊢
    clear hm1 ke1 te1 pe1 hp1 tM
    clear xJ
    refine ⟨_, rfl, .inl ⟨rfl, _, SqL.of rs2.hh⟩, ?_⟩
    refine hear (Tells.r (.str "lengths")) rs2.tab (fun E' J Q' xJ er => ?_) (fun M2 p2 xJ tM hp2 => ?_)
    · have eJ := (eloB.kp rs2.kp penB).ext xJ
      refine ⟨(by show 1 ≤ sizeLine; decide), fun a1 n1 => ⟨a1, 8, _, rfl, rfl, upd_same, by decide, by decide, (by decide), fun a2 n2 => ?_⟩⟩
      have e8 : (List.replicate (8 : Int).toNat [V.int 1]).flatten = (List.replicate 8 (1 : Int)).map V.int := by decide +kernel
      rw [e8]
      have s1 : Same J (upd (upd J a1 (.lst [.int 1])) a2 (.lst ((List.replicate 8 (1 : Int)).map V.int))) := ((Same.refl J).new n1).new n2
      have f1 : upd (upd J a1 (.lst [.int 1])) a2 (.lst ((List.replicate 8 (1 : Int)).map V.int)) a2 = some (.lst ((List.replicate 8 (1 : Int)).map V.int)) := upd_same
      generalize upd (upd J a1 (.lst [.int 1])) a2 (.lst ((List.replicate 8 (1 : Int)).map V.int)) = J1 at s1 f1 ⊢
      refine ⟨_, rfl, (by show 1 ≤ sizeLine; decide), fun a3 n3 => ?_⟩
      have s2 : Same J1 (upd J1 a3 (.lst [odd])) := (Same.refl J1).new n3
      have f2 : upd J1 a3 (.lst [odd]) a3 = some (.lst [odd]) := upd_same
      generalize upd J1 a3 (.lst [odd]) = J2 at s2 f2 ⊢
      refine ⟨a2, a3, _, _, rfl, rfl, s2 _ _ f1, f2, (by show 9 ≤ sizeLine; decide), fun a4 n4 => ?_⟩
      have s3 : Same J (upd J2 a4 (.lst ((List.replicate 8 (1 : Int)).map V.int ++ [odd]))) := (s1.trans s2).new n4
      have eJ3 := eJ.ext (ExtN.of s3)
      exact none_l upd_same (by show 9 ≤ 1000; decide) (bent_knd eJ3 (fun x hx => by
        rcases List.mem_append.mp hx with hx | hx
        · obtain ⟨i, _, rfl⟩ := List.mem_map.mp hx
          exact .inr ⟨i, rfl⟩
        · exact .inl (List.mem_singleton.mp hx))) (bent_not eJ3 wo (List.mem_append_right _ (List.mem_singleton.mpr rfl))) (Errs.later er s3)
    obtain ⟨ke2, te2, pe2⟩ := (⟨Kp.of_ext xJ, tM, rs2.pen.ext xJ⟩ : Kp p L2 M2 ∧ Tabs (T2 P1 P2) M2 ∧ PenAt K M2 p e (n + 1 + 1))
    obtain ⟨hm2, rs3⟩ := rs2.step (q := ([V.str "ring", .str "lengths"], [PyData.str "ring", .str "lengths"])) ke2 te2 pe2 hp2 (fun _ => .cons (.str _) (.cons (.str _) .nil))
    have rs3 : RS K (T2 P1 P2) p h e (n + 1 + 1) M (upd M2 h (.lst (dn2 ++ [.ref p2]))) (dn2 ++ [.ref p2]) [([V.str "ring", .str "lengths"], [PyData.str "ring", .str "lengths"]), ([V.str "ring", .str "lengths"], [PyData.str "ring", .str "lengths"]), ([V.str "ring", .str "lengths"], [PyData.str "ring", .str "lengths"])] := rs3
    refine ⟨h, dn2, _, rfl, rfl, hm2, by rw [par_len rs2.pt]; exact sm (show 2 ≤ 10000 by decide), ?_⟩
    generalize upd M2 h (.lst (dn2 ++ [.ref p2])) = L3 at rs3 ⊢
    generalize dn2 ++ [V.ref p2] = dn3 at rs3 ⊢
    clear hm2 ke2 te2 pe2 hp2 tM
    clear xJ
    refine ⟨_, rfl, .inl ⟨rfl, _, SqL.of rs3.hh⟩, ?_⟩
    refine hear2 (Tells.r (.str "lengths")) rs3.tab (WD K p e (n + 1 + 1 + 1)) (fun E' J Q' xJ tJ er => ?_) (fun J L M3 p3 xJ tJ wl sL hp3 => ?_)
    · have penJ := rs3.pen.ext xJ
      refine ⟨_, rfl, fun a5 n5 => ⟨upd_same, [((Sum.inl 3 : Key), V.int 4), (Sum.inl 4, V.int 5), (Sum.inl 5, V.int 6)], rfl, (by decide), ?_⟩⟩
      rw [upd_upd]
      have s1 : Same J (upd J a5 (.dK (mergeK [] [((Sum.inl 3 : Key), V.int 4), (Sum.inl 4, V.int 5), (Sum.inl 5, V.int 6)]))) := (Same.refl J).new n5
      have f1 : upd J a5 (.dK (mergeK [] [((Sum.inl 3 : Key), V.int 4), (Sum.inl 4, V.int 5), (Sum.inl 5, V.int 6)])) a5 = some (.dK (mergeK [] [((Sum.inl 3 : Key), V.int 4), (Sum.inl 4, V.int 5), (Sum.inl 5, V.int 6)])) := upd_same
      have na5 : a5 ≠ p := penJ.ne n5
      generalize upd J a5 (.dK (mergeK [] [((Sum.inl 3 : Key), V.int 4), (Sum.inl 4, V.int 5), (Sum.inl 5, V.int 6)])) = J1 at s1 f1 ⊢
      have pen1 := penJ.same s1
      refine ⟨(by show 5 ≤ sizeLine; decide), fun z nz => ?_⟩
      have s2 : Same J1 (upd J1 z (.lst [.non, .int 5, .str "345", .str "3 4 5", .ref a5])) := (Same.refl J1).new nz
      refine ⟨p, z, e, _, _, rfl, SqL.of upd_same, pen1.ne nz, (by show 1 ≤ 5; decide), (by show 5 ≤ 1000; decide), by omega, pen1.put nz, fun i v L hv bL penL => ?_⟩
      have f5 := bL _ _ na5 (s2 _ _ f1)
      obtain ⟨k, kn1, kn2, kn⟩ : ∃ k, k ≠ "list" ∧ k ≠ "tuple" ∧ Knd K L v k := by
        rcases i with _ | _ | _ | _ | _ | i
        · cases hv; exact ⟨"NoneType", by decide, by decide, .base .non, by decide⟩
        · cases hv; exact ⟨"int", by decide, by decide, Knd.int⟩
        · cases hv; exact ⟨"str", by decide, by decide, .base (.str _), by decide⟩
        · cases hv; exact ⟨"str", by decide, by decide, .base (.str _), by decide⟩
        · cases hv; exact ⟨"dict", by decide, by decide, .base (.dK f5), by decide⟩
        · cases hv
      exact none_o kn kn1 kn2 (er L ⟨(But.of (s1.trans s2)).trans bL, penL⟩)
    obtain ⟨ke3, te3, pe3⟩ := rs3.drawn xJ tJ wl sL
    obtain ⟨hm3, rs4⟩ := rs3.step (q := ([V.str "ring", .str "lengths"], [PyData.str "ring", .str "lengths"])) ke3 te3 pe3 hp3 (fun _ => .cons (.str _) (.cons (.str _) .nil))
    have rs4 : RS K (T2 P1 P2) p h e ((n + 1 + 1) + 1) M (upd M3 h (.lst (dn3 ++ [.ref p3]))) (dn3 ++ [.ref p3]) [([V.str "ring", .str "lengths"], [PyData.str "ring", .str "lengths"]), ([V.str "ring", .str "lengths"], [PyData.str "ring", .str "lengths"]), ([V.str "ring", .str "lengths"], [PyData.str "ring", .str "lengths"]), ([V.str "ring", .str "lengths"], [PyData.str "ring", .str "lengths"])] := rs4
    refine ⟨h, dn3, _, rfl, rfl, hm3, by rw [par_len rs3.pt]; exact sm (show 3 ≤ 10000 by decide), ?_⟩
    generalize upd M3 h (.lst (dn3 ++ [.ref p3])) = L4 at rs4 ⊢
    generalize dn3 ++ [V.ref p3] = dn4 at rs4 ⊢
    clear hm3 ke3 te3 pe3 hp3 wl sL tJ
    clear xJ
    refine ⟨_, rfl, .inl ⟨rfl, _, SqL.of rs4.hh⟩, ?_⟩
    refine hear2 (Tells.r (.str "bars")) rs4.tab (WD K p e (n + 1 + 1 + 1 + 1)) (fun E' J Q' xJ tJ er => ?_) (fun J L M4 p4 xJ tJ wl sL hp4 => ?_)
    · have penJ := rs4.pen.ext xJ
      have hlJ := xJ _ _ (rs4.kp _ _ hlp hlB (fun _ z => nomatch z)) (fun _ z => nomatch z)
      refine ⟨_, rfl, _, rfl, p, e, _, _, rfl, by decide, by decide, by omega, penJ, fun k L k0 k1 bL penL => ?_⟩
      obtain ⟨k, rfl⟩ := Int.eq_ofNat_of_zero_le k0
      refine ⟨_, rfl, l, _, rfl, SqL.of (bL _ _ hlp hlJ), fun z nz => ?_⟩
      rw [cutV_to, ← List.map_take]
      exact none_i upd_same (by rw [List.length_take]; omega) (.inr (.inl ⟨bd.take k, by rw [List.length_take]; omega, Errs.later (er L ⟨bL, penL⟩) ((Same.refl _).new nz)⟩))
    obtain ⟨ke4, te4, pe4⟩ := rs4.drawn xJ tJ wl sL
    obtain ⟨hm4, rs5⟩ := rs4.step (q := ([V.str "ring", .str "bars"], [PyData.str "ring", .str "bars"])) ke4 te4 pe4 hp4 (fun _ => .cons (.str _) (.cons (.str _) .nil))
    have rs5 : RS K (T2 P1 P2) p h e (((n + 1 + 1) + 1) + 1) M (upd M4 h (.lst (dn4 ++ [.ref p4]))) (dn4 ++ [.ref p4]) [([V.str "ring", .str "lengths"], [PyData.str "ring", .str "lengths"]), ([V.str "ring", .str "lengths"], [PyData.str "ring", .str "lengths"]), ([V.str "ring", .str "lengths"], [PyData.str "ring", .str "lengths"]), ([V.str "ring", .str "lengths"], [PyData.str "ring", .str "lengths"]), ([V.str "ring", .str "bars"], [PyData.str "ring", .str "bars"])] := rs5
    refine ⟨h, dn4, _, rfl, rfl, hm4, by rw [par_len rs4.pt]; exact sm (show 4 ≤ 10000 by decide), ?_⟩
    generalize upd M4 h (.lst (dn4 ++ [.ref p4])) = L5 at rs5 ⊢
    generalize dn4 ++ [V.ref p4] = dn5 at rs5 ⊢
    clear hm4 ke4 te4 pe4 hp4 wl sL tJ
    clear xJ
    refine ⟨_, rfl, .inl ⟨rfl, _, SqL.of rs5.hh⟩, ?_⟩
    refine hear2 (Tells.m (.str "bars") (.int 8)) rs5.tab (WD K p e (n + 1 + 1 + 1 + 1 + 1)) (fun E' J Q' xJ tJ er => ?_) (fun J L M5 p5 xJ tJ wl sL hp5 => ?_)
    · have penJ := rs5.pen.ext xJ
      refine ⟨(by show 1 ≤ sizeLine; decide), fun a1 n1 => ?_⟩
      have s1 : Same J (upd J a1 (.lst [.int 1000000])) := (Same.refl J).new n1
      have f1 : upd J a1 (.lst [.int 1000000]) a1 = some (.lst [.int 1000000]) := upd_same
      have na1 : a1 ≠ p := penJ.ne n1
      generalize upd J a1 (.lst [.int 1000000]) = J1 at s1 f1 ⊢
      have pen1 := penJ.same s1
      refine ⟨_, rfl, p, e, _, _, rfl, by decide, by decide, by omega, pen1, fun k L k0 k1 bL penL => ⟨_, _, rfl, rfl, ?_⟩⟩
      obtain ⟨k, rfl⟩ := Int.eq_ofNat_of_zero_le k0
      have e9 : ((9 : Int) + (k : Int)).toNat = 9 + k := by omega
      refine ⟨a1, 9 + (k : Int), _, rfl, rfl, bL _ _ na1 f1, by omega, by omega, Nat.le_of_lt (sm (by rw [e9]; show 1 * (9 + k) ≤ 10000; omega)), fun z nz => ?_⟩
      rw [e9, rep_flat, ← List.map_replicate]
      exact none_i upd_same (by rw [List.length_replicate]; omega) (.inr (.inr (.inl ⟨fun x hx => by rw [List.eq_of_mem_replicate hx]; decide, by rw [List.length_replicate]; omega, ErrsF.later (er L ⟨(But.of s1).trans bL, penL⟩) ((Same.refl _).new nz)⟩)))
    obtain ⟨ke5, te5, pe5⟩ := rs5.drawn xJ tJ wl sL
    obtain ⟨hm5, rs6⟩ := rs5.step (q := ([V.str "many", .str "bars", .int 8], [PyData.str "many", .str "bars", .int 8])) ke5 te5 pe5 hp5 (fun _ => .cons (.str _) (.cons (.str _) (.cons (.int _) .nil)))
    have rs6 : RS K (T2 P1 P2) p h e ((((n + 1 + 1) + 1) + 1) + 1) M (upd M5 h (.lst (dn5 ++ [.ref p5]))) (dn5 ++ [.ref p5]) [([V.str "ring", .str "lengths"], [PyData.str "ring", .str "lengths"]), ([V.str "ring", .str "lengths"], [PyData.str "ring", .str "lengths"]), ([V.str "ring", .str "lengths"], [PyData.str "ring", .str "lengths"]), ([V.str "ring", .str "lengths"], [PyData.str "ring", .str "lengths"]), ([V.str "ring", .str "bars"], [PyData.str "ring", .str "bars"]), ([V.str "many", .str "bars", .int 8], [PyData.str "many", .str "bars", .int 8])] := rs6
    refine ⟨h, dn5, _, rfl, rfl, hm5, by rw [par_len rs5.pt]; exact sm (show 5 ≤ 10000 by decide), ?_⟩
    generalize upd M5 h (.lst (dn5 ++ [.ref p5])) = L6 at rs6 ⊢
    generalize dn5 ++ [V.ref p5] = dn6 at rs6 ⊢
    clear hm5 ke5 te5 pe5 hp5 wl sL tJ
    clear xJ
    refine ⟨_, rfl, .inl ⟨rfl, _, SqL.of rs6.hh⟩, ?_⟩
    refine hear2 (Tells.t (.int 0) (.int 0)) rs6.tab (WD K p e (n + 1 + 1 + 1 + 1 + 1 + 1)) (fun E' J Q' xJ tJ er => ?_) (fun J L M6 p6 xJ tJ wl sL hp6 => ?_)
    · have penJ := rs6.pen.ext xJ
      have hlJ := xJ _ _ (rs6.kp _ _ hlp hlB (fun _ z => nomatch z)) (fun _ z => nomatch z)
      refine ⟨rfl, _, rfl, _, rfl, _, rfl, made2 (.inl hlJ) bd l3 l8 fun r H2 ring2 s2 nr => ⟨rfl, ?_⟩⟩
      have pen2 := penJ.same s2
      refine ⟨(by show 4 ≤ sizeLine; decide), fun z nz => ?_⟩
      have s3 : Same H2 (upd H2 z (.lst [.non, .int 5, .ref l, .ref r])) := (Same.refl H2).new nz
      have pen3 := pen2.same s3
      obtain ⟨pl, hpl⟩ := pen3.some
      refine ⟨p, z, e, _, _, rfl, SqL.of upd_same, pen2.ne nz, (by show 1 ≤ 4; decide), (by show 4 ≤ 1000; decide), by omega, pen3, fun i v L hv bL penL => ?_⟩
      have ringL := RingW.but (K := K) (ring2.same s3) bL hpl
      have hlL := bL _ _ hlp ((s2.trans s3) _ _ hlJ)
      obtain ⟨dx, u, hr, _⟩ := ringL
      obtain ⟨t, ty, kt⟩ : ∃ t, TyX K L v t ∧ PySem.W.kitOne K t (.type "str") = some false := by
        rcases i with _ | _ | _ | _ | i
        · cases hv; exact ⟨_, .base .non, kit_ty (by decide +kernel)⟩
        · cases hv; exact ⟨_, .base (.int _), kit_ty (by decide +kernel)⟩
        · cases hv; exact ⟨_, .base (.lst hlL), kit_ty (by decide +kernel)⟩
        · cases hv; exact ⟨_, .base (.ins hr R.cl R.ha R.hn R.ht R.hm), kRS⟩
        · cases hv
      exact .inl ⟨v, t, rfl, ty, kt, er L ⟨(But.of (s2.trans s3)).trans bL, penL⟩⟩
    obtain ⟨ke6, te6, pe6⟩ := rs6.drawn xJ tJ wl sL
    obtain ⟨hm6, rs7⟩ := rs6.step (q := ([V.str "text", .int 0, .int 0], [PyData.str "text", .int 0, .int 0])) ke6 te6 pe6 hp6 (fun _ => .cons (.str _) (.cons (.int _) (.cons (.int _) .nil)))
    have rs7 : RS K (T2 P1 P2) p h e (((((n + 1 + 1) + 1) + 1) + 1) + 1) M (upd M6 h (.lst (dn6 ++ [.ref p6]))) (dn6 ++ [.ref p6]) [([V.str "ring", .str "lengths"], [PyData.str "ring", .str "lengths"]), ([V.str "ring", .str "lengths"], [PyData.str "ring", .str "lengths"]), ([V.str "ring", .str "lengths"], [PyData.str "ring", .str "lengths"]), ([V.str "ring", .str "lengths"], [PyData.str "ring", .str "lengths"]), ([V.str "ring", .str "bars"], [PyData.str "ring", .str "bars"]), ([V.str "many", .str "bars", .int 8], [PyData.str "many", .str "bars", .int 8]), ([V.str "text", .int 0, .int 0], [PyData.str "text", .int 0, .int 0])] := rs7
    refine ⟨h, dn6, _, rfl, rfl, hm6, by rw [par_len rs6.pt]; exact sm (show 6 ≤ 10000 by decide), ?_⟩
    generalize upd M6 h (.lst (dn6 ++ [.ref p6])) = L7 at rs7 ⊢
    generalize dn6 ++ [V.ref p6] = dn7 at rs7 ⊢
    clear hm6 ke6 te6 pe6 hp6 wl sL tJ
    clear xJ
    -- due
    refine ⟨(by show 2 ≤ sizeLine; decide), fun d1 nd1 => ?_⟩
    have td1 : Same L7 (upd L7 d1 (.tup [.str "ring", .str "lengths"])) := (Same.refl _).new nd1
    have fd1 : upd L7 d1 (.tup [.str "ring", .str "lengths"]) d1 = some (.tup [.str "ring", .str "lengths"]) := upd_same
    generalize upd L7 d1 (.tup [.str "ring", .str "lengths"]) = D1 at td1 fd1 ⊢
    refine ⟨(by show 1 ≤ sizeLine; decide), fun d2 nd2 => ?_⟩
    have td2 : Same D1 (upd D1 d2 (.lst [.ref d1])) := (Same.refl _).new nd2
    have fd2 : upd D1 d2 (.lst [.ref d1]) d2 = some (.lst [.ref d1]) := upd_same
    generalize upd D1 d2 (.lst [.ref d1]) = D2 at td2 fd2 ⊢
    refine ⟨d2, 4, _, rfl, rfl, fd2, by decide, by decide, (by show 1 * 4 ≤ sizeLine; decide), fun d3 nd3 => ?_⟩
    have e4 : (List.replicate (4 : Int).toNat [V.ref d1]).flatten = [.ref d1, .ref d1, .ref d1, .ref d1] := rfl
    rw [e4]
    have td3 : Same D2 (upd D2 d3 (.lst [.ref d1, .ref d1, .ref d1, .ref d1])) := (Same.refl _).new nd3
    have fd3 : upd D2 d3 (.lst [.ref d1, .ref d1, .ref d1, .ref d1]) d3 = some (.lst [.ref d1, .ref d1, .ref d1, .ref d1]) := upd_same
    generalize upd D2 d3 (.lst [.ref d1, .ref d1, .ref d1, .ref d1]) = D3 at td3 fd3 ⊢
    refine ⟨(by show 2 ≤ sizeLine; decide), fun d4 nd4 => ?_⟩
    have td4 : Same D3 (upd D3 d4 (.tup [.str "ring", .str "bars"])) := (Same.refl _).new nd4
    have fd4 : upd D3 d4 (.tup [.str "ring", .str "bars"]) d4 = some (.tup [.str "ring", .str "bars"]) := upd_same
    generalize upd D3 d4 (.tup [.str "ring", .str "bars"]) = D4 at td4 fd4 ⊢
    refine ⟨(by show 3 ≤ sizeLine; decide), fun d5 nd5 => ?_⟩
    have td5 : Same D4 (upd D4 d5 (.tup [.str "many", .str "bars", .int 8])) := (Same.refl _).new nd5
    have fd5 : upd D4 d5 (.tup [.str "many", .str "bars", .int 8]) d5 = some (.tup [.str "many", .str "bars", .int 8]) := upd_same
    generalize upd D4 d5 (.tup [.str "many", .str "bars", .int 8]) = D5 at td5 fd5 ⊢
    refine ⟨(by show 3 ≤ sizeLine; decide), fun d6 nd6 => ?_⟩
    have td6 : Same D5 (upd D5 d6 (.tup [.str "text", .int 0, .int 0])) := (Same.refl _).new nd6
    have fd6 : upd D5 d6 (.tup [.str "text", .int 0, .int 0]) d6 = some (.tup [.str "text", .int 0, .int 0]) := upd_same
    generalize upd D5 d6 (.tup [.str "text", .int 0, .int 0]) = D6 at td6 fd6 ⊢
    refine ⟨(by show 3 ≤ sizeLine; decide), fun d7 nd7 => ?_⟩
    have td7 : Same D6 (upd D6 d7 (.lst [.ref d4, .ref d5, .ref d6])) := (Same.refl _).new nd7
    have fd7 : upd D6 d7 (.lst [.ref d4, .ref d5, .ref d6]) d7 = some (.lst [.ref d4, .ref d5, .ref d6]) := upd_same
    generalize upd D6 d7 (.lst [.ref d4, .ref d5, .ref d6]) = D7 at td7 fd7 ⊢
    refine ⟨d3, d7, _, _, rfl, rfl, (td7 _ _ (td6 _ _ (td5 _ _ (td4 _ _ fd3)))), fd7, (by show 7 ≤ sizeLine; decide), fun d8 nd8 => ?_⟩
    have td8 : Same D7 (upd D7 d8 (.lst ([V.ref d1, .ref d1, .ref d1, .ref d1] ++ [V.ref d4, .ref d5, .ref d6]))) := (Same.refl _).new nd8
    have fd8 : upd D7 d8 (.lst ([V.ref d1, .ref d1, .ref d1, .ref d1] ++ [V.ref d4, .ref d5, .ref d6])) d8 = some (.lst ([V.ref d1, .ref d1, .ref d1, .ref d1] ++ [V.ref d4, .ref d5, .ref d6])) := upd_same
    generalize upd D7 d8 (.lst ([V.ref d1, .ref d1, .ref d1, .ref d1] ++ [V.ref d4, .ref d5, .ref d6])) = D8 at td8 fd8 ⊢
    have sD : Same L7 D8 := (((((((((Same.refl _).trans td1).trans td2).trans td3).trans td4).trans td5).trans td6).trans td7).trans td8)
    have dueD : DpAll K D8 [.ref d1, .ref d1, .ref d1, .ref d1, .ref d4, .ref d5, .ref d6] dueL := (.cons (.tup (.inl (.inl (td8 _ _ (td7 _ _ (td6 _ _ (td5 _ _ (td4 _ _ (td3 _ _ (td2 _ _ fd1))))))))) (.cons (.str _) (.cons (.str _) .nil))) (.cons (.tup (.inl (.inl (td8 _ _ (td7 _ _ (td6 _ _ (td5 _ _ (td4 _ _ (td3 _ _ (td2 _ _ fd1))))))))) (.cons (.str _) (.cons (.str _) .nil))) (.cons (.tup (.inl (.inl (td8 _ _ (td7 _ _ (td6 _ _ (td5 _ _ (td4 _ _ (td3 _ _ (td2 _ _ fd1))))))))) (.cons (.str _) (.cons (.str _) .nil))) (.cons (.tup (.inl (.inl (td8 _ _ (td7 _ _ (td6 _ _ (td5 _ _ (td4 _ _ (td3 _ _ (td2 _ _ fd1))))))))) (.cons (.str _) (.cons (.str _) .nil))) (.cons (.tup (.inl (.inl (td8 _ _ (td7 _ _ (td6 _ _ (td5 _ _ fd4)))))) (.cons (.str _) (.cons (.str _) .nil))) (.cons (.tup (.inl (.inl (td8 _ _ (td7 _ _ (td6 _ _ fd5))))) (.cons (.str _) (.cons (.str _) (.cons (.int _) .nil)))) (.cons (.tup (.inl (.inl (td8 _ _ (td7 _ _ fd6)))) (.cons (.str _) (.cons (.int _) (.cons (.int _) .nil)))) .nil)))))))
    have hdp : DpAll K D8 dn7 dueL := RS.dp (par_imp (fun _ _ ⟨a, ea, ha, d⟩ => ⟨a, ea, sD _ _ ha, d⟩) rs7.pt)
    refine ⟨_, rfl, _, rfl, _, _, .lst (SqL.of (sD _ _ rs7.hh)) hdp, .lst (SqL.of fd8) dueD, due_shaped, due_shaped, _, rfl, iteBT due_eqv ?_⟩
    have penD := rs7.pen.same sD
    have tabD := rs7.tab.ext sD
    have kD : Kp p H D8 := (k0B.trans rs7.kp).same sD
    clear dueD hdp sD td1 fd1 nd1 td2 fd2 nd2 td3 fd3 nd3 td4 fd4 nd4 td5 fd5 nd5 td6 fd6 nd6 td7 fd7 nd7 td8 fd8 nd8
    refine ⟨(by show 1 ≤ sizeLine; decide), fun a1 n1 => ⟨a1, 8, _, rfl, rfl, upd_same, by decide, by decide, (by decide), fun a2 n2 => ?_⟩⟩
    have e8 : (List.replicate (8 : Int).toNat [V.int 1000000]).flatten = (List.replicate 8 (1000000 : Int)).map V.int := by decide +kernel
    rw [e8]
    have s1 : Same D8 (upd (upd D8 a1 (.lst [.int 1000000])) a2 (.lst ((List.replicate 8 (1000000 : Int)).map V.int))) := ((Same.refl _).new n1).new n2
    refine made2 (.inl upd_same) (fun x hx => by rw [List.eq_of_mem_replicate hx]; decide) (by decide) (by decide) fun r HE ring sE nr => ⟨rfl, ?_⟩
    obtain ⟨dx, u, hr9, hu9⟩ := ring
    refine ⟨r, C, dx, _, _, rfl, hr9, R.cl, R.nT, rf_total _ _, rfl, ?_⟩
    have e9 : decide (V.int (List.replicate 8 (1000000 : Int)).sum = V.int 8000000) = true := by decide +kernel
    rw [e9]
    have sF := s1.trans sE
    exact q _ (kD.same sF) ((penD.same sF).mono (by omega)) (tabD.ext sF)
end
end K
namespace K
open PySem L2 Rg LamX
open Evl (pss_cut)
section
variable {P : Program} {w : World} {K : PySem.W.Frag} {mg : Str → Option Value} {base : Heap}
abbrev nLaw : List Str := ["_law_script", "_law_pen_here", "_law_lap", "_law_lengths_here"]
theorem scLaw : FnScope nLaw ["_law_script"] (defScope sLaw) := ⟨rfl, rfl, rfl, by decide +kernel, rfl, by decide +kernel, by decide +kernel⟩
def spLaw (K : PySem.W.Frag) (P1 P2 : Addr) : Sp := fun vs H Q _ => ∃ (a : Addr) (ns : List Int), vs = [.ref a] ∧ SqL K H a (ns.map V.int) ∧ ns.length ≤ 63 ∧ Tabs (T2 P1 P2) H ∧ ∀ H', Q (.bl true) H'
theorem ok_law {P1 P2 f fP fL fM fW fX : Addr} {fd fdP fdL fdM fdW fdX : FuncData} (F : Fun K "law" "law" sLaw f fd) (T : Bi mg)
    (PN : DefAt P w K mg base CX0 2 "_law_pen" ["_law_script"] (spPen K) fP fdP) (LN : DefAt P w K mg base CX0 3 "_law_lengths" ["_law_pen_here"] (spLengths K) fL fdL)
    (MR : DefAt P w K mg base CX0 8 "_law_made_right" ["_law_pen_here", "_law_lengths_here"] (spMR K) fM fdM) (WR : DefAt P w K mg base CX0 10 "_law_text_right" ["_law_pen_here", "_law_lengths_here"] (spCH K P1 P2) fW fdW)
    (XR : DefAt P w K mg base CX0 10 "_law_refused_right" ["_law_pen_here", "_law_lengths_here"] (spCH K P1 P2) fX fdX) : FnOk P w K mg base CX0 11 f fd ["_law_script"] (spLaw K P1 P2) := by
  refine F.ok scLaw (fun vs H Q E h => ?_) (fun cdv A outer s H vs Q E hr h => ?_)
  · obtain ⟨a, ns, rfl, _⟩ := h
    rfl
  · have nd := scLaw.nd
    refine ⟨_, pss_cons (ps_set (i := 1) nd rfl (Or.inl rfl) (pe_call PN.ok (hr.mono (by decide)) rfl PN.g PN.kp PN.b .nil pass0 (pa_cons (pv 0) pa_nil)))
      (pss_cons (ps_for PassesOwn.never rfl (pi_range1 (by rfl) T.range (pa_cons pe_int pa_nil)) (pg_name (i := 2) nd rfl (Or.inl rfl))
        (pss_cons (ps_set (i := 3) nd rfl (Or.inl rfl) (pe_call LN.ok (hr.mono (by decide)) rfl LN.g LN.kp LN.b .nil pass0 (pa_cons (pv 1) pa_nil)))
        (pss_cons (ps_if (PW.pt (pw_or (pt_not (pt_val (pe_call MR.ok (hr.mono (by decide)) rfl MR.g MR.kp MR.b .nil pass0 (pa_cons (pv 1) (pa_cons (pv 3) pa_nil))))) (pw_or (pt_not (pt_val (pe_call WR.ok hr rfl WR.g WR.kp WR.b .nil pass0 (pa_cons (pv 1) (pa_cons (pv 3) pa_nil))))) (pw_or1 (pt_not (pt_val (pe_call WR.ok hr rfl WR.g WR.kp WR.b .nil pass0 (pa_cons (pv 1) (pa_cons (pv 3) pa_nil))))))))) (pss_one ps_never) pss_nil)
        (pss_one (ps_if (pt_not (pt_val (pe_call XR.ok hr rfl XR.g XR.kp XR.b .nil pass0 (pa_cons (pv 1) (pa_cons (pv 3) pa_nil))))) (pss_one ps_never) pss_nil)))))
      (pss_one (ps_ret pe_bl))), ?_⟩
    obtain ⟨a, ns, rfl, hs, hl, tab, q⟩ := h
    refine ⟨_, rfl, a, ns, rfl, hs, hl, fun p e H1 s1 np pen1 => ?_⟩
    have tab1 := tab.ext s1
    refine ⟨_, rfl, by decide, by decide, ?_⟩
    refine for_range (lo := 0) (n := (3 : Int).toNat) (fun i σ H' => ∃ (z2 z3 : Option V), σ = [some (.ref a), some (.ref p), z2, z3] ∧ PenAt K H' p e (i * 80) ∧ Tabs (T2 P1 P2) H') ⟨none, none, rfl, by simpa using pen1, tab1⟩ ?_ ?_
    · rintro i σ H' hi ⟨z2, z3, rfl, pen, tab'⟩
      have hi3 : i < 3 := hi
      refine ⟨_, rfl, p, e, _, rfl, by omega, pen, fun l ls H2 l3 l8 bd nl b2 hl2 pen2 => ?_⟩
      obtain ⟨pl, hpl⟩ := pen.some
      have tab2 := tabs_but tab' b2 hpl
      have nlp : l ≠ p := pen.ne nl
      refine ⟨_, rfl, _, rfl, p, l, ls, e, _, rfl, ?_, pen2, nlp, hl2, l3, l8, bd, fun H3 b3 pen3 => ⟨_, rfl, iteF ?_⟩⟩
      · omega
      obtain ⟨pl2, hpl2⟩ := pen2.some
      have tab3 := tabs_but tab2 b3 hpl2
      refine ⟨_, rfl, _, rfl, p, l, ls, e, _, rfl, ?_, pen3, nlp, b3 _ _ nlp hl2, l3, l8, bd, tab3, fun H4 k4 pen4 tab4 => ⟨_, rfl, iteF ?_⟩⟩
      · omega
      refine ⟨_, rfl, _, rfl, p, l, ls, e, _, rfl, ?_, pen4, nlp, k4 _ _ nlp (b3 _ _ nlp hl2) (fun _ z => nomatch z), l3, l8, bd, tab4, fun H5 k5 pen5 tab5 => ⟨_, rfl, iteF ?_⟩⟩
      · omega
      refine ⟨_, rfl, _, rfl, p, l, ls, e, _, rfl, ?_, pen5, nlp, k5 _ _ nlp (k4 _ _ nlp (b3 _ _ nlp hl2) (fun _ z => nomatch z)) (fun _ z => nomatch z), l3, l8, bd, tab5, fun H6 k6 pen6 tab6 => ⟨_, rfl, iteF ?_⟩⟩
      · omega
      exact ⟨_, _, rfl, pen6.mono (by omega), tab6⟩
    · rintro σ H' ⟨z2, z3, rfl, pen, tab'⟩
      exact q H'
end
end K
namespace K
open PySem L2 Rg LamX
theorem kbn_two {K : PySem.W.Frag} {fd : FuncData} (h : ∀ (a b : Value) (s : Shared), BindsTo s fd ⟨[a], [("lengths", b)]⟩ [("self", a), ("lengths", b)]) : KBn K fd ["self", "lengths"] 1 ["lengths"] gK2 gK2 := by
  refine ⟨fun s us ws _ h1 h2 => ?_, fun {vs us zs ws} r1 r2 => ?_⟩
  · match us, ws, h1, h2 with
    | [a], [b], _, _ => exact h a b s
  · cases r1 with
    | nil => cases r2 <;> exact .nil
    | cons x t =>
      cases t with
      | nil =>
        cases r2 with
        | nil => exact .nil
        | cons y t2 =>
          cases t2 with
          | nil => exact .cons x (.cons y .nil)
          | cons _ _ => exact .nil
      | cons _ _ => exact .nil
theorem kb_text {K : PySem.W.Frag} {fd : FuncData} (h : ∀ (b : Value) (s : Shared), BindsTo s fd ⟨[], [("text", b)]⟩ [("text", b)]) : KBinds K fd ["text"] ["text"] gK1 gK1 := by
  refine ⟨fun s us ws _ hl => ?_, fun {vs us zs ws} r1 r2 => ?_⟩
  · match us, ws, hl with
    | [], [b], _ => exact h b s
  · cases r1 with
    | nil =>
      cases r2 with
      | nil => exact .nil
      | cons y t2 =>
        cases t2 with
        | nil => exact .cons y .nil
        | cons _ _ => exact .nil
    | cons _ _ => cases r2 <;> exact .nil
theorem code_hd {K : PySem.W.Frag} {c P : Addr} {o : Obj} (l : K.lookup c = some o) (h : PySem.W.codeHdIn [(c, o)] c P = true) : PySem.W.codeHdIn K c P = true := by
  have e : List.lookup c [(c, o)] = some o := by simp [List.lookup]
  unfold PySem.W.codeHdIn at h ⊢
  rw [e] at h
  rw [l]
  exact h
theorem lookup_out {K : PySem.W.Frag} {P : Addr} : ∀ {as : List Addr}, as = K.map (·.1) → P ∉ as → K.lookup P = none := by
  intro as e h
  subst e
  induction K with
  | nil => rfl
  | cons x r ih =>
    obtain ⟨a, o⟩ := x
    rw [List.map_cons, List.mem_cons, not_or] at h
    have hne : (P == a) = false := by simpa using h.1
    rw [List.lookup_cons, hne]
    exact ih h.2
theorem out_of {K : Params → PySem.W.Frag} {as : List Addr} {e : ∀ P, as = (K P).map (·.1)} {ts : List Addr} {w : World} {h : Heap} (_ : (PySem.W.kmHook K as e ts).says w h) {P : Addr} (hP : P ∉ as) : (K w.params).lookup P = none := lookup_out (e w.params) hP

theorem all_mk {l : PySem.W.OpenLaw} {w : World} {K : PySem.W.Frag} {h : Heap} {mg : Str → Option Value} {fa : Addr} (X : K.In h) (G : h.Ns mainGlobals mg) (hfa : mg "law" = some (.ref fa))
    {C eX eR eM eT f0 f1 f2 f3 f4 f5 f6 f7 f8 f9 f10 f11 f12 f13 f14 f15 f16 f17 f18 f19 cTX f20 cRF f21 fm0 fm1 fm2 fm3 fm4 fm5 fm6 pS fR P1 P2 : Addr} {od0 an0 od1 an1 od2 an2 od3 an3 od4 an4 od5 an5 od6 an6 od7 an7 od8 an8 od9 an9 od10 an10 od11 an11 od12 an12 od13 an13 od14 an14 od15 an15 od16 an16 od17 an17 od18 an18 od19 an19 od20 an20 od21 an21 odm0 anm0 odm1 anm1 odm2 anm2 odm3 anm3 odm4 anm4 odm5 anm5 odm6 anm6 odR anR odc1 odc2 : Option Addr} {sl0 sl1 sl2 sl3 sl4 sl5 sl6 sl7 sl8 sl9 sl10 sl11 sl12 sl13 sl14 sl15 sl16 sl17 sl18 sl19 sl20 sl21 slm0 slm1 slm2 slm3 slm4 slm5 slm6 slR slc1 slc2 : Array (Option Value)} {oc0 kV0 dc0 pm0 ct0 cd0 oc1 kV1 dc1 pm1 ct1 cd1 oc2 kV2 dc2 pm2 ct2 cd2 oc3 kV3 dc3 pm3 ct3 cd3 oc4 kV4 dc4 pm4 ct4 cd4 oc5 kV5 dc5 pm5 ct5 cd5 oc6 kV6 dc6 pm6 ct6 cd6 oc7 kV7 dc7 pm7 ct7 cd7 oc8 kV8 dc8 pm8 ct8 cd8 oc9 kV9 dc9 pm9 ct9 cd9 oc10 kV10 dc10 pm10 ct10 cd10 oc11 kV11 dc11 pm11 ct11 cd11 oc12 kV12 dc12 pm12 ct12 cd12 oc13 kV13 dc13 pm13 ct13 cd13 oc14 kV14 dc14 pm14 ct14 cd14 oc15 kV15 dc15 pm15 ct15 cd15 oc16 kV16 dc16 pm16 ct16 cd16 oc17 kV17 dc17 pm17 ct17 cd17 oc18 kV18 dc18 pm18 ct18 cd18 oc19 kV19 dc19 pm19 ct19 oc20 kV20 dc20 pm20 ct20 oc21 kV21 dc21 pm21 ct21 cd21 ocm0 kVm0 dcm0 pmm0 ctm0 cdm0 ocm1 kVm1 dcm1 pmm1 ctm1 cdm1 ocm2 kVm2 dcm2 pmm2 ctm2 cdm2 ocm3 kVm3 dcm3 pmm3 ctm3 cdm3 ocm4 kVm4 dcm4 pmm4 ctm4 cdm4 ocm5 kVm5 dcm5 pmm5 ctm5 cdm5 ocm6 kVm6 dcm6 pmm6 ctm6 cdm6 ocR kVR dcR pmR ctR cdR : Value} {tkMOST_LENGTH tkLEAST_BARS tkMOST_BARS tkMOST_DIGITS : Tok} {restS : List Value} {vsc1 vsc2 : Array Value}
    {nmeR nmeM nmeT qqeR qqeM qqeT : Str} {NeR NeM NeT : Addr} {bseR bseM bseT : List Value} {bmeR bmeM bmeT : List Value} {sneR sneM sneT : List Str} {subeR subeM subeT : List Value} {abeR abeM abeT : Bool} {coleR coleM coleT : Option Bool} {ddeR ddeM ddeT : Option Addr} {k0eR k1eR k2eR k3eR k5eR k0eM k1eM k2eM k3eM k5eM k0eT k1eT k2eT k3eT k5eT : Option Value}
    (aC : PySem.W.nsIn K mainGlobals "Ring" = some (some (.ref C)))
    (aeX : PySem.W.nsIn K mainGlobals "RingError" = some (some (.ref eX)))
    (aeR : PySem.W.nsIn K mainGlobals "BadRing" = some (some (.ref eR)))
    (aeM : PySem.W.nsIn K mainGlobals "TooMany" = some (some (.ref eM)))
    (aeT : PySem.W.nsIn K mainGlobals "BadText" = some (some (.ref eT)))
    (a0 : PySem.W.nsIn K mainGlobals "is_integer" = some (some (.ref f0)))
    (l0 : K.lookup f0 = some ⟨oc0, od0, .func (PySem.W.fnOf "is_integer" "is_integer" (defArgs sIsInteger) (defBody sIsInteger) (defScope sIsInteger) .none kV0 dc0 pm0 an0 cd0 ct0), sl0⟩)
    (c0 : PySem.W.codeIn K cd0 "is_integer" = true)
    (k0 : PySem.W.keepIn K (.ref f0) = true)
    (a1 : PySem.W.nsIn K mainGlobals "is_within" = some (some (.ref f1)))
    (l1 : K.lookup f1 = some ⟨oc1, od1, .func (PySem.W.fnOf "is_within" "is_within" (defArgs sIsWithin) (defBody sIsWithin) (defScope sIsWithin) .none kV1 dc1 pm1 an1 cd1 ct1), sl1⟩)
    (c1 : PySem.W.codeIn K cd1 "is_within" = true)
    (k1 : PySem.W.keepIn K (.ref f1) = true)
    (a2 : PySem.W.nsIn K mainGlobals "is_list" = some (some (.ref f2)))
    (l2 : K.lookup f2 = some ⟨oc2, od2, .func (PySem.W.fnOf "is_list" "is_list" (defArgs sIsList) (defBody sIsList) (defScope sIsList) .none kV2 dc2 pm2 an2 cd2 ct2), sl2⟩)
    (c2 : PySem.W.codeIn K cd2 "is_list" = true)
    (k2 : PySem.W.keepIn K (.ref f2) = true)
    (a3 : PySem.W.nsIn K mainGlobals "items_of" = some (some (.ref f3)))
    (l3 : K.lookup f3 = some ⟨oc3, od3, .func (PySem.W.fnOf "items_of" "items_of" (defArgs sItemsOf) (defBody sItemsOf) (defScope sItemsOf) .none kV3 dc3 pm3 an3 cd3 ct3), sl3⟩)
    (c3 : PySem.W.codeIn K cd3 "items_of" = true)
    (k3 : PySem.W.keepIn K (.ref f3) = true)
    (a4 : PySem.W.nsIn K mainGlobals "integer_of" = some (some (.ref f4)))
    (l4 : K.lookup f4 = some ⟨oc4, od4, .func (PySem.W.fnOf "integer_of" "integer_of" (defArgs sIntegerOf) (defBody sIntegerOf) (defScope sIntegerOf) .none kV4 dc4 pm4 an4 cd4 ct4), sl4⟩)
    (c4 : PySem.W.codeIn K cd4 "integer_of" = true)
    (k4 : PySem.W.keepIn K (.ref f4) = true)
    (a5 : PySem.W.nsIn K mainGlobals "item_at" = some (some (.ref f5)))
    (l5 : K.lookup f5 = some ⟨oc5, od5, .func (PySem.W.fnOf "item_at" "item_at" (defArgs sItemAt) (defBody sItemAt) (defScope sItemAt) .none kV5 dc5 pm5 an5 cd5 ct5), sl5⟩)
    (c5 : PySem.W.codeIn K cd5 "item_at" = true)
    (k5 : PySem.W.keepIn K (.ref f5) = true)
    (a6 : PySem.W.nsIn K mainGlobals "number_at" = some (some (.ref f6)))
    (l6 : K.lookup f6 = some ⟨oc6, od6, .func (PySem.W.fnOf "number_at" "number_at" (defArgs sNumberAt) (defBody sNumberAt) (defScope sNumberAt) .none kV6 dc6 pm6 an6 cd6 ct6), sl6⟩)
    (c6 : PySem.W.codeIn K cd6 "number_at" = true)
    (k6 : PySem.W.keepIn K (.ref f6) = true)
    (a7 : PySem.W.nsIn K mainGlobals "are_lengths" = some (some (.ref f7)))
    (l7 : K.lookup f7 = some ⟨oc7, od7, .func (PySem.W.fnOf "are_lengths" "are_lengths" (defArgs sAreLengths) (defBody sAreLengths) (defScope sAreLengths) .none kV7 dc7 pm7 an7 cd7 ct7), sl7⟩)
    (c7 : PySem.W.codeIn K cd7 "are_lengths" = true)
    (k7 : PySem.W.keepIn K (.ref f7) = true)
    (a8 : PySem.W.nsIn K mainGlobals "has_level" = some (some (.ref f8)))
    (l8 : K.lookup f8 = some ⟨oc8, od8, .func (PySem.W.fnOf "has_level" "has_level" (defArgs sHasLevel) (defBody sHasLevel) (defScope sHasLevel) .none kV8 dc8 pm8 an8 cd8 ct8), sl8⟩)
    (c8 : PySem.W.codeIn K cd8 "has_level" = true)
    (k8 : PySem.W.keepIn K (.ref f8) = true)
    (a9 : PySem.W.nsIn K mainGlobals "read_ring" = some (some (.ref f9)))
    (l9 : K.lookup f9 = some ⟨oc9, od9, .func (PySem.W.fnOf "read_ring" "read_ring" (defArgs sReadRing) (defBody sReadRing) (defScope sReadRing) .none kV9 dc9 pm9 an9 cd9 ct9), sl9⟩)
    (c9 : PySem.W.codeIn K cd9 "read_ring" = true)
    (k9 : PySem.W.keepIn K (.ref f9) = true)
    (a10 : PySem.W.nsIn K mainGlobals "_law_pen" = some (some (.ref f10)))
    (l10 : K.lookup f10 = some ⟨oc10, od10, .func (PySem.W.fnOf "_law_pen" "_law_pen" (defArgs sLwPen) (defBody sLwPen) (defScope sLwPen) .none kV10 dc10 pm10 an10 cd10 ct10), sl10⟩)
    (c10 : PySem.W.codeIn K cd10 "_law_pen" = true)
    (k10 : PySem.W.keepIn K (.ref f10) = true)
    (a11 : PySem.W.nsIn K mainGlobals "_law_draw" = some (some (.ref f11)))
    (l11 : K.lookup f11 = some ⟨oc11, od11, .func (PySem.W.fnOf "_law_draw" "_law_draw" (defArgs sLwDraw) (defBody sLwDraw) (defScope sLwDraw) .none kV11 dc11 pm11 an11 cd11 ct11), sl11⟩)
    (c11 : PySem.W.codeIn K cd11 "_law_draw" = true)
    (k11 : PySem.W.keepIn K (.ref f11) = true)
    (a12 : PySem.W.nsIn K mainGlobals "_law_pick" = some (some (.ref f12)))
    (l12 : K.lookup f12 = some ⟨oc12, od12, .func (PySem.W.fnOf "_law_pick" "_law_pick" (defArgs sLwPick) (defBody sLwPick) (defScope sLwPick) .none kV12 dc12 pm12 an12 cd12 ct12), sl12⟩)
    (c12 : PySem.W.codeIn K cd12 "_law_pick" = true)
    (k12 : PySem.W.keepIn K (.ref f12) = true)
    (a13 : PySem.W.nsIn K mainGlobals "_law_lengths" = some (some (.ref f13)))
    (l13 : K.lookup f13 = some ⟨oc13, od13, .func (PySem.W.fnOf "_law_lengths" "_law_lengths" (defArgs sLwLengths) (defBody sLwLengths) (defScope sLwLengths) .none kV13 dc13 pm13 an13 cd13 ct13), sl13⟩)
    (c13 : PySem.W.codeIn K cd13 "_law_lengths" = true)
    (k13 : PySem.W.keepIn K (.ref f13) = true)
    (a14 : PySem.W.nsIn K mainGlobals "_law_lots" = some (some (.ref f14)))
    (l14 : K.lookup f14 = some ⟨oc14, od14, .func (PySem.W.fnOf "_law_lots" "_law_lots" (defArgs sLwLots) (defBody sLwLots) (defScope sLwLots) .none kV14 dc14 pm14 an14 cd14 ct14), sl14⟩)
    (c14 : PySem.W.codeIn K cd14 "_law_lots" = true)
    (k14 : PySem.W.keepIn K (.ref f14) = true)
    (a15 : PySem.W.nsIn K mainGlobals "_law_sort" = some (some (.ref f15)))
    (l15 : K.lookup f15 = some ⟨oc15, od15, .func (PySem.W.fnOf "_law_sort" "_law_sort" (defArgs sLwSort) (defBody sLwSort) (defScope sLwSort) .none kV15 dc15 pm15 an15 cd15 ct15), sl15⟩)
    (c15 : PySem.W.codeIn K cd15 "_law_sort" = true)
    (k15 : PySem.W.keepIn K (.ref f15) = true)
    (a16 : PySem.W.nsIn K mainGlobals "_law_heard" = some (some (.ref f16)))
    (l16 : K.lookup f16 = some ⟨oc16, od16, .func (PySem.W.fnOf "_law_heard" "_law_heard" (defArgs sLwHeard) (defBody sLwHeard) (defScope sLwHeard) .none kV16 dc16 pm16 an16 cd16 ct16), sl16⟩)
    (c16 : PySem.W.codeIn K cd16 "_law_heard" = true)
    (k16 : PySem.W.keepIn K (.ref f16) = true)
    (a17 : PySem.W.nsIn K mainGlobals "_law_made_right" = some (some (.ref f17)))
    (l17 : K.lookup f17 = some ⟨oc17, od17, .func (PySem.W.fnOf "_law_made_right" "_law_made_right" (defArgs sLwMadeRight) (defBody sLwMadeRight) (defScope sLwMadeRight) .none kV17 dc17 pm17 an17 cd17 ct17), sl17⟩)
    (c17 : PySem.W.codeIn K cd17 "_law_made_right" = true)
    (k17 : PySem.W.keepIn K (.ref f17) = true)
    (a18 : PySem.W.nsIn K mainGlobals "_law_stop" = some (some (.ref f18)))
    (l18 : K.lookup f18 = some ⟨oc18, od18, .func (PySem.W.fnOf "_law_stop" "_law_stop" (defArgs sLwStop) (defBody sLwStop) (defScope sLwStop) .none kV18 dc18 pm18 an18 cd18 ct18), sl18⟩)
    (c18 : PySem.W.codeIn K cd18 "_law_stop" = true)
    (k18 : PySem.W.keepIn K (.ref f18) = true)
    (a19 : PySem.W.nsIn K mainGlobals "_law_text_right" = some (some (.ref f19)))
    (l19 : K.lookup f19 = some ⟨oc19, od19, .func (PySem.W.fnOf "_law_text_right" "_law_text_right" (defArgs sLwTextRight) (defBody sLwTextRight) (defScope sLwTextRight) .none kV19 dc19 pm19 an19 (.ref cTX) ct19), sl19⟩)
    (c19 : PySem.W.codeIn K (.ref cTX) "_law_text_right" = true)
    (k19 : PySem.W.keepIn K (.ref f19) = true)
    (a20 : PySem.W.nsIn K mainGlobals "_law_refused_right" = some (some (.ref f20)))
    (l20 : K.lookup f20 = some ⟨oc20, od20, .func (PySem.W.fnOf "_law_refused_right" "_law_refused_right" (defArgs sLwRefusedRight) (defBody sLwRefusedRight) (defScope sLwRefusedRight) .none kV20 dc20 pm20 an20 (.ref cRF) ct20), sl20⟩)
    (c20 : PySem.W.codeIn K (.ref cRF) "_law_refused_right" = true)
    (k20 : PySem.W.keepIn K (.ref f20) = true)
    (a21 : PySem.W.nsIn K mainGlobals "law" = some (some (.ref f21)))
    (l21 : K.lookup f21 = some ⟨oc21, od21, .func (PySem.W.fnOf "law" "law" (defArgs sLaw) (defBody sLaw) (defScope sLaw) .none kV21 dc21 pm21 an21 cd21 ct21), sl21⟩)
    (c21 : PySem.W.codeIn K cd21 "law" = true)
    (k21 : PySem.W.keepIn K (.ref f21) = true)
    (am0 : PySem.W.findIn K (.ref C) "__init__" = some (some (.ref fm0)))
    (im0 : PySem.W.isFn K (.ref fm0) = true)
    (lm0 : K.lookup fm0 = some ⟨ocm0, odm0, .func (PySem.W.fnOf "__init__" "Ring.__init__" (defArgs sRingInit) (defBody sRingInit) (defScope sRingInit) .none kVm0 dcm0 pmm0 anm0 cdm0 ctm0), slm0⟩)
    (cm0 : PySem.W.codeIn K cdm0 "Ring.__init__" = true)
    (km0 : PySem.W.keepIn K (.ref fm0) = true)
    (am1 : PySem.W.findIn K (.ref C) "__len__" = some (some (.ref fm1)))
    (im1 : PySem.W.isFn K (.ref fm1) = true)
    (lm1 : K.lookup fm1 = some ⟨ocm1, odm1, .func (PySem.W.fnOf "__len__" "Ring.__len__" (defArgs sRingLen) (defBody sRingLen) (defScope sRingLen) .none kVm1 dcm1 pmm1 anm1 cdm1 ctm1), slm1⟩)
    (cm1 : PySem.W.codeIn K cdm1 "Ring.__len__" = true)
    (km1 : PySem.W.keepIn K (.ref fm1) = true)
    (am2 : PySem.W.findIn K (.ref C) "__eq__" = some (some (.ref fm2)))
    (im2 : PySem.W.isFn K (.ref fm2) = true)
    (lm2 : K.lookup fm2 = some ⟨ocm2, odm2, .func (PySem.W.fnOf "__eq__" "Ring.__eq__" (defArgs sRingEq) (defBody sRingEq) (defScope sRingEq) .none kVm2 dcm2 pmm2 anm2 cdm2 ctm2), slm2⟩)
    (cm2 : PySem.W.codeIn K cdm2 "Ring.__eq__" = true)
    (km2 : PySem.W.keepIn K (.ref fm2) = true)
    (am3 : PySem.W.findIn K (.ref C) "__str__" = some (some (.ref fm3)))
    (im3 : PySem.W.isFn K (.ref fm3) = true)
    (lm3 : K.lookup fm3 = some ⟨ocm3, odm3, .func (PySem.W.fnOf "__str__" "Ring.__str__" (defArgs sRingStr) (defBody sRingStr) (defScope sRingStr) .none kVm3 dcm3 pmm3 anm3 cdm3 ctm3), slm3⟩)
    (cm3 : PySem.W.codeIn K cdm3 "Ring.__str__" = true)
    (km3 : PySem.W.keepIn K (.ref fm3) = true)
    (am4 : PySem.W.findIn K (.ref eR) "__init__" = some (some (.ref fm4)))
    (im4 : PySem.W.isFn K (.ref fm4) = true)
    (lm4 : K.lookup fm4 = some ⟨ocm4, odm4, .func (PySem.W.fnOf "__init__" "BadRing.__init__" (defArgs sBadRingInit) (defBody sBadRingInit) (defScope sBadRingInit) .none kVm4 dcm4 pmm4 anm4 cdm4 ctm4), slm4⟩)
    (cm4 : PySem.W.codeIn K cdm4 "BadRing.__init__" = true)
    (km4 : PySem.W.keepIn K (.ref fm4) = true)
    (tim4 : PySem.W.typeIn K (.ref fm4) = some (.type "function"))
    (am5 : PySem.W.findIn K (.ref eM) "__init__" = some (some (.ref fm5)))
    (im5 : PySem.W.isFn K (.ref fm5) = true)
    (lm5 : K.lookup fm5 = some ⟨ocm5, odm5, .func (PySem.W.fnOf "__init__" "TooMany.__init__" (defArgs sTooManyInit) (defBody sTooManyInit) (defScope sTooManyInit) .none kVm5 dcm5 pmm5 anm5 cdm5 ctm5), slm5⟩)
    (cm5 : PySem.W.codeIn K cdm5 "TooMany.__init__" = true)
    (km5 : PySem.W.keepIn K (.ref fm5) = true)
    (tim5 : PySem.W.typeIn K (.ref fm5) = some (.type "function"))
    (am6 : PySem.W.findIn K (.ref eT) "__init__" = some (some (.ref fm6)))
    (im6 : PySem.W.isFn K (.ref fm6) = true)
    (lm6 : K.lookup fm6 = some ⟨ocm6, odm6, .func (PySem.W.fnOf "__init__" "BadText.__init__" (defArgs sBadTextInit) (defBody sBadTextInit) (defScope sBadTextInit) .none kVm6 dcm6 pmm6 anm6 cdm6 ctm6), slm6⟩)
    (cm6 : PySem.W.codeIn K cdm6 "BadText.__init__" = true)
    (km6 : PySem.W.keepIn K (.ref fm6) = true)
    (tim6 : PySem.W.typeIn K (.ref fm6) = some (.type "function"))
    (rpg : PySem.W.plainGet K C Str.empty = true)
    (rhd : PySem.W.hasDictIn K C = true)
    (rpo : PySem.W.plainOver K C = true)
    (rsa : PySem.W.findIn K (.ref C) "__setattr__" = some (some (.builtin "object.__setattr__")))
    (rmk : PySem.W.makesIn K C = true)
    (rkc : PySem.W.keepIn K (.ref C) = true)
    (rn1 : PySem.W.findIn K (.ref C) "lengths" = some none)
    (rn2 : PySem.W.findIn K (.ref C) "total" = some none)
    (rn3 : PySem.W.findIn K (.ref C) "closes" = some none)
    (rn4 : PySem.W.findIn K (.ref C) "is_clear" = some none)
    (rne : PySem.W.findIn K (.ref C) "__ne__" = some (some (.builtin "object.__ne__")))
    (rho : PySem.W.subIn K (.ref C) (.type "object") = some true)
    (rha : PySem.W.findIn K (.ref C) "__class__" = some (some (.builtin "object.__class__")))
    (rhn : PySem.W.specialIn K (.builtin "object.__class__") "__get__" = some (some (.builtin "getset_descriptor.__get__")))
    (rht : PySem.W.takesIn K (.builtin "object.__class__") = some true)
    (rhm : PySem.W.mroIn K C (.type "object") = some true)
    (rga : PySem.W.specialIn K (.ref C) "__getattribute__" = some (some (.builtin "type.__getattribute__")))
    (rrd : PySem.W.readsIn K C (.type "type") = true)
    (rat : PySem.W.findCls K (.ref C) (.type "type") "read" = some (.get (.builtin "staticmethod.__get__") (.ref pS) .none (.ref C)))
    (rrc : PySem.W.recIn K pS "staticmethod" = some (.ref fR :: restS))
    (rlR : K.lookup fR = some ⟨ocR, odR, .func (PySem.W.fnOf "read" "Ring.read" (defArgs sRingRead) (defBody sRingRead) (defScope sRingRead) .none kVR dcR pmR anR cdR ctR), slR⟩)
    (rcR : PySem.W.codeIn K cdR "Ring.read" = true)
    (rkR : PySem.W.keepIn K (.ref fR) = true)
    (rsS : PySem.W.subIn K (.type "str") (.ref C) = some false)
    (rsT : PySem.W.subIn K (.type "tuple") (.ref C) = some false)
    (kRS : PySem.W.kitOne K (.ref C) (.type "str") = some false)
    (kSR : PySem.W.kitOne K (.type "str") (.ref C) = some false)
    (kUR : PySem.W.kitOne K (.type "tuple") (.ref C) = some false)
    (z_int : PySem.W.nsIn K mainGlobals "int" = some none)
    (z_len : PySem.W.nsIn K mainGlobals "len" = some none)
    (z_abs : PySem.W.nsIn K mainGlobals "abs" = some none)
    (z_list : PySem.W.nsIn K mainGlobals "list" = some none)
    (z_tuple : PySem.W.nsIn K mainGlobals "tuple" = some none)
    (z_bool : PySem.W.nsIn K mainGlobals "bool" = some none)
    (z_range : PySem.W.nsIn K mainGlobals "range" = some none)
    (z_sum : PySem.W.nsIn K mainGlobals "sum" = some none)
    (z_max : PySem.W.nsIn K mainGlobals "max" = some none)
    (z_all : PySem.W.nsIn K mainGlobals "all" = some none)
    (z_any : PySem.W.nsIn K mainGlobals "any" = some none)
    (z_sorted : PySem.W.nsIn K mainGlobals "sorted" = some none)
    (z_enumerate : PySem.W.nsIn K mainGlobals "enumerate" = some none)
    (z_isinstance : PySem.W.nsIn K mainGlobals "isinstance" = some none)
    (z_str : PySem.W.nsIn K mainGlobals "str" = some none)
    (g_MOST_LENGTH : PySem.W.nsIn K mainGlobals "MOST_LENGTH" = some (some (.int 1000000 tkMOST_LENGTH)))
    (g_LEAST_BARS : PySem.W.nsIn K mainGlobals "LEAST_BARS" = some (some (.int 3 tkLEAST_BARS)))
    (g_MOST_BARS : PySem.W.nsIn K mainGlobals "MOST_BARS" = some (some (.int 8 tkMOST_BARS)))
    (g_MOST_DIGITS : PySem.W.nsIn K mainGlobals "MOST_DIGITS" = some (some (.int 60 tkMOST_DIGITS)))
    (xeR : K.lookup eR = some (excClassObj nmeR qqeR eR NeR bseR bmeR true sneR subeR abeR coleR ddeR k0eR k1eR k2eR k3eR k5eR "ValueError.__new__"))
    (rveR : PySem.HandSPX.refsVE bmeR = true)
    (saeR : PySem.W.findIn K (.ref eR) "__setattr__" = some (some (.builtin "object.__setattr__")))
    (gaeR : PySem.W.findIn K (.ref eR) "__getattribute__" = some (some (.builtin "BaseException.__getattribute__")))
    (ggeR : PySem.W.findIn K (.ref eR) "__getattr__" = some none)
    (eCeR : PySem.W.subIn K (.ref eR) (.type "BaseException") = some true)
    (tCeR : PySem.W.typeIn K (.ref eR) = some (.type "type"))
    (kCeR : PySem.W.keepIn K (.ref eR) = true)
    (hdeR : PySem.W.hasDictIn K eR = true)
    (haeR : PySem.W.findIn K (.ref eR) "__class__" = some (some (.builtin "object.__class__")))
    (hmeR : PySem.W.mroIn K eR (.type "object") = some true)
    (nfeRpart : PySem.W.findIn K (.ref eR) "part" = some none)
    (sbeR : PySem.W.subIn K (.ref eR) (.ref eX) = some true)
    (xeM : K.lookup eM = some (excClassObj nmeM qqeM eM NeM bseM bmeM true sneM subeM abeM coleM ddeM k0eM k1eM k2eM k3eM k5eM "ValueError.__new__"))
    (rveM : PySem.HandSPX.refsVE bmeM = true)
    (saeM : PySem.W.findIn K (.ref eM) "__setattr__" = some (some (.builtin "object.__setattr__")))
    (gaeM : PySem.W.findIn K (.ref eM) "__getattribute__" = some (some (.builtin "BaseException.__getattribute__")))
    (ggeM : PySem.W.findIn K (.ref eM) "__getattr__" = some none)
    (eCeM : PySem.W.subIn K (.ref eM) (.type "BaseException") = some true)
    (tCeM : PySem.W.typeIn K (.ref eM) = some (.type "type"))
    (kCeM : PySem.W.keepIn K (.ref eM) = true)
    (hdeM : PySem.W.hasDictIn K eM = true)
    (haeM : PySem.W.findIn K (.ref eM) "__class__" = some (some (.builtin "object.__class__")))
    (hmeM : PySem.W.mroIn K eM (.type "object") = some true)
    (nfeMwhat : PySem.W.findIn K (.ref eM) "what" = some none)
    (nfeMmost : PySem.W.findIn K (.ref eM) "most" = some none)
    (sbeM : PySem.W.subIn K (.ref eM) (.ref eX) = some true)
    (xeT : K.lookup eT = some (excClassObj nmeT qqeT eT NeT bseT bmeT true sneT subeT abeT coleT ddeT k0eT k1eT k2eT k3eT k5eT "ValueError.__new__"))
    (rveT : PySem.HandSPX.refsVE bmeT = true)
    (saeT : PySem.W.findIn K (.ref eT) "__setattr__" = some (some (.builtin "object.__setattr__")))
    (gaeT : PySem.W.findIn K (.ref eT) "__getattribute__" = some (some (.builtin "BaseException.__getattribute__")))
    (ggeT : PySem.W.findIn K (.ref eT) "__getattr__" = some none)
    (eCeT : PySem.W.subIn K (.ref eT) (.type "BaseException") = some true)
    (tCeT : PySem.W.typeIn K (.ref eT) = some (.type "type"))
    (kCeT : PySem.W.keepIn K (.ref eT) = true)
    (hdeT : PySem.W.hasDictIn K eT = true)
    (haeT : PySem.W.findIn K (.ref eT) "__class__" = some (some (.builtin "object.__class__")))
    (hmeT : PySem.W.mroIn K eT (.type "object") = some true)
    (nfeTline : PySem.W.findIn K (.ref eT) "line" = some none)
    (nfeTitem : PySem.W.findIn K (.ref eT) "item" = some none)
    (sbeT : PySem.W.subIn K (.ref eT) (.ref eX) = some true)
    (eCeX : PySem.W.subIn K (.ref eX) (.type "BaseException") = some true)
    (hdeX : PySem.W.hasDictIn K eX = true)
    (tCeX : PySem.W.typeIn K (.ref eX) = some (.type "type"))
    (kMR : PySem.W.kitOne K (.ref eM) (.ref eR) = some false)
    (kTR : PySem.W.kitOne K (.ref eT) (.ref eR) = some false)
    (kTM : PySem.W.kitOne K (.ref eT) (.ref eM) = some false)
    (lc1 : K.lookup cTX = some ⟨.type "code", odc1, .fields vsc1, slc1⟩)
    (hdc1 : PySem.W.codeHdIn [(cTX, ⟨.type "code", odc1, .fields vsc1, slc1⟩)] cTX P1 = true)
    (nT1 : K.lookup P1 = none)
    (hT1 : h.get? P1 = some { cls := .none, data := .fields #[] })
    (lc2 : K.lookup cRF = some ⟨.type "code", odc2, .fields vsc2, slc2⟩)
    (hdc2 : PySem.W.codeHdIn [(cRF, ⟨.type "code", odc2, .fields vsc2, slc2⟩)] cRF P2 = true)
    (nT2 : K.lookup P2 = none)
    (hT2 : h.get? P2 = some { cls := .none, data := .fields #[] })
    (nP : P1 ≠ P2) :
    LawAtS l w K CX0 11 63 "_law_script" mg fa h := by
  have e := hfa.symm.trans (PySem.W.mg_of X G a21)
  cases e
  have gl : ∀ {x : Str} {v : Value}, PySem.W.nsIn K mainGlobals x = some (some v) → mg x = some v := fun q => PySem.W.mg_of X G q
  have T : Bi mg := ⟨PySem.W.mg_none_of X G z_int, PySem.W.mg_none_of X G z_len, PySem.W.mg_none_of X G z_abs, PySem.W.mg_none_of X G z_list, PySem.W.mg_none_of X G z_tuple, PySem.W.mg_none_of X G z_bool, PySem.W.mg_none_of X G z_range, PySem.W.mg_none_of X G z_sum, PySem.W.mg_none_of X G z_max, PySem.W.mg_none_of X G z_all, PySem.W.mg_none_of X G z_any, PySem.W.mg_none_of X G z_sorted, PySem.W.mg_none_of X G z_enumerate, PySem.W.mg_none_of X G z_isinstance⟩
  have Ts : mg "str" = none := PySem.W.mg_none_of X G z_str
  have N : Nm mg := ⟨⟨_, gl g_MOST_LENGTH⟩, ⟨_, gl g_LEAST_BARS⟩, ⟨_, gl g_MOST_BARS⟩⟩
  have R : RingC K mg C := ⟨⟨rpg, rhd, rpo, rsa⟩, rn1, rn2, rn3, rn4, gl aC, rha, rhn, rht, rhm⟩
  have oeR : OexC K eR := ⟨⟨_, _, _, _, _, _, _, _, _, _, _, _, _, _, _, xeR, rveR⟩, saeR, eCeR, tCeR, kCeR⟩
  have oeM : OexC K eM := ⟨⟨_, _, _, _, _, _, _, _, _, _, _, _, _, _, _, xeM, rveM⟩, saeM, eCeM, tCeM, kCeM⟩
  have oeT : OexC K eT := ⟨⟨_, _, _, _, _, _, _, _, _, _, _, _, _, _, _, xeT, rveT⟩, saeT, eCeT, tCeT, kCeT⟩
  have Hc : HeardC K mg ⟨eR, eM, eT⟩ eX := ⟨gl aeX, gl aeR, ⟨gaeR, ggeR, eCeR, hdeR, haeR, rhn, rht, hmeR⟩, ⟨gaeR, ggeR, eCeR, hdeR⟩, PySem.W.exm_ref eCeX hdeX tCeX sbeR, nfeRpart, gl aeM, ⟨gaeM, ggeM, eCeM, hdeM, haeM, rhn, rht, hmeM⟩, ⟨gaeM, ggeM, eCeM, hdeM⟩, PySem.W.exm_ref eCeX hdeX tCeX sbeM, nfeMwhat, nfeMmost, gl aeT, ⟨gaeT, ggeT, eCeT, hdeT, haeT, rhn, rht, hmeT⟩, ⟨gaeT, ggeT, eCeT, hdeT⟩, PySem.W.exm_ref eCeX hdeX tCeX sbeT, nfeTline, nfeTitem, kMR, kTR, kTM⟩
  have F0 := fun_mk (st := sIsInteger) l0 c0 k0
  have b0 := F0.binds (ps := ["value"]) fun _ _ _ _ _ _ us hl => match us, hl with | [_], _ => rfl
  have F1 := fun_mk (st := sIsWithin) l1 c1 k1
  have b1 := F1.binds (ps := ["value", "least", "most"]) fun _ _ _ _ _ _ us hl => match us, hl with | [_, _, _], _ => rfl
  have F2 := fun_mk (st := sIsList) l2 c2 k2
  have b2 := F2.binds (ps := ["value"]) fun _ _ _ _ _ _ us hl => match us, hl with | [_], _ => rfl
  have F3 := fun_mk (st := sItemsOf) l3 c3 k3
  have b3 := F3.binds (ps := ["text"]) fun _ _ _ _ _ _ us hl => match us, hl with | [_], _ => rfl
  have F4 := fun_mk (st := sIntegerOf) l4 c4 k4
  have b4 := F4.binds (ps := ["item"]) fun _ _ _ _ _ _ us hl => match us, hl with | [_], _ => rfl
  have F5 := fun_mk (st := sItemAt) l5 c5 k5
  have b5 := F5.binds (ps := ["items", "at"]) fun _ _ _ _ _ _ us hl => match us, hl with | [_, _], _ => rfl
  have F6 := fun_mk (st := sNumberAt) l6 c6 k6
  have b6 := F6.binds (ps := ["items", "at", "least", "most"]) fun _ _ _ _ _ _ us hl => match us, hl with | [_, _, _, _], _ => rfl
  have F7 := fun_mk (st := sAreLengths) l7 c7 k7
  have b7 := F7.binds (ps := ["value"]) fun _ _ _ _ _ _ us hl => match us, hl with | [_], _ => rfl
  have F8 := fun_mk (st := sHasLevel) l8 c8 k8
  have b8 := F8.binds (ps := ["lengths"]) fun _ _ _ _ _ _ us hl => match us, hl with | [_], _ => rfl
  have F9 := fun_mk (st := sReadRing) l9 c9 k9
  have b9 := F9.binds (ps := ["items", "at"]) fun _ _ _ _ _ _ us hl => match us, hl with | [_, _], _ => rfl
  have F10 := fun_mk (st := sLwPen) l10 c10 k10
  have b10 := F10.binds (ps := ["_law_script"]) fun _ _ _ _ _ _ us hl => match us, hl with | [_], _ => rfl
  have F11 := fun_mk (st := sLwDraw) l11 c11 k11
  have b11 := F11.binds (ps := ["_law_pen_here", "_law_many"]) fun _ _ _ _ _ _ us hl => match us, hl with | [_, _], _ => rfl
  have F12 := fun_mk (st := sLwPick) l12 c12 k12
  have b12 := F12.binds (ps := ["_law_pen_here", "_law_some"]) fun _ _ _ _ _ _ us hl => match us, hl with | [_, _], _ => rfl
  have F13 := fun_mk (st := sLwLengths) l13 c13 k13
  have b13 := F13.binds (ps := ["_law_pen_here"]) fun _ _ _ _ _ _ us hl => match us, hl with | [_], _ => rfl
  have F14 := fun_mk (st := sLwLots) l14 c14 k14
  have b14 := F14.binds (ps := ["_law_many"]) fun _ _ _ _ _ _ us hl => match us, hl with | [_], _ => rfl
  have F15 := fun_mk (st := sLwSort) l15 c15 k15
  have b15 := F15.binds (ps := ["_law_lengths_here", "_law_lot"]) fun _ _ _ _ _ _ us hl => match us, hl with | [_, _], _ => rfl
  have F16 := fun_mk (st := sLwHeard) l16 c16 k16
  have b16 := F16.binds (ps := ["_law_ask"]) fun _ _ _ _ _ _ us hl => match us, hl with | [_], _ => rfl
  have F17 := fun_mk (st := sLwMadeRight) l17 c17 k17
  have b17 := F17.binds (ps := ["_law_pen_here", "_law_lengths_here"]) fun _ _ _ _ _ _ us hl => match us, hl with | [_, _], _ => rfl
  have F18 := fun_mk (st := sLwStop) l18 c18 k18
  have b18 := F18.binds (ps := ["_law_items"]) fun _ _ _ _ _ _ us hl => match us, hl with | [_], _ => rfl
  have F19 : FunC K "_law_text_right" "_law_text_right" sLwTextRight f19 _ cTX := ⟨⟨_, _, _, _, _, _, _, _, rfl, l19, c19⟩⟩
  have F190 := fun_mk (st := sLwTextRight) l19 c19 k19
  have b19 := F190.binds (ps := ["_law_pen_here", "_law_lengths_here"]) fun _ _ _ _ _ _ us hl => match us, hl with | [_, _], _ => rfl
  have F20 : FunC K "_law_refused_right" "_law_refused_right" sLwRefusedRight f20 _ cRF := ⟨⟨_, _, _, _, _, _, _, _, rfl, l20, c20⟩⟩
  have F200 := fun_mk (st := sLwRefusedRight) l20 c20 k20
  have b20 := F200.binds (ps := ["_law_pen_here", "_law_lengths_here"]) fun _ _ _ _ _ _ us hl => match us, hl with | [_, _], _ => rfl
  have F21 := fun_mk (st := sLaw) l21 c21 k21
  have b21 := F21.binds (ps := ["_law_script"]) fun _ _ _ _ _ _ us hl => match us, hl with | [_], _ => rfl
  have Fm0 := fun_mk (st := sRingInit) lm0 cm0 km0
  have bm0 := Fm0.binds (ps := ["self", "lengths"]) fun _ _ _ _ _ _ us hl => match us, hl with | [_, _], _ => rfl
  have Fm1 := fun_mk (st := sRingLen) lm1 cm1 km1
  have bm1 := Fm1.binds (ps := ["self"]) fun _ _ _ _ _ _ us hl => match us, hl with | [_], _ => rfl
  have Fm2 := fun_mk (st := sRingEq) lm2 cm2 km2
  have bm2 := Fm2.binds (ps := ["self", "other"]) fun _ _ _ _ _ _ us hl => match us, hl with | [_, _], _ => rfl
  have Fm3 := fun_mk (st := sRingStr) lm3 cm3 km3
  have bm3 := Fm3.binds (ps := ["self"]) fun _ _ _ _ _ _ us hl => match us, hl with | [_], _ => rfl
  have Fm4 := fun_mk (st := sBadRingInit) lm4 cm4 km4
  have bm4 := Fm4.binds (ps := ["self", "part"]) fun _ _ _ _ _ _ us hl => match us, hl with | [_, _], _ => rfl
  have Fm5 := fun_mk (st := sTooManyInit) lm5 cm5 km5
  have bm5 := Fm5.binds (ps := ["self", "what", "most"]) fun _ _ _ _ _ _ us hl => match us, hl with | [_, _, _], _ => rfl
  have Fm6 := fun_mk (st := sBadTextInit) lm6 cm6 km6
  have bm6 := Fm6.binds (ps := ["self", "line", "item"]) fun _ _ _ _ _ _ us hl => match us, hl with | [_, _, _], _ => rfl
  refine ⟨PySem.W.fnOf "law" "law" (defArgs sLaw) (defBody sLaw) (defScope sLaw) .none kV21 dc21 pm21 an21 cd21 ct21, [(cTX, P1), (cRF, P2)], spLaw K P1 P2, fun p hp => ?_, fun p hp => ?_, fun p hp => ?_, fun s v => .of_eq rfl, fun H a ns hl _ hT' hs => ?_, fun base KB GB TB => ?_⟩
  · rcases List.mem_cons.mp hp with e | e
    · rw [e]; exact hT1
    · rw [List.mem_singleton.mp e]; exact hT2
  · rcases List.mem_cons.mp hp with e | e
    · rw [e]; exact nT1
    · rw [List.mem_singleton.mp e]; exact nT2
  · rcases List.mem_cons.mp hp with e | e
    · rw [e]; exact PySem.W.codeHd_of_K X (code_hd lc1 hdc1)
    · rw [List.mem_singleton.mp e]; exact PySem.W.codeHd_of_K X (code_hd lc2 hdc2)
  · refine ⟨a, ns, rfl, hs, by omega, fun p hp => ?_, fun _ => rfl⟩
    rcases List.mem_cons.mp hp with e | e
    · rw [e]; exact TabS.nil (hT' _ (List.mem_cons_self ..))
    · rw [List.mem_singleton.mp e]; exact TabS.nil (hT' _ (List.mem_cons_of_mem _ (List.mem_singleton.mpr rfl)))
  · have tb1 := TB _ (List.mem_cons_self ..)
    have tb2 := TB _ (List.mem_cons_of_mem _ (List.mem_singleton.mpr rfl))
    have hm1 : (P1, qTx) ∈ T2 P1 P2 := List.mem_cons_self ..
    have hm2 : (P2, qRf) ∈ T2 P1 P2 := List.mem_cons_of_mem _ (List.mem_singleton.mpr rfl)
    have hu1 : ∀ p ∈ T2 P1 P2, p.1 = P1 → p.2 = qTx := fun p hp e => by
      rcases List.mem_cons.mp hp with z | z
      · rw [z]
      · rw [List.mem_singleton.mp z] at e
        exact absurd e.symm nP
    have hu2 : ∀ p ∈ T2 P1 P2, p.1 = P2 → p.2 = qRf := fun p hp e => by
      rcases List.mem_cons.mp hp with z | z
      · rw [z] at e
        exact absurd e nP
      · rw [List.mem_singleton.mp z]
    have dInt := (⟨ok_isInt F0 T, gl a0, k0, b0⟩ : DefAt l.prog w K mg base _ _ "is_integer" _ _ _ _)
    have dList := (⟨ok_isList F2 T, gl a2, k2, b2⟩ : DefAt l.prog w K mg base _ _ "is_list" _ _ _ _)
    have dWith := (⟨ok_withinG F1 dInt, gl a1, k1, b1⟩ : DefAt l.prog w K mg base _ _ "is_within" _ _ _ _)
    have eR' : ErrAt l.prog w K mg base "BadRing" "part" eR fm4 _ := ⟨oeR, am4, tim4, nfeRpart, gl aeR, bm4, ok_badRingI Fm4⟩
    have eM' : Err2At l.prog w K mg base "TooMany" "what" "most" eM fm5 _ := ⟨oeM, am5, tim5, nfeMwhat, nfeMmost, gl aeM, bm5, ok_tooManyI Fm5⟩
    have eT' : Err2At l.prog w K mg base "BadText" "line" "item" eT fm6 _ := ⟨oeT, am6, tim6, nfeTline, nfeTitem, gl aeT, bm6, ok_badTextI Fm6⟩
    have dAO := (⟨ok_areO F7 T N dWith dList, gl a7, k7, b7⟩ : DefAt l.prog w K mg base _ _ "are_lengths" _ _ _ _)
    have dAL := (⟨ok_areGL F7 T N dWith dList, gl a7, k7, b7⟩ : DefAt l.prog w K mg base _ _ "are_lengths" _ _ _ _)
    have dAT := (⟨ok_areGT F7 T N dWith dList, gl a7, k7, b7⟩ : DefAt l.prog w K mg base _ _ "are_lengths" _ _ _ _)
    have dHL := (⟨ok_hasL F8 T, gl a8, k8, b8⟩ : DefAt l.prog w K mg base _ _ "has_level" _ _ _ _)
    have riO := ok_riO (P := l.prog) (w := w) (base := base) Fm0 T N R dAO dHL eR' eM'
    have riL := ok_riL (P := l.prog) (w := w) (base := base) Fm0 T N R dAL dHL eR' eM'
    have riT := ok_riT (P := l.prog) (w := w) (base := base) Fm0 T N R dAT dHL eR' eM'
    have rx := ok_rx (c := ⟨eR, eM⟩) riL riT
    have Gp : TextP l.prog w K mg base C ⟨eR, eM⟩ fm0 _ := ⟨⟨rmk, am0, im0, rkc⟩, rx, bm0⟩
    have GA : RingA l.prog w K mg base C ⟨eR, eM⟩ fm0 _ := ⟨⟨rmk, am0, im0, rkc⟩, fn_or riO (fn_or riL riT), bm0⟩
    have dItems := (⟨ok_items F3 T Ts eT', gl a3, k3, b3⟩ : DefAt l.prog w K mg base _ _ "items_of" _ _ _ _)
    have dIn := (⟨ok_int F4 T ⟨_, gl g_MOST_DIGITS⟩, gl a4, k4, b4⟩ : DefAt l.prog w K mg base _ _ "integer_of" _ _ _ _)
    have dItAt := (⟨ok_itAt F5 T eT', gl a5, k5, b5⟩ : DefAt l.prog w K mg base _ _ "item_at" _ _ _ _)
    have dNumAt := (⟨ok_numAt F6 T dItAt dIn dWith eT', gl a6, k6, b6⟩ : DefAt l.prog w K mg base _ _ "number_at" _ _ _ _)
    have dRdR := (⟨ok_rdR F9 T N R Gp dNumAt eT', gl a9, k9, b9⟩ : DefAt l.prog w K mg base _ _ "read_ring" _ _ _ _)
    have FR := fun_mk (st := sRingRead) rlR rcR rkR
    have bR := FR.binds (ps := ["text"]) fun _ _ _ _ _ _ us hl => match us, hl with | [_], _ => rfl
    have RD : ReadAt l.prog w K mg base C eT (.type "type") pS fR _ := ⟨⟨rrd, rga⟩, ⟨rat, ⟨_, rrc⟩, rkR⟩, ok_read FR T dItems dRdR, bR⟩
    have KT : KBinds K _ ["text"] ["text"] gK1 gK1 := kb_text (fd := PySem.W.fnOf "read" "Ring.read" (defArgs sRingRead) (defBody sRingRead) (defScope sRingRead) .none kVR dcR pmR anR cdR ctR) (fun b s => .of_eq rfl)
    have KL : KBn K _ ["self", "lengths"] 1 ["lengths"] gK2 gK2 := kbn_two (fd := PySem.W.fnOf "__init__" "Ring.__init__" (defArgs sRingInit) (defBody sRingInit) (defScope sRingInit) .none kVm0 dcm0 pmm0 anm0 cdm0 ctm0) (fun a b s => .of_eq rfl)
    have NL : LenAt l.prog w K mg base C fm1 _ := ⟨ok_rlen Fm1 T R, bm1, am1, im1⟩
    have EQ : EqAt' l.prog w K mg base C fm2 _ := ⟨ok_req Fm2 T R, bm2, am2, im2, rne, rho, rsS, rsT, kSR, kUR⟩
    have SR : StrAt l.prog w K mg base C fm3 _ := ⟨ok_strR Fm3 Ts R, bm3, am3, im3⟩
    have dDr : DrawAt l.prog w K mg base _ _ := ⟨ok_draw F11 T, gl a11, k11, b11⟩
    have dPn := (⟨ok_pen F10 T, gl a10, k10, b10⟩ : DefAt l.prog w K mg base _ _ "_law_pen" _ _ _ _)
    have dPk := (⟨ok_pick F12 T dDr, gl a12, k12, b12⟩ : DefAt l.prog w K mg base _ _ "_law_pick" _ _ _ _)
    have dLn := (⟨ok_lengths F13 T dDr, gl a13, k13, b13⟩ : DefAt l.prog w K mg base _ _ "_law_lengths" _ _ _ _)
    have dLo := (⟨ok_lots F14 T, gl a14, k14, b14⟩ : DefAt l.prog w K mg base _ _ "_law_lots" _ _ _ _)
    have dSo := (⟨ok_sort F15 T, gl a15, k15, b15⟩ : DefAt l.prog w K mg base _ _ "_law_sort" _ _ _ _)
    have dMR := (⟨ok_mr F17 T Ts R dDr Gp KL SR RD KT EQ NL dSo dLo, gl a17, k17, b17⟩ : DefAt l.prog w K mg base _ _ "_law_made_right" _ _ _ _)
    have dSt := (⟨ok_stop F18 T, gl a18, k18, b18⟩ : DefAt l.prog w K mg base _ _ "_law_stop" _ _ _ _)
    have dTX := (⟨ok_tx (hc := ⟨eR, eM, eT⟩) F19 T Ts R dDr dPk dSt SR RD Hc tb1 hm1 hu1 F16 b16 (gl a16), gl a19, k19, b19⟩ : DefAt l.prog w K mg base _ _ "_law_text_right" _ _ _ _)
    have dRF := (⟨ok_rf (hc := ⟨eR, eM, eT⟩) F20 T R dDr dPk Gp GA RD kRS Hc tb2 hm2 hu2 F16 b16 (gl a16), gl a20, k20, b20⟩ : DefAt l.prog w K mg base _ _ "_law_refused_right" _ _ _ _)
    exact ok_law F21 T dPn dLn dMR dTX dRF
end K
open PySem PySem.W PyProof.Rows in
set_option maxRecDepth 100000 in
set_option maxHeartbeats 0 in
theorem PySem.Challenge.cw_ringbars_k04_rings_made_read_refused_holds : PySem.Challenge.rw_ringbars_k04_rings_made_read_refused.Holds := by
  w_on; o_law; k_head; (case hw => w_witness2)
  k_fill
  refine LamX.walk_ofTs (l := PySem.Challenge.rw_ringbars_k04_rings_made_read_refused) (n := 63) (k := 11) (x := "_law_script") (CX := fun _ => L2.CX0) rfl (by decide) rfl ⟨rfl, by decide, by decide⟩ (fun w h Y => PySem.W.km_in_of Y) ?F (fun _ _ _ _ _ z => z)
  case F =>
    intro w mg fa h Y KX G hmg
    refine' K.all_mk KX G hmg ?aC ?aeX ?aeR ?aeM ?aeT ?a0 ?l0 ?c0 ?k0 ?a1 ?l1 ?c1 ?k1 ?a2 ?l2 ?c2 ?k2 ?a3 ?l3 ?c3 ?k3 ?a4 ?l4 ?c4 ?k4 ?a5 ?l5 ?c5 ?k5 ?a6 ?l6 ?c6 ?k6 ?a7 ?l7 ?c7 ?k7 ?a8 ?l8 ?c8 ?k8 ?a9 ?l9 ?c9 ?k9 ?a10 ?l10 ?c10 ?k10 ?a11 ?l11 ?c11 ?k11 ?a12 ?l12 ?c12 ?k12 ?a13 ?l13 ?c13 ?k13 ?a14 ?l14 ?c14 ?k14 ?a15 ?l15 ?c15 ?k15 ?a16 ?l16 ?c16 ?k16 ?a17 ?l17 ?c17 ?k17 ?a18 ?l18 ?c18 ?k18 ?a19 ?l19 ?c19 ?k19 ?a20 ?l20 ?c20 ?k20 ?a21 ?l21 ?c21 ?k21 ?am0 ?im0 ?lm0 ?cm0 ?km0 ?am1 ?im1 ?lm1 ?cm1 ?km1 ?am2 ?im2 ?lm2 ?cm2 ?km2 ?am3 ?im3 ?lm3 ?cm3 ?km3 ?am4 ?im4 ?lm4 ?cm4 ?km4 ?tim4 ?am5 ?im5 ?lm5 ?cm5 ?km5 ?tim5 ?am6 ?im6 ?lm6 ?cm6 ?km6 ?tim6 ?rpg ?rhd ?rpo ?rsa ?rmk ?rkc ?rn1 ?rn2 ?rn3 ?rn4 ?rne ?rho ?rha ?rhn ?rht ?rhm ?rga ?rrd ?rat ?rrc ?rlR ?rcR ?rkR ?rsS ?rsT ?kRS ?kSR ?kUR ?z_int ?z_len ?z_abs ?z_list ?z_tuple ?z_bool ?z_range ?z_sum ?z_max ?z_all ?z_any ?z_sorted ?z_enumerate ?z_isinstance ?z_str ?g_MOST_LENGTH ?g_LEAST_BARS ?g_MOST_BARS ?g_MOST_DIGITS ?xeR ?rveR ?saeR ?gaeR ?ggeR ?eCeR ?tCeR ?kCeR ?hdeR ?haeR ?hmeR ?nfeRpart ?sbeR ?xeM ?rveM ?saeM ?gaeM ?ggeM ?eCeM ?tCeM ?kCeM ?hdeM ?haeM ?hmeM ?nfeMwhat ?nfeMmost ?sbeM ?xeT ?rveT ?saeT ?gaeT ?ggeT ?eCeT ?tCeT ?kCeT ?hdeT ?haeT ?hmeT ?nfeTline ?nfeTitem ?sbeT ?eCeX ?hdeX ?tCeX ?kMR ?kTR ?kTM ?lc1 ?hdc1 ?nT1 ?hT1 ?lc2 ?hdc2 ?nT2 ?hT2 ?nP
    (case hT1 => exact PySem.W.km_tabs_of Y _ (List.mem_cons_of_mem _ (List.mem_cons_self ..)))
    (case hT2 => exact PySem.W.km_tabs_of Y _ (List.mem_cons_self ..))
    (case aC => k_is)
    (case aeX => k_is)
    (case aeR => k_is)
    (case aeM => k_is)
    (case aeT => k_is)
    (case a0 => k_is)
    (case l0 => k_is)
    (case c0 => k_is)
    (case k0 => k_is)
    (case a1 => k_is)
    (case l1 => k_is)
    (case c1 => k_is)
    (case k1 => k_is)
    (case a2 => k_is)
    (case l2 => k_is)
    (case c2 => k_is)
    (case k2 => k_is)
    (case a3 => k_is)
    (case l3 => k_is)
    (case c3 => k_is)
    (case k3 => k_is)
    (case a4 => k_is)
    (case l4 => k_is)
    (case c4 => k_is)
    (case k4 => k_is)
    (case a5 => k_is)
    (case l5 => k_is)
    (case c5 => k_is)
    (case k5 => k_is)
    (case a6 => k_is)
    (case l6 => k_is)
    (case c6 => k_is)
    (case k6 => k_is)
    (case a7 => k_is)
    (case l7 => k_is)
    (case c7 => k_is)
    (case k7 => k_is)
    (case a8 => k_is)
    (case l8 => k_is)
    (case c8 => k_is)
    (case k8 => k_is)
    (case a9 => k_is)
    (case l9 => k_is)
    (case c9 => k_is)
    (case k9 => k_is)
    (case a10 => k_is)
    (case l10 => k_is)
    (case c10 => k_is)
    (case k10 => k_is)
    (case a11 => k_is)
    (case l11 => k_is)
    (case c11 => k_is)
    (case k11 => k_is)
    (case a12 => k_is)
    (case l12 => k_is)
    (case c12 => k_is)
    (case k12 => k_is)
    (case a13 => k_is)
    (case l13 => k_is)
    (case c13 => k_is)
    (case k13 => k_is)
    (case a14 => k_is)
    (case l14 => k_is)
    (case c14 => k_is)
    (case k14 => k_is)
    (case a15 => k_is)
    (case l15 => k_is)
    (case c15 => k_is)
    (case k15 => k_is)
    (case a16 => k_is)
    (case l16 => k_is)
    (case c16 => k_is)
    (case k16 => k_is)
    (case a17 => k_is)
    (case l17 => k_is)
    (case c17 => k_is)
    (case k17 => k_is)
    (case a18 => k_is)
    (case l18 => k_is)
    (case c18 => k_is)
    (case k18 => k_is)
    (case a19 => k_is)
    (case l19 => k_is)
    (case c19 => k_is)
    (case k19 => k_is)
    (case a20 => k_is)
    (case l20 => k_is)
    (case c20 => k_is)
    (case k20 => k_is)
    (case a21 => k_is)
    (case l21 => k_is)
    (case c21 => k_is)
    (case k21 => k_is)
    (case am0 => k_is)
    (case im0 => k_is)
    (case lm0 => k_is)
    (case cm0 => k_is)
    (case km0 => k_is)
    (case am1 => k_is)
    (case im1 => k_is)
    (case lm1 => k_is)
    (case cm1 => k_is)
    (case km1 => k_is)
    (case am2 => k_is)
    (case im2 => k_is)
    (case lm2 => k_is)
    (case cm2 => k_is)
    (case km2 => k_is)
    (case am3 => k_is)
    (case im3 => k_is)
    (case lm3 => k_is)
    (case cm3 => k_is)
    (case km3 => k_is)
    (case am4 => k_is)
    (case im4 => k_is)
    (case lm4 => k_is)
    (case cm4 => k_is)
    (case km4 => k_is)
    (case tim4 => k_is)
    (case am5 => k_is)
    (case im5 => k_is)
    (case lm5 => k_is)
    (case cm5 => k_is)
    (case km5 => k_is)
    (case tim5 => k_is)
    (case am6 => k_is)
    (case im6 => k_is)
    (case lm6 => k_is)
    (case cm6 => k_is)
    (case km6 => k_is)
    (case tim6 => k_is)
    (case rpg => k_is)
    (case rhd => k_is)
    (case rpo => k_is)
    (case rsa => k_is)
    (case rmk => k_is)
    (case rkc => k_is)
    (case rn1 => k_is)
    (case rn2 => k_is)
    (case rn3 => k_is)
    (case rn4 => k_is)
    (case rne => k_is)
    (case rho => k_is)
    (case rha => k_is)
    (case rhn => k_is)
    (case rht => k_is)
    (case rhm => k_is)
    (case rga => k_is)
    (case rrd => k_is)
    (case rat => k_is)
    (case rrc => k_is)
    (case rlR => k_is)
    (case rcR => k_is)
    (case rkR => k_is)
    (case rsS => k_is)
    (case rsT => k_is)
    (case kRS => kit_is)
    (case kSR => kit_is)
    (case kUR => kit_is)
    (case z_int => k_is)
    (case z_len => k_is)
    (case z_abs => k_is)
    (case z_list => k_is)
    (case z_tuple => k_is)
    (case z_bool => k_is)
    (case z_range => k_is)
    (case z_sum => k_is)
    (case z_max => k_is)
    (case z_all => k_is)
    (case z_any => k_is)
    (case z_sorted => k_is)
    (case z_enumerate => k_is)
    (case z_isinstance => k_is)
    (case z_str => k_is)
    (case g_MOST_LENGTH => k_is)
    (case g_LEAST_BARS => k_is)
    (case g_MOST_BARS => k_is)
    (case g_MOST_DIGITS => k_is)
    (case xeR => k_is)
    (case rveR => first | (with_reducible rfl) | decide +kernel | k_is)
    (case saeR => k_is)
    (case gaeR => k_is)
    (case ggeR => k_is)
    (case eCeR => k_is)
    (case tCeR => k_is)
    (case kCeR => k_is)
    (case hdeR => k_is)
    (case haeR => k_is)
    (case hmeR => k_is)
    (case nfeRpart => k_is)
    (case sbeR => k_is)
    (case xeM => k_is)
    (case rveM => first | (with_reducible rfl) | decide +kernel | k_is)
    (case saeM => k_is)
    (case gaeM => k_is)
    (case ggeM => k_is)
    (case eCeM => k_is)
    (case tCeM => k_is)
    (case kCeM => k_is)
    (case hdeM => k_is)
    (case haeM => k_is)
    (case hmeM => k_is)
    (case nfeMwhat => k_is)
    (case nfeMmost => k_is)
    (case sbeM => k_is)
    (case xeT => k_is)
    (case rveT => first | (with_reducible rfl) | decide +kernel | k_is)
    (case saeT => k_is)
    (case gaeT => k_is)
    (case ggeT => k_is)
    (case eCeT => k_is)
    (case tCeT => k_is)
    (case kCeT => k_is)
    (case hdeT => k_is)
    (case haeT => k_is)
    (case hmeT => k_is)
    (case nfeTline => k_is)
    (case nfeTitem => k_is)
    (case sbeT => k_is)
    (case eCeX => k_is)
    (case hdeX => k_is)
    (case tCeX => k_is)
    (case kMR => kit_is)
    (case kTR => kit_is)
    (case kTM => kit_is)
    (case lc1 => k_is)
    (case hdc1 => first | rfl | decide +kernel | with_unfolding_all rfl)
    (case nT1 => exact K.out_of Y (by decide +kernel))
    (case lc2 => k_is)
    (case hdc2 => first | rfl | decide +kernel | with_unfolding_all rfl)
    (case nT2 => exact K.out_of Y (by decide +kernel))
    (case nP => decide)
