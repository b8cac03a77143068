import PyProof.Rows.All
import Wide.All
import OpenK.AllK
import Wide.FinOn
import HandS.ForMost
import HandS.IsInst
import HandS.Strs
import HandS.ExcInit
import HandS.ExcField
import HandS.ExcIs
import HandS.TryOnly
import HandS.Lambda
import HandS.EndTab
import HandS.Flow
import HandS.SortInts
import HandS.SortRule
import HandS.SortKw
import KE.KTupSum
import HandS.NamedTupSort
import PyProof.P3Eq
import HandS.ReCall
import HandS.OwnEq
import HandS.TupAny
import HandS.Deep
import PyProof.InstNe
import KE.SortKeyHeap
import HandS.Walk
import KE.GoesEnum
import HandS.Evl
import HandS.WordsExc
import KE.KExcIs
import HandS.DictComp
import KE.GoesZip
import KE.KDictZip
import HandS.Zip
import PyProof.P3In
import HandS.Conv
import HandS.Style
import HandS.Codes
import HandS.Star
import KE.KTypeName
import KE.KSuper
import HandS.ClsMeth
import HandS.Nested
import HandS.Records
import HandS.Words
import KE.SortData
import HandS.SetFor
import PyProof.Rows.SetFrom
import HandS.Flt
import PyProof.Rows.Range3
import PyProof.Conv_bool
import KE.KCallOwn
import HandS.Text
import PyProof.Rows.StrDigits
import PyProof.StrLaws
import KE.KNestM
import PySem.Challenge.RW_ringbars_k50_whole_lineups_by_nets
set_option Elab.async false
set_option linter.all false
set_option maxRecDepth 100000
set_option maxHeartbeats 4000000
/-! ## rules of our own, for what the rings' program says and the layer has no rule for -/
namespace Rg
open PySem PySem.Spec PyProof.Rows L2

/-! ### f(k = v, ..), oj.m(k = v, ..) -/
section
variable {X : Cx} {CX : CXT} {k : Nat} {f C : Addr} {fd : FuncData} {ps ks : List Str} {sp : Sp} {E : XK} {x m : Str} {p pos apos : Pos} {oj : Expr} {kws : List Keyword} {ta : TE} {tkn : TA}
variable {g : List Value → List Value → List Value} {gV : List V → List V → List V}
theorem pe_callK0 (F : FnOk X.prog X.w X.K X.mg X.base CX k f fd ps sp) (hr : Room k X.A) (hg : Gl X x) (hmm : X.mg x = some (.ref f)) (hk : PySem.W.keepIn X.K (.ref f) = true) (hb : KBinds X.K fd ps ks g gV) (hx : Passes CX X E)
    (hkw : PK X kws tkn) (hall : (backToKw pos (keywordEach kws X.env)).all (·.1.isSome) = true := by rfl) (hks : (backToKw pos (keywordEach kws X.env)).filterMap (·.1) = ks := by rfl)
    (hdb : (x == ("__debug__" : Str)) = false := by decide)
    (hpl : ((backTo pos (starEach [] X.env)).any (·.1) || (backToKw pos (keywordEach kws X.env)).any (·.1.isNone)) = false := by rfl) :
    PE X (.Call (.Name x p) [] kws pos) (tCallK sp gV E tNil tkn) := by
  refine ⟨fun pns s σs Hh Qq Iv h => ?_⟩
  refine wpAny_Call_Name_kw (ld_glob Iv hg hmm ?_ hdb)
  refine PySem.W.callWith_KW0 (h₀ := X.base) Iv.ok.mod.kin hk hall ?_ hpl
  refine thn (hkw.run pos pns s σs Hh _ Iv h) fun kvs2 sh2 ⟨zvs, H2, I2, rlz, q2⟩ => ⟨I2.kIn, ?_⟩
  rw [hks]
  exact run_fnk (us := []) (vs := []) F hr hb hx I2 .nil rlz q2
/-- oj.m(k = v, ..) -/
def tMethK (C : Addr) (m : Str) (sp : Sp) (gV : List V → List V → List V) (E : XK) (ta : TE) (tkn : TA) : TE := fun σs Hh Qq => ta σs Hh fun x H1 => ∃ a dx fs, x = .ref a ∧ H1 a = some (.ins C dx fs) ∧ fs.lookup m = none ∧
  tkn σs H1 fun zvs H2 => sp (gV [.ref a] zvs) H2 Qq E
theorem pe_methK0 {pl : Sem Bool} (he : PE X oj ta) (c : Cls X.K C) (hmm : Meth X.K C m f) (F : FnOk X.prog X.w X.K X.mg X.base CX k f fd ps sp) (hr : Room k X.A) (hb : KBinds X.K fd ps ks g gV) (hx : Passes CX X E)
    (hkw : PK X kws tkn) (hall : (backToKw pos (keywordEach kws X.env)).all (·.1.isSome) = true := by rfl) (hks : (backToKw pos (keywordEach kws X.env)).filterMap (·.1) = ks := by rfl)
    (hpl : ((backTo pos (starEach [] X.env)).any (·.1) || (backToKw pos (keywordEach kws X.env)).any (·.1.isNone)) = false := by rfl)
    (ht : eval (.Call (.Attribute oj m apos) [] kws pos) X.env = (do
      let ov ← eval oj X.env
      standAt apos.atName
      let (f, first) ← holding [ov] (getMethod ov m pl)
      callWith pos f first (backTo pos (starEach [] X.env)) (backToKw pos (keywordEach kws X.env))) := by rfl) :
    PE X (.Call (.Attribute oj m apos) [] kws pos) (tMethK C m sp gV E ta tkn) := by
  refine ⟨fun pns s σs Hh Qq Iv h => ?_⟩
  refine PySem.W.methodCall_KW (pl := pl) (thn (he.run pns s σs Hh _ Iv h) fun u sh1 ⟨x, H1, I1, rlx, a, dx, fs, ex, eqa, l, qq⟩ => ?_) ht
  subst ex
  obtain rfl : u = Value.ref a := rlx
  refine getmeth_ok I1 eqa c hmm l ?_
  refine PySem.W.callWith_KW0 (first := [.ref a]) (h₀ := X.base) Iv.ok.mod.kin hmm.kp hall ?_ hpl
  refine thn (hkw.run pos pns sh1 σs H1 _ I1 qq) fun kvs2 sh2 ⟨zvs, H2, I2, rlz, q2⟩ => ⟨I2.kIn, ?_⟩
  rw [hks]
  exact run_fnk (us := [.ref a]) (vs := [.ref a]) F hr hb hx I2 (.cons rfl .nil) rlz q2
end

/-! ### len(oj), the instance's own __len__ -/
section
variable {X : Cx} {k : Nat} {f : Addr} {fd : FuncData} {sp : Sp}
def rLenO (K : PySem.W.Frag) (f : Addr) (sp : Sp) : List V → Hp → VK → Prop := fun vxs Hh Qq => ∃ a C dx fs, vxs = [.ref a] ∧ Hh a = some (.ins C dx fs) ∧ PySem.W.findIn K (.ref C) "__len__" = some (some (.ref f)) ∧ PySem.W.isFn K (.ref f) = true ∧
  sp [.ref a] Hh (fun v H' => ∃ n : Int, v = .int n ∧ 0 ≤ n ∧ n < 2 ^ 63 ∧ Qq (.int n) H') E0
theorem call_lenO (F : FnOk X.prog X.w X.K X.mg X.base CX0 k f fd ["self"] sp) (hr : Room (k + 1) X.A) (hb : Binds X.K fd ["self"] []) : CallR X (.builtin "len") (rLenO X.K f sp) := by
  intro pns s σs Hh vxs uvs Qq Iv r h
  obtain ⟨a, C, dx, fs, rfl, eqa, hs, hf, qq⟩ := h
  obtain ⟨u, rfl, rlu⟩ := vals1 r
  obtain rfl : u = Value.ref a := rlu
  obtain ⟨mA, O, _, _, _, _⟩ := ins_get Iv.hok eqa
  obtain ⟨m, fr⟩ := Iv.fr
  obtain ⟨od, hod⟩ : ∃ od, s.heap.get? dx = some od := let ⟨oj, _, _, e', _⟩ := O.ns; ⟨oj, e'⟩
  refine PySem.W.len_K fr Iv.ok.mod.kin (ox := PySem.W.instObj C dx) (C := C) (od := some od) ⟨O.obj, rfl, rfl, hod⟩ hs hf ?_
  have hlst : ([Value.ref a] ++ []).length = (["self"] : List Str).length := rfl
  refine wpAny_call (codeAny_mono (F.run X.A.in1 X.stack s Hh ⟨[.ref a], []⟩ [.ref a] [.ref a] _ E0 hr.in1 Iv.env0.in1 (hb s [.ref a] Iv.kIn hlst) (.cons rfl .nil) qq) fun r s' hsq => ?_)
  cases r with
  | error e => exact hsq.elim
  | ok fl =>
    cases fl with
    | ret u =>
      obtain ⟨v, H', I3, rlv, n, ev, h0, hh1, q3⟩ := Iv.after hsq
      subst ev
      obtain ⟨t, rfl⟩ := rlv
      exact ⟨⟨h0, hh1⟩, ⟨.int n, H', I3.tok _, ⟨_, rfl⟩, q3⟩⟩
    | next => exact False.elim hsq
    | brk => exact False.elim hsq
    | cont => exact False.elim hsq
end

/-! ### sum, max of a tuple of ints; vls index -/
section
variable {prog : Program} {w : World} {A : Around} {E : Value → Shared → Prop} {s : Shared} {l : Addr} {vls : List Value} {nms : List Int} {Qq : Value → Shared → Prop}
theorem isTuple_of {h : Heap} (x : IsTup h l vls.toArray) : h.IsTuple l vls.toArray := x
theorem sumT_raw (hcal : A.handled = none) (hlst : s.heap.IsTuple l vls.toArray) (hint : IntsAre vls nms)
    (h : ∀ h' tkn t', (∀ b oj, s.heap.get? b = some oj → h'.get? b = some oj) → Qq (.int nms.sum t') { s with heap := h', toks := tkn }) : wpAny (model prog w) A (call (.builtin "sum") [.ref l]) Qq E s := by
  obtain ⟨vxs, e⟩ := hint.allInts.items
  have hnn : numsOf (intItems vxs).toList = nms := by rw [← e]; exact hint.numsOf
  rw [nums_intItems] at hnn
  rw [e] at hlst
  refine PySem.W.ktm_sumG hcal hlst fun h' tkn t' hk => ?_
  have := h h' tkn t' hk
  rw [preSum_eq, List.take_of_length_le (by simp), hnn]; exact this
end
section
variable {X : Cx}
def rSumT (K : PySem.W.Frag) : List V → Hp → VK → Prop := fun vs Hh Qq => ∃ (a : Addr) (nms : List Int), vs = [V.ref a] ∧ SqT K Hh a (nms.map V.int) ∧ Qq (.int nms.sum) Hh
theorem cr_sumT (hc : X.calm = true) : CallR X (.builtin "sum") (rSumT X.K) := by
  intro pns s σs Hh vs uvs Qq Iv r h
  obtain ⟨a, nms, rfl, hs, qq⟩ := h
  obtain ⟨vls, rlv, hlst, _⟩ := Iv.tuple hs
  rw [Vals.ref1 r]
  exact sumT_raw (Iv.ok.hd hc) (isTuple_of hlst) rlv.ints fun h' tkn t' hk => ⟨.int _, Hh, Iv.kept hk, ⟨_, rfl⟩, qq⟩
end
end Rg
namespace Rg
open PySem PySem.Spec PyProof.Rows L2
/-! ### max of a tuple of ints, vls index, isinstance of a caught error with fields -/
section
variable {prog : Program} {w : World} {A : Around} {E : Value → Shared → Prop} {s : Shared} {l : Addr} {vls : List Value} {nms : List Int} {Qq : Value → Shared → Prop}
theorem max_intTup {vxs : Array (Int × Tok)} (hcal : A.handled = none) (ht : s.heap.IsTuple l (intItems vxs)) (hpos : 0 < vxs.size)
    (h : ∀ v h' tkn, (intItems vxs)[argBest (fun i j => decide (numAt vxs i > numAt vxs j)) (vxs.size - 1)]? = some v → (∀ b oj, s.heap.get? b = some oj → h'.get? b = some oj) → Qq v { s with heap := h', toks := tkn }) :
    wpAny (model prog w) A (call (.builtin "max") [.ref l]) Qq E s := by
  obtain ⟨oj, hob, hc, n, hd⟩ := id ht
  have hI : l ≠ s.heap.objs.size := Nat.ne_of_lt (Heap.lt_size hob)
  refine call_max_walk (wpAny_pyIter_tuple ht ?_)
  refine ⟨s.heap.objs.size, _, _, _, _, _, _, rfl, Walks.tuple (A := A.in1) hcal _ l hI (intItems vxs), ⟨⟨_, Heap.get?_push_size _ rfl, rfl, rfl⟩, ht.at fun oj e => Heap.get?_push_of_some _ e⟩, fun b hb => ?_, by simpa [intItems] using hpos, CmpOf.ints_gt (numAt vxs) (fun _ _ => intItems_at), fun v h' tkn hP hk => ?_⟩
  · rcases List.mem_cons.mp hb with rfl | hb
    · exact Heap.lt_size (Heap.get?_push_size _ rfl)
    · obtain rfl := List.mem_singleton.mp hb
      exact Heap.lt_size (Heap.get?_push_of_some _ hob)
  · refine h v h' tkn (by simpa [intItems] using hP) fun b oj e => ?_
    exact hk b oj (fun hb => absurd (Heap.lt_size e) ((List.mem_singleton.mp hb) ▸ Nat.lt_irrefl _)) (Heap.get?_push_of_some _ e)
theorem maxT_raw (hcal : A.handled = none) (hlst : s.heap.IsTuple l vls.toArray) (hint : IntsAre vls nms) (hpos : 0 < nms.length)
    (h : ∀ h' tkn M t', (∀ b oj, s.heap.get? b = some oj → h'.get? b = some oj) → M ∈ nms → (∀ a, a ∈ nms → a ≤ M) → Qq (.int M t') { s with heap := h', toks := tkn }) : wpAny (model prog w) A (call (.builtin "max") [.ref l]) Qq E s := by
  obtain ⟨vxs, e⟩ := hint.allInts.items
  have hnn : numsOf (intItems vxs).toList = nms := by rw [← e]; exact hint.numsOf
  rw [nums_intItems] at hnn
  subst hnn
  rw [e] at hlst
  have hsz : 0 < vxs.size := by simpa using hpos
  refine max_intTup hcal hlst hsz fun v h' tkn hval hk => ?_
  obtain ⟨t, rfl⟩ := intItems_at hval
  obtain ⟨hh1, hh2⟩ := argBest_gt (numAt vxs) (vxs.size - 1)
  refine h h' tkn _ t hk ?_ fun a ha => ?_
  · rw [numAt_eq]; exact PySem.getD_mem (by rw [List.length_map, Array.length_toList]; omega)
  · obtain ⟨j, hjj, rfl⟩ := mem_getD ha
    rw [List.length_map, Array.length_toList] at hjj
    rw [← numAt_eq]; exact hh2 j (by omega)
end
section
variable {X : Cx}
def rMaxT (K : PySem.W.Frag) : List V → Hp → VK → Prop := fun vs Hh Qq => ∃ (a : Addr) (nms : List Int), vs = [V.ref a] ∧ SqT K Hh a (nms.map V.int) ∧ 0 < nms.length ∧ ∀ m, m ∈ nms → (∀ y, y ∈ nms → y ≤ m) → Qq (.int m) Hh
theorem cr_maxT (hc : X.calm = true) : CallR X (.builtin "max") (rMaxT X.K) := by
  intro pns s σs Hh vs uvs Qq Iv r h
  obtain ⟨a, nms, rfl, hs, hpos, qq⟩ := h
  obtain ⟨vls, rlv, hlst, _⟩ := Iv.tuple hs
  rw [Vals.ref1 r]
  exact maxT_raw (Iv.ok.hd hc) (isTuple_of hlst) rlv.ints hpos fun h' tkn m t' hk hh1 hh2 => ⟨.int _, Hh, Iv.kept hk, ⟨_, rfl⟩, qq m hh1 hh2⟩
theorem flat_ints (yms : List Int) : (yms.map V.int).all flatV = true := by
  rw [List.all_map]
  exact List.all_eq_true.mpr fun _ _ => rfl
def rTIdx (K : PySem.W.Frag) : V → List V → Hp → VK → Prop := fun x vxs Hh Qq => ∃ (p : Addr) (yms : List Int) (z : Int) (j : Nat), x = .ref p ∧ vxs = [.int z] ∧ SqT K Hh p (yms.map V.int) ∧ yms[j]? = some z ∧ (∀ m, m < j → yms[m]? ≠ some z) ∧ Qq (.int (j : Nat)) Hh
theorem mt_tupIdx : MtR X "tuple.index" (rTIdx X.K) := by
  intro pns s σs Hh x vxs v uvs Qq Iv rlx rs h
  obtain ⟨p, yms, z, j, rfl, rfl, hsq, hatj, hnot, qq⟩ := h
  cases rlx
  obtain ⟨u, rfl, t, rfl⟩ := vals1 rs
  obtain ⟨vls, r, pl, hszz⟩ := Iv.tuple hsq
  obtain ⟨⟨cls, dct, dta, slt⟩, hob, hc, n, hd⟩ := pl
  simp only at hc hd
  subst hc
  subst hd
  have hlst : vls.toArray.size = yms.length := by rw [List.size_toArray, ← r.length, List.length_map]
  have hjj : j < vls.toArray.size := by rw [hlst]; exact (List.getElem?_eq_some_iff.mp hatj).1
  have at' : ∀ (m : Nat) (hmm : m < vls.toArray.size), ∃ y t', yms[m]? = some y ∧ vls.toArray[m] = Value.int y t' := fun m hmm => by
    have hm' : m < yms.length := by rw [← hlst]; exact hmm
    obtain ⟨w, hwv, t', hw'⟩ := r.get (i := m) (x := .int yms[m]) (by simp [hm'])
    refine ⟨yms[m], t', List.getElem?_eq_getElem hm', ?_⟩
    have e := (List.getElem?_eq_some_iff.mp hwv).2
    rw [← hw', ← e]
    simp
  refine call_meets PySem.F.slot_tuple_index ⟨_, hob, rfl⟩ PySem.F.entry_tuple_index (PySem.F.args_tuple_index_2 _ _) (TI.tuple_indexAt p vls.toArray n dct slt (.int z t) (eqU (.int z)) j hjj ?_ ?_)
    ⟨hob, fun w hwv => mem_eqAt (x := .int z) ⟨t, rfl⟩ rfl r (flat_ints yms) w (by simpa using hwv), ⟨.int (j : Nat), Hh, Iv.tok _, ⟨_, rfl⟩, qq⟩⟩
  · obtain ⟨y, t', hh1, hh2⟩ := at' j hjj
    rw [hatj] at hh1
    cases hh1
    rw [hh2]
    simp [eqU, eqV]
  · intro m hmm hlt
    obtain ⟨y, t', hh1, hh2⟩ := at' m hmm
    rw [hh2]
    have : y ≠ z := fun e => hnot m hlt (by rw [hh1, e])
    simp [eqU, eqV, this]
end
/-! isinstance(e, c), e the exception that the suite holds, with vls dict -/
def rIsED (K : PySem.W.Frag) (D a : Addr) : List V → Hp → VK → Prop := fun vxs Hh Qq => ∃ (c : V) (cv : Value) (b : Bool), vxs = [.ref a, c] ∧ (∀ u, RelV c u → u = cv) ∧ PySem.W.kitOne K (.ref D) cv = some b ∧ Qq (.bl b) Hh
end Rg
namespace Rg
open PySem PySem.Spec PyProof.Rows L2 SrtO
/-! ### sorted(t), t a tuple -/
section
variable {prog : Program} {w : World} {A : Around} {E : Value → Shared → Prop} {s : Shared} {l : Addr} {vs : List Value}
/-- the heap behind the collecting -/
abbrev colHeap (h : Heap) (vs : List Value) : Heap := (h.push (seqObj "list" #[] 0)).update h.objs.size (Obj.mapSeq (· ++ vs.toArray))
theorem col_tup {Qq : List Value → Shared → Prop} (hlst : s.heap.IsTuple l vs.toArray) (hszz : vs.length ≤ sizeLine) (h : Qq vs { s with heap := colHeap s.heap vs }) : wpAny (model prog w) A (collect (.ref l)) Qq E s := by
  obtain ⟨oj, hob, hc, n, hd⟩ := hlst
  have hnew : (s.heap.push (seqObj "list" #[] 0)).get? s.heap.objs.size = some (seqObj "list" #[] 0) := Heap.get?_push_size _ rfl
  have hold : (s.heap.push (seqObj "list" #[] 0)).get? l = some oj := Heap.get?_push_of_some _ hob
  have tt : (Value.type "tuple" == Value.type "tuple") = true := by rfl
  unfold collect
  refine wpAny_bind (wpAny_runValue (codeAny_builtin entry_proto_collect' ?_))
  show wpAny _ _ (do again (.builtin "list.__iadd__" ⟨[← newList [], .ref l], []⟩)) _ _ s
  refine wpAny_bind (wpAny_newList (wpAny_pure ⟨Code.quiet_builtin _ (by decide +kernel), codeAny_builtin entry_list_iadd' ?_⟩))
  show wpAny _ _ (Builtin.List.listExtendWith (.ref s.heap.objs.size) (.ref l) (.ref s.heap.objs.size)) _ _ { s with heap := s.heap.push (seqObj "list" #[] 0) }
  unfold Builtin.List.listExtendWith
  refine wpAny_bind (wpAny_typeOf (T := "tuple") ⟨oj, hold, hc⟩ ?_)
  rw [if_pos (by rw [tt]; simp)]
  refine wpAny_bind (listItems_at hold hd (wpAny_bind (listItems_at (xs := #[]) (n := 0) hnew rfl ?_)))
  rw [if_neg (by simp)]
  refine wpAny_bind (listUpdate_at (xs := #[]) (n := 0) hnew rfl (wpAny_pure ?_) (Nat.zero_le _) (by show (#[] ++ vs.toArray).size ≤ sizeLine + 1; simp only [Array.size_append, List.size_toArray, List.length_nil]; omega))
  show wpAny (model prog w) A (do
      let oj ← load s.heap.objs.size
      match oj.data with
      | .seq vxs _ => pure vxs.toList
      | _ => unsupported "internal:collect") Qq E { s with heap := colHeap s.heap vs }
  refine wpAny_bind (wpAny_load (get?_update_seq hnew _) ?_)
  show wpAny _ _ (pure ((#[] : Array Value) ++ vs.toArray).toList) Qq E _
  have e : ((#[] : Array Value) ++ vs.toArray).toList = vs := by simp
  rw [e]
  exact wpAny_pure h
theorem sorted_tup {ltv : Value → Value → Bool} {Qq : Value → Shared → Prop} (O : Swo ltv) (hlst : s.heap.IsTuple l vs.toArray) (hszz : vs.length ≤ sizeLine)
    (hS : 2 ≤ vs.length → ∀ (h₁ : Heap) (a : Addr), h₁.get? a = some (seqObj "list" vs.toArray 0) → (∀ b oj, s.heap.get? b = some oj → b ≠ a ∧ h₁.get? b = some oj) → SortableO prog w A.in1.in1 { s with heap := h₁ } a vs ltv)
    (h : ∀ out : List Value, Srtd ltv out → Stb ltv out vs → Qq (.ref (s.heap.objs.size + 1)) { s with heap := sortedAll s.heap vs out.toArray }) : wpAny (model prog w) A (call (.builtin "sorted") [.ref l]) Qq E s := by
  have size1 : (colHeap s.heap vs).objs.size = s.heap.objs.size + 1 := by rw [Heap.size_update, size_push']
  have at1 : ((colHeap s.heap vs).push (seqObj "list" vs.toArray 0)).get? (s.heap.objs.size + 1) = some (seqObj "list" vs.toArray 0) := size1 ▸ Heap.get?_push_size (colHeap s.heap vs) rfl
  have old : ∀ b oj, s.heap.get? b = some oj → b ≠ s.heap.objs.size + 1 ∧ ((colHeap s.heap vs).push (seqObj "list" vs.toArray 0)).get? b = some oj := fun b oj qq => by
    have lt : b < s.heap.objs.size := Heap.lt_size qq
    exact ⟨Nat.ne_of_lt (Nat.lt_succ_of_lt lt), Heap.get?_push_of_some _ ((Heap.get?_update_ne _ _ _ _ (Nat.ne_of_lt lt)).trans (Heap.get?_push_of_some _ qq))⟩
  refine Calls.call_function_entry kind_sorted plain_sorted entry_sorted (args_sorted1 _) ?_
  unfold Builtin.«sorted»
  refine wpAny_bind (m := checkCount "sorted" 1 1 _) (wpAny_pure (wpAny_bind (col_tup hlst hszz (wpAny_bind (wpAny_newList ?_ hszz)))))
  show wpAny _ _ _ _ _ { s with heap := (colHeap s.heap vs).push (seqObj "list" vs.toArray 0) }
  rw [size1]
  exact wpAny_bind (wpAny_holding (wpAny_call_entry slot_list_sort ⟨_, at1, rfl⟩ entry_list_sort (list_sort_ord O at1 hszz (fun hh2 => hS hh2 _ _ at1 old) fun out hs hb => ⟨_, rfl, wpAny_pure ⟨_, rfl, h out hs hb⟩⟩) (args_list_sort _)))
end
section
variable {X : Cx}
def rSortedT (K : PySem.W.Frag) : List V → Hp → VK → Prop := fun vs Hh Qq => ∃ (a : Addr) (nms : List Int), vs = [V.ref a] ∧ SqT K Hh a (nms.map V.int) ∧
  ∀ (ns' : List Int) (p : Addr), ns'.Perm nms → ns'.Pairwise (· ≤ ·) → Hh p = none → Qq (.ref p) (upd Hh p (.lst (ns'.map V.int)))
theorem cr_sortedT : CallR X (.builtin "sorted") (rSortedT X.K) := by
  intro pns s σs Hh vs uvs Qq Iv r h
  obtain ⟨a, nms, rfl, hs, qq⟩ := h
  obtain ⟨vls, rlv, hlst, hszz⟩ := Iv.tuple hs
  have hint := rlv.ints
  rw [List.length_map] at hszz
  rw [Vals.ref1 r]
  refine sorted_tup swo_int (isTuple_of hlst) (by rw [hint.length]; exact hszz) (fun hh2 h₁ a' _ _ => ints_sortable hint hh2) fun out hh1 hh2 => ?_
  obtain ⟨k1, k2, k3⟩ := ints_out hint hh1 hh2
  obtain ⟨ep, he'⟩ := PyProof.Rows.sortedAll_at s.heap vls out.toArray
  exact ⟨.ref _, upd Hh (s.heap.objs.size + 1) (.lst ((out.map iv).map V.int)), Iv.laid (t' := s.toks) (fun _ _ => PyProof.Rows.sortedAll_old) (Nat.le_succ _) ⟨by rw [List.length_map, k2.length_eq]; exact hszz, out, ep, vals_of_ints k1, he'⟩, rfl, qq _ _ k2 k3 (Iv.hok.fresh (Nat.le_succ _))⟩
end
end Rg
namespace Rg
open PySem PySem.Spec PyProof.Rows L2 SrtO
/-! ### sorted(vxs), vxs a list of pairs (k, t): k an int, t a tuple of ints -/
/-- at v a pair of x and a tuple of the ints nms -/
def Nest (h : Heap) (v : Value) (x : Int) (nms : List Int) : Prop := ∃ (a b : Addr) (oj : Obj) (t : Tok) (n : Nat) (vls : List Value), v = .ref a ∧ h.get? a = some oj ∧ oj.cls = .type "tuple" ∧ oj.data = .seq #[.int x t, .ref b] n ∧ IsTup h b vls.toArray ∧ IntsAre vls nms
theorem Nest.kept {h h' : Heap} {v : Value} {x : Int} {nms : List Int} (p : Nest h v x nms) (k : ∀ b oj, h.get? b = some oj → oj.cls = .type "tuple" → h'.get? b = some oj) : Nest h' v x nms := by
  obtain ⟨a, b, oj, t, n, vls, e, hob, hc, hd, ⟨ob, hb, hbc, hbd⟩, hint⟩ := p
  exact ⟨a, b, oj, t, n, vls, e, k _ _ hob hc, hc, hd, ⟨ob, k _ _ hb hbc, hbc, hbd⟩, hint⟩
theorem reads_ints {h : Heap} : ∀ {vs : List Value} {nms : List Int}, IntsAre vs nms → ∃ as, ReadsAll h vs (nms.map PyData.int) as
  | _, _, .nil => ⟨_, .nil⟩
  | _, _, .cons i t r => by
    obtain ⟨as, qq⟩ := reads_ints (h := h) r
    exact ⟨_, .cons (.int i t) qq⟩
theorem eqvA_ints : ∀ vxs yms : List Int, PyData.eqvAll (vxs.map PyData.int) (yms.map PyData.int) = decide (vxs = yms)
  | [], [] => by simp [PyData.eqvAll]
  | [], y :: yms => by simp [PyData.eqvAll]
  | x :: vxs, [] => by simp [PyData.eqvAll]
  | x :: vxs, y :: yms => by
    simp only [List.map_cons, PyData.eqvAll, eqvA_ints vxs yms, PyData.eqv]
    by_cases e : x = y <;> by_cases f : vxs = yms <;> simp [e, f]
theorem layA_ints : ∀ l : List Int, PyData.canLayAll0 (l.map PyData.int) = true
  | [] => by simp [PyData.canLayAll0]
  | i :: l => by simp [PyData.canLayAll0, PyData.canLay0, layA_ints l]
theorem depA_ints : ∀ l : List Int, PyData.depthAll (l.map PyData.int) = 0
  | [] => by simp [PyData.depthAll]
  | i :: l => by simp [PyData.depthAll, PyData.depth, depA_ints l]
theorem lex_self : ∀ l : List Int, HT.lexLt l l = false
  | [] => rfl
  | x :: l => by rw [HT.lexLt_cons, if_pos rfl]; exact lex_self l
section
variable {prog : Program} {w : World} {A : Around} {E : Value → Shared → Prop} {s : Shared}
theorem eq_tupInts {b c : Addr} {vls jts : List Value} {nms ms : List Int} (hb : IsTup s.heap b vls.toArray) (hc : IsTup s.heap c jts.toArray) (hint : IntsAre vls nms) (hjj : IntsAre jts ms) (hu : A.units + 1 < cLine) :
    SeqAt.EqAt A s (.ref b) (.ref c) (decide (nms = ms)) := by
  obtain ⟨o1, hh1, c1, n1, d1⟩ := hb
  obtain ⟨o2, hh2, c2, n2, d2⟩ := hc
  obtain ⟨as, r1⟩ := reads_ints (h := s.heap) hint
  obtain ⟨bs, r2⟩ := reads_ints (h := s.heap) hjj
  have qq := SeqAt.eqAt_reads (.tuple (nms.map PyData.int)) (.tuple (ms.map PyData.int)) A s (.ref b) (.ref c) _ _ (Reads.tuple hh1 c1 d1 r1) (Reads.tuple hh2 c2 d2 r2) (by simp only [PyData.canLay0]; exact layA_ints nms) (by simp only [PyData.canLay0]; exact layA_ints ms)
    (by simp only [PyData.depth, depA_ints]; omega)
  have e : PyData.eqv (.tuple (nms.map PyData.int)) (.tuple (ms.map PyData.int)) = decide (nms = ms) := by
    simp only [PyData.eqv]
    exact eqvA_ints nms ms
  rwa [e] at qq
theorem nest_cmp {vs : List Value} {k : Value → Int × List Int} (hp : ∀ v ∈ vs, Nest s.heap v (k v).1 (k v).2) (hu : A.units + 1 < cLine) :
    SrtO.Cmp prog w A s (tuples' true) (fun p => p.1 ∈ vs) (lt2 fun v u => HT.lexLt ((k v).1 :: (k v).2) ((k u).1 :: (k u).2)) := by
  intro p qq hmm hm'
  have hh1 := hp _ hmm
  have hh2 := hp _ hm'
  show wpAny (model prog w) A (keyLt' (tuples' true) p.1 qq.1) (fun r s' => s' = s ∧ r = HT.lexLt ((k p.1).1 :: (k p.1).2) ((k qq.1).1 :: (k qq.1).2)) (fun _ _ => False) s
  generalize (k p.1).1 = x at hh1 ⊢
  generalize (k p.1).2 = nms at hh1 ⊢
  generalize (k qq.1).1 = y at hh2 ⊢
  generalize (k qq.1).2 = ms at hh2 ⊢
  obtain ⟨a, b, oj, t, n, vls, e, hob, hc, hd, hb, hint⟩ := hh1
  obtain ⟨a', b', o', t', n', its', e', ho', hc', hd', hb', hi'⟩ := hh2
  rw [e, e', HT.lexLt_cons]
  refine PySem.W.kat_lt hob hd ho' hd' ?_
  show PySem.W.KatLex prog w A true (decide (2 < 2)) _ [(.int x t, .int y t'), (.ref b, .ref b')] 0 s
  refine PySem.W.kat_cons (SeqAt.EqAt.int_int x t y t' prog w _ _ (PySem.W.kat_go (fun e1 => PySem.W.kat_yes (PySem.W.kat_cons (eq_tupInts hb hb' hint hi' hu prog w _ _ (PySem.W.kat_go (fun ee2 => ?_) (fun ee2 => ?_))))) (fun e1 => ?_)))
  · have ex : x = y := by simpa using e1
    have ey : nms = ms := of_decide_eq_true ee2
    refine PySem.W.kat_yes (PySem.W.kat_nil ⟨rfl, ?_⟩)
    rw [if_pos ex, ey, lex_self]
    rfl
  · have ex : x = y := by simpa using e1
    rw [if_pos ex]
    exact PySem.W.kat_no (PySem.W.kat_one _ _ (HT.lt_tupInts hb hb' hint hi' (by omega) ⟨rfl, rfl⟩))
  · have ex : ¬ x = y := by simpa using e1
    rw [if_neg ex]
    exact PySem.W.kat_no (oneLt_int ⟨rfl, rfl⟩)
theorem nest_firsts {h : Heap} {k : Value → Int × List Int} : ∀ {vs : List Value}, (∀ v ∈ vs, Nest h v (k v).1 (k v).2) → ∃ fs : List Value, PySem.W.KatTups h vs fs ∧ fs.length = vs.length ∧ ∀ f ∈ fs, ∃ x t, f = Value.int x t
  | [], _ => ⟨[], PySem.W.KatTups.nil, rfl, fun _ z => nomatch z⟩
  | v :: vs, hp => by
    obtain ⟨fs, q1, q2, q3⟩ := nest_firsts fun v' z => hp v' (List.mem_cons_of_mem _ z)
    obtain ⟨a, b, oj, t, n, vls, e, hob, hc, hd, _⟩ := hp v (List.mem_cons_self ..)
    rw [e]
    refine ⟨.int _ t :: fs, PySem.W.KatTups.cons hob hc hd rfl q1, congrArg (· + 1) q2, fun f z => ?_⟩
    rcases List.mem_cons.mp z with z | z
    · exact ⟨_, t, z⟩
    · exact q3 f z
theorem nest_sortable {a : Addr} {vs : List Value} {k : Value → Int × List Int} (h0 : 0 < vs.length) (hu : A.units + 1 < cLine) (hp : ∀ v ∈ vs, Nest s.heap v (k v).1 (k v).2) (ha : ∀ oj, s.heap.get? a = some oj → oj.cls ≠ .type "tuple") :
    SortableO prog w A s a vs fun v u => HT.lexLt ((k v).1 :: (k v).2) ((k u).1 :: (k u).2) := by
  intro h' keep
  have hp' : ∀ v ∈ vs, Nest h' v (k v).1 (k v).2 := fun v z => (hp v z).kept fun b oj e c => keep b oj (fun z => ha oj (z ▸ e) c) e
  obtain ⟨fs, q1, q2, q3⟩ := nest_firsts hp'
  refine ⟨tuples' true, fun Qq E hsq => PySem.W.kat_kind (T := .type "int") q1 (by omega) (fun f z => ?_) (by rfl) ?_, nest_cmp hp' hu⟩
  · obtain ⟨x, t, e⟩ := q3 f z
    rw [e]
    exact PySem.W.Looks.now
  · rw [show (Value.type "int" != Value.type "tuple") = true by decide +kernel]
    exact hsq
end
section
variable {X : Cx}
/-- k says what stands at each item -/
def rSortedN (K : PySem.W.Frag) : List V → Hp → VK → Prop := fun vs Hh Qq => ∃ (a : Addr) (vxs : List V) (k : V → Int × List Int), vs = [V.ref a] ∧ SqL K Hh a vxs ∧ (∀ x ∈ vxs, ∃ t b, x = V.ref t ∧ Hh t = some (.tup [.int (k x).1, .ref b]) ∧ Hh b = some (.tup ((k x).2.map V.int))) ∧
  ∀ yms p, Srtd (fun v u => HT.lexLt ((k v).1 :: (k v).2) ((k u).1 :: (k u).2)) yms → yms.Perm vxs → Hh p = none → Qq (.ref p) (upd Hh p (.lst yms))
theorem cr_sortedN (hu : X.A.units + 64 < cLine) : CallR X (.builtin "sorted") (rSortedN X.K) := by
  intro pns s σs Hh vs uvs Qq Iv r h
  obtain ⟨a, vxs, k, rfl, hs, hx, qq⟩ := h
  obtain ⟨vls, rlv, hlst, hszz⟩ := Iv.list hs
  rw [Vals.ref1 r]
  obtain ⟨e1, ee2⟩ := refs_back rlv fun x m => let ⟨t, _, e, _⟩ := hx x m; ⟨t, e⟩
  have nst : ∀ v ∈ vls, Nest s.heap v (k (backV v)).1 (k (backV v)).2 := fun v hval => by
    obtain ⟨t, rfl⟩ := ee2 v hval
    obtain ⟨t', b, et, hh1, hh2⟩ := hx (V.ref t) (by rw [e1]; exact List.mem_map.mpr ⟨_, hval, rfl⟩)
    cases et
    obtain ⟨_, jts, r2, oj, hob, hc, n, hd⟩ := Iv.hok _ _ hh1
    obtain ⟨u1, u2, rfl, ⟨t1, rfl⟩, r3⟩ := vals2 r2
    obtain rfl : u2 = Value.ref b := r3
    obtain ⟨_, kts, r4, p4⟩ := Iv.hok _ _ hh2
    exact ⟨t, b, oj, t1, n, kts, rfl, hob, hc, hd, p4, r4.ints⟩
  refine sorted_ord (NtL.swo_lexL fun u : Value => (k (backV u)).1 :: (k (backV u)).2) hlst.isList (by rw [← rlv.length]; exact hszz) (fun hh2 h₁ a' ha kk => ?_) fun out hh1 hh2 => ?_
  · refine nest_sortable (s := { s with heap := h₁ }) (k := fun u => k (backV u)) (by omega) (show X.A.units + 1 + 1 + 1 < cLine by omega) (fun v hval => (nst v hval).kept fun b oj e _ => (kk b oj e).2) fun oj e c => ?_
    cases e.symm.trans ha
    exact absurd (Value.type.inj c) (by decide)
  · have h3 : ∀ u ∈ out, ∃ a, u = Value.ref a := fun u hu => ee2 u (hh2.perm.mem_iff.mp hu)
    have hp : (out.map backV).Perm vxs := by rw [e1]; exact hh2.perm.map backV
    obtain ⟨n, hnn⟩ := PyProof.Rows.sortedAll_at s.heap vls out.toArray
    exact ⟨.ref _, upd Hh (s.heap.objs.size + 1) (.lst (out.map backV)), Iv.laid (t' := s.toks) (fun _ _ => PyProof.Rows.sortedAll_old) (Nat.le_succ _) ⟨by rw [hp.length_eq]; exact hszz, out, n, vals_back h3, hnn⟩, rfl,
      qq _ _ (List.pairwise_map.mpr hh1) hp (Iv.hok.fresh (Nat.le_succ _))⟩
end
end Rg
namespace Rg
open PySem PySem.Spec PyProof.Rows L2
/-! tuple(list), whose object is known to have no dict: so that vls methods can be called -/
section
variable {X : Cx}
def rTupF (K : PySem.W.Frag) : List V → Hp → VK → Prop := fun vxs Hh Qq => ∃ p yms, vxs = [V.ref p] ∧ SqL K Hh p yms ∧ ∀ l oj, Hh l = none → oj.dict = none → Qq (.ref l) (upd Hh l (.frz oj (.tup yms)))
theorem cr_tupF : CallR X (.type "tuple") (rTupF X.K) := by
  intro pns s σs Hh vxs uvs Qq Iv r ⟨p, yms, e, hsq, qq⟩
  subst e
  obtain ⟨u, rfl, rlx⟩ := vals1 r
  cases rlx
  obtain ⟨vls, rlv, pl, sz⟩ := Iv.list hsq
  have hnn := rlv.length
  refine call_tuple_list pl.isList (fun hh1 kp => ?_) (by rw [List.size_toArray]; omega)
  have J : Inv X pns σs Hh { s with heap := hh1 } := Iv.kept (t' := s.toks) kp
  have J2 : Inv X pns σs (upd Hh hh1.objs.size (.frz { cls := .type "tuple", data := .seq vls.toArray } (.tup yms))) { s with heap := hh1.push { cls := .type "tuple", data := .seq vls.toArray } } :=
    J.laid (t' := s.toks) (fun b oj e => Heap.get?_push_of_some _ e) (Nat.le_refl _)
      (show ObjOk X.prog X.w _ _ _ (.frz _ (.tup yms)) from ⟨Heap.get?_push_size _ rfl, sz, vls, rlv, IsTup.new _ _⟩)
  exact ⟨.ref hh1.objs.size, _, J2, rfl, qq _ _ (J.hok.fresh (Nat.le_refl _)) rfl⟩
def tyTF (x : V) (Hh : Hp) : Prop := ∃ a oj yms, x = .ref a ∧ Hh a = some (.frz oj (.tup yms)) ∧ oj.dict = none
theorem ty_tf : TyOk X "tuple" tyTF := by
  intro pns σs Hh s x v Iv r ⟨a, oj, yms, e, h, hd⟩
  subst e
  cases r
  obtain ⟨e, _, vls, _, o2, ee2, hc, _⟩ := (show ObjOk X.prog X.w Hh s.heap a (.frz oj (.tup yms)) from Iv.hok a _ h)
  refine ⟨⟨_, ee2, hc⟩, fun b qq => ?_⟩
  cases qq
  exact ⟨oj, e, hd⟩
end
end Rg
namespace Rg
open PySem PySem.Spec PyProof.Rows L2
/-! ### x != y, x == y of instances whose class has an own == and no own != -/
section
variable {prog : Program} {w : World} {A : Around} {E : Value → Shared → Prop} {s : Shared} {K : PySem.W.Frag} {x C L f : Addr} {h₀ : Heap} {m : Str → Option Value} {ox : Obj} {od : Option Obj} {b tb : Value}
theorem boundNe {M : Model} {args : List Value} {Q : Option Value → Shared → Prop} (Xk : K.In s.heap) (Ia : PySem.W.InstAt s.heap x ox C od) (hs : PySem.W.findIn K (.ref C) "__ne__" = some (some (.builtin "object.__ne__")))
    (h : wpAny M A (call (.builtin "object.__ne__") (.ref x :: args)) (fun v => Q (some v)) E s) : wpAny M A (callSpecialIfBound? (.ref x) "__ne__" args) Q E s := by
  simp only [callSpecialIfBound?, bindSpecialIfBound?]
  refine wpAny_holding (wpAny_bind (wpAny_bind (wpAny_bind (Ia.type.here ((PySem.W.looks_findIn Xk hs).here ?_)))))
  dsimp only
  simp only [F.cmp_object.ne.bind]
  refine wpAny_bind (wpAny_askSetting (wpAny_ite ?_))
  have fin : wpAny M A (call (.builtin "object.__ne__") ([.ref x] ++ args) >>= fun v => pure (some v)) Q E s := wpAny_bind (wpAny_mono h (fun v s' h' => wpAny_pure h') fun _ _ h' => h')
  split
  · exact wpAny_bind (wpAny_pure (wpAny_pure fin))
  · exact wpAny_tryCatch (wpAny_bind (wpAny_pure (wpAny_pure fin)))
theorem checkNe {M : Model} {Q : Unit → Shared → Prop} (Xk : K.In s.heap) (Ia : PySem.W.InstAt s.heap x ox C od) (ho : PySem.W.subIn K (.ref C) (.type "object") = some true) (hq : Q () s) : wpAny M A (checkBuiltinCall "object.__ne__" ⟨[.ref x, b], []⟩) Q E s := by
  simp only [checkBuiltinCall, F.cmpKind_ne, F.cmpSplit_ne]
  refine wpAny_bind ?_
  unfold isInstance
  refine wpAny_bind (Ia.type.here ((PySem.W.looks_subIn Xk ho).here ?_))
  simp only [Bool.not_true, Bool.false_eq_true, if_false]
  have ha := F.cmpArgs_ne (.ref x) b
  cases hsig : Manifest.signature? "object.__ne__" with
  | none => exact wpAny_pure hq
  | some sig =>
    simp only [argsOk, hsig] at ha
    have h2 : Bind.checkArgs "object.__ne__" sig ⟨[.ref x, b], []⟩ = pure () := ha
    show wpAny M A (Bind.checkArgs "object.__ne__" sig ⟨[.ref x, b], []⟩) Q E _
    rw [h2]; exact wpAny_pure hq
theorem objNeK {Q : Fin → Shared → Prop} (Xk : K.In s.heap) (Ia : PySem.W.InstAt s.heap x ox C od) (hs : PySem.W.findIn K (.ref C) "__eq__" = some (some (.ref f))) (hf : PySem.W.isFn K (.ref f) = true) (hu : A.units < cLine)
    (h : wpAny (model prog w) A (call (.ref f) [.ref x, b]) (fun v s' => ∃ r, v = .bool r ∧ Q (.done (.ret (.bool (!r)))) s') E s) :
    wpAny (model prog w) A (Builtin.«object.__ne__» ⟨[.ref x, b], []⟩) Q E s := by
  unfold Builtin.«object.__ne__»
  repeat (first
    | with_reducible refine wpAny_cRoomFor hu ?_
    | (refine wpAny_bind (m := callSpecialIfBound? (.ref x) (Str.ofString "__eq__") [b])
        (PySem.W.ifBound_K Xk Ia hs hf (wpAny_mono h (fun r s' hr => by
          obtain ⟨b, rfl, hq⟩ := hr
          repeat (first | exact hq | exact wpAny_pure hq | exact wpAny_truthy_bool hq | (refine wpAny_bind (m := truthy (.bool _)) (wpAny_truthy_bool ?_)) | wp_step)) fun _ _ e => e)))
    | wp_step)
theorem neK {Q : Value → Shared → Prop} (hu : A.units + 1 < cLine) (Fr0 : Fr h₀ L s.heap m) (X₀ : K.In h₀) (Ia : PySem.W.InstAt s.heap x ox C od) (hb : PySem.W.Looks (model prog w) s.heap (typeOf b) tb) (hn : PySem.W.notFirst K C tb = true)
    (hne : PySem.W.findIn K (.ref C) "__ne__" = some (some (.builtin "object.__ne__"))) (ho : PySem.W.subIn K (.ref C) (.type "object") = some true) (hs : PySem.W.findIn K (.ref C) "__eq__" = some (some (.ref f))) (hf : PySem.W.isFn K (.ref f) = true)
    (h : wpAny (model prog w) A.in1 (call (.ref f) [.ref x, b]) (fun v s' => ∃ r, v = .bool r ∧ Q (.bool (!r)) s') E s) : wpAny (model prog w) A (richCompare .NotEq (.ref x) b) Q E s := by
  have Xk := X₀.keeps Fr0.keep
  have one : wpAny (model prog w) A (tryCompare (.ref x) "__ne__" b) (fun r s' => ∃ v, r = some v ∧ Q v s') E s := by
    unfold tryCompare
    refine wpAny_bind (boundNe Xk Ia hne (wpAny_call (codeAny_call_builtin F.cmp_object.ne.plain F.cmpEntry_ne (checkNe Xk Ia ho (objNeK (A := A.in1) Xk Ia hs hf hu (wpAny_mono h (fun v s' hv => ?_) fun _ _ e => e))))))
    obtain ⟨r, rfl, hq⟩ := hv
    exact ⟨r, rfl, wpAny_pure ⟨_, rfl, hq⟩⟩
  unfold richCompare
  simp only [oneThing_ref]
  refine wpAny_holding (wpAny_bind (wpAny_cRoomFor (Nat.lt_of_succ_lt hu) ?_))
  refine wpAny_bind (Ia.type.here (wpAny_bind (hb.here ?_)))
  split
  · rename_i q
    have e : PySem.W.subIn K tb (.ref C) = some false := by
      rcases Bool.or_eq_true_iff.mp hn with e | e
      · rw [beq_iff_eq.mp e] at q; simp at q
      · exact beq_iff_eq.mp e
    refine wpAny_bind ((PySem.W.looks_subIn Xk e).here ?_)
    simp only [Bool.false_eq_true, if_false]
    refine wpAny_bind (wpAny_mono one (fun r s' z => ?_) fun _ _ e => e)
    obtain ⟨v, rfl, hq⟩ := z
    exact wpAny_pure hq
  · refine wpAny_bind (wpAny_pure ?_)
    simp only [Bool.false_eq_true, if_false]
    refine wpAny_bind (wpAny_mono one (fun r s' z => ?_) fun _ _ e => e)
    obtain ⟨v, rfl, hq⟩ := z
    exact wpAny_pure hq
end
section
variable {X : Cx} {n : Nat} {C f : Addr} {fd : FuncData} {ps : List Str} {sp : Sp}
/-- both are instances of C; what the own == says of them, as a bool -/
def rInsEq (C : Addr) (sp : Sp) : R2 := fun x y H Q => ∃ a b dx dy fs gs, x = .ref a ∧ y = .ref b ∧ H a = some (.ins C dx fs) ∧ H b = some (.ins C dy gs) ∧ sp [.ref a, .ref b] H (fun v H' => ∃ r, v = .bl r ∧ Q (.bl r) H') E0
def rInsNe (C : Addr) (sp : Sp) : R2 := fun x y H Q => ∃ a b dx dy fs gs, x = .ref a ∧ y = .ref b ∧ H a = some (.ins C dx fs) ∧ H b = some (.ins C dy gs) ∧ sp [.ref a, .ref b] H (fun v H' => ∃ r, v = .bl r ∧ Q (.bl (!r)) H') E0
theorem op_insNe (F : FnOk X.prog X.w X.K X.mg X.base CX0 n f fd ps sp) (hne : PySem.W.findIn X.K (.ref C) "__ne__" = some (some (.builtin "object.__ne__"))) (ho : PySem.W.subIn X.K (.ref C) (.type "object") = some true)
    (hs : PySem.W.findIn X.K (.ref C) "__eq__" = some (some (.ref f))) (hf : PySem.W.isFn X.K (.ref f) = true) (hb : Binds X.K fd ps []) (hr : Room (n + 1) X.A) : OpR X (compareOp .NotEq) (rInsNe C sp) := by
  intro pins s σ H x y u v Q I rx ry ⟨a, b, dx, dy, fs, gs, ex, ey, ha, hb', hsp⟩
  subst ex ey
  cases rx
  cases ry
  obtain ⟨mA, J, _⟩ := ins_get I.hok ha
  obtain ⟨mB, J', _⟩ := ins_get I.hok hb'
  obtain ⟨od, J, _⟩ := J.look
  obtain ⟨od', J', _⟩ := J'.look
  obtain ⟨m, hF⟩ := I.fr
  show wpAny (model X.prog X.w) X.A (richCompare .NotEq (.ref a) (.ref b)) (EP X pins σ Q) X.xe s
  refine neK (tb := .ref C) (by have := hr.un; omega) hF I.ok.mod.kin J J'.type (by simp [PySem.W.notFirst]) hne ho hs hf ?_
  have hl := F.len _ _ _ _ hsp
  have r2 : Vals [V.ref a, V.ref b] [Value.ref a, Value.ref b] := .cons rfl (.cons rfl .nil)
  refine wpAny_call (codeAny_mono (F.run X.A.in1 X.stack s H ⟨[.ref a, .ref b], []⟩ [.ref a, .ref b] [.ref a, .ref b] _ E0 hr.in1 I.env0.in1 (by
    have := hb s [.ref a, .ref b] I.kIn (by simpa using hl)
    simpa using this) r2 hsp) fun r s' hq => ?_)
  cases r with
  | error e => exact hq.elim
  | ok fl =>
    cases fl with
    | ret w =>
      obtain ⟨z, H', I', rz, r0, ez, q⟩ := I.after hq
      subst ez
      cases rz
      exact ⟨r0, rfl, .bl (!r0), H', I', rfl, q⟩
    | next => exact False.elim hq
    | brk => exact False.elim hq
    | cont => exact False.elim hq
theorem op_insEq (F : FnOk X.prog X.w X.K X.mg X.base CX0 n f fd ps sp)
    (hs : PySem.W.findIn X.K (.ref C) "__eq__" = some (some (.ref f))) (hf : PySem.W.isFn X.K (.ref f) = true) (hb : Binds X.K fd ps []) (hr : Room n X.A) : OpR X (compareOp .Eq) (rInsEq C sp) := by
  intro pins s σ H x y u v Q I rx ry ⟨a, b, dx, dy, fs, gs, ex, ey, ha, hb', hsp⟩
  subst ex ey
  cases rx
  cases ry
  obtain ⟨mA, J, _⟩ := ins_get I.hok ha
  obtain ⟨mB, J', _⟩ := ins_get I.hok hb'
  obtain ⟨od, J, _⟩ := J.look
  obtain ⟨od', J', _⟩ := J'.look
  obtain ⟨m, hF⟩ := I.fr
  show wpAny (model X.prog X.w) X.A (richCompare .Eq (.ref a) (.ref b)) (EP X pins σ Q) X.xe s
  refine PySem.W.cmp_K (op := .Eq) (tb := .ref C) hr.units0 hF I.ok.mod.kin J J'.type (by simp [PySem.W.notFirst]) hs hf ?_
  have hl := F.len _ _ _ _ hsp
  have r2 : Vals [V.ref a, V.ref b] [Value.ref a, Value.ref b] := .cons rfl (.cons rfl .nil)
  refine wpAny_call (codeAny_mono (F.run X.A X.stack s H ⟨[.ref a, .ref b], []⟩ [.ref a, .ref b] [.ref a, .ref b] _ E0 hr I.env0 (by
    have := hb s [.ref a, .ref b] I.kIn (by simpa using hl)
    simpa using this) r2 hsp) fun r s' hq => ?_)
  cases r with
  | error e => exact hq.elim
  | ok fl =>
    cases fl with
    | ret w =>
      obtain ⟨z, H', I', rz, r0, ez, q⟩ := I.after hq
      subst ez
      cases rz
      exact ⟨.bl r0, H', I', rfl, q⟩
    | next => exact False.elim hq
    | brk => exact False.elim hq
    | cont => exact False.elim hq
end
end Rg
namespace Rg
open PySem PySem.Spec PyProof.Rows L2 LamX
/-! ### sorted(lots, key=lambda lot: (len(lot), lot)), lots tuples of ints -/
theorem reads_intsN {h : Heap} : ∀ {vs : List Value} {nms : List Int}, IntsAre vs nms → ReadsAll h vs (nms.map PyData.int) []
  | _, _, .nil => .nil
  | _, _, .cons i t r => .cons (.int i t) (reads_intsN r)
def lotKey (l : List Int) : PyData := .tuple [.int (l.length : Nat), .tuple (l.map PyData.int)]
theorem alike_lotKey (a b : List Int) : PySem.W.alike (lotKey a) (lotKey b) = true := by
  simp [lotKey, PySem.W.alike, PySem.W.alikeAll, PySem.W.alike_ints]
theorem depth_lotKey (a : List Int) : (lotKey a).depth ≤ 4 := by
  simp [lotKey, PyData.depth, PyData.depthAll, PySem.W.depth_ints]
theorem eqvA_ints8 : ∀ vxs yms : List Int, PyData.eqvAll (vxs.map PyData.int) (yms.map PyData.int) = decide (vxs = yms)
  | [], [] => by simp [PyData.eqvAll]
  | [], y :: yms => by simp [PyData.eqvAll]
  | x :: vxs, [] => by simp [PyData.eqvAll]
  | x :: vxs, y :: yms => by
    simp only [List.map_cons, PyData.eqvAll, eqvA_ints8 vxs yms, PyData.eqv]
    by_cases e : x = y <;> by_cases f : vxs = yms <;> simp [e, f]
/-- fewer bars first, then as tuples -/
def lotLe (a b : List Int) : Bool := !PySem.W.dataLt (lotKey b) (lotKey a)
section
variable {prog : Program} {w : World} {A : Around} {s : Shared} {h : Heap}
theorem lotkey_turn {tk : Nat} {f c' t : Addr} {q y : Str} {params : Arguments} {scope : Scope} {pm ctv : Value} {p1 p2 p3 p4 p5 : Pos} {x1 : Nat} {mg mb : Str → Option Value} {ns : List Int} {its : List Value}
    (hroom : A.depth < recursionLimit)
    (hf : h.get? f = some (PySem.W.kla_obj "<lambda>" q params (.Tuple [.Call (.Name "len" p1) [.Name y p2] [] p3, .Name y p4] x1 p5) scope [] pm c' ctv))
    (hco : scope.isCoroutine = false) (hgen : scope.isGenerator = false) (hk : scope.kind = .function)
    (hcell : ∀ x ∈ scope.names, x.2 ≠ .cell) (hy : scope.names.lookup y = some .local) (hlen : scope.names.lookup ("len" : Str) = some .globalImplicit)
    (hbind : ∀ v : Value, bindArgs (PySem.W.kla_fn "<lambda>" q params (.Tuple [.Call (.Name "len" p1) [.Name y p2] [] p3, .Name y p4] x1 p5) scope [] pm (.ref c') ctv) ⟨[v], []⟩ = pure [(y, v)])
    (hcd : h.CodeRec (.ref c') q) (hg : h.Ns mainGlobals mg) (hm : mg ("len" : Str) = none) (hb : h.Ns builtinsNs mb) (hmb : mb ("len" : Str) = some (.builtin "len")) (hnl : h.NoLimit)
    (ht : IsTup h t its.toArray) (hi : IntsAre its ns) (hz : its.length ≤ sizeLine) (hyd : (y == ("__debug__" : Str)) = false) :
    wpAny (model prog w) A (call (.ref f) [.ref t]) (PySem.W.KeyPure (lotKey ns) { s with heap := h, toks := tk }) (fun _ _ => False) { s with heap := h, toks := tk } := by
  refine wpAny_call (PySem.W.kla_callFunE hroom hf rfl hco hgen rfl hcd ?_)
  rw [hbind]
  refine wpAny_pure (wpAny_newFunctionEnv hcell (fun z hz => by rw [List.mem_singleton.mp hz]; exact hy) (fun h₁ hns hsb => ⟨hnl.fresh _ hsb, ?_⟩) hk)
  have kp : ∀ b o, h.get? b = some o → h₁.get? b = some o := fun b o e => hsb.extBut b o (Nat.ne_of_lt (Heap.lt_size e)) (Heap.get?_push_of_some _ e)
  show codeAny _ _ (.expr _ (PySem.W.envX q scope h.objs.size f (.ref c') [])) _ _
  refine PySem.W.kla_codeExpr ?_
  refine wpAny_Tuple_spliced ?_
  have rd : ∀ (A' : Around) (tk' : Nat) (pos : Pos) (Q : Value → Shared → Prop) (E : Value → Shared → Prop), Q (.ref t) { s with heap := h₁, toks := tk' } → wpAny (model prog w) A' (eval (.Name y pos) (PySem.W.envX q scope h.objs.size f (.ref c') [])) Q E { s with heap := h₁, toks := tk' } := fun A' tk' pos Q E hQ =>
    wpAny_Name (wpAny_loadName_local hk hy hns (by show ([(y, Value.ref t)].reverse).lookup y = _; simp) hQ) hyd
  refine Calls.spliced_cons (wpAny_Call_Name_kw (Calls.Name_function_global hk hlen (Calls.loadGlobal_builtin (hg.keeps kp) hm (hb.keeps kp) hmb ?_)))
  refine PyProof.Rows.callWith_builtin1 (Calls.spliced_cons (rd _ _ _ _ _ (Calls.spliced_nil ?_))) rfl rfl
  refine len_tuple (ht.keeps kp) ?_ ?_
  · have := line63
    simp only [List.size_toArray]
    omega
  refine Calls.spliced_cons (rd _ _ _ _ _ (Calls.spliced_nil ⟨by show 2 ≤ sizeLine; decide, ?_⟩))
  refine ⟨_, _, rfl, fun b o e => Heap.get?_push_of_some _ (kp b o e), ?_⟩
  obtain ⟨o, ho, hc, n, hd⟩ := ht.keeps kp
  refine Reads.tuple (Heap.get?_push_size _ rfl) rfl rfl ?_
  show ReadsAll _ [.int (its.toArray.size : Nat) _, .ref t] [.int (ns.length : Nat), .tuple (ns.map .int)] []
  have e1 : its.toArray.size = ns.length := by rw [List.size_toArray, hi.length]
  rw [e1]
  exact ReadsAll.cons (.int _ _) (ReadsAll.cons (Reads.tuple (Heap.get?_push_of_some _ ho) hc hd (reads_intsN hi)) .nil)
end
theorem each_vals : ∀ {out : List Value} {ys : List V}, PySem.W.EachIs (fun u x => RelV x u) out ys → Vals ys out
  | _, _, .nil => .nil
  | _, _, .cons r t => .cons r (each_vals t)
theorem vals_each : ∀ {ys : List V} {out : List Value}, Vals ys out → PySem.W.EachIs (fun u x => RelV x u) out ys
  | _, _, .nil => .nil
  | _, _, .cons r t => .cons r (vals_each t)
section
variable {X : Cx}
/-- sorted(e, key=the lambda) -/
def tSortLots (K : PySem.W.Frag) (T : List (Addr × Str)) (te : TE) : TE := fun σ H Q => te σ H fun v H1 => ∃ (a : Addr) (xs : List V) (k : V → List Int), v = .ref a ∧ SqL K H1 a xs ∧ (∀ x ∈ xs, ∃ t, x = V.ref t ∧ H1 t = some (.tup ((k x).map V.int))) ∧ Tabs T H1 ∧
  ∀ (H2 : Hp) (p : Addr) (ys : List V), ExtN H1 H2 → Tabs T H2 → ys.Perm xs → (ys.Pairwise fun u v => lotLe (k u) (k v) = true) → H2 p = none → Q (.ref p) (upd H2 p (.lst ys))
theorem pe_sortLots {T : List (Addr × Str)} {c P : Addr} {y : Str} {params : Arguments} {scope : Scope} {p p1 p2 p3 p4 p5 lpos kpos pos : Pos} {x1 : Nat} {e : Expr} {te : TE}
    (hdp : X.A.depth < recursionLimit) (hu : X.A.units + 64 < cLine) (hgS : Gl X ("sorted" : Str)) (hmS : X.mg ("sorted" : Str) = none) (hmL : X.mg ("len" : Str) = none) (he : PE X e te)
    (TB : TabB X.base X.mg c P) (hcode : X.env.code = .ref c) (hmT : (P, X.env.qual ++ "<lambda>") ∈ T) (huT : ∀ p ∈ T, p.1 = P → p.2 = X.env.qual ++ "<lambda>")
    (hdef : defaultsOf params X.env = ([], [])) (hco : scope.isCoroutine = false) (hgen : scope.isGenerator = false) (hk : scope.kind = .function)
    (hcell : ∀ x ∈ scope.names, x.2 ≠ .cell ∧ x.2 ≠ .free) (hy : scope.names.lookup y = some .local) (hlen : scope.names.lookup ("len" : Str) = some .globalImplicit) (hclo : cloFrom X.env.cells scope.names [] = [])
    (hbind : ∀ (q : Str) (pm cv ctv v : Value), bindArgs (PySem.W.kla_fn "<lambda>" q params (.Tuple [.Call (.Name "len" p1) [.Name y p2] [] p3, .Name y p4] x1 p5) scope [] pm cv ctv) ⟨[v], []⟩ = pure [(y, v)])
    (hyd : (y == ("__debug__" : Str)) = false := by decide)
    (hes : backTo pos (starEach [e] X.env) = [(false, eval e X.env)] := by rfl) :
    PE X (.Call (.Name "sorted" p) [e] [⟨some "key", .Lambda params (.Tuple [.Call (.Name "len" p1) [.Name y p2] [] p3, .Name y p4] x1 p5) scope lpos, kpos⟩] pos) (tSortLots X.K T te) := by
  refine ⟨fun pins s σ H Q I h => ?_⟩
  refine wpAny_Call_Name_kw (ld_blt I hgS hmS (u := .builtin "sorted") (by decide +kernel) ?_ (by decide) (by decide))
  refine PyProof.Rows.callWith_kw ?_ hes (by rw [hes]; rfl) rfl rfl
  rw [hes]
  refine Calls.spliced_cons (thn (he.run pins s σ H _ I h) fun u s1 ⟨v, H1, I1, r1, q1⟩ => Calls.spliced_nil ?_)
  obtain ⟨a, xs, k, rfl, hs, hx, hT, q⟩ := q1
  obtain rfl : u = Value.ref a := r1
  show wpAny _ _ (evalAll [do let v ← eval (.Lambda params (.Tuple [.Call (.Name "len" p1) [.Name y p2] [] p3, .Name y p4] x1 p5) scope lpos) X.env; standAt pos; pure v]) _ _ _
  refine wpAny_evalAll_cons (wpAny_bind ?_)
  refine lam_make2 I1 TB hcode hmT huT hT hdef (fun z hz ef => absurd ef (hcell z hz).2) fun f c' pm ctv H2 s2 I2 eN T2 hf hfn hfr hco2 => ?_
  rw [hclo] at hf
  refine wpAny_bind (wpAny_standAt (wpAny_pure ?_))
  refine wpAny_evalAll_nil ?_
  show wpAny _ _ (call (.builtin "sorted") [.ref a] [(Str.ofString "key", .ref f)]) _ _ s2
  have hs2 : SqL X.K H2 a xs := by
    rcases hs with (hs | ⟨o, hs⟩) | hs
    · exact .inl (.inl (eN _ _ hs (fun _ z => nomatch z)))
    · exact .inl (.inr ⟨o, eN _ _ hs (fun _ z => nomatch z)⟩)
    · exact .inr hs
  obtain ⟨its, rv, hl, hsz⟩ := I2.list hs2
  have hx2 : ∀ x ∈ xs, ∃ t, x = V.ref t ∧ H2 t = some (.tup ((k x).map V.int)) := fun x m => let ⟨t, e1, e2⟩ := hx x m; ⟨t, e1, eN _ _ e2 (fun _ z => nomatch z)⟩
  obtain ⟨⟨oc, cvs, ct, hoc, hdc, hvc⟩, _, _⟩ := I2.hok c' _ hco2
  obtain ⟨mb, hb1, hb2⟩ := I2.mod.blt
  refine PySem.W.sorted_key_data (β := V) (R := fun u x => RelV x u) (fun x => lotKey (k x)) hl.isList (vals_each rv) (PySem.W.AllAlike.of fun b b' => alike_lotKey _ _) (PySem.W.Sortable.tuples fun b => ⟨_, _, rfl⟩) hsz
    (fun x _ => by have := depth_lotKey (k x); omega) (PyProof.Rows.ksk_s1 _ _) (fun _ => PyProof.Rows.ksk_l1 _ _) (fun x => PyProof.Rows.ksk_t1 f x) ?_ ?_
  · intro v x hR hxm h' tk' hk'
    obtain ⟨t, rfl, ht⟩ := hx2 x hxm
    obtain rfl : v = Value.ref t := hR
    obtain ⟨hz, jts, rj, tj⟩ := I2.hok t _ ht
    refine lotkey_turn (hroom := hdp) (hk' _ _ hf) hco hgen hk (fun z hz => (hcell z hz).1) hy hlen (fun v => hbind _ _ _ _ v) ⟨c', oc, cvs, ct, rfl, hk' _ _ hoc, hdc, hvc⟩
      ((I2.mod.glob.keeps I2.bk).keeps hk') hmL ((hb1.keeps I2.bk).keeps hk') ((hb2 _ (by decide)).trans PySem.boot_len) (I2.nolimit.keeps hk') (tj.keeps hk') rj.ints (by rw [← rj.length]; exact hz) hyd
  · intro out cc h' tk' hk' hfr' hnew hol heach
    have hpm : (xs.mergeSort (PySem.W.dataLe false fun x => lotKey (k x))).Perm xs := List.mergeSort_perm ..
    refine ⟨.ref (s2.heap.objs.size + 1), upd H2 (s2.heap.objs.size + 1) (.lst (xs.mergeSort (PySem.W.dataLe false fun x => lotKey (k x)))), I2.laid (t' := tk') hk' (Nat.le_succ _) ?_, rfl, ?_⟩
    · exact ⟨by rw [hpm.length_eq]; exact hsz, out, cc, each_vals heach, hnew⟩
    · have nf : H2 (s2.heap.objs.size + 1) = none := I2.hok.fresh (Nat.le_succ _)
      refine q _ _ _ eN T2 hpm ?_ nf
      have z := PySem.W.sortLe_total (listOrd itemOrd) false (fun x : V => PySem.W.keyToks (lotKey (k x)))
      exact List.pairwise_mergeSort (le := PySem.W.dataLe false fun x => lotKey (k x)) (fun a b c => z.trans a b c) (fun a b => Bool.or_eq_true _ _ |>.mpr (z.total a b)) xs
end
end Rg
namespace Rg
open PySem PySem.Spec PyProof.Rows L2
/-! ### enumerate(t), t a tuple -/
theorem meets_enum1 {v : Value} {ob : Obj} {Hz : Heap → Prop} (B : Begins v ob Hz) :
    Meets (Builtin.«enumerate.__new__» ⟨[.type "enumerate", v], []⟩) (fun _ R s => Hz s.heap ∧
      R (.ok (.ret (.ref (s.heap.push ob).objs.size))) { s with heap := (s.heap.push ob).push { cls := .type "enumerate", data := .fields #[.none, .bool false, .ref s.heap.objs.size, rawInt 0, .none, .none] } }) :=
  .of_wp fun prog w A R s h => by
    obtain ⟨hp, gg, dd, tk, os⟩ := s
    obtain ⟨hz, h⟩ := h
    have hsub := sub_enumerate
    have go : ∀ {A' : Around} {E' : Value → Shared → Prop} {Q' : Value → Shared → Prop}, Q' (.ref hp.objs.size) ⟨hp.push ob, gg, dd, tk, os⟩ → wpAny (model prog w) A' (pyIter v) Q' E' ⟨hp, gg, dd, tk, os⟩ :=
      fun q => B.iter prog w _ _ ⟨hp, gg, dd, tk, os⟩ _ hz q
    wp_walk using go
    refine wpAny_stack_any fun st => wpAny_pure ?_
    split
    · rename_i c _ _ _ _ _
      cases (c == Value.type "enumerate")
      · wp_walk using go
        exact ⟨_, rfl, h⟩
      · wp_walk using go
        exact ⟨_, rfl, h⟩
    · wp_walk using go
      exact ⟨_, rfl, h⟩
section
variable {prog : Program} {w : World} {A : Around} {E : Value → Shared → Prop} {s : Shared}
theorem call_enum1 {v : Value} {ob : Obj} {Hz : Heap → Prop} {Q : Value → Shared → Prop} (B : Begins v ob Hz) (hz : Hz s.heap)
    (k : ∀ g, IsEnum g (s.heap.objs.size + 1) s.heap.objs.size 0 .none → g.get? s.heap.objs.size = some ob → (∀ c u, s.heap.get? c = some u → g.get? c = some u) → Q (.ref (s.heap.objs.size + 1)) { s with heap := g }) :
    wpAny (model prog w) A (call (.type "enumerate") [v]) Q E s := by
  refine callType_new F.called_enumerate (by decide) (F.typeCall_enumerate_1 _) (F.newCall_enumerate_1 _) (fun obj => F.args_object_init_2 obj _) F.entry_enumerate_new (meets_enum1 B) ⟨hz, ?_⟩
  have sz : (s.heap.push ob).objs.size = s.heap.objs.size + 1 := Heap.size_push ..
  show _ ∧ _
  rw [sz]
  have ie : IsEnum ((s.heap.push ob).push { cls := .type "enumerate", data := .fields #[.none, .bool false, .ref s.heap.objs.size, rawInt 0, .none, .none] }) (s.heap.objs.size + 1) s.heap.objs.size 0 .none := by
    have z := Heap.get?_push_size (s.heap.push ob) (o := { cls := .type "enumerate", data := .fields #[.none, .bool false, .ref s.heap.objs.size, rawInt 0, .none, .none] }) rfl
    rw [sz] at z
    exact z
  exact ⟨⟨_, ie, rfl⟩, k _ ie (Heap.get?_push_of_some _ (Heap.get?_push_size _ B.free)) fun c u x => Heap.get?_push_of_some _ (Heap.get?_push_of_some _ x)⟩
end
/-- the tuple at a as it stands at each turn, each item in a new pair -/
def IteT (K : PySem.W.Frag) (a : Addr) : It :=
  ⟨fun i H => ∃ (xs : List V) (x : V), SqT K H a xs ∧ xs[i]? = some x, fun i H v H' => ∃ T x, v = .ref T ∧ H T = none ∧ H' = upd H T (.tup [.int (i : Nat), x]) ∧ ∀ xs, SqT K H a xs → xs[i]? = some x, fun i H => ∃ xs : List V, SqT K H a xs ∧ xs.length ≤ i⟩
theorem turn_enumT {P : Program} {w : World} {K : PySem.W.Frag} {elts : List Expr} {kk : Nat} {tpos : Pos} (a e it : Addr) :
    Turn P w K (.Tuple elts kk tpos) (IteT K a) [e, it] e (fun i h => (∃ old, IsEnum h e it ((i : Nat) : Int) old) ∧ h.IsTupleIter it a i ∧ e ≠ it) where
  mem := List.mem_cons_self ..
  obj := by
    rintro i h ⟨⟨old, he⟩, ⟨o, ho, hc, hd⟩, _⟩ b hb
    rcases List.mem_cons.mp hb with z | z
    · rw [z]; exact ⟨_, he, fun v q => nomatch q⟩
    · rw [List.mem_singleton.mp z]; exact ⟨o, ho, fun v q => by rw [hd] at q; cases q⟩
  keep := by
    rintro i h h' ⟨⟨old, he⟩, hi, hne⟩ k
    exact ⟨⟨old, k e (by simp) _ he⟩, hi.at fun o q => k it (by simp) o q, hne⟩
  item := by
    intro X hP hw hK hc i pins s σ H E I hf st hg
    subst hP hw hK
    obtain ⟨⟨old, he⟩, hit, hne⟩ := st
    obtain ⟨xs, x, hq, hx⟩ := hg
    obtain ⟨its, rv, tp, hz⟩ := I.tuple hq
    obtain ⟨u, hu, ru⟩ := rv.get hx
    have hel : e < s.heap.objs.size := Heap.lt_size he
    have hil : it < s.heap.objs.size := by obtain ⟨_, q, _⟩ := hit; exact Heap.lt_size q
    obtain ⟨ot, hot, hct, nt, hdt⟩ := tp
    have nai : a ≠ it := fun z => by
      obtain ⟨oi, hoi, hci, _⟩ := hit
      rw [← z, hot] at hoi
      cases hoi
      rw [hct] at hci
      exact absurd (Value.type.inj hci) (by decide)
    have nae : a ≠ e := fun z => by
      have he' := he
      rw [IsEnum, ← z, hot] at he'
      cases he'
      exact absurd (Value.type.inj hct) (by decide)
    have hlt : i < its.toArray.size := by
      rw [List.size_toArray]
      exact (List.getElem?_eq_some_iff.mp hu).1
    refine wpAny_pyNext_enum_itemD (Draws.tuple (A := X.A.in1) (I.ok.hd hc) it a nai its.toArray) he ⟨hit, ⟨ot, hot, hct, nt, hdt⟩⟩ hlt hne (by simp [hne, Ne.symm nae]) fun u' g tk hP ho hst' hT hsz hk => ?_
    have eu : u' = u := by
      have h1 : its.toArray[i]? = some u' := hP
      rw [List.getElem?_toArray, hu] at h1
      exact (Option.some.inj h1).symm
    subst eu
    refine ⟨_, rfl, wpAny_letOwnedTupleGo_enum (s := { s with heap := g, toks := tk + 1 }) ho fun g2 he' sb => ?_⟩
    have hT2 : g2.get? s.heap.objs.size = some { cls := .type "tuple", data := .seq #[.int i tk, u'] } := (sb.2 _ (Nat.ne_of_gt hel)).trans hT
    have I1 : Inv X pins σ (upd H s.heap.objs.size (.tup [.int (i : Nat), x])) { s with heap := g2, toks := tk + 1 } :=
      I.turnedNew (ch := [e, it]) (fun b ob hb q => (sb.2 b (fun z => hb (by simp [z]))).trans (hk b ob (fun z => hb (by simp [z])) (fun z => hb (by simp [z])) q)) hf (Nat.le_refl _)
        ⟨by show 2 ≤ sizeLine; decide, [.int i tk, u'], .cons ⟨_, rfl⟩ (.cons ru .nil), ⟨_, hT2, rfl, _, rfl⟩⟩
    refine ⟨.ref s.heap.objs.size, _, I1, rfl, ⟨_, x, rfl, I.hok.fresh (Nat.le_refl _), rfl, fun ys hy => by rw [I.tuple_inj hy hq]; exact hx⟩, ⟨⟨u', ?_⟩, hst'.1.at fun o q => (sb.2 it (Ne.symm hne)).trans q, hne⟩, fun b hb => ?_⟩
    · have e1 : ((i + 1 : Nat) : Int) = (i : Int) + 1 := by omega
      rw [e1]
      exact he'
    · have hb' : b < s.heap.objs.size := by
        rcases List.mem_cons.mp hb with z | z
        · rw [z]; exact hel
        · rw [List.mem_singleton.mp z]; exact hil
      rw [upd_ne (Nat.ne_of_lt hb')]
      exact (hf b hb).1
  done := by
    intro X hP hw hK hc i pins s σ H E I hf st hg
    subst hP hw hK
    obtain ⟨⟨old, he⟩, hit, hne⟩ := st
    obtain ⟨xs, hq, hx⟩ := hg
    obtain ⟨its, rv, tp, hz⟩ := I.tuple hq
    obtain ⟨f0, f1, f2, f3, f4, f5⟩ := hf it (by simp)
    have hl := rv.length
    have hT : s.TypeIs (.ref e) "enumerate" := ⟨_, he, rfl⟩
    unfold pyNext
    refine wpAny_bind (wpAny_attempt (wpAny_callSpecial?_slot (name := Str.ofString "__next__") hT F.slot_enumerate_next
      (wpAny_call_entry F.slot_enumerate_next hT F.entry_enumerate_next ?_ (F.args_enumerate_next_1 _))))
    show wpAny _ _ (field (.ref e) 2 >>= _) _ _ _
    refine wpAny_bind (wpAny_field he rfl (x := .ref it) rfl ?_)
    refine wpAny_bind (wpAny_nextOf_tuple_end (I.ok.hd hc) hit tp (by simp; omega) fun g x eb hx' => ?_)
    obtain ⟨o, ho, hcl⟩ := hx'
    refine wpAny_bind (wpAny_isInstance (T := "StopIteration") (b := true) ⟨o, ho, hcl⟩ isSubtype_stop ?_)
    exact wpAny_pure ⟨rfl, I.turned (t' := s.toks) (fun b o hb q => eb b o hb q) f0 f1 f3 f4 f5⟩
  self := fun A i s Q E st h => let ⟨⟨_, he⟩, _⟩ := st; wpAny_pyIter_enum he h
def iEnumT (K : PySem.W.Frag) (ta : TA) : TI := fun σ H R => ta σ H fun vs H1 => ∃ a xs, vs = [.ref a] ∧ SqT K H1 a xs ∧ R (IteT K a) H1
theorem pi_enumT {X : Cx} {e : Expr} {ta : TA} {p pos tpos : Pos} {elts : List Expr} {kk : Nat} (hg : Gl X "enumerate") (hm : X.mg "enumerate" = none) (ha : PA X [e] ta) (hs : starEach [e] X.env = [(false, eval e X.env)] := by rfl) :
    PI X (.Tuple elts kk tpos) (.Call (.Name "enumerate" p) [e] [] pos) (iEnumT X.K ta) := by
  refine ⟨fun pins s σ H R I h => ?_⟩
  refine Call_ (ld_blt I hg hm boot_enumerate (PyProof.Rows.callWith_type1 (thn (ha.run pos pins s σ H _ I h) fun us s1 ⟨vs, H1, I1, r1, q1⟩ => ?_) hs rfl))
  obtain ⟨a, xs, rfl, hq, q⟩ := q1
  rw [Vals.ref1 r1]
  obtain ⟨its, rv, tp, hz⟩ := I1.tuple hq
  refine call_enum1 (begins_tuple a its.toArray) tp fun g he hit hk => wpAny_pyIter_enum he ?_
  have I2 : Inv X pins σ H1 { s1 with heap := g } := I1.kept (t' := s1.toks) hk
  refine ⟨s1.heap.objs.size + 1, [s1.heap.objs.size + 1, s1.heap.objs.size], _, _, H1, rfl, I2, turn_enumT a (s1.heap.objs.size + 1) s1.heap.objs.size, ⟨⟨.none, he⟩, ⟨_, hit, rfl, rfl⟩, Nat.succ_ne_self _⟩, fun b hb => ?_, q⟩
  have hle : s1.heap.objs.size ≤ b := by
    rcases List.mem_cons.mp hb with z | z
    · rw [z]; exact Nat.le_succ _
    · rw [List.mem_singleton.mp z]; exact Nat.le_refl _
  exact I1.fpOk hle (I1.hok.fresh hle)
theorem walk_enumT {K : PySem.W.Frag} {a : Addr} {xs : List V} : Walk (IteT K a) xs.length (fun H => SqT K H a xs) (YPair (fun i => some (.int (i : Nat))) (fun i => xs[i]?)) := by
  refine ⟨fun i _ hi q => ⟨xs, xs[i], q, List.getElem?_eq_getElem hi⟩, fun _ q => ⟨xs, q, Nat.le_refl _⟩, fun i H v H' _ q y => ?_⟩
  obtain ⟨T, x, y1, y2, y3, y4⟩ := y
  exact ⟨T, .int (i : Nat), x, y1, y2, y3, rfl, y4 xs q⟩
end Rg
namespace K
open PySem L2 Rg
open Evl (pss_cut)
def top (i : Nat) : Stmt := PySem.Challenge.pw_ringbars_k50_whole_lineups_by_nets.main.body.getD i (.Pass ⟨0, 0, 0, 0⟩)
abbrev sWall : Stmt := top 0
abbrev sFixed : Stmt := top 2
abbrev sPaperInit : Stmt := inClass (top 3) 0
abbrev sPaperEq : Stmt := inClass (top 3) 1
abbrev sPaperBool : Stmt := inClass (top 3) 2
abbrev sDenialEq : Stmt := inClass (top 4) 0
abbrev sDenialBool : Stmt := inClass (top 4) 1
abbrev sAreEqual : Stmt := top 5
abbrev sIsInteger : Stmt := top 7
abbrev sIsWithin : Stmt := top 8
abbrev sIsList : Stmt := top 9
abbrev sIsNumbers : Stmt := top 10
abbrev sBadRingInit : Stmt := inClass (top 13) 0
abbrev sBadLineUpInit : Stmt := inClass (top 14) 0
abbrev sMisfitInit : Stmt := inClass (top 15) 0
abbrev sTooManyInit : Stmt := inClass (top 16) 0
abbrev sBadTextInit : Stmt := inClass (top 17) 0
abbrev sWantAsMany : Stmt := top 19
abbrev sItemsOf : Stmt := top 22
abbrev sIntegerOf : Stmt := top 23
abbrev sItemAt : Stmt := top 24
abbrev sNumberAt : Stmt := top 25
abbrev sRingInit : Stmt := inClass (top 30) 0
abbrev sRingLen : Stmt := inClass (top 30) 1
abbrev sRingEq : Stmt := inClass (top 30) 2
abbrev sRingStr : Stmt := inClass (top 30) 3
abbrev sRingLengthOf : Stmt := inClass (top 30) 4
abbrev sRingSortOf : Stmt := inClass (top 30) 5
abbrev sRingWithLength : Stmt := inClass (top 30) 6
abbrev sRingBegunAt : Stmt := inClass (top 30) 7
abbrev sRingBackwards : Stmt := inClass (top 30) 8
abbrev sRingInOrder : Stmt := inClass (top 30) 9
abbrev sRingAsOne : Stmt := inClass (top 30) 10
abbrev sRingInTwo : Stmt := inClass (top 30) 11
abbrev sRingRead : Stmt := inClass (top 30) 12
abbrev sAreLengths : Stmt := top 31
abbrev sHasLevel : Stmt := top 32
abbrev sReadRing : Stmt := top 33
abbrev sWantRing : Stmt := top 34
abbrev sLineUpInit : Stmt := inClass (top 36) 0
abbrev sLineUpEq : Stmt := inClass (top 36) 1
abbrev sLineUpStr : Stmt := inClass (top 36) 2
abbrev sLineUpRead : Stmt := inClass (top 36) 3
abbrev sAreStrands : Stmt := top 37
abbrev sIsStrand : Stmt := top 38
abbrev sAsStrand : Stmt := top 39
abbrev sLineupItems : Stmt := top 40
abbrev sItemOf : Stmt := top 41
abbrev sReadLineup : Stmt := top 42
abbrev sPairsNext : Stmt := top 43
abbrev sNetsInit : Stmt := inClass (top 45) 0
abbrev sTooGreatInit : Stmt := inClass (top 46) 0
abbrev sCanLine : Stmt := top 47
abbrev sNetsOf : Stmt := top 48
abbrev sTooGreat : Stmt := top 49
abbrev sWantLineup : Stmt := top 50
abbrev sWantLined : Stmt := top 51
abbrev sLwBench : Stmt := top 53
abbrev sLwDraw : Stmt := top 54
abbrev sLwPick : Stmt := top 55
abbrev sLwMixed : Stmt := top 56
abbrev sLwLengths : Stmt := top 57
abbrev sLwStrands : Stmt := top 58
abbrev sLwRight : Stmt := top 59
abbrev sLwNets : Stmt := top 60
abbrev sLwIsHome : Stmt := top 61
abbrev sLwPaperRight : Stmt := top 62
abbrev sLwParted : Stmt := top 63
abbrev sLwPulled : Stmt := top 64
abbrev sLwRenumberedRight : Stmt := top 65
abbrev sLwHeard : Stmt := top 66
abbrev sLwRefusedRight : Stmt := top 67
abbrev sLaw : Stmt := top 68

/-- all but what stands at p is as it was -/
def But (p : Addr) (H H' : Hp) : Prop := ∀ b o, b ≠ p → H b = some o → H' b = some o
theorem But.refl (p : Addr) (H : Hp) : But p H H := fun _ _ _ h => h
theorem But.trans {p : Addr} {H H1 H2 : Hp} (a : But p H H1) (b : But p H1 H2) : But p H H2 := fun c o n h => b c o n (a c o n h)
theorem But.new {p q : Addr} {H H' : Hp} {o : HO} (a : But p H H') (n : H' q = none) : But p H (upd H' q o) := fun c u hc h => by
  have e := a c u hc h
  rw [upd_ne (ne_of_none e n)]
  exact e
theorem But.at {p : Addr} {H H' : Hp} {o : HO} (a : But p H H') : But p H (upd H' p o) := fun c u hc h => by
  rw [upd_ne hc]
  exact a c u hc h
theorem But.seq {K : PySem.W.Frag} {p a : Addr} {H H' : Hp} {xs : List V} (e : But p H H') (n : a ≠ p) (h : SqL K H a xs) : SqL K H' a xs := by
  rcases h with (h | ⟨o, h⟩) | h
  · exact .inl (.inl (e _ _ n h))
  · exact .inl (.inr ⟨o, e _ _ n h⟩)
  · exact .inr h
/-- the pen: its cells, how many were begun (at most n), what a great one has left -/
structure PenAt (K : PySem.W.Frag) (H : Hp) (p : Addr) (e : Addr × List Int) (n : Nat) : Prop where
  ex : ∃ (at' rest : Int), H p = some (.lst [.ref e.1, .int at', .int rest]) ∧ 0 ≤ at' ∧ at' ≤ n ∧ 0 ≤ rest
  sq : SqL K H e.1 (e.2.map V.int)
  np : e.1 ≠ p
  ln : e.2.length ≤ 62
theorem But.of {p : Addr} {H H' : Hp} (e : Same H H') : But p H H' := fun b o _ h => e b o h
theorem But.mut {p q : Addr} {H H' : Hp} {o : HO} (a : But p H H') (n : H q = none) : But p H (upd H' q o) := fun c u hc h => by
  have e := a c u hc h
  rw [upd_ne (ne_of_none h n)]
  exact e
theorem But.free {p q : Addr} {H H' : Hp} (a : But p H H') (hq : q ≠ p) (n : H' q = none) : H q = none := by
  cases e : H q with
  | none => rfl
  | some o =>
    rw [a q o hq e] at n
    cases n
theorem But.tup {K : PySem.W.Frag} {p a : Addr} {H H' : Hp} {xs : List V} (e : But p H H') (n : a ≠ p) (h : SqT K H a xs) : SqT K H' a xs := by
  rcases h with (h | ⟨o, h⟩) | h
  · exact .inl (.inl (e _ _ n h))
  · exact .inl (.inr ⟨o, e _ _ n h⟩)
  · exact .inr h
theorem _root_.L2.Same.new {q : Addr} {H H' : Hp} {o : HO} (a : Same H H') (n : H' q = none) : Same H (upd H' q o) := fun c u h => by
  have e := a c u h
  rw [upd_ne (ne_of_none e n)]
  exact e
theorem _root_.L2.Same.mut {q : Addr} {H H' : Hp} {o : HO} (a : Same H H') (n : H q = none) : Same H (upd H' q o) := fun c u h => by
  have e := a c u h
  rw [upd_ne (ne_of_none h n)]
  exact e
theorem _root_.L2.Same.tup {K : PySem.W.Frag} {a : Addr} {H H' : Hp} {xs : List V} (e : Same H H') (h : SqT K H a xs) : SqT K H' a xs := by
  rcases h with (h | ⟨o, h⟩) | h
  · exact .inl (.inl (e _ _ h))
  · exact .inl (.inr ⟨o, e _ _ h⟩)
  · exact .inr h
section
variable {K : PySem.W.Frag} {H H' : Hp} {p q : Addr} {e : Addr × List Int} {n m : Nat} {o : HO}
theorem PenAt.mono (h : PenAt K H p e n) (le : n ≤ m) : PenAt K H p e m := by
  obtain ⟨a, r, h1, h5, h6, h7⟩ := h.ex
  exact ⟨⟨a, r, h1, h5, by omega, h7⟩, h.sq, h.np, h.ln⟩
/-- the pen stands while all that is tracked stands -/
theorem PenAt.same (h : PenAt K H p e n) (s : Same H H') : PenAt K H' p e n := by
  obtain ⟨a, r, h1, h5, h6, h7⟩ := h.ex
  exact ⟨⟨a, r, s _ _ h1, h5, h6, h7⟩, s.seq h.sq, h.np, h.ln⟩
theorem PenAt.some (h : PenAt K H p e n) : ∃ xs, H p = some (.lst xs) := by
  obtain ⟨a, r, h1, _⟩ := h.ex
  exact ⟨_, h1⟩
theorem PenAt.ne (h : PenAt K H p e n) (z : H q = none) : q ≠ p := by
  obtain ⟨xs, h1⟩ := h.some
  exact (ne_of_none h1 z).symm
/-- the pen stands while a new thing is laid -/
theorem PenAt.put (h : PenAt K H p e n) (z : H q = none) : PenAt K (upd H q o) p e n := h.same (Same.new (Same.refl H) z)
/-- .. while a thing is written that was not there ahead -/
theorem PenAt.mut (h : PenAt K H p e m) (h2 : PenAt K H' p e n) (b : But p H H') (z : H q = none) : PenAt K (upd H' q o) p e n := by
  obtain ⟨a, r, h1, h5, h6, h7⟩ := h2.ex
  exact ⟨⟨a, r, by rw [upd_ne (h.ne z).symm]; exact h1, h5, h6, h7⟩, (b.mut z).seq h.np h.sq, h.np, h.ln⟩
end
/-- the built-ins that the text names -/
structure Bi (mg : Str → Option Value) : Prop where
  int : mg "int" = none
  len : mg "len" = none
  abs : mg "abs" = none
  list : mg "list" = none
  tuple : mg "tuple" = none
  bool : mg "bool" = none
  range : mg "range" = none
  sum : mg "sum" = none
  max : mg "max" = none
  all : mg "all" = none
  any : mg "any" = none
  sorted : mg "sorted" = none
  enumerate : mg "enumerate" = none
  isinstance : mg "isinstance" = none
section
variable {K : PySem.W.Frag}
theorem eqv_nil (l : List Int) : PyData.eqv (.list (l.map PyData.int)) (.list []) = l.isEmpty := by
  cases l <;> simp [PyData.eqv, PyData.eqvAll] <;> rfl
theorem dp_ints {H : Hp} : ∀ l : List Int, DpAll K H (l.map V.int) (l.map PyData.int)
  | [] => .nil
  | i :: l => .cons (.int i) (dp_ints l)
theorem lay_ints : ∀ l : List Int, PyData.canLayAll0 (l.map PyData.int) = true
  | [] => by simp [PyData.canLayAll0]
  | i :: l => by simp [PyData.canLayAll0, PyData.canLay0, lay_ints l]
theorem deep_ints : ∀ l : List Int, PyData.depthAll (l.map PyData.int) = 0
  | [] => by simp [PyData.depthAll]
  | i :: l => by simp [PyData.depthAll, PyData.depth, deep_ints l]
theorem shaped_ints (l : List Int) : SeqAt.shaped (.list (l.map PyData.int)) = true := by
  simp [SeqAt.shaped, PyData.canLay0, PyData.depth, lay_ints l, deep_ints l]
end
end K
namespace K
open PySem L2 Rg
open Evl (pss_cut)
/-- the kinds that are asked for -/
def kinds : List String := ["NoneType", "bool", "int", "str", "list", "tuple", "dict"]
theorem kit_int : ∀ k ∈ kinds, kitB k "int" = some (decide (k = "int" ∨ k = "bool")) := by decide +kernel
theorem kit_bool : ∀ k ∈ kinds, kitB k "bool" = some (decide (k = "bool")) := by decide +kernel
theorem kit_list : ∀ k ∈ kinds, kitB k "list" = some (decide (k = "list")) := by decide +kernel
theorem kit_tuple : ∀ k ∈ kinds, kitB k "tuple" = some (decide (k = "tuple")) := by decide +kernel
/-- v is of the kind k -/
def Knd (K : PySem.W.Frag) (H : Hp) (v : V) (k : String) : Prop := TyX K H v (.type k) ∧ k ∈ kinds
section
variable {P : Program} {w : World} {K : PySem.W.Frag} {mg : Str → Option Value} {base : Heap}
theorem Knd.int {H : Hp} {i : Int} : Knd K H (.int i) "int" := ⟨.base (.int i), by decide⟩
theorem tyx_same {H H' : Hp} {v : V} {t : Value} (h : TyX K H v t) (s : Same H H') : TyX K H' v t := by
  cases h with
  | base h =>
    refine .base ?_
    cases h with
    | non => exact .non
    | bl x => exact .bl x
    | int x => exact .int x
    | str x => exact .str x
    | flt x => exact .flt x
    | lst e => exact .lst (s _ _ e)
    | frz e => exact .frz (s _ _ e)
    | tup e => exact .tup (s _ _ e)
    | dK e => exact .dK (s _ _ e)
    | dT e => exact .dT (s _ _ e)
    | ins e cl ha hn htk hm => exact .ins (s _ _ e) cl ha hn htk hm
  | byt b => exact .byt b
  | set e => exact .set (s _ _ e)
  | kList e c => exact .kList e c
  | kTuple e c => exact .kTuple e c
  | kDict e c => exact .kDict e c
  | fTuple e => exact .fTuple (s _ _ e)
  | fDict e => exact .fDict (s _ _ e)
theorem Knd.same {H H' : Hp} {v : V} {k : String} (h : Knd K H v k) (s : Same H H') : Knd K H' v k := ⟨tyx_same h.1 s, h.2⟩
/-! ### is_integer -/
def spIsInt (K : PySem.W.Frag) : Sp := fun vs H Q _ => ∃ (v : V) (k : String), vs = [v] ∧ Knd K H v k ∧ Q (.bl (decide (k = "int"))) H
theorem scIsInt : FnScope ["value"] ["value"] (defScope sIsInteger) := ⟨rfl, rfl, rfl, by decide +kernel, rfl, by decide +kernel, by decide +kernel⟩
theorem ok_isInt {f : Addr} {fd : FuncData} (F : Fun K "is_integer" "is_integer" sIsInteger f fd) (T : Bi mg) : FnOk P w K mg base CX0 1 f fd ["value"] (spIsInt K) := by
  refine F.ok scIsInt (fun vs H Q E h => ?_) (fun cdv A outer s H vs Q E hr h => ?_)
  · obtain ⟨v, k, rfl, _⟩ := h
    rfl
  · refine ⟨_, pss_one (ps_ret (pe_and (pe_callB call_isi (by rfl) T.isinstance (by decide +kernel) (pa_cons (pv 0) (pa_cons (pe_bltn (v := .ty "int") (u := .type "int") (by rfl) T.int (by decide +kernel) rfl) pa_nil)))
      (pe_one (pe_not (pe_callB call_isi (by rfl) T.isinstance (by decide +kernel) (pa_cons (pv 0) (pa_cons (pe_bltn (v := .ty "bool") (u := .type "bool") (by rfl) T.bool (by decide +kernel) rfl) pa_nil))))))), ?_⟩
    obtain ⟨v, k, rfl, ⟨ty, hk⟩, q⟩ := h
    refine ⟨_, rfl, v, .ty "int", _, _, _, rfl, .ty _, ty, kit_ty (kit_int k hk), _, rfl, ?_⟩
    refine ite2 (fun c => ?_) (fun c => ?_)
    · refine ⟨_, rfl, v, .ty "bool", _, _, _, rfl, .ty _, ty, kit_ty (kit_bool k hk), _, rfl, ?_⟩
      have c' : k = "int" ∨ k = "bool" := of_decide_eq_true c
      have e : (!decide (k = "bool")) = decide (k = "int") := by
        rcases c' with rfl | rfl <;> decide
      rw [e]
      exact q
    · have c' : ¬ (k = "int" ∨ k = "bool") := fun z => c (decide_eq_true z)
      have e : decide (k = "int") = false := decide_eq_false fun z => c' (.inl z)
      rw [e] at q
      exact q
/-! ### is_list -/
def spIsList (K : PySem.W.Frag) : Sp := fun vs H Q _ => ∃ (v : V) (k : String), vs = [v] ∧ Knd K H v k ∧ ∀ H', Same H H' → Q (.bl (decide (k = "list" ∨ k = "tuple"))) H'
theorem scIsList : FnScope ["value"] ["value"] (defScope sIsList) := ⟨rfl, rfl, rfl, by decide +kernel, rfl, by decide +kernel, by decide +kernel⟩
theorem ok_isList {f : Addr} {fd : FuncData} (F : Fun K "is_list" "is_list" sIsList f fd) (T : Bi mg) : FnOk P w K mg base CX0 1 f fd ["value"] (spIsList K) := by
  refine F.ok scIsList (fun vs H Q E h => ?_) (fun cdv A outer s H vs Q E hr h => ?_)
  · obtain ⟨v, k, rfl, _⟩ := h
    rfl
  · refine ⟨_, pss_one (ps_ret (pe_callB call_isiT (by rfl) T.isinstance (by decide +kernel) (pa_cons (pv 0) (pa_cons (pe_tup (pa_cons (pe_bltn (v := .ty "list") (u := .type "list") (by rfl) T.list (by decide +kernel) rfl) (pa_cons (pe_bltn (v := .ty "tuple") (u := .type "tuple") (by rfl) T.tuple (by decide +kernel) rfl) pa_nil))) pa_nil)))), ?_⟩
    obtain ⟨v, k, rfl, ⟨ty, hk⟩, q⟩ := h
    refine ⟨_, rfl, (by show 2 ≤ sizeLine; decide), fun p hp => ?_⟩
    have s1 : Same H (upd H p (.tup [.ty "list", .ty "tuple"])) := (Same.refl H).new hp
    refine ⟨v, p, [.ty "list", .ty "tuple"], _, _, decide (k = "list" ∨ k = "tuple"), rfl, upd_same, .cons (.ty _) (.cons (.ty _) .nil), tyx_same ty s1, kitAny_cons (kit_ty (kit_list k hk)) (fun e => kitAny_cons (b := decide (k = "tuple")) (r := decide (k = "list" ∨ k = "tuple")) (kit_ty (kit_tuple k hk)) (fun e' => ?_) fun e' => ?_) fun e => ?_, q _ s1⟩
    · have h1 : ¬ k = "list" := of_decide_eq_false e
      have h2 : ¬ k = "tuple" := of_decide_eq_false e'
      rw [kitAny_nil, decide_eq_false (fun z => z.elim h1 h2)]
    · exact decide_eq_true (.inr (of_decide_eq_true e'))
    · exact decide_eq_true (.inl (of_decide_eq_true e))
end
end K
namespace K
open PySem L2 Rg
open Evl (pss_cut)
theorem iteDT {c A B : Prop} [Decidable c] (hc : c) (h : A) : if decide c = true then A else B := by
  rw [if_pos (decide_eq_true hc)]; exact h
theorem iteDF {c A B : Prop} [Decidable c] (hc : ¬ c) (h : B) : if decide c = true then A else B := by
  rw [if_neg (by rw [decide_eq_false hc]; exact Bool.false_ne_true)]; exact h
theorem iteBT {c : Bool} {A B : Prop} (hc : c = true) (h : A) : if c = true then A else B := by
  rw [if_pos hc]; exact h
theorem iteBF {c : Bool} {A B : Prop} (hc : c = false) (h : B) : if c = true then A else B := by
  rw [if_neg (by rw [hc]; exact Bool.false_ne_true)]; exact h
theorem sm {n : Nat} (h : n ≤ 10000) : n < sizeLine := Nat.lt_of_le_of_lt h (by decide)
/-- a def of the text, by its name -/
structure DefAt (P : Program) (w : World) (K : PySem.W.Frag) (mg : Str → Option Value) (base : Heap) (CX : CXT) (k : Nat) (x : Str) (ps : List Str) (sp : Sp) (f : Addr) (fd : FuncData) : Prop where
  ok : FnOk P w K mg base CX k f fd ps sp
  g : mg x = some (.ref f)
  kp : PySem.W.keepIn K (.ref f) = true
  b : Binds K fd ps []
section
variable {P : Program} {w : World} {K : PySem.W.Frag} {mg : Str → Option Value} {base : Heap}
/-- two promises of one def -/
theorem fn_or {CX : CXT} {k : Nat} {f : Addr} {fd : FuncData} {ps : List Str} {sp sp' : Sp} (F : FnOk P w K mg base CX k f fd ps sp) (G : FnOk P w K mg base CX k f fd ps sp') : FnOk P w K mg base CX k f fd ps (fun vs H Q E => sp vs H Q E ∨ sp' vs H Q E) :=
  ⟨fun vs H Q E h => h.elim (F.len vs H Q E) (G.len vs H Q E), fun A outer s H args us vs Q E hr e0 hb hv h => h.elim (F.run A outer s H args us vs Q E hr e0 hb hv) (G.run A outer s H args us vs Q E hr e0 hb hv)⟩
/-! ### is_within, of ints -/
def spWithin : Sp := fun vs H Q _ => ∃ (v lo hi : Int), vs = [.int v, .int lo, .int hi] ∧ Q (.bl (decide (lo ≤ v) && decide (v ≤ hi))) H
theorem scWithin : FnScope ["value", "least", "most"] ["value", "least", "most"] (defScope sIsWithin) := ⟨rfl, rfl, rfl, by decide +kernel, rfl, by decide +kernel, by decide +kernel⟩
theorem ok_within {f fI : Addr} {fd fdI : FuncData} (F : Fun K "is_within" "is_within" sIsWithin f fd) (G : DefAt P w K mg base CX0 1 "is_integer" ["value"] (spIsInt K) fI fdI) : FnOk P w K mg base CX0 2 f fd ["value", "least", "most"] spWithin := by
  refine F.ok scWithin (fun vs H Q E h => ?_) (fun cdv A outer s H vs Q E hr h => ?_)
  · obtain ⟨v, lo, hi, rfl, _⟩ := h
    rfl
  · refine ⟨_, pss_cons (ps_if (pt_not (pt_val (pe_call G.ok hr rfl G.g G.kp G.b .nil pass0 (pa_cons (pv 0) pa_nil)))) (pss_one (ps_ret pe_bl)) pss_nil)
      (pss_one (ps_ret (pe_and (pe_or (pe_cmpR op_isN (pv 1) pe_non (nomark _)) (pe_one (pe_cmpR op_ge (pv 0) (pv 1) (nomark _)))) (pe_one (pe_or (pe_cmpR op_isN (pv 2) pe_non (nomark _)) (pe_one (pe_cmpR op_le (pv 0) (pv 2) (nomark _)))))))), ?_⟩
    obtain ⟨v, lo, hi, rfl, q⟩ := h
    refine ⟨_, rfl, V.int v, "int", rfl, Knd.int, _, rfl, iteNS rfl ?_⟩
    refine ⟨_, rfl, rfl, _, rfl, iteDF (fun z => nomatch z) ⟨_, rfl, _, rfl, _, _, rfl, rfl, _, rfl, ?_⟩⟩
    refine ite2 (fun c => ?_) (fun c => ?_)
    · have c' : lo ≤ v := of_decide_eq_true c
      refine ⟨_, rfl, rfl, _, rfl, iteDF (fun z => nomatch z) ⟨_, rfl, _, rfl, _, _, rfl, rfl, ?_⟩⟩
      rw [decide_eq_true c', Bool.true_and] at q
      exact q
    · have c' : ¬ lo ≤ v := fun z => c (decide_eq_true z)
      rw [decide_eq_false c', Bool.false_and] at q
      exact q
/-! ### is_numbers -/
abbrev nNums : List Str := ["value", "one"]
theorem scNums : FnScope nNums ["value"] (defScope sIsNumbers) := ⟨rfl, rfl, rfl, by decide +kernel, rfl, by decide +kernel, by decide +kernel⟩
/-- of what is no list or tuple | of a list | of a tuple -/
def spNumsO (K : PySem.W.Frag) : Sp := fun vs H Q _ => ∃ (v : V) (k : String), vs = [v] ∧ Knd K H v k ∧ k ≠ "list" ∧ k ≠ "tuple" ∧ ∀ H', Same H H' → Q (.bl false) H'
def spNumsL (K : PySem.W.Frag) : Sp := fun vs H Q _ => ∃ (a : Addr) (xs : List V) (kf : V → String), vs = [.ref a] ∧ Knd K H (.ref a) "list" ∧ SqL K H a xs ∧ xs.length ≤ 1000 ∧ (∀ x ∈ xs, Knd K H x (kf x)) ∧ ∀ H', Same H H' → Q (.bl (xs.all fun x => decide (kf x = "int"))) H'
def spNumsT (K : PySem.W.Frag) : Sp := fun vs H Q _ => ∃ (a : Addr) (xs : List V) (kf : V → String), vs = [.ref a] ∧ Knd K H (.ref a) "tuple" ∧ SqT K H a xs ∧ xs.length ≤ 1000 ∧ (∀ x ∈ xs, Knd K H x (kf x)) ∧ ∀ H', Same H H' → Q (.bl (xs.all fun x => decide (kf x = "int"))) H'
theorem all_map_bl (xs : List V) (g : V → Bool) : ((xs.map g).all id) = xs.all g := by
  rw [List.all_map]; rfl
theorem ok_numsO {f fI fL : Addr} {fd fdI fdL : FuncData} (F : Fun K "is_numbers" "is_numbers" sIsNumbers f fd) (T : Bi mg) (G : DefAt P w K mg base CX0 1 "is_integer" ["value"] (spIsInt K) fI fdI) (L : DefAt P w K mg base CX0 1 "is_list" ["value"] (spIsList K) fL fdL) : FnOk P w K mg base CX0 2 f fd ["value"] (spNumsO K) := by
  refine F.ok scNums (fun vs H Q E h => ?_) (fun cdv A outer s H vs Q E hr h => ?_)
  · obtain ⟨v, k, rfl, _⟩ := h
    rfl
  · refine ⟨_, pss_one (ps_ret (pe_and (pe_call L.ok hr rfl L.g L.kp L.b .nil pass0 (pa_cons (pv 0) pa_nil)) (pe_one (pe_callB (cr_all rfl) (by rfl) T.all (by decide +kernel) (pa_cons (pe_lc (own := [("one", 1)]) (g := gName 1) (tt := tYes) rfl scNums.nd (pi_list (pv 0))
      (blkOk_by (N := nNums) (sc := defScope sIsNumbers) (by decide +kernel)) (fun _ _ _ _ _ => pg_name (i := 1) scNums.nd rfl (Or.inl rfl)) (fun _ _ _ _ _ => pts_nil) (fun _ _ _ _ _ => pe_call G.ok hr rfl G.g G.kp G.b .nil pass0 (pa_cons (pv 1) pa_nil))) pa_nil))))), ?_⟩
    obtain ⟨v, k, rfl, hk, k1, k2, q⟩ := h
    exact ⟨_, rfl, v, k, rfl, hk, fun H' s1 => ⟨_, rfl, iteDF (fun z => z.elim k1 k2) (q H' s1)⟩⟩
theorem ok_numsL {f fI fL : Addr} {fd fdI fdL : FuncData} (F : Fun K "is_numbers" "is_numbers" sIsNumbers f fd) (T : Bi mg) (G : DefAt P w K mg base CX0 1 "is_integer" ["value"] (spIsInt K) fI fdI) (L : DefAt P w K mg base CX0 1 "is_list" ["value"] (spIsList K) fL fdL) : FnOk P w K mg base CX0 2 f fd ["value"] (spNumsL K) := by
  refine F.ok scNums (fun vs H Q E h => ?_) (fun cdv A outer s H vs Q E hr h => ?_)
  · obtain ⟨v, k, kf, rfl, _⟩ := h
    rfl
  · refine ⟨_, pss_one (ps_ret (pe_and (pe_call L.ok hr rfl L.g L.kp L.b .nil pass0 (pa_cons (pv 0) pa_nil)) (pe_one (pe_callB (cr_all rfl) (by rfl) T.all (by decide +kernel) (pa_cons (pe_lc (own := [("one", 1)]) (g := gName 1) (tt := tYes) rfl scNums.nd (pi_list (pv 0))
      (blkOk_by (N := nNums) (sc := defScope sIsNumbers) (by decide +kernel)) (fun _ _ _ _ _ => pg_name (i := 1) scNums.nd rfl (Or.inl rfl)) (fun _ _ _ _ _ => pts_nil) (fun _ _ _ _ _ => pe_call G.ok hr rfl G.g G.kp G.b .nil pass0 (pa_cons (pv 1) pa_nil))) pa_nil))))), ?_⟩
    obtain ⟨a, xs, kf, rfl, hk, hs, hl, hx, q⟩ := h
    refine ⟨_, rfl, _, "list", rfl, hk, fun H1 s1 => ⟨_, rfl, iteDT (.inl rfl) ?_⟩⟩
    refine ⟨_, rfl, a, rfl, ⟨_, s1.seq hs⟩, fun D hD => ?_⟩
    have hD0 := s1.free hD
    refine lc_list (K := K) (a := a) (xs := xs) (fun i H' => Same H H' ∧ H' D = some (.lst ((xs.take i).map fun x => V.bl (decide (kf x = "int"))))) ⟨s1.new hD, upd_same⟩ (fun i H' _ p => p.1.seq hs) ?_ ?_
    · rintro i x H' hi ⟨s2, h2⟩
      refine ⟨rfl, _, rfl, x, kf x, rfl, (hx x (List.mem_of_getElem? hi)).same s2, _, h2, (by rw [List.length_map, List.length_take]; exact sm (by omega)), s2.mut hD0, ?_⟩
      rw [upd_same, List.take_succ, hi, List.map_append]
      rfl
    · rintro H' ⟨s2, h2⟩
      rw [List.take_length] at h2
      refine ⟨D, xs.map fun x => decide (kf x = "int"), rfl, SqL.of (by rw [List.map_map]; exact h2), ?_⟩
      rw [all_map_bl]
      exact q H' s2
theorem ok_numsT {f fI fL : Addr} {fd fdI fdL : FuncData} (F : Fun K "is_numbers" "is_numbers" sIsNumbers f fd) (T : Bi mg) (G : DefAt P w K mg base CX0 1 "is_integer" ["value"] (spIsInt K) fI fdI) (L : DefAt P w K mg base CX0 1 "is_list" ["value"] (spIsList K) fL fdL) : FnOk P w K mg base CX0 2 f fd ["value"] (spNumsT K) := by
  refine F.ok scNums (fun vs H Q E h => ?_) (fun cdv A outer s H vs Q E hr h => ?_)
  · obtain ⟨v, k, kf, rfl, _⟩ := h
    rfl
  · refine ⟨_, pss_one (ps_ret (pe_and (pe_call L.ok hr rfl L.g L.kp L.b .nil pass0 (pa_cons (pv 0) pa_nil)) (pe_one (pe_callB (cr_all rfl) (by rfl) T.all (by decide +kernel) (pa_cons (pe_lc (own := [("one", 1)]) (g := gName 1) (tt := tYes) rfl scNums.nd (pi_tup (pv 0))
      (blkOk_by (N := nNums) (sc := defScope sIsNumbers) (by decide +kernel)) (fun _ _ _ _ _ => pg_name (i := 1) scNums.nd rfl (Or.inl rfl)) (fun _ _ _ _ _ => pts_nil) (fun _ _ _ _ _ => pe_call G.ok hr rfl G.g G.kp G.b .nil pass0 (pa_cons (pv 1) pa_nil))) pa_nil))))), ?_⟩
    obtain ⟨a, xs, kf, rfl, hk, hs, hl, hx, q⟩ := h
    refine ⟨_, rfl, _, "tuple", rfl, hk, fun H1 s1 => ⟨_, rfl, iteDT (.inr rfl) ?_⟩⟩
    refine ⟨_, rfl, a, rfl, ⟨_, s1.tup hs⟩, fun D hD => ?_⟩
    have hD0 := s1.free hD
    refine lc_tup (K := K) (a := a) (xs := xs) (fun i H' => Same H H' ∧ H' D = some (.lst ((xs.take i).map fun x => V.bl (decide (kf x = "int"))))) ⟨s1.new hD, upd_same⟩ (fun i H' _ p => p.1.tup hs) ?_ ?_
    · rintro i x H' hi ⟨s2, h2⟩
      refine ⟨rfl, _, rfl, x, kf x, rfl, (hx x (List.mem_of_getElem? hi)).same s2, _, h2, (by rw [List.length_map, List.length_take]; exact sm (by omega)), s2.mut hD0, ?_⟩
      rw [upd_same, List.take_succ, hi, List.map_append]
      rfl
    · rintro H' ⟨s2, h2⟩
      rw [List.take_length] at h2
      refine ⟨D, xs.map fun x => decide (kf x = "int"), rfl, SqL.of (by rw [List.map_map]; exact h2), ?_⟩
      rw [all_map_bl]
      exact q H' s2
end
end K
namespace K
open PySem L2 Rg
open Evl (pss_cut)
def spDraw (K : PySem.W.Frag) : Sp := fun vs H Q _ => ∃ (p : Addr) (e : Addr × List Int) (many : Int) (n : Nat), vs = [.ref p, .int many] ∧ 1 ≤ many ∧ many ≤ 1000000 ∧ n < 1000000 ∧ PenAt K H p e n ∧
  ∀ (r : Int) (H' : Hp), 0 ≤ r → r < many → But p H H' → PenAt K H' p e (n + 1) → Q (.int r) H'
section
variable {P : Program} {w : World} {K : PySem.W.Frag} {mg : Str → Option Value} {base : Heap}
abbrev nDraw : List Str := ["_law_bench_here", "_law_many", "_law_digit", "_law_at", "_law_cell", "_law_great", "_law_mixed_here"]
theorem scDraw : FnScope nDraw ["_law_bench_here", "_law_many"] (defScope sLwDraw) := ⟨rfl, rfl, rfl, by decide +kernel, rfl, by decide +kernel, by decide +kernel⟩
theorem ok_draw {f : Addr} {fd : FuncData} (F : Fun K "_law_draw" "_law_draw" sLwDraw f fd) (T : Bi mg) : FnOk P w K mg base CX0 2 f fd ["_law_bench_here", "_law_many"] (spDraw K) := by
  refine F.ok scDraw (fun vs H Q E h => ?_) (fun cdv A outer s H vs Q E hr h => ?_)
  · obtain ⟨p, e, many, n, rfl, _⟩ := h
    rfl
  · have nd := scDraw.nd
    refine ⟨_, pss_cons (ps_if (pt_cmpR op_gt (pe_ix ix_list (pv 0) pe_int (fun _ _ => rfl)) pe_int (nomark _))
        (pss_cons (ps_set (i := 2) nd rfl (Or.inl rfl) (pe_op op_mod (pe_callTy call_int1 (by rfl) T.int (by decide +kernel) (pa_cons (pe_ix ix_list (pv 0) pe_int (fun _ _ => rfl)) pa_nil)) (pv 1)))
        (pss_cons (ps_asg (pe_op op_fdiv (pe_callTy call_int1 (by rfl) T.int (by decide +kernel) (pa_cons (pe_ix ix_list (pv 0) pe_int (fun _ _ => rfl)) pa_nil)) (pv 1)) (pg_sub (pv 0) pe_int set_list))
        (pss_one (ps_ret (pv 2))))) pss_nil)
      (pss_cons (ps_set (i := 3) nd rfl (Or.inl rfl) (pe_ix ix_list (pv 0) pe_int (fun _ _ => rfl)))
      (pss_cons (ps_asg (pe_op op_add (pv 3) pe_int) (pg_sub (pv 0) pe_int set_list))
      (pss_cons (ps_set (i := 4) nd rfl (Or.inl rfl) (pe_op op_add (pe_op op_mul pe_int (pv 3)) pe_int))
      (pss_cut (ps_if (pt_cmpR (op_neD hr.units) (pe_ix ix_list (pv 0) pe_int (fun _ _ => rfl)) (pe_lst pa_nil) (nomark _))
        (pss_one (ps_set (i := 4) nd rfl (Or.inl rfl) (pe_ix ix_list (pe_ix ix_list (pv 0) pe_int (fun _ _ => rfl)) (pe_op op_mod (pe_callTy call_int1 (by rfl) T.int (by decide +kernel) (pa_cons (pv 3) pa_nil)) (pe_callB call_len_seq (by rfl) T.len PySem.boot_len (pa_cons (pe_ix ix_list (pv 0) pe_int (fun _ _ => rfl)) pa_nil))) (fun _ _ => rfl)))) pss_nil)
      (pss_cut (ps_if (PW.pt (pw_and (pt_cmpR op_lt (pv 3) (pe_callB call_len_seq (by rfl) T.len PySem.boot_len (pa_cons (pe_ix ix_list (pv 0) pe_int (fun _ _ => rfl)) pa_nil)) (nomark _))
          (pw_and1 (pt_cmpR op_ge (pe_callB call_abs (by rfl) T.abs (by decide +kernel) (pa_cons (pv 4) pa_nil)) (pe_op op_pow pe_int pe_int) (nomark _)))))
        (pss_cons (ps_set (i := 5) nd rfl (Or.inl rfl) (pe_op op_add (pe_op op_mul pe_int (pe_op op_sub (pe_callB call_abs (by rfl) T.abs (by decide +kernel) (pa_cons (pv 4) pa_nil)) (pe_op op_pow pe_int pe_int))) (pe_callTy call_int1 (by rfl) T.int (by decide +kernel) (pa_cons (pe_cmpR op_lt (pv 4) pe_int (nomark _)) pa_nil))))
        (pss_cons (ps_asg (pe_op op_fdiv (pe_callTy call_int1 (by rfl) T.int (by decide +kernel) (pa_cons (pv 5) pa_nil)) (pv 1)) (pg_sub (pv 0) pe_int set_list))
        (pss_one (ps_ret (pe_op op_mod (pe_callTy call_int1 (by rfl) T.int (by decide +kernel) (pa_cons (pv 5) pa_nil)) (pv 1)))))) pss_nil)
      (pss_cut (ps_set (i := 6) nd rfl (Or.inl rfl) (pe_op op_mod (pe_callTy call_int1 (by rfl) T.int (by decide +kernel) (pa_cons (pe_op op_pow (pe_op op_add (pe_op op_add (pe_op op_mod (pe_callTy call_int1 (by rfl) T.int (by decide +kernel) (pa_cons (pv 4) pa_nil)) pe_int) (pe_op op_mul pe_int (pv 3))) pe_int) pe_int) pa_nil)) pe_int))
      (pss_cons (ps_set (i := 6) nd rfl (Or.inl rfl) (pe_op op_mod (pe_callTy call_int1 (by rfl) T.int (by decide +kernel) (pa_cons (pe_op op_pow (pe_op op_add (pe_op op_add (pe_op op_mul (pv 6) (pe_op op_add (pe_op op_mul pe_int (pv 3)) pe_int)) (pe_op op_mul (pe_op op_mul pe_int (pv 3)) (pv 3))) pe_int) pe_int) pa_nil)) pe_int))
      (pss_one (ps_ret (pe_op op_mod (pe_callTy call_int1 (by rfl) T.int (by decide +kernel) (pa_cons (pe_op op_fdiv (pv 6) pe_int) pa_nil)) (pv 1))))))))))), ?_⟩
    obtain ⟨p, ⟨c, cells⟩, many, n, rfl, m1, m2, hn, ⟨⟨at0, rest, hp, a0, a1, r0⟩, hc, hcp, hcl⟩, k⟩ := h
    dsimp only at hp hc hcp hcl
    have mp : (0 : Int) < many := by omega
    have md : (0 : Int) < many ∧ many < 1073741824 := ⟨mp, by omega⟩
    refine ⟨_, rfl, p, _, _, _, rfl, rfl, SqL.of hp, atI_nat (j := 2) rfl, _, _, rfl, rfl, _, rfl, ?_⟩
    refine ite2 (fun hg => ?_) (fun hg => ?_)
    · have g0 : rest > 0 := of_decide_eq_true hg
      refine ⟨_, rfl, p, _, _, _, rfl, rfl, SqL.of hp, atI_nat (j := 2) rfl, .inl ⟨_, rfl, _, rfl, _, _, rfl, rfl, mp, ?_⟩⟩
      refine ⟨_, rfl, p, _, _, _, rfl, rfl, SqL.of hp, atI_nat (j := 2) rfl, .inl ⟨_, rfl, _, rfl, _, _, rfl, rfl, md, _, rfl, p, _, _, 2, rfl, rfl, hp, rfl, ?_⟩⟩
      refine ⟨_, rfl, ?_⟩
      have b1 : But p H (upd H p (.lst [.ref c, .int at0, .int (rest / many)])) := (But.refl p H).at
      exact k _ _ (Int.emod_nonneg _ (by omega)) (Int.emod_lt_of_pos _ mp) b1 ⟨⟨at0, rest / many, upd_same, a0, by omega, Int.ediv_nonneg r0 (by omega)⟩, b1.seq hcp hc, hcp, hcl⟩
    · refine ⟨_, rfl, p, _, _, _, rfl, rfl, SqL.of hp, atI_nat (j := 1) rfl, ?_⟩
      refine ⟨_, rfl, _, _, rfl, rfl, _, rfl, p, _, _, 1, rfl, rfl, hp, rfl, ?_⟩
      have h1 : upd H p (.lst [.ref c, .int (at0 + 1), .int rest]) p = some (.lst [.ref c, .int (at0 + 1), .int rest]) := upd_same
      have b1 : But p H (upd H p (.lst [.ref c, .int (at0 + 1), .int rest])) := (But.refl p H).at
      refine ⟨_, rfl, _, _, rfl, rfl, .inl ⟨by decide, by decide⟩, _, _, rfl, rfl, ?_⟩
      refine ⟨fun σ' H' => ∃ cell : Int, σ' = [some (.ref p), some (.int many), none, some (.int at0), some (.int cell), none, none] ∧ But p H H' ∧ H' p = some (.lst [.ref c, .int (at0 + 1), .int rest]), ?_, ?_⟩
      · refine ⟨_, rfl, p, _, _, _, rfl, rfl, SqL.of h1, atI_nat (j := 0) rfl, (by decide), fun q hq => ?_⟩
        have hqp : p ≠ q := ne_of_none h1 hq
        have b2 : But p H (upd (upd H p (.lst [.ref c, .int (at0 + 1), .int rest])) q (.lst [])) := b1.new hq
        have h2 : upd (upd H p (.lst [.ref c, .int (at0 + 1), .int rest])) q (.lst []) p = some (.lst [.ref c, .int (at0 + 1), .int rest]) := by rw [upd_ne hqp]; exact h1
        refine ⟨_, _, .lst (b2.seq hcp hc) (dp_ints cells), .lst (SqL.of upd_same) .nil, shaped_ints _, rfl, _, rfl, ?_⟩
        rw [eqv_nil]
        cases e : cells.isEmpty with
        | true =>
          refine iteF ?_
          exact ⟨_, rfl, b2, h2⟩
        | false =>
          have hl : 0 < cells.length := by
            cases cells with
            | nil => cases e
            | cons z zs => simp
          refine iteT ?_
          have hlt : (at0 % (cells.length : Int)).toNat < cells.length := by
            have := Int.emod_lt_of_pos at0 (show (0 : Int) < cells.length by omega)
            have := Int.emod_nonneg at0 (show (cells.length : Int) ≠ 0 by omega)
            omega
          have hix : (cells.map V.int)[(at0 % (cells.length : Int)).toNat]? = some (V.int (cells[(at0 % (cells.length : Int)).toNat])) := by
            rw [List.getElem?_map, List.getElem?_eq_getElem hlt]
            rfl
          refine ⟨_, rfl, p, _, _, _, rfl, rfl, SqL.of h2, atI_nat (j := 0) rfl, _, rfl, .inl ⟨_, rfl, _, rfl, p, _, _, _, rfl, rfl, SqL.of h2, atI_nat (j := 0) rfl, c, _, rfl, .inl (b2.seq hcp hc), ?_⟩⟩
          rw [List.length_map]
          refine ⟨_, _, rfl, rfl, (by omega), c, _, _, _, rfl, rfl, b2.seq hcp hc, at_of (j := (at0 % (cells.length : Int)).toNat) (by
            have := Int.emod_nonneg at0 (show (cells.length : Int) ≠ 0 by omega)
            omega) hix, ?_⟩
          exact ⟨_, rfl, b2, h2⟩
      · rintro σ' H' ⟨cell, rfl, b2, h2⟩
        have pw : CPow 10 18 := ⟨by decide, by decide, by decide⟩
        refine ⟨fun σ' H'' => σ' = [some (.ref p), some (.int many), none, some (.int at0), some (.int cell), none, none] ∧ But p H H'' ∧ H'' p = some (.lst [.ref c, .int (at0 + 1), .int rest]), ?_, ?_⟩
        · refine ⟨_, rfl, _, rfl, p, _, _, _, rfl, rfl, SqL.of h2, atI_nat (j := 0) rfl, c, _, rfl, .inl (b2.seq hcp hc), _, _, rfl, rfl, _, rfl, ?_⟩
          refine ite2 (fun _ => ?_) (fun _ => iteF ?_)
          · refine ⟨_, rfl, _, rfl, _, _, rfl, rfl, pw, _, _, rfl, rfl, _, rfl, ?_⟩
            refine ite2 (fun hge => ?_) (fun _ => ?_)
            · have ge := of_decide_eq_true hge
              have ge2 : (10 : Int) ^ (18 : Int).toNat ≤ if cell < 0 then -cell else cell := ge
              have gr0 : 0 ≤ (2 * ((if cell < 0 then -cell else cell) - (10 : Int) ^ (18 : Int).toNat) + (if decide (cell < 0) = true then 1 else 0) : Int) := by
                split <;> omega
              refine ⟨_, rfl, _, rfl, _, _, rfl, rfl, pw, _, _, rfl, rfl, _, _, rfl, rfl, .inl ⟨by decide, by decide⟩, _, rfl, _, _, rfl, rfl, .inr ⟨_, rfl, _, _, rfl, rfl, ?_⟩⟩
              refine ⟨_, rfl, .inl ⟨_, rfl, _, rfl, _, _, rfl, rfl, md, _, rfl, p, _, _, 2, rfl, rfl, h2, rfl, ?_⟩⟩
              refine ⟨_, rfl, .inl ⟨_, rfl, _, rfl, _, _, rfl, rfl, mp, ?_⟩⟩
              exact k _ _ (Int.emod_nonneg _ (by omega)) (Int.emod_lt_of_pos _ mp) b2.at ⟨⟨at0 + 1, _, upd_same, by omega, by omega, Int.ediv_nonneg gr0 (by omega)⟩, (b2.at).seq hcp hc, hcp, hcl⟩
            · exact ⟨rfl, b2, h2⟩
          · exact ⟨rfl, b2, h2⟩
        · rintro σ'' H'' ⟨rfl, b3, h3⟩
          refine ⟨fun σ' H4 => ∃ x : Int, 0 ≤ x ∧ x < 2147483629 ∧ σ' = [some (.ref p), some (.int many), none, some (.int at0), some (.int cell), none, some (.int x)] ∧ H4 = H'', ?_, ?_⟩
          · have q0 := Int.emod_nonneg cell (show (2147483587 : Int) ≠ 0 by decide)
            have q1 := Int.emod_lt_of_pos cell (show (0 : Int) < 2147483587 by decide)
            have pw5 : CPow (cell % 2147483587 + 61043 * at0 + 2207) 5 := ⟨by decide, by decide, by omega⟩
            refine ⟨_, rfl, .inl ⟨_, rfl, _, _, rfl, rfl, (by show (0 : Int) < 2147483587; decide), _, rfl, _, _, rfl, rfl, .inl ⟨by decide, by decide⟩, _, _, rfl, rfl, _, _, rfl, rfl, _, _, rfl, rfl, pw5, .inl ⟨_, rfl, _, _, rfl, rfl, (by show (0 : Int) < 2147483629; decide), ?_⟩⟩⟩
            exact ⟨_, Int.emod_nonneg _ (by decide), Int.emod_lt_of_pos _ (by decide), rfl, rfl⟩
          · rintro σ' H4 ⟨x, x0, x1, rfl, rfl⟩
            have e1 : x * (2 * at0 + 2311) ≤ 2147483629 * 2002311 := Int.mul_le_mul (by omega) (by omega) (by omega) (by decide)
            have e2 : 0 ≤ x * (2 * at0 + 2311) := Int.mul_nonneg x0 (by omega)
            have e3 : 63031 * at0 * at0 ≤ 63031000000 * 1000000 := Int.mul_le_mul (by omega) (by omega) a0 (by decide)
            have e4 : 0 ≤ 63031 * at0 * at0 := Int.mul_nonneg (by omega) a0
            have pw3 : CPow (x * (2 * at0 + 2311) + 63031 * at0 * at0 + 60029) 3 := ⟨by decide, by decide, by omega⟩
            refine ⟨_, rfl, _, rfl, _, _, rfl, rfl, .inl ⟨by decide, by decide⟩, _, _, rfl, rfl, _, _, rfl, rfl, .inl ⟨by omega, by omega⟩, _, rfl, _, _, rfl, rfl, .inl ⟨by decide, by decide⟩, _, rfl, _, _, rfl, rfl, .inr ⟨by omega, by omega⟩, _, _, rfl, rfl, _, _, rfl, rfl, _, _, rfl, rfl, pw3, .inl ⟨_, rfl, _, _, rfl, rfl, (by show (0 : Int) < 2147483549; decide), ?_⟩⟩
            refine ⟨_, rfl, _, _, rfl, rfl, ⟨by decide, by decide⟩, .inl ⟨_, rfl, _, rfl, _, _, rfl, rfl, mp, ?_⟩⟩
            exact k _ _ (Int.emod_nonneg _ (by omega)) (Int.emod_lt_of_pos _ mp) b3 ⟨⟨at0 + 1, rest, h3, by omega, by omega, r0⟩, b3.seq hcp hc, hcp, hcl⟩
end
end K
namespace K
open PySem L2 Rg
open Evl (pss_cut)
theorem int_at {l : List Int} {i : Nat} {v : V} (h : (l.map V.int)[i]? = some v) : ∃ z, l[i]? = some z ∧ v = .int z := by
  rw [List.getElem?_map] at h
  cases e : l[i]? with
  | none => rw [e] at h; cases h
  | some z => rw [e] at h; exact ⟨z, rfl, (Option.some.inj h).symm⟩
theorem take_snoc {α : Type} {l : List α} {i : Nat} {z : α} (h : l[i]? = some z) : l.take i ++ [z] = l.take (i + 1) := by
  rw [List.take_succ, h]; rfl
theorem sz {n : Nat} (h : n ≤ 100000) : n ≤ sizeLine := Nat.le_trans h (by decide)
theorem szl {n : Nat} (h : n < 100000) : n < sizeLine := Nat.lt_of_lt_of_le h (by decide)
theorem cutV_to (xs : List V) (k : Nat) : cutV xs none (some (k : Int)) = xs.take k := by
  unfold cutV
  rw [HT.sIx_none, HT.sIx_nat, List.drop_zero, Nat.sub_zero]
  rcases Nat.le_total k xs.length with h | h
  · rw [Nat.min_eq_left h]
  · rw [Nat.min_eq_right h, List.take_length, List.take_of_length_le h]
section
variable {P : Program} {w : World} {K : PySem.W.Frag} {mg : Str → Option Value} {base : Heap}
/-! ### the pen -/
def spPen (K : PySem.W.Frag) : Sp := fun vs H Q _ => ∃ (a : Addr) (ns : List Int), vs = [.ref a] ∧ SqL K H a (ns.map V.int) ∧ ns.length ≤ 63 ∧
  ∀ (p : Addr) (e : Addr × List Int) (H' : Hp), Same H H' → H p = none → PenAt K H' p e 0 → Q (.ref p) H'
abbrev nPen : List Str := ["_law_script", "_law_cell"]
theorem scPen : FnScope nPen ["_law_script"] (defScope sLwBench) := ⟨rfl, rfl, rfl, by decide +kernel, rfl, by decide +kernel, by decide +kernel⟩
theorem ok_pen {f : Addr} {fd : FuncData} (F : Fun K "_law_bench" "_law_bench" sLwBench f fd) (T : Bi mg) : FnOk P w K mg base CX0 2 f fd ["_law_script"] (spPen K) := by
  refine F.ok scPen (fun vs H Q E h => ?_) (fun cdv A outer s H vs Q E hr h => ?_)
  · obtain ⟨a, ns, rfl, _⟩ := h
    rfl
  · have nd := scPen.nd
    refine ⟨_, pss_one (ps_ret (pe_lst (pa_cons (pe_lc (own := [("_law_cell", 1)]) (g := gName 1) (tt := tYes) rfl nd (pi_list (pe_slice sl_list (pv 0) po_none (po_some pe_int)))
      (blkOk_by (N := nPen) (sc := defScope sLwBench) (by decide +kernel)) (fun _ _ _ _ _ => pg_name (i := 1) nd rfl (Or.inl rfl)) (fun _ _ _ _ _ => pts_nil)
      (fun _ _ _ _ _ => pe_callTy call_int1 (by rfl) T.int (by decide +kernel) (pa_cons (pv 1) pa_nil))) (pa_cons pe_int (pa_cons pe_int pa_nil))))), ?_⟩
    obtain ⟨a, ns, rfl, hS, hl, k⟩ := h
    refine ⟨_, rfl, _, rfl, a, _, rfl, hS, fun q hq => ?_⟩
    have e0 : cutV (ns.map V.int) none (some 58) = (ns.take 58).map V.int := by
      rw [show (58 : Int) = ((58 : Nat) : Int) from rfl, cutV_to, List.map_take]
    rw [e0]
    refine ⟨q, rfl, ⟨_, SqL.of upd_same⟩, fun D hD => ?_⟩
    have hqD : q ≠ D := ne_of_none upd_same hD
    have sD : Same (upd H q (.lst ((ns.take 58).map V.int))) (upd (upd H q (.lst ((ns.take 58).map V.int))) D (.lst [])) := (Same.refl _).new hD
    refine lc_list (K := K) (a := q) (xs := (ns.take 58).map V.int) (fun i H' => Same (upd H q (.lst ((ns.take 58).map V.int))) H' ∧ H' D = some (.lst (((ns.take 58).take i).map V.int)))
      ⟨sD, upd_same⟩ (fun i H' _ p => p.1.seq (SqL.of upd_same)) ?_ ?_
    · rintro i x H' hi ⟨s1, h1⟩
      obtain ⟨z, hz, rfl⟩ := int_at hi
      refine ⟨rfl, _, rfl, .inl ⟨_, rfl, _, h1, szl (by rw [List.length_map, List.length_take, List.length_take]; omega), s1.mut hD, ?_⟩⟩
      rw [← take_snoc hz, List.map_append]
      exact upd_same
    · rintro H' ⟨s1, h1⟩
      rw [List.length_map, List.take_length] at h1
      refine ⟨(by show 3 ≤ sizeLine; decide), fun p hp => ?_⟩
      have nD : H D = none := by
        rw [upd_ne hqD.symm] at hD
        exact hD
      have s2 : Same H H' := fun b o e => s1 b o (by rw [upd_ne (ne_of_none e hq)]; exact e)
      refine k p (D, ns.take 58) _ (s2.new hp) (s2.free hp) ⟨⟨0, 0, upd_same, by decide, by decide, by decide⟩, SqL.of (by rw [upd_ne (ne_of_none h1 hp)]; exact h1), ne_of_none h1 hp, by rw [List.length_take]; omega⟩
end
end K
namespace K
open PySem L2 Rg
open Evl (pss_cut)
/-- the first that stands twice, behind those seen -/
def ft : List Int → List Int → Option Int
  | _, [] => none
  | seen, x :: xs => if x ∈ seen then some x else ft (seen ++ [x]) xs
def oV : Option Int → V
  | none => .non
  | some x => .int x
def seenK (l : List Int) : List (Key × V) := l.map fun k => (Sum.inl k, V.bl true)
theorem seen_val (l : List Int) (n : Int) : valV (seenK l) (Sum.inl n : Key) = if n ∈ l then some (.bl true) else none := by
  induction l with
  | nil => rfl
  | cons x l ih =>
    by_cases e : x = n
    · rw [if_pos (by rw [e]; exact List.mem_cons_self ..)]
      exact valV_pos (p := ((Sum.inl x : Key), V.bl true)) (by rw [e])
    · have h1 : valV (seenK (x :: l)) (Sum.inl n : Key) = valV (seenK l) (Sum.inl n) := valV_neg (p := ((Sum.inl x : Key), V.bl true)) (fun z => e (Sum.inl.inj z))
      rw [h1, ih]
      by_cases f : n ∈ l
      · rw [if_pos f, if_pos (List.mem_cons_of_mem _ f)]
      · rw [if_neg f, if_neg fun z => (List.mem_cons.mp z).elim (fun q => e q.symm) f]
theorem seen_len (l : List Int) : (seenK l).length = l.length := List.length_map ..
theorem seen_put {l : List Int} {n : Int} (h : n ∉ l) : putK (seenK l) (Sum.inl n : Key) (.bl true) = seenK (l ++ [n]) := by
  rw [putK_new _ (by rw [seen_val, if_neg h])]
  simp [seenK]
theorem ft_step {ns : List Int} {i : Nat} {z : Int} (h : ns[i]? = some z) : ft (ns.take i) (ns.drop i) = if z ∈ ns.take i then some z else ft (ns.take (i + 1)) (ns.drop (i + 1)) := by
  obtain ⟨hi, rfl⟩ := List.getElem?_eq_some_iff.mp h
  rw [List.drop_eq_getElem_cons hi, ← take_snoc h]
  rfl
section
variable {P : Program} {w : World} {K : PySem.W.Frag} {mg : Str → Option Value} {base : Heap}
/-! ### fixed, of an int -/
def spFixed : Sp := fun vs H Q _ => ∃ i : Int, vs = [.int i] ∧ ∀ H', Same H H' → Q (.int i) H'
theorem scFixed : FnScope ["value"] ["value"] (defScope sFixed) := ⟨rfl, rfl, rfl, by decide +kernel, rfl, by decide +kernel, by decide +kernel⟩
theorem ok_fixed {f : Addr} {fd : FuncData} (F : Fun K "fixed" "fixed" sFixed f fd) (T : Bi mg) : FnOk P w K mg base CX0 1 f fd ["value"] spFixed := by
  refine F.ok scFixed (fun vs H Q E h => ?_) (fun cdv A outer s H vs Q E hr h => ?_)
  · obtain ⟨v, rfl, _⟩ := h
    rfl
  · refine ⟨_, pss_cons (ps_if (pt_val (pe_callB call_isiT (by rfl) T.isinstance (by decide +kernel) (pa_cons (pv 0) (pa_cons (pe_tup (pa_cons (pe_bltn (v := .ty "list") (u := .type "list") (by rfl) T.list (by decide +kernel) rfl) (pa_cons (pe_bltn (v := .ty "tuple") (u := .type "tuple") (by rfl) T.tuple (by decide +kernel) rfl) pa_nil))) pa_nil)))) (pss_one ps_never) pss_nil)
      (pss_one (ps_ret (pv 0))), ?_⟩
    obtain ⟨i, rfl, q⟩ := h
    refine ⟨_, rfl, (by show 2 ≤ sizeLine; decide), fun p hp => ?_⟩
    have s1 : Same H (upd H p (.tup [.ty "list", .ty "tuple"])) := (Same.refl H).new hp
    refine ⟨.int i, p, [.ty "list", .ty "tuple"], .type "int", _, false, rfl, upd_same, .cons (.ty _) (.cons (.ty _) .nil), .base (.int i), kitAny_cons (kit_ty (kit_list "int" (by decide))) (fun e => kitAny_cons (b := false) (r := false) (kit_ty (kit_tuple "int" (by decide))) (fun _ => kitAny_nil) fun e' => nomatch e') (fun e => nomatch e), _, rfl, iteF ?_⟩
    exact ⟨_, rfl, q _ s1⟩
end
end K
namespace K
open PySem L2 Rg
open Evl (pss_cut)
section
variable {P : Program} {w : World} {K : PySem.W.Frag} {mg : Str → Option Value} {base : Heap}
/-! ### errors with one field -/
def spIni (K : PySem.W.Frag) (f : Str) : Sp := fun vs H Q _ => ∃ (a C : Addr) (v : V), vs = [.ref a, v] ∧ OexC K C ∧ PySem.W.findIn K (.ref C) f = some none ∧ H a = some (exo a C none) ∧
  ∀ d, H d = none → d ≠ a → Q .non (upd (upd H d (exd d [(f, v)])) a (exo a C (some d)))
theorem scBadRing : FnScope ["self", "part"] ["self", "part"] (defScope sBadRingInit) := ⟨rfl, rfl, rfl, by decide +kernel, rfl, by decide +kernel, by decide +kernel⟩
theorem ok_badRingI {f : Addr} {fd : FuncData} (F : Fun K "__init__" "BadRing.__init__" sBadRingInit f fd) : FnOk P w K mg base CX0 1 f fd ["self", "part"] (spIni K "part") := by
  refine F.ok scBadRing (fun vs H Q E h => ?_) (fun cdv A outer s H vs Q E hr h => ?_)
  · obtain ⟨a, C, v, rfl, _⟩ := h
    rfl
  · refine ⟨_, pss_one (ps_ost (pv 0) (pv 1)), ?_⟩
    obtain ⟨a, C, v, rfl, o, n, ha, k⟩ := h
    exact ⟨_, rfl, _, rfl, a, C, rfl, o, n, .inl ⟨ha, fun d h1 h2 => k d h1 h2⟩⟩
/-- the class x of errors with the field f, at C, its __init__ at fI -/
structure ErrAt (P : Program) (w : World) (K : PySem.W.Frag) (mg : Str → Option Value) (base : Heap) (x f : Str) (C fI : Addr) (fdI : FuncData) : Prop where
  oex : OexC K C
  ic : PySem.W.findIn K (.ref C) "__init__" = some (some (.ref fI))
  ti : PySem.W.typeIn K (.ref fI) = some (.type "function")
  nf : PySem.W.findIn K (.ref C) f = some none
  g : mg x = some (.ref C)
  b : Binds K fdI ["self", f] []
  ok : FnOk P w K mg base CX0 1 fI fdI ["self", f] (spIni K f)
/-- an error of the class at C with the field f holding v leaves; what was tracked stands -/
def Errs (E : XK) (C : Addr) (f : Str) (v : V) (H : Hp) : Prop := ∀ (d : Addr) (H' : Hp), Same H H' → H d = none → H' d = some (.xd [(f, v)]) → E (.ref C) (some d) H'
theorem Errs.later {E : XK} {C : Addr} {f : Str} {v : V} {H H1 : Hp} (h : Errs E C f v H) (s : Same H H1) : Errs E C f v H1 := fun d H' s' n e => h d H' (s.trans s') (s.free n) e
/-- the making of such an error, as a raise asks it -/
theorem err_made {E : XK} {C : Addr} {f : Str} {v : V} {H : Hp} (o : OexC K C) (n : PySem.W.findIn K (.ref C) f = some none) (h : Errs E C f v H) :
    ([v] : List V).length ≤ 1000 ∧ ∀ a, H a = none → spIni K f (.ref a :: ([v] ++ [])) (upd H a (exo a C none))
      (fun u H2 => u = .non ∧ ∃ (d : Addr) (fs : List (Str × V)), H2 a = some (exo a C (some d)) ∧ H2 d = some (exd d fs) ∧ H d = none ∧ E (.ref C) (some d) (upd (del H2 a) d (.xd fs))) (fun _ _ _ => False) := by
  refine ⟨(by show 1 ≤ 1000; decide), fun a ha => ⟨a, C, v, rfl, o, n, upd_same, fun d hd hda => ⟨rfl, d, [(f, v)], upd_same, by rw [upd_ne hda, upd_same], ?_, ?_⟩⟩⟩
  · rw [upd_ne hda] at hd
    exact hd
  · rw [upd_ne hda] at hd
    refine h d _ (fun b u e => ?_) hd upd_same
    have hba : b ≠ a := ne_of_none e ha
    have hbd : b ≠ d := ne_of_none e hd
    rw [upd_ne hbd, del_ne hba, upd_ne hba, upd_ne hbd, upd_ne hba]
    exact e
end
end K
namespace K
open PySem L2 Rg
open Evl (pss_cut)
section
variable {P : Program} {w : World} {K : PySem.W.Frag} {mg : Str → Option Value} {base : Heap}
/-! ### one of some things -/
def spPick (K : PySem.W.Frag) : Sp := fun vs H Q _ => ∃ (p l : Addr) (e : Addr × List Int) (xs : List V) (n : Nat), vs = [.ref p, .ref l] ∧ SqL K H l xs ∧ l ≠ p ∧ 1 ≤ xs.length ∧ xs.length ≤ 1000 ∧ n < 1000000 ∧ PenAt K H p e n ∧
  ∀ (i : Nat) (v : V) (H' : Hp), xs[i]? = some v → But p H H' → PenAt K H' p e (n + 1) → Q v H'
abbrev nPick : List Str := ["_law_bench_here", "_law_some"]
theorem scPick : FnScope nPick ["_law_bench_here", "_law_some"] (defScope sLwPick) := ⟨rfl, rfl, rfl, by decide +kernel, rfl, by decide +kernel, by decide +kernel⟩
/-- the draw as a def called by its name -/
structure DrawAt (P : Program) (w : World) (K : PySem.W.Frag) (mg : Str → Option Value) (base : Heap) (f : Addr) (fd : FuncData) : Prop where
  ok : FnOk P w K mg base CX0 2 f fd ["_law_bench_here", "_law_many"] (spDraw K)
  g : mg "_law_draw" = some (.ref f)
  kp : PySem.W.keepIn K (.ref f) = true
  b : Binds K fd ["_law_bench_here", "_law_many"] []
theorem ok_pick {f fD : Addr} {fd fdD : FuncData} (F : Fun K "_law_pick" "_law_pick" sLwPick f fd) (T : Bi mg) (D : DrawAt P w K mg base fD fdD) : FnOk P w K mg base CX0 3 f fd ["_law_bench_here", "_law_some"] (spPick K) := by
  refine F.ok scPick (fun vs H Q E h => ?_) (fun cdv A outer s H vs Q E hr h => ?_)
  · obtain ⟨p, l, e, xs, n, rfl, _⟩ := h
    rfl
  · have nd := scPick.nd
    refine ⟨_, pss_one (ps_ret (pe_ix ix_list (pv 1) (pe_call D.ok hr rfl D.g D.kp D.b .nil pass0 (pa_cons (pv 0) (pa_cons (pe_callB call_len_seq (by rfl) T.len PySem.boot_len (pa_cons (pv 1) pa_nil)) pa_nil))) (fun _ _ => rfl))), ?_⟩
    obtain ⟨p, l, e, xs, n, rfl, hl, hlp, l1, l2, hn, pen, k⟩ := h
    refine ⟨_, rfl, _, rfl, _, rfl, l, xs, rfl, .inl hl, p, e, _, n, rfl, by omega, by omega, hn, pen, fun r H' r0 r1 b pen' => ?_⟩
    have hr : r.toNat < xs.length := by omega
    exact ⟨l, xs, r, _, rfl, rfl, b.seq hlp hl, at_of (j := r.toNat) (by omega) (List.getElem?_eq_getElem hr), k _ _ _ (List.getElem?_eq_getElem hr) b pen'⟩
/-! ### things in a drawn order -/
def spMixed (K : PySem.W.Frag) : Sp := fun vs H Q _ => ∃ (p l : Addr) (e : Addr × List Int) (xs : List V) (n : Nat), vs = [.ref p, .ref l] ∧ SqL K H l xs ∧ l ≠ p ∧ xs.length ≤ 30 ∧ n < 900000 ∧ PenAt K H p e n ∧
  ∀ (q : Addr) (ys : List V) (H' : Hp), ys.Perm xs → H q = none → But p H H' → H' q = some (.lst ys) → PenAt K H' p e (n + xs.length) → Q (.ref q) H'
abbrev nMixed : List Str := ["_law_bench_here", "_law_some", "_law_left", "_law_found", "_law_turn"]
theorem scMixed : FnScope nMixed ["_law_bench_here", "_law_some"] (defScope sLwMixed) := ⟨rfl, rfl, rfl, by decide +kernel, rfl, by decide +kernel, by decide +kernel⟩
theorem perm_take {l d : List V} {i : Nat} {x : V} (h : l[i]? = some x) : (d ++ [x] ++ l.eraseIdx i).Perm (d ++ l) := by
  obtain ⟨hi, rfl⟩ := List.getElem?_eq_some_iff.mp h
  rw [List.append_assoc]
  refine List.Perm.append_left d ?_
  rw [List.eraseIdx_eq_take_drop_succ]
  have e : l = l.take i ++ l[i] :: l.drop (i + 1) := by
    rw [List.getElem_cons_drop, List.take_append_drop]
  calc [l[i]] ++ (l.take i ++ l.drop (i + 1)) = l[i] :: (l.take i ++ l.drop (i + 1)) := rfl
    _ |>.Perm (l.take i ++ l[i] :: l.drop (i + 1)) := List.perm_middle.symm
    _ |>.Perm l := by rw [← e]
theorem ok_mixed {f fD : Addr} {fd fdD : FuncData} (F : Fun K "_law_mixed" "_law_mixed" sLwMixed f fd) (T : Bi mg) (D : DrawAt P w K mg base fD fdD) : FnOk P w K mg base CX0 3 f fd ["_law_bench_here", "_law_some"] (spMixed K) := by
  refine F.ok scMixed (fun vs H Q E h => ?_) (fun cdv A outer s H vs Q E hr h => ?_)
  · obtain ⟨p, l, e, xs, n, rfl, _⟩ := h
    rfl
  · have nd := scMixed.nd
    refine ⟨_, pss_cons (ps_par (i := 2) (j := 3) (by rfl) nd rfl rfl (by decide) rfl rfl (pa_cons (pe_callTy call_list_of (by rfl) T.list (by decide +kernel) (pa_cons (pv 1) pa_nil)) (pa_cons (pe_lst pa_nil) pa_nil)) (by rfl))
      (pss_cons (ps_for PassesOwn.never rfl (pi_range1 (by rfl) T.range (pa_cons (pe_callB call_len_seq (by rfl) T.len PySem.boot_len (pa_cons (pv 1) pa_nil)) pa_nil)) (pg_name (i := 4) nd rfl (Or.inl rfl))
        (pss_one (ps_expr (pe_bm PySem.F.plainAttrs_list PySem.F.slot_list_append PySem.F.type_list_append mt_append (pv 3)
          (pa_cons (pe_bm PySem.F.plainAttrs_list PySem.F.slot_list_pop PySem.F.type_list_pop mt_popAt (pv 2)
            (pa_cons (pe_call D.ok hr rfl D.g D.kp D.b .nil pass0 (pa_cons (pv 0) (pa_cons (pe_callB call_len_seq (by rfl) T.len PySem.boot_len (pa_cons (pv 2) pa_nil)) pa_nil))) pa_nil)) pa_nil)))))
      (pss_one (ps_ret (pv 3)))), ?_⟩
    obtain ⟨p, l, e, xs, n, rfl, hl, hlp, hxl, hn, pen, k⟩ := h
    refine ⟨_, rfl, l, xs, rfl, .inl hl, fun a ha => ⟨by show 0 ≤ sizeLine; decide, fun g hg => ?_⟩⟩
    have hga : g ≠ a := (ne_of_none upd_same hg).symm
    have hg0 : H g = none := by
      rw [upd_ne hga] at hg
      exact hg
    have s1 : Same H (upd H a (.lst xs)) := (Same.refl H).new ha
    have s2 : Same H (upd (upd H a (.lst xs)) g (.lst [])) := s1.new hg
    refine ⟨_, _, rfl, _, rfl, l, xs, rfl, .inl (s2.seq hl), _, rfl, by omega, by omega, ?_⟩
    refine for_range (lo := 0) (n := ((xs.length : Nat) : Int).toNat) (fun i σ H' => ∃ (rest done : List V) (t : Option V), σ = [some (.ref p), some (.ref l), some (.ref a), some (.ref g), t] ∧ But p H H' ∧ H' a = some (.lst rest) ∧ H' g = some (.lst done) ∧
      (done ++ rest).Perm xs ∧ done.length = i ∧ PenAt K H' p e (n + i)) ⟨xs, [], none, rfl, But.of s2, by rw [upd_ne hga.symm, upd_same], upd_same, List.Perm.refl _, rfl, pen.same s2⟩ ?_ ?_
    · rintro i σ H' hi ⟨rest, done, t, rfl, b, h1, h2, pm, dl, pen'⟩
      have hi' : i < xs.length := by omega
      have hlen := pm.length_eq
      rw [List.length_append] at hlen
      have hap : a ≠ p := pen.ne ha
      have hgp : g ≠ p := pen.ne hg0
      have r1 : 1 ≤ rest.length := by omega
      refine ⟨_, rfl, .inl ⟨rfl, _, SqL.of h2⟩, _, rfl, .inl ⟨rfl, _, SqL.of h1⟩, _, rfl, _, rfl, a, rest, rfl, .inl (SqL.of h1), p, e, _, n + i, rfl, by omega, by omega, by omega, pen', fun r H2 r0 rl b2 pen2 => ?_⟩
      have hrl : r.toNat < rest.length := by omega
      have e1 : H2 a = some (.lst rest) := b2 a _ hap h1
      have e2 : H2 g = some (.lst done) := b2 g _ hgp h2
      refine ⟨a, rest, r, r.toNat, rest[r.toNat], rfl, rfl, e1, by omega, by omega, seqIndex_of r0 rl, List.getElem?_eq_getElem hrl, g, done, _, rfl, rfl, by rw [upd_ne hga]; exact e2, szl (by omega), ?_⟩
      have b3 : But p H (upd (upd H2 a (.lst (rest.eraseIdx r.toNat))) g (.lst (done ++ [rest[r.toNat]]))) := ((b.trans b2).mut ha).mut hg0
      refine ⟨rest.eraseIdx r.toNat, done ++ [rest[r.toNat]], _, rfl, b3, by rw [upd_ne hga.symm, upd_same], upd_same, (perm_take (List.getElem?_eq_getElem hrl)).trans pm, by rw [List.length_append, dl]; rfl, ?_⟩
      exact pen.mut (pen.mut pen2 (b.trans b2) ha) ((b.trans b2).mut ha) hg0
    · rintro σ H' ⟨rest, done, t, rfl, b, h1, h2, pm, dl, pen'⟩
      have hlen := pm.length_eq
      rw [List.length_append] at hlen
      have er : rest = [] := List.eq_nil_of_length_eq_zero (by omega)
      subst er
      rw [List.append_nil] at pm
      refine ⟨_, rfl, k g done H' pm hg0 b h2 (by simpa using pen')⟩
end
end K
namespace Rg
open PySem PySem.Spec PyProof.Rows L2
/-! ### an error that is kept behind its clause -/
/-- an error object of the class at C, its dict at dd -/
def errO (e C : Addr) (dd : Option Addr) : HO := .ext fun hp => ∃ (ob : Obj) (vs : Array Value), hp.get? e = some ob ∧ ob.cls = .ref C ∧ ob.dict = dd ∧ ob.data = .fields vs
theorem errO_at {P : Program} {w : World} {H : Hp} {hp : Heap} {e C : Addr} {dd : Option Addr} (hok : HOk P w H hp) (he : H e = some (errO e C dd)) : ∃ (ob : Obj) (vs : Array Value), hp.get? e = some ob ∧ ob.cls = .ref C ∧ ob.dict = dd ∧ ob.data = .fields vs := (hok e _ he).1
theorem errO_ok {P : Program} {w : World} {H : Hp} {hp : Heap} {e C : Addr} {dd : Option Addr} {ob : Obj} {vs : Array Value} (he : hp.get? e = some ob) (h1 : ob.cls = .ref C) (h2 : ob.dict = dd) (h3 : ob.data = .fields vs) : ObjOk P w H hp e (errO e C dd) :=
  ⟨⟨ob, vs, he, h1, h2, h3⟩, ⟨ob, he⟩, fun _ _ ⟨ob', vs', a, b, c, d⟩ st => ⟨ob', vs', st _ a, b, c, d⟩⟩
/-- a thing that was not tracked is tracked from now on -/
theorem inv_know {X : Cx} {pns : List (Addr × Obj)} {σs : L2.St} {Hh : Hp} {sh : Shared} {e : Addr} {u : HO} (Iv : Inv X pns σs Hh sh) (ne : Hh e = none) (old : e ∉ X.ex → ∀ ob, X.s_0.heap.get? e = some ob → False) (nl : e ≠ X.env.locals)
    (nc : ∀ y c, X.env.cells.lookup y = some c → c ≠ e) (np : ∀ p ∈ X.pn ++ pns, p.1 ≠ e) (ob : ObjOk X.prog X.w (upd Hh e u) sh.heap e u) : Inv X pns σs (upd Hh e u) sh := by
  have oth : ∀ b, b ≠ e → upd Hh e u b = Hh b := fun b hb => upd_ne hb
  have keepS : ∀ {b : Addr} {o : HO}, Hh b = some o → upd Hh e u b = some o := fun {b o} q => by rw [oth b (ne_of_none q ne)]; exact q
  refine ⟨Iv.ok, Iv.os, Iv.bare, ⟨Iv.base.keep, Iv.base.slot, fun b o a n x => ?_, Iv.base.there, fun b xs q => keepS (Iv.base.tups b xs q), fun b o z q => keepS (Iv.base.frzs b o z q), fun b ps q => ?_⟩, Iv.loc, Iv.cell, ?_, fun y c q => ?_, fun p hp => ?_, fun b o q => ?_, Iv.len⟩
  · by_cases hb : b = e
    · subst hb
      exact (old x o a).elim
    · rw [oth b hb]
      exact Iv.base.free b o a n x
  · obtain ⟨more, q'⟩ := Iv.base.tbls b ps q
    exact ⟨more, keepS q'⟩
  · rw [oth _ (Ne.symm nl)]
    exact Iv.free
  · rw [oth _ (nc y c q)]
    exact Iv.freeC y c q
  · obtain ⟨a1, a2, a3⟩ := Iv.pin p hp
    exact ⟨a1, by rw [oth _ (np p hp)]; exact a2, a3⟩
  · by_cases hb : b = e
    · subst hb
      rw [upd_same] at q
      cases q
      exact ob
    · rw [oth b hb] at q
      exact (Iv.hok b o q).stay (fun _ _ _ z => z) (fun c z => keepS z) fun c xs z => keepS z
end Rg
namespace Rg
open PySem PySem.Spec PyProof.Rows L2
/-- what the clause asks: the error is one of the class cv; it is tracked while the suite runs and from then on -/
def wKeep (K : PySem.W.Frag) (cv : Value) (ix : Nat) (tsu : TS) (De : Ends) : WX := fun cls dd σs Hh =>
  PySem.W.exmOne K cls cv = some true ∧ ∃ C : Addr, cls = .ref C ∧ ∀ e, Hh e = none → tsu { nx := fun τ J => De.nx (τ.set ix none) J, rt := De.rt, bk := fun τ J => De.bk (τ.set ix none) J, ct := fun τ J => De.ct (τ.set ix none) J } (σs.set ix (some (.ref e))) (upd Hh e (errO e C dd))
section
variable {X : Cx} {pns : List (Addr × Obj)} {σs : L2.St} {Hh : Hp} {sh : Shared}
theorem inv_in (Iv : Inv X pns σs Hh sh) (e : Addr) : Inv (X.suite e (X.pn ++ pns)) [] σs Hh sh :=
  ⟨Iv.ok.suite _ _, Iv.os, Iv.bare, Iv.base, Iv.loc, Iv.cell, Iv.free, Iv.freeC, fun p hp => Iv.pin p (by simpa using hp), Iv.hok, Iv.len⟩
theorem inv_out {e : Addr} (Iv : Inv (X.suite e (X.pn ++ pns)) [] σs Hh sh) (ok : X.Ok) : Inv X pns σs Hh sh :=
  ⟨ok, Iv.os, Iv.bare, Iv.base, Iv.loc, Iv.cell, Iv.free, Iv.freeC, fun p hp => Iv.pin p (by simpa using hp), Iv.hok, Iv.len⟩
end
section
variable {X : Cx} {y n : Str} {cv : Value} {ix : Nat} {bd su : List Stmt} {st0 : Stmt} {np po po' : Pos} {tbd : WX → TS} {tsu : TS}
theorem ps_try_keep (hstk : X.stack = X.env :: X.outer) (hfr0 : X.env.frame = some X.env.locals) (hnd : X.N.Nodup) (hix : X.N[ix]? = some n) (hnl : X.env.kindOf n = some .local) (hcl : Names X y cv)
    (hbd : ∀ (W : WX) (pn : List (Addr × Obj)) (xe : Value → Shared → Prop), Takes (X.tr pn xe) W → PassesOwn (model X.prog X.w) X.A X.env xe → PSs (X.tr pn xe) bd (tbd W))
    (hsu : ∀ (e : Addr) (pn : List (Addr × Obj)), PSs (X.suite e pn) (st0 :: su) tsu) :
    PS X (.Try bd [.ExceptHandler (some (.Name y np)) (some n) (st0 :: su) po'] [] [] po) (fun De σs Hh => tbd (wKeep X.K cv ix tsu De) De σs Hh) := by
  refine ⟨fun pns sh σs Hh De Iv hh => ?_⟩
  have ok := Iv.ok
  have hfr : X.A.frames = some (X.env :: X.outer) := by rw [ok.frames, hstk]
  have hbody := (hbd (wKeep X.K cv ix tsu De) (X.pn ++ pns) (fun e s1 => wpAny (model X.prog X.w) X.A (noteFrame e X.env) (fun _ s2 => wpAny (model X.prog X.w) X.A (setFlight e none) (fun _ s3 =>
    wpAny (model X.prog X.w) X.A (handleBy e X.env [.ExceptHandler (some (.Name y np)) (some n) (st0 :: su) po']) (SP X pns De) X.xe s3) X.xe s2) X.xe s1) (fun u sx xx => ?_) PassesOwn.looking).run [] sh σs Hh De (Iv.toTry _) hh
  · refine wpAny_Try_except (wpAny_mono hbody (fun fl s1 q => ?_) fun _ _ q => q)
    cases fl with
    | next =>
      obtain ⟨τ, J, Jv, q⟩ := q
      exact wpAny_execs_nil ⟨τ, J, Jv.ofTry ok, q⟩
    | brk => exact let ⟨τ, J, Jv, q⟩ := q; ⟨τ, J, Jv.ofTry ok, q⟩
    | cont => exact let ⟨τ, J, Jv, q⟩ := q; ⟨τ, J, Jv.ofTry ok, q⟩
    | ret u => exact let ⟨v, τ, J, Jv, r, q⟩ := q; ⟨v, τ, J, Jv.ofTry ok, r, q⟩
  -- the error is at e
  obtain ⟨e, B, sI, _, τ, J, cls, dd, rfl, Jv0, nb, up, sky, ne, os, ag, hb, C, rfl, hyes⟩ := xx
  have Jv : Inv X pns τ J sI := Jv0.ofTry ok
  rw [hstk] at sky
  refine Sky.land Zc.steady hfr hfr0 sky fun h3 fl3 up3 => ?_
  have K3 : Inv X pns τ J { sx with heap := h3 } := Jv.landed nb fl3.1 (up.trans up3) os ag
  obtain ⟨o3, v3, g3, z3, d3⟩ := fl3.there
  have enf : e ∉ frs X.stack := fun hm => by
    rw [hstk] at hm
    obtain ⟨_, o', e', hnf⟩ := fl3.2.2.1.mem hm
    rw [g3] at e'
    cases e'
    exact hnf _ d3
  have enl : e ≠ X.env.locals := fun z => enf (by rw [hstk]; exact List.mem_filterMap.mpr ⟨X.env, List.mem_cons_self, by rw [hfr0, z]⟩)
  have enF : e ∉ X.fs := fun hm => enf (by
    rw [hstk]
    obtain ⟨ev, he, q⟩ := List.mem_filterMap.mp hm
    exact List.mem_filterMap.mpr ⟨ev, List.mem_cons_of_mem _ he, q⟩)
  have gone : ∀ ob, sI.heap.get? e = some ob → False := fun ob q => by
    have a := nb e ob q enf
    rw [fl3.2.1] at a
    cases a
  -- tracked
  have know : ∀ {h4 : Heap} {o4 : Obj} {v4 : Array Value}, Inv X pns τ J { sx with heap := h4 } → h4.get? e = some o4 → Zc (.ref C) dd o4 → o4.data = .fields v4 → Inv X pns τ (upd J e (errO e C dd)) { sx with heap := h4 } := fun {h4 o4 v4} K4 g4 z4 d4 => by
    refine inv_know K4 ne (fun hx ob q => ?_) enl (fun x c q z => ?_) (fun p hp z => ?_) (errO_ok g4 z4.1 z4.2 d4)
    · obtain ⟨o', q'⟩ := Jv.base.there e ob q hx
      exact gone o' q'
    · obtain ⟨v, o', q', _⟩ := Jv.cell x c q
      rw [z] at q'
      exact gone _ q'
    · obtain ⟨q', _⟩ := Jv.pin p hp
      rw [z] at q'
      exact gone _ q'
  have test : ∀ {Q E : Value → Shared → Prop}, Q cv { sx with heap := h3 } → wpAny (model X.prog X.w) (X.A.mark (some (.ref e))) (eval (.Name y np) X.env) Q E { sx with heap := h3 } := fun {Q E} q => by
    have S3 := inv_in K3 e
    obtain ⟨hg, hdb, hm | ⟨hm, hv, hn⟩⟩ := hcl
    · exact ld_glob S3 hg hm q hdb
    · exact ld_blt S3 hg hm hv q hn hdb
  refine wpAny_handleBy_cons (codeAny_handlers_test (test ((PySem.W.exm_one (M := model X.prog X.w) K3.kIn (fun _ _ _ _ k q => wpAny_typeOf_ref (k _ _ g3) (by rw [z3.1]; exact q)) hb).here (codeAny_handlers_suite_as (HandSPX.lands_againZ fl3 fun h4 fl4 up4 => ?_))))) (by intro q; cases q)
  obtain ⟨o4, v4, g4, z4, d4⟩ := fl4.there
  have K4 := know (Jv.landed nb fl4.1 ((up.trans up3).trans up4) os ag) g4 z4 d4
  refine store_ok (X := X.suite e (X.pn ++ pns)) (v := .ref e) (inv_in K4 e) hnd hix (.inl hnl) rfl (fun s5 S5 => ?_) (.inr hnl)
  refine wpAny_mono ((hsu e _).run [] s5 _ _ _ S5 (hyes e ne)) (fun fl s6 q => ?_) fun _ _ z => z.elim
  have fin : ∀ {ρ : L2.St} {L : Hp} {Q : Shared → Prop}, Inv (X.suite e (X.pn ++ pns)) [] ρ L s6 → (∀ s7, Inv X pns (ρ.set ix none) L s7 → Q s7) → wpAny (model X.prog X.w) X.A (do bindName X.env n .none; unbindBehindTheSuite X.env n po') (fun _ s7 => Q s7) X.xe s6 :=
    fun {ρ L Q} S6 hq => gone_ok (inv_out S6 ok) hnd hix hnl hq
  cases fl with
  | next => exact let ⟨ρ, L, S6, q⟩ := q; fin S6 fun s7 I7 => ⟨_, _, I7, q⟩
  | brk => exact let ⟨ρ, L, S6, q⟩ := q; fin S6 fun s7 I7 => ⟨_, _, I7, q⟩
  | cont => exact let ⟨ρ, L, S6, q⟩ := q; fin S6 fun s7 I7 => ⟨_, _, I7, q⟩
  | ret u => exact let ⟨v, ρ, L, S6, r, q⟩ := q; fin S6 fun s7 I7 => ⟨_, _, _, I7, r, q⟩
end
end Rg
namespace Rg
open PySem PySem.Spec PyProof.Rows L2
theorem call_or {X : Cx} {fv : Value} {r1 r2 : List V → Hp → VK → Prop} (h1 : CallR X fv r1) (h2 : CallR X fv r2) : CallR X fv (fun xs Hh Qq => r1 xs Hh Qq ∨ r2 xs Hh Qq) := fun pns s σs Hh xs us Qq Iv rr h => h.elim (h1 pns s σs Hh xs us Qq Iv rr) (h2 pns s σs Hh xs us Qq Iv rr)
/-- an error that is kept: its object, its dict -/
def ErrV (Hh : Hp) (x : V) (C : Addr) (fs : List (Str × V)) : Prop := ∃ (e dd : Addr), x = .ref e ∧ Hh e = some (errO e C (some dd)) ∧ Hh dd = some (.xd fs)
theorem err_inst {P : Program} {w : World} {Hh : Hp} {hp : Heap} {e C dd : Addr} {fs : List (Str × V)} (hok : HOk P w Hh hp) (he : Hh e = some (errO e C (some dd))) (hd : Hh dd = some (.xd fs)) :
    ∃ (ob od : Obj) (mA : Str → Option Value), PySem.W.InstAt hp e ob C (some od) ∧ (∀ f, PySem.W.lookIn f od = some (mA f)) ∧ ∀ f, RelO (fs.lookup f) (mA f) := by
  obtain ⟨ob, vs, g, c1, c2, c3⟩ := errO_at hok he
  obtain ⟨mA, hns, hr⟩ := (show ObjOk P w Hh hp dd (.xd fs) from hok dd _ hd)
  obtain ⟨od, ho, hl⟩ := lookIn_ns hns
  exact ⟨ob, od, mA, ⟨g, c1, by unfold PySem.W.notCls; rw [c3] <;> rfl, by rw [c2]; exact ho⟩, hl, hr⟩
/-- isinstance(e, c), e an error that is kept -/
def rIsE (K : PySem.W.Frag) : List V → Hp → VK → Prop := fun xs Hh Qq => ∃ (x c : V) (cv : Value) (C : Addr) (fs : List (Str × V)) (b : Bool), xs = [x, c] ∧ (∀ u, RelV c u → u = cv) ∧ ExcC K C ∧ ErrV Hh x C fs ∧ PySem.W.kitOne K (.ref C) cv = some b ∧ Qq (.bl b) Hh
theorem cr_isE {X : Cx} : CallR X (.builtin "isinstance") (rIsE X.K) := by
  intro pns s σs Hh xs us Qq Iv rr ⟨x, c, cv, C, fs, b, ex, hcv, G, ⟨e, dd, ez, he, hd⟩, kit, q⟩
  subst ex ez
  obtain ⟨u1, u2, rfl, r1, r2⟩ := vals2 rr
  obtain rfl : u1 = Value.ref e := r1
  obtain rfl := hcv _ r2
  obtain ⟨ob, od, mA, J, _, _⟩ := err_inst Iv.hok he hd
  have hcl : (PySem.W.clsIn X.K C).isSome = true := by
    obtain ⟨cd, hc, _⟩ := PySem.W.any_some G.hd
    rw [hc]
    rfl
  exact PySem.W.kia_one (PySem.W.kitx_exc hcl G.hg G.hk G.hs G.ha G.hn G.ht G.hm) Iv.kIn J kit (fun z => nomatch z) fun tk => ⟨.bl b, Hh, Iv.kept (t' := tk) fun _ _ z => z, rfl, q⟩
/-- e.f, e an error that is kept -/
def tFldE (K : PySem.W.Frag) (te : TE) (f : Str) : TE := fun σs Hh Qq => te σs Hh fun x J => ∃ (C : Addr) (fs : List (Str × V)) (v : V), ErrV J x C fs ∧ XfC K C ∧ PySem.W.findIn K (.ref C) f = some none ∧ fs.lookup f = some v ∧ Qq v J
theorem pe_fldE {X : Cx} {ex : Expr} {te : TE} {po : Pos} {n : Str} (he : PE X ex te) (hb : attributeBase ex n X.env (eval ex X.env) = eval ex X.env := by rfl) : PE X (.Attribute ex n po) (tFldE X.K te n) := by
  refine ⟨fun pns s σs Hh Qq Iv h => attr_of hb (thn (he.run pns s σs Hh _ Iv h) fun u s1 hh => ?_)⟩
  obtain ⟨x, J, I1, rx, C, fs, v, ⟨e, dd, ez, g1, g2⟩, T, hno, l, q⟩ := hh
  subst ez
  obtain rfl : u = Value.ref e := rx
  obtain ⟨ob, od, mA, K1, hl, hr⟩ := err_inst I1.hok g1 g2
  obtain ⟨z, hz, rz⟩ := RelO.some_of (v := v) (o := mA n) (by rw [← l]; exact hr n)
  exact HandSPX.exc_get I1.kIn K1 T.ga T.gg T.exC (PySem.W.findObj_own T.hdC hno rfl (by rw [hl, hz])) (handed_of rz) ⟨v, J, I1.tok _, rz, q⟩
end Rg
namespace Rg
open PySem PySem.Spec PyProof.Rows L2
/-- name = {k: v for ..}, a plain local name -/
theorem sw_dc {kx vx : Expr} {gs : List Comprehension} {sc : Scope} {po py : Pos} {y : Str} {ln : Nat} {ev : Env} (hk : ev.scope.kind = .function) (hy : ev.scope.names.lookup y = some .local) (hl : (py.line == po.line) = true)
    (ha : (sc.names.any fun (n, k) => n == y && (k == .local || k == .cell)) = false) : swapsWith (.DictComp kx vx gs sc po) (some (.Name y py)) ln ev = pure true := by
  have k1 : ev.kindOf y = some .local := hy
  have k2 : ev.blockKind = .function := by unfold Env.blockKind; rw [hk]; rfl
  unfold swapsWith
  simp only [k2, k1, ha, Expr.pos, hl]
  rfl
section
variable {X : Cx}
theorem ps_setDc {ix : Nat} {y : Str} {py : Pos} {kx vx tg itx : Expr} {ifs : List Expr} {sc : Scope} {own : List (Str × Nat)} {po spo : Pos} {wi : TI} {g : TG} {tt : TT} {tk tv : TE} (hc : X.calm = true) (hN : X.N.Nodup) (hy : X.N[ix]? = some y) (hyl : X.env.scope.names.lookup y = some .local)
    (hsw : swapsWith (.DictComp kx vx [⟨tg, itx, ifs, 0⟩] sc po) (some (.Name y py)) spo.line X.env = pure true) (hi : PI X tg itx wi) (ok : BlkOk X.N X.env.scope sc own)
    (hg : ∀ (s : Shared) (H : Hp) (C : Addr) (cl : List (Str × Addr)) (fp : List Addr), PG (X.blk s H sc (compEnvC sc cl C X.env) fp) tg g) (ht : ∀ (s : Shared) (H : Hp) (C : Addr) (cl : List (Str × Addr)) (fp : List Addr), PTs (X.blk s H sc (compEnvC sc cl C X.env) fp) ifs tt)
    (hk : ∀ (s : Shared) (H : Hp) (C : Addr) (cl : List (Str × Addr)) (fp : List Addr), PE (X.blk s H sc (compEnvC sc cl C X.env) fp) kx tk) (he : ∀ (s : Shared) (H : Hp) (C : Addr) (cl : List (Str × Addr)) (fp : List Addr), PE (X.blk s H sc (compEnvC sc cl C X.env) fp) vx tv)
    (hs : ∀ x, foldedSetIterable itx X.env x = pure x := by intro _; rfl) : PS X (.Assign [.Name y py] (.DictComp kx vx [⟨tg, itx, ifs, 0⟩] sc po) spo) (tAsg (tDc wi g tt tk tv (own.map (·.2))) (gName ix)) := by
  refine ⟨fun pns sh σs Hh De Iv h => ?_⟩
  rw [exec_Assign_Name_used _ _ _ _ hsw]
  refine wpAny_bind (wpAny_standAt (wpAny_bind ?_))
  show wpAny _ X.A (do let _ ← comprehension (.DictComp kx vx [⟨tg, itx, ifs, 0⟩] sc po) sc X.env (firstIterPos [⟨tg, itx, ifs, 0⟩] po) newDict false (eval itx X.env) (some (assign (.Name y py) X.env))) _ _ sh
  have h2 : tDc wi g tt tk tv (own.map (·.2)) σs Hh (fun x J => gName ix x σs J De.nx) := h
  refine wpAny_bind (thn (dc_core (Qf := fun _ s' => SP X pns De .next s') hc hN Iv hi ok hg ht hk he hs h2 fun D C s' m J I' q hn f => ?_) fun _ s' hq => wpAny_pure (wpAny_pure hq))
  show wpAny _ _ (assign (.Name y py) X.env (.ref D)) _ _ _
  refine wpAny_assign_Name (store_ok2 (v := V.ref D) I' hN hy (.inl hyl) rfl (fun s2 I2 ⟨a, sb, ha⟩ => ?_) (.inr hyl))
  obtain ⟨f0, f1, f2, f3, f4, f5⟩ := f
  have ne : C ≠ a := ha.elim (fun z => by rw [z]; exact f1) fun z e => f4 y a z e.symm
  exact ⟨m, hn.sameBut sb ne, fun h3 sb3 => ⟨_, J, I2.turned (t' := s2.toks) (fun b o hb e => (sb3.2 b hb).trans e) f0 f1 f3 f4 f5, q⟩⟩
end
end Rg
namespace Rg
open PySem PySem.Spec PyProof.Rows L2
/-! ### the tuples of a zip that are kept -/
theorem tup_at {h h' : Heap} {a : Addr} {its : Array Value} (x : h.IsTuple a its) (e : ∀ o, h.get? a = some o → h'.get? a = some o) : h'.IsTuple a its := let ⟨o, ho, r⟩ := x; ⟨o, e _ ho, r⟩
theorem draws_tup {prog : Program} {w : World} {A : Around} (clear : A.handled = none) (it l : Addr) (apart : l ≠ it) (its : Array Value) : Draws prog w A it [it, l] its.size (fun j v => its[j]? = some v) (fun j h => h.IsTupleIter it l j ∧ h.IsTuple l its) where
  live := fun _ _ stand => let ⟨o, ho, _⟩ := stand.1; ⟨o, ho⟩
  frame := fun _ _ _ stand kept => ⟨stand.1.at fun o e => kept it (by simp) o e, tup_at stand.2 fun o e => kept l (by simp) o e⟩
  item := fun j s Q E hj stand hQ => by
    refine RZ.nextOf_tuple_item stand.1 stand.2 (x := its[j]) (by simp [hj]) fun h' it' same => ?_
    exact hQ _ h' s.toks (by simp [hj]) ⟨it', stand.2.extBut same.extBut apart⟩ same
  done := fun s Q E stand hE => RZ.nextOf_tuple_end clear stand.1 stand.2 (by simp) hE
section
variable {prog : Program} {w : World} {A : Around} {E : Value → Shared → Prop} {s : Shared} {z TI TO T L i1 i2 : Addr} {fp1 fp2 : List Addr} {n1 n2 j : Nat} {P1 P2 : Nat → Value → Prop} {St1 St2 : Nat → Heap → Prop} {b : Bool} {oT : Obj}
theorem zh_next {Q : Value → Shared → Prop} (S : ZipSep2 z TI TO i1 i2 fp1 fp2) (D1 : Draws prog w A i1 fp1 n1 P1 St1) (D2 : Draws prog w A i2 fp2 n2 P2 St2) (hz : IsZipHeld s.heap z TI TO T b) (hT : s.heap.get? T = some oT) (hTI : IsTupOf2 s.heap TI (.ref i1) (.ref i2)) (t1 : St1 j s.heap) (t2 : St2 j s.heap) (l1 : j < n1) (l2 : j < n2)
    (hQ : ∀ u v h' tk, P1 j u → P2 j v → IsZipHeld h' z TI TO T true → St1 (j + 1) h' → St2 (j + 1) h' → IsTupOf2 h' s.heap.objs.size u v → h'.objs.size = s.heap.objs.size + 1 → (∀ c o, c ≠ z → c ≠ i1 → c ≠ i2 → s.heap.get? c = some o → h'.get? c = some o) → Q (.ref s.heap.objs.size) { s with heap := h', toks := tk }) :
    wpAny (model prog w) A (Builtin.«zip.__next__» ⟨[.ref z], []⟩) (fun fin s' => ∃ v, fin = .done (.ret v) ∧ Q v s') E s := by
  obtain ⟨hp, g, d, tk0, os⟩ := s
  show wpAny _ _ (field (.ref z) 2 >>= _) _ _ _
  refine wpAny_bind (wpAny_field hz rfl (x := .bool false) rfl ?_)
  show wpAny _ _ (field (.ref z) 3 >>= _) _ _ _
  refine wpAny_bind (wpAny_field hz rfl (x := .ref TI) rfl ?_)
  refine wpAny_bind (wpAny_seqItems hTI rfl ?_)
  show wpAny _ _ (Builtin.SmallTypes.ownedTupleIsFree (.ref z) >>= _) _ _ _
  refine wpAny_bind (wpAny_tupleHeld_zip (s := ⟨hp, g, d, tk0, os⟩) hz hT fun k1 z1 c1 => ?_)
  replace c1 : Heap.SameBut z hp k1 := c1
  simp only [Bool.false_eq_true, if_false]
  refine wpAny_bind ?_
  rw [← Array.forIn_toList]
  simp only [List.forIn_cons, List.forIn_nil]
  refine wpAny_bind (wpAny_bind (wpAny_holding ?_))
  show wpAny _ _ (Builtin.SmallTypes.nextOf (.ref i1) >>= _) _ _ ⟨k1, g, d, tk0, os⟩
  refine wpAny_bind (D1.item j _ _ _ l1 (D1.over t1 c1 S.zf1) fun u k2 tk1 pu t1' c2 => wpAny_pure ?_)
  replace c2 : Heap.SameBut i1 k1 k2 := c2
  refine wpAny_pure ?_
  refine wpAny_bind (wpAny_bind (wpAny_holding ?_))
  show wpAny _ _ (Builtin.SmallTypes.nextOf (.ref i2) >>= _) _ _ ⟨k2, g, d, tk1, os⟩
  refine wpAny_bind (D2.item j _ _ _ l2 (D2.over (D2.over t2 c1 S.zf2) c2 S.sep1_2) fun v k3 tk2 pv t2' c3 => wpAny_pure ?_)
  replace c3 : Heap.SameBut i2 k2 k3 := c3
  refine wpAny_pure (wpAny_pure ?_)
  show wpAny _ _ (newTuple [u, v] >>= _) _ _ ⟨k3, g, d, tk2, os⟩
  refine wpAny_bind (wpAny_newTuple ?_)
  have size3 : k3.objs.size = hp.objs.size := by rw [c3.1, c2.1, c1.1]
  have z3 : IsZipHeld k3 z TI TO T true := c3.extBut _ _ S.zi2 (c2.extBut _ _ S.zi1 z1)
  have stay : ∀ c o, c ≠ z → c ≠ i1 → c ≠ i2 → hp.get? c = some o → k3.get? c = some o := fun c o a1 a2 a3 e => c3.extBut _ _ a3 (c2.extBut _ _ a2 (c1.extBut _ _ a1 e))
  refine wpAny_pure ⟨_, rfl, ?_⟩
  show Q (.ref k3.objs.size) _
  have at3 : IsTupOf2 (k3.push { cls := .type "tuple", data := .seq #[u, v] }) k3.objs.size u v := Heap.get?_push_size _ rfl
  have size4 : (k3.push { cls := .type "tuple", data := .seq #[u, v] }).objs.size = k3.objs.size + 1 := Heap.size_push ..
  rw [size3] at at3 size4 ⊢
  exact hQ u v _ tk2 pu pv (Heap.get?_push_of_some _ z3) (D1.frame _ _ _ (D1.over t1' c3 S.sep2_1) fun c _ o e => Heap.get?_push_of_some _ e) (D2.frame _ _ _ t2' fun c _ o e => Heap.get?_push_of_some _ e) at3 size4 fun c o a1 a2 a3 e => Heap.get?_push_of_some _ (stay c o a1 a2 a3 e)
theorem zh_stop {Q : Fin → Shared → Prop} (S : ZipSep2 z TI TO i1 i2 fp1 fp2) (D1 : Draws prog w A i1 fp1 n1 P1 St1) (D2 : Draws prog w A i2 fp2 n2 P2 St2) (hz : IsZipHeld s.heap z TI TO T b) (hT : s.heap.get? T = some oT) (hTI : IsTupOf2 s.heap TI (.ref i1) (.ref i2)) (t1 : St1 j s.heap) (t2 : St2 j s.heap) (l1 : j ≤ n1) (l2 : j ≤ n2) (over : j = n1 ∨ j = n2)
    (hE : ∀ h' tk e, (∀ c o, c ≠ z → c ≠ i1 → c ≠ i2 → s.heap.get? c = some o → h'.get? c = some o) → (∃ o, h'.get? e = some o ∧ o.cls = .type "StopIteration") → E (.ref e) { s with heap := h', toks := tk }) :
    wpAny (model prog w) A (Builtin.«zip.__next__» ⟨[.ref z], []⟩) Q E s := by
  obtain ⟨hp, g, d, tk0, os⟩ := s
  show wpAny _ _ (field (.ref z) 2 >>= _) _ _ _
  refine wpAny_bind (wpAny_field hz rfl (x := .bool false) rfl ?_)
  show wpAny _ _ (field (.ref z) 3 >>= _) _ _ _
  refine wpAny_bind (wpAny_field hz rfl (x := .ref TI) rfl ?_)
  refine wpAny_bind (wpAny_seqItems hTI rfl ?_)
  show wpAny _ _ (Builtin.SmallTypes.ownedTupleIsFree (.ref z) >>= _) _ _ _
  refine wpAny_bind (wpAny_tupleHeld_zip (s := ⟨hp, g, d, tk0, os⟩) hz hT fun k1 z1 c1 => ?_)
  replace c1 : Heap.SameBut z hp k1 := c1
  simp only [Bool.false_eq_true, if_false]
  refine wpAny_bind ?_
  rw [← Array.forIn_toList]
  simp only [List.forIn_cons, List.forIn_nil]
  refine wpAny_bind (wpAny_bind (wpAny_holding ?_))
  show wpAny _ _ (Builtin.SmallTypes.nextOf (.ref i1) >>= _) _ _ ⟨k1, g, d, tk0, os⟩
  by_cases c : j < n1
  · have e2 : j = n2 := by omega
    refine wpAny_bind (D1.item j _ _ _ c (D1.over t1 c1 S.zf1) fun u k2 tk1 pu t1' c2 => wpAny_pure ?_)
    replace c2 : Heap.SameBut i1 k1 k2 := c2
    refine wpAny_pure ?_
    refine wpAny_bind (wpAny_bind (wpAny_holding ?_))
    show wpAny _ _ (Builtin.SmallTypes.nextOf (.ref i2) >>= _) _ _ ⟨k2, g, d, tk1, os⟩
    refine wpAny_bind (D2.done ⟨k2, g, d, tk1, os⟩ _ _ (by rw [← e2]; exact D2.over (D2.over t2 c1 S.zf2) c2 S.sep1_2) fun q e hq he => ?_)
    exact hE q tk1 e (fun c o a1 a2 a3 x => hq c o a3 (c2.extBut _ _ a2 (c1.extBut _ _ a1 x))) he
  · have e1 : j = n1 := by omega
    refine wpAny_bind (D1.done ⟨k1, g, d, tk0, os⟩ _ _ (by rw [← e1]; exact D1.over t1 c1 S.zf1) fun q e hq he => ?_)
    exact hE q tk0 e (fun c o a1 a2 a3 x => hq c o a2 (c1.extBut _ _ a1 x)) he
/-- a zip whose tuples a list keeps -/
def ZSt (z TI TO i1 i2 L : Addr) (St1 St2 : Nat → Heap → Prop) (j : Nat) (h : Heap) : Prop := IsTupOf2 h TI (.ref i1) (.ref i2) ∧ St1 j h ∧ St2 j h ∧ ((IsZip h z TI TO .none ∧ ∃ a b, IsTupOf2 h TO a b) ∨ ∃ T f oT, IsZipHeld h z TI TO T f ∧ h.get? T = some oT ∧ T ≠ z ∧ T ≠ i1 ∧ T ≠ i2 ∧ T ≠ L)
theorem zst_type (st : ZSt z TI TO i1 i2 L St1 St2 j s.heap) : s.TypeIs (.ref z) "zip" := by
  rcases st.2.2.2 with ⟨hz, _⟩ | ⟨_, _, _, hz, _⟩
  · exact ⟨_, hz, rfl⟩
  · exact ⟨_, hz, rfl⟩
theorem zst_keep (D1 : Draws prog w A i1 fp1 n1 P1 St1) (D2 : Draws prog w A i2 fp2 n2 P2 St2) {h h' : Heap} (st : ZSt z TI TO i1 i2 L St1 St2 j h) (nz : z ≠ L) (nTI : TI ≠ L) (nTO : TO ≠ L) (nf1 : L ∉ fp1) (nf2 : L ∉ fp2) (k : ∀ c o, c ≠ L → h.get? c = some o → h'.get? c = some o) : ZSt z TI TO i1 i2 L St1 St2 j h' := by
  obtain ⟨a1, a2, a3, a4⟩ := st
  refine ⟨k _ _ nTI a1, D1.frame _ _ _ a2 fun c hc o e => k c o (fun q => nf1 (q ▸ hc)) e, D2.frame _ _ _ a3 fun c hc o e => k c o (fun q => nf2 (q ▸ hc)) e, ?_⟩
  rcases a4 with ⟨hz, a, b, hTO⟩ | ⟨T, f, oT, hz, hT, r1, r2, r3, r4⟩
  · exact .inl ⟨k _ _ nz hz, a, b, k _ _ nTO hTO⟩
  · exact .inr ⟨T, f, oT, k _ _ nz hz, k _ _ r4 hT, r1, r2, r3, r4⟩
theorem zst_item {Q : Option Value → Shared → Prop} (S : ZipSep2 z TI TO i1 i2 fp1 fp2) (D1 : Draws prog w A.in1 i1 fp1 n1 P1 St1) (D2 : Draws prog w A.in1 i2 fp2 n2 P2 St2) (st : ZSt z TI TO i1 i2 L St1 St2 j s.heap) (hL : L < s.heap.objs.size) (l1 : j < n1) (l2 : j < n2)
    (hQ : ∀ u v h' tk, P1 j u → P2 j v → ZSt z TI TO i1 i2 L St1 St2 (j + 1) h' → IsTupOf2 h' s.heap.objs.size u v → (∀ c o, c ≠ z → c ≠ TO → c ≠ i1 → c ≠ i2 → s.heap.get? c = some o → h'.get? c = some o) → Q (some (.ref s.heap.objs.size)) { s with heap := h', toks := tk }) :
    wpAny (model prog w) A (pyNext (.ref z)) Q E s := by
  have ty := zst_type st
  obtain ⟨hTI, t1, t2, a4⟩ := st
  have lt : ∀ {c o}, s.heap.get? c = some o → s.heap.objs.size ≠ c := fun e => Nat.ne_of_gt (Heap.lt_size e)
  have m1 : s.heap.objs.size ≠ i1 := by obtain ⟨_, e⟩ := D1.live _ _ t1; exact lt e
  have m2 : s.heap.objs.size ≠ i2 := by obtain ⟨_, e⟩ := D2.live _ _ t2; exact lt e
  rcases a4 with ⟨hz, a, b, hTO⟩ | ⟨T, f, oT, hz, hT, r1, r2, r3, r4⟩
  · refine wpAny_pyNext_zipD2_item S D1 D2 hz hTI hTO t1 t2 l1 l2 fun u v h' tk pu pv b1 b2 d1 d2 b5 b6 hk => ?_
    exact hQ u v h' tk pu pv ⟨hk _ _ S.TIz S.TITO S.TIi1 S.TIi2 hTI, d1, d2, .inr ⟨_, false, _, b1, b5, lt hz, m1, m2, Nat.ne_of_gt hL⟩⟩ b5 hk
  · unfold pyNext
    refine wpAny_bind (wpAny_attempt (wpAny_callSpecial?_slot (name := Str.ofString "__next__") ty F.slot_zip_next
      (wpAny_call_entry F.slot_zip_next ty F.entry_zip_next (zh_next S D1 D2 hz hT hTI t1 t2 l1 l2 fun u v h' tk pu pv b1 d1 d2 b5 b6 hk => wpAny_pure ?_) (F.args_zip_next_1 _))))
    exact hQ u v h' tk pu pv ⟨hk _ _ S.TIz S.TIi1 S.TIi2 hTI, d1, d2, .inr ⟨T, true, oT, b1, hk _ _ r1 r2 r3 hT, r1, r2, r3, r4⟩⟩ b5 fun c o q1 _ q3 q4 e => hk c o q1 q3 q4 e
theorem zst_done {Q : Option Value → Shared → Prop} (S : ZipSep2 z TI TO i1 i2 fp1 fp2) (D1 : Draws prog w A.in1 i1 fp1 n1 P1 St1) (D2 : Draws prog w A.in1 i2 fp2 n2 P2 St2) (st : ZSt z TI TO i1 i2 L St1 St2 j s.heap) (l1 : j ≤ n1) (l2 : j ≤ n2) (over : j = n1 ∨ j = n2)
    (hQ : ∀ h' tk, (∀ c o, c ≠ z → c ≠ TO → c ≠ i1 → c ≠ i2 → s.heap.get? c = some o → h'.get? c = some o) → Q none { s with heap := h', toks := tk }) : wpAny (model prog w) A (pyNext (.ref z)) Q E s := by
  have ty := zst_type st
  obtain ⟨hTI, t1, t2, a4⟩ := st
  rcases a4 with ⟨hz, a, b, hTO⟩ | ⟨T, f, oT, hz, hT, r1, r2, r3, r4⟩
  · exact wpAny_pyNext_zipD2_end S D1 D2 hz hTI hTO t1 t2 l1 l2 over hQ
  · unfold pyNext
    refine wpAny_bind (wpAny_attempt (wpAny_callSpecial?_slot (name := Str.ofString "__next__") ty F.slot_zip_next
      (wpAny_call_entry F.slot_zip_next ty F.entry_zip_next (zh_stop S D1 D2 hz hT hTI t1 t2 l1 l2 over fun h' tk e hk he => ?_) (F.args_zip_next_1 _))))
    obtain ⟨o, ho, hc⟩ := he
    refine wpAny_bind (wpAny_isInstance (T := "StopIteration") (b := true) ⟨o, ho, hc⟩ isSubtype_stop ?_)
    exact wpAny_pure (hQ _ _ fun c o q1 _ q3 q4 e => hk c o q1 q3 q4 e)
theorem zst_self {Q : Value → Shared → Prop} (st : ZSt z TI TO i1 i2 L St1 St2 j s.heap) (h : Q (.ref z) s) : wpAny (model prog w) A (pyIter (.ref z)) Q E s := by
  have ty := zst_type st
  refine wpAny_pyIter_slot ty F.slot_zip_iter (wpAny_call_entry F.slot_zip_iter ty F.entry_zip_iter ?_ (F.args_zip_iter_1 _))
  show wpAny _ _ (ret (.ref z)) _ _ s
  exact wpAny_pure ⟨_, rfl, "zip", _, ty, F.slot_zip_next.lookup, h⟩
end
/-- the addresses of the pairs given out so far -/
structure ZGo (P1 P2 : Nat → Value → Prop) (lo : Addr) (h : Heap) (as : List Addr) : Prop where
  up : as.Pairwise (· < ·)
  hi : ∀ a ∈ as, lo < a
  each : ∀ (k : Nat) (a : Addr), as[k]? = some a → ∃ u v, P1 k u ∧ P2 k v ∧ IsTupOf2 h a u v
end Rg
namespace Rg
open PySem PySem.Spec PyProof.Rows L2
theorem nolen_zp : typeLookup (.type "zip") "__len__" = pure none := by rw [typeLookup_type, builtinLookup_eq_fast]; kernel_rfl
theorem nohint_zp : typeLookup (.type "zip") "__length_hint__" = pure none := by rw [typeLookup_type, builtinLookup_eq_fast]; kernel_rfl
/-- all cells of the zip stand below L -/
structure ZLow (z TI TO L : Addr) (fp1 fp2 : List Addr) : Prop where
  z : z < L
  TI : TI < L
  TO : TO < L
  f1 : ∀ c ∈ fp1, c < L
  f2 : ∀ c ∈ fp2, c < L
section
variable {prog : Program} {w : World} {A : Around} {s : Shared} {R : Result → Shared → Prop} {z TI TO L i1 i2 : Addr} {fp1 fp2 : List Addr} {n1 n2 : Nat} {P1 P2 : Nat → Value → Prop} {St1 St2 : Nat → Heap → Prop}
theorem zl_keep (W : ZLow z TI TO L fp1 fp2) (D1 : Draws prog w A i1 fp1 n1 P1 St1) (D2 : Draws prog w A i2 fp2 n2 P2 St2) {j : Nat} {h h' : Heap} (st : ZSt z TI TO i1 i2 L St1 St2 j h) (k : ∀ c o, c ≠ L → h.get? c = some o → h'.get? c = some o) : ZSt z TI TO i1 i2 L St1 St2 j h' :=
  zst_keep D1 D2 st (Nat.ne_of_lt W.z) (Nat.ne_of_lt W.TI) (Nat.ne_of_lt W.TO) (fun q => Nat.lt_irrefl _ (W.f1 _ q)) (fun q => Nat.lt_irrefl _ (W.f2 _ q)) k
theorem zl_loop (S : ZipSep2 z TI TO i1 i2 fp1 fp2) (D1 : Draws prog w A.in1.in1 i1 fp1 n1 P1 St1) (D2 : Draws prog w A.in1.in1 i2 fp2 n2 P2 St2) (W : ZLow z TI TO L fp1 fp2) (hn : min n1 n2 ≤ sizeLine) (res : Value) {h0 : Heap}
    (hR : ∀ h' tk acc c as, (∀ b o, b ≠ L → b ≠ z → b ≠ TO → b ≠ i1 → b ≠ i2 → h0.get? b = some o → h'.get? b = some o) → h'.get? L = some { cls := .type "list", dict := none, data := .seq acc c, slots := #[] } → as.length = min n1 n2 → ZGo P1 P2 L h' as → acc.toList = as.map Value.ref → R (.ok (.ret res)) { s with heap := h', toks := tk }) :
    ∀ (m j : Nat) (h : Heap) (tk c : Nat) (acc : Array Value) (as : List Addr), min n1 n2 - j = m → j ≤ min n1 n2 → ZSt z TI TO i1 i2 L St1 St2 j h → (∀ b o, b ≠ L → b ≠ z → b ≠ TO → b ≠ i1 → b ≠ i2 → h0.get? b = some o → h.get? b = some o) →
      h.get? L = some { cls := .type "list", dict := none, data := .seq acc c, slots := #[] } → acc.toList = as.map Value.ref → as.length = j → ZGo P1 P2 L h as → codeAny (model prog w) A (.builtin "list.extend.loop" ⟨[.ref L, .ref z, res], []⟩) R { s with heap := h, toks := tk } := by
  have lz : L ≠ z := Nat.ne_of_gt W.z
  have lTO : L ≠ TO := Nat.ne_of_gt W.TO
  have li1 : L ≠ i1 := Nat.ne_of_gt (W.f1 _ S.mem1)
  have li2 : L ≠ i2 := Nat.ne_of_gt (W.f2 _ S.mem2)
  have off : ∀ {a : Addr}, L < a → a ≠ z ∧ a ≠ TO ∧ a ≠ i1 ∧ a ≠ i2 := fun {a} q => ⟨Nat.ne_of_gt (Nat.lt_trans W.z q), Nat.ne_of_gt (Nat.lt_trans W.TO q), Nat.ne_of_gt (Nat.lt_trans (W.f1 _ S.mem1) q), Nat.ne_of_gt (Nat.lt_trans (W.f2 _ S.mem2) q)⟩
  intro m
  induction m with
  | zero =>
    intro j h tk c acc as hm hj st keep hL full len G
    have le1 := Nat.min_le_left n1 n2
    have le2 := Nat.min_le_right n1 n2
    refine codeAny_builtin PySem.F.entry_extend_loop ?_
    rw [Around.under_plainId PySem.F.plain_extend_loop _]
    show wpAny _ A.in1 (pyNext (.ref z) >>= _) _ _ _
    refine wpAny_bind (zst_done (s := { s with heap := h, toks := tk }) (A := A.in1) S D1 D2 st (by omega) (by omega) (by omega) fun h' tk' ex => ?_)
    refine wpAny_pure (hR h' tk' acc c as (fun b o q0 q1 q2 q3 q4 e => ex b o q1 q2 q3 q4 (keep b o q0 q1 q2 q3 q4 e)) (ex L _ lz lTO li1 li2 hL) (by omega) ⟨G.up, G.hi, fun k a hk => ?_⟩ full)
    obtain ⟨u, v, pu, pv, e⟩ := G.each k a hk
    obtain ⟨o1, o2, o3, o4⟩ := off (G.hi a (List.mem_of_getElem? hk))
    exact ⟨u, v, pu, pv, ex a _ o1 o2 o3 o4 e⟩
  | succ m ih =>
    intro j h tk c acc as hm hj st keep hL full len G
    have le1 := Nat.min_le_left n1 n2
    have le2 := Nat.min_le_right n1 n2
    have size : acc.size = j := by rw [← Array.length_toList, full, List.length_map, len]
    have hLs : L < h.objs.size := Heap.lt_size hL
    refine codeAny_builtin PySem.F.entry_extend_loop ?_
    rw [Around.under_plainId PySem.F.plain_extend_loop _]
    show wpAny _ A.in1 (pyNext (.ref z) >>= _) _ _ _
    refine wpAny_bind (zst_item (s := { s with heap := h, toks := tk }) (A := A.in1) S D1 D2 st hLs (by omega) (by omega) fun u v h' tk' pu pv st' new ex => ?_)
    dsimp only at new ex ⊢
    have hL' := ex L _ lz lTO li1 li2 hL
    have up : ∀ b o, b ≠ L → h'.get? b = some o → (h'.update L (Obj.mapSeq (·.push (Value.ref h.objs.size)))).get? b = some o := fun b o hb e => (Heap.get?_update_other _ _ (Ne.symm hb)).trans e
    show wpAny _ A.in1 (updateSeq L (·.push (Value.ref h.objs.size)) >>= _) _ _ _
    refine wpAny_bind ?_
    refine wpAny_updateSeq hL' rfl (wpAny_pure ⟨plainId_quiet PySem.F.plain_extend_loop _, ih (j + 1) _ tk' _ (acc.push (Value.ref h.objs.size)) (as ++ [h.objs.size]) (by omega) (by omega) (zl_keep W D1 D2 st' up)
      (fun b o q0 q1 q2 q3 q4 e => up b o q0 (ex b o q1 q2 q3 q4 (keep b o q0 q1 q2 q3 q4 e))) (Heap.get?_update_self _ hL' rfl) (by rw [Array.toList_push, full, List.map_append]; rfl) (by rw [List.length_append, len]; rfl) ⟨?_, ?_, ?_⟩⟩) (by rw [size]; omega) (by show (acc.push (Value.ref h.objs.size)).size ≤ sizeLine + 1; rw [Array.size_push, size]; omega)
    · refine List.pairwise_append.mpr ⟨G.up, List.pairwise_singleton _ _, fun a ha b hb => ?_⟩
      rw [List.mem_singleton.mp hb]
      obtain ⟨k, hk⟩ := List.mem_iff_getElem?.mp ha
      obtain ⟨_, _, _, _, e⟩ := G.each k a hk
      exact Heap.lt_size e
    · intro a ha
      rcases List.mem_append.mp ha with ha | ha
      · exact G.hi a ha
      · rw [List.mem_singleton.mp ha]; exact hLs
    · intro k a hk
      rcases Nat.lt_trichotomy k as.length with q | q | q
      · rw [List.getElem?_append_left q] at hk
        obtain ⟨u', v', pu', pv', e⟩ := G.each k a hk
        have ha := G.hi a (List.mem_of_getElem? hk)
        obtain ⟨o1, o2, o3, o4⟩ := off ha
        exact ⟨u', v', pu', pv', up a _ (Nat.ne_of_gt ha) (ex a _ o1 o2 o3 o4 e)⟩
      · subst q
        have ha : h.objs.size = a := by simpa using hk
        subst ha
        rw [len]
        exact ⟨u, v, pu, pv, up _ _ (Nat.ne_of_gt hLs) new⟩
      · rw [List.getElem?_eq_none (by rw [List.length_append, List.length_singleton]; omega)] at hk
        cases hk
theorem zl_extend (S : ZipSep2 z TI TO i1 i2 fp1 fp2) (D1 : Draws prog w A.in1.in1 i1 fp1 n1 P1 St1) (D2 : Draws prog w A.in1.in1 i2 fp2 n2 P2 St2) (W : ZLow z TI TO L fp1 fp2) (hn : min n1 n2 ≤ sizeLine) (res : Value) (c0 : Nat) (st : ZSt z TI TO i1 i2 L St1 St2 0 s.heap) (hL : s.heap.get? L = some { cls := .type "list", data := .seq #[] c0 })
    (hR : ∀ h' tk acc c as, (∀ b o, b ≠ L → b ≠ z → b ≠ TO → b ≠ i1 → b ≠ i2 → s.heap.get? b = some o → h'.get? b = some o) → h'.get? L = some { cls := .type "list", dict := none, data := .seq acc c, slots := #[] } → as.length = min n1 n2 → ZGo P1 P2 L h' as → acc.toList = as.map Value.ref → R (.ok (.ret res)) { s with heap := h', toks := tk }) :
    wpAny (model prog w) A.in1 (Builtin.List.listExtendWith (.ref L) (.ref z) res)
      (fun fin s' => match fin with | .done f => R (.ok f) s' | .again c' => c'.quiet = true ∧ codeAny (model prog w) A c' R s') (fun e s' => R (.error e) s') s := by
  have ty := zst_type st
  have ne : L ≠ z := Nat.ne_of_gt W.z
  unfold Builtin.List.listExtendWith
  refine wpAny_bind (wpAny_typeOf (T := "zip") ty ?_)
  have q1 : Builtin.List.listSameRef (.ref L) (.ref z) = false := by simp [Builtin.List.listSameRef, ne]
  have q2 : (Value.type "zip" == Value.type "list") = false := by decide
  have q3 : (Value.type "zip" == Value.type "tuple") = false := by decide
  simp only [q1, q2, q3, Bool.or_false, Bool.false_eq_true, if_false]
  refine wpAny_bind (zst_self st ?_)
  refine wpAny_bind (wpAny_holding ?_)
  unfold Builtin.List.listLengthHint
  refine wpAny_bind (wpAny_specialOf ty nolen_zp ?_)
  show wpAny _ A.in1 (specialOf (Value.ref z) (Str.ofString "__length_hint__") >>= _) _ _ _
  refine wpAny_bind (wpAny_specialOf ty nohint_zp ?_)
  refine wpAny_pure ?_
  show wpAny _ A.in1 (rule "list.extend.makes-room" >>= fun _ => Builtin.List.listTouch (.ref L) >>= fun _ => again (.builtin "list.extend.loop" ⟨[.ref L, .ref z, res], []⟩)) _ _ _
  refine wpAny_bind (wpAny_rule ?_)
  refine wpAny_bind ?_
  show wpAny _ A.in1 (updateSeq L (·.push .none) >>= fun _ => updateSeq L (·.pop)) _ _ _
  refine wpAny_bind (wpAny_updateSeq hL rfl ?_)
  have hL2 := Heap.get?_update_self (Obj.mapSeq (·.push Value.none)) hL rfl
  refine wpAny_updateSeq (hz := by seq_fits) hL2 rfl ?_
  have hL3 := Heap.get?_update_self (Obj.mapSeq (·.pop)) hL2 rfl
  have oth : ∀ b o, b ≠ L → s.heap.get? b = some o → ((s.heap.update L (Obj.mapSeq (·.push Value.none))).update L (Obj.mapSeq (·.pop))).get? b = some o := fun b o hb e => (Heap.get?_update_other _ _ (Ne.symm hb)).trans ((Heap.get?_update_other _ _ (Ne.symm hb)).trans e)
  refine wpAny_pure ⟨plainId_quiet PySem.F.plain_extend_loop _, zl_loop (s := s) (h0 := s.heap) S D1 D2 W hn res hR _ 0 _ s.toks _ #[] [] rfl (Nat.zero_le _) (zl_keep W D1 D2 st oth) (fun b o q0 _ _ _ _ e => oth b o q0 e) hL3 rfl rfl ⟨List.Pairwise.nil, (fun _ q => nomatch q), fun k a q => by simp at q⟩⟩
theorem zl_call {E : Value → Shared → Prop} {Q : Value → Shared → Prop} (S : ZipSep2 z TI TO i1 i2 fp1 fp2) (D1 : Draws prog w A.in1.in1.in1 i1 fp1 n1 P1 St1) (D2 : Draws prog w A.in1.in1.in1 i2 fp2 n2 P2 St2) (W : ZLow z TI TO s.heap.objs.size fp1 fp2) (hn : min n1 n2 ≤ sizeLine) (st : ZSt z TI TO i1 i2 s.heap.objs.size St1 St2 0 s.heap)
    (hQ : ∀ h' tk acc c as, (∀ b o, b ≠ z → b ≠ TO → b ≠ i1 → b ≠ i2 → s.heap.get? b = some o → h'.get? b = some o) → h'.get? s.heap.objs.size = some { cls := .type "list", dict := none, data := .seq acc c, slots := #[] } → as.length = min n1 n2 → ZGo P1 P2 s.heap.objs.size h' as → acc.toList = as.map Value.ref → Q (.ref s.heap.objs.size) { s with heap := h', toks := tk }) :
    wpAny (model prog w) A (call (.type "list") [.ref z]) Q E s := by
  refine callType_codes (Q₁ := fun obj t => obj = .ref s.heap.objs.size ∧ t = { s with heap := s.heap.push { cls := .type "list", data := .seq #[] } }) PySem.F.called_list (PySem.F.typeCall_list_1 _) PySem.F.entry_list_init
    (code_list_new _ ⟨rfl, rfl⟩) fun obj t ht => ?_
  obtain ⟨rfl, rfl⟩ := ht
  have hL : (s.heap.push { cls := .type "list", data := .seq #[] }).get? s.heap.objs.size = some { cls := .type "list", data := .seq #[] } := Heap.get?_push_size _ rfl
  refine ⟨⟨_, hL, rfl⟩, PySem.F.args_list_init_2 _ _, ?_⟩
  show wpAny _ _ (do let old ← Builtin.List.listItems (.ref s.heap.objs.size); Builtin.List.listUpdate (.ref s.heap.objs.size) (fun _ => #[]); letGo old.toList.reverse; Builtin.List.listExtendWith (.ref s.heap.objs.size) (.ref z) .none) _ _ _
  refine wpAny_bind ?_
  unfold Builtin.List.listItems
  refine wpAny_bind (wpAny_seqItems hL rfl (wpAny_pure ?_))
  show wpAny _ _ (updateSeq s.heap.objs.size (fun _ => #[]) >>= fun _ => letGo (#[] : Array Value).toList.reverse >>= fun _ => Builtin.List.listExtendWith (.ref s.heap.objs.size) (.ref z) .none) _ _ _
  refine wpAny_bind (wpAny_updateSeq hL rfl ?_)
  have hL2 := Heap.get?_update_self (Obj.mapSeq (fun _ => (#[] : Array Value))) hL rfl
  have oth : ∀ b o, b ≠ s.heap.objs.size → s.heap.get? b = some o → ((s.heap.push { cls := .type "list", data := .seq #[] }).update s.heap.objs.size (Obj.mapSeq (fun _ => (#[] : Array Value)))).get? b = some o :=
    fun b o hb e => (Heap.get?_update_other _ _ (Ne.symm hb)).trans (Heap.get?_push_of_some _ e)
  refine wpAny_bind (wpAny_letGo ?_)
  refine zl_extend (A := A.in1) S D1 D2 W hn .none _ (zl_keep W D1 D2 st oth) hL2 fun h' tk acc c as hk hL' hl G hacc => ?_
  exact ⟨rfl, hQ h' tk acc c as (fun b o q1 q2 q3 q4 e => hk b o (Nat.ne_of_lt (Heap.lt_size e)) q1 q2 q3 q4 (oth b o (Nat.ne_of_lt (Heap.lt_size e)) e)) hL' hl G hacc⟩
end
end Rg
namespace Rg
open PySem PySem.Spec PyProof.Rows L2
/-! ### x in a tuple of data -/
section
variable {X : Cx}
def rInDT (K : PySem.W.Frag) : R2 := fun x y Hh Qq => ∃ dx dxs, Dp K Hh x dx ∧ Dp K Hh y (.tuple dxs) ∧ SeqAt.shaped dx = true ∧ SeqAt.shaped (.tuple dxs) = true ∧ Qq (.bl (dxs.any fun z => PyData.eqv z dx)) Hh
theorem op_inDT (hu : X.A.units + 65 < cLine) : OpR X (compareOp .In) (rInDT X.K) := by
  intro pns s σs Hh x y v u Qq Iv rlx rly h
  obtain ⟨dx, dxs, hdx, hdy, sx, sy, qq⟩ := h
  obtain ⟨as, rd1⟩ := Dp.reads Iv dx x v hdx rlx
  obtain ⟨bs, rd2⟩ := Dp.reads Iv (.tuple dxs) y u hdy rly
  exact SeqAt.in_tuple_reads rd2 rd1 (SeqAt.canLay_of_shaped sy) (SeqAt.canLay_of_shaped sx) (room_in_shaped sx hu) ⟨.bl _, Hh, Iv, rfl, qq⟩
end
end Rg
namespace Rg
open PySem PySem.Spec PyProof.Rows L2
/-! ### list(zip(x, y)), by the hand layer -/
/-- pairs tracked at their addresses -/
def putZ : Hp → List Addr → List (V × V) → Hp
  | H, a :: as, q :: qs => putZ (upd H a (.tup [q.1, q.2])) as qs
  | H, _, _ => H
theorem putZ_off {b : Addr} : ∀ (as : List Addr) (qs : List (V × V)) (H : Hp), b ∉ as → putZ H as qs b = H b
  | [], _, _, _ => rfl
  | _ :: _, [], _, _ => rfl
  | a :: as, q :: qs, H, h => by
    show putZ (upd H a (.tup [q.1, q.2])) as qs b = H b
    rw [putZ_off as qs _ (fun m => h (List.mem_cons_of_mem _ m)), upd_ne (fun m => h (by rw [m]; exact List.mem_cons_self))]
/-- where pairs stand -/
def PairsAt (H : Hp) : List Addr → List (V × V) → Prop := Paired fun (t : Addr) (q : V × V) => H t = some (.tup [q.1, q.2])
theorem putZ_at : ∀ (as : List Addr) (qs : List (V × V)) (H : Hp), as.length = qs.length → as.Nodup → PairsAt (putZ H as qs) as qs
  | [], [], _, _, _ => .nil
  | [], _ :: _, _, h, _ => by cases h
  | _ :: _, [], _, h, _ => by cases h
  | a :: as, q :: qs, H, h, hn => by
    have hn' := List.nodup_cons.mp hn
    refine .cons ?_ (putZ_at as qs (upd H a (.tup [q.1, q.2])) (Nat.succ.inj h) hn'.2)
    show putZ (upd H a (.tup [q.1, q.2])) as qs a = some (.tup [q.1, q.2])
    rw [putZ_off as qs _ hn'.1, upd_same]
theorem pairs_get {H : Hp} : ∀ {as : List Addr} {qs : List (V × V)}, PairsAt H as qs → ∀ {i : Nat} {a : Addr}, as[i]? = some a → ∃ q, qs[i]? = some q ∧ H a = some (.tup [q.1, q.2])
  | _, _, .nil, i, x, h => by cases h
  | _, _, .cons r t, 0, x, h => by
    cases h
    exact ⟨_, rfl, r⟩
  | _, _, .cons r t, i + 1, x, h => pairs_get t h
theorem pairs_mem {H : Hp} {as : List Addr} {qs : List (V × V)} (h : PairsAt H as qs) {a : Addr} (m : a ∈ as) : ∃ (i : Nat) (q : V × V), as[i]? = some a ∧ qs[i]? = some q ∧ H a = some (.tup [q.1, q.2]) := by
  obtain ⟨i, hi⟩ := List.mem_iff_getElem?.mp m
  obtain ⟨q, e1, e2⟩ := pairs_get h hi
  exact ⟨i, q, hi, e1, e2⟩
theorem refs_vals : ∀ as : List Addr, Vals (as.map V.ref) (as.map Value.ref)
  | [] => .nil
  | _ :: as => .cons rfl (refs_vals as)
theorem zip_get {α β : Type} : ∀ {xs : List α} {ys : List β} {i : Nat} {q : α × β}, (xs.zip ys)[i]? = some q → xs[i]? = some q.1 ∧ ys[i]? = some q.2
  | [], _, i, q, h => by simp at h
  | _ :: _, [], i, q, h => by simp at h
  | x :: xs, y :: ys, 0, q, h => by
    have e : (x, y) = q := by simpa using h
    subst e
    exact ⟨rfl, rfl⟩
  | x :: xs, y :: ys, i + 1, q, h => by
    have h' : (xs.zip ys)[i]? = some q := by simpa using h
    simpa using zip_get h'
theorem zip_laid {X : Cx} {pins : List (Addr × Obj)} {σ : L2.St} {H : Hp} {s : Shared} {h' : Heap} {tk : Nat} {xs ys : List V} {is js : List Value} {acc : Array Value} {c : Nat} {as : List Addr} {L : Addr} (I : Inv X pins σ H s) (hx : Vals xs is) (hy : Vals ys js) (hz : xs.length ≤ sizeLine) (above : s.heap.objs.size ≤ L)
    (keep : ∀ b o, s.heap.get? b = some o → h'.get? b = some o) (hL : h'.get? L = some { cls := .type "list", dict := none, data := .seq acc c, slots := #[] }) (len : as.length = min is.toArray.size js.toArray.size) (G : ZGo (fun i v => is.toArray[i]? = some v) (fun i v => js.toArray[i]? = some v) L h' as) (full : acc.toList = as.map Value.ref) :
    ∃ H' : Hp, Same H H' ∧ H L = none ∧ (∀ t ∈ as, H t = none) ∧ H' L = some (.lst (as.map V.ref)) ∧ PairsAt H' as (xs.zip ys) ∧ Inv X pins σ H' { s with heap := h', toks := tk } := by
  have l1 := hx.length
  have l2 := hy.length
  have lz : as.length = (xs.zip ys).length := by rw [List.length_zip, len]; simp only [List.size_toArray]; omega
  have nL : L ∉ as := fun m => Nat.lt_irrefl _ (G.hi _ m)
  have nd : as.Nodup := List.Pairwise.imp (fun {a b} (h : a < b) => Nat.ne_of_lt h) G.up
  have fresh : ∀ t ∈ as, H t = none := fun t m => I.hok.fresh (Nat.le_trans above (Nat.le_of_lt (G.hi t m)))
  have freshL : H L = none := I.hok.fresh above
  have at_ := putZ_at as (xs.zip ys) (upd H L (.lst (as.map V.ref))) lz nd
  have off : ∀ b, b ∉ as → b ≠ L → putZ (upd H L (.lst (as.map V.ref))) as (xs.zip ys) b = H b := fun b m n => by rw [putZ_off as _ _ m, upd_ne n]
  have low : ∀ b o, s.heap.get? b = some o → b ∉ as ∧ b ≠ L := fun b o e => ⟨fun m => absurd (Heap.lt_size e) (Nat.not_lt.mpr (Nat.le_trans above (Nat.le_of_lt (G.hi b m)))), Nat.ne_of_lt (Nat.lt_of_lt_of_le (Heap.lt_size e) above)⟩
  have kp : ∀ b u, H b = some u → (putZ (upd H L (.lst (as.map V.ref))) as (xs.zip ys)) b = some u := fun b u e => by
    rw [off b (fun m => by rw [fresh b m] at e; cases e) (fun m => by rw [m, freshL] at e; cases e)]
    exact e
  have eL : putZ (upd H L (.lst (as.map V.ref))) as (xs.zip ys) L = some (.lst (as.map V.ref)) := by rw [putZ_off as _ _ nL, upd_same]
  refine ⟨putZ (upd H L (.lst (as.map V.ref))) as (xs.zip ys), kp, freshL, fresh, eL, at_, ?_⟩
  refine I.call' (ch := []) rfl ⟨fun b o q _ _ _ => keep b o q, fun b o q _ _ _ => ⟨o.slots, keep b o q⟩, fun b o q n _ => ?_, fun b o q _ => ⟨o, keep b o q⟩, fun b us q => kp b _ q, fun b o u q => kp b _ q, fun b ps q => ⟨#[], by rw [kp b _ q]; simp⟩⟩ (fun b u q => ?_) I.bare fun b m => by simp at m
  · obtain ⟨m1, m2⟩ := low b o q
    rw [off b m1 m2]
    exact n
  · by_cases m : b ∈ as
    · obtain ⟨i, p, e1, e2, e3⟩ := pairs_mem at_ m
      rw [e3] at q
      cases q
      obtain ⟨x, y⟩ := p
      obtain ⟨f1, f2⟩ := zip_get e2
      obtain ⟨u, v, pu, pv, hT⟩ := G.each i b e1
      obtain ⟨u', hu, ru⟩ := hx.get f1
      obtain ⟨v', hv, rv⟩ := hy.get f2
      have eu : u' = u := by rw [List.getElem?_toArray, hu] at pu; exact Option.some.inj pu
      have ev : v' = v := by rw [List.getElem?_toArray, hv] at pv; exact Option.some.inj pv
      subst eu ev
      exact ⟨by show 2 ≤ sizeLine; decide, [u', v'], .cons ru (.cons rv .nil), ⟨_, hT, rfl, _, rfl⟩⟩
    · by_cases m2 : b = L
      · rw [m2] at q ⊢
        rw [eL] at q
        cases q
        refine ⟨by rw [List.length_map, lz, List.length_zip]; omega, acc.toList, c, by rw [full]; exact refs_vals as, ?_⟩
        rw [Array.toArray_toList]
        exact hL
      · rw [off b m m2] at q
        exact (I.hok b u q).stay (fun d v _ y => keep d v y) (fun d y => kp d _ y) fun d us y => kp d _ y
section
variable {X : Cx}
/-- two lists, or two tuples -/
def Seq2 (K : PySem.W.Frag) (H : Hp) (a b : Addr) (xs ys : List V) : Prop := (SqL K H a xs ∧ SqL K H b ys) ∨ (SqT K H a xs ∧ SqT K H b ys)
def tLZip (K : PySem.W.Frag) (ta : TA) : TE := fun σ H Q => ta σ H fun vs H1 => ∃ (a b : Addr) (xs ys : List V), vs = [.ref a, .ref b] ∧ Seq2 K H1 a b xs ys ∧
  ∀ (p : Addr) (ts : List Addr) (H' : Hp), Same H1 H' → H1 p = none → (∀ t ∈ ts, H1 t = none) → H' p = some (.lst (ts.map V.ref)) → PairsAt H' ts (xs.zip ys) → Q (.ref p) H'
theorem pe_listZip {e e2 : Expr} {ta : TA} {p p2 pos2 pos : Pos} (calm : X.calm = true) (gl : Gl X "list") (ml : X.mg "list" = none) (gz : Gl X "zip") (mz : X.mg "zip" = none) (ha : PA X [e, e2] ta)
    (st : starEach [.Call (.Name "zip" p2) [e, e2] [] pos2] X.env = (false, eval (.Call (.Name "zip" p2) [e, e2] [] pos2) X.env) :: starEach [] X.env := by rfl)
    (st2 : starEach [e, e2] X.env = (false, eval e X.env) :: starEach [e2] X.env := by rfl) (pl2 : (backTo pos2 (starEach [e2] X.env)).any (·.1) = false := by rfl) :
    PE X (.Call (.Name "list" p) [.Call (.Name "zip" p2) [e, e2] [] pos2] [] pos) (tLZip X.K ta) := by
  refine ⟨fun pins s σ H Q I h => ?_⟩
  refine wpAny_Call_Name_kw (ld_blt I gl ml (by decide +kernel : bootBuiltins "list" = some (.type "list")) ?_)
  refine PyProof.Rows.callWith_type1 ?_ st rfl
  rw [st]
  show wpAny _ _ (spliced ((false, eval (.Call (.Name "zip" p2) [e, e2] [] pos2) X.env) :: backTo pos (starEach [] X.env))) _ _ s
  refine Calls.spliced_cons ?_
  refine wpAny_Call_Name_kw (ld_blt I gz mz PyProof.Rows.boot_zip ?_)
  refine PyProof.Rows.callWith_type1 (thn (ha.run pos2 pins s σ H _ I h) fun us s1 ⟨vs, H1, I1, r1, q1⟩ => ?_) st2 pl2
  obtain ⟨a, b, xs, ys, ex, sq, q⟩ := q1
  subst ex
  cases r1 with
  | cons r rr =>
    cases rr with
    | cons r' rr =>
      cases rr
      cases r
      cases r'
      have clear := I1.ok.hd calm
      have fin : ∀ {is js : List Value} {St1 St2 : Nat → Heap → Prop} {h' : Heap}, Vals xs is → Vals ys js → xs.length ≤ sizeLine → ys.length ≤ sizeLine → a < s1.heap.objs.size → b < s1.heap.objs.size →
          Draws X.prog X.w X.A.in1.in1.in1 s1.heap.objs.size [s1.heap.objs.size, a] is.toArray.size (fun i v => is.toArray[i]? = some v) St1 → Draws X.prog X.w X.A.in1.in1.in1 (s1.heap.objs.size + 1) [s1.heap.objs.size + 1, b] js.toArray.size (fun i v => js.toArray[i]? = some v) St2 →
          IsZip h' (s1.heap.objs.size + 4) (s1.heap.objs.size + 2) (s1.heap.objs.size + 3) .none → IsPair h' (s1.heap.objs.size + 2) (.ref s1.heap.objs.size) (.ref (s1.heap.objs.size + 1)) → IsPair h' (s1.heap.objs.size + 3) .none .none → St1 0 h' → St2 0 h' → h'.objs.size = s1.heap.objs.size + 5 →
          (∀ c o, s1.heap.get? c = some o → h'.get? c = some o) → wpAny (model X.prog X.w) X.A (spliced (backTo pos (starEach [] X.env))) (fun vs s₁ => wpAny (model X.prog X.w) X.A (call (.type "list") (.ref (s1.heap.objs.size + 4) :: vs)) (EP X pins σ Q) X.xe s₁) X.xe { s1 with heap := h' } := by
        intro is js St1 St2 h' rx ry zx zy la lb D1 D2 hz hTI hTO t1 t2 size keep
        refine Calls.spliced_nil ?_
        have S := zip_sep2 (N := s1.heap.objs.size) (fp1 := [a]) (fp2 := [b]) (fun c m => by rw [List.mem_singleton.mp m]; exact la) (fun c m => by rw [List.mem_singleton.mp m]; exact lb)
        have lx := rx.length
        have W : ZLow (s1.heap.objs.size + 4) (s1.heap.objs.size + 2) (s1.heap.objs.size + 3) h'.objs.size [s1.heap.objs.size, a] [s1.heap.objs.size + 1, b] := by
          rw [size]
          refine ⟨show (s1.heap.objs.size + 4 : Nat) < s1.heap.objs.size + 5 by omega, show (s1.heap.objs.size + 2 : Nat) < s1.heap.objs.size + 5 by omega, show (s1.heap.objs.size + 3 : Nat) < s1.heap.objs.size + 5 by omega, fun c m => ?_, fun c m => ?_⟩
          · rcases List.mem_cons.mp m with e | m
            · rw [e]; exact show (s1.heap.objs.size : Nat) < s1.heap.objs.size + 5 by omega
            · rw [List.mem_singleton.mp m]; exact Nat.lt_of_lt_of_le la (Nat.le_add_right _ _)
          · rcases List.mem_cons.mp m with e | m
            · rw [e]; exact show (s1.heap.objs.size + 1 : Nat) < s1.heap.objs.size + 5 by omega
            · rw [List.mem_singleton.mp m]; exact Nat.lt_of_lt_of_le lb (Nat.le_add_right _ _)
        refine zl_call (s := { s1 with heap := h' }) S D1 D2 W (Nat.le_trans (Nat.min_le_left _ _) (by simp only [List.size_toArray]; omega)) ⟨hTI, t1, t2, .inl ⟨hz, _, _, hTO⟩⟩ fun h2 tk acc c as hk hL len G full => ?_
        have keep2 : ∀ b o, s1.heap.get? b = some o → h2.get? b = some o := fun d o x => by
          have l := Heap.lt_size x
          exact hk d o (Nat.ne_of_lt (Nat.lt_of_lt_of_le l (Nat.le_add_right _ _))) (Nat.ne_of_lt (Nat.lt_of_lt_of_le l (Nat.le_add_right _ _))) (Nat.ne_of_lt l) (Nat.ne_of_lt (Nat.lt_of_lt_of_le l (Nat.le_add_right _ _))) (keep d o x)
        obtain ⟨H', k1, k2, k3, k4, k5, J⟩ := zip_laid (tk := tk) I1 rx ry zx (by show s1.heap.objs.size ≤ h'.objs.size; rw [size]; exact Nat.le_add_right _ _) keep2 hL len G full
        exact ⟨.ref _, H', J, rfl, q _ as H' k1 k2 k3 k4 k5⟩
      rcases sq with ⟨hx, hy⟩ | ⟨hx, hy⟩
      · obtain ⟨is, rx, p1, zx⟩ := I1.list hx
        obtain ⟨js, ry, p2, zy⟩ := I1.list hy
        have d1 : Draws X.prog X.w X.A.in1.in1.in1 s1.heap.objs.size [s1.heap.objs.size, a] is.toArray.size (fun i v => is.toArray[i]? = some v) (fun j h => h.IsListIter s1.heap.objs.size a j ∧ h.IsList a is.toArray) := Draws.list (A := X.A.in1.in1.in1) clear _ a (Nat.ne_of_lt p1.lt) _
        have d2 : Draws X.prog X.w X.A.in1.in1.in1 (s1.heap.objs.size + 1) [s1.heap.objs.size + 1, b] js.toArray.size (fun i v => js.toArray[i]? = some v) (fun j h => h.IsListIter (s1.heap.objs.size + 1) b j ∧ h.IsList b js.toArray) := Draws.list (A := X.A.in1.in1.in1) clear _ b (Nat.ne_of_lt (Nat.lt_succ_of_lt p2.lt)) _
        refine call_zip_2 p1.isList p2.isList fun h' hz hTI hTO h1 h2 size keep => fin rx ry zx zy p1.lt p2.lt d1 d2 hz hTI hTO ⟨h1, p1.isList.at fun o e => keep _ o e⟩ ⟨h2, p2.isList.at fun o e => keep _ o e⟩ size keep
      · obtain ⟨is, rx, p1, zx⟩ := I1.tuple hx
        obtain ⟨js, ry, p2, zy⟩ := I1.tuple hy
        have la : a < s1.heap.objs.size := by obtain ⟨o1, ho1, _⟩ := id p1; exact Heap.lt_size ho1
        have lb : b < s1.heap.objs.size := by obtain ⟨o1, ho1, _⟩ := id p2; exact Heap.lt_size ho1
        have g1 : s1.heap.IsTuple a is.toArray := p1
        have g2 : s1.heap.IsTuple b js.toArray := p2
        have d1 : Draws X.prog X.w X.A.in1.in1.in1 s1.heap.objs.size [s1.heap.objs.size, a] is.toArray.size (fun i v => is.toArray[i]? = some v) (fun j h => h.IsTupleIter s1.heap.objs.size a j ∧ h.IsTuple a is.toArray) := draws_tup (A := X.A.in1.in1.in1) clear _ a (Nat.ne_of_lt la) _
        have d2 : Draws X.prog X.w X.A.in1.in1.in1 (s1.heap.objs.size + 1) [s1.heap.objs.size + 1, b] js.toArray.size (fun i v => js.toArray[i]? = some v) (fun j h => h.IsTupleIter (s1.heap.objs.size + 1) b j ∧ h.IsTuple b js.toArray) := draws_tup (A := X.A.in1.in1.in1) clear _ b (Nat.ne_of_lt (Nat.lt_succ_of_lt lb)) _
        refine RZ.call_zipT g1 g2 fun h' hz hTI hTO h1 h2 size keep => fin rx ry zx zy la lb d1 d2 hz hTI hTO ⟨h1, tup_at g1 fun o e => keep _ o e⟩ ⟨h2, tup_at g2 fun o e => keep _ o e⟩ size keep
/-! ### for .. in (x if c else y) -/
def iIf (tA : TT) (wa wb : TI) : TI := fun σ H R => tA σ H fun d H1 => if d = true then wa σ H1 R else wb σ H1 R
theorem pi_ifExp {c a b tg : Expr} {pos : Pos} {tA : TT} {wa wb : TI} (hc : PT X c tA) (ha : PI X tg a wa) (hb : PI X tg b wb) : PI X tg (.IfExp c a b pos) (iIf tA wa wb) := by
  refine ⟨fun pins s σ H R I h => ?_⟩
  refine wpAny_IfExp (thn (hc.run pins s σ H _ I h) fun d s1 ⟨H1, I1, q1⟩ => ?_)
  cases d with
  | true => exact ha.run pins s1 σ H1 R I1 q1
  | false => exact hb.run pins s1 σ H1 R I1 q1
/-! ### x not in a tuple of data -/
def rNotInDT (K : PySem.W.Frag) : R2 := fun x y Hh Qq => ∃ dx dxs, Dp K Hh x dx ∧ Dp K Hh y (.tuple dxs) ∧ SeqAt.shaped dx = true ∧ SeqAt.shaped (.tuple dxs) = true ∧ Qq (.bl (!dxs.any fun z => PyData.eqv z dx)) Hh
theorem op_notInDT (hu : X.A.units + 65 < cLine) : OpR X (compareOp .NotIn) (rNotInDT X.K) := by
  intro pns s σs Hh x y v u Qq Iv rlx rly h
  obtain ⟨dx, dxs, hdx, hdy, sx, sy, qq⟩ := h
  obtain ⟨as, rd1⟩ := Dp.reads Iv dx x v hdx rlx
  obtain ⟨bs, rd2⟩ := Dp.reads Iv (.tuple dxs) y u hdy rly
  exact SeqAt.notIn_tuple_reads rd2 rd1 (SeqAt.canLay_of_shaped sy) (SeqAt.canLay_of_shaped sx) (room_in_shaped sx hu) ⟨.bl _, Hh, Iv, rfl, qq⟩
end
end Rg
namespace K
open PySem L2 Rg
open Evl (pss_cut)
/-- each from 1 to m -/
def Bd (m : Int) (ls : List Int) : Prop := ∀ x ∈ ls, 1 ≤ x ∧ x ≤ m
theorem Bd.snoc {m x : Int} {ls : List Int} (h : Bd m ls) (h1 : 1 ≤ x) (h2 : x ≤ m) : Bd m (ls ++ [x]) := fun y hy => by
  rcases List.mem_append.mp hy with z | z
  · exact h y z
  · rw [List.mem_singleton.mp z]
    exact ⟨h1, h2⟩
theorem Bd.le {m k : Int} {ls : List Int} (h : Bd m ls) (hk : m ≤ k) : Bd k ls := fun x hx => ⟨(h x hx).1, by have := (h x hx).2; omega⟩
theorem Bd.set {m x : Int} {ls : List Int} {i : Nat} (h : Bd m ls) (h1 : 1 ≤ x) (h2 : x ≤ m) : Bd m (ls.set i x) := fun y hy => by
  rcases List.mem_or_eq_of_mem_set hy with z | z
  · exact h y z
  · rw [z]; exact ⟨h1, h2⟩
theorem Bd.sum {m : Int} : ∀ {ls : List Int}, Bd m ls → (ls.length : Int) ≤ ls.sum ∧ ls.sum ≤ m * ls.length
  | [], _ => by simp
  | x :: ls, h => by
    have ih := Bd.sum (m := m) (ls := ls) fun y hy => h y (List.mem_cons_of_mem _ hy)
    have hx := h x (List.mem_cons_self ..)
    rw [List.sum_cons, List.length_cons]
    have e : m * ((ls.length + 1 : Nat) : Int) = m * ls.length + m := by push_cast; rw [Int.mul_add, Int.mul_one]
    rw [e]
    push_cast
    omega
theorem ixN_at {n : Nat} {r : Int} (h0 : 0 ≤ r) (h1 : r < n) : ixN n r = some r.toNat := by
  unfold ixN
  rw [if_pos h0, if_pos h1]
theorem int_get {ls : List Int} {i : Nat} (h : i < ls.length) : (ls.map V.int)[i]? = some (V.int ls[i]) := by
  rw [List.getElem?_map, List.getElem?_eq_getElem h]; rfl
theorem set_map (ls : List Int) (i : Nat) (x : Int) : (ls.map V.int).set i (V.int x) = (ls.set i x).map V.int := by
  rw [List.map_set]
theorem erase_sum : ∀ {ls : List Int} {i : Nat} (h : i < ls.length), (ls.eraseIdx i).sum = ls.sum - ls[i]
  | x :: ls, 0, h => by simp [List.sum_cons]; omega
  | x :: ls, i + 1, h => by
    have h' : i < ls.length := by simpa using h
    have ih := erase_sum h'
    rw [List.eraseIdx_cons_succ, List.sum_cons, List.sum_cons, ih, List.getElem_cons_succ]
    omega
theorem abs_sum {m : Int} (hm : 0 ≤ m) : ∀ {ls : List Int}, (∀ x ∈ ls, -m ≤ x ∧ x ≤ m) → -(m * ls.length) ≤ ls.sum ∧ ls.sum ≤ m * ls.length
  | [], _ => by simp
  | x :: ls, h => by
    have ih := abs_sum hm (ls := ls) fun y hy => h y (List.mem_cons_of_mem _ hy)
    have hx := h x (List.mem_cons_self ..)
    have e : m * ((ls.length + 1 : Nat) : Int) = m * ls.length + m := by push_cast; rw [Int.mul_add, Int.mul_one]
    rw [List.sum_cons, List.length_cons, e]
    omega
section
variable {P : Program} {w : World} {K : PySem.W.Frag} {mg : Str → Option Value} {base : Heap}
def spLengths (K : PySem.W.Frag) : Sp := fun vs H Q _ => ∃ (p : Addr) (e : Addr × List Int) (m n : Nat), vs = [.ref p, .int (m : Nat)] ∧ 3 ≤ m ∧ m ≤ 8 ∧ n < 800000 ∧ PenAt K H p e n ∧
  ∀ (l : Addr) (ls : List Int) (H' : Hp), ls.length = m → Bd 1000000 ls → H l = none → But p H H' → H' l = some (.lst (ls.map V.int)) → PenAt K H' p e (n + 12) → Q (.ref l) H'
abbrev nLengths : List Str := ["_law_bench_here", "_law_many", "_law_way", "_law_most", "_law_found", "_law_at", "_law_bar"]
theorem scLengths : FnScope nLengths ["_law_bench_here", "_law_many"] (defScope sLwLengths) := ⟨rfl, rfl, rfl, by decide +kernel, rfl, by decide +kernel, by decide +kernel⟩
theorem put_bd {ls : List Int} {m i : Nat} {most r : Int} (h : ls.length = m) (h3 : 3 ≤ m) (h8 : m ≤ 8) (bd : Bd most ls) (mm : most * m ≤ 1000000) (hi : i < ls.length) (r0 : 0 ≤ r) (r3 : r < 3) : ls.sum - ls[i] + r - 1 ≤ 1000000 := by
  have e := Bd.sum (m := most) (ls := ls.eraseIdx i) fun y hy => bd y (List.mem_of_mem_eraseIdx hy)
  rw [erase_sum hi, List.length_eraseIdx_of_lt hi, h] at e
  have b := bd _ (List.getElem_mem hi)
  have c : most * ((m - 1 : Nat) : Int) = most * m - most := by
    rw [show ((m - 1 : Nat) : Int) = (m : Int) - 1 by omega, Int.mul_sub, Int.mul_one]
  omega
theorem ok_lengths {f fD : Addr} {fd fdD : FuncData} (F : Fun K "_law_lengths" "_law_lengths" sLwLengths f fd) (T : Bi mg) (D : DrawAt P w K mg base fD fdD) : FnOk P w K mg base CX0 3 f fd ["_law_bench_here", "_law_many"] (spLengths K) := by
  refine F.ok scLengths (fun vs H Q E h => ?_) (fun cdv A outer s H vs Q E hr h => ?_)
  · obtain ⟨p, e, m, n, rfl, _⟩ := h
    rfl
  · have nd := scLengths.nd
    refine ⟨_, pss_cons (ps_set (i := 2) nd rfl (Or.inl rfl) (pe_call D.ok hr rfl D.g D.kp D.b .nil pass0 (pa_cons (pv 0) (pa_cons pe_int pa_nil))))
      (pss_cut (ps_set (i := 3) nd rfl (Or.inr rfl) (pe_ifExp (pt_cmpR op_lt (pv 2) pe_int (nomark _)) pe_int (pe_ifExp (pt_cmpR op_lt (pv 2) pe_int (nomark _)) pe_int (pe_op op_fdiv (pe_op op_pow pe_int pe_int) (pv 1)))))
      (pss_cons (ps_setLc (i := 4) (own := [("_law_bar", 6)]) (g := gName 6) rfl nd rfl rfl (sw_true rfl rfl rfl (by decide +kernel)) (pi_range1 (by rfl) T.range (pa_cons (pv 1) pa_nil)) (blkOk_by (N := nLengths) (sc := defScope sLwLengths) (by decide +kernel))
        (fun _ _ _ _ _ => pg_name (i := 6) nd rfl (Or.inl rfl)) (fun _ _ _ _ _ => pts_nil) (fun _ _ _ _ _ => pe_op op_add pe_int (pe_call D.ok hr rfl D.g D.kp D.b .nil pass0 (pa_cons (pv 0) (pa_cons (pv 3) pa_nil)))))
      (pss_cut (ps_if (pt_cmpR op_eq (pe_call D.ok hr rfl D.g D.kp D.b .nil pass0 (pa_cons (pv 0) (pa_cons pe_int pa_nil))) pe_int (nomark _))
        (pss_cons (ps_set (i := 5) nd rfl (Or.inl rfl) (pe_call D.ok hr rfl D.g D.kp D.b .nil pass0 (pa_cons (pv 0) (pa_cons (pv 1) pa_nil))))
        (pss_cons (ps_asg (pe_op op_sub (pe_op op_add (pe_op op_sub (pe_callB (cr_sum rfl) (by rfl) T.sum (by decide +kernel) (pa_cons (pv 4) pa_nil)) (pe_ix ix_list (pv 4) (pv 5) (fun _ _ => rfl))) (pe_call D.ok hr rfl D.g D.kp D.b .nil pass0 (pa_cons (pv 0) (pa_cons pe_int pa_nil)))) pe_int) (pg_sub (pv 4) (pv 5) set_list))
        (pss_one (ps_asg (pe_callB (call_max2 rfl) (by rfl) T.max (by decide +kernel) (pa_cons pe_int (pa_cons (pe_ix ix_list (pv 4) (pv 5) (fun _ _ => rfl)) pa_nil))) (pg_sub (pv 4) (pv 5) set_list))))) pss_nil)
      (pss_one (ps_ret (pv 4)))))), ?_⟩
    obtain ⟨p, e, m, n, rfl, m3, m8, hn, pen, k⟩ := h
    refine ⟨_, rfl, p, e, 8, n, rfl, by decide, by decide, by omega, pen, fun r1 H1 r1a r1b b1 pen1 => ?_⟩
    refine ⟨fun σ' H' => ∃ most : Int, 1 ≤ most ∧ most * m ≤ 1000000 ∧ σ' = [some (.ref p), some (.int (m : Nat)), some (.int r1), some (.int most), none, none, none] ∧ H' = H1, ?_, ?_⟩
    · refine ⟨_, rfl, _, _, rfl, rfl, _, rfl, ?_⟩
      refine ite2 (fun c => ⟨9, by decide, by omega, rfl, rfl⟩) (fun c => ?_)
      refine ⟨_, rfl, _, _, rfl, rfl, _, rfl, ?_⟩
      refine ite2 (fun c => ⟨3, by decide, by omega, rfl, rfl⟩) (fun c => ?_)
      have pw : CPow 10 6 := ⟨by decide, by decide, by decide⟩
      refine ⟨_, _, rfl, rfl, pw, _, rfl, _, _, rfl, rfl, ⟨by omega, by omega⟩, ?_⟩
      refine ⟨_, ?_, ?_, rfl, rfl⟩
      · show 1 ≤ (10 : Int) ^ (6 : Int).toNat / (m : Int)
        exact Int.le_ediv_of_mul_le (by omega) (by show 1 * (m : Int) ≤ 1000000; omega)
      · exact Int.ediv_mul_le _ (by omega)
    rintro σ' H' ⟨most, mo1, mom, rfl, rfl⟩
    have mo6 : most ≤ 1000000 := by
      have := Int.mul_le_mul_of_nonneg_left (show (1 : Int) ≤ m by omega) (show 0 ≤ most by omega)
      omega
    refine ⟨_, rfl, _, rfl, by omega, by omega, fun D0 hD => ?_⟩
    have hDp : D0 ≠ p := pen1.ne hD
    have hD0 : H D0 = none := b1.free hDp hD
    refine lc_range (lo := 0) (n := ((m : Nat) : Int).toNat) (fun i H' => ∃ ls : List Int, ls.length = i ∧ Bd most ls ∧ H' D0 = some (.lst (ls.map V.int)) ∧ But p H H' ∧ PenAt K H' p e (n + 1 + i)) ⟨[], rfl, fun x hx => (by cases hx), upd_same, b1.mut hD0, pen.mut pen1 b1 hD0⟩ ?_ ?_
    · rintro i H' hi ⟨ls, ll, bd, hd, b, pen'⟩
      rw [Int.toNat_natCast] at hi
      refine ⟨rfl, _, rfl, _, rfl, p, e, most, n + 1 + i, rfl, mo1, mo6, by omega, pen', fun r H4 q0 q1 b4 pen4 => ⟨_, _, rfl, rfl, _, b4 D0 _ hDp hd, szl (by rw [List.length_map]; omega), ls ++ [1 + r], by rw [List.length_append, ll]; rfl, bd.snoc (by omega) (by omega), ?_, (b.trans b4).mut hD0, pen.mut pen4 (b.trans b4) hD0⟩⟩
      rw [List.map_append]
      exact upd_same
    rintro H2 ⟨ls, ll, bd, hd, b2, pen2⟩
    rw [Int.toNat_natCast] at ll pen2
    refine ⟨fun σ' H' => ∃ (z : Option V) (ms : List Int), ms.length = m ∧ Bd 1000000 ms ∧ σ' = [some (.ref p), some (.int (m : Nat)), some (.int r1), some (.int most), some (.ref D0), z, none] ∧ But p H H' ∧ H' D0 = some (.lst (ms.map V.int)) ∧ PenAt K H' p e (n + 12), ?_, ?_⟩
    · refine ⟨_, rfl, p, e, 7, _, rfl, by decide, by decide, by omega, pen2, fun r2 H3 r2a r2b b3 pen3 => ⟨rfl, _, rfl, ?_⟩⟩
      have hd3 := b3 _ _ hDp hd
      have b23 := b2.trans b3
      rw [dec_int]
      refine ite2 (fun c => ?_) (fun c => ?_)
      · refine ⟨_, rfl, _, rfl, p, e, (m : Nat), _, rfl, by omega, by omega, by omega, pen3, fun r3 H4 r3a r3b b4 pen4 => ?_⟩
        have hd4 := b4 _ _ hDp hd3
        have il : r3.toNat < ls.length := by omega
        have gx : atI (ls.map V.int) r3 = some (.int ls[r3.toNat]) := at_of (j := r3.toNat) (by omega) (int_get il)
        refine ⟨_, rfl, D0, ls, rfl, SqL.of hd4, _, rfl, _, rfl, D0, _, _, _, rfl, rfl, SqL.of hd4, gx, _, _, rfl, rfl, _, rfl, p, e, 3, _, rfl, by decide, by decide, by omega, pen4, fun r4 H5 r4a r4b b5 pen5 => ⟨_, _, rfl, rfl, _, _, rfl, rfl, ?_⟩⟩
        have hd5 := b5 _ _ hDp hd4
        have up := put_bd ll m3 m8 bd mom il r4a r4b
        have pen5b := pen5
        obtain ⟨y, hy⟩ : ∃ y : Int, y = ls.sum - ls[r3.toNat] + r4 - 1 := ⟨_, rfl⟩
        refine ⟨_, rfl, _, rfl, D0, _, _, r3.toNat, rfl, rfl, hd5, ixN_at r3a (by rw [List.length_map]; omega), ?_⟩
        have b25 := (b23.trans b4).trans b5
        have h6 : upd H5 D0 (.lst ((ls.map V.int).set r3.toNat (.int (ls.sum - ls[r3.toNat] + r4 - 1)))) D0 = some (.lst ((ls.set r3.toNat y).map V.int)) := by
          rw [upd_same, set_map, hy]
        have b6 : But p H (upd H5 D0 (.lst ((ls.map V.int).set r3.toNat (.int (ls.sum - ls[r3.toNat] + r4 - 1))))) := b25.mut hD0
        have pen6 := pen.mut pen5 b25 hD0 (o := .lst ((ls.map V.int).set r3.toNat (.int (ls.sum - ls[r3.toNat] + r4 - 1))))
        generalize upd H5 D0 (.lst ((ls.map V.int).set r3.toNat (.int (ls.sum - ls[r3.toNat] + r4 - 1)))) = H6 at h6 b6 pen6 ⊢
        have il6 : r3.toNat < (ls.set r3.toNat y).length := by rw [List.length_set]; exact il
        have gx6 : atI ((ls.set r3.toNat y).map V.int) r3 = some (.int y) := at_of (j := r3.toNat) (by omega) (by rw [int_get il6, List.getElem_set_self])
        refine ⟨_, rfl, _, rfl, D0, _, _, _, rfl, rfl, SqL.of h6, gx6, _, _, rfl, _, rfl, _, rfl, D0, _, _, r3.toNat, rfl, rfl, h6, ixN_at r3a (by rw [List.length_map, List.length_set]; omega), ?_⟩
        have mx1 : (1 : Int) ≤ (if y > 1 then y else 1) := by split <;> omega
        have mx2 : (if y > 1 then y else 1) ≤ 1000000 := by split <;> omega
        refine ⟨some (.int r3), (ls.set r3.toNat y).set r3.toNat (if y > 1 then y else 1), by rw [List.length_set, List.length_set]; exact ll, ?_, rfl, b6.mut hD0, by rw [upd_same, set_map], (pen.mut pen6 b6 hD0).mono (by omega)⟩
        rw [List.set_set]
        exact (bd.le mo6).set mx1 mx2
      · exact ⟨none, ls, ll, bd.le mo6, rfl, b23, hd3, pen3.mono (by omega)⟩
    rintro σ' H3 ⟨z, ms, ml, bdm, rfl, b3, h3, pen3⟩
    exact ⟨_, rfl, k D0 ms H3 ml bdm hD0 b3 h3 pen3⟩
end
end K
namespace K
open PySem L2 Rg
open Evl (pss_cut)
/-! ### what a ring tells -/
def sumsOf (ls : List Int) : List Int := ls.foldl (fun s l => s ++ s.map (· + l)) [0]
def levelB (ls : List Int) : Bool := (sumsOf ls).any fun o => decide (2 * o = ls.sum)
def closesB (ls : List Int) : Bool := ls.all fun x => decide (2 * x ≤ ls.sum)
def lsum (ls ns : List Int) : Int := (ns.map fun b => ls.getD b.toNat 0).sum
def sortV (ls ns : List Int) : Str := if 2 * lsum ls ns = ls.sum then "level" else if 2 * lsum ls ns < ls.sum then "short" else "long"
theorem sums_take {ls : List Int} {i : Nat} {z : Int} (h : ls[i]? = some z) : sumsOf (ls.take (i + 1)) = sumsOf (ls.take i) ++ (sumsOf (ls.take i)).map (· + z) := by
  unfold sumsOf
  rw [← take_snoc h, List.foldl_append]
  rfl
theorem sums_len : ∀ (ls : List Int) (i : Nat), i ≤ ls.length → (sumsOf (ls.take i)).length = 2 ^ i
  | ls, 0, _ => rfl
  | ls, i + 1, h => by
    have hz : ls[i]? = some ls[i] := List.getElem?_eq_getElem h
    rw [sums_take hz, List.length_append, List.length_map, sums_len ls i (by omega), Nat.pow_succ]
    omega
theorem closes_max {ls : List Int} {m : Int} (hm : m ∈ ls) (hx : ∀ y ∈ ls, y ≤ m) : decide (2 * m ≤ ls.sum) = closesB ls := by
  unfold closesB
  by_cases c : 2 * m ≤ ls.sum
  · rw [decide_eq_true c]
    refine (List.all_eq_true.mpr fun y hy => decide_eq_true ?_).symm
    have := hx y hy
    omega
  · rw [decide_eq_false c]
    cases e : ls.all fun x => decide (2 * x ≤ ls.sum) with
    | false => rfl
    | true => exact absurd (of_decide_eq_true (List.all_eq_true.mp e m hm)) c
theorem dec_int (a b : Int) : decide (V.int a = V.int b) = decide (a = b) := by
  by_cases e : a = b
  · rw [e]; simp
  · rw [decide_eq_false e, decide_eq_false fun z => e (V.int.inj z)]
theorem all_any (l : List Int) (g : Int → Bool) : (l.map g).any id = l.any g := by
  rw [List.any_map]; rfl
/-- the attributes of a ring, in the order in which __init__ stores them -/
def rf (t : Addr) (ls : List Int) : List (Str × V) := putF "is_clear" (.bl (!levelB ls)) (putF "closes" (.bl (closesB ls)) (putF "total" (.int ls.sum) (putF "lengths" (.ref t) [])))
theorem n1 : ¬ (("lengths" : Str) = "total") := by decide +kernel
theorem n2 : ¬ (("lengths" : Str) = "closes") := by decide +kernel
theorem n3 : ¬ (("lengths" : Str) = "is_clear") := by decide +kernel
theorem n4 : ¬ (("total" : Str) = "closes") := by decide +kernel
theorem n5 : ¬ (("total" : Str) = "is_clear") := by decide +kernel
theorem n6 : ¬ (("closes" : Str) = "is_clear") := by decide +kernel
theorem rf_lengths (t : Addr) (ls : List Int) : (rf t ls).lookup ("lengths" : Str) = some (.ref t) := by
  unfold rf
  rw [lookup_putF, if_neg n3, lookup_putF, if_neg n2, lookup_putF, if_neg n1, lookup_putF, if_pos rfl]
theorem rf_total (t : Addr) (ls : List Int) : (rf t ls).lookup ("total" : Str) = some (.int ls.sum) := by
  unfold rf
  rw [lookup_putF, if_neg n5, lookup_putF, if_neg n4, lookup_putF, if_pos rfl]
theorem rf_closes (t : Addr) (ls : List Int) : (rf t ls).lookup ("closes" : Str) = some (.bl (closesB ls)) := by
  unfold rf
  rw [lookup_putF, if_neg n6, lookup_putF, if_pos rfl]
theorem rf_clear (t : Addr) (ls : List Int) : (rf t ls).lookup ("is_clear" : Str) = some (.bl (!levelB ls)) := by
  unfold rf
  rw [lookup_putF, if_pos rfl]
theorem rf_no (t : Addr) (ls : List Int) {m : Str} (h1 : ¬ m = "lengths") (h2 : ¬ m = "total") (h3 : ¬ m = "closes") (h4 : ¬ m = "is_clear") : (rf t ls).lookup m = none := by
  unfold rf
  rw [lookup_putF, if_neg h4, lookup_putF, if_neg h3, lookup_putF, if_neg h2, lookup_putF, if_neg h1]
  rfl
section
variable {P : Program} {w : World} {K : PySem.W.Frag} {mg : Str → Option Value} {base : Heap}
def RingAt (K : PySem.W.Frag) (C : Addr) (H : Hp) (r : Addr) (ls : List Int) : Prop := ∃ dx t, H r = some (.ins C dx (rf t ls)) ∧ SqT K H t (ls.map V.int) ∧ ∃ o : Obj, H t = some (.frz o (.tup (ls.map V.int))) ∧ o.dict = none
theorem RingAt.same {C : Addr} {H H' : Hp} {r : Addr} {ls : List Int} (h : RingAt K C H r ls) (s : Same H H') : RingAt K C H' r ls := by
  obtain ⟨dx, t, h1, h2, o, h3, h4⟩ := h
  exact ⟨dx, t, s _ _ h1, s.tup h2, o, s _ _ h3, h4⟩
/-- the class Ring as the top has made it -/
structure RingC (K : PySem.W.Frag) (mg : Str → Option Value) (C : Addr) : Prop where
  cl : Cls K C
  nL : NoAttr K C "lengths"
  nT : NoAttr K C "total"
  nC : NoAttr K C "closes"
  nI : NoAttr K C "is_clear"
  g : mg "Ring" = some (.ref C)
  ha : PySem.W.findIn K (.ref C) "__class__" = some (some (.builtin "object.__class__"))
  hn : PySem.W.specialIn K (.builtin "object.__class__") "__get__" = some (some (.builtin "getset_descriptor.__get__"))
  ht : PySem.W.takesIn K (.builtin "object.__class__") = some true
  hm : PySem.W.mroIn K C (.type "object") = some true
structure Nm (mg : Str → Option Value) : Prop where
  mostL : ∃ t, mg "MOST_LENGTH" = some (.int 1000000 t)
  leastB : ∃ t, mg "LEAST_BARS" = some (.int 3 t)
  mostB : ∃ t, mg "MOST_BARS" = some (.int 8 t)
/-! ### are_lengths -/
def spAreL (K : PySem.W.Frag) : Sp := fun vs H Q _ => ∃ (a : Addr) (ls : List Int), vs = [.ref a] ∧ Knd K H (.ref a) "list" ∧ SqL K H a (ls.map V.int) ∧ ls.length ≤ 1000 ∧ Bd 1000000 ls ∧ ∀ H', Same H H' → Q (.bl true) H'
abbrev nAreL : List Str := ["value", "one"]
theorem scAreL : FnScope nAreL ["value"] (defScope sAreLengths) := ⟨rfl, rfl, rfl, by decide +kernel, rfl, by decide +kernel, by decide +kernel⟩
theorem all_true {bs : List Bool} (h : ∀ b ∈ bs, b = true) : bs.all id = true := List.all_eq_true.mpr fun b hb => h b hb
theorem ok_areL {f fW fL : Addr} {fd fdW fdL : FuncData} (F : Fun K "are_lengths" "are_lengths" sAreLengths f fd) (T : Bi mg) (N : Nm mg) (W : DefAt P w K mg base CX0 2 "is_within" ["value", "least", "most"] spWithin fW fdW) (L : DefAt P w K mg base CX0 1 "is_list" ["value"] (spIsList K) fL fdL) : FnOk P w K mg base CX0 3 f fd ["value"] (spAreL K) := by
  refine F.ok scAreL (fun vs H Q E h => ?_) (fun cdv A outer s H vs Q E hr h => ?_)
  · obtain ⟨a, ls, rfl, _⟩ := h
    rfl
  · obtain ⟨tM, hM⟩ := N.mostL
    refine ⟨_, pss_one (ps_ret (pe_and (pe_call L.ok (hr.mono (by decide)) rfl L.g L.kp L.b .nil pass0 (pa_cons (pv 0) pa_nil)) (pe_one (pe_callB (cr_all rfl) (by rfl) T.all (by decide +kernel) (pa_cons (pe_lc (own := [("one", 1)]) (g := gName 1) (tt := tYes) rfl scAreL.nd (pi_list (pv 0))
      (blkOk_by (N := nAreL) (sc := defScope sAreLengths) (by decide +kernel)) (fun _ _ _ _ _ => pg_name (i := 1) scAreL.nd rfl (Or.inl rfl)) (fun _ _ _ _ _ => pts_nil) (fun _ _ _ _ _ => pe_call W.ok hr rfl W.g W.kp W.b .nil pass0 (pa_cons (pv 1) (pa_cons pe_int (pa_cons (pe_glob (v := .int 1000000) rfl hM ⟨_, rfl⟩) pa_nil))))) pa_nil))))), ?_⟩
    obtain ⟨a, ls, rfl, hk, hs, hl, hb, q⟩ := h
    refine ⟨_, rfl, _, "list", rfl, hk, fun H1 s1 => ⟨_, rfl, iteDT (.inl rfl) ?_⟩⟩
    refine ⟨_, rfl, a, rfl, ⟨_, s1.seq hs⟩, fun D hD => ?_⟩
    have hD0 := s1.free hD
    refine lc_list (K := K) (a := a) (xs := ls.map V.int) (fun i H' => Same H H' ∧ ∃ bs : List Bool, (∀ b ∈ bs, b = true) ∧ bs.length ≤ i ∧ H' D = some (.lst (bs.map V.bl))) ⟨s1.new hD, [], (fun b hb => nomatch hb), Nat.le_refl _, upd_same⟩ (fun i H' _ p => p.1.seq hs) ?_ ?_
    · rintro i x H' hi ⟨s2, bs, h1, h2, h3⟩
      obtain ⟨z, hz, rfl⟩ := int_at hi
      have hil : i < ls.length := (List.getElem?_eq_some_iff.mp hz).1
      have hzb := hb z (List.mem_of_getElem? hz)
      refine ⟨rfl, _, rfl, z, 1, 1000000, rfl, _, h3, (by rw [List.length_map]; exact sm (by omega)), s2.mut hD0, bs ++ [true], fun b hb => ?_, by rw [List.length_append, List.length_singleton]; omega, ?_⟩
      · rcases List.mem_append.mp hb with m | m
        · exact h1 b m
        · exact List.mem_singleton.mp m
      · rw [upd_same, List.map_append, decide_eq_true hzb.1, decide_eq_true hzb.2]
        rfl
    · rintro H' ⟨s2, bs, h1, h2, h3⟩
      refine ⟨D, bs, rfl, SqL.of h3, ?_⟩
      rw [all_true h1]
      exact q H' s2
/-! ### has_level -/
def spHasL (K : PySem.W.Frag) : Sp := fun vs H Q _ => ∃ (t : Addr) (ls : List Int), vs = [.ref t] ∧ SqT K H t (ls.map V.int) ∧ ls.length ≤ 8 ∧ ∀ H', Same H H' → Q (.bl (levelB ls)) H'
abbrev nHasL : List Str := ["lengths", "sums", "length", "one"]
theorem scHasL : FnScope nHasL ["lengths"] (defScope sHasLevel) := ⟨rfl, rfl, rfl, by decide +kernel, rfl, by decide +kernel, by decide +kernel⟩
theorem ok_hasL {f : Addr} {fd : FuncData} (F : Fun K "has_level" "has_level" sHasLevel f fd) (T : Bi mg) : FnOk P w K mg base CX0 2 f fd ["lengths"] (spHasL K) := by
  refine F.ok scHasL (fun vs H Q E h => ?_) (fun cdv A outer s H vs Q E hr h => ?_)
  · obtain ⟨a, ls, rfl, _⟩ := h
    rfl
  · have nd := scHasL.nd
    refine ⟨_, pss_cons (ps_set (i := 1) nd rfl (Or.inl rfl) (pe_lst (pa_cons pe_int pa_nil)))
      (pss_cons (ps_for PassesOwn.never rfl (pi_tup (pv 0)) (pg_name (i := 2) nd rfl (Or.inr rfl)) (pss_one (ps_set (i := 1) nd rfl (Or.inl rfl) (pe_op op_cat (pv 1) (pe_lc (own := [("one", 3)]) (g := gName 3) (tt := tYes) rfl nd (pi_list (pv 1))
        (blkOk_by (N := nHasL) (sc := defScope sHasLevel) (by decide +kernel)) (fun _ _ _ _ _ => pg_name (i := 3) nd rfl (Or.inl rfl)) (fun _ _ _ _ _ => pts_nil) (fun _ _ _ _ _ => pe_op op_add (pv 3) (pv 2)))))))
      (pss_one (ps_ret (pe_callB (cr_any rfl) (by rfl) T.any (by decide +kernel) (pa_cons (pe_lc (own := [("one", 3)]) (g := gName 3) (tt := tYes) rfl nd (pi_list (pv 1))
        (blkOk_by (N := nHasL) (sc := defScope sHasLevel) (by decide +kernel)) (fun _ _ _ _ _ => pg_name (i := 3) nd rfl (Or.inl rfl)) (fun _ _ _ _ _ => pts_nil) (fun _ _ _ _ _ => pe_cmpR op_eq (pe_op op_mul pe_int (pv 3)) (pe_callB (r := rSumT K) (cr_sumT (by rfl)) (by rfl) T.sum (by decide +kernel) (pa_cons (pv 0) pa_nil)) (nomark _))) pa_nil))))), ?_⟩
    obtain ⟨t, ls, rfl, hs, hl, q⟩ := h
    refine ⟨(by show 1 ≤ sizeLine; decide), fun l0 hl0 => ?_⟩
    have s0 : Same H (upd H l0 (.lst [.int 0])) := (Same.refl H).new hl0
    have pw : ∀ i, i ≤ ls.length → (sumsOf (ls.take i)).length ≤ 256 := fun i hi => by
      rw [sums_len ls i hi]
      exact Nat.pow_le_pow_right (by decide) (show i ≤ 8 by omega)
    refine ⟨_, rfl, t, rfl, ⟨_, s0.tup hs⟩, for_tup (K := K) (a := t) (xs := ls.map V.int) (fun i σ H' => ∃ (l : Addr) (z : Option V), σ = [some (.ref t), some (.ref l), z, none] ∧ Same H H' ∧ H' l = some (.lst ((sumsOf (ls.take i)).map V.int)))
      ⟨l0, none, rfl, s0, upd_same⟩ (fun i σ H' _ ⟨_, _, _, s, _⟩ => s.tup hs) ?_ ?_⟩
    · rintro i x σ H' hi ⟨l, z, rfl, s1, h1⟩
      obtain ⟨z, hz, rfl⟩ := int_at hi
      have hil : i < ls.length := (List.getElem?_eq_some_iff.mp hz).1
      have p1 := pw i (by omega)
      refine ⟨_, rfl, _, rfl, l, rfl, ⟨_, SqL.of h1⟩, fun D hD => ?_⟩
      have hlD : l ≠ D := ne_of_none h1 hD
      refine lc_list (K := K) (a := l) (xs := (sumsOf (ls.take i)).map V.int) (fun j H2 => Same H' H2 ∧ H2 D = some (.lst ((((sumsOf (ls.take i)).take j).map (· + z)).map V.int))) ⟨(Same.refl H').new hD, upd_same⟩ (fun j H2 _ p => p.1.seq (SqL.of h1)) ?_ ?_
      · rintro j y H2 hj ⟨s2, h2⟩
        obtain ⟨o, ho, rfl⟩ := int_at hj
        refine ⟨rfl, _, rfl, _, rfl, _, _, rfl, rfl, _, h2, (by rw [List.length_map, List.length_map, List.length_take]; exact sm (by omega)), s2.mut hD, ?_⟩
        rw [upd_same, ← take_snoc ho, List.map_append, List.map_append]
        rfl
      · rintro H2 ⟨s2, h2⟩
        rw [List.length_map, List.take_length] at h2
        refine ⟨l, D, _, _, rfl, rfl, s2 _ _ h1, h2, (by rw [List.length_map, List.length_map, List.length_map]; exact Nat.le_of_lt (sm (by omega))), fun p hp => ⟨p, _, rfl, (s1.trans s2).new hp, ?_⟩⟩
        rw [upd_same, sums_take hz, List.map_append]
    · rintro σ H' ⟨l, z, rfl, s1, h1⟩
      rw [List.length_map, List.take_length] at h1
      have p1 := pw ls.length (Nat.le_refl _)
      rw [List.take_length] at p1
      refine ⟨_, rfl, l, rfl, ⟨_, SqL.of h1⟩, fun D hD => ?_⟩
      refine lc_list (K := K) (a := l) (xs := (sumsOf ls).map V.int) (fun j H2 => Same H' H2 ∧ H2 D = some (.lst ((((sumsOf ls).take j).map fun o => decide (2 * o = ls.sum)).map V.bl))) ⟨(Same.refl H').new hD, upd_same⟩ (fun j H2 _ p => p.1.seq (SqL.of h1)) ?_ ?_
      · rintro j y H2 hj ⟨s2, h2⟩
        obtain ⟨o, ho, rfl⟩ := int_at hj
        refine ⟨rfl, _, rfl, _, _, rfl, rfl, .inl ⟨by decide, by decide⟩, _, rfl, t, ls, rfl, (s1.trans s2).tup hs, rfl, _, h2, (by rw [List.length_map, List.length_map, List.length_take]; exact sm (by omega)), s2.mut hD, ?_⟩
        rw [upd_same, ← take_snoc ho, List.map_append, List.map_append, dec_int]
        rfl
      · rintro H2 ⟨s2, h2⟩
        rw [List.length_map, List.take_length] at h2
        refine ⟨D, _, rfl, SqL.of h2, ?_⟩
        rw [all_any]
        exact q H2 (s1.trans s2)
/-! ### Ring.__init__ -/
def spRI (K : PySem.W.Frag) (C : Addr) : Sp := fun vs H Q _ => ∃ (r l dx : Addr) (ls : List Int), vs = [.ref r, .ref l] ∧ H r = some (.ins C dx []) ∧ Knd K H (.ref l) "list" ∧ SqL K H l (ls.map V.int) ∧ 3 ≤ ls.length ∧ ls.length ≤ 8 ∧ Bd 1000000 ls ∧
  ∀ H', RingAt K C H' r ls → (∀ b o, H b = some o → b ≠ r → H' b = some o) → Q .non H'
theorem scRI : FnScope ["self", "lengths"] ["self", "lengths"] (defScope sRingInit) := ⟨rfl, rfl, rfl, by decide +kernel, rfl, by decide +kernel, by decide +kernel⟩
theorem ok_ri {C f fA fH : Addr} {fd fdA fdH : FuncData} (F : Fun K "__init__" "Ring.__init__" sRingInit f fd) (T : Bi mg) (N : Nm mg) (R : RingC K mg C) (A' : DefAt P w K mg base CX0 3 "are_lengths" ["value"] (spAreL K) fA fdA) (L : DefAt P w K mg base CX0 2 "has_level" ["lengths"] (spHasL K) fH fdH) : FnOk P w K mg base CX0 4 f fd ["self", "lengths"] (spRI K C) := by
  refine F.ok scRI (fun vs H Q E h => ?_) (fun cdv A outer s H vs Q E hr h => ?_)
  · obtain ⟨r, l, dx, ls, rfl, _⟩ := h
    rfl
  · obtain ⟨t3, h3⟩ := N.leastB
    obtain ⟨t8, h8⟩ := N.mostB
    refine ⟨_, pss_cons (ps_if (pt_not (pt_val (pe_call A'.ok hr rfl A'.g A'.kp A'.b .nil pass0 (pa_cons (pv 1) pa_nil)))) (pss_one ps_never) pss_nil)
      (pss_cons (ps_if (pt_cmpR op_lt (pe_callB call_len_seq (by rfl) T.len PySem.boot_len (pa_cons (pv 1) pa_nil)) (pe_glob (v := .int 3) rfl h3 ⟨_, rfl⟩) (nomark _)) (pss_one ps_never) pss_nil)
      (pss_cons (ps_if (pt_cmpR op_gt (pe_callB call_len_seq (by rfl) T.len PySem.boot_len (pa_cons (pv 1) pa_nil)) (pe_glob (v := .int 8) rfl h8 ⟨_, rfl⟩) (nomark _)) (pss_one ps_never) pss_nil)
      (pss_cons (ps_fld (pv 0) (pe_callTy cr_tupF (by rfl) T.tuple (by decide +kernel) (pa_cons (pv 1) pa_nil)) rfl)
      (pss_cons (ps_fld (pv 0) (pe_callB (cr_sumT rfl) (by rfl) T.sum (by decide +kernel) (pa_cons (pe_fld (pv 0) rfl) pa_nil)) rfl)
      (pss_cons (ps_fld (pv 0) (pe_cmpR op_le (pe_op op_mul pe_int (pe_callB (cr_maxT rfl) (by rfl) T.max (by decide +kernel) (pa_cons (pe_fld (pv 0) rfl) pa_nil))) (pe_fld (pv 0) rfl) (nomark _)) rfl)
      (pss_one (ps_fld (pv 0) (pe_not (pe_call L.ok (hr.mono (by decide)) rfl L.g L.kp L.b .nil pass0 (pa_cons (pe_fld (pv 0) rfl) pa_nil))) rfl))))))), ?_⟩
    obtain ⟨r, l, dx, ls, rfl, hr0, hk, hs, l3, l8, hb, q⟩ := h
    refine ⟨_, rfl, l, ls, rfl, hk, hs, by omega, hb, fun H1 s1 => ⟨_, rfl, iteF ?_⟩⟩
    refine ⟨_, rfl, l, _, rfl, .inl (s1.seq hs), _, _, rfl, rfl, _, rfl, iteDF (by rw [List.length_map]; omega) ?_⟩
    refine ⟨_, rfl, l, _, rfl, .inl (s1.seq hs), _, _, rfl, rfl, _, rfl, iteDF (by rw [List.length_map]; omega) ?_⟩
    have hr1 := s1 _ _ hr0
    refine ⟨_, rfl, l, _, rfl, s1.seq hs, fun t o ht hd => ?_⟩
    have nrt : r ≠ t := ne_of_none hr1 ht
    have ht0 := s1.free ht
    have tup0 : ∀ u, upd (upd H1 t (.frz o (.tup (ls.map V.int)))) r u t = some (.frz o (.tup (ls.map V.int))) := fun u => by rw [upd_ne nrt.symm, upd_same]
    refine ⟨_, rfl, r, C, dx, [], rfl, (by rw [upd_ne nrt]; exact hr1), R.cl, R.nL, (by show 0 < 1000; decide), ?_⟩
    -- self.total
    refine ⟨_, rfl, r, C, dx, _, _, rfl, upd_same, R.cl, R.nL, (by rw [lookup_putF, if_pos rfl]), t, ls, rfl, .inl (.inr ⟨o, tup0 _⟩), _, rfl, r, C, dx, _, rfl, upd_same, R.cl, R.nT, (by show 1 < 1000; decide), ?_⟩
    rw [upd_upd]
    -- self.closes
    refine ⟨_, rfl, r, C, dx, _, _, rfl, upd_same, R.cl, R.nL, (by rw [lookup_putF, if_neg n1, lookup_putF, if_pos rfl]), t, ls, rfl, .inl (.inr ⟨o, tup0 _⟩), by omega, fun m hm hx => ?_⟩
    refine ⟨_, _, rfl, rfl, .inl ⟨by decide, by decide⟩, _, rfl, r, C, dx, _, _, rfl, upd_same, R.cl, R.nT, (by rw [lookup_putF, if_pos rfl]), _, _, rfl, rfl, _, rfl, r, C, dx, _, rfl, upd_same, R.cl, R.nC, ?_, ?_⟩
    · have e1 := length_putF "total" (V.int ls.sum) (putF "lengths" (V.ref t) [])
      have e2 := length_putF "lengths" (V.ref t) []
      simp only [List.length_nil] at e2
      omega
    dsimp only
    rw [upd_upd, closes_max hm hx]
    -- self.is_clear
    refine ⟨_, rfl, r, C, dx, _, _, rfl, upd_same, R.cl, R.nL, (by rw [lookup_putF, if_neg n2, lookup_putF, if_neg n1, lookup_putF, if_pos rfl]), t, ls, rfl, .inl (.inr ⟨o, tup0 _⟩), l8, fun H5 s5 => ⟨_, rfl, _, rfl, r, C, dx, _, rfl, s5 _ _ upd_same, R.cl, R.nI, ?_, ?_⟩⟩
    · have e1 := length_putF "total" (V.int ls.sum) (putF "lengths" (V.ref t) [])
      have e2 := length_putF "lengths" (V.ref t) []
      have e3 := length_putF "closes" (V.bl (closesB ls)) (putF "total" (V.int ls.sum) (putF "lengths" (V.ref t) []))
      simp only [List.length_nil] at e2
      omega
    · have tf := s5 _ _ (tup0 _)
      refine q _ ⟨dx, t, upd_same, .inl (.inr ⟨o, by rw [upd_ne nrt.symm]; exact tf⟩), o, by rw [upd_ne nrt.symm]; exact tf, hd⟩ fun b o e hbr => ?_
      rw [upd_ne hbr]
      refine s5 _ _ ?_
      rw [upd_ne hbr, upd_ne (ne_of_none (s1 _ _ e) ht)]
      exact s1 _ _ e
end
end K
namespace K
open PySem L2 Rg
open Evl (pss_cut)
section
variable {P : Program} {w : World} {K : PySem.W.Frag} {mg : Str → Option Value} {base : Heap}
/-- a ring, of whose tuple of lengths nothing is known but its items -/
def RingW (K : PySem.W.Frag) (C : Addr) (H : Hp) (r : Addr) (ls : List Int) : Prop := ∃ dx t, H r = some (.ins C dx (rf t ls)) ∧ SqT K H t (ls.map V.int)
theorem RingAt.weak {C : Addr} {H : Hp} {r : Addr} {ls : List Int} (h : RingAt K C H r ls) : RingW K C H r ls := let ⟨dx, t, h1, h2, _⟩ := h; ⟨dx, t, h1, h2⟩
/-! ### len(ring) -/
def spRLen (K : PySem.W.Frag) (C : Addr) : Sp := fun vs H Q _ => ∃ (r : Addr) (ls : List Int), vs = [.ref r] ∧ RingW K C H r ls ∧ Q (.int ls.length) H
theorem scRLen : FnScope ["self"] ["self"] (defScope sRingLen) := ⟨rfl, rfl, rfl, by decide +kernel, rfl, by decide +kernel, by decide +kernel⟩
theorem ok_rlen {C f : Addr} {fd : FuncData} (F : Fun K "__len__" "Ring.__len__" sRingLen f fd) (T : Bi mg) (R : RingC K mg C) : FnOk P w K mg base CX0 1 f fd ["self"] (spRLen K C) := by
  refine F.ok scRLen (fun vs H Q E h => ?_) (fun cdv A outer s H vs Q E hr h => ?_)
  · obtain ⟨r, ls, rfl, _⟩ := h
    rfl
  · refine ⟨_, pss_one (ps_ret (pe_callB call_len_seq (by rfl) T.len PySem.boot_len (pa_cons (pe_fld (pv 0) rfl) pa_nil))), ?_⟩
    obtain ⟨r, ls, rfl, ⟨dx, t, hr0, ht⟩, q⟩ := h
    refine ⟨_, rfl, r, C, dx, _, _, rfl, hr0, R.cl, R.nL, rf_lengths _ _, t, _, rfl, .inr ht, ?_⟩
    rw [List.length_map]
    exact q
end
end K
namespace K
open PySem L2 Rg
open Evl (pss_cut)
section
variable {P : Program} {w : World} {K : PySem.W.Frag} {mg : Str → Option Value} {base : Heap}
theorem kit_self {K : PySem.W.Frag} {C : Addr} : PySem.W.kitOne K (.ref C) (.ref C) = some true := by
  unfold PySem.W.kitOne
  simp
/-- what is no ring: a value of a kind that is no Ring -/
def NoR (K : PySem.W.Frag) (C : Addr) (H : Hp) (v : V) : Prop := ∃ k : String, TyX K H v (.type k) ∧ PySem.W.kitOne K (.type k) (.ref C) = some false
theorem NoR.same {C : Addr} {H H' : Hp} {v : V} (h : NoR K C H v) (s : Same H H') : NoR K C H' v := let ⟨k, a, b⟩ := h; ⟨k, tyx_same a s, b⟩
def spWantR (K : PySem.W.Frag) (C cR : Addr) : Sp := fun vs H Q E => ∃ (v : V) (part : Str), vs = [v, .str part] ∧ ((∃ r ls, v = .ref r ∧ RingW K C H r ls ∧ Q .non H) ∨ (NoR K C H v ∧ Errs E cR "part" (.str part) H))
theorem scWantR : FnScope ["value", "part"] ["value", "part"] (defScope sWantRing) := ⟨rfl, rfl, rfl, by decide +kernel, rfl, by decide +kernel, by decide +kernel⟩
theorem ok_wantR {C cR f fI : Addr} {fd fdI : FuncData} (F : Fun K "want_ring" "want_ring" sWantRing f fd) (T : Bi mg) (R : RingC K mg C) (B : ErrAt P w K mg base "BadRing" "part" cR fI fdI) : FnOk P w K mg base (L2.CX P w) 3 f fd ["value", "part"] (spWantR K C cR) := by
  refine F.okX scWantR (fun vs H Q E h => ?_) (fun cdv A outer s H vs Q E hr h => ?_)
  · obtain ⟨v, part, rfl, _⟩ := h
    rfl
  · refine ⟨_, pss_one (ps_if (pt_not (pt_val (pe_callB call_isi (by rfl) T.isinstance (by decide +kernel) (pa_cons (pv 0) (pa_cons (pe_glob (v := .ref C) rfl R.g rfl) pa_nil)))))
      (pss_one (ps_raise rfl (takes_of rfl rfl rfl rfl) (pmk_oex B.oex B.ic B.ti B.ok hr B.b .nil pass0 rfl B.g (pa_cons (pv 1) pa_nil)))) pss_nil), ?_⟩
    obtain ⟨v, part, rfl, h⟩ := h
    rcases h with ⟨r, ls, rfl, ⟨dx, t, hr0, ht⟩, q⟩ | ⟨⟨k, ty, kit⟩, er⟩
    · refine ⟨_, rfl, .ref r, .ref C, _, _, _, rfl, .own C, .base (.ins hr0 R.cl R.ha R.hn R.ht R.hm), kit_self, ?_⟩
      exact ⟨_, rfl, iteF q⟩
    · refine ⟨_, rfl, v, .ref C, _, _, _, rfl, .own C, ty, kit, ?_⟩
      exact ⟨_, rfl, iteT ⟨_, rfl, err_made B.oex B.nf er⟩⟩
end
end K
namespace K
open PySem L2 Rg
open Evl (pss_cut)
theorem ne_bb {a b : Bool} (h : a = b) : (!decide (V.bl a = V.bl b)) = false := by rw [h, decide_eq_true rfl]; rfl
theorem ne_vv (v : V) : (!decide (v = v)) = false := by rw [decide_eq_true rfl]; rfl
theorem at_back {α : Type} {xs : List α} {v : α} (hl : 0 < xs.length) (h : xs[xs.length - 1]? = some v) : atI xs (-1) = some v := by
  unfold atI ixN
  rw [if_neg (by decide), if_pos (by omega), show ((-1 : Int) + (xs.length : Int)).toNat = xs.length - 1 by omega]
  exact h
theorem shaped_nil : SeqAt.shaped (.list []) = true := shaped_ints []
theorem Bd.app {m : Int} {a b : List Int} (h : Bd m a) (k : Bd m b) : Bd m (a ++ b) := fun x hx => (List.mem_append.mp hx).elim (h x) (k x)
theorem Bd.take {m : Int} {a : List Int} (i : Nat) (h : Bd m a) : Bd m (a.take i) := fun x hx => h x (List.mem_of_mem_take hx)
theorem Bd.drop {m : Int} {a : List Int} (i : Nat) (h : Bd m a) : Bd m (a.drop i) := fun x hx => h x (List.mem_of_mem_drop hx)
theorem Bd.one {m x : Int} (h1 : 1 ≤ x) (h2 : x ≤ m) : Bd m [x] := fun y hy => by rw [List.mem_singleton.mp hy]; exact ⟨h1, h2⟩
theorem getD_mem {ls : List Int} {i : Nat} (h : i < ls.length) : ls.getD i 0 ∈ ls := by
  rw [List.getD_eq_getElem?_getD, List.getElem?_eq_getElem h]
  exact List.getElem_mem h
theorem Bd.get {m : Int} {ls : List Int} (h : Bd m ls) {i : Nat} (hi : i < ls.length) : 1 ≤ ls.getD i 0 ∧ ls.getD i 0 ≤ m := h _ (getD_mem hi)
theorem cut_from (xs : List V) {z : Int} {k : Nat} (hz : z = (k : Int)) : cutV xs (some z) none = xs.drop k := by
  subst hz
  unfold cutV
  rw [HT.sIx_nat, HT.sIx_none]
  by_cases h : k ≤ xs.length
  · rw [Nat.min_eq_left h, List.take_of_length_le (by rw [List.length_drop]; omega)]
  · rw [Nat.min_eq_right (by omega), List.drop_eq_nil_of_le (Nat.le_refl _), List.drop_eq_nil_of_le (show xs.length ≤ k by omega), List.take_nil]
theorem getL {ls : List Int} {z : Int} {i : Nat} (hz : z = (i : Int)) (h1 : i < ls.length) : atI (ls.map V.int) z = some (V.int (ls.getD i 0)) := by
  subst hz
  have h : (ls.map V.int)[i]? = some (V.int (ls.getD i 0)) := by rw [int_get h1, List.getD_eq_getElem?_getD, List.getElem?_eq_getElem h1]; rfl
  exact atI_nat h
theorem get_z {ls : List Int} {z : Int} (h0 : 0 ≤ z) (h1 : z < ls.length) : atI (ls.map V.int) z = some (V.int (ls.getD z.toNat 0)) := getL (i := z.toNat) (by omega) (by omega)
theorem eqvA_pd (a b : List Int) : PyData.eqv (.list (a.map PyData.int)) (.list (b.map PyData.int)) = decide (a = b) := by
  simp [PyData.eqv, Rg.eqvA_ints8]
section
variable {P : Program} {w : World} {K : PySem.W.Frag} {mg : Str → Option Value} {base : Heap}
theorem RingW.same {C : Addr} {H H' : Hp} {r : Addr} {ls : List Int} (h : RingW K C H r ls) (s : Same H H') : RingW K C H' r ls := by
  obtain ⟨dx, t, h1, h2⟩ := h
  exact ⟨dx, t, s _ _ h1, s.tup h2⟩
/-- a new ring is told, all that was tracked stands -/
def NewA (K : PySem.W.Frag) (C : Addr) (ls : List Int) (H : Hp) (Q : VK) : Prop := ∀ r H', RingAt K C H' r ls → Same H H' → H r = none → Q (.ref r) H'
theorem NewA.later {C : Addr} {ls : List Int} {H H1 : Hp} {Q : VK} (h : NewA K C ls H Q) (s : Same H H1) : NewA K C ls H1 Q := fun r H' a b c => h r H' a (s.trans b) (s.free c)
/-! ### is_within of anything -/
/-- what is_within tells of a value of the kind k -/
def winB (k : String) (lo hi : Int) (v : V) : Bool := decide (k = "int") && match v with
  | .int i => decide (lo ≤ i) && decide (i ≤ hi)
  | _ => false
def spWithinO (K : PySem.W.Frag) : Sp := fun vs H Q _ => ∃ (v : V) (k : String) (lo hi : Int), vs = [v, .int lo, .int hi] ∧ Knd K H v k ∧ k ≠ "int" ∧ Q (.bl false) H
theorem ok_withinO {f fI : Addr} {fd fdI : FuncData} (F : Fun K "is_within" "is_within" sIsWithin f fd) (G : DefAt P w K mg base CX0 1 "is_integer" ["value"] (spIsInt K) fI fdI) : FnOk P w K mg base CX0 2 f fd ["value", "least", "most"] (spWithinO K) := by
  refine F.ok scWithin (fun vs H Q E h => ?_) (fun cdv A outer s H vs Q E hr h => ?_)
  · obtain ⟨v, k, lo, hi, rfl, _⟩ := h
    rfl
  · refine ⟨_, pss_cons (ps_if (pt_not (pt_val (pe_call G.ok hr rfl G.g G.kp G.b .nil pass0 (pa_cons (pv 0) pa_nil)))) (pss_one (ps_ret pe_bl)) pss_nil) (pss_one ps_never), ?_⟩
    obtain ⟨v, k, lo, hi, rfl, hk, nk, q⟩ := h
    refine ⟨_, rfl, v, k, rfl, hk, _, rfl, ?_⟩
    rw [decide_eq_false nk]
    exact iteT q
/-- a value, of a kind, that is an int just if the kind says so -/
def KndI (K : PySem.W.Frag) (H : Hp) (v : V) (k : String) : Prop := Knd K H v k ∧ (k = "int" → ∃ i, v = .int i)
def spWithinG (K : PySem.W.Frag) : Sp := fun vs H Q _ => ∃ (v : V) (k : String) (lo hi : Int), vs = [v, .int lo, .int hi] ∧ KndI K H v k ∧ Q (.bl (winB k lo hi v)) H
theorem ok_withinG {f fI : Addr} {fd fdI : FuncData} (F : Fun K "is_within" "is_within" sIsWithin f fd) (G : DefAt P w K mg base CX0 1 "is_integer" ["value"] (spIsInt K) fI fdI) : FnOk P w K mg base CX0 2 f fd ["value", "least", "most"] (spWithinG K) := by
  refine (fn_or (ok_within F G) (ok_withinO F G)).imp fun vs H Q E h => ?_
  obtain ⟨v, k, lo, hi, rfl, ⟨hk, hi'⟩, q⟩ := h
  by_cases c : k = "int"
  · obtain ⟨i, rfl⟩ := hi' c
    refine .inl ⟨i, lo, hi, rfl, ?_⟩
    unfold winB at q
    rw [decide_eq_true c, Bool.true_and] at q
    exact q
  · refine .inr ⟨v, k, lo, hi, rfl, hk, c, ?_⟩
    unfold winB at q
    rw [decide_eq_false c, Bool.false_and] at q
    exact q
/-! ### want_number of anything -/
theorem madeL2 {C l : Addr} {E : XK} {H : Hp} {ls : List Int} {R : Addr → VK} (hs : H l = some (.lst (ls.map V.int))) (l3 : 3 ≤ ls.length) (l8 : ls.length ≤ 8) (bd : Bd 1000000 ls) (h : ∀ r H', RingAt K C H' r ls → Same H H' → H r = none → R r .non H') :
    ∀ x dx, H x = none → H dx = none → dx ≠ x → spRI K C (.ref x :: ([.ref l] ++ [])) (upd (upd H dx (.own x)) x (.ins C dx [])) (R x) E := by
  intro x dx hx hdx _
  have s0 : Same H (upd (upd H dx (.own x)) x (.ins C dx [])) := fun b o q => by
    rw [upd_ne (ne_of_none q hx), upd_ne (ne_of_none q hdx)]
    exact q
  exact ⟨x, l, dx, ls, rfl, upd_same, ⟨.base (.lst (s0 _ _ hs)), by decide⟩, SqL.of (s0 _ _ hs), l3, l8, bd, fun H' ring kp => h x H' ring (fun b o e => kp b o (s0 b o e) (ne_of_none e hx)) hx⟩
/-- the making of a Ring of a right list -/
structure RingP (P : Program) (w : World) (K : PySem.W.Frag) (mg : Str → Option Value) (base : Heap) (C fI : Addr) (fdI : FuncData) : Prop where
  made : Mk K C fI
  ok : FnOk P w K mg base CX0 4 fI fdI ["self", "lengths"] (spRI K C)
  b : Binds K fdI ["self", "lengths"] []
theorem sl_to {a : Addr} {ls : List Int} {i : Nat} {H : Hp} {Q : VK} (hs : SqT K H a (ls.map V.int)) (hi : i < ls.length) (k : ∀ t, H t = none → Q (.ref t) (upd H t (.tup ((ls.take i).map V.int)))) : rSlA K (.ref a) none (some (i : Int)) H Q := by
  refine ⟨a, _, rfl, hs, fun ⟨_, e2⟩ => ?_, fun _ p hp => ?_⟩
  · rw [HT.sIx_nat, List.length_map] at e2
    omega
  · rw [cutV_to, ← List.map_take]
    exact k p hp
theorem sl_from {a : Addr} {ls : List Int} {z : Int} {i : Nat} {H : Hp} {Q : VK} (hs : SqT K H a (ls.map V.int)) (hz : z = ((i + 1 : Nat) : Int)) (h0 : 0 < ls.length) (k : ∀ t, H t = none → Q (.ref t) (upd H t (.tup ((ls.drop (i + 1)).map V.int)))) : rSlA K (.ref a) (some z) none H Q := by
  refine ⟨a, _, rfl, hs, fun ⟨e1, _⟩ => ?_, fun _ p hp => ?_⟩
  · subst hz
    rw [HT.sIx_nat, List.length_map] at e1
    omega
  · rw [cut_from _ hz, ← List.map_drop]
    exact k p hp
theorem catI {a b : Addr} {xs ys : List Int} {H : Hp} {Q : VK} (ha : H a = some (.tup (xs.map V.int))) (hb : H b = some (.tup (ys.map V.int))) (hl : xs.length + ys.length ≤ 1000) (k : ∀ t H', H' t = some (.tup ((xs ++ ys).map V.int)) → Same H H' → Q (.ref t) H') : rCatA K (.ref a) (.ref b) H Q := by
  refine ⟨a, b, _, _, rfl, rfl, .inl (.inl ha), .inl (.inl hb), by rw [List.length_map, List.length_map]; exact Nat.le_of_lt (sm (by omega)), fun e => k b H ?_ (Same.refl H), fun _ e => k a H ?_ (Same.refl H), fun _ _ p hp => k p _ ?_ ((Same.refl H).new hp)⟩
  · rw [List.map_eq_nil_iff.mp e]; exact hb
  · rw [List.map_eq_nil_iff.mp e, List.append_nil]; exact ha
  · rw [upd_same, List.map_append]
end
end K
namespace K
open PySem L2 Rg
open Evl (pss_cut)
/-! ### strands of bars, each with a sign -/
abbrev Strd := List (Int × Int)
def net (ls : List Int) (st : Strd) : Int := (st.map fun q => ls.getD q.1.toNat 0 * q.2).sum
theorem walk_any {J : It} {n : Nat} {G : Hp → Prop} {Y : Nat → Hp → V → Hp → Prop} (w : Walk J n G Y) {T : V → Hp → (Hp → Prop) → Prop} {H0 : Hp} {Qd : Hp → Prop} (Pv : Nat → Hp → Prop) (h0 : Pv 0 H0) (hG : ∀ i H, i ≤ n → Pv i H → G H)
    (hs : ∀ i x H H', i < n → Pv i H → Y i H x H' → T x H' (Pv (i + 1))) (hd : ∀ H, Pv n H → Qd H) :
    ∃ W : Nat → Nat → Hp → Prop, (∃ m, W 0 m H0) ∧ ∀ i m H, W i m H →
      (J.stop i H ∧ Qd H) ∨ (J.go i H ∧ ∃ Nx : Hp → Prop, (∀ H', Nx H' → ∃ m', m' < m ∧ W (i + 1) m' H') ∧ ∀ x H', J.yld i H x H' → T x H' Nx) := by
  refine ⟨fun i m H => m = n - i ∧ i ≤ n ∧ Pv i H, ⟨n, by simp, Nat.zero_le _, h0⟩, ?_⟩
  rintro i m H ⟨rfl, hi, p⟩
  have q := hG i H hi p
  by_cases hlt : i < n
  · exact .inr ⟨w.goes i H hlt q, Pv (i + 1), fun H' p' => ⟨n - (i + 1), by omega, rfl, hlt, p'⟩, fun x H' y => hs i x H H' hlt p (w.yields i H x H' hlt q y)⟩
  · have e : i = n := by omega
    subst e
    exact .inl ⟨w.stops H q, hd H p⟩
theorem par_imp {α β : Type} {R S : α → β → Prop} (i : ∀ a b, R a b → S a b) : ∀ {xs : List α} {ys : List β}, Paired R xs ys → Paired S xs ys
  | _, _, .nil => .nil
  | _, _, .cons h t => .cons (i _ _ h) (par_imp i t)
theorem par_app {α β : Type} {R : α → β → Prop} : ∀ {xs : List α} {ys : List β} {zs : List α} {ws : List β}, Paired R xs ys → Paired R zs ws → Paired R (xs ++ zs) (ys ++ ws)
  | _, _, _, _, .nil, q => q
  | _, _, _, _, .cons h t, q => .cons h (par_app t q)
theorem par_len {α β : Type} {R : α → β → Prop} : ∀ {xs : List α} {ys : List β}, Paired R xs ys → xs.length = ys.length
  | _, _, .nil => rfl
  | _, _, .cons _ t => congrArg (· + 1) (par_len t)
theorem par_get {α β : Type} {R : α → β → Prop} : ∀ {xs : List α} {ys : List β}, Paired R xs ys → ∀ {i : Nat} {x : α}, xs[i]? = some x → ∃ y, ys[i]? = some y ∧ R x y
  | _, _, .cons h t, 0, x, e => ⟨_, rfl, by cases e; exact h⟩
  | _, _, .cons h t, i + 1, x, e => par_get t (by simpa using e)
theorem par_take {α β : Type} {R : α → β → Prop} : ∀ (n : Nat) {xs : List α} {ys : List β}, Paired R xs ys → Paired R (xs.take n) (ys.take n)
  | 0, _, _, _ => by rw [List.take_zero, List.take_zero]; exact .nil
  | n + 1, _, _, .nil => .nil
  | n + 1, _, _, .cons h t => .cons h (par_take n t)
theorem par_drop {α β : Type} {R : α → β → Prop} : ∀ (n : Nat) {xs : List α} {ys : List β}, Paired R xs ys → Paired R (xs.drop n) (ys.drop n)
  | 0, _, _, h => h
  | n + 1, _, _, .nil => .nil
  | n + 1, _, _, .cons h t => par_drop n t
def rLenS (K : PySem.W.Frag) : List V → Hp → VK → Prop := fun xs H Q => ∃ p ys, xs = [.ref p] ∧ (SqL K H p ys ∨ SqT K H p ys) ∧ Q (.int ys.length) H
/-! ### pairs, strands, ways in the heap -/
def SPat (H : Hp) (v : V) (q : Int × Int) : Prop := ∃ a, v = .ref a ∧ H a = some (.tup [.int q.1, .int q.2])
def SSat (H : Hp) (v : V) (s : Strd) : Prop := ∃ a xs, v = .ref a ∧ H a = some (.tup xs) ∧ Paired (SPat H) xs s
def SWat (H : Hp) (v : V) (w : List Strd) : Prop := ∃ a xs, v = .ref a ∧ H a = some (.tup xs) ∧ Paired (SSat H) xs w
theorem SPat.same {H H' : Hp} {v : V} {q : Int × Int} (h : SPat H v q) (s : Same H H') : SPat H' v q := let ⟨a, e, z⟩ := h; ⟨a, e, s _ _ z⟩
theorem SSat.same {H H' : Hp} {v : V} {q : Strd} (h : SSat H v q) (s : Same H H') : SSat H' v q := let ⟨a, xs, e, z, p⟩ := h; ⟨a, xs, e, s _ _ z, par_imp (fun _ _ k => k.same s) p⟩
theorem SWat.same {H H' : Hp} {v : V} {q : List Strd} (h : SWat H v q) (s : Same H H') : SWat H' v q := let ⟨a, xs, e, z, p⟩ := h; ⟨a, xs, e, s _ _ z, par_imp (fun _ _ k => k.same s) p⟩
/-- a list grows: what was tracked but the list stands -/
theorem SPat.mut {H : Hp} {D : Addr} {us ws : List V} {v : V} {q : Int × Int} (h : SPat H v q) (hD : H D = some (.lst us)) : SPat (upd H D (.lst ws)) v q := by
  obtain ⟨a, e, z⟩ := h
  exact ⟨a, e, by rw [upd_ne fun k => by rw [k, hD] at z; cases z]; exact z⟩
theorem SSat.mut {H : Hp} {D : Addr} {us ws : List V} {v : V} {q : Strd} (h : SSat H v q) (hD : H D = some (.lst us)) : SSat (upd H D (.lst ws)) v q := by
  obtain ⟨a, xs, e, z, p⟩ := h
  exact ⟨a, xs, e, by rw [upd_ne fun k => by rw [k, hD] at z; cases z]; exact z, par_imp (fun _ _ k => k.mut hD) p⟩
theorem SWat.mut {H : Hp} {D : Addr} {us ws : List V} {v : V} {q : List Strd} (h : SWat H v q) (hD : H D = some (.lst us)) : SWat (upd H D (.lst ws)) v q := by
  obtain ⟨a, xs, e, z, p⟩ := h
  exact ⟨a, xs, e, by rw [upd_ne fun k => by rw [k, hD] at z; cases z]; exact z, par_imp (fun _ _ k => k.mut hD) p⟩
section
variable {P : Program} {w : World} {K : PySem.W.Frag} {mg : Str → Option Value} {base : Heap}
theorem catV {a b : Addr} {xs ys : List V} {H : Hp} {Q : VK} (ha : H a = some (.tup xs)) (hb : H b = some (.tup ys)) (hl : xs.length + ys.length ≤ 1000) (k : ∀ t H', H' t = some (.tup (xs ++ ys)) → Same H H' → Q (.ref t) H') : rCatA K (.ref a) (.ref b) H Q := by
  refine ⟨a, b, _, _, rfl, rfl, .inl (.inl ha), .inl (.inl hb), Nat.le_of_lt (sm (by omega)), fun e => k b H ?_ (Same.refl H), fun _ e => k a H ?_ (Same.refl H), fun _ _ p hp => k p _ upd_same ((Same.refl H).new hp)⟩
  · rw [e]; exact hb
  · rw [e, List.append_nil]; exact ha
theorem sIx_le (n : Nat) (z : Int) (h : n ≤ z.toNat) (h0 : 0 ≤ z) (d : Nat) : HT.sIx n d (some z) = n := by
  obtain ⟨k, rfl⟩ := Int.eq_ofNat_of_zero_le h0
  rw [HT.sIx_nat]
  simp at h
  omega
theorem slTo {a : Addr} {xs : List V} {i : Nat} {H : Hp} {Q : VK} (ha : H a = some (.tup xs)) (k : ∀ t H', H' t = some (.tup (xs.take i)) → Same H H' → Q (.ref t) H') : rSlA K (.ref a) none (some (i : Int)) H Q := by
  refine ⟨a, xs, rfl, .inl (.inl ha), fun ⟨_, e⟩ => k a H ?_ (Same.refl H), fun _ p hp => k p _ ?_ ((Same.refl H).new hp)⟩
  · rw [HT.sIx_nat] at e
    rw [List.take_of_length_le (by omega)]
    exact ha
  · rw [upd_same, cutV_to]
theorem slFrom {a : Addr} {xs : List V} {i : Nat} {H : Hp} {Q : VK} (ha : H a = some (.tup xs)) (k : ∀ t H', H' t = some (.tup (xs.drop i)) → Same H H' → Q (.ref t) H') : rSlA K (.ref a) (some (i : Int)) none H Q := by
  refine ⟨a, xs, rfl, .inl (.inl ha), fun ⟨e, _⟩ => k a H ?_ (Same.refl H), fun _ p hp => k p _ ?_ ((Same.refl H).new hp)⟩
  · rw [HT.sIx_nat] at e
    rcases Nat.eq_zero_or_pos i with z | z
    · rw [z]; exact ha
    · have : xs.length = 0 := by omega
      rw [List.eq_nil_of_length_eq_zero this, List.drop_nil]
      rw [List.eq_nil_of_length_eq_zero this] at ha
      exact ha
  · rw [upd_same, cut_from xs rfl]
end
/-- what a pair holds -/
def pk (H : Hp) (x : V) : Int × Int := match x with
  | .ref a => (match H a with
    | some (.tup [.int i, .int j]) => (i, j)
    | _ => (0, 0))
  | _ => (0, 0)
theorem pk_at {H : Hp} {v : V} {q : Int × Int} (h : SPat H v q) : pk H v = q := by
  obtain ⟨a, rfl, h⟩ := h
  show (match H a with
    | some (.tup [.int i, .int j]) => (i, j)
    | _ => ((0 : Int), (0 : Int))) = q
  rw [h]
theorem pk_map {H : Hp} : ∀ {xs : List V} {st : Strd}, Paired (SPat H) xs st → xs.map (pk H) = st
  | _, _, .nil => rfl
  | _, _, .cons h t => by rw [List.map_cons, pk_at h, pk_map t]
theorem par_mem {α β : Type} {R : α → β → Prop} : ∀ {xs : List α} {ys : List β}, Paired R xs ys → ∀ {x : α}, x ∈ xs → ∃ y ∈ ys, R x y
  | _, _, .cons h t, x, e => by
    rcases List.mem_cons.mp e with rfl | e
    · exact ⟨_, List.mem_cons_self .., h⟩
    · obtain ⟨y, hy, r⟩ := par_mem t e
      exact ⟨y, List.mem_cons_of_mem _ hy, r⟩
theorem sorted_eqI {a b : List Int} (p : a.Perm b) (ha : a.Pairwise (· ≤ ·)) (hb : b.Pairwise (· ≤ ·)) : a = b := List.Perm.eq_of_pairwise (fun x y _ _ h1 h2 => Int.le_antisymm h1 h2) ha hb p
def rngI (n : Nat) : List Int := (List.range n).map fun j : Nat => (j : Int)
theorem rngI_sorted (n : Nat) : (rngI n).Pairwise (· ≤ ·) := by
  refine List.pairwise_map.mpr (List.Pairwise.imp (fun {a b} h => ?_) List.pairwise_lt_range)
  omega
theorem rngI_len (n : Nat) : (rngI n).length = n := by unfold rngI; rw [List.length_map, List.length_range]
theorem rgV_rngI (n : Nat) : rgV 0 (n : Int) = (rngI n).map V.int := by
  unfold rgV rngI
  rw [List.map_map, Int.sub_zero, Int.toNat_natCast]
  refine List.map_congr_left fun j _ => ?_
  show V.int (0 + (j : Int)) = V.int (j : Int)
  rw [Int.zero_add]
def flatB (way : List Strd) : List Int := way.flatMap fun st => st.map (·.1)
def goodS (st : Strd) : Prop := st ≠ [] ∧ st.length ≤ 8 ∧ ∀ q ∈ st, q.2 = 1 ∨ q.2 = -1
structure goodV (n : Nat) (way : List Strd) : Prop where
  st : ∀ s ∈ way, goodS s
  ln : way.length ≤ 8
  pm : (flatB way).Perm (rngI n)
/-- strands told as lists of pairs, in a list -/
def LSt (H : Hp) (v : V) (s : Strd) : Prop := ∃ a xs, v = V.ref a ∧ H a = some (.lst xs) ∧ Paired (SPat H) xs s
def LWy (H : Hp) (v : V) (w : List Strd) : Prop := ∃ a xs, v = V.ref a ∧ H a = some (.lst xs) ∧ Paired (LSt H) xs w
theorem LSt.same {H H' : Hp} {v : V} {q : Strd} (h : LSt H v q) (s : Same H H') : LSt H' v q := let ⟨a, xs, e, z, p⟩ := h; ⟨a, xs, e, s _ _ z, par_imp (fun _ _ k => k.same s) p⟩
theorem LWy.same {H H' : Hp} {v : V} {q : List Strd} (h : LWy H v q) (s : Same H H') : LWy H' v q := let ⟨a, xs, e, z, p⟩ := h; ⟨a, xs, e, s _ _ z, par_imp (fun _ _ k => k.same s) p⟩
section
variable {P : Program} {w : World} {K : PySem.W.Frag} {mg : Str → Option Value} {base : Heap}
def spIS (K : PySem.W.Frag) : Sp := fun vs H Q _ => ∃ (v : V) (st : Strd), vs = [v] ∧ LSt H v st ∧ goodS st ∧ ∀ H', Same H H' → Q (.bl true) H'
abbrev nIS : List Str := ["value", "pair"]
theorem scIS : FnScope nIS ["value"] (defScope sIsStrand) := ⟨rfl, rfl, rfl, by decide +kernel, rfl, by decide +kernel, by decide +kernel⟩
theorem ok_is {f fL fN : Addr} {fd fdL fdN : FuncData} (F : Fun K "is_strand" "is_strand" sIsStrand f fd) (T : Bi mg) (L : DefAt P w K mg base CX0 1 "is_list" ["value"] (spIsList K) fL fdL) (NT : DefAt P w K mg base CX0 2 "is_numbers" ["value"] (spNumsT K) fN fdN) : FnOk P w K mg base CX0 3 f fd ["value"] (spIS K) := by
  refine F.ok scIS (fun vs H Q E h => ?_) (fun cdv A outer s H vs Q E hr h => ?_)
  · obtain ⟨v, q, rfl, _⟩ := h
    rfl
  · have nd := scIS.nd
    refine ⟨_, pss_cons (ps_if (PW.pt (pw_or (pt_not (pt_val (pe_call L.ok (hr.mono (by decide)) rfl L.g L.kp L.b .nil pass0 (pa_cons (pv 0) pa_nil)))) (pw_or1 (pt_cmpR op_eq (pe_callB call_len_seq (by rfl) T.len PySem.boot_len (pa_cons (pv 0) pa_nil)) pe_int (nomark _))))) (pss_one ps_never) pss_nil)
      (pss_one (ps_ret (pe_callB (cr_all rfl) (by rfl) T.all (by decide +kernel) (pa_cons (pe_lc (own := [("pair", 1)]) (g := gName 1) (tt := tYes) (te := tAndV (tCall (spNumsT K) [] E0 (tCons (tVar 1) tNil)) (tAndV (tOp rEq (tCB (rLenS K) (tCons (tVar 1) tNil)) (tC (.int 2))) (tOp (rIn K false) (tOp (rIxT K) (tVar 1) (tC (.int 1))) (tTup (tCons (tC (.int 1)) (tCons (tUn (rU fun i => .int (-i)) (tC (.int 1))) tNil)))))) rfl nd (pi_list (pv 0))
        (blkOk_by (N := nIS) (sc := defScope sIsStrand) (by decide +kernel)) (fun _ _ _ _ _ => pg_name (i := 1) nd rfl (Or.inl rfl)) (fun _ _ _ _ _ => pts_nil)
        (fun _ _ _ _ _ => pe_and (pe_call NT.ok hr rfl NT.g NT.kp NT.b .nil pass0 (pa_cons (pv 1) pa_nil)) (pe_and (pe_cmpR op_eq (pe_callB (r := rLenS K) call_len_seq (by rfl) T.len PySem.boot_len (pa_cons (pv 1) pa_nil)) pe_int (nomark _)) (pe_one (pe_cmpR op_in_seq (pe_ix (r := rIxT K) ix_tup (pv 1) pe_int (fun _ _ => rfl)) (pe_tup (pa_cons pe_int (pa_cons (pe_un un_neg pe_int) pa_nil))) (by rfl)))))) pa_nil)))), ?_⟩
    obtain ⟨v, st, rfl, ⟨a, xs, rfl, ha, px⟩, ⟨ne, l8, sg⟩, k⟩ := h
    refine ⟨_, rfl, _, "list", rfl, ⟨.base (.lst ha), by decide⟩, fun H1 s1 => ⟨_, rfl, iteF ?_⟩⟩
    have ha1 := s1 _ _ ha
    have xl : xs.length = st.length := par_len px
    have x0 : xs.length ≠ 0 := fun z => ne (List.eq_nil_of_length_eq_zero (by omega))
    refine ⟨_, rfl, a, _, rfl, .inl (SqL.of ha1), rfl, _, rfl, ?_⟩
    rw [dec_int, decide_eq_false (show ¬ ((xs.length : Int) = 0) by omega)]
    refine iteF ?_
    refine ⟨_, rfl, a, rfl, ⟨_, SqL.of ha1⟩, fun D hD => ?_⟩
    refine lc_list (K := K) (a := a) (xs := xs) (fun j H' => Same H1 H' ∧ ∃ bs : List Bool, (∀ b ∈ bs, b = true) ∧ bs.length ≤ j ∧ H' D = some (.lst (bs.map V.bl))) ⟨(Same.refl H1).new hD, [], (fun b hb => nomatch hb), Nat.le_refl _, upd_same⟩ (fun j H' _ r => SqL.of (r.1 _ _ ha1)) ?_ ?_
    · rintro j y H' hj ⟨s2, bs, b1, b2, h2⟩
      have hjl : j < xs.length := (List.getElem?_eq_some_iff.mp hj).1
      obtain ⟨q, hq, b, rfl, hb⟩ := par_get px hj
      have hb2 := s2 _ _ (s1 _ _ hb)
      refine ⟨rfl, _, rfl, b, [.int q.1, .int q.2], fun _ => "int", rfl, ⟨.base (.tup hb2), by decide⟩, .inl (.inl hb2), (by show 2 ≤ 1000; decide), fun x hx => ?_, fun H3 s3 => ⟨_, rfl, ?_⟩⟩
      · rcases List.mem_cons.mp hx with rfl | hx
        · exact Knd.int
        · rw [List.mem_singleton.mp hx]
          exact Knd.int
      have hb3 := s3 _ _ hb2
      have h3 := s3 _ _ h2
      refine iteBT (by simp) ⟨_, rfl, b, _, rfl, .inr (.inl (.inl hb3)), rfl, _, rfl, ?_⟩
      refine iteBT (by simp) ⟨_, rfl, b, _, _, _, rfl, rfl, .inl (.inl hb3), (rfl : atI [V.int q.1, V.int q.2] 1 = some (.int q.2)), 1, rfl, (by show 2 ≤ sizeLine; decide), fun c nc => ?_⟩
      have s4 : Same H3 (upd H3 c (.tup [.int 1, .int (-1)])) := (Same.refl H3).new nc
      refine ⟨c, ([1, -1] : List Int).map V.int, rfl, .inr (.inl (.inl upd_same)), rfl, flat_ints [1, -1], _, s4 _ _ h3, ?_, ((s2.trans s3).trans s4).mut hD, bs ++ [true], fun z hz => ?_, by rw [List.length_append]; exact Nat.succ_le_succ b2, ?_⟩
      · rw [List.length_map]
        exact sm (by omega)
      · rcases List.mem_append.mp hz with m | m
        · exact b1 z m
        · exact List.mem_singleton.mp m
      · have iv : inV (.int q.2) (([1, -1] : List Int).map V.int) = true := by
          rcases sg q (List.mem_of_getElem? hq) with e | e <;> rw [e] <;> decide
        rw [upd_same, List.map_append]
        show some (HO.lst (bs.map V.bl ++ [V.bl (inV (.int q.2) (([1, -1] : List Int).map V.int))])) = _
        rw [iv]
        rfl
    rintro H2 ⟨s2, bs, b1, b2, h2⟩
    refine ⟨D, bs, rfl, SqL.of h2, ?_⟩
    rw [all_true b1]
    exact k H2 (s1.trans s2)
def spAre (K : PySem.W.Frag) : Sp := fun vs H Q _ => ∃ (v : V) (way : List Strd) (n : Nat), vs = [v] ∧ LWy H v way ∧ goodV n way ∧ 3 ≤ n ∧ n ≤ 8 ∧ ∀ H', Same H H' → Q (.bl true) H'
abbrev nAre : List Str := ["value", "bars", "strand", "pair"]
theorem scAre : FnScope nAre ["value"] (defScope sAreStrands) := ⟨rfl, rfl, rfl, by decide +kernel, rfl, by decide +kernel, by decide +kernel⟩
theorem ok_are {f fL fS : Addr} {fd fdL fdS : FuncData} (F : Fun K "are_strands" "are_strands" sAreStrands f fd) (T : Bi mg) (N : Nm mg) (L : DefAt P w K mg base CX0 1 "is_list" ["value"] (spIsList K) fL fdL) (IS : DefAt P w K mg base CX0 3 "is_strand" ["value"] (spIS K) fS fdS) : FnOk P w K mg base CX0 4 f fd ["value"] (spAre K) := by
  refine F.ok scAre (fun vs H Q E h => ?_) (fun cdv A outer s H vs Q E hr h => ?_)
  · obtain ⟨v, way, n, rfl, _⟩ := h
    rfl
  · have nd := scAre.nd
    obtain ⟨t3, h3⟩ := N.leastB
    obtain ⟨t8, h8⟩ := N.mostB
    refine ⟨_, pss_cons (ps_if (PW.pt (pw_or (pt_not (pt_val (pe_call L.ok (hr.mono (by decide)) rfl L.g L.kp L.b .nil pass0 (pa_cons (pv 0) pa_nil)))) (pw_or1 (pt_not (pt_val (pe_callB (cr_all rfl) (by rfl) T.all (by decide +kernel) (pa_cons (pe_lc (own := [("strand", 2)]) (g := gName 2) (tt := tYes) rfl nd (pi_list (pv 0))
          (blkOk_by (N := nAre) (sc := defScope sAreStrands) (by decide +kernel)) (fun _ _ _ _ _ => pg_name (i := 2) nd rfl (Or.inl rfl)) (fun _ _ _ _ _ => pts_nil) (fun _ _ _ _ _ => pe_call IS.ok hr rfl IS.g IS.kp IS.b .nil pass0 (pa_cons (pv 2) pa_nil))) pa_nil))))))) (pss_one ps_never) pss_nil)
      (pss_cons (ps_set (i := 1) nd rfl (Or.inl rfl) (pe_callB cr_sortedI (by rfl) T.sorted (by decide +kernel) (pa_cons (pe_lc2 (own := [("strand", 2), ("pair", 3)]) (vs1 := [3]) (g := gName 2) (g1 := gName 3) (tt := tYes) (tt1 := tYes) (wi1 := iList K (tVar 2)) (te := tOp (rIxT K) (tVar 3) (tC (.int 0))) rfl nd (pi_list (pv 0)) (blkOk_by (N := nAre) (sc := defScope sAreStrands) (by decide +kernel)) (by decide)
          (fun _ _ _ _ _ => pg_name (i := 2) nd rfl (Or.inl rfl)) (fun _ _ _ _ _ => pts_nil) (fun _ _ _ _ _ => pi_list (pv 2)) (fun _ _ _ _ _ => pg_name (i := 3) nd rfl (Or.inl rfl)) (fun _ _ _ _ _ => pts_nil) (fun _ _ _ _ _ => pe_ix (r := rIxT K) ix_tup (pv 3) pe_int (fun _ _ => rfl))) pa_nil)))
      (pss_one (ps_ret (pe_and (pe_chain op_le op_le (pe_glob (v := .int 3) rfl h3 ⟨_, rfl⟩) (pe_callB call_len_seq (by rfl) T.len PySem.boot_len (pa_cons (pv 1) pa_nil)) (pe_glob (v := .int 8) rfl h8 ⟨_, rfl⟩)) (pe_one (pe_cmpR (op_eqD hr.units) (pv 1) (pe_listRg rfl (by rfl) T.list (prg_1 (by rfl) T.range (pe_callB call_len_seq (by rfl) T.len PySem.boot_len (pa_cons (pv 1) pa_nil)))) (nomark _))))))), ?_⟩
    obtain ⟨v, way, n, rfl, ⟨a, xs, rfl, ha, px⟩, gw, n3, n8, k⟩ := h
    refine ⟨_, rfl, _, "list", rfl, ⟨.base (.lst ha), by decide⟩, fun H1 s1 => ⟨_, rfl, iteF ?_⟩⟩
    have ha1 := s1 _ _ ha
    have xl : xs.length = way.length := par_len px
    have x8 := gw.ln
    refine ⟨_, rfl, a, rfl, ⟨_, SqL.of ha1⟩, fun D hD => ?_⟩
    refine lc_list (K := K) (a := a) (xs := xs) (fun j H' => Same H1 H' ∧ ∃ bs : List Bool, (∀ b ∈ bs, b = true) ∧ bs.length ≤ j ∧ H' D = some (.lst (bs.map V.bl))) ⟨(Same.refl H1).new hD, [], (fun b hb => nomatch hb), Nat.le_refl _, upd_same⟩ (fun j H' _ r => SqL.of (r.1 _ _ ha1)) ?_ ?_
    · rintro j y H' hj ⟨s2, bs, b1, b2, h2⟩
      have hjl : j < xs.length := (List.getElem?_eq_some_iff.mp hj).1
      obtain ⟨st, hst, rs⟩ := par_get px hj
      refine ⟨rfl, _, rfl, y, st, rfl, rs.same (s1.trans s2), gw.st st (List.mem_of_getElem? hst), fun H3 s3 => ⟨_, s3 _ _ h2, ?_, (s2.trans s3).mut hD, bs ++ [true], fun z hz => ?_, by rw [List.length_append]; exact Nat.succ_le_succ b2, ?_⟩⟩
      · rw [List.length_map]
        exact sm (by omega)
      · rcases List.mem_append.mp hz with m | m
        · exact b1 z m
        · exact List.mem_singleton.mp m
      · rw [upd_same, List.map_append]
        rfl
    rintro H2 ⟨s2, bs, b1, b2, h2⟩
    refine ⟨D, bs, rfl, SqL.of h2, ?_⟩
    rw [all_true b1]
    refine ⟨_, rfl, iteF ?_⟩
    have s02 := s1.trans s2
    have ha2 := s02 _ _ ha
    -- the bars
    have fl : ∀ j, (flatB (way.take j)).length ≤ 64 := fun j => by
      have e : flatB way = flatB (way.take j) ++ flatB (way.drop j) := by
        unfold flatB
        rw [← List.flatMap_append, List.take_append_drop]
      have l := gw.pm.length_eq
      rw [e, List.length_append, rngI_len] at l
      omega
    refine ⟨_, rfl, a, rfl, ⟨_, SqL.of ha2⟩, fun D3 hD3 => ?_⟩
    refine walk_any walk_list (fun j H' => Same H2 H' ∧ H' D3 = some (.lst ((flatB (way.take j)).map V.int))) ⟨(Same.refl H2).new hD3, upd_same⟩ (fun j H' _ q => SqL.of (q.1 _ _ ha2)) ?_ ?_
    · rintro j x H' H'' hj ⟨s3, h3'⟩ ⟨rfl, hx⟩
      obtain ⟨st, hst, sa, ys, rfl, hsa, py⟩ := par_get px hx
      have hsa3 := s3 _ _ (s02 _ _ hsa)
      have st8 := (gw.st st (List.mem_of_getElem? hst)).2.1
      have fj := fl j
      refine ⟨rfl, _, rfl, sa, rfl, ⟨_, SqL.of hsa3⟩, ?_⟩
      refine walk_any walk_list (fun i H4 => Same H2 H4 ∧ H4 D3 = some (.lst ((flatB (way.take j) ++ (st.take i).map (·.1)).map V.int))) ⟨s3, by rw [List.take_zero, List.map_nil, List.append_nil]; exact h3'⟩ (fun i H4 _ q => SqL.of (q.1 _ _ (s02 _ _ hsa))) ?_ ?_
      · rintro i y H4 H5 hi ⟨s4, h4⟩ ⟨rfl, hy⟩
        obtain ⟨q, hq, b, rfl, hb⟩ := par_get py hy
        have hil : i < st.length := (List.getElem?_eq_some_iff.mp hq).1
        refine ⟨rfl, _, rfl, b, _, _, _, rfl, rfl, .inl (.inl (s4 _ _ (s02 _ _ hb))), (rfl : atI [V.int q.1, V.int q.2] 0 = some (.int q.1)), _, h4, ?_, s4.mut hD3, ?_⟩
        · rw [List.length_map, List.length_append, List.length_map, List.length_take]
          exact sm (by omega)
        · rw [upd_same, ← take_snoc hq, List.map_append, List.map_append, List.map_append, List.map_append]
          simp
      · rintro H4 ⟨s4, h4⟩
        refine ⟨s4, ?_⟩
        rw [par_len py, List.take_length] at h4
        rw [h4, ← take_snoc hst]
        unfold flatB
        rw [List.flatMap_append]
        simp
    rintro H3 ⟨s3, h3'⟩
    rw [xl, List.take_length] at h3'
    refine ⟨D3, _, rfl, SqL.of h3', fun ns p pmN odN np => ?_⟩
    have e : ns = rngI n := sorted_eqI (pmN.trans gw.pm) odN (rngI_sorted n)
    subst e
    have s4 : Same H3 (upd H3 p (.lst ((rngI n).map V.int))) := (Same.refl H3).new np
    have hp : upd H3 p (.lst ((rngI n).map V.int)) p = some (.lst ((rngI n).map V.int)) := upd_same
    generalize upd H3 p (.lst ((rngI n).map V.int)) = H4 at s4 hp ⊢
    refine ⟨_, rfl, p, _, rfl, .inl (SqL.of hp), _, _, rfl, rfl, _, rfl, ?_⟩
    rw [List.length_map, rngI_len]
    refine iteDT (by omega) ⟨_, _, rfl, rfl, _, rfl, ?_⟩
    refine iteDT (by omega) ?_
    refine ⟨_, rfl, _, rfl, p, _, rfl, .inl (SqL.of hp), ?_⟩
    rw [List.length_map, rngI_len]
    refine ⟨_, rfl, RgOk.of_le (by omega) (by omega) (by omega) (by omega), fun r nr => ?_⟩
    rw [rgV_rngI]
    have s5 : Same H4 (upd H4 r (.lst ((rngI n).map V.int))) := (Same.refl H4).new nr
    refine ⟨_, _, .lst (SqL.of (s5 _ _ hp)) (dp_ints _), .lst (SqL.of upd_same) (dp_ints _), shaped_ints _, shaped_ints _, ?_⟩
    rw [eqvA_pd, decide_eq_true rfl]
    exact k _ (((s02.trans s3).trans s4).trans s5)
end
end K
/-! x.__class__.__name__, x an instance of an own class -/
namespace Rg
open PySem PySem.Spec PyProof.Rows L2 Builtin Builtin.ObjectAttr Builtin.Getset_descriptor
/-- the class at C is called nm, and its name was read before the call -/
structure NamC (K : PySem.W.Frag) (C : Addr) (nm : Str) : Prop where
  rd : PySem.W.readsIn K C (.type "type") = true
  at_ : PySem.W.findCls K (.ref C) (.type "type") "__name__" = some (.get (.builtin "getset_descriptor.__get__") (.builtin "type.__name__") (.ref C) (.type "type"))
  ty : PySem.W.typeIn K (.ref C) = some (.type "type")
  sl : ∃ o t, K.lookup C = some o ∧ o.slots[2]? = some (some (.str nm t))
section
open PySem.W
variable {prog : Program} {w : World} {A : Around} {E : Value → Shared → Prop} {s : Shared} {K : Frag} {R : Result → Shared → Prop} {C : Addr} {o : Obj} {v : Value}
theorem name_get {tp : Value} (X : K.In s.heap) (ht : typeIn K (.ref C) = some (.type "type")) (lk : K.lookup C = some o) (hv : o.slots[2]? = some (some v)) (h : R (.ok (.ret v)) s) :
    codeAny (model prog w) A (.call (.builtin "getset_descriptor.__get__") ⟨[.builtin "type.__name__", .ref C, tp], []⟩) R s := by
  obtain ⟨hh, g, dr, t, os⟩ := s
  have L0 : Looks (model prog w) hh (typeOf (.ref C)) (.type "type") := looks_typeIn X ht
  have L1 : Looks (model prog w) hh (isSubtype (.type "type") (.type "type")) true := Looks.of_pure (by rw [isSubtype_type]; kernel_rfl)
  refine codeAny_call_builtin KF.slot_gs.plain KF.entry_gs (KF.slot_gs.check _ _ _ _ _ _ _ _ ktyn_type (KF.args_gs _ _ _) ?_)
  unfold Builtin.«getset_descriptor.__get__» descrGet
  rw [dga_obj]
  refine wpAny_bind (wpAny_pure ?_)
  unfold descrGetter descrCheckInstance descrNameAndClass isInstance
  simp only [ktyn_owner]
  repeat lk
  refine ⟨Code.quiet_builtin _ (by decide +kernel), codeAny_builtin ktyn_entry ?_⟩
  unfold Builtin.«type.__name__» keptObject PySem.slotAt
  dsimp only
  refine wpAny_bind (wpAny_bind (wpAny_loadPart (X _ _ lk) (wpAny_pure ?_)))
  rw [hv]
  exact wpAny_pure h
end
section
variable {X : Cx} {e : Expr} {ta : TE} {p1 p2 : Pos}
theorem name_ok {pins : List (Addr × Obj)} {σ : L2.St} {H : Hp} {s : Shared} {b : Bool} {A : Around} {E : Value → Shared → Prop} {Q : Value → Shared → Prop} {C : Addr} {nm : Str} (I : Inv X pins σ H s) (c : NamC X.K C nm)
    (h : ∀ u s', Inv X pins σ H s' → RelV (.str nm) u → Q u s') : wpAny (model X.prog X.w) A (getAttr (.ref C) "__name__" b) Q E s := by
  obtain ⟨o, t, lk, hs⟩ := c.sl
  refine PySem.W.cls_bind I.kIn c.rd c.at_ ?_
  refine wpAny_call (name_get (s := { s with toks := s.toks + 1 }) I.kIn c.ty lk hs (PySem.W.handed_on rfl ?_))
  exact h _ _ (I.tok _) ⟨_, rfl⟩
/-- e.__class__.__name__, e an instance of a class of the program -/
def tCName (K : PySem.W.Frag) (ta : TE) : TE := fun σ H Q => ta σ H fun x H1 => ∃ a C dx fs nm, x = .ref a ∧ H1 a = some (.ins C dx fs) ∧ C8.InsC K C ∧ NamC K C nm ∧ Q (.str nm) H1
theorem pe_cname (he : PE X e ta) (hb : attributeBase e "__class__" X.env (eval e X.env) = eval e X.env := by rfl)
    (hb2 : attributeBase (.Attribute e "__class__" p1) "__name__" X.env (eval (.Attribute e "__class__" p1) X.env) = eval (.Attribute e "__class__" p1) X.env := by rfl) :
    PE X (.Attribute (.Attribute e "__class__" p1) "__name__" p2) (tCName X.K ta) := by
  refine ⟨fun pins s σ H Q I h => ?_⟩
  refine attr_of hb2 (attr_of hb (thn (he.run pins s σ H _ I h) fun u s1 ⟨x, H1, I1, rx, a, C, dx, fs, nm, ex, ea, ic, nc, q⟩ => ?_))
  subst ex
  obtain rfl : u = Value.ref a := rx
  obtain ⟨mA, O, _⟩ := ins_get I1.hok ea
  obtain ⟨od, J, _⟩ := O.look
  obtain ⟨m, hF⟩ := I1.fr
  refine PySem.W.get_class hF I1.ok.mod.kin J (ic.cl.get _) ic.cl.hd ic.ha ic.hn ic.htk ic.hm ?_
  exact name_ok (I1.tok _) nc fun u' s2 I2 ru => ⟨.str nm, H1, I2, ru, q⟩
end
end Rg
/-! def __init__(self, ..): super().__init__(e, ..); .. , a def that closes over __class__ alone -/
namespace Rg
open PySem PySem.Spec PyProof.Rows L2 NdefX ClX
/-- what of the text such a def must have: f its object, D the class that it stands in, cc the cell of __class__ -/
structure SupAt (P : Program) (K : PySem.W.Frag) (mg : Str → Option Value) (F : NF) (f D cc : Addr) : Prop where
  cl : F.cl = [(("__class__" : Str), cc)]
  self : ∃ ar, (F.params.posonlyargs ++ F.params.args).head? = some ar ∧ ar.arg = "self"
  cod : ∃ ccl cdd vs ccs file tf, K.lookup F.c = some ⟨ccl, cdd, .fields vs, ccs⟩ ∧ vs[2]? = some (.str file tf) ∧ ((P.main.file : Str) == file) = true
  cell : ∃ kcl kcd kcs, K.lookup cc = some ⟨kcl, kcd, .cell (some (.ref D)), kcs⟩
  clD : ∃ cd, PySem.W.clsIn K D = some cd
  sup : mg "super" = none
  top : (P.main.scope.names.lookup ("super" : Str)).isSome = false
  ks : F.scope.names.lookup ("super" : Str) = some .globalImplicit
/-- the instance's class C, D above it or C itself, and the __init__ that stands behind D in its row -/
structure SupTo (K : PySem.W.Frag) (C D f2 : Addr) : Prop where
  sub : PySem.W.mroIn K C (.ref D) = some true
  th : PySem.W.nsIn K cStatics "thirdparty.any" = some none
  to : PySem.W.ks_superIn K C D "__init__" = some (some (.ref f2))
  ty : PySem.W.typeIn K (.ref f2) = some (.type "function")
  fn : PySem.W.fnIn K f2 = true
section
variable {X : Cx} {pins : List (Addr × Obj)} {σ : L2.St} {H : Hp} {s : Shared} {a D C g : Addr} {A : Around} {E : Value → Shared → Prop}
theorem run_im {CX : CXT} {k : Nat} {q : Addr} {sp : Sp} {Ee : XK} {Q : VK} {us : List Value} {vs : List V} (F : FnR X.prog X.w X.K X.mg X.base CX k g sp) (hr : Room k X.A) (hx : Passes CX X Ee) (I : Inv X ((q, PySem.W.methodObj (.ref g) (.ref a)) :: pins) σ H s)
    (r : Vals vs us) (h : sp (.ref a :: vs) H Q Ee) : wpAny (model X.prog X.w) X.A (call (.ref q) us) (EP X pins σ Q) X.xe s := by
  have z : wpAny (model X.prog X.w) X.A (call (.ref q) us) (EP X ((q, PySem.W.methodObj (.ref g) (.ref a)) :: pins) σ Q) X.xe s :=
    wpAny_call (PySem.W.method_call (pin_at I) (run_fnR (us := .ref a :: us) (vs := .ref a :: vs) F hr hx I (.cons rfl r) h))
  exact thn z fun _ _ y => unpinE y
theorem callwith_im {pos : Pos} {e : Expr} {es : List Expr} {q : Addr} {Q : Value → Shared → Prop} {E : Value → Shared → Prop} {A : Around} (I : Inv X ((q, PySem.W.methodObj (.ref g) (.ref a)) :: pins) σ H s) (hb : X.base.get? q = none) (hf : PySem.W.fnIn X.K g = true)
    (h : wpAny (model X.prog X.w) A (spliced (backTo pos (starEach (e :: es) X.env))) (fun vs s₁ => PySem.W.MethP X.K q g (.ref a) s₁.heap ∧ wpAny (model X.prog X.w) A (call (.ref q) vs) Q E s₁) E s)
    (he : starEach (e :: es) X.env = (false, eval e X.env) :: starEach es X.env) (hpl : (backTo pos (starEach es X.env)).any (·.1) = false) :
    wpAny (model X.prog X.w) A (callWith pos (.ref q) [] (backTo pos (starEach (e :: es) X.env)) []) Q E s := by
  have hq := pin_at I
  have hL : q ≠ X.env.locals := (I.pin (q, PySem.W.methodObj (.ref g) (.ref a)) (List.mem_append_right _ List.mem_cons_self)).2.2.1
  exact PySem.W.callWith_M (K := X.K) (h₀ := X.base) (first := []) I.ok.mod.kin (news_at hL hb hq) List.mem_cons_self hf h he hpl
/-- getMethod of super's object -/
theorem getmethsup_ok {pl : Sem Bool} {Q : Value × List Value → Shared → Prop} {so : Addr} {C dx : Addr} {fs : List (Str × V)} (I : Inv X ((so, PySem.W.ks_superObj D a C) :: pins) σ H s) (ea : H a = some (.ins C dx fs)) (cl : Cls X.K C) (t : SupTo X.K C D g)
    (h : ∀ s', Inv X ((s.heap.objs.size, PySem.W.methodObj (.ref g) (.ref a)) :: pins) σ H s' → Q (.ref s.heap.objs.size, []) s') : wpAny (model X.prog X.w) A (getMethod (.ref so) "__init__" pl) Q E s := by
  have hso := pin_at I
  have KX := I.kIn
  obtain ⟨mA, O, _⟩ := ins_get I.hok ea
  obtain ⟨od, J, _⟩ := O.look
  have I0 := unpin I
  obtain ⟨cd, hc⟩ : ∃ cd, PySem.W.clsIn X.K C = some cd := by
    obtain ⟨cd, hc, _⟩ := PySem.W.any_some cl.hd
    exact ⟨cd, hc⟩
  have hm := t.to
  unfold PySem.W.ks_superIn at hm
  rw [hc] at hm
  obtain ⟨of, hof, hofc⟩ : ∃ of, s.heap.get? g = some of ∧ of.cls = .type "function" := by
    have ht' : (X.K.lookup g).map (·.cls) = some (.type "function") := t.ty
    cases z : X.K.lookup g with
    | none => rw [z] at ht'; cases ht'
    | some of => rw [z] at ht'; exact ⟨of, KX _ _ z, Option.some.inj ht'⟩
  have met : Inv X ((s.heap.objs.size, PySem.W.methodObj (.ref g) (.ref a)) :: pins) σ H { s with heap := s.heap.push (PySem.W.methodObj (.ref g) (.ref a)), toks := s.toks + 1 } :=
    pin_new I0 (fun _ _ z => Heap.get?_push_of_some _ z) (Nat.le_refl _) (Heap.get?_push_size s.heap rfl) (fun v z => nomatch z)
  obtain ⟨hh, gs, d, tt, os⟩ := s
  refine ks_wpAny_getMethod_super hso (PySem.W.looks_opaque KX t.th) (l₀ := cd.mro) ?_ rfl KX hm hof hofc (PySem.W.ks_ne KX J hc) (by decide) ?_
  · exact fun A Q E s k q => wpAny_bind ((PySem.W.looks_clsIn KX hc) A _ E s k (wpAny_pure q))
  · exact h _ met
end
section
variable {CX CX2 : CXT} {P : Program} {w : World} {K : PySem.W.Frag} {mg : Str → Option Value} {base : Heap} {N ps : List Str} {F : NF} {f D cc f2 : Addr} {k : Nat} {sp sp2 : Sp} {fd : FuncData}
  {dV kV doc pm ct oc : Value} {an od : Option Addr} {osl : Array (Option Value)} {p0 p1 p2 apos pos : Pos} {e : Expr} {es : List Expr} {rest : List Stmt}
theorem fn_super (lk : K.lookup f = some ⟨oc, od, .func (PySem.W.fnX F.name F.qual F.params F.body F.scope F.cl dV kV doc pm an (.ref F.c) ct), osl⟩) (hcd : PySem.W.codeIn K (.ref F.c) F.qual = true)
    (S : NScope N (("self" : Str) :: ps) ["__class__"] F.scope) (T : SupAt P K mg F f D cc)
    (hbody : F.body = .Expr (.Call (.Attribute (.Call (.Name "super" p0) [] [] p1) "__init__" apos) (e :: es) [] pos) p2 :: rest)
    (len : ∀ vs H Q E, sp vs H Q E → vs.length = (("self" : Str) :: ps).length)
    (hst : ∀ env, starEach (e :: es) env = (false, eval e env) :: starEach es env) (hpl : ∀ env, (backTo pos (starEach es env)).any (·.1) = false)
    (hev : ∀ (env : Env), ∃ pl, eval (.Call (.Attribute (.Call (.Name "super" p0) [] [] p1) "__init__" apos) (e :: es) [] pos) env = (do
      let ov ← attributeBase (.Call (.Name "super" p0) [] [] p1) "__init__" env (eval (.Call (.Name "super" p0) [] [] p1) env)
      standAt apos.atName
      let (f, first) ← holding [ov] (getMethod ov "__init__" pl)
      callWith pos f first (backTo pos (starEach (e :: es) env)) []))
    (hsw : ∀ f s, swapsWith (.Call (.Attribute (.Call (.Name "super" p0) [] [] p1) "__init__" apos) (e :: es) [] pos) none p2.line (envF F f s) = pure false) (hni : ∀ f s, interactive (envF F f s) = false)
    (hb : ∀ (A : Around) (outer : List Env) (s : Shared) (H : Hp) (vs : List V) (Q : VK) (Ee : XK), Room k (A.deeper (envF F f s.heap.objs.size)) → sp vs H Q Ee →
      ∃ (a C dx : Addr) (fs : List (Str × V)) (vs' : List V) (ta : TA) (t : TS) (E2 : XK), vs = .ref a :: vs' ∧ H a = some (.ins C dx fs) ∧ Cls K C ∧ SupTo K C D f2 ∧ FnR P w K mg base CX2 k f2 sp2 ∧ Passes CX2 (ncx CX P w K mg base N F f A outer s H Ee) E2 ∧
        PA (ncx CX P w K mg base N F f A outer s H Ee) (e :: es) ta ∧ PSs (ncx CX P w K mg base N F f A outer s H Ee) rest t ∧
        ta (startF N vs [some (.ref D)]) H fun us H1 => sp2 (.ref a :: us) H1 (fun _ H2 => t { nx := fun _ H' => Q .non H', rt := Q } (startF N vs [some (.ref D)]) H2) E2) :
    FnOk P w K mg base CX (k + 1) f (PySem.W.fnX F.name F.qual F.params F.body F.scope F.cl dV kV doc pm an (.ref F.c) ct) (("self" : Str) :: ps) sp := by
  refine ⟨len, fun A outer s H args us vs Q Ee hr e0 hbind r hsp => ?_⟩
  have hl := len _ _ _ _ hsp
  have KX : K.In s.heap := e0.mod.kin.keeps fun b o z => (e0.bs b o z).1
  have lim : s.heap.NoLimit := e0.mod.nolimit.keeps fun b o z => (e0.bs b o z).1
  refine codeAny_call_function hr.depth (KX _ _ lk) rfl S.co S.gen rfl (PySem.W.codeRec_of KX hcd) (hbind _ _ _ _ ?_)
  refine wpAny_newFunctionEnv S.nocell (fun ⟨n, _⟩ hy => S.par n (List.of_mem_zip hy).1) (fun h₁ hns hsb => ⟨lim.fresh _ hsb, ?_⟩) S.kind
  show codeAny _ _ (.func F.body (envF F f s.heap.objs.size)) _ _
  have kp : ∀ b o, s.heap.get? b = some o → h₁.get? b = some o := fun b o z => hsb.extBut b o (Nat.ne_of_lt (Heap.lt_size z)) (Heap.get?_push_of_some _ z)
  obtain ⟨a, C, dx, fs, vs', ta, t, E2, ev, ea, cls, to, F2, px, ha, ht, hq⟩ := hb A outer s H vs Q Ee (hr.deeper _) hsp
  obtain ⟨kcl, kcd, kcs, hcell⟩ := T.cell
  have hcellH : H cc = none := (e0.bs cc _ (e0.mod.kin _ _ hcell)).2
  have CA : CellsAt F.cl ["__class__"] [some (.ref D)] s.heap H := by
    rw [T.cl]
    refine ⟨rfl, fun y c z => ?_, fun x y c z1 z2 => ?_, fun i y z => ?_⟩
    · have : c = cc := by
        simp only [List.lookup] at z
        split at z <;> cases z
        rfl
      subst this
      exact ⟨hcellH, _, _, KX _ _ hcell, rfl⟩
    · simp only [List.lookup] at z1 z2
      split at z1
      · rename_i q1
        split at z2
        · rename_i q2
          rw [beq_iff_eq.mp q1, beq_iff_eq.mp q2]
        · cases z2
      · cases z1
    · match i, z with
      | 0, z =>
        have : y = "__class__" := (Option.some.inj z).symm
        subst this
        exact ⟨cc, by simp [List.lookup], fun v hv => ⟨.ref D, by cases hv; rfl, _, KX _ _ hcell, rfl⟩⟩
      | i + 1, z => simp at z
  have I : Inv (ncx CX P w K mg base N F f A outer s H Ee) [] (startF N vs [some (.ref D)]) H { s with heap := h₁, toks := s.toks + ((("self" : Str) :: ps).zip us).length } := inv_startN S hr.hd e0 hl r CA hns kp
  have fin : ∀ {σ' : L2.St} {H' : Hp} {v : V} {u : Value} {s' : Shared}, Inv (ncx CX P w K mg base N F f A outer s H Ee) [] σ' H' s' → L2.RelV v u → Q v H' → CE outer P w H s Q u s' :=
    fun {σ' H' v u s'} J rv q => ⟨v, H', J.os, J.bare, J.base, J.hok, rv, q⟩
  refine ks_codeAny_funcAt ?_
  rw [hbody]
  refine ks_wpAt_execs_cons (ks_wpAt_Expr_any ?_ (hni _ _) (hsw _ _))
  obtain ⟨pl, he⟩ := hev (envF F f s.heap.objs.size)
  refine ks_wpAt_MethodCall (pl := pl) ?_ he
  obtain ⟨ar, har, hself⟩ := T.self
  obtain ⟨ccl, cdd, cvs, ccs, file, tf, hcod, hcvs, hfile⟩ := T.cod
  obtain ⟨cdD, hcD⟩ := T.clD
  obtain ⟨oD, hD1, hD2⟩ : ∃ oD, h₁.get? D = some oD ∧ oD.data = .cls cdD := by
    unfold PySem.W.clsIn at hcD
    split at hcD
    · rename_i c d cd' sl ho
      cases hcD
      exact ⟨_, kp _ _ (KX _ _ ho), rfl⟩
    · cases hcD
  have hkc : F.scope.names.lookup ("__class__" : Str) = some .free := S.frk _ List.mem_cons_self
  have hcl : F.cl.lookup ("__class__" : Str) = some cc := by rw [T.cl]; simp [List.lookup]
  have hka : F.scope.names.lookup ar.arg = some .local := by rw [hself]; exact S.par _ List.mem_cons_self
  obtain ⟨mA, O, _⟩ := ins_get I.hok ea
  obtain ⟨od', J, _⟩ := O.look
  refine ks_wpAt_super_base (env := envF F f s.heap.objs.size) T.ks hkc (by decide) rfl (kp _ _ (KX _ _ lk)) rfl har rfl (kp _ _ (KX _ _ hcod)) rfl hcvs hfile T.top ?_
  obtain ⟨mb, hmb1, hmb2⟩ := e0.mod.blt
  have bk : ∀ b o, base.get? b = some o → h₁.get? b = some o := fun b o z => kp _ _ (e0.bs b o z).1
  refine PySem.W.ks_loadName_global S.kind T.ks (Calls.loadGlobal_builtin (env := envF F f s.heap.objs.size) (e0.mod.glob.keeps bk) T.sup (hmb1.keeps bk) ((hmb2 _ (by decide)).trans rfl) ⟨rfl, ?_⟩)
  refine wpAny_loadName_free S.kind hkc hcl ⟨_, kp _ _ (KX _ _ hcell), rfl⟩ ?_
  obtain ⟨u1, us', eu, ru⟩ : ∃ u1 us', us = u1 :: us' ∧ u1 = Value.ref a := by
    subst ev
    cases r with
    | cons h1 _ => exact ⟨_, _, rfl, h1⟩
  subst ru
  have hv : ((("self" : Str) :: ps).zip us).reverse.lookup ar.arg = some (Value.ref a) := by
    have ndP : ((("self" : Str) :: ps)).Nodup := by
      have q := S.nd.sublist (List.take_sublist ((("self" : Str) :: ps).length + [("__class__" : Str)].length) N)
      rw [S.pre] at q
      exact (List.nodup_append.mp q).1
    rw [hself, eu]
    exact zip_look (i := 0) ndP rfl rfl
  refine wpAny_loadName_local S.kind hka hns hv ?_
  refine ks_wpAny_isType_cls hD1 hD2 ⟨rfl, ?_⟩
  refine ks_wpAny_call_super hD1 hD2 J.at_ J.cls (fun c z => ?_) (PySem.W.looks_mroIn I.kIn to.sub) (fun h' z k => ?_)
  · have := J.no
    unfold PySem.W.notCls at this
    rw [z] at this
    exact Bool.noConfusion this
  have I1 := pin_new (t' := s.toks + (((("self" : Str) :: ps).zip us).length)) I k (Nat.le_refl _) z (fun v q => nomatch q)
  refine getmethsup_ok I1 ea cls to fun s2 I2 => ?_
  refine callwith_im I2 (base_none I1 (Nat.le_refl _)) to.fn (thn (ha.run pos _ s2 _ H _ I2 hq) fun us2 s3 ⟨vs2, H2, I3, rv, q2⟩ => ⟨⟨pin_at I3, I3.kIn⟩, ?_⟩) (hst _) (hpl _)
  refine thn (run_im F2 (hr.deeper _) px I3 rv q2) fun u4 s4 ⟨v4, H4, I4, r4, q4⟩ => ?_
  refine wpAt_of_wpAny (wpAny_mono (ht.run [] s4 _ _ _ I4 q4) (fun fl s' hs => ?_) fun e s' hs => hs)
  cases fl with
  | ret u =>
    obtain ⟨v, σ', H', J, rv, q⟩ := hs
    exact fin J rv q
  | next =>
    obtain ⟨σ', H', J, q⟩ := hs
    exact fin (v := V.non) (u := Value.none) J rfl q
  | brk =>
    obtain ⟨_, _, _, q⟩ := hs
    exact False.elim q
  | cont =>
    obtain ⟨_, _, _, q⟩ := hs
    exact False.elim q
end
end Rg
/-! the truth of an own instance with __bool__ -/
namespace Rg
open PySem PySem.Spec PyProof.Rows L2
section
variable {X : Cx} {k : Nat} {f : Addr} {fd : FuncData} {sp : Sp} {e : Expr} {ta : TE}
def rTruO (K : PySem.W.Frag) (f : Addr) (sp : Sp) : V → Hp → (Bool → Hp → Prop) → Prop := fun x H Q => ∃ a C dx fs, x = .ref a ∧ H a = some (.ins C dx fs) ∧ PySem.W.findIn K (.ref C) "__bool__" = some (some (.ref f)) ∧ PySem.W.isFn K (.ref f) = true ∧
  sp [.ref a] H (fun v H' => ∃ b, v = .bl b ∧ Q b H') E0
theorem tru_insO {pns : List (Addr × Obj)} {σs : L2.St} {Hh : Hp} {s : Shared} {x : V} {u : Value} {Q : Bool → Hp → Prop} (F : FnOk X.prog X.w X.K X.mg X.base CX0 k f fd ["self"] sp) (hr : Room k X.A) (hb : Binds X.K fd ["self"] [])
    (Iv : Inv X pns σs Hh s) (rx : RelV x u) (h : rTruO X.K f sp x Hh Q) : wpAny (model X.prog X.w) X.A (truthy u) (TP X pns σs Q) X.xe s := by
  obtain ⟨a, C, dx, fs, rfl, ha, hs, hf, qq⟩ := h
  obtain rfl : u = Value.ref a := rx
  obtain ⟨mA, O, _⟩ := ins_get Iv.hok ha
  obtain ⟨od, J, _⟩ := O.look
  obtain ⟨m, hF⟩ := Iv.fr
  refine PySem.W.truthy_K hF Iv.ok.mod.kin J hs hf ?_
  have hlst : ([Value.ref a] ++ []).length = (["self"] : List Str).length := rfl
  refine wpAny_call (codeAny_mono (F.run X.A X.stack s Hh ⟨[.ref a], []⟩ [.ref a] [.ref a] _ E0 hr Iv.env0 (hb s [.ref a] Iv.kIn hlst) (.cons rfl .nil) qq) fun r s' hsq => ?_)
  cases r with
  | error e => exact hsq.elim
  | ok fl =>
    cases fl with
    | ret w =>
      obtain ⟨v, H', I3, rlv, b, ev, q3⟩ := Iv.after hsq
      subst ev
      cases rlv
      exact ⟨H', I3, q3⟩
    | next => exact False.elim hsq
    | brk => exact False.elim hsq
    | cont => exact False.elim hsq
theorem pt_bool (F : FnOk X.prog X.w X.K X.mg X.base CX0 k f fd ["self"] sp) (hr : Room k X.A) (hb : Binds X.K fd ["self"] []) (ha : PE X e ta)
    (he : ∀ whole, isTrue e X.env whole = (do let v ← whole; standAt e.pos; holding [v] (truthy v)) := by intro _; rfl) : PT X e (fun σ H Q => ta σ H fun x H' => rTruO X.K f sp x H' Q) := by
  refine ⟨fun pins s σ H Q I h => ?_⟩
  exact isTrue_plain (thn (ha.run pins s σ H _ I h) fun v s1 ⟨x, H1, I1, r1, q1⟩ => tru_insO F hr hb I1 r1 q1) (he _)
end
end Rg
namespace K
open PySem L2 Rg LamX
open Evl (pss_cut)
theorem pi_or {X : Cx} {tg e : Expr} {w1 w2 : TI} (h1 : PI X tg e w1) (h2 : PI X tg e w2) : PI X tg e (fun σ H R => w1 σ H R ∨ w2 σ H R) := ⟨fun pins s σ H R I h => h.elim (h1.run pins s σ H R I) (h2.run pins s σ H R I)⟩
/-! ### nested tuples (and lists) of numbers, texts and None -/
def Atm (v : V) (d : PyData) : Prop := (∃ i : Int, v = .int i ∧ d = .int i) ∨ (v = .non ∧ d = .none) ∨ ∃ z : {z : Str // PyData.strOk z = true}, v = .str z.1 ∧ d = .str z.1
def FV (H : Hp) (b : Bool) : Nat → V → PyData → Prop
  | 0, v, d => Atm v d
  | n + 1, v, d => Atm v d ∨ ∃ (a : Addr) (xs : List V) (ds : List PyData), v = .ref a ∧ (H a = some (.tup xs) ∨ (b = true ∧ H a = some (.lst xs))) ∧ d = .tuple ds ∧ xs.length ≤ 1000 ∧ Paired (FV H b n) xs ds
theorem FV.atm {H : Hp} {b : Bool} {v : V} {d : PyData} (h : Atm v d) : ∀ n, FV H b n v d
  | 0 => h
  | _ + 1 => .inl h
theorem FV.int {H : Hp} {b : Bool} {n : Nat} (i : Int) : FV H b n (.int i) (.int i) := FV.atm (.inl ⟨i, rfl, rfl⟩) n
theorem FV.non {H : Hp} {b : Bool} {n : Nat} : FV H b n .non .none := FV.atm (.inr (.inl ⟨rfl, rfl⟩)) n
theorem FV.tup {H : Hp} {b : Bool} {n : Nat} {a : Addr} {xs : List V} {ds : List PyData} (h : H a = some (.tup xs)) (l : xs.length ≤ 1000) (p : Paired (FV H b n) xs ds) : FV H b (n + 1) (.ref a) (.tuple ds) := .inr ⟨a, xs, ds, rfl, .inl h, rfl, l, p⟩
theorem FV.up {H : Hp} {b : Bool} : ∀ {n : Nat} {v : V} {d : PyData}, FV H b n v d → FV H b (n + 1) v d
  | 0, v, d, h => .inl h
  | n + 1, v, d, h => by
    rcases h with h | ⟨a, xs, ds, e, ha, ed, l, p⟩
    · exact .inl h
    · exact .inr ⟨a, xs, ds, e, ha, ed, l, par_imp (fun _ _ k => k.up) p⟩
theorem FV.ext {H H' : Hp} {b : Bool} (s : ExtN H H') : ∀ {n : Nat} {v : V} {d : PyData}, FV H b n v d → FV H' b n v d
  | 0, v, d, h => h
  | n + 1, v, d, h => by
    rcases h with h | ⟨a, xs, ds, e, ha, ed, l, p⟩
    · exact .inl h
    · exact .inr ⟨a, xs, ds, e, ha.imp (fun z => s _ _ z (fun _ q => nomatch q)) (fun z => ⟨z.1, s _ _ z.2 (fun _ q => nomatch q)⟩), ed, l, par_imp (fun _ _ k => k.ext s) p⟩
theorem FV.same {H H' : Hp} {b : Bool} {n : Nat} {v : V} {d : PyData} (h : FV H b n v d) (s : Same H H') : FV H' b n v d := h.ext (ExtN.of s)
theorem FV.mut {H : Hp} {D : Addr} {us ws : List V} (hD : H D = some (.lst us)) : ∀ {n : Nat} {v : V} {d : PyData}, FV H false n v d → FV (upd H D (.lst ws)) false n v d
  | 0, v, d, h => h
  | n + 1, v, d, h => by
    rcases h with h | ⟨a, xs, ds, e, ha, ed, l, p⟩
    · exact .inl h
    · refine .inr ⟨a, xs, ds, e, ?_, ed, l, par_imp (fun _ _ k => k.mut hD) p⟩
      rcases ha with ha | ⟨z, _⟩
      · exact .inl (by rw [upd_ne fun k => by rw [k, hD] at ha; cases ha]; exact ha)
      · cases z
theorem FV.any {H : Hp} : ∀ {n : Nat} {v : V} {d : PyData}, FV H false n v d → FV H true n v d
  | 0, v, d, h => h
  | n + 1, v, d, h => by
    rcases h with h | ⟨a, xs, ds, e, ha, ed, l, p⟩
    · exact .inl h
    · refine .inr ⟨a, xs, ds, e, ?_, ed, l, par_imp (fun _ _ k => k.any) p⟩
      rcases ha with ha | ⟨z, _⟩
      · exact .inl ha
      · cases z
theorem fv_ints {H : Hp} {b : Bool} {n : Nat} : ∀ l : List Int, Paired (FV H b n) (l.map V.int) (l.map PyData.int)
  | [] => .nil
  | i :: l => .cons (FV.int i) (fv_ints l)
section
variable {P : Program} {w : World} {K : PySem.W.Frag} {mg : Str → Option Value} {base : Heap}
def spFz (n : Nat) : Sp := fun vs H Q _ => ∃ (v : V) (d : PyData), vs = [v] ∧ FV H true n v d ∧ ∀ v' H', Same H H' → FV H' false n v' d → Q v' H'
abbrev nFz : List Str := ["value", "one"]
theorem scFz : FnScope nFz ["value"] (defScope sFixed) := ⟨rfl, rfl, rfl, by decide +kernel, rfl, by decide +kernel, by decide +kernel⟩
theorem atm_ty {H : Hp} {v : V} {d : PyData} (h : Atm v d) : ∃ k : String, TyX K H v (.type k) ∧ kitB k "list" = some false ∧ kitB k "tuple" = some false := by
  rcases h with ⟨i, rfl, _⟩ | ⟨rfl, _⟩ | ⟨z, rfl, _⟩
  · exact ⟨"int", .base (.int i), by decide +kernel, by decide +kernel⟩
  · exact ⟨"NoneType", .base .non, by decide +kernel, by decide +kernel⟩
  · exact ⟨"str", .base (.str z.1), by decide +kernel, by decide +kernel⟩
theorem ok_fz0 {f : Addr} {fd : FuncData} (F : Fun K "fixed" "fixed" sFixed f fd) (T : Bi mg) : FnOk P w K mg base CX0 1 f fd ["value"] (spFz 0) := by
  refine F.ok scFz (fun vs H Q E h => ?_) (fun cdv A outer s H vs Q E hr h => ?_)
  · obtain ⟨v, d, rfl, _⟩ := h
    rfl
  · refine ⟨_, pss_cons (ps_if (pt_val (pe_callB call_isiT (by rfl) T.isinstance (by decide +kernel) (pa_cons (pv 0) (pa_cons (pe_tup (pa_cons (pe_bltn (v := .ty "list") (u := .type "list") (by rfl) T.list (by decide +kernel) rfl) (pa_cons (pe_bltn (v := .ty "tuple") (u := .type "tuple") (by rfl) T.tuple (by decide +kernel) rfl) pa_nil))) pa_nil)))) (pss_one ps_never) pss_nil)
      (pss_one (ps_ret (pv 0))), ?_⟩
    obtain ⟨v, d, rfl, h, q⟩ := h
    refine ⟨_, rfl, (by show 2 ≤ sizeLine; decide), fun p hp => ?_⟩
    have s1 : Same H (upd H p (.tup [.ty "list", .ty "tuple"])) := (Same.refl H).new hp
    obtain ⟨k, ty, k1, k2⟩ := atm_ty (K := K) (H := upd H p (.tup [.ty "list", .ty "tuple"])) h
    refine ⟨v, p, [.ty "list", .ty "tuple"], .type k, _, false, rfl, upd_same, .cons (.ty _) (.cons (.ty _) .nil), ty, kitAny_cons (kit_ty k1) (fun e => kitAny_cons (b := false) (r := false) (kit_ty k2) (fun _ => kitAny_nil) fun e' => nomatch e') (fun e => nomatch e), _, rfl, iteF ?_⟩
    exact ⟨_, rfl, q _ _ s1 h⟩
theorem ok_fz1 {n : Nat} {f : Addr} {fd : FuncData} (F : Fun K "fixed" "fixed" sFixed f fd) (T : Bi mg) (FX : DefAt P w K mg base CX0 (n + 1) "fixed" ["value"] (spFz n) f fd) : FnOk P w K mg base CX0 (n + 2) f fd ["value"] (spFz (n + 1)) := by
  refine F.ok scFz (fun vs H Q E h => ?_) (fun cdv A outer s H vs Q E hr h => ?_)
  · obtain ⟨v, d, rfl, _⟩ := h
    rfl
  · have nd := scFz.nd
    refine ⟨_, pss_cons (ps_if (pt_val (pe_callB call_isiT (by rfl) T.isinstance (by decide +kernel) (pa_cons (pv 0) (pa_cons (pe_tup (pa_cons (pe_bltn (v := .ty "list") (u := .type "list") (by rfl) T.list (by decide +kernel) rfl) (pa_cons (pe_bltn (v := .ty "tuple") (u := .type "tuple") (by rfl) T.tuple (by decide +kernel) rfl) pa_nil))) pa_nil))))
        (pss_one (ps_ret (pe_callTy call_tuple_of (by rfl) T.tuple (by decide +kernel) (pa_cons (pe_lc (own := [("one", 1)]) (g := gName 1) (tt := tYes) rfl nd (pi_or (pi_list (pv 0)) (pi_tup (pv 0))) (blkOk_by (N := nFz) (sc := defScope sFixed) (by decide +kernel)) (fun _ _ _ _ _ => pg_name (i := 1) nd rfl (Or.inl rfl)) (fun _ _ _ _ _ => pts_nil) (fun _ _ _ _ _ => pe_call FX.ok hr rfl FX.g FX.kp FX.b .nil pass0 (pa_cons (pv 1) pa_nil))) pa_nil)))) pss_nil)
      (pss_one (ps_ret (pv 0))), ?_⟩
    obtain ⟨v, d, rfl, h, q⟩ := h
    refine ⟨_, rfl, (by show 2 ≤ sizeLine; decide), fun p hp => ?_⟩
    have s1 : Same H (upd H p (.tup [.ty "list", .ty "tuple"])) := (Same.refl H).new hp
    have hpp : upd H p (.tup [.ty "list", .ty "tuple"]) p = some (.tup [.ty "list", .ty "tuple"]) := upd_same
    generalize upd H p (.tup [.ty "list", .ty "tuple"]) = H1 at s1 hpp ⊢
    rcases h with h | ⟨a, xs, ds, rfl, ha, rfl, l, px⟩
    · obtain ⟨k, ty, k1, k2⟩ := atm_ty (K := K) (H := H1) h
      refine ⟨v, p, [.ty "list", .ty "tuple"], .type k, _, false, rfl, hpp, .cons (.ty _) (.cons (.ty _) .nil), ty, kitAny_cons (kit_ty k1) (fun e => kitAny_cons (b := false) (r := false) (kit_ty k2) (fun _ => kitAny_nil) fun e' => nomatch e') (fun e => nomatch e), _, rfl, iteF ?_⟩
      exact ⟨_, rfl, q _ _ s1 (.inl h)⟩
    have px1 := par_imp (fun _ _ k => FV.same k s1) px
    have body : ∀ (wi : It) (Gd : Hp → Prop), Walk wi xs.length Gd (YAt xs) → (∀ H', Same H1 H' → Gd H') → ∀ D, H1 D = none → ∀ (tt : TT) (R : VK), (∀ D' us H', Same H1 H' → H' D' = some (.lst us) → us.length = xs.length → Paired (FV H' false n) us ds → R (.ref D') H') → True := fun _ _ _ _ _ _ _ _ _ => trivial
    have fin : ∀ (D : Addr) (us : List V) (H' : Hp), Same H1 H' → H' D = some (.lst us) → us.length = xs.length → Paired (FV H' false n) us ds → ∀ t, H' t = none → Q (.ref t) (upd H' t (.tup us)) := fun D us H' s2 h2 ul pu t nt => by
      have s3 : Same H' (upd H' t (.tup us)) := (Same.refl H').new nt
      exact q _ _ ((s1.trans s2).trans s3) (.inr ⟨t, us, ds, rfl, .inl upd_same, rfl, by omega, par_imp (fun _ _ k => k.same s3) pu⟩)
    have step : ∀ (D : Addr) (j : Nat) (y : V) (H' : Hp) (us : List V), xs[j]? = some y → Same H1 H' → H1 D = none → H' D = some (.lst us) → us.length = j → Paired (FV H' false n) us (ds.take j) →
        spFz n [y] H' (fun v H2 => ∃ acc, H2 D = some (.lst acc) ∧ acc.length < sizeLine ∧ (Same H1 (upd H2 D (.lst (acc ++ [v]))) ∧ ∃ us, upd H2 D (.lst (acc ++ [v])) D = some (.lst us) ∧ us.length = j + 1 ∧ Paired (FV (upd H2 D (.lst (acc ++ [v]))) false n) us (ds.take (j + 1)))) E0 := fun D j y H' us hj s2 nD h2 ul pu => by
      obtain ⟨e, he, fv⟩ := par_get px1 hj
      have jl : j < xs.length := (List.getElem?_eq_some_iff.mp hj).1
      refine ⟨y, e, rfl, fv.same s2, fun v' H3 s3 fv' => ?_⟩
      have h3 := s3 _ _ h2
      refine ⟨us, h3, by rw [ul]; exact sm (by omega), (s2.trans s3).mut nD, us ++ [v'], upd_same, by rw [List.length_append, ul]; rfl, ?_⟩
      rw [← take_snoc he]
      exact par_app (par_imp (fun _ _ k => (k.same s3).mut h3) pu) (.cons (fv'.mut h3) .nil)
    rcases ha with ha | ⟨_, ha⟩
    · have ha1 := s1 _ _ ha
      refine ⟨.ref a, p, [.ty "list", .ty "tuple"], .type "tuple", _, true, rfl, hpp, .cons (.ty _) (.cons (.ty _) .nil), .base (.tup ha1), kitAny_cons (b := false) (kit_ty (by decide +kernel)) (fun _ => kitAny_cons (b := true) (r := true) (kit_ty (by decide +kernel)) (fun e => nomatch e) fun _ => rfl) (fun e => nomatch e), _, rfl, iteT ?_⟩
      refine .inr ⟨_, rfl, a, rfl, ⟨_, .inl (.inl ha1)⟩, fun D hD => ?_⟩
      refine lc_it (walk_tup (K := K) (a := a) (xs := xs)) (fun j H' => Same H1 H' ∧ ∃ us, H' D = some (.lst us) ∧ us.length = j ∧ Paired (FV H' false n) us (ds.take j)) ⟨(Same.refl H1).new hD, [], upd_same, rfl, .nil⟩ (fun j H' _ r => .inl (.inl (r.1 _ _ ha1))) ?_ ?_
      · rintro j y H2 H3 hj ⟨s2, us, h2, ul, pu⟩ ⟨rfl, hy⟩
        exact ⟨rfl, _, rfl, step D j y _ us hy s2 hD h2 ul pu⟩
      · rintro H2 ⟨s2, us, h2, ul, pu⟩
        rw [par_len px, List.take_length] at pu
        exact ⟨D, _, rfl, .inl ⟨SqL.of h2, fin D us H2 s2 h2 ul pu⟩⟩
    · have ha1 := s1 _ _ ha
      refine ⟨.ref a, p, [.ty "list", .ty "tuple"], .type "list", _, true, rfl, hpp, .cons (.ty _) (.cons (.ty _) .nil), .base (.lst ha1), kitAny_cons (b := true) (r := true) (kit_ty (kit_list "list" (by decide))) (fun e => nomatch e) (fun _ => rfl), _, rfl, iteT ?_⟩
      refine .inl ⟨_, rfl, a, rfl, ⟨_, SqL.of ha1⟩, fun D hD => ?_⟩
      refine lc_it (walk_list (K := K) (a := a) (xs := xs)) (fun j H' => Same H1 H' ∧ ∃ us, H' D = some (.lst us) ∧ us.length = j ∧ Paired (FV H' false n) us (ds.take j)) ⟨(Same.refl H1).new hD, [], upd_same, rfl, .nil⟩ (fun j H' _ r => SqL.of (r.1 _ _ ha1)) ?_ ?_
      · rintro j y H2 H3 hj ⟨s2, us, h2, ul, pu⟩ ⟨rfl, hy⟩
        exact ⟨rfl, _, rfl, step D j y _ us hy s2 hD h2 ul pu⟩
      · rintro H2 ⟨s2, us, h2, ul, pu⟩
        rw [par_len px, List.take_length] at pu
        exact ⟨D, _, rfl, .inl ⟨SqL.of h2, fin D us H2 s2 h2 ul pu⟩⟩
/-- fixed, to any depth -/
theorem at_fz {f : Addr} {fd : FuncData} (F : Fun K "fixed" "fixed" sFixed f fd) (T : Bi mg) (g : mg "fixed" = some (.ref f)) (kp : PySem.W.keepIn K (.ref f) = true) (b : Binds K fd ["value"] []) : ∀ n, DefAt P w K mg base CX0 (n + 1) "fixed" ["value"] (spFz n) f fd
  | 0 => ⟨ok_fz0 F T, g, kp, b⟩
  | n + 1 => ⟨ok_fz1 F T (at_fz F T g kp b n), g, kp, b⟩
end
end K
namespace K
open PySem L2 Rg LamX NdefX
open Evl (pss_cut)
/-! ### papers -/
/-- a class of papers: no own word, no own parts -/
structure PapC (K : PySem.W.Frag) (C : Addr) : Prop where
  cl : Cls K C
  nw : NoAttr K C "word"
  np : NoAttr K C "parts"
/-- a def that closes over __class__ -/
structure FunS (K : PySem.W.Frag) (x qual : Str) (st : Stmt) (f c cc : Addr) (fd : FuncData) : Prop where
  ex : ∃ (oc : Value) (od : Option Addr) (kV doc pm : Value) (an : Option Addr) (ct : Value) (osl : Array (Option Value)),
    fd = PySem.W.fnX x qual (defArgs st) (defBody st) (defScope st) [(("__class__" : Str), cc)] .none kV doc pm an (.ref c) ct ∧ K.lookup f = some ⟨oc, od, .func fd, osl⟩ ∧ PySem.W.codeIn K (.ref c) qual = true
  kp : PySem.W.keepIn K (.ref f) = true
theorem FunS.binds {K : PySem.W.Frag} {x qual : Str} {st : Stmt} {f c cc : Addr} {fd : FuncData} {ps : List Str} (F : FunS K x qual st f c cc fd)
    (h : ∀ (kV doc pm : Value) (an : Option Addr) (ct : Value) (us : List Value), us.length = ps.length → bindArgs (PySem.W.fnX x qual (defArgs st) (defBody st) (defScope st) [(("__class__" : Str), cc)] .none kV doc pm an (.ref c) ct) ⟨us, []⟩ = pure (ps.zip us)) : Binds K fd ps [] := by
  obtain ⟨oc, od, kV, doc, pm, an, ct, osl, rfl, lk, hcd⟩ := F.ex
  refine fun s us KX hl => ?_
  rw [List.append_nil] at hl ⊢
  intro A R E Q q
  rw [h kV doc pm an ct us hl]
  exact wpAny_pure q
section
variable {P : Program} {w : World} {K : PySem.W.Frag} {mg : Str → Option Value} {base : Heap}
def spPI (n : Nat) : Sp := fun vs H Q _ => ∃ (r C dx p : Addr) (word : Str) (xs : List V) (ds : List PyData), vs = [.ref r, .str word, .ref p] ∧ H r = some (.ins C dx []) ∧ PapC K C ∧ H p = some (.tup xs) ∧ Paired (FV H true n) xs ds ∧ xs.length ≤ 1000 ∧
  ∀ t H', But r H H' → FV H' false (n + 1) (.ref t) (.tuple ds) → H' r = some (.ins C dx [("word", .str word), ("parts", .ref t)]) → Q .non H'
def spPIR (K : PySem.W.Frag) (n : Nat) : Sp := fun vs H Q _ => ∃ (r C dx : Addr) (word : Str) (xs : List V) (ds : List PyData), vs = .ref r :: .str word :: xs ∧ H r = some (.ins C dx []) ∧ PapC K C ∧ Paired (FV H true n) xs ds ∧ xs.length ≤ 1000 ∧
  ∀ t H', But r H H' → FV H' false (n + 1) (.ref t) (.tuple ds) → H' r = some (.ins C dx [("word", .str word), ("parts", .ref t)]) → Q .non H'
abbrev nPI : List Str := ["self", "word", "parts"]
theorem scPI : FnScope nPI ((["self", "word"] : List Str) ++ (["parts"] : List Str)) (defScope sPaperInit) := ⟨rfl, rfl, rfl, by decide +kernel, rfl, by decide +kernel, by decide +kernel⟩
theorem FV.but {H H' : Hp} {r C dx : Addr} {fs : List (Str × V)} {b : Bool} (hr : H r = some (.ins C dx fs)) (s : But r H H') : ∀ {n : Nat} {v : V} {d : PyData}, FV H b n v d → FV H' b n v d
  | 0, v, d, h => h
  | n + 1, v, d, h => by
    rcases h with h | ⟨a, xs, ds, e, ha, ed, l, p⟩
    · exact .inl h
    · refine .inr ⟨a, xs, ds, e, ?_, ed, l, par_imp (fun _ _ k => k.but hr s) p⟩
      exact ha.imp (fun z => s _ _ (fun q => by rw [q, hr] at z; cases z) z) (fun z => ⟨z.1, s _ _ (fun q => by rw [q, hr] at z; cases z.2) z.2⟩)
/-- a def with a star parameter, by its body -/
theorem fn_starF {x qual : Str} {st : Stmt} {f : Addr} {fd : FuncData} {N ps : List Str} {pv : Str} {k : Nat} {sp : Sp} (F : Fun K x qual st f fd) (S : FnScope N (ps ++ [pv]) (defScope st))
    (hb : ∀ (kV doc pm : Value) (an : Option Addr) (cdv ct : Value) (us rest : List Value), us.length = ps.length → bindArgs (PySem.W.fnOf x qual (defArgs st) (defBody st) (defScope st) .none kV doc pm an cdv ct) ⟨us ++ rest, []⟩ = (newTuple rest >>= fun t => pure (ps.zip us ++ [(pv, t)])))
    (hbody : ∀ (cdv : Value) (A : Around) (outer : List Env) (s : Shared) (H : Hp) (vs : List V) (Q : VK) (E : XK), Room k (A.deeper (PyProof.Rows.envOfC qual (defScope st) s.heap.objs.size f cdv)) → sp vs H Q E →
      ∃ t, PSs (cxOf CX0 P w K mg base N qual (defScope st) f cdv A outer s H E).nox (defBody st) t ∧ t { nx := fun _ H' => Q .non H', rt := Q } (start N vs) H) :
    FnR P w K mg base CX0 (k + 1) f (fun vs H Q E => ∃ ws rest, vs = ws ++ rest ∧ ws.length = ps.length ∧ rest.length ≤ sizeLine ∧ ∀ p, H p = none → sp (ws ++ [V.ref p]) (upd H p (.tup rest)) Q E) := by
  obtain ⟨oc, od, kV, doc, pm, an, cdv, ct, osl, rfl, lk, hcd⟩ := F.ex
  refine StX.fn_star lk hcd S StX.cxUp_none (hb kV doc pm an cdv ct) fun A outer s H vs Q E hr hsp => ?_
  obtain ⟨t, h, q⟩ := hbody cdv A outer s H vs Q E hr hsp
  exact ⟨t, h.nox, q⟩
theorem ok_pi {n : Nat} {f fX : Addr} {fd fdX : FuncData} (F : Fun K "__init__" "Paper.__init__" sPaperInit f fd) (FX : DefAt P w K mg base CX0 (n + 2) "fixed" ["value"] (spFz (n + 1)) fX fdX) : FnR P w K mg base CX0 (n + 3) f (spPIR K n) := by
  have z := fn_starF (P := P) (w := w) (mg := mg) (base := base) (ps := ["self", "word"]) (pv := "parts") (N := nPI) (k := n + 2) (sp := spPI (K := K) n) F scPI (fun kV doc pm an cdv ct => StX.bind_star2 (B := fun l => bindArgs (PySem.W.fnOf "__init__" "Paper.__init__" (defArgs sPaperInit) (defBody sPaperInit) (defScope sPaperInit) .none kV doc pm an cdv ct) ⟨l, []⟩) (fun _ _ => rfl) (fun _ _ _ _ => rfl)) fun cdv A outer s H vs Q E hr h => by
    refine ⟨_, (pss_cons (ps_fld (pv 0) (pv 1) rfl) (pss_one (ps_fld (pv 0) (pe_call FX.ok hr rfl FX.g FX.kp FX.b .nil pass0 (pa_cons (pv 2) pa_nil)) rfl))), ?_⟩
    obtain ⟨r, C, dx, p, word, xs, ds, rfl, hr0, pc, hp, px, l, q⟩ := h
    refine ⟨_, rfl, _, rfl, r, C, dx, [], rfl, hr0, pc.cl, pc.nw, (by show 0 < 1000; decide), ?_⟩
    have hr1 : upd H r (.ins C dx (putF "word" (.str word) [])) r = some (.ins C dx [("word", .str word)]) := upd_same
    have s1 : But r H (upd H r (.ins C dx (putF "word" (.str word) []))) := fun b o ne e => by rw [upd_ne ne]; exact e
    generalize upd H r (.ins C dx (putF "word" (.str word) [])) = H1 at hr1 s1 ⊢
    have pr : p ≠ r := fun z => by rw [z, hr0] at hp; cases hp
    refine ⟨_, rfl, .ref p, .tuple ds, rfl, FV.tup (s1 _ _ pr hp) l (par_imp (fun _ _ k => k.but hr0 s1) px), fun v' H2 s2 fv => ?_⟩
    rcases fv with (⟨_, _, z⟩ | ⟨_, z⟩ | ⟨_, _, z⟩) | ⟨t, ys, es, rfl, ht, e2, l2, p2⟩
    · cases z
    · cases z
    · cases z
    have hr2 := s2 _ _ hr1
    refine ⟨_, rfl, r, C, dx, _, rfl, hr2, pc.cl, pc.np, (by show 1 < 1000; decide), ?_⟩
    have s3 : But r H2 (upd H2 r (.ins C dx (putF "parts" (.ref t) [("word", .str word)]))) := fun b o ne e => by rw [upd_ne ne]; exact e
    have fv2 : FV H2 false (n + 1) (.ref t) (.tuple ds) := .inr ⟨t, ys, es, rfl, ht, e2, l2, p2⟩
    exact q t _ ((s1.trans fun b o _ e => s2 _ _ e).trans s3) (fv2.but hr2 s3) upd_same
  exact z.imp fun vs H Q E ⟨r, C, dx, word, xs, ds, e, hr0, pc, px, l, q⟩ => ⟨[.ref r, .str word], xs, e, rfl, Nat.le_trans l (by decide), fun p np => by
    have s0 : Same H (upd H p (.tup xs)) := (Same.refl H).new np
    exact ⟨r, C, dx, p, word, xs, ds, rfl, s0 _ _ hr0, pc, upd_same, par_imp (fun _ _ k => k.same s0) px, l, fun t H' b fv hr' => q t H' (fun a o ne e => b a o ne (s0 _ _ e)) fv hr'⟩⟩
end
end K
namespace K
open PySem L2 Rg LamX NdefX
open Evl (pss_cut)
def nfS (st : Stmt) (x qual : Str) (cc c : Addr) : NF := ⟨x, qual, defArgs st, defBody st, defScope st, [(("__class__" : Str), cc)], c⟩
/-- what a tuple holds -/
theorem fv_list {H : Hp} {n : Nat} {t : Addr} {ds : List PyData} (h : FV H false (n + 1) (.ref t) (.tuple ds)) : ∃ xs, H t = some (.tup xs) ∧ Paired (FV H false n) xs ds := by
  rcases h with (⟨_, z, _⟩ | ⟨z, _⟩ | ⟨_, z, _⟩) | ⟨t', xs, es, e1, ht, e2, l2, p2⟩
  · cases z
  · cases z
  · cases z
  · cases e1
    cases e2
    rcases ht with ht | ⟨z, _⟩
    · exact ⟨xs, ht, p2⟩
    · cases z
/-! ### papers -/
/-- a paper of the class C: its fields, what its parts hold -/
def PapG (C : Addr) (word : Str) (fs : List (Str × V)) (H : Hp) (r : Addr) : Prop := ∃ dx t, H r = some (.ins C dx (("word", .str word) :: ("parts", .ref t) :: fs)) ∧ H t = some (.tup (fs.map (·.2)))
theorem PapG.ext {C : Addr} {word : Str} {fs : List (Str × V)} {H H' : Hp} {r : Addr} (h : PapG C word fs H r) (s : ExtN H H') : PapG C word fs H' r := by
  obtain ⟨dx, t, h1, h2⟩ := h
  exact ⟨dx, t, s _ _ h1 (fun _ q => nomatch q), s _ _ h2 (fun _ q => nomatch q)⟩
section
variable {P : Program} {w : World} {K : PySem.W.Frag} {mg : Str → Option Value} {base : Heap}
abbrev fsNI (v1 : V) : List (Str × V) := [("nets", v1)]
structure NetsC (K : PySem.W.Frag) (mg : Str → Option Value) (C : Addr) : Prop where
  pc : PapC K C
  n1 : NoAttr K C "nets"
  g : mg "Nets" = some (.ref C)
def spNI (K : PySem.W.Frag) (C : Addr) (n : Nat) : Sp := fun vs H Q _ => ∃ (r dx : Addr) (v1 : V) (d1 : PyData), vs = [.ref r, v1] ∧ H r = some (.ins C dx []) ∧ FV H true n v1 d1 ∧
  ∀ w1 H', But r H H' → FV H' false n w1 d1 → PapG C "nets" (fsNI w1) H' r → Q .non H'
abbrev nNI : List Str := ["self", "nets", "__class__"]
theorem scNI : NScope nNI ((("self" : Str)) :: (["nets"] : List Str)) ["__class__"] (defScope sNetsInit) := nscope_by (by decide +kernel)
theorem ok_ni {n : Nat} {f c cc C f2 : Addr} {fd : FuncData} (F : FunS K "__init__" "Nets.__init__" sNetsInit f c cc fd) (T : SupAt P K mg (nfS sNetsInit "__init__" "Nets.__init__" cc c) f C cc) (R : NetsC K mg C) (TO : SupTo K C C f2) (PI : FnR P w K mg base CX0 (n + 3) f2 (spPIR K n)) :
    FnOk P w K mg base CX0 (n + 4) f fd ["self", "nets"] (spNI K C n) := by
  obtain ⟨oc, od, kV, doc, pm, an, ct, osl, rfl, lk, hcd⟩ := F.ex
  refine fn_super (CX2 := CX0) (f2 := f2) (sp2 := spPIR K n) (F := nfS sNetsInit "__init__" "Nets.__init__" cc c) (N := nNI) (ps := ["nets"]) (sp := spNI K C n) (k := n + 3) lk hcd scNI T rfl (fun vs H Q E h => ?_) (fun _ => rfl) (fun _ => rfl) (fun _ => ⟨_, rfl⟩) (fun _ _ => rfl) (fun _ _ => rfl) fun A outer s H vs Q E hr h => ?_
  · obtain ⟨r, dx, v1, d1, rfl, _⟩ := h
    rfl
  · obtain ⟨r, dx, v1, d1, rfl, hr0, f1, q⟩ := h
    refine ⟨r, C, dx, [], _, _, _, _, rfl, hr0, R.pc.cl, TO, PI, pass0, (pa_cons pe_str (pa_cons (pv 1) pa_nil)),
      (pss_one (ps_fld (pv 0) (pe_ix (r := rIxT K) ix_tup (pe_fld (pv 0) rfl) pe_int (fun _ _ => rfl)) rfl)), ?_⟩
    refine ⟨_, rfl,  r, C, dx, "nets", [v1], [d1], rfl, hr0, R.pc, (.cons f1 .nil), (by show 1 ≤ 1000; decide), fun t H1 s1 fv hr1 => ?_⟩
    obtain ⟨xs, ht, px⟩ := fv_list fv
    obtain ⟨w1, rfl, g1⟩ : ∃ w1, xs = [w1] ∧ FV H1 false n w1 d1 := by
      cases px with
      | cons a p => cases p; exact ⟨_, rfl, a⟩
    have tr : t ≠ r := fun z => by rw [z, hr1] at ht; cases ht
    refine ⟨_, rfl, r, C, dx, _, _, rfl, hr1, R.pc.cl, R.pc.np, rfl, t, _, 0, w1, rfl, rfl, .inl (.inl ht), rfl, _, rfl, r, C, dx, _, rfl, hr1, R.pc.cl, R.n1, (by show 2 < 1000; decide), ?_⟩
    have s2 : But r H1 (upd H1 r (.ins C dx (putF "nets" w1 [("word", .str "nets"), ("parts", .ref t)]))) := fun b o ne e => by rw [upd_ne ne]; exact e
    have al : ∀ {v : V} {d : PyData}, FV H1 false n v d → FV (upd H1 r (.ins C dx (putF "nets" w1 [("word", .str "nets"), ("parts", .ref t)]))) false n v d := fun g => (g.but hr1 s2)
    exact q w1 _ (s1.trans s2) (al g1) ⟨dx, t, upd_same, s2 _ _ tr ht⟩
abbrev fsGI (v1 v2 v3 : V) : List (Str × V) := [("lot", v1), ("net", v2), ("others", v3)]
structure TooGreatC (K : PySem.W.Frag) (mg : Str → Option Value) (C : Addr) : Prop where
  pc : PapC K C
  n1 : NoAttr K C "lot"
  n2 : NoAttr K C "net"
  n3 : NoAttr K C "others"
  g : mg "TooGreat" = some (.ref C)
def spGI (K : PySem.W.Frag) (C : Addr) (n : Nat) : Sp := fun vs H Q _ => ∃ (r dx : Addr) (v1 v2 v3 : V) (d1 d2 d3 : PyData), vs = [.ref r, v1, v2, v3] ∧ H r = some (.ins C dx []) ∧ FV H true n v1 d1 ∧ FV H true n v2 d2 ∧ FV H true n v3 d3 ∧
  ∀ w1 w2 w3 H', But r H H' → FV H' false n w1 d1 → FV H' false n w2 d2 → FV H' false n w3 d3 → PapG C "toogreat" (fsGI w1 w2 w3) H' r → Q .non H'
abbrev nGI : List Str := ["self", "lot", "net", "others", "__class__"]
theorem scGI : NScope nGI ((("self" : Str)) :: (["lot", "net", "others"] : List Str)) ["__class__"] (defScope sTooGreatInit) := nscope_by (by decide +kernel)
theorem ok_gi {n : Nat} {f c cc C f2 : Addr} {fd : FuncData} (F : FunS K "__init__" "TooGreat.__init__" sTooGreatInit f c cc fd) (T : SupAt P K mg (nfS sTooGreatInit "__init__" "TooGreat.__init__" cc c) f C cc) (R : TooGreatC K mg C) (TO : SupTo K C C f2) (PI : FnR P w K mg base CX0 (n + 3) f2 (spPIR K n)) :
    FnOk P w K mg base CX0 (n + 4) f fd ["self", "lot", "net", "others"] (spGI K C n) := by
  obtain ⟨oc, od, kV, doc, pm, an, ct, osl, rfl, lk, hcd⟩ := F.ex
  refine fn_super (CX2 := CX0) (f2 := f2) (sp2 := spPIR K n) (F := nfS sTooGreatInit "__init__" "TooGreat.__init__" cc c) (N := nGI) (ps := ["lot", "net", "others"]) (sp := spGI K C n) (k := n + 3) lk hcd scGI T rfl (fun vs H Q E h => ?_) (fun _ => rfl) (fun _ => rfl) (fun _ => ⟨_, rfl⟩) (fun _ _ => rfl) (fun _ _ => rfl) fun A outer s H vs Q E hr h => ?_
  · obtain ⟨r, dx, v1, v2, v3, d1, d2, d3, rfl, _⟩ := h
    rfl
  · obtain ⟨r, dx, v1, v2, v3, d1, d2, d3, rfl, hr0, f1, f2, f3, q⟩ := h
    refine ⟨r, C, dx, [], _, _, _, _, rfl, hr0, R.pc.cl, TO, PI, pass0, (pa_cons pe_str (pa_cons (pv 1) (pa_cons (pv 2) (pa_cons (pv 3) pa_nil)))),
      (pss_cons (ps_fld (pv 0) (pe_ix (r := rIxT K) ix_tup (pe_fld (pv 0) rfl) pe_int (fun _ _ => rfl)) rfl)
      (pss_cons (ps_fld (pv 0) (pe_ix (r := rIxT K) ix_tup (pe_fld (pv 0) rfl) pe_int (fun _ _ => rfl)) rfl)
      (pss_one (ps_fld (pv 0) (pe_ix (r := rIxT K) ix_tup (pe_fld (pv 0) rfl) pe_int (fun _ _ => rfl)) rfl)))), ?_⟩
    refine ⟨_, rfl, _, rfl, _, rfl,  r, C, dx, "toogreat", [v1, v2, v3], [d1, d2, d3], rfl, hr0, R.pc, (.cons f1 (.cons f2 (.cons f3 .nil))), (by show 3 ≤ 1000; decide), fun t H1 s1 fv hr1 => ?_⟩
    obtain ⟨xs, ht, px⟩ := fv_list fv
    obtain ⟨w1, w2, w3, rfl, g1, g2, g3⟩ : ∃ w1 w2 w3, xs = [w1, w2, w3] ∧ FV H1 false n w1 d1 ∧ FV H1 false n w2 d2 ∧ FV H1 false n w3 d3 := by
      cases px with
      | cons a p => cases p with
        | cons b p => cases p with
          | cons c p => cases p; exact ⟨_, _, _, rfl, a, b, c⟩
    have tr : t ≠ r := fun z => by rw [z, hr1] at ht; cases ht
    refine ⟨_, rfl, r, C, dx, _, _, rfl, hr1, R.pc.cl, R.pc.np, rfl, t, _, 0, w1, rfl, rfl, .inl (.inl ht), rfl, _, rfl, r, C, dx, _, rfl, hr1, R.pc.cl, R.n1, (by show 2 < 1000; decide), ?_⟩
    have s2 : But r H1 (upd H1 r (.ins C dx (putF "lot" w1 [("word", .str "toogreat"), ("parts", .ref t)]))) := fun b o ne e => by rw [upd_ne ne]; exact e
    have hr2 : upd H1 r (.ins C dx (putF "lot" w1 [("word", .str "toogreat"), ("parts", .ref t)])) r = some (.ins C dx [("word", .str "toogreat"), ("parts", .ref t), ("lot", w1)]) := upd_same
    generalize upd H1 r (.ins C dx (putF "lot" w1 [("word", .str "toogreat"), ("parts", .ref t)])) = H2 at hr2 s2 ⊢
    have ht2 := s2 _ _ tr ht
    refine ⟨_, rfl, r, C, dx, _, _, rfl, hr2, R.pc.cl, R.pc.np, rfl, t, _, 1, w2, rfl, rfl, .inl (.inl ht2), rfl, _, rfl, r, C, dx, _, rfl, hr2, R.pc.cl, R.n2, (by show 3 < 1000; decide), ?_⟩
    have s3 : But r H2 (upd H2 r (.ins C dx (putF "net" w2 [("word", .str "toogreat"), ("parts", .ref t), ("lot", w1)]))) := fun b o ne e => by rw [upd_ne ne]; exact e
    have hr3 : upd H2 r (.ins C dx (putF "net" w2 [("word", .str "toogreat"), ("parts", .ref t), ("lot", w1)])) r = some (.ins C dx [("word", .str "toogreat"), ("parts", .ref t), ("lot", w1), ("net", w2)]) := upd_same
    generalize upd H2 r (.ins C dx (putF "net" w2 [("word", .str "toogreat"), ("parts", .ref t), ("lot", w1)])) = H3 at hr3 s3 ⊢
    have ht3 := s3 _ _ tr ht2
    refine ⟨_, rfl, r, C, dx, _, _, rfl, hr3, R.pc.cl, R.pc.np, rfl, t, _, 2, w3, rfl, rfl, .inl (.inl ht3), rfl, _, rfl, r, C, dx, _, rfl, hr3, R.pc.cl, R.n3, (by show 4 < 1000; decide), ?_⟩
    have s4 : But r H3 (upd H3 r (.ins C dx (putF "others" w3 [("word", .str "toogreat"), ("parts", .ref t), ("lot", w1), ("net", w2)]))) := fun b o ne e => by rw [upd_ne ne]; exact e
    have al : ∀ {v : V} {d : PyData}, FV H1 false n v d → FV (upd H3 r (.ins C dx (putF "others" w3 [("word", .str "toogreat"), ("parts", .ref t), ("lot", w1), ("net", w2)]))) false n v d := fun g => (((g.but hr1 s2).but hr2 s3).but hr3 s4)
    exact q w1 w2 w3 _ (((s1.trans s2).trans s3).trans s4) (al g1) (al g2) (al g3) ⟨dx, t, upd_same, s4 _ _ tr ht3⟩
end
end K
namespace K
open PySem L2 Rg
open Evl (pss_cut)
/-! ### pairs in order -/
def lexLe (a b : Int × Int) : Bool := !SrtO.lexB b a
theorem lexLe_iff {a b : Int × Int} : lexLe a b = true ↔ (a.1 < b.1 ∨ (a.1 = b.1 ∧ a.2 ≤ b.2)) := by
  unfold lexLe
  rw [Bool.not_eq_true', SrtO.lexB_no]
  omega
def srtQ (st : Strd) : Strd := st.mergeSort lexLe
theorem srtQ_perm (st : Strd) : (srtQ st).Perm st := List.mergeSort_perm ..
theorem lexLe_trans (a b c : Int × Int) (h1 : lexLe a b = true) (h2 : lexLe b c = true) : lexLe a c = true := by
  rw [lexLe_iff] at h1 h2 ⊢
  omega
theorem lexLe_total (a b : Int × Int) : (lexLe a b || lexLe b a) = true := by
  rw [Bool.or_eq_true, lexLe_iff, lexLe_iff]
  omega
theorem lexLe_anti {a b : Int × Int} (h1 : lexLe a b = true) (h2 : lexLe b a = true) : a = b := by
  rw [lexLe_iff] at h1 h2
  exact Prod.ext (by omega) (by omega)
theorem srtQ_sorted (st : Strd) : (srtQ st).Pairwise fun a b => lexLe a b = true := List.pairwise_mergeSort lexLe_trans lexLe_total st
theorem srtQ_uniq {l st : Strd} (p : l.Perm st) (h : l.Pairwise fun a b => lexLe a b = true) : l = srtQ st :=
  List.Perm.eq_of_pairwise (fun x y _ _ h1 h2 => lexLe_anti h1 h2) h (srtQ_sorted st) (p.trans (srtQ_perm st).symm)
theorem srtQ_of_perm {l st : Strd} (p : l.Perm st) : srtQ l = srtQ st := srtQ_uniq ((srtQ_perm l).trans p) (srtQ_sorted l)
theorem spat_of {H : Hp} : ∀ zs : List V, (∀ z ∈ zs, ∃ q, SPat H z q) → Paired (SPat H) zs (zs.map (pk H)) := by
  intro zs
  induction zs with
  | nil => exact fun _ => .nil
  | cons z zs ih =>
    intro k
    obtain ⟨q, hs⟩ := k z (List.mem_cons_self ..)
    exact .cons (by rw [pk_at hs]; exact hs) (ih fun y hy => k y (List.mem_cons_of_mem _ hy))
theorem srt_pairs {H : Hp} {xs ys : List V} {st : Strd} (px : Paired (SPat H) xs st) (srt : SrtO.Srtd (ltP (pk H)) ys) (pm : ys.Perm xs) : Paired (SPat H) ys (srtQ st) := by
  have h1 : Paired (SPat H) ys (ys.map (pk H)) := spat_of ys fun z hz => let ⟨q, _, h⟩ := par_mem px (pm.mem_iff.mp hz); ⟨q, h⟩
  have e : ys.map (pk H) = srtQ st := by
    refine srtQ_uniq ?_ ?_
    · rw [← pk_map px]
      exact pm.map _
    · rw [List.pairwise_map]
      refine List.Pairwise.imp (fun {a b} h => ?_) srt
      have h' : SrtO.lexB (pk H b) (pk H a) = false := h
      unfold lexLe
      rw [h']
      rfl
  rw [← e]
  exact h1
theorem pairs_of {H : Hp} {xs : List V} {st : Strd} (px : Paired (SPat H) xs st) : ∀ y ∈ xs, ∃ t, y = V.ref t ∧ H t = some (.tup [.int (pk H y).1, .int (pk H y).2]) := fun y hy => by
  obtain ⟨q, _, h⟩ := par_mem px hy
  rw [pk_at h]
  exact h
/-- a strand as it is kept -/
def sg0 (st : Strd) : Int := ((srtQ st).headD (0, 1)).2
def asS (st : Strd) : Strd := (srtQ st).map fun q => (q.1, q.2 * sg0 st)
theorem asS_len (st : Strd) : (asS st).length = st.length := by
  unfold asS
  rw [List.length_map, (srtQ_perm st).length_eq]
theorem asS_bars (st : Strd) : ((asS st).map (·.1)).Perm (st.map (·.1)) := by
  unfold asS
  rw [List.map_map]
  exact (srtQ_perm st).map _
theorem sg0_one {st : Strd} (h : goodS st) : sg0 st = 1 ∨ sg0 st = -1 := by
  unfold sg0
  cases e : srtQ st with
  | nil =>
    have := (srtQ_perm st).length_eq
    rw [e] at this
    exact absurd (List.eq_nil_of_length_eq_zero this.symm) h.1
  | cons q r => exact h.2.2 q ((srtQ_perm st).mem_iff.mp (by rw [e]; exact List.mem_cons_self ..))
theorem asS_good {st : Strd} (h : goodS st) : goodS (asS st) := by
  refine ⟨fun e => ?_, ?_, fun q hq => ?_⟩
  · have := asS_len st
    rw [e] at this
    exact h.1 (List.eq_nil_of_length_eq_zero this.symm)
  · rw [asS_len]
    exact h.2.1
  · obtain ⟨p, hp, rfl⟩ := List.mem_map.mp hq
    have a := h.2.2 p ((srtQ_perm st).mem_iff.mp hp)
    have b := sg0_one h
    show p.2 * sg0 st = 1 ∨ p.2 * sg0 st = -1
    rcases a with a | a <;> rcases b with b | b <;> rw [a, b] <;> decide
theorem sum_perm {a b : List Int} (p : a.Perm b) : a.sum = b.sum := by
  induction p with
  | nil => rfl
  | cons x _ ih => rw [List.sum_cons, List.sum_cons, ih]
  | swap x y l => simp only [List.sum_cons]; omega
  | trans _ _ h1 h2 => rw [h1, h2]
theorem sum_mulR (c : Int) : ∀ l : List Int, (l.map (· * c)).sum = l.sum * c
  | [] => by simp
  | x :: l => by rw [List.map_cons, List.sum_cons, List.sum_cons, sum_mulR c l, Int.add_mul]
theorem net_perm {ls : List Int} {a b : Strd} (p : a.Perm b) : net ls a = net ls b := sum_perm (p.map _)
def absI (z : Int) : Int := if z < 0 then -z else z
theorem absI_nat (z : Int) : absI z = (z.natAbs : Int) := by
  unfold absI
  split <;> omega
theorem net_asS {ls : List Int} {st : Strd} (h : goodS st) : absI (net ls (asS st)) = absI (net ls st) := by
  have e : net ls (asS st) = net ls st * sg0 st := by
    rw [← net_perm (srtQ_perm st)]
    unfold net asS
    rw [List.map_map, ← sum_mulR, List.map_map]
    congr 1
    refine List.map_congr_left fun q _ => ?_
    show ls.getD q.1.toNat 0 * (q.2 * sg0 st) = ls.getD q.1.toNat 0 * q.2 * sg0 st
    rw [Int.mul_assoc]
  rw [e, absI_nat, absI_nat, Int.natAbs_mul]
  rcases sg0_one h with k | k <;> rw [k] <;> simp
/-! ### strands as data -/
def pairD (q : Int × Int) : PyData := .tuple [.int q.1, .int q.2]
def strdD (st : Strd) : PyData := .tuple (st.map pairD)
def wayD (w : List Strd) : PyData := .tuple (w.map strdD)
theorem alike_pairs : ∀ a b : Strd, PySem.W.alikeAll (a.map pairD) (b.map pairD) = true
  | [], _ => by simp [PySem.W.alikeAll]
  | _ :: _, [] => by simp [PySem.W.alikeAll]
  | x :: a, y :: b => by
    show PySem.W.alikeAll (pairD x :: a.map pairD) (pairD y :: b.map pairD) = true
    rw [PySem.W.alikeAll, alike_pairs a b]
    simp [PySem.W.alike, PySem.W.alikeAll, pairD]
theorem deep_pairs : ∀ a : Strd, PyData.depthAll (a.map pairD) ≤ 1
  | [] => by simp [PyData.depthAll]
  | x :: a => by
    have ih := deep_pairs a
    rw [List.map_cons]
    simp [PyData.depthAll, PyData.depth, pairD]
    omega
theorem strd_dp {K : PySem.W.Frag} {H : Hp} : ∀ {xs : List V} {st : Strd}, Paired (SPat H) xs st → DpAll K H xs (st.map pairD)
  | _, _, .nil => .nil
  | _, _, .cons ⟨a, e, h⟩ t => .cons (by rw [e]; exact .tup (.inl (.inl h)) (.cons (.int _) (.cons (.int _) .nil))) (strd_dp t)
def sk (H : Hp) (x : V) : Strd := match x with
  | .ref a => (match H a with
    | some (.tup xs) => xs.map (pk H)
    | _ => [])
  | _ => []
theorem sk_at {H : Hp} {v : V} {st : Strd} (h : SSat H v st) : sk H v = st := by
  obtain ⟨a, xs, rfl, h, p⟩ := h
  show (match H a with
    | some (.tup xs) => xs.map (pk H)
    | _ => []) = st
  rw [h]
  exact pk_map p
theorem sk_map {H : Hp} : ∀ {xs : List V} {way : List Strd}, Paired (SSat H) xs way → xs.map (sk H) = way
  | _, _, .nil => rfl
  | _, _, .cons h t => by rw [List.map_cons, sk_at h, sk_map t]
theorem ss_of {H : Hp} : ∀ zs : List V, (∀ z ∈ zs, ∃ st, SSat H z st) → Paired (SSat H) zs (zs.map (sk H)) := by
  intro zs
  induction zs with
  | nil => exact fun _ => .nil
  | cons z zs ih =>
    intro k
    obtain ⟨st, hs⟩ := k z (List.mem_cons_self ..)
    exact .cons (by rw [sk_at hs]; exact hs) (ih fun y hy => k y (List.mem_cons_of_mem _ hy))
theorem strd_data {K : PySem.W.Frag} {H : Hp} {v : V} {st : Strd} (h : SSat H v st) : Dp K H v (strdD st) := by
  obtain ⟨a, xs, rfl, ha, px⟩ := h
  exact .tup (.inl (.inl ha)) (strd_dp px)
/-! ### sorted(..) of a list of data that are tuples: the very order -/
theorem each_data {X : Cx} {pns : List (Addr × Obj)} {σs : St} {Hh : Hp} {s : Shared} (Iv : L2.Inv X pns σs Hh s) {k : V → PyData} : ∀ {ys : List V} {out : List Value}, Vals ys out → (∀ x ∈ ys, Dp X.K Hh x (k x)) →
    PySem.W.EachIs (fun v b => ∃ as, Reads s.heap v (k b) as) out ys
  | _, _, .nil, _ => .nil
  | y :: ys, u :: out, .cons r t, h => .cons (Dp.reads Iv (k y) y u (h y (List.mem_cons_self ..)) r) (each_data Iv t fun x hx => h x (List.mem_cons_of_mem _ hx))
def srtW (w : List Strd) : List Strd := w.mergeSort (PySem.W.dataLe false strdD)
def rSortW (K : PySem.W.Frag) : List V → Hp → VK → Prop := fun vxs Hh Qq => ∃ (a : Addr) (xs : List V) (way : List Strd), vxs = [.ref a] ∧ SqL K Hh a xs ∧ Paired (SSat Hh) xs way ∧ (∀ st ∈ way, st ≠ []) ∧
  ∀ p ys, ys.Perm xs → Hh p = none → Paired (SSat Hh) ys (srtW way) → Qq (.ref p) (upd Hh p (.lst ys))
/-- an order by data: total, and alike only what is one -/
theorem le_trans' {α : Type} (k : α → PyData) (a b c : α) (h1 : PySem.W.dataLe false k a b = true) (h2 : PySem.W.dataLe false k b c = true) : PySem.W.dataLe false k a c = true := (PySem.W.sortLe_total (PyProof.Rows.listOrd PyProof.Rows.itemOrd) false (fun x => PySem.W.keyToks (k x))).trans a b c h1 h2
theorem le_total' {α : Type} (k : α → PyData) (a b : α) : (PySem.W.dataLe false k a b || PySem.W.dataLe false k b a) = true := Bool.or_eq_true _ _ |>.mpr ((PySem.W.sortLe_total (PyProof.Rows.listOrd PyProof.Rows.itemOrd) false (fun x => PySem.W.keyToks (k x))).total a b)
theorem le_anti {α : Type} {k : α → PyData} (inj : ∀ a b, PySem.W.keyToks (k a) = PySem.W.keyToks (k b) → a = b) {a b : α} (h1 : PySem.W.dataLe false k a b = true) (h2 : PySem.W.dataLe false k b a = true) : a = b := by
  have h1' : (!(PyProof.Rows.listOrd PyProof.Rows.itemOrd).blt (PySem.W.keyToks (k b)) (PySem.W.keyToks (k a))) = true := h1
  have h2' : (!(PyProof.Rows.listOrd PyProof.Rows.itemOrd).blt (PySem.W.keyToks (k a)) (PySem.W.keyToks (k b))) = true := h2
  rw [Bool.not_eq_true'] at h1' h2'
  exact inj _ _ ((PyProof.Rows.listOrd PyProof.Rows.itemOrd).total _ _ h2' h1')
theorem sort_uniq {α : Type} {k : α → PyData} (inj : ∀ a b, PySem.W.keyToks (k a) = PySem.W.keyToks (k b) → a = b) {l m : List α} (p : l.Perm m) (hl : l.Pairwise fun a b => PySem.W.dataLe false k a b = true) : l = m.mergeSort (PySem.W.dataLe false k) :=
  List.Perm.eq_of_pairwise (fun x y _ _ h1 h2 => le_anti inj h1 h2) hl (List.pairwise_mergeSort (le_trans' k) (le_total' k) m) (p.trans (List.mergeSort_perm ..).symm)
theorem strdT_inj : ∀ {l m : Strd} {r t : List (Int ⊕ List Nat)}, PySem.W.keyToksAll (l.map pairD) ++ r = PySem.W.keyToksAll (m.map pairD) ++ t → l = m ∧ r = t
  | [], [], r, t, h => by
    simp only [List.map_nil, PySem.W.keyToksAll, List.singleton_append] at h
    exact ⟨rfl, (List.cons.inj h).2⟩
  | [], y :: m, r, t, h => by
    simp only [List.map_nil, List.map_cons, PySem.W.keyToksAll, List.singleton_append, List.cons_append] at h
    have := Sum.inl.inj (List.cons.inj h).1
    omega
  | x :: l, [], r, t, h => by
    simp only [List.map_nil, List.map_cons, PySem.W.keyToksAll, List.singleton_append, List.cons_append] at h
    have := Sum.inl.inj (List.cons.inj h).1
    omega
  | x :: l, y :: m, r, t, h => by
    simp only [List.map_cons, pairD, PySem.W.keyToksAll, PySem.W.keyToks, List.cons_append, List.append_assoc, List.nil_append] at h
    simp only [List.cons.injEq, Sum.inl.injEq, true_and] at h
    obtain ⟨h1, h2, h3⟩ := h
    obtain ⟨a, b⟩ := strdT_inj (l := l) (m := m) (r := r) (t := t) h3
    exact ⟨by rw [a, Prod.ext h1 h2], b⟩
theorem strd_toks {c e : Strd} (h : PySem.W.keyToks (strdD c) = PySem.W.keyToks (strdD e)) : c = e := by
  unfold strdD at h
  rw [PySem.W.keyToks, PySem.W.keyToks] at h
  have : PySem.W.keyToksAll (c.map pairD) ++ [] = PySem.W.keyToksAll (e.map pairD) ++ [] := by rw [List.append_nil, List.append_nil]; exact h
  exact (strdT_inj this).1
theorem srtW_perm (w : List Strd) : (srtW w).Perm w := List.mergeSort_perm ..
theorem srtW_of_perm {l m : List Strd} (p : l.Perm m) : srtW l = srtW m := sort_uniq (fun _ _ => strd_toks) ((srtW_perm l).trans p) (List.pairwise_mergeSort (le_trans' strdD) (le_total' strdD) l)
theorem map_sortW {k : V → PyData} {f : V → Strd} (h : ∀ x, k x = strdD (f x)) (xs : List V) : (xs.mergeSort (PySem.W.dataLe false k)).map f = srtW (xs.map f) := by
  refine sort_uniq (fun _ _ => strd_toks) ((List.mergeSort_perm ..).map f) ?_
  rw [List.pairwise_map]
  refine (List.pairwise_mergeSort (le_trans' k) (le_total' k) xs).imp fun {a b} z => ?_
  have e : PySem.W.dataLe false k a b = PySem.W.dataLe false strdD (f a) (f b) := by
    show (!(PyProof.Rows.listOrd PyProof.Rows.itemOrd).blt (PySem.W.keyToks (k b)) (PySem.W.keyToks (k a))) = (!(PyProof.Rows.listOrd PyProof.Rows.itemOrd).blt (PySem.W.keyToks (strdD (f b))) (PySem.W.keyToks (strdD (f a))))
    rw [h, h]
  rw [← e]
  exact z
theorem cr_sortW {X : Cx} (hu : X.A.units + 64 < cLine) : CallR X (.builtin "sorted") (rSortW X.K) := by
  rintro pns s σs Hh vxs uvs Qq Iv rr ⟨a, xs, way, rfl, hs, px, hne, qq⟩
  obtain ⟨its, rv, hl, hsz⟩ := Iv.list hs
  rw [Vals.ref1 rr]
  have each : ∀ x ∈ xs, ∃ st, st ≠ [] ∧ SSat Hh x st := fun x hx => by
    obtain ⟨st, m, h⟩ := par_mem px hx
    exact ⟨st, hne st m, h⟩
  refine PySem.W.sorted_data (β := V) (R := fun u x => RelV x u) (enc := fun x => strdD (sk Hh x)) hl.isList (vals_each rv) (each_data Iv rv fun x hx => let ⟨st, _, h⟩ := each x hx; by rw [sk_at h]; exact strd_data h) (PySem.W.AllAlike.of fun b b' => by
    show PySem.W.alike (strdD _) (strdD _) = true
    unfold strdD
    rw [PySem.W.alike]
    exact alike_pairs _ _) (.inl fun d hd => ?_) hsz (fun x _ => ?_) fun out ho heach => ?_
  · obtain ⟨x, hxm, rfl⟩ := List.mem_map.mp hd
    obtain ⟨st, ne, h⟩ := each x hxm
    rw [sk_at h]
    cases st with
    | nil => exact absurd rfl ne
    | cons z zs => exact ⟨pairD z, zs.map pairD, rfl⟩
  · have := deep_pairs (sk Hh x)
    simp only [strdD, PyData.depth]
    omega
  · have hpm : (xs.mergeSort (PySem.W.dataLe false fun x => strdD (sk Hh x))).Perm xs := List.mergeSort_perm ..
    obtain ⟨n, hnn⟩ := PyProof.Rows.sortedAll_at s.heap its out.toArray
    have nf := Iv.hok.fresh (Nat.le_succ s.heap.objs.size)
    refine ⟨.ref _, upd Hh (s.heap.objs.size + 1) (.lst (xs.mergeSort (PySem.W.dataLe false fun x => strdD (sk Hh x)))), Iv.laid (t' := s.toks) (fun _ _ => PyProof.Rows.sortedAll_old) (Nat.le_succ _) ⟨by rw [hpm.length_eq]; exact hsz, out, n, each_vals heach, hnn⟩, rfl, qq _ _ hpm nf ?_⟩
    have h1 := ss_of (xs.mergeSort (PySem.W.dataLe false fun x => strdD (sk Hh x))) fun z hz => let ⟨st, _, h⟩ := each z (hpm.mem_iff.mp hz); ⟨st, h⟩
    rw [map_sortW (f := sk Hh) (fun _ => rfl), sk_map px] at h1
    exact h1
end K
namespace Rg
open PySem PySem.Spec PyProof.Rows L2
/-! ### set(xs) of a list of ints; sorted and len of a set of ints, any number of them -/
/-- an empty set, as the call makes it -/
abbrev mtSet (w : World) : Obj := { cls := .type "set", dict := none, data := .set #[] 0 (.fresh 0 0 (!w.params.followText "set-order")) }
section
variable {P : Program} {w : World} {B : Around} {E : Value → Shared → Prop} {z : Shared}
/-- an empty set is filled from a list of ints -/
theorem fill_set {a l : Addr} {arr : Array Value} (zs : List Int) {R : PySem.Fin → Shared → Prop} (calm : B.handled = none) (ga : z.heap.get? a = some (mtSet w)) (gl : z.heap.IsList l arr) (al : a ≠ l) (iz : IntsAre arr.toList zs) (few : zs.length + 1 < scanBound)
    (fin : ∀ (g : Heap) (tk m : Nat), SetR w g a (fun j => decide (j ∈ zs)) m → m ≤ zs.length → (∀ b u, b ≠ a → z.heap.get? b = some u → g.get? b = some u) → R (.done (.ret .none)) { z with heap := g, toks := tk }) :
    wpAny (model P w) B (Builtin.«set.__init__» ⟨[.ref a, .ref l], []⟩) R E z := by
  have same : arr.size = zs.length := by have q := iz.length; rwa [Array.length_toList] at q
  have la := Heap.lt_size ga
  have kept : ∀ {b : Addr} {u v : Obj}, z.heap.get? b = some u → (z.heap.push v).get? b = some u := fun q => Heap.get?_push_of_some _ q
  obtain ⟨⟨oc, od, ob, os⟩, gob, ec, nl, eb⟩ := id gl
  cases ec
  cases eb
  have ll := Heap.lt_size gob
  have y1 := PySem.F.sub_list_set
  have y2 := PySem.F.sub_list_frozenset
  have y3 : (Value.type "list" == Value.type "dict") = false := by decide
  have y4 := sub_set_self
  have ty : z.TypeIs (.ref a) "set" := ⟨_, ga, rfl⟩
  unfold Builtin.«set.__init__»
  unfold noKeywords
  unfold Builtin.Frozenset.updateFrom
  generalize hold : pyIter = it
  wp_walk
  subst hold
  refine wpAny_pyIter_list gl (wpAny_bind (wpAny_runValue ?_))
  have W := (Walks.list (prog := P) (w := w) (A := B.in1) (by simp [calm]) z.heap.objs.size l (Nat.ne_of_lt ll) arr).toS
  refine set_update_ints W a (by simp only [List.mem_cons, List.not_mem_nil, or_false, not_or]; exact ⟨Nat.ne_of_lt la, al⟩) zs same few (fun i v hv => ?_) (arr.size - 0) 0 _ (by omega) (Nat.zero_le _) ?_ ⟨0, Nat.le_refl 0, ?_⟩ fun t m mv ml R1 => ?_
  · have lt : i < zs.length := same ▸ (Array.getElem?_eq_some_iff.mp hv).1
    obtain ⟨t, q⟩ := PyProof.Rows.IntsAre.int_at iz i v (by rw [Array.getElem?_toList]; exact hv)
    exact ⟨zs[i], t, List.getElem?_eq_getElem lt, by rw [q, List.getD_eq_getElem?_getD, List.getElem?_eq_getElem lt] <;> rfl⟩
  · exact ⟨⟨_, Heap.get?_push_size _ rfl, rfl, rfl⟩, gl.push _⟩
  · exact setR_new_at (Heap.get?_push_of_some _ ga)
  · have g1 : t.gens = z.gens := mv.gens
    have g2 : t.drawn = z.drawn := mv.drawn
    have g3 : t.os = z.os := mv.os
    have same3 : t = { z with heap := t.heap, toks := t.toks } := by
      obtain ⟨t1, t2, t3, t4, t5⟩ := t
      simp only at g1 g2 g3
      subst g1 g2 g3
      rfl
    rw [same3]
    exact wpAny_pure (wpAny_pure (fin _ _ m R1 (same ▸ ml) fun b u ba gb => mv.heap b u (by simp only [List.mem_cons, List.not_mem_nil, or_false, not_or]; exact ⟨ba, Nat.ne_of_lt (Heap.lt_size gb)⟩) (kept gb)))
theorem set_of_list {A : Around} {l : Addr} {arr : Array Value} (zs : List Int) {Q : Value → Shared → Prop} (calm : A.handled = none) (gl : z.heap.IsList l arr) (iz : IntsAre arr.toList zs) (few : zs.length + 1 < scanBound)
    (fin : ∀ (g : Heap) (tk m : Nat), SetR w g z.heap.objs.size (fun j => decide (j ∈ zs)) m → m ≤ zs.length → (∀ b u, z.heap.get? b = some u → g.get? b = some u) → Q (.ref z.heap.objs.size) { z with heap := g, toks := tk }) : wpAny (model P w) A (call (.type "set") [.ref l]) Q E z := by
  have CS := PySem.F.called_set
  obtain ⟨k0, ks, ms⟩ := CS.mro
  have m1 := CS.made
  have m2 := CS.sub
  have m3 := CS.notType
  have m4 := CS.canCreate
  have m5 := PySem.F.typeCall_set_1 (.ref l)
  have m6 := CS.init.lookup
  have m7 := CS.init.bind (.ref z.heap.objs.size)
  have ll : l < z.heap.objs.size := by
    obtain ⟨o, go, _⟩ := gl
    exact Heap.lt_size go
  have new : (z.heap.push (mtSet w)).get? z.heap.objs.size = some (mtSet w) := Heap.get?_push_size _ rfl
  refine wpAny_call (codeAny_of_tree (show wpAny _ _ (callAny (.type "set") _) _ _ _ from wpAny_pure ⟨Code.quiet_builtin _ (by decide +kernel), codeAny_builtin PySem.F.entry_type_call ?_⟩))
  rw [Around.under_plain (weight_type_call_type "set" [.ref l] []) rfl]
  (repeat any_goals first | assumption | wp_step)
  refine codeAny_mono (code_set_led1 (.ref l) (E := E) (Q₁ := fun y t => y = .ref z.heap.objs.size ∧ t = { z with heap := z.heap.push (mtSet w) }) ⟨rfl, rfl⟩) fun r t hr => ?_
  rcases r with e | f
  · exact hr
  rcases f with _ | _ | _ | y
  all_goals first | (exact hr.elim; done) | skip
  obtain ⟨rfl, rfl⟩ := hr
  (repeat any_goals first | assumption | wp_step)
  refine codeAny_mono (codeAny_call_builtin (R := wants (fun y t => y = .none ∧ ∃ g tk m, t = { z with heap := g, toks := tk } ∧ SetR w g z.heap.objs.size (fun j => decide (j ∈ zs)) m ∧ m ≤ zs.length ∧ ∀ b u, z.heap.get? b = some u → g.get? b = some u) E) CS.init.plain PySem.F.entry_set_init (check_set_init_1 ⟨_, new, rfl⟩ ?_)) fun r t hr => ?_
  · exact fill_set (z := { z with heap := z.heap.push (mtSet w) }) zs (by simp [calm]) new (gl.push _) (Nat.ne_of_gt ll) iz few fun g tk m R1 ml k => ⟨rfl, g, tk, m, rfl, R1, ml, fun b u gb => k b u (Nat.ne_of_lt (Heap.lt_size gb)) (Heap.get?_push_of_some _ gb)⟩
  rcases r with e | f
  · exact hr
  rcases f with _ | _ | _ | y
  all_goals first | (exact hr.elim; done) | skip
  obtain ⟨rfl, g, tk, m, rfl, R1, ml, k⟩ := hr
  (repeat any_goals first | assumption | wp_step)
  exact fin g tk m R1 ml k
end

section
variable {P : Program} {w : World} {B : Around} {E : Value → Shared → Prop} {z : Shared}
theorem sort_ofSet {a : Addr} {S : Int → Bool} {n : Nat} {Q : Value → Shared → Prop} (R : SetR w z.heap a S n) (calm : B.handled = none) (few : n ≤ 4000)
    (fin : ∀ t p (out : List Value) (c : Nat) (zs : List Int), (∀ b u, z.heap.get? b = some u → t.heap.get? b = some u) → t.gens = z.gens → t.os = z.os → z.heap.objs.size ≤ p → t.heap.get? p = some (seqObj "list" out.toArray c) →
      IntsAre out zs → zs.Pairwise (· < ·) → (∀ k, k ∈ zs ↔ S k = true) → zs.length = n → Q (.ref p) t) : wpAny (model P w) B (call (.builtin "sorted") [.ref a]) Q E z := by
  rcases R with ⟨ob, es, ep, tb, gob, ex, eb, good, once, mem, small, fits, size, ris, led⟩
  refine Calls.call_function_entry kind_sorted plain_sorted entry_sorted (args_sorted1 (.ref a)) ?_
  unfold Builtin.«sorted»
  refine wpAny_bind (m := checkCount "sorted" 1 1 _) (wpAny_pure (wpAny_bind (collect_set (A := B.in1) calm ⟨ob, gob, ex.1, eb⟩ fits small ris led fun t us keep le tg to perm => ?_)))
  have un : us.length = n := by rw [perm.length_eq, List.length_map, Array.length_toList, size]
  have uz : us.length ≤ sizeLine := un ▸ Nat.le_trans few (by decide)
  have nums : IntsAre us (us.map SrtO.iv) := SrtO.ints_iv fun v hv => by
    obtain ⟨q, hq, rfl⟩ := List.mem_map.mp (perm.mem_iff.mp hv)
    obtain ⟨x, tk, ev, _⟩ := good q hq
    exact ⟨x, tk, ev⟩
  have keys : (us.map SrtO.iv).Perm (es.toList.map keyOf) := by
    refine (perm.map SrtO.iv).trans (List.Perm.of_eq ?_)
    rw [List.map_map]
    exact List.map_congr_left fun q _ => by
      obtain ⟨_, v⟩ := q
      cases v <;> rfl
  have new : (t.heap.push (seqObj "list" us.toArray 0)).get? t.heap.objs.size = some (seqObj "list" us.toArray 0) := Heap.get?_push_size _ rfl
  refine wpAny_bind (wpAny_newList (wpAny_bind (wpAny_holding (wpAny_call_entry slot_list_sort ⟨_, new, rfl⟩ entry_list_sort (SrtO.list_sort_ord SrtO.swo_int new uz (fun two => SrtO.ints_sortable nums two) fun out od st => ⟨_, rfl, ?_⟩) (args_list_sort _)))) uz)
  obtain ⟨i1, i2, i3⟩ := SrtO.ints_out nums od st
  obtain ⟨c, gc⟩ := PyProof.Rows.sortedHeap_at (vs := us) (out := out.toArray) new
  have all := i2.trans keys
  refine wpAny_pure ⟨_, rfl, fin _ t.heap.objs.size out c (out.map SrtO.iv) (fun b u gb => ?_) tg to le gc i1 (lt_of_le_nodup _ i3 (all.nodup_iff.mpr once)) (fun k => by rw [all.mem_iff]; exact (mem k).symm) (by rw [all.length_eq, List.length_map, Array.length_toList, size])⟩
  have old := Heap.lt_size (keep b u gb)
  exact (PyProof.Rows.sortedHeap_old (Nat.ne_of_lt old) (by rw [size_push']; exact Nat.lt_succ_of_lt old)).trans (Heap.get?_push_of_some _ (keep b u gb))
end
/-- set(xs), xs a list of ints -/
def rSetL (w : World) (K : PySem.W.Frag) : List V → Hp → VK → Prop := fun xs Hh Qq => ∃ (a : Addr) (zs : List Int), xs = [V.ref a] ∧ SqL K Hh a (zs.map V.int) ∧ zs.length ≤ 4000 ∧
  ∀ (p : Addr) (ks : List Int), ks.Nodup → (∀ k, k ∈ ks ↔ k ∈ zs) → ks.length ≤ zs.length → Hh p = none → Qq (.ref p) (upd Hh p (SetO w p (fun j => decide (j ∈ zs)) ks.length))
/-- sorted(found) of a set of ints -/
def rSortedSetN (w : World) : List V → Hp → VK → Prop := fun xs Hh Qq => ∃ (a : Addr) (S : Int → Bool) (n : Nat), xs = [V.ref a] ∧ Hh a = some (SetO w a S n) ∧ n ≤ 4000 ∧
  ∀ (zs : List Int) (p : Addr), zs.Pairwise (· < ·) → (∀ k : Int, k ∈ zs ↔ S k = true) → zs.length = n → Hh p = none → Qq (.ref p) (upd Hh p (.lst (zs.map V.int)))
/-- len(found) of a set of ints -/
def rLenSetO (w : World) : List V → Hp → VK → Prop := fun xs Hh Qq => ∃ (a : Addr) (S : Int → Bool) (n : Nat), xs = [V.ref a] ∧ Hh a = some (SetO w a S n) ∧ n ≤ 4000 ∧ Qq (.int n) Hh
section
variable {X : Cx}
theorem cr_setL (calm : X.calm = true) : CallR X (.type "set") (rSetL X.w X.K) := by
  rintro pns t σs Hh xs us Qq Iv rr ⟨a, zs, rfl, seq, few, q⟩
  obtain ⟨its, vals, lst, _⟩ := Iv.list seq
  rw [Vals.ref1 rr]
  refine set_of_list zs (Iv.ok.hd calm) lst.isList (by simpa using vals.ints) (by unfold scanBound; omega) fun g tk m R1 ml keep => ?_
  have free := Iv.hok.fresh (Nat.le_refl t.heap.objs.size)
  obtain ⟨ob, es, ep, tb, gob, ex, eb, good, once, mem, small, fits, size, ris, led⟩ := id R1
  have lk : (es.toList.map keyOf).length = m := by rw [List.length_map, Array.length_toList, size]
  have done := q t.heap.objs.size (es.toList.map keyOf) once (fun j => (mem j).symm.trans decide_eq_true_iff) (by rw [lk]; exact ml) free
  rw [lk] at done
  exact ⟨.ref _, _, Iv.laid (t' := tk) (fun b u gb => keep b u gb) (Nat.le_refl _) (setO_new R1), rfl, done⟩
theorem cr_sortedSetN (calm : X.calm = true) : CallR X (.builtin "sorted") (rSortedSetN X.w) := by
  rintro pns t σs Hh xs us Qq Iv rr ⟨a, S, n, rfl, ha, few, q⟩
  rw [Vals.ref1 rr]
  refine sort_ofSet (setO_get Iv ha) (Iv.ok.hd calm) few fun t2 p out c zs keep tg to le gp nums asc mem size => ?_
  have free : Hh p = none := Iv.hok.fresh le
  have fit : (zs.map V.int).length ≤ sizeLine := by rw [List.length_map, size]; exact Nat.le_trans few (by decide)
  have I2 : L2.Inv X pns σs (upd Hh p (.lst (zs.map V.int))) { t with heap := t2.heap, gens := t2.gens, drawn := t2.drawn, toks := t2.toks } := Iv.call (ch := []) (Un.laid keep le free) (Iv.hok.laid keep le ⟨fit, out, c, vals_of_ints nums, gp⟩) (by rw [tg]; exact Iv.bare) (fun _ x => nomatch x)
  obtain ⟨t21, t22, t23, t24, t25⟩ := t2
  cases to
  exact ⟨.ref p, _, I2, rfl, q zs p asc mem size free⟩
theorem cr_lenSetO : CallR X (.builtin "len") (rLenSetO X.w) := by
  rintro pns t σs Hh xs us Qq Iv rr ⟨a, S, n, rfl, ha, few, q⟩
  rw [Vals.ref1 rr]
  obtain ⟨ob, es, ep, tb, gob, ex, eb, good, once, mem, small, fits, size, ris, led⟩ := setO_get Iv ha
  exact call_len_set gob ex eb fits (by rw [size]; omega) ⟨.int n, Hh, Iv.tok _, ⟨_, by rw [size]⟩, q⟩
end
end Rg
namespace Rg
open PySem PySem.Spec PyProof.Rows L2
/-! ### sorted(t), t a tuple of pairs of ints -/
def rSortedTP (K : PySem.W.Frag) : List V → Hp → VK → Prop := fun xs Hh Qq => ∃ (a : Addr) (ys : List V) (k : V → Int × Int), xs = [V.ref a] ∧ SqT K Hh a ys ∧ (∀ y ∈ ys, ∃ t, y = V.ref t ∧ Hh t = some (.tup [.int (k y).1, .int (k y).2])) ∧
  ∀ (zs : List V) (p : Addr), SrtO.Srtd (ltP k) zs → SrtO.Stb (ltP k) zs ys → Hh p = none → Qq (.ref p) (upd Hh p (.lst zs))
theorem cr_sortedTP {X : Cx} : CallR X (.builtin "sorted") (rSortedTP X.K) := by
  rintro pns s σs Hh xs us Qq Iv rr ⟨a, ys, k, rfl, seq, pairs, q⟩
  obtain ⟨vls, vals, tp, fit⟩ := Iv.tuple seq
  rw [Vals.ref1 rr]
  obtain ⟨back, refs⟩ := refs_back vals fun x m => let ⟨t, e, _⟩ := pairs x m; ⟨t, e⟩
  have two : ∀ {h₁ : Heap}, (∀ b oj, s.heap.get? b = some oj → h₁.get? b = some oj) → ∀ v ∈ vls, Srt.IsPair h₁ v (k (backV v)).1 (k (backV v)).2 := fun keep v m => by
    obtain ⟨t, rfl⟩ := refs v m
    obtain ⟨t', e, at'⟩ := pairs (V.ref t) (by rw [back]; exact List.mem_map.mpr ⟨_, m, rfl⟩)
    cases e
    obtain ⟨_, its, r2, ob, go, cl, n, dat⟩ := Iv.hok _ _ at'
    obtain ⟨u1, u2, rfl, ⟨t1, rfl⟩, t2, rfl⟩ := vals2 r2
    exact ⟨t, ob, t1, t2, n, rfl, keep _ _ go, cl, dat⟩
  refine sorted_tup (SrtO.swo_lex fun u => k (backV u)) (isTuple_of tp) (by rw [← vals.length]; exact fit) (fun h2 h₁ a' new keep => SrtO.pairs_sortableO (by omega) (two fun b oj g => (keep b oj g).2) fun o g c => ?_) fun out ord st => ?_
  · rw [show h₁.get? a' = _ from new] at g
    cases g
    exact absurd (Value.type.inj c) (by decide)
  · have outs : ∀ u ∈ out, ∃ b, u = Value.ref b := fun u m => refs u (st.perm.mem_iff.mp m)
    obtain ⟨ep, gp⟩ := PyProof.Rows.sortedAll_at s.heap vls out.toArray
    have stb : SrtO.Stb (ltP k) (out.map backV) ys := by
      rw [back]
      exact SrtO.Stb.map (ltP_swo k) backV st
    exact ⟨.ref _, upd Hh (s.heap.objs.size + 1) (.lst (out.map backV)), Iv.laid (t' := s.toks) (fun _ _ => PyProof.Rows.sortedAll_old) (Nat.le_succ _) ⟨by rw [stb.len]; exact fit, out, ep, vals_back outs, gp⟩, rfl, q _ _ (SrtO.srtd_map ord) stb (Iv.hok.fresh (Nat.le_succ _))⟩
end Rg
namespace K
open PySem L2 Rg LamX
open Evl (pss_cut)
section
variable {P : Program} {w : World} {K : PySem.W.Frag} {mg : Str → Option Value} {base : Heap}
/-! ### as_strand -/
def spAsS : Sp := fun vs H Q _ => ∃ (v : V) (st : Strd), vs = [v] ∧ SSat H v st ∧ goodS st ∧ ∀ v' H', Same H H' → SSat H' v' (asS st) → Q v' H'
abbrev nAsS : List Str := ["pairs", "rows", "bar", "sign"]
theorem scAsS : FnScope nAsS ["pairs"] (defScope sAsStrand) := ⟨rfl, rfl, rfl, by decide +kernel, rfl, by decide +kernel, by decide +kernel⟩
theorem ok_asS {f : Addr} {fd : FuncData} (F : Fun K "as_strand" "as_strand" sAsStrand f fd) (T : Bi mg) : FnOk P w K mg base CX0 1 f fd ["pairs"] spAsS := by
  refine F.ok scAsS (fun vs H Q E h => ?_) (fun cdv A outer s H vs Q E hr h => ?_)
  · obtain ⟨v, st, rfl, _⟩ := h
    rfl
  · have nd := scAsS.nd
    refine ⟨_, pss_cons (ps_set (i := 1) nd rfl (Or.inr rfl) (pe_callB cr_sortedTP (by rfl) T.sorted (by decide +kernel) (pa_cons (pv 0) pa_nil)))
      (pss_one (ps_ret (pe_callTy call_tuple_of (by rfl) T.tuple (by decide +kernel) (pa_cons (pe_lc (own := [("bar", 2), ("sign", 3)]) (g := gTup K 2 (gCons (gName 2) (gCons (gName 3) gNil))) (tt := tYes) (te := tTup (tCons (tVar 2) (tCons (tOp (rI CMul fun i j => .int (i * j)) (tVar 3) (tOp (rIxT K) (tOp (rIxL K) (tVar 1) (tC (.int 0))) (tC (.int 1)))) tNil))) rfl nd (pi_list (pv 1))
        (blkOk_by (N := nAsS) (sc := defScope sAsStrand) (by decide +kernel)) (fun _ _ _ _ _ => pg_tup rfl (pgs_cons (pg_name (i := 2) nd rfl (Or.inl rfl)) (pgs_cons (pg_name (i := 3) nd rfl (Or.inl rfl)) pgs_nil))) (fun _ _ _ _ _ => pts_nil)
        (fun _ _ _ _ _ => pe_tup (pa_cons (pv 2) (pa_cons (pe_op op_mul (pv 3) (pe_ix (r := rIxT K) ix_tup (pe_ix (r := rIxL K) ix_list (pv 1) pe_int (fun _ _ => rfl)) pe_int (fun _ _ => rfl))) pa_nil)))) pa_nil)))), ?_⟩
    obtain ⟨v, st, rfl, ⟨a, xs, rfl, ha, px⟩, gs, k⟩ := h
    have l8 := gs.2.1
    refine ⟨_, rfl, a, xs, pk H, rfl, .inl (.inl ha), pairs_of px, fun zs p srt stb hp => ?_⟩
    have pz0 := srt_pairs px srt stb.perm
    have s1 : Same H (upd H p (.lst zs)) := (Same.refl H).new hp
    have hp1 : upd H p (.lst zs) p = some (.lst zs) := upd_same
    have pz := par_imp (fun _ _ z => SPat.same z s1) pz0
    generalize upd H p (.lst zs) = H1 at s1 hp1 pz ⊢
    have zl : zs.length = st.length := by rw [par_len pz, (srtQ_perm st).length_eq]
    have ql : (srtQ st).length = st.length := (srtQ_perm st).length_eq
    have z1 : 0 < zs.length := by
      have := List.length_pos_iff.mpr gs.1
      omega
    obtain ⟨y0, hy0⟩ : ∃ y0, zs[0]? = some y0 := ⟨_, List.getElem?_eq_getElem z1⟩
    obtain ⟨q0, hq0, c, rfl, hc⟩ := par_get pz hy0
    have es : sg0 st = q0.2 := by
      unfold sg0
      cases e : srtQ st with
      | nil => rw [e] at hq0; cases hq0
      | cons u r => rw [e] at hq0; cases hq0; rfl
    refine ⟨_, rfl, p, rfl, ⟨_, SqL.of hp1⟩, fun D hD => ?_⟩
    refine lc_list (K := K) (a := p) (xs := zs) (fun j H' => Same H1 H' ∧ ∃ us, H' D = some (.lst us) ∧ Paired (SPat H') us ((asS st).take j)) ⟨(Same.refl H1).new hD, [], upd_same, .nil⟩ (fun j H' _ r => r.1.seq (SqL.of hp1)) ?_ ?_
    · rintro j y H' hj ⟨s2, us, h2, pu⟩
      have hjl : j < zs.length := (List.getElem?_eq_some_iff.mp hj).1
      obtain ⟨q, hq, b, rfl, hb⟩ := par_get pz hj
      have hqs := gs.2.2 q ((srtQ_perm st).mem_iff.mp (List.mem_of_getElem? hq))
      have hq0s := gs.2.2 q0 ((srtQ_perm st).mem_iff.mp (List.mem_of_getElem? hq0))
      have ha' : (asS st)[j]? = some (q.1, q.2 * q0.2) := by
        unfold asS
        rw [List.getElem?_map, hq, es]
        rfl
      refine ⟨b, _, rfl, .inl (.inl (s2 _ _ hb)), rfl, ⟨_, _, rfl, _, _, rfl, rfl, rfl, _, rfl, _, rfl, _, rfl, p, _, _, _, rfl, rfl, SqL.of (s2 _ _ hp1), at_of (j := 0) rfl hy0, c, _, _, _, rfl, rfl, .inl (.inl (s2 _ _ hc)), (rfl : atI [V.int q0.1, V.int q0.2] 1 = some (.int q0.2)), _, _, rfl, rfl, .inr ⟨?_, ?_⟩, (by show 2 ≤ sizeLine; decide), fun t nt => ⟨us, ?_, ?_, (s2.new nt).mut hD, _, upd_same, ?_⟩⟩⟩
      · omega
      · omega
      · rw [upd_ne (ne_of_none h2 nt)]
        exact h2
      · rw [par_len pu, List.length_take]
        exact sm (by omega)
      · have h2t : upd H' t (.tup [.int q.1, .int (q.2 * q0.2)]) D = some (.lst us) := by
          rw [upd_ne (ne_of_none h2 nt)]
          exact h2
        have sp : SPat (upd H' t (.tup [.int q.1, .int (q.2 * q0.2)])) (.ref t) (q.1, q.2 * q0.2) := ⟨t, rfl, upd_same⟩
        rw [← take_snoc ha']
        exact par_app (par_imp (fun _ _ z => (z.same ((Same.refl H').new nt)).mut h2t) pu) (.cons (sp.mut h2t) .nil)
    rintro H2 ⟨s2, us, h2, pu⟩
    rw [show zs.length = (asS st).length by rw [asS_len, zl], List.take_length] at pu
    refine ⟨D, _, rfl, .inl ⟨SqL.of h2, fun t nt => ?_⟩⟩
    exact k _ _ ((s1.trans s2).new nt) ⟨t, us, rfl, upd_same, par_imp (fun _ _ z => z.same ((Same.refl H2).new nt)) pu⟩
end
structure LineC (K : PySem.W.Frag) (mg : Str → Option Value) (C : Addr) : Prop where
  cl : Cls K C
  nS : NoAttr K C "strands"
  nL : NoAttr K C "lots"
  nM : NoAttr K C "many"
  g : mg "LineUp" = some (.ref C)
def rTupOf (K : PySem.W.Frag) : List V → Hp → VK → Prop := fun xs H Q => ∃ p ys, xs = [V.ref p] ∧ ((SqL K H p ys ∧ ∀ l, H l = none → Q (.ref l) (upd H l (.tup ys))) ∨ SqT K H p ys ∧ Q (.ref p) H)
/-- a line-up: its strands, its lots, how many bars -/
def LotT (H : Hp) (v : V) (st : Strd) : Prop := ∃ a, v = .ref a ∧ H a = some (.tup ((st.map (·.1)).map V.int))
def LineF (C : Addr) (H : Hp) (r : Addr) (w : List Strd) : Prop := ∃ (dx t l : Addr) (xs : List V) (n : Int), H r = some (.ins C dx [("strands", .ref t), ("lots", .ref l), ("many", .int n)]) ∧ n = ((w.map fun st => (st.length : Int)).sum) ∧ SWat H (.ref t) w ∧ H l = some (.tup xs) ∧ Paired (LotT H) xs w
theorem LotT.same {H H' : Hp} {v : V} {st : Strd} (h : LotT H v st) (s : Same H H') : LotT H' v st := let ⟨a, e, z⟩ := h; ⟨a, e, s _ _ z⟩
theorem LotT.mut {H : Hp} {D : Addr} {us ws : List V} {v : V} {st : Strd} (h : LotT H v st) (hD : H D = some (.lst us)) : LotT (upd H D (.lst ws)) v st := by
  obtain ⟨a, e, z⟩ := h
  exact ⟨a, e, by rw [upd_ne fun k => by rw [k, hD] at z; cases z]; exact z⟩
theorem LotT.off {H : Hp} {r C dx : Addr} {fs : List (Str × V)} {o : HO} {v : V} {st : Strd} (h : LotT H v st) (hr : H r = some (.ins C dx fs)) : LotT (upd H r o) v st := by
  obtain ⟨a, e, z⟩ := h
  exact ⟨a, e, by rw [upd_ne fun k => by rw [k, hr] at z; cases z]; exact z⟩
theorem LotT.ext {H H' : Hp} {v : V} {st : Strd} (h : LotT H v st) (s : ExtN H H') : LotT H' v st := let ⟨a, e, z⟩ := h; ⟨a, e, s _ _ z (fun _ q => nomatch q)⟩
theorem SPat.ext {H H' : Hp} {v : V} {q : Int × Int} (h : SPat H v q) (s : ExtN H H') : SPat H' v q := let ⟨a, e, z⟩ := h; ⟨a, e, s _ _ z (fun _ q => nomatch q)⟩
theorem SSat.ext {H H' : Hp} {v : V} {q : Strd} (h : SSat H v q) (s : ExtN H H') : SSat H' v q := let ⟨a, xs, e, z, p⟩ := h; ⟨a, xs, e, s _ _ z (fun _ q => nomatch q), par_imp (fun _ _ k => k.ext s) p⟩
theorem SWat.ext {H H' : Hp} {v : V} {q : List Strd} (h : SWat H v q) (s : ExtN H H') : SWat H' v q := let ⟨a, xs, e, z, p⟩ := h; ⟨a, xs, e, s _ _ z (fun _ q => nomatch q), par_imp (fun _ _ k => k.ext s) p⟩
theorem LineF.ext {C : Addr} {H H' : Hp} {r : Addr} {w : List Strd} (h : LineF C H r w) (s : ExtN H H') : LineF C H' r w := by
  obtain ⟨dx, t, l, xs, n, h1, h2, h3, h4, h5⟩ := h
  exact ⟨dx, t, l, xs, n, s _ _ h1 (fun _ q => nomatch q), h2, h3.ext s, s _ _ h4 (fun _ q => nomatch q), par_imp (fun _ _ k => k.ext s) h5⟩
theorem LineF.same {C : Addr} {H H' : Hp} {r : Addr} {w : List Strd} (h : LineF C H r w) (s : Same H H') : LineF C H' r w := h.ext (ExtN.of s)
def dueW (way : List Strd) : List Strd := srtW (way.map asS)
theorem lst_fv {H : Hp} {v : V} {st : Strd} (h : LSt H v st) (l8 : st.length ≤ 8) : FV H true 2 v (strdD st) := by
  obtain ⟨a, xs, rfl, ha, px⟩ := h
  have xl := par_len px
  refine .inr ⟨a, xs, st.map pairD, rfl, .inr ⟨rfl, ha⟩, rfl, by omega, ?_⟩
  clear ha xl l8
  induction px with
  | nil => exact .nil
  | cons h _ ih =>
    obtain ⟨b, rfl, hb⟩ := h
    exact .cons (FV.tup hb (by show 2 ≤ 1000; decide) (.cons (FV.int _) (.cons (FV.int _) .nil))) ih
theorem fv_pairs {H : Hp} : ∀ {xs : List V} {st : Strd}, Paired (FV H false 1) xs (st.map pairD) → Paired (SPat H) xs st
  | _, [], .nil => .nil
  | _, q :: st, .cons h t => by
    refine .cons ?_ (fv_pairs t)
    rcases h with (⟨_, _, z⟩ | ⟨_, z⟩ | ⟨_, _, z⟩) | ⟨a, ys, es, rfl, ha, e, l, p⟩
    · cases z
    · cases z
    · cases z
    · cases e
      rcases ha with ha | ⟨z, _⟩
      · cases p with
        | cons a1 p => cases p with
          | cons a2 p =>
            cases p
            rcases a1 with ⟨i, rfl, e1⟩ | ⟨_, e1⟩ | ⟨_, _, e1⟩
            · cases e1
              rcases a2 with ⟨j, rfl, e2⟩ | ⟨_, e2⟩ | ⟨_, _, e2⟩
              · cases e2
                exact ⟨a, rfl, ha⟩
              · cases e2
              · cases e2
            · cases e1
            · cases e1
      · cases z
theorem fv_ss {H : Hp} {v : V} {st : Strd} (h : FV H false 2 v (strdD st)) : SSat H v st := by
  rcases h with (⟨_, _, z⟩ | ⟨_, z⟩ | ⟨_, _, z⟩) | ⟨a, ys, es, rfl, ha, e, l, p⟩
  · cases z
  · cases z
  · cases z
  · cases e
    rcases ha with ha | ⟨z, _⟩
    · exact ⟨a, ys, rfl, ha, fv_pairs p⟩
    · cases z
theorem SPat.off {H : Hp} {r C dx : Addr} {fs : List (Str × V)} {o : HO} {v : V} {q : Int × Int} (h : SPat H v q) (hr : H r = some (.ins C dx fs)) : SPat (upd H r o) v q := by
  obtain ⟨a, e, z⟩ := h
  exact ⟨a, e, by rw [upd_ne fun k => by rw [k, hr] at z; cases z]; exact z⟩
theorem SSat.off {H : Hp} {r C dx : Addr} {fs : List (Str × V)} {o : HO} {v : V} {q : Strd} (h : SSat H v q) (hr : H r = some (.ins C dx fs)) : SSat (upd H r o) v q := by
  obtain ⟨a, xs, e, z, p⟩ := h
  exact ⟨a, xs, e, by rw [upd_ne fun k => by rw [k, hr] at z; cases z]; exact z, par_imp (fun _ _ k => k.off hr) p⟩
end K
namespace K
open PySem L2 Rg LamX
open Evl (pss_cut)
section
variable {P : Program} {w : World} {K : PySem.W.Frag} {mg : Str → Option Value} {base : Heap}
def spLU (C : Addr) : Sp := fun vs H Q _ => ∃ (r dx : Addr) (v : V) (way : List Strd) (n : Nat), vs = [.ref r, v] ∧ H r = some (.ins C dx []) ∧ LWy H v way ∧ goodV n way ∧ 3 ≤ n ∧ n ≤ 8 ∧
  ∀ H', LineF C H' r (dueW way) → (∀ b o, H b = some o → b ≠ r → H' b = some o) → Q .non H'
abbrev nLU : List Str := ["self", "strands", "strand", "bar", "sign", "lot"]
theorem scLU : FnScope nLU ["self", "strands"] (defScope sLineUpInit) := ⟨rfl, rfl, rfl, by decide +kernel, rfl, by decide +kernel, by decide +kernel⟩
def scLUo : Scope := { kind := .function, names := [(Str.ofString ".0", .local), (Str.ofString "strand", .local), (Str.ofString "tuple", .globalImplicit)], isGenerator := false, isCoroutine := false }
theorem ok_lu {C f fA fS fX : Addr} {fd fdA fdS fdX : FuncData} (F : Fun K "__init__" "LineUp.__init__" sLineUpInit f fd) (T : Bi mg) (R : LineC K mg C) (ARE : DefAt P w K mg base CX0 4 "are_strands" ["value"] (spAre K) fA fdA) (AS : DefAt P w K mg base CX0 1 "as_strand" ["pairs"] spAsS fS fdS) (FX : DefAt P w K mg base CX0 3 "fixed" ["value"] (spFz 2) fX fdX) : FnOk P w K mg base CX0 5 f fd ["self", "strands"] (spLU C) := by
  refine F.ok scLU (fun vs H Q E h => ?_) (fun cdv A outer s H vs Q E hr h => ?_)
  · obtain ⟨r, dx, v, way, n, rfl, _⟩ := h
    rfl
  · have nd := scLU.nd
    refine ⟨_, pss_cons (ps_if (pt_not (pt_val (pe_call ARE.ok hr rfl ARE.g ARE.kp ARE.b .nil pass0 (pa_cons (pv 1) pa_nil)))) (pss_one ps_never) pss_nil)
      (pss_cons (ps_fld (pv 0) (pe_callTy call_tuple_of (by rfl) T.tuple (by decide +kernel) (pa_cons (pe_callB (cr_sortW hr.units) (by rfl) T.sorted (by decide +kernel) (pa_cons (pe_lc (own := [("strand", 2)]) (g := gName 2) (tt := tYes) (te := tCall spAsS [] E0 (tCons (tCall (spFz 2) [] E0 (tCons (tVar 2) tNil)) tNil)) rfl nd (pi_list (pv 1))
          (blkOk_by (N := nLU) (sc := defScope sLineUpInit) (by decide +kernel)) (fun _ _ _ _ _ => pg_name (i := 2) nd rfl (Or.inl rfl)) (fun _ _ _ _ _ => pts_nil) (fun _ _ _ _ _ => pe_call AS.ok (hr.mono (by decide)) rfl AS.g AS.kp AS.b .nil pass0 (pa_cons (pe_call FX.ok (hr.mono (by decide)) rfl FX.g FX.kp FX.b .nil pass0 (pa_cons (pv 2) pa_nil)) pa_nil))) pa_nil)) pa_nil)) rfl)
      (pss_cons (ps_fld (pv 0) (pe_callTy call_tuple_of (by rfl) T.tuple (by decide +kernel) (pa_cons (pe_lc (own := [("strand", 2)]) (g := gName 2) (tt := tYes) (te := tCB (rTupOf K) (tCons (tLc (iTup K (tVar 2)) (gTup K 2 (gCons (gName 3) (gCons (gName 4) gNil))) tYes (tVar 3) [3, 4]) tNil)) rfl nd (pi_tup (pe_fld (pv 0) rfl))
          (blkOk_by (N := nLU) (sc := defScope sLineUpInit) (by decide +kernel)) (fun _ _ _ _ _ => pg_name (i := 2) nd rfl (Or.inl rfl)) (fun _ _ _ _ _ => pts_nil)
          (fun _ _ _ _ _ => pe_callTy (r := rTupOf K) call_tuple_of (by rfl) T.tuple (by decide +kernel) (pa_cons (pe_lc (own := [("bar", 3), ("sign", 4)]) (g := gTup K 2 (gCons (gName 3) (gCons (gName 4) gNil))) (tt := tYes) (te := tVar 3) rfl nd (pi_tup (pv 2))
            (blkOk_by (N := nLU) (sc := relS scLUo (defScope sLineUpInit)) (by decide +kernel)) (fun _ _ _ _ _ => pg_tup rfl (pgs_cons (pg_name (i := 3) nd rfl (Or.inl rfl)) (pgs_cons (pg_name (i := 4) nd rfl (Or.inl rfl)) pgs_nil))) (fun _ _ _ _ _ => pts_nil) (fun _ _ _ _ _ => pv 3)) pa_nil))) pa_nil)) rfl)
      (pss_one (ps_fld (pv 0) (pe_callB (cr_sum rfl) (by rfl) T.sum (by decide +kernel) (pa_cons (pe_lc (own := [("lot", 5)]) (g := gName 5) (tt := tYes) (te := tCB (rLenS K) (tCons (tVar 5) tNil)) rfl nd (pi_tup (pe_fld (pv 0) rfl))
          (blkOk_by (N := nLU) (sc := defScope sLineUpInit) (by decide +kernel)) (fun _ _ _ _ _ => pg_name (i := 5) nd rfl (Or.inl rfl)) (fun _ _ _ _ _ => pts_nil) (fun _ _ _ _ _ => pe_callB (r := rLenS K) call_len_seq (by rfl) T.len PySem.boot_len (pa_cons (pv 5) pa_nil))) pa_nil)) rfl)))), ?_⟩
    obtain ⟨r, dx, v, way, n, rfl, hr0, sw, gw, n3, n8, k⟩ := h
    refine ⟨_, rfl, v, way, n, rfl, sw, gw, n3, n8, fun H1 s1 => ⟨_, rfl, iteF ?_⟩⟩
    obtain ⟨a, xs, rfl, ha, px⟩ := sw
    have ha1 := s1 _ _ ha
    have xl : xs.length = way.length := par_len px
    have w8 := gw.ln
    -- the strands
    refine ⟨_, rfl, a, rfl, ⟨_, SqL.of ha1⟩, fun D hD => ?_⟩
    refine lc_list (K := K) (a := a) (xs := xs) (fun j H' => Same H1 H' ∧ ∃ us, H' D = some (.lst us) ∧ Paired (SSat H') us ((way.map asS).take j)) ⟨(Same.refl H1).new hD, [], upd_same, .nil⟩ (fun j H' _ q => SqL.of (q.1 _ _ ha1)) ?_ ?_
    · rintro j y H' hj ⟨s2, us, h2, pu⟩
      obtain ⟨st, hst, rs⟩ := par_get px hj
      have ks := gw.st st (List.mem_of_getElem? hst)
      have jl : j < xs.length := (List.getElem?_eq_some_iff.mp hj).1
      have hst' : (way.map asS)[j]? = some (asS st) := by rw [List.getElem?_map, hst]; rfl
      refine ⟨rfl, _, rfl, y, _, rfl, lst_fv (rs.same (s1.trans s2)) ks.2.1, fun v1 H3 s3 r3 => ⟨v1, st, rfl, fv_ss r3, ks, fun v2 H4 s4 r4 => ?_⟩⟩
      have s34 := s3.trans s4
      refine ⟨us, s34 _ _ h2, ?_, (s2.trans s34).mut hD, _, upd_same, ?_⟩
      · rw [par_len pu, List.length_take]
        exact sm (by omega)
      · rw [← take_snoc hst']
        exact par_app (par_imp (fun _ _ z => (z.same s34).mut (s34 _ _ h2)) pu) (.cons (r4.mut (s34 _ _ h2)) .nil)
    rintro H2 ⟨s2, us, h2, pu⟩
    rw [show xs.length = (way.map asS).length by rw [List.length_map, xl], List.take_length] at pu
    have gA : ∀ st ∈ way.map asS, goodS st := fun st m => by
      obtain ⟨q, hq, rfl⟩ := List.mem_map.mp m
      exact asS_good (gw.st q hq)
    have gD : ∀ st ∈ dueW way, goodS st := fun st m => gA st ((srtW_perm _).mem_iff.mp m)
    have wl0 : (dueW way).length = way.length := by
      unfold dueW
      rw [(srtW_perm _).length_eq, List.length_map]
    refine ⟨D, us, way.map asS, rfl, SqL.of h2, pu, fun st m => (gA st m).1, fun p ys pm np py => ?_⟩
    have py : Paired (SSat H2) ys (dueW way) := py
    have s3 : Same H2 (upd H2 p (.lst ys)) := (Same.refl H2).new np
    have hp : upd H2 p (.lst ys) p = some (.lst ys) := upd_same
    generalize upd H2 p (.lst ys) = H3 at s3 hp ⊢
    refine ⟨p, _, rfl, .inl ⟨SqL.of hp, fun t nt => ?_⟩⟩
    have s4 : Same H3 (upd H3 t (.tup ys)) := (Same.refl H3).new nt
    have ht : upd H3 t (.tup ys) t = some (.tup ys) := upd_same
    generalize upd H3 t (.tup ys) = H4 at s4 ht ⊢
    have s14 := (s2.trans s3).trans s4
    have hr4 := s14 _ _ (s1 _ _ hr0)
    have py4 : Paired (SSat H4) ys (dueW way) := par_imp (fun _ _ z => z.same (s3.trans s4)) py
    have nrt : t ≠ r := fun z => by rw [z, hr4] at ht; cases ht
    refine ⟨_, rfl, r, C, dx, [], rfl, hr4, R.cl, R.nS, (by show 0 < 1000; decide), ?_⟩
    have fresh_ne : ∀ {H' : Hp} {b : Addr} {o : HO}, H' b = some o → ∀ {l : Addr}, H' l = none → b ≠ l := fun h _ n z => by rw [z, n] at h; cases h
    have off1 : ∀ b o, H b = some o → b ≠ r → upd H4 r (.ins C dx (putF ("strands" : Str) (.ref t) [])) b = some o := fun b o hb nb => by rw [upd_ne nb]; exact s14 _ _ (s1 _ _ hb)
    have hr5 : upd H4 r (.ins C dx (putF ("strands" : Str) (.ref t) [])) r = some (.ins C dx [(("strands" : Str), .ref t)]) := upd_same
    have ht5 : upd H4 r (.ins C dx (putF ("strands" : Str) (.ref t) [])) t = some (.tup ys) := by rw [upd_ne nrt]; exact ht
    have py5 : Paired (SSat (upd H4 r (.ins C dx (putF ("strands" : Str) (.ref t) [])))) ys (dueW way) := par_imp (fun _ _ z => z.off hr4) py4
    generalize upd H4 r (.ins C dx (putF ("strands" : Str) (.ref t) [])) = H5 at off1 hr5 ht5 py5 ⊢
    have yl : ys.length = (dueW way).length := par_len py5
    have wl : (dueW way).length = way.length := wl0
    -- the lots
    refine ⟨_, rfl, r, C, dx, _, _, rfl, hr5, R.cl, R.nS, rfl, t, rfl, ⟨_, .inl (.inl ht5)⟩, fun D2 hD2 => ?_⟩
    refine lc_tup (K := K) (a := t) (xs := ys) (fun j H' => Same H5 H' ∧ ∃ us, H' D2 = some (.lst us) ∧ Paired (LotT H') us ((dueW way).take j)) ⟨(Same.refl H5).new hD2, [], upd_same, .nil⟩ (fun j H' _ q => .inl (.inl (q.1 _ _ ht5))) ?_ ?_
    · rintro j y H' hj ⟨s6, us6, h6, pu6⟩
      obtain ⟨st, hst, rs⟩ := par_get py5 hj
      obtain ⟨b, zs, rfl, hb, pz⟩ := rs.same s6
      have zl : zs.length = st.length := par_len pz
      have st8 : st.length ≤ 8 := (gD st (List.mem_of_getElem? hst)).2.1
      refine ⟨rfl, _, rfl, b, rfl, ⟨_, .inl (.inl hb)⟩, fun D3 hD3 => ?_⟩
      refine lc_tup (K := K) (a := b) (xs := zs) (fun i G => Same H' G ∧ G D3 = some (.lst (((st.take i).map (·.1)).map V.int))) ⟨(Same.refl H').new hD3, upd_same⟩ (fun i G _ q => .inl (.inl (q.1 _ _ hb))) ?_ ?_
      · rintro i z G hi ⟨s7, h7⟩
        have hil : i < zs.length := (List.getElem?_eq_some_iff.mp hi).1
        obtain ⟨q, hq, c, rfl, hc⟩ := par_get pz hi
        refine ⟨c, _, rfl, .inl (.inl (s7 _ _ hc)), rfl, _, _, rfl, _, _, rfl, rfl, rfl, _, rfl, _, h7, ?_, s7.mut hD3, ?_⟩
        · rw [List.length_map, List.length_map, List.length_take]
          exact sm (by omega)
        · rw [upd_same, ← take_snoc hq, List.map_append, List.map_append]
          rfl
      rintro G1 ⟨s7, h7⟩
      rw [zl, List.take_length] at h7
      refine ⟨D3, _, rfl, .inl ⟨SqL.of h7, fun l nl => ?_⟩⟩
      have s8 : Same H' (upd G1 l (.tup ((st.map (·.1)).map V.int))) := s7.new nl
      have hl8 : upd G1 l (.tup ((st.map (·.1)).map V.int)) l = some (.tup ((st.map (·.1)).map V.int)) := upd_same
      generalize upd G1 l (.tup ((st.map (·.1)).map V.int)) = G2 at s8 hl8 ⊢
      refine ⟨us6, s8 _ _ h6, ?_, (s6.trans s8).mut hD2, _, upd_same, ?_⟩
      · rw [par_len pu6, List.length_take]
        exact sm (by omega)
      · have lr : LotT G2 (.ref l) st := ⟨l, rfl, hl8⟩
        rw [← take_snoc hst]
        exact par_app (par_imp (fun _ _ z => (z.same s8).mut (s8 _ _ h6)) pu6) (.cons (lr.mut (s8 _ _ h6)) .nil)
    rintro H6 ⟨s6, us6, h6, pu6⟩
    rw [yl, List.take_length] at pu6
    have u6l : us6.length = (dueW way).length := par_len pu6
    refine ⟨D2, _, rfl, .inl ⟨SqL.of h6, fun t2 nt2 => ?_⟩⟩
    have s7 : Same H5 (upd H6 t2 (.tup us6)) := s6.new nt2
    have ht2 : upd H6 t2 (.tup us6) t2 = some (.tup us6) := upd_same
    have pu7 : Paired (LotT (upd H6 t2 (.tup us6))) us6 (dueW way) := par_imp (fun _ _ z => z.same ((Same.refl H6).new nt2)) pu6
    generalize upd H6 t2 (.tup us6) = H7 at s7 ht2 pu7 ⊢
    have hr7 := s7 _ _ hr5
    have nrt2 : t2 ≠ r := fun z => by rw [z, hr7] at ht2; cases ht2
    refine ⟨_, rfl, r, C, dx, _, rfl, hr7, R.cl, R.nL, (by show 1 < 1000; decide), ?_⟩
    have off2 : ∀ b o, H b = some o → b ≠ r → upd H7 r (.ins C dx (putF ("lots" : Str) (.ref t2) [(("strands" : Str), .ref t)])) b = some o := fun b o hb nb => by rw [upd_ne nb]; exact s7 _ _ (off1 b o hb nb)
    have hr8 : upd H7 r (.ins C dx (putF ("lots" : Str) (.ref t2) [(("strands" : Str), .ref t)])) r = some (.ins C dx [(("strands" : Str), .ref t), (("lots" : Str), .ref t2)]) := upd_same
    have ht8 : upd H7 r (.ins C dx (putF ("lots" : Str) (.ref t2) [(("strands" : Str), .ref t)])) t = some (.tup ys) := by rw [upd_ne nrt]; exact s7 _ _ ht5
    have ht28 : upd H7 r (.ins C dx (putF ("lots" : Str) (.ref t2) [(("strands" : Str), .ref t)])) t2 = some (.tup us6) := by rw [upd_ne nrt2]; exact ht2
    have py8 : Paired (SSat (upd H7 r (.ins C dx (putF ("lots" : Str) (.ref t2) [(("strands" : Str), .ref t)])))) ys (dueW way) := par_imp (fun _ _ z => (z.same s7).off hr7) py5
    have pu8 : Paired (LotT (upd H7 r (.ins C dx (putF ("lots" : Str) (.ref t2) [(("strands" : Str), .ref t)])))) us6 (dueW way) := par_imp (fun _ _ z => z.off hr7) pu7
    generalize upd H7 r (.ins C dx (putF ("lots" : Str) (.ref t2) [(("strands" : Str), .ref t)])) = H8 at off2 hr8 ht8 ht28 py8 pu8 ⊢
    -- how many
    refine ⟨_, rfl, r, C, dx, _, _, rfl, hr8, R.cl, R.nL, rfl, t2, rfl, ⟨_, .inl (.inl ht28)⟩, fun D4 hD4 => ?_⟩
    refine lc_tup (K := K) (a := t2) (xs := us6) (fun j H' => Same H8 H' ∧ H' D4 = some (.lst ((((dueW way).take j).map fun st => (st.length : Int)).map V.int))) ⟨(Same.refl H8).new hD4, upd_same⟩ (fun j H' _ q => .inl (.inl (q.1 _ _ ht28))) ?_ ?_
    · rintro j y H' hj ⟨s9, h9⟩
      obtain ⟨st, hst, b, rfl, hb⟩ := par_get pu8 hj
      refine ⟨rfl, _, rfl, b, _, rfl, .inr (.inl (.inl (s9 _ _ hb))), _, h9, ?_, s9.mut hD4, ?_⟩
      · rw [List.length_map, List.length_map, List.length_take]
        exact sm (by omega)
      · rw [upd_same, ← take_snoc hst, List.map_append, List.map_append, List.length_map, List.length_map]
        rfl
    rintro H9 ⟨s9, h9⟩
    refine ⟨D4, _, rfl, SqL.of h9, ?_⟩
    have hr9 := s9 _ _ hr8
    refine ⟨_, rfl, r, C, dx, _, rfl, hr9, R.cl, R.nM, (by show 2 < 1000; decide), ?_⟩
    rw [u6l, List.take_length]
    refine k _ ⟨dx, t, t2, us6, _, upd_same, rfl, ⟨t, ys, rfl, ?_, par_imp (fun _ _ z => (z.same s9).off hr9) py8⟩, ?_, par_imp (fun _ _ z => (z.same s9).off hr9) pu8⟩ fun b o hb nb => ?_
    · rw [upd_ne nrt]
      exact s9 _ _ ht8
    · rw [upd_ne nrt2]
      exact s9 _ _ ht28
    · rw [upd_ne nb]
      exact s9 _ _ (off2 b o hb nb)
end
end K
namespace K
open PySem L2 Rg LamX
open Evl (pss_cut)
/-- a line-up, of which nothing is known but its strands -/
def LineW (C : Addr) (H : Hp) (r : Addr) (way : List Strd) : Prop := ∃ (dx t : Addr) (fs : List (Str × V)), H r = some (.ins C dx fs) ∧ fs.lookup ("strands" : Str) = some (.ref t) ∧ SWat H (.ref t) way
theorem LineF.w {C : Addr} {H : Hp} {r : Addr} {w : List Strd} (h : LineF C H r w) : LineW C H r w := by
  obtain ⟨dx, t, l, xs, n, h1, _, h3, _, _⟩ := h
  exact ⟨dx, t, _, h1, rfl, h3⟩
theorem first_at {m : Int} : ∀ {ns : List Int}, m ∈ ns → ∃ j, ns[j]? = some m ∧ ∀ (i : Nat) (z : Int), i < j → ns[i]? = some z → z ≠ m
  | [], h => nomatch h
  | a :: r, h => by
    by_cases e : a = m
    · exact ⟨0, by rw [e]; rfl, fun i z hi => absurd hi (Nat.not_lt_zero i)⟩
    · have h' : m ∈ r := by
        rcases List.mem_cons.mp h with x | x
        · exact absurd x.symm e
        · exact x
      obtain ⟨j, hj, q⟩ := first_at h'
      refine ⟨j + 1, hj, fun i z hi hz => ?_⟩
      cases i with
      | zero => cases hz; exact e
      | succ i => exact q i z (by omega) hz
def hadN (ns : List Int) : Bool := ns.all fun m => decide (2 * m ≤ ns.sum)
theorem had_max {ns : List Int} {m : Int} (hm : m ∈ ns) (hx : ∀ y, y ∈ ns → y ≤ m) : hadN ns = decide (2 * m ≤ ns.sum) := by
  unfold hadN
  by_cases h : 2 * m ≤ ns.sum
  · rw [decide_eq_true h]
    refine List.all_eq_true.mpr fun y hy => decide_eq_true ?_
    have := hx y hy
    omega
  · rw [decide_eq_false h]
    refine Bool.eq_false_iff.mpr fun k => h ?_
    exact of_decide_eq_true (List.all_eq_true.mp k m hm)
theorem sum_nn : ∀ {ns : List Int}, (∀ y ∈ ns, 0 ≤ y) → 0 ≤ ns.sum
  | [], _ => by simp
  | x :: ns, nn => by
    have ih := sum_nn (ns := ns) fun y hy => nn y (List.mem_cons_of_mem _ hy)
    have := nn x (List.mem_cons_self ..)
    rw [List.sum_cons]
    omega
theorem sum_ge : ∀ {ns : List Int} (_ : ∀ y ∈ ns, 0 ≤ y) {j : Nat} {b : Int}, ns[j]? = some b → b ≤ ns.sum ∧ 0 ≤ ns.sum
  | x :: ns, nn, 0, b, h => by
    cases h
    rw [List.sum_cons]
    have z : 0 ≤ ns.sum := sum_nn fun y hy => nn y (List.mem_cons_of_mem _ hy)
    have := nn x (List.mem_cons_self ..)
    omega
  | x :: ns, nn, j + 1, b, h => by
    have ih := sum_ge (ns := ns) (fun y hy => nn y (List.mem_cons_of_mem _ hy)) (j := j) (b := b) (by simpa using h)
    have := nn x (List.mem_cons_self ..)
    rw [List.sum_cons]
    omega
theorem sum_two : ∀ {ns : List Int} (_ : ∀ y ∈ ns, 0 ≤ y) {i j : Nat} {a b : Int}, ns[i]? = some a → ns[j]? = some b → i ≠ j → a + b ≤ ns.sum
  | x :: ns, nn, 0, 0, a, b, _, _, ne => absurd rfl ne
  | x :: ns, nn, 0, j + 1, a, b, ha, hb, _ => by
    cases ha
    have := (sum_ge (ns := ns) (fun y hy => nn y (List.mem_cons_of_mem _ hy)) (j := j) (b := b) (by simpa using hb)).1
    rw [List.sum_cons]
    omega
  | x :: ns, nn, i + 1, 0, a, b, ha, hb, _ => by
    cases hb
    have := (sum_ge (ns := ns) (fun y hy => nn y (List.mem_cons_of_mem _ hy)) (j := i) (b := a) (by simpa using ha)).1
    rw [List.sum_cons]
    omega
  | x :: ns, nn, i + 1, j + 1, a, b, ha, hb, ne => by
    have ih := sum_two (ns := ns) (fun y hy => nn y (List.mem_cons_of_mem _ hy)) (i := i) (j := j) (by simpa using ha) (by simpa using hb) (by omega)
    have := nn x (List.mem_cons_self ..)
    rw [List.sum_cons]
    omega
/-- the index of the net that is too great -/
def atN (ns : List Int) : Nat := ns.findIdx fun m => decide (ns.sum < 2 * m)
theorem atN_of {ns : List Int} (nn : ∀ y ∈ ns, 0 ≤ y) {j : Nat} {m : Int} (hj : ns[j]? = some m) (g : ns.sum < 2 * m) : atN ns = j := by
  have hm := List.mem_of_getElem? hj
  have lt : atN ns < ns.length := List.findIdx_lt_length_of_exists ⟨m, hm, decide_eq_true g⟩
  have k : ns.sum < 2 * ns[atN ns] := of_decide_eq_true (List.findIdx_getElem (w := lt))
  by_cases e : atN ns = j
  · exact e
  · have := sum_two nn (List.getElem?_eq_getElem lt) hj e
    omega
theorem get_len {ls : List Int} {b : Int} (h0 : 0 ≤ b) (h1 : b < (ls.length : Int)) : atI (ls.map V.int) b = some (V.int (ls.getD b.toNat 0)) := by
  have hb : b.toNat < ls.length := by omega
  refine at_of (j := b.toNat) (by omega) ?_
  rw [int_get hb, List.getD_eq_getElem?_getD, List.getElem?_eq_getElem hb]
  rfl
def fitW (m : Nat) (way : List Strd) : Prop := way.length ≤ 8 ∧ ∀ st ∈ way, st.length ≤ 8 ∧ ∀ q ∈ st, 0 ≤ q.1 ∧ q.1 < (m : Int) ∧ (q.2 = 1 ∨ q.2 = -1)
theorem LineW.same {C : Addr} {H H' : Hp} {r : Addr} {way : List Strd} (h : LineW C H r way) (s : Same H H') : LineW C H' r way := by
  obtain ⟨dx, t, fs, h1, h2, h3⟩ := h
  exact ⟨dx, t, fs, s _ _ h1, h2, h3.same s⟩
section
variable {P : Program} {w : World} {K : PySem.W.Frag} {mg : Str → Option Value} {base : Heap}
def spNets (K : PySem.W.Frag) (CR CL : Addr) : Sp := fun vs H Q _ => ∃ (r l : Addr) (ls : List Int) (way : List Strd), vs = [.ref r, .ref l] ∧ RingAt K CR H r ls ∧ LineW CL H l way ∧ fitW ls.length way ∧
  ∀ p H', Same H H' → H p = none → H' p = some (.lst ((way.map fun st => absI (net ls st)).map V.int)) → Q (.ref p) H'
abbrev nNets : List Str := ["ring", "lineup", "strands", "strand", "bar", "sign"]
theorem scNets : FnScope nNets ["ring", "lineup"] (defScope sNetsOf) := ⟨rfl, rfl, rfl, by decide +kernel, rfl, by decide +kernel, by decide +kernel⟩
def rAb : List V → Hp → VK → Prop := fun xs H Q => ∃ i, xs = [.int i] ∧ Q (.int (if i < 0 then -i else i)) H
def scNo : Scope := { kind := .function, names := [(Str.ofString ".0", .local), (Str.ofString "strand", .local), (Str.ofString "abs", .globalImplicit), (Str.ofString "sum", .globalImplicit), (Str.ofString "ring", .free)], isGenerator := false, isCoroutine := false }
abbrev teN (K : PySem.W.Frag) : TE := tCB rAb (tCons (tCB (rSum K) (tCons (tLc (iTup K (tVar 3)) (gTup K 2 (gCons (gName 4) (gCons (gName 5) gNil))) tYes (tOp (rI CMul fun i j => .int (i * j)) (tOp (rIxT K) (tFld K (tVar 0) "lengths") (tVar 4)) (tVar 5)) [4, 5]) tNil)) tNil)
theorem ok_nets {CR CL f : Addr} {fd : FuncData} (F : Fun K "nets_of" "nets_of" sNetsOf f fd) (T : Bi mg) (RR : RingC K mg CR) (RL : LineC K mg CL) : FnOk P w K mg base CX0 1 f fd ["ring", "lineup"] (spNets K CR CL) := by
  refine F.ok scNets (fun vs H Q E h => ?_) (fun cdv A outer s H vs Q E hr h => ?_)
  · obtain ⟨r, l, ls, way, rfl, _⟩ := h
    rfl
  · have nd := scNets.nd
    refine ⟨_, pss_cons (ps_set (i := 2) nd rfl (Or.inl rfl) (pe_fld (pv 1) rfl))
      (pss_one (ps_ret (pe_lc (own := [("strand", 3)]) (g := gName 3) (tt := tYes) (te := teN K) rfl nd (pi_tup (pv 2))
        (blkOk_by (N := nNets) (sc := defScope sNetsOf) (by decide +kernel)) (fun _ _ _ _ _ => pg_name (i := 3) nd rfl (Or.inl rfl)) (fun _ _ _ _ _ => pts_nil)
        (fun _ _ _ _ _ => pe_callB (r := rAb) call_abs (by rfl) T.abs (by decide +kernel) (pa_cons (pe_callB (cr_sum rfl) (by rfl) T.sum (by decide +kernel) (pa_cons (pe_lc (own := [("bar", 4), ("sign", 5)]) (g := gTup K 2 (gCons (gName 4) (gCons (gName 5) gNil))) (tt := tYes) (te := tOp (rI CMul fun i j => .int (i * j)) (tOp (rIxT K) (tFld K (tVar 0) "lengths") (tVar 4)) (tVar 5)) rfl nd (pi_tup (pv 3))
          (blkOk_by (N := nNets) (sc := relS scNo (defScope sNetsOf)) (by decide +kernel)) (fun _ _ _ _ _ => pg_tup rfl (pgs_cons (pg_name (i := 4) nd rfl (Or.inl rfl)) (pgs_cons (pg_name (i := 5) nd rfl (Or.inl rfl)) pgs_nil))) (fun _ _ _ _ _ => pts_nil)
          (fun _ _ _ _ _ => pe_op op_mul (pe_ix (r := rIxT K) ix_tup (pe_fld (pv 0) rfl) (pv 4) (fun _ _ => rfl)) (pv 5))) pa_nil)) pa_nil))))), ?_⟩
    obtain ⟨r, l, ls, way, rfl, ⟨dx, t, hr0, ht, _⟩, ⟨dl, a, fs, hl0, fl, sw⟩, ⟨w8, fit⟩, k⟩ := h
    obtain ⟨b0, xs, e0, ha, px⟩ := sw
    obtain rfl : a = b0 := V.ref.inj e0
    have xl : xs.length = way.length := par_len px
    refine ⟨_, rfl, l, CL, dl, fs, _, rfl, hl0, RL.cl, RL.nS, fl, ?_⟩
    refine ⟨_, rfl, a, rfl, ⟨_, .inl (.inl ha)⟩, fun D hD => ?_⟩
    refine lc_tup (K := K) (a := a) (xs := xs) (fun j H' => Same H H' ∧ H' D = some (.lst (((way.take j).map fun st => absI (net ls st)).map V.int))) ⟨(Same.refl H).new hD, upd_same⟩ (fun j H' _ q => .inl (.inl (q.1 _ _ ha))) ?_ ?_
    · rintro j y H' hj ⟨s1, h1⟩
      obtain ⟨st, hst, rs⟩ := par_get px hj
      have hm := fit st (List.mem_of_getElem? hst)
      obtain ⟨b, zs, rfl, hb, pz⟩ := rs.same s1
      have zl : zs.length = st.length := par_len pz
      refine ⟨rfl, _, rfl, b, rfl, ⟨_, .inl (.inl hb)⟩, fun D3 hD3 => ?_⟩
      refine lc_tup (K := K) (a := b) (xs := zs) (fun i G => Same H' G ∧ G D3 = some (.lst (((st.take i).map fun q => ls.getD q.1.toNat 0 * q.2).map V.int))) ⟨(Same.refl H').new hD3, upd_same⟩ (fun i G _ q => .inl (.inl (q.1 _ _ hb))) ?_ ?_
      · rintro i z G hi ⟨s7, h7⟩
        have hil : i < zs.length := (List.getElem?_eq_some_iff.mp hi).1
        obtain ⟨q, hq, c, rfl, hc⟩ := par_get pz hi
        have hqb := hm.2 q (List.mem_of_getElem? hq)
        have s17 := s1.trans s7
        refine ⟨c, _, rfl, .inl (.inl (s7 _ _ hc)), rfl, _, _, rfl, _, _, rfl, rfl, rfl, ?_⟩
        refine ⟨_, rfl, r, CR, dx, _, _, rfl, s17 _ _ hr0, RR.cl, RR.nL, rf_lengths _ _, _, rfl, t, _, q.1, _, rfl, rfl, s17.tup ht, get_len hqb.1 hqb.2.1, _, rfl, _, _, rfl, rfl, .inr ⟨?_, ?_⟩, _, h7, ?_, s7.mut hD3, ?_⟩
        · have z := hqb.2.2
          omega
        · have z := hqb.2.2
          omega
        · rw [List.length_map, List.length_map, List.length_take]
          exact sm (by omega)
        · rw [upd_same, ← take_snoc hq, List.map_append, List.map_append]
          rfl
      rintro G1 ⟨s7, h7⟩
      rw [zl, List.take_length] at h7
      have s8 := s1.trans s7
      refine ⟨D3, _, rfl, SqL.of h7, _, rfl, ?_⟩
      refine ⟨_, s7 _ _ h1, ?_, s8.mut hD, ?_⟩
      · rw [List.length_map, List.length_map, List.length_take]
        exact sm (by omega)
      · rw [upd_same, ← take_snoc hst, List.map_append, List.map_append]
        rfl
    rintro H6 ⟨s6, h6⟩
    rw [xl, List.take_length] at h6
    exact k D H6 s6 hD h6
def spTG (K : PySem.W.Frag) : Sp := fun vs H Q _ => ∃ (a : Addr) (ns : List Int), vs = [.ref a] ∧ H a = some (.lst (ns.map V.int)) ∧ 0 < ns.length ∧ ns.length ≤ 1000 ∧ (∀ y ∈ ns, 0 ≤ y) ∧ (hadN ns = true → Q .non H) ∧ (hadN ns = false → Q (.int (atN ns)) H)
theorem scTG : FnScope ["nets", "most"] ["nets"] (defScope sTooGreat) := ⟨rfl, rfl, rfl, by decide +kernel, rfl, by decide +kernel, by decide +kernel⟩
theorem ok_tg {f : Addr} {fd : FuncData} (F : Fun K "too_great" "too_great" sTooGreat f fd) (T : Bi mg) : FnOk P w K mg base CX0 1 f fd ["nets"] (spTG K) := by
  refine F.ok scTG (fun vs H Q E h => ?_) (fun cdv A outer s H vs Q E hr h => ?_)
  · obtain ⟨a, ns, rfl, _⟩ := h
    rfl
  · have nd := scTG.nd
    refine ⟨_, pss_cons (ps_set (i := 1) nd rfl (Or.inl rfl) (pe_callB (cr_max rfl) (by rfl) T.max (by decide +kernel) (pa_cons (pv 0) pa_nil)))
      (pss_one (ps_ret (pe_ifExp (pt_cmpR op_gt (pe_op op_mul pe_int (pv 1)) (pe_callB (cr_sum rfl) (by rfl) T.sum (by decide +kernel) (pa_cons (pv 0) pa_nil)) (nomark _)) (pe_bm PySem.F.plainAttrs_list PySem.F.slot_list_index PySem.F.type_list_index mt_index (pv 0) (pa_cons (pv 1) pa_nil)) pe_non))), ?_⟩
    obtain ⟨a, ns, rfl, ha, pos, n1, nn, k1, k2⟩ := h
    refine ⟨_, rfl, a, ns, rfl, SqL.of ha, pos, fun m hm hx => ?_⟩
    have e := had_max hm hx
    refine ⟨_, rfl, _, _, rfl, rfl, .inl ⟨by decide, by decide⟩, _, rfl, a, ns, rfl, SqL.of ha, _, _, rfl, rfl, ?_⟩
    refine ⟨_, rfl, ?_⟩
    by_cases q : ns.sum < 2 * m
    · rw [decide_eq_false (by omega)] at e
      obtain ⟨j, hj, no⟩ := first_at hm
      refine Eq.mpr (if_pos (decide_eq_true q)) ?_
      refine ⟨_, rfl, .inl ⟨rfl, _, SqL.of ha⟩, _, rfl, a, ns.map V.int, V.int m, j, V.int m, rfl, rfl, SqL.of ha, rfl, ?_, ?_, ?_, ?_, by have z := k2 e; rw [atN_of nn hj q] at z; exact z⟩
      · refine List.all_eq_true.mpr fun y hy => ?_
        obtain ⟨z, _, rfl⟩ := List.mem_map.mp hy
        rfl
      · rw [List.getElem?_map, hj]
        rfl
      · exact beq_self_eq_true m
      · intro i z hi hz
        obtain ⟨z', hz', rfl⟩ := int_at hz
        exact beq_eq_false_iff_ne.mpr (no i z' hi hz')
    · rw [decide_eq_true (by omega)] at e
      refine Eq.mpr (if_neg (by rw [decide_eq_false q]; exact Bool.false_ne_true)) ?_
      exact k1 e
end
end K
namespace K
open PySem L2 Rg LamX
open Evl (pss_cut)
theorem fv_int {H : Hp} {f : Bool} {n : Nat} {v : V} {b : Int} (h : FV H f n v (.int b)) : v = .int b := by
  have z : Atm v (.int b) := by
    cases n with
    | zero => exact h
    | succ n =>
      rcases h with h | ⟨_, _, _, _, _, e, _⟩
      · exact h
      · cases e
  rcases z with ⟨i, rfl, e⟩ | ⟨_, e⟩ | ⟨_, _, e⟩
  · cases e; rfl
  · cases e
  · cases e
theorem fv_par {H : Hp} {f : Bool} {n : Nat} : ∀ {xs : List V} {l : List Int}, Paired (FV H f n) xs (l.map PyData.int) → xs = l.map V.int
  | [], [], _ => rfl
  | _ :: _, [], h => nomatch h
  | [], _ :: _, h => nomatch h
  | x :: xs, i :: l, .cons h t => by
    rw [fv_int h, fv_par t]
    rfl
theorem fv_lot {H : Hp} {n : Nat} {v : V} {l : List Int} (h : FV H false (n + 1) v (.tuple (l.map PyData.int))) : ∃ t, v = .ref t ∧ H t = some (.tup (l.map V.int)) := by
  rcases h with (⟨_, _, z⟩ | ⟨_, z⟩ | ⟨_, _, z⟩) | ⟨t, xs, es, rfl, ht, e2, l2, p2⟩
  · cases z
  · cases z
  · cases z
  · cases e2
    rcases ht with ht | ⟨z, _⟩
    · exact ⟨t, rfl, by rw [← fv_par p2]; exact ht⟩
    · cases z
/-- the nets of a line-up, in order -/
def netsW (ls : List Int) (w : List Strd) : List Int := w.map fun st => absI (net ls st)
theorem netsW_nn (ls : List Int) (w : List Strd) : ∀ y ∈ netsW ls w, 0 ≤ y := fun y hy => by
  obtain ⟨st, _, rfl⟩ := List.mem_map.mp hy
  rw [absI_nat]
  omega
def manyW (w : List Strd) : Int := (w.map fun st => (st.length : Int)).sum
def lotI (st : Strd) : List Int := st.map (·.1)
section
variable {P : Program} {w : World} {K : PySem.W.Frag} {mg : Str → Option Value} {base : Heap}
theorem madeU {C : Addr} {E : XK} {H : Hp} {v : V} {way : List Strd} {n : Nat} {R : Addr → VK} (sw : LWy H v way) (gw : goodV n way) (n3 : 3 ≤ n) (n8 : n ≤ 8) (h : ∀ x H', LineF C H' x (dueW way) → Same H H' → R x .non H') :
    ∀ x dx, H x = none → H dx = none → dx ≠ x → spLU C (.ref x :: ([v] ++ [])) (upd (upd H dx (.own x)) x (.ins C dx [])) (R x) E := by
  intro x dx hx hdx _
  have s0 : Same H (upd (upd H dx (.own x)) x (.ins C dx [])) := fun b o q => by
    rw [upd_ne (ne_of_none q hx), upd_ne (ne_of_none q hdx)]
    exact q
  exact ⟨x, dx, v, way, n, rfl, upd_same, sw.same s0, gw, n3, n8, fun H' l kp => h x H' l fun b o e => kp b o (s0 b o e) (ne_of_none e hx)⟩
theorem madeN {C : Addr} {E : XK} {H : Hp} {v : V} {d : PyData} {R : Addr → VK} (fv : FV H true 1 v d) (h : ∀ x w1 H', Same H H' → FV H' false 1 w1 d → PapG C "nets" (fsNI w1) H' x → R x .non H') :
    ∀ x dx, H x = none → H dx = none → dx ≠ x → spNI K C 1 (.ref x :: ([v] ++ [])) (upd (upd H dx (.own x)) x (.ins C dx [])) (R x) E := by
  intro x dx hx hdx _
  have s0 : Same H (upd (upd H dx (.own x)) x (.ins C dx [])) := fun b o q => by
    rw [upd_ne (ne_of_none q hx), upd_ne (ne_of_none q hdx)]
    exact q
  exact ⟨x, dx, v, d, rfl, upd_same, fv.same s0, fun w1 H' kp f1 pg => h x w1 H' (fun b o e => kp b o (ne_of_none e hx) (s0 b o e)) f1 pg⟩
theorem madeG {C : Addr} {E : XK} {H : Hp} {v1 v2 v3 : V} {d1 d2 d3 : PyData} {R : Addr → VK} (fv1 : FV H true 1 v1 d1) (fv2 : FV H true 1 v2 d2) (fv3 : FV H true 1 v3 d3) (h : ∀ x w1 w2 w3 H', Same H H' → FV H' false 1 w1 d1 → FV H' false 1 w2 d2 → FV H' false 1 w3 d3 → PapG C "toogreat" (fsGI w1 w2 w3) H' x → R x .non H') :
    ∀ x dx, H x = none → H dx = none → dx ≠ x → spGI K C 1 (.ref x :: ([v1, v2, v3] ++ [])) (upd (upd H dx (.own x)) x (.ins C dx [])) (R x) E := by
  intro x dx hx hdx _
  have s0 : Same H (upd (upd H dx (.own x)) x (.ins C dx [])) := fun b o q => by
    rw [upd_ne (ne_of_none q hx), upd_ne (ne_of_none q hdx)]
    exact q
  exact ⟨x, dx, v1, v2, v3, d1, d2, d3, rfl, upd_same, fv1.same s0, fv2.same s0, fv3.same s0, fun w1 w2 w3 H' kp f1 f2 f3 pg => h x w1 w2 w3 H' (fun b o e => kp b o (ne_of_none e hx) (s0 b o e)) f1 f2 f3 pg⟩
structure LineP (P : Program) (w : World) (K : PySem.W.Frag) (mg : Str → Option Value) (base : Heap) (C fI : Addr) (fdI : FuncData) : Prop where
  made : Mk K C fI
  ok : FnOk P w K mg base CX0 5 fI fdI ["self", "strands"] (spLU C)
  b : Binds K fdI ["self", "strands"] []
structure NetsP (P : Program) (w : World) (K : PySem.W.Frag) (mg : Str → Option Value) (base : Heap) (C fI : Addr) (fdI : FuncData) : Prop where
  made : Mk K C fI
  ok : FnOk P w K mg base CX0 5 fI fdI ["self", "nets"] (spNI K C 1)
  b : Binds K fdI ["self", "nets"] []
structure TooGreatP (P : Program) (w : World) (K : PySem.W.Frag) (mg : Str → Option Value) (base : Heap) (C fI : Addr) (fdI : FuncData) : Prop where
  made : Mk K C fI
  ok : FnOk P w K mg base CX0 5 fI fdI ["self", "lot", "net", "others"] (spGI K C 1)
  b : Binds K fdI ["self", "lot", "net", "others"] []
/-! ### want_as_many -/
def spAsM (cM : Addr) : Sp := fun vs H Q E => ∃ a b : Int, vs = [.int a, .int b] ∧ ((a = b ∧ Q .non H) ∨ (a ≠ b ∧ Errs E cM "part" (.str "bars") H))
theorem scAsM : FnScope ["one", "other"] ["one", "other"] (defScope sWantAsMany) := ⟨rfl, rfl, rfl, by decide +kernel, rfl, by decide +kernel, by decide +kernel⟩
theorem ok_asM {f cM fI : Addr} {fd fdI : FuncData} (F : Fun K "want_as_many" "want_as_many" sWantAsMany f fd) (B : ErrAt P w K mg base "Misfit" "part" cM fI fdI) : FnOk P w K mg base (L2.CX P w) 3 f fd ["one", "other"] (spAsM cM) := by
  refine F.okX scAsM (fun vs H Q E h => ?_) (fun cdv A outer s H vs Q E hr h => ?_)
  · obtain ⟨a, b, rfl, _⟩ := h
    rfl
  · refine ⟨_, pss_one (ps_if (pt_cmpR op_ne (pv 0) (pv 1) (nomark _))
      (pss_one (ps_raise rfl (takes_of rfl rfl rfl rfl) (pmk_oex B.oex B.ic B.ti B.ok hr B.b .nil pass0 rfl B.g (pa_cons pe_str pa_nil)))) pss_nil), ?_⟩
    obtain ⟨a, b, rfl, h⟩ := h
    refine ⟨_, rfl, _, rfl, rfl, _, rfl, ?_⟩
    rcases h with ⟨e, q⟩ | ⟨e, q⟩
    · rw [e, decide_eq_true rfl]; exact iteF q
    · rw [decide_eq_false fun z => e (V.int.inj z)]
      exact iteT (err_made B.oex B.nf q)
/-! ### want_lineup -/
def spWantU (K : PySem.W.Frag) (C cL : Addr) : Sp := fun vs H Q E => ∃ (v : V) (part : Str), vs = [v, .str part] ∧ ((∃ r W, v = .ref r ∧ LineF C H r W ∧ Q .non H) ∨ (NoR K C H v ∧ Errs E cL "part" (.str part) H))
theorem scWantU : FnScope ["value", "part"] ["value", "part"] (defScope sWantLineup) := ⟨rfl, rfl, rfl, by decide +kernel, rfl, by decide +kernel, by decide +kernel⟩
theorem ok_wantU {C cL f fI : Addr} {fd fdI : FuncData} (F : Fun K "want_lineup" "want_lineup" sWantLineup f fd) (T : Bi mg) (G : mg "LineUp" = some (.ref C)) (EI : C8.InsC K C) (B : ErrAt P w K mg base "BadLineUp" "part" cL fI fdI) : FnOk P w K mg base (L2.CX P w) 3 f fd ["value", "part"] (spWantU K C cL) := by
  refine F.okX scWantU (fun vs H Q E h => ?_) (fun cdv A outer s H vs Q E hr h => ?_)
  · obtain ⟨v, part, rfl, _⟩ := h
    rfl
  · refine ⟨_, pss_one (ps_if (pt_not (pt_val (pe_callB call_isi (by rfl) T.isinstance (by decide +kernel) (pa_cons (pv 0) (pa_cons (pe_glob (v := .ref C) rfl G rfl) pa_nil)))))
      (pss_one (ps_raise rfl (takes_of rfl rfl rfl rfl) (pmk_oex B.oex B.ic B.ti B.ok hr B.b .nil pass0 rfl B.g (pa_cons (pv 1) pa_nil)))) pss_nil), ?_⟩
    obtain ⟨v, part, rfl, h⟩ := h
    rcases h with ⟨r, W, rfl, ⟨dx, t, l, xs, n, hr0, _⟩, q⟩ | ⟨⟨k, ty, kit⟩, er⟩
    · refine ⟨_, rfl, .ref r, .ref C, _, _, _, rfl, .own C, .base (.ins hr0 EI.cl EI.ha EI.hn EI.htk EI.hm), kit_self, ?_⟩
      exact ⟨_, rfl, iteF q⟩
    · refine ⟨_, rfl, v, .ref C, _, _, _, rfl, .own C, ty, kit, ?_⟩
      exact ⟨_, rfl, iteT ⟨_, rfl, err_made B.oex B.nf er⟩⟩
/-! ### want_lined -/
/-- what is asked of a ring and a line-up, and what comes else -/
def AskU (K : PySem.W.Frag) (CR CL cR cL cM : Addr) (H : Hp) (E : XK) (v u : V) (q : Addr → Addr → List Int → List Strd → Prop) : Prop :=
  (NoR K CR H v ∧ Errs E cR "part" (.str "ring") H) ∨ ∃ (r : Addr) (ls : List Int), v = .ref r ∧ RingAt K CR H r ls ∧ 3 ≤ ls.length ∧ ls.length ≤ 8 ∧
    ((NoR K CL H u ∧ Errs E cL "part" (.str "lineup") H) ∨ ∃ (l : Addr) (W : List Strd), u = .ref l ∧ LineF CL H l W ∧
      ((manyW W ≠ ls.length ∧ Errs E cM "part" (.str "bars") H) ∨ (manyW W = ls.length ∧ q r l ls W)))
def spWLd (K : PySem.W.Frag) (CR CL cR cL cM : Addr) : Sp := fun vs H Q E => ∃ v u : V, vs = [v, u] ∧ AskU K CR CL cR cL cM H E v u fun _ _ _ _ => Q .non H
theorem scWLd : FnScope ["ring", "lineup"] ["ring", "lineup"] (defScope sWantLined) := ⟨rfl, rfl, rfl, by decide +kernel, rfl, by decide +kernel, by decide +kernel⟩
theorem ok_wld {CR CL cR cL cM f fR fL fM fN : Addr} {fd fdR fdL fdM fdN : FuncData} (F : Fun K "want_lined" "want_lined" sWantLined f fd) (T : Bi mg) (RL : LineC K mg CL)
    (NM : Meth K CR "__len__" fN) (NL : FnOk P w K mg base CX0 1 fN fdN ["self"] (spRLen K CR)) (NB : Binds K fdN ["self"] [])
    (WR : DefAt P w K mg base (L2.CX P w) 3 "want_ring" ["value", "part"] (spWantR K CR cR) fR fdR) (WU : DefAt P w K mg base (L2.CX P w) 3 "want_lineup" ["value", "part"] (spWantU K CL cL) fL fdL) (WM : DefAt P w K mg base (L2.CX P w) 3 "want_as_many" ["one", "other"] (spAsM cM) fM fdM) :
    FnOk P w K mg base (L2.CX P w) 4 f fd ["ring", "lineup"] (spWLd K CR CL cR cL cM) := by
  refine F.okX scWLd (fun vs H Q E h => ?_) (fun cdv A outer s H vs Q E hr h => ?_)
  · obtain ⟨v, u, rfl, _⟩ := h
    rfl
  · refine ⟨_, pss_cons (ps_expr (pe_call WR.ok (hr.mono (by decide)) rfl WR.g WR.kp WR.b .nil (passes_call (takes_of rfl rfl rfl rfl) (fun _ _ _ _ h => h)) (pa_cons (pv 0) (pa_cons pe_str pa_nil))))
      (pss_cons (ps_expr (pe_call WU.ok (hr.mono (by decide)) rfl WU.g WU.kp WU.b .nil (passes_call (takes_of rfl rfl rfl rfl) (fun _ _ _ _ h => h)) (pa_cons (pv 1) (pa_cons pe_str pa_nil))))
      (pss_one (ps_expr (pe_call WM.ok (hr.mono (by decide)) rfl WM.g WM.kp WM.b .nil (passes_call (takes_of rfl rfl rfl rfl) (fun _ _ _ _ h => h)) (pa_cons (pe_callB (call_lenO NL (hr.mono (by decide)) NB) (by rfl) T.len PySem.boot_len (pa_cons (pv 0) pa_nil)) (pa_cons (pe_fld (pv 1) rfl) pa_nil)))))), ?_⟩
    obtain ⟨v, u, rfl, ⟨no, er⟩ | ⟨r, ls, rfl, ra, l3, l8, h⟩⟩ := h
    · exact ⟨_, rfl, v, "ring", rfl, .inr ⟨no, er⟩⟩
    refine ⟨_, rfl, _, "ring", rfl, .inl ⟨r, ls, rfl, ra.weak, ?_⟩⟩
    rcases h with ⟨no, er⟩ | ⟨l, W, rfl, lf, h⟩
    · exact ⟨_, rfl, u, "lineup", rfl, .inr ⟨no, er⟩⟩
    refine ⟨_, rfl, _, "lineup", rfl, .inl ⟨l, W, rfl, lf, ?_⟩⟩
    obtain ⟨dx, t, hr0, ht⟩ := id ra.weak
    obtain ⟨dl, t2, l2, xs, n, hl0, en, _⟩ := id lf
    refine ⟨_, rfl, r, CR, dx, _, rfl, hr0, NM.at_, NM.fn, r, ls, rfl, ra.weak, _, rfl, by omega, by omega, _, rfl, l, CL, dl, _, _, rfl, hl0, RL.cl, RL.nM, rfl, _, _, rfl, ?_⟩
    have en' : n = manyW W := en
    rcases h with ⟨ne, er⟩ | ⟨e, q⟩
    · exact .inr ⟨by omega, er⟩
    · exact .inl ⟨by omega, q⟩
end
end K
namespace K
open PySem L2 Rg LamX
open Evl (pss_cut)
theorem atN_lt {ns : List Int} (h : hadN ns = false) : ∃ e : atN ns < ns.length, ns.sum < 2 * ns[atN ns] := by
  unfold hadN at h
  obtain ⟨m, hm, g⟩ := List.all_eq_false.mp h
  have g : ns.sum < 2 * m := by
    have := of_decide_eq_false (Bool.eq_false_iff.mpr g)
    omega
  have lt : atN ns < ns.length := List.findIdx_lt_length_of_exists ⟨m, hm, decide_eq_true g⟩
  exact ⟨lt, of_decide_eq_true (List.findIdx_getElem (w := lt))⟩
theorem getD_at {α : Type} {l : List α} {i : Nat} {d : α} (h : i < l.length) : l[i]? = some (l.getD i d) := by
  rw [List.getD_eq_getElem?_getD, List.getElem?_eq_getElem h]
  rfl
/-- the papers on a line-up -/
def NetsR (C : Addr) (H : Hp) (p : Addr) (ns : List Int) : Prop := ∃ v, PapG C "nets" (fsNI v) H p ∧ FV H false 1 v (.tuple (ns.map PyData.int))
def GreatR (C : Addr) (H : Hp) (p : Addr) (W : List Strd) (ns : List Int) : Prop := ∃ v, PapG C "toogreat" (fsGI v (.int (ns.getD (atN ns) 0)) (.int (ns.sum - ns.getD (atN ns) 0))) H p ∧ FV H false 1 v (.tuple ((lotI (W.getD (atN ns) [])).map PyData.int))
theorem NetsR.ext {C : Addr} {H H' : Hp} {p : Addr} {ns : List Int} (h : NetsR C H p ns) (s : ExtN H H') : NetsR C H' p ns := let ⟨v, a, b⟩ := h; ⟨v, a.ext s, b.ext s⟩
theorem GreatR.ext {C : Addr} {H H' : Hp} {p : Addr} {W : List Strd} {ns : List Int} (h : GreatR C H p W ns) (s : ExtN H H') : GreatR C H' p W ns := let ⟨v, a, b⟩ := h; ⟨v, a.ext s, b.ext s⟩
theorem lot_at {H : Hp} : ∀ {xs : List V} {w : List Strd} {i : Nat}, Paired (LotT H) xs w → i < w.length → ∃ y, xs[i]? = some y ∧ LotT H y (w.getD i [])
  | _, _, i, p, h => by
    have e := getD_at (d := ([] : Strd)) h
    rw [← par_len p] at h
    obtain ⟨y, hy⟩ : ∃ y, _ = some y := ⟨_, List.getElem?_eq_getElem h⟩
    obtain ⟨st, hst, r⟩ := par_get p hy
    rw [e] at hst
    cases hst
    exact ⟨y, hy, r⟩
section
variable {P : Program} {w : World} {K : PySem.W.Frag} {mg : Str → Option Value} {base : Heap}
def spCL (K : PySem.W.Frag) (CR CL CN CG cR cL cM : Addr) : Sp := fun vs H Q E => ∃ v u : V, vs = [v, u] ∧ AskU K CR CL cR cL cM H E v u fun r l ls W => fitW ls.length W ∧ 0 < W.length ∧
  (hadN (netsW ls W) = true → ∀ p H', Same H H' → NetsR CN H' p (netsW ls W) → Q (.ref p) H') ∧ (hadN (netsW ls W) = false → ∀ p H', Same H H' → GreatR CG H' p W (netsW ls W) → Q (.ref p) H')
abbrev nCL : List Str := ["ring", "lineup", "nets", "at"]
theorem scCL : FnScope nCL ["ring", "lineup"] (defScope sCanLine) := ⟨rfl, rfl, rfl, by decide +kernel, rfl, by decide +kernel, by decide +kernel⟩
theorem ok_cl {CR CL CN CG cR cL cM f fW fN fT fIN fIG : Addr} {fd fdW fdN fdT fdIN fdIG : FuncData} (F : Fun K "can_line" "can_line" sCanLine f fd) (T : Bi mg) (RL : LineC K mg CL) (RN : NetsC K mg CN) (RG : TooGreatC K mg CG) (NP : NetsP P w K mg base CN fIN fdIN) (GP : TooGreatP P w K mg base CG fIG fdIG)
    (WL : DefAt P w K mg base (L2.CX P w) 4 "want_lined" ["ring", "lineup"] (spWLd K CR CL cR cL cM) fW fdW) (NE : DefAt P w K mg base CX0 1 "nets_of" ["ring", "lineup"] (spNets K CR CL) fN fdN) (TG : DefAt P w K mg base CX0 1 "too_great" ["nets"] (spTG K) fT fdT) :
    FnOk P w K mg base (L2.CX P w) 7 f fd ["ring", "lineup"] (spCL K CR CL CN CG cR cL cM) := by
  refine F.okX scCL (fun vs H Q E h => ?_) (fun cdv A outer s H vs Q E hr h => ?_)
  · obtain ⟨v, u, rfl, _⟩ := h
    rfl
  · have nd := scCL.nd
    refine ⟨_, pss_cons (ps_expr (pe_call WL.ok (hr.mono (by decide)) rfl WL.g WL.kp WL.b .nil (passes_call (takes_of rfl rfl rfl rfl) (fun _ _ _ _ h => h)) (pa_cons (pv 0) (pa_cons (pv 1) pa_nil))))
      (pss_cons (ps_set (i := 2) nd rfl (Or.inl rfl) (pe_call NE.ok (hr.mono (by decide)) rfl NE.g NE.kp NE.b .nil pass0 (pa_cons (pv 0) (pa_cons (pv 1) pa_nil))))
      (pss_cons (ps_set (i := 3) nd rfl (Or.inl rfl) (pe_call TG.ok (hr.mono (by decide)) rfl TG.g TG.kp TG.b .nil pass0 (pa_cons (pv 2) pa_nil)))
      (pss_cons (ps_if (pt_cmpR op_isN (pv 3) pe_non (nomark _)) (pss_one (ps_ret (pe_make NP.made NP.ok (hr.mono (by decide)) (by rfl) RN.g NP.b .nil pass0 (pa_cons (pv 2) pa_nil)))) pss_nil)
      (pss_one (ps_ret (pe_make GP.made GP.ok (hr.mono (by decide)) (by rfl) RG.g GP.b .nil pass0 (pa_cons (pe_ix (r := rIxT K) ix_tup (pe_fld (pv 1) rfl) (pv 3) (fun _ _ => rfl)) (pa_cons (pe_ix (r := rIxL K) ix_list (pv 2) (pv 3) (fun _ _ => rfl)) (pa_cons (pe_op op_sub (pe_callB (cr_sum rfl) (by rfl) T.sum (by decide +kernel) (pa_cons (pv 2) pa_nil)) (pe_ix (r := rIxL K) ix_list (pv 2) (pv 3) (fun _ _ => rfl))) pa_nil))))))))), ?_⟩
    obtain ⟨v, u, rfl, ⟨no, er⟩ | ⟨r, ls, rfl, ra, l3, l8, h⟩⟩ := h
    · exact ⟨_, rfl, _, rfl, v, u, rfl, .inl ⟨no, er⟩⟩
    refine ⟨_, rfl, _, rfl, _, u, rfl, .inr ⟨r, ls, rfl, ra, l3, l8, ?_⟩⟩
    rcases h with ⟨no, er⟩ | ⟨l, W, rfl, lf, h⟩
    · exact .inl ⟨no, er⟩
    refine .inr ⟨l, W, rfl, lf, ?_⟩
    rcases h with ⟨ne, er⟩ | ⟨e, fit, pos, k1, k2⟩
    · exact .inl ⟨ne, er⟩
    refine .inr ⟨e, ?_⟩
    have nl : (netsW ls W).length = W.length := by
      unfold netsW
      rw [List.length_map]
    have w8 := fit.1
    refine ⟨_, rfl, _, rfl, r, l, ls, W, rfl, ra, lf.w, fit, fun p H1 s1 np h1 => ?_⟩
    have h1 : H1 p = some (.lst ((netsW ls W).map V.int)) := h1
    have lf1 := lf.same s1
    refine ⟨_, rfl, p, netsW ls W, rfl, h1, by omega, by omega, netsW_nn ls W, fun e1 => ?_, fun e1 => ?_⟩
    · refine ⟨_, rfl, rfl, _, rfl, iteDT rfl ?_⟩
      refine ⟨_, rfl, madeN (v := .ref p) (d := .tuple ((netsW ls W).map PyData.int)) (.inr ⟨p, _, _, rfl, .inr ⟨rfl, h1⟩, rfl, by rw [List.length_map]; omega, fv_ints _⟩) fun x w1 H2 s2 f1 pg => ⟨rfl, ?_⟩⟩
      exact k1 e1 x H2 (s1.trans s2) ⟨w1, pg, f1⟩
    · obtain ⟨lt, _⟩ := atN_lt e1
      refine ⟨_, rfl, rfl, _, rfl, iteDF (fun z => nomatch z) ?_⟩
      obtain ⟨dl, t2, l2, xs, n, hl1, en, sw, hl2, px⟩ := id lf1
      obtain ⟨y, hy, la⟩ := lot_at (i := atN (netsW ls W)) px (by omega)
      obtain ⟨b, rfl, hb⟩ := id la
      have gn := getD_at (d := (0 : Int)) lt
      have gv : ((netsW ls W).map V.int)[atN (netsW ls W)]? = some (.int ((netsW ls W).getD (atN (netsW ls W)) 0)) := by
        rw [List.getElem?_map, gn]
        rfl
      have st8 : (lotI (W.getD (atN (netsW ls W)) [])).length ≤ 8 := by
        unfold lotI
        rw [List.length_map]
        exact (fit.2 _ (List.mem_of_getElem? (getD_at (by omega)))).1
      refine ⟨_, rfl, l, CL, dl, _, _, rfl, hl1, RL.cl, RL.nL, rfl, _, rfl, l2, xs, (atN (netsW ls W) : Nat), .ref b, rfl, rfl, .inl (.inl hl2), atI_nat hy, ?_⟩
      refine ⟨_, rfl, _, rfl, p, _, _, _, rfl, rfl, SqL.of h1, atI_nat gv, _, rfl, p, _, rfl, SqL.of h1, _, rfl, _, rfl, p, _, _, _, rfl, rfl, SqL.of h1, atI_nat gv, _, _, rfl, rfl, ?_⟩
      refine madeG (d1 := .tuple ((lotI (W.getD (atN (netsW ls W)) [])).map PyData.int)) (.inr ⟨b, _, _, rfl, .inl hb, rfl, by rw [List.length_map]; unfold lotI at st8; omega, fv_ints _⟩) (FV.int _) (FV.int _) fun x w1 w2 w3 H2 s2 f1 f2 f3 pg => ⟨rfl, ?_⟩
      obtain rfl := fv_int f2
      obtain rfl := fv_int f3
      exact k2 e1 x H2 (s1.trans s2) ⟨w1, pg, f1⟩
end
end K
namespace K
open PySem L2 Rg LamX
open Evl (pss_cut)
def max3 (i j k : Int) : Int := if (if i < j then j else i) < k then k else (if i < j then j else i)
def rMax3 : List V → Hp → VK → Prop := fun xs H Q => ∃ i j k : Int, xs = [.int i, .int j, .int k] ∧ Q (.int (max3 i j k)) H
theorem cr_max3 {X : Cx} (hc : X.calm = true) : CallR X (.builtin "max") rMax3 := by
  intro pins s σ H xs us Q I r h
  obtain ⟨i, j, k, rfl, q⟩ := h
  refine call_max3Nu hc pins s σ H _ us Q I r ⟨.int i, .int j, .int k, .int (max3 i j k), rfl, ?_, q⟩
  unfold nuMax3 nuMax2 nuLt nuCB max3
  by_cases h1 : i < j
  · by_cases h2 : j < k <;> simp [h1, h2]
  · by_cases h2 : i < k <;> simp [h1, h2]
theorem cut_last (xs : List V) (h : 1 ≤ xs.length) : cutV xs none (some (-1)) = xs.take (xs.length - 1) := by
  unfold cutV
  show (List.take (HT.sIx xs.length xs.length (some (-1))) xs).drop 0 = _
  rw [List.drop_zero]
  congr 1
  unfold HT.sIx
  simp
  omega
/-- the least reach of nets, end to end -/
structure LowAt (ns : List Int) (low : Int) : Prop where
  nn : 0 ≤ low
  ge : ∀ m ∈ ns, 2 * m - ns.sum ≤ low
  is : low = 0 ∨ ∃ m ∈ ns, low = 2 * m - ns.sum
theorem LowAt.step {ns : List Int} {low n : Int} (h : LowAt ns low) (hn : 0 ≤ n) : LowAt (ns ++ [n]) (max3 0 (n - ns.sum) (low - n)) := by
  have es : (ns ++ [n]).sum = ns.sum + n := by rw [List.sum_append]; simp
  have e3 : ∀ a b c : Int, a ≤ max3 a b c ∧ b ≤ max3 a b c ∧ c ≤ max3 a b c ∧ (max3 a b c = a ∨ max3 a b c = b ∨ max3 a b c = c) := fun a b c => by
    unfold max3
    split <;> split <;> omega
  obtain ⟨k1, k2, k3, k4⟩ := e3 0 (n - ns.sum) (low - n)
  generalize max3 0 (n - ns.sum) (low - n) = low' at k1 k2 k3 k4 ⊢
  refine ⟨k1, fun m hm => ?_, ?_⟩
  · rw [es]
    rcases List.mem_append.mp hm with hm | hm
    · have := h.ge m hm
      omega
    · rw [List.mem_singleton.mp hm]
      omega
  · rw [es]
    rcases k4 with e | e | e
    · exact .inl e
    · exact .inr ⟨n, List.mem_append_right _ (List.mem_singleton_self _), by omega⟩
    · rcases h.is with z | ⟨m, hm, z⟩
      · exact .inl (by omega)
      · exact .inr ⟨m, List.mem_append_left _ hm, by omega⟩
theorem LowAt.had {ns : List Int} {low n : Int} (h : LowAt ns low) (hn : 0 ≤ n) : (decide (low ≤ n) && decide (n ≤ ns.sum)) = hadN (ns ++ [n]) := by
  have es : (ns ++ [n]).sum = ns.sum + n := by rw [List.sum_append]; simp
  rw [Bool.eq_iff_iff, Bool.and_eq_true, decide_eq_true_iff, decide_eq_true_iff]
  unfold hadN
  rw [List.all_eq_true]
  refine ⟨fun ⟨h1, h2⟩ m hm => decide_eq_true ?_, fun q => ⟨?_, ?_⟩⟩
  · rw [es]
    rcases List.mem_append.mp hm with hm | hm
    · have := h.ge m hm
      omega
    · rw [List.mem_singleton.mp hm]
      omega
  · rcases h.is with z | ⟨m, hm, z⟩
    · omega
    · have := of_decide_eq_true (q m (List.mem_append_left _ hm))
      rw [es] at this
      omega
  · have := of_decide_eq_true (q n (List.mem_append_right _ (List.mem_singleton_self _)))
    rw [es] at this
    omega
section
variable {P : Program} {w : World} {K : PySem.W.Frag} {mg : Str → Option Value} {base : Heap}
/-! ### _law_is_home -/
def spHM : Sp := fun vs H Q _ => ∃ (a : Addr) (ns : List Int), vs = [.ref a] ∧ H a = some (.lst (ns.map V.int)) ∧ 0 < ns.length ∧ ns.length ≤ 1000 ∧ (∀ y ∈ ns, 0 ≤ y) ∧ ∀ H', Same H H' → Q (.bl (hadN ns)) H'
abbrev nHM : List Str := ["_law_nets_here", "_law_low", "_law_high", "_law_net"]
theorem scHM : FnScope nHM ["_law_nets_here"] (defScope sLwIsHome) := ⟨rfl, rfl, rfl, by decide +kernel, rfl, by decide +kernel, by decide +kernel⟩
theorem ok_hm {f : Addr} {fd : FuncData} (F : Fun K "_law_is_home" "_law_is_home" sLwIsHome f fd) (T : Bi mg) : FnOk P w K mg base CX0 1 f fd ["_law_nets_here"] spHM := by
  refine F.ok scHM (fun vs H Q E h => ?_) (fun cdv A outer s H vs Q E hr h => ?_)
  · obtain ⟨a, ns, rfl, _⟩ := h
    rfl
  · have nd := scHM.nd
    refine ⟨_, (pss_cons (ps_asg (pe_tup (pa_cons pe_int (pa_cons pe_int pa_nil))) (pg_tup (by rfl) (pgs_cons (pg_name (i := 1) nd rfl (Or.inl rfl)) (pgs_cons (pg_name (i := 2) nd rfl (Or.inl rfl)) pgs_nil))))
      (pss_cons (ps_for PassesOwn.never rfl (pi_list (pe_slice sl_list (pv 0) po_none (po_some (pe_un un_neg pe_int)))) (pg_name (i := 3) nd rfl (Or.inl rfl)) (pss_cons (ps_set (i := 1) nd rfl (Or.inl rfl) (pe_callB (cr_max3 rfl) (by rfl) T.max (by decide +kernel) (pa_cons pe_int (pa_cons (pe_op op_sub (pv 3) (pv 2)) (pa_cons (pe_op op_sub (pv 1) (pv 3)) pa_nil)))))
      (pss_one (ps_set (i := 2) nd rfl (Or.inl rfl) (pe_op op_add (pv 2) (pv 3))))))
      (pss_one (ps_ret (pe_chain op_le op_le (pv 1) (pe_ix (r := rIxL K) ix_list (pv 0) (pe_un un_neg pe_int) (fun _ _ => rfl)) (pv 2)))))), ?_⟩
    obtain ⟨a, ns, rfl, ha, pos, l1, nn, k⟩ := h
    refine ⟨(by show 2 ≤ sizeLine; decide), fun t0 nt0 => ?_⟩
    have s0 : Same H (upd H t0 (.tup [.int 0, .int 0])) := (Same.refl H).new nt0
    refine ⟨t0, _, rfl, .inl (.inl upd_same), rfl, _, _, rfl, _, _, rfl, rfl, ?_⟩
    generalize upd H t0 (.tup [.int 0, .int 0]) = H0 at s0 ⊢
    have ha0 := s0 _ _ ha
    refine ⟨_, rfl, _, rfl, _, rfl, a, _, rfl, SqL.of ha0, fun p hp => ?_⟩
    rw [cut_last _ (by rw [List.length_map]; omega), List.length_map, ← List.map_take]
    have s1 : Same H0 (upd H0 p (.lst ((ns.take (ns.length - 1)).map V.int))) := (Same.refl H0).new hp
    have hp1 : upd H0 p (.lst ((ns.take (ns.length - 1)).map V.int)) p = some (.lst ((ns.take (ns.length - 1)).map V.int)) := upd_same
    generalize upd H0 p (.lst ((ns.take (ns.length - 1)).map V.int)) = H1 at s1 hp1 ⊢
    refine ⟨p, rfl, ⟨_, SqL.of hp1⟩, for_list (K := K) (a := p) (xs := (ns.take (ns.length - 1)).map V.int) (fun i σ H' => ∃ (low : Int) (z : Option V), σ = [some (.ref a), some (.int low), some (.int ((ns.take i).sum)), z] ∧ H' = H1 ∧ LowAt (ns.take i) low)
      ⟨0, none, by rw [List.take_zero]; rfl, rfl, by rw [List.take_zero]; exact ⟨Int.le_refl _, fun m hm => (nomatch hm), .inl rfl⟩⟩ (fun i σ H' _ ⟨_, _, _, e, _⟩ => by rw [e]; exact SqL.of hp1) ?_ ?_⟩
    · rintro i x σ H' hi ⟨low, z, rfl, rfl, la⟩
      obtain ⟨n, hn, rfl⟩ := int_at hi
      have hn' : ns[i]? = some n := by
        rw [List.getElem?_take] at hn
        split at hn
        · exact hn
        · cases hn
      refine ⟨_, rfl, _, rfl, _, _, rfl, rfl, _, rfl, _, rfl, _, _, rfl, rfl, _, _, _, rfl, _, rfl, _, rfl, _, _, rfl, rfl, max3 0 (n - (ns.take i).sum) (low - n), some (.int n), ?_, rfl, ?_⟩
      · rw [← take_snoc hn', List.sum_append, List.sum_cons, List.sum_nil, Int.add_zero]
        rfl
      · rw [← take_snoc hn']
        exact la.step (nn n (List.mem_of_getElem? hn'))
    · rintro σ H' ⟨low, z, rfl, rfl, la⟩
      rw [List.length_map, List.length_take, Nat.min_eq_left (by omega)] at la ⊢
      obtain ⟨n, hn⟩ : ∃ n, ns[ns.length - 1]? = some n := ⟨_, List.getElem?_eq_getElem (by omega)⟩
      have en : ns.take (ns.length - 1) ++ [n] = ns := by
        rw [take_snoc hn, show ns.length - 1 + 1 = ns.length by omega, List.take_length]
      have z1 := la.had (nn n (List.mem_of_getElem? hn))
      rw [en] at z1
      have hb : atI (ns.map V.int) (-1) = some (.int n) := at_back (by rw [List.length_map]; omega) (by rw [List.length_map, List.getElem?_map, hn]; rfl)
      have hk := k H' (s0.trans s1)
      rw [← z1] at hk
      refine ⟨_, rfl, _, rfl, _, rfl, a, _, _, _, rfl, rfl, SqL.of (s1 _ _ ha0), hb, _, _, rfl, rfl, _, rfl, ?_⟩
      by_cases q : low ≤ n
      · rw [decide_eq_true q, Bool.true_and] at hk
        exact iteDT q ⟨_, rfl, _, _, rfl, rfl, hk⟩
      · rw [decide_eq_false q, Bool.false_and] at hk
        exact iteDF q hk
end
end K
namespace K
open PySem L2 Rg LamX
open Evl (pss_cut)
section
variable {P : Program} {w : World} {K : PySem.W.Frag} {mg : Str → Option Value} {base : Heap}
/-! ### _law_right -/
def spRT (K : PySem.W.Frag) : Sp := fun vs H Q _ => ∃ (v : V) (way : List Strd), vs = [v] ∧ LWy H v way ∧ way.length ≤ 8 ∧ (∀ st ∈ way, goodS st) ∧ ∀ v' H', Same H H' → SWat H' v' (dueW way) → Q v' H'
abbrev nRT : List Str := ["_law_strands_here", "_law_found", "_law_strand", "_law_rows", "_law_pair", "_law_bar", "_law_sign"]
theorem scRT : FnScope nRT ["_law_strands_here"] (defScope sLwRight) := ⟨rfl, rfl, rfl, by decide +kernel, rfl, by decide +kernel, by decide +kernel⟩
theorem ok_rt {f : Addr} {fd : FuncData} (F : Fun K "_law_right" "_law_right" sLwRight f fd) (T : Bi mg) : FnOk P w K mg base CX0 1 f fd ["_law_strands_here"] (spRT K) := by
  refine F.ok scRT (fun vs H Q E h => ?_) (fun cdv A outer s H vs Q E hr h => ?_)
  · obtain ⟨v, way, rfl, _⟩ := h
    rfl
  · have nd := scRT.nd
    refine ⟨_, (pss_cons (ps_set (i := 1) nd rfl (Or.inl rfl) (pe_lst pa_nil))
      (pss_cons (ps_for PassesOwn.never rfl (pi_list (pv 0)) (pg_name (i := 2) nd rfl (Or.inl rfl)) (pss_cons (ps_set (i := 3) nd rfl (Or.inr rfl) (pe_callB cr_sortedPO (by rfl) T.sorted (by decide +kernel) (pa_cons (pe_lc (own := [("_law_pair", 4)]) (g := gName 4) (tt := tYes) (te := tCB (rTupOf K) (tCons (tVar 4) tNil)) rfl nd (pi_list (pv 2)) (blkOk_by (N := nRT) (sc := defScope sLwRight) (by decide +kernel)) (fun _ _ _ _ _ => pg_name (i := 4) nd rfl (Or.inl rfl)) (fun _ _ _ _ _ => pts_nil) (fun _ _ _ _ _ => pe_callTy (r := rTupOf K) call_tuple_of (by rfl) T.tuple (by decide +kernel) (pa_cons (pv 4) pa_nil))) pa_nil)))
      (pss_one (ps_expr (pe_bm PySem.F.plainAttrs_list PySem.F.slot_list_append PySem.F.type_list_append mt_append (pv 1) (pa_cons (pe_callTy call_tuple_of (by rfl) T.tuple (by decide +kernel) (pa_cons (pe_lc (own := [("_law_bar", 5), ("_law_sign", 6)]) (g := (gTup K 2 (gCons (gName 5) (gCons (gName 6) gNil)))) (tt := tYes) (te := tTup (tCons (tVar 5) (tCons (tOp (rI CMul fun i j => .int (i * j)) (tVar 6) (tOp (rIxT K) (tOp (rIxL K) (tVar 3) (tC (.int 0))) (tC (.int 1)))) tNil)))  rfl nd (pi_list (pv 3))
          (blkOk_by (N := nRT) (sc := defScope sLwRight) (by decide +kernel)) (fun _ _ _ _ _ => (pg_tup rfl (pgs_cons (pg_name (i := 5) nd rfl (Or.inl rfl)) (pgs_cons (pg_name (i := 6) nd rfl (Or.inl rfl)) pgs_nil)))) (fun _ _ _ _ _ => pts_nil) (fun _ _ _ _ _ => (pe_tup (pa_cons (pv 5) (pa_cons (pe_op op_mul (pv 6) (pe_ix (r := rIxT K) ix_tup (pe_ix (r := rIxL K) ix_list (pv 3) pe_int (fun _ _ => rfl)) pe_int (fun _ _ => rfl))) pa_nil))))) pa_nil)) pa_nil))))))
      (pss_one (ps_ret (pe_callTy call_tuple_of (by rfl) T.tuple (by decide +kernel) (pa_cons (pe_callB (cr_sortW hr.units) (by rfl) T.sorted (by decide +kernel) (pa_cons (pv 1) pa_nil)) pa_nil)))))), ?_⟩
    obtain ⟨v, way, rfl, ⟨a, xs, rfl, ha, px⟩, w8, gs, k⟩ := h
    have xl : xs.length = way.length := par_len px
    refine ⟨(by show 0 ≤ sizeLine; decide), fun g hg => ?_⟩
    have s0 : Same H (upd H g (.lst [])) := (Same.refl H).new hg
    refine ⟨_, rfl, a, rfl, ⟨_, SqL.of (s0 _ _ ha)⟩, for_list (K := K) (a := a) (xs := xs) (fun i σ H' => ∃ (us : List V) (t r : Option V), σ = [some (.ref a), some (.ref g), t, r, none, none, none] ∧ Same H H' ∧ H' g = some (.lst us) ∧ Paired (SSat H') us ((way.map asS).take i))
      ⟨[], none, none, rfl, s0, upd_same, .nil⟩ (fun i σ H' _ ⟨_, _, _, _, s, _⟩ => SqL.of (s _ _ ha)) ?_ ?_⟩
    · rintro i x σ H' hi ⟨us, t, r, rfl, s1, h1, pu⟩
      obtain ⟨st, hst, b, zs, rfl, hb, pz⟩ := par_get px hi
      have hil : i < xs.length := (List.getElem?_eq_some_iff.mp hi).1
      have gst := gs st (List.mem_of_getElem? hst)
      have st8 := gst.2.1
      have zl : zs.length = st.length := par_len pz
      have hb1 := s1 _ _ hb
      have pz1 := par_imp (fun _ _ z => SPat.same z s1) pz
      refine ⟨_, rfl, b, rfl, ⟨_, SqL.of hb1⟩, fun D hD => ?_⟩
      refine lc_list (K := K) (a := b) (xs := zs) (fun j H2 => Same H' H2 ∧ H2 D = some (.lst (zs.take j))) ⟨(Same.refl H').new hD, upd_same⟩ (fun j H2 _ q => SqL.of (q.1 _ _ hb1)) ?_ ?_
      · rintro j y H2 hj ⟨s2, h2⟩
        have hjl : j < zs.length := (List.getElem?_eq_some_iff.mp hj).1
        obtain ⟨q, hq, c, rfl, hc⟩ := par_get pz1 hj
        refine ⟨rfl, _, rfl, c, _, rfl, .inr ⟨.inl (.inl (s2 _ _ hc)), _, h2, ?_, s2.mut hD, ?_⟩⟩
        · rw [List.length_take]
          exact sm (by omega)
        · rw [upd_same, take_snoc hj]
      rintro H2 ⟨s2, h2⟩
      rw [List.take_length] at h2
      have pz2 := par_imp (fun _ _ z => SPat.same z s2) pz1
      refine ⟨D, zs, pk H2, rfl, SqL.of h2, pairs_of pz2, fun ys p srt stb hp => ?_⟩
      have py0 := srt_pairs pz2 srt stb.perm
      have s3 : Same H2 (upd H2 p (.lst ys)) := (Same.refl H2).new hp
      have hp1 : upd H2 p (.lst ys) p = some (.lst ys) := upd_same
      have py := par_imp (fun _ _ z => SPat.same z s3) py0
      have g2 := s3 _ _ (s2 _ _ h1)
      have s13 := (s1.trans s2).trans s3
      have pu3 := par_imp (fun _ _ z => SSat.same z (s2.trans s3)) pu
      generalize upd H2 p (.lst ys) = H3 at s3 hp1 py g2 s13 pu3 ⊢
      have yl : ys.length = st.length := by rw [par_len py, (srtQ_perm st).length_eq]
      have y1 : 0 < ys.length := by
        have := List.length_pos_iff.mpr gst.1
        omega
      obtain ⟨y0, hy0⟩ : ∃ y0, ys[0]? = some y0 := ⟨_, List.getElem?_eq_getElem y1⟩
      obtain ⟨q0, hq0, c, rfl, hc⟩ := par_get py hy0
      have es : sg0 st = q0.2 := by
        unfold sg0
        cases e : srtQ st with
        | nil => rw [e] at hq0; cases hq0
        | cons u r => rw [e] at hq0; cases hq0; rfl
      refine ⟨_, rfl, .inl ⟨rfl, _, SqL.of g2⟩, _, rfl, p, rfl, ⟨_, SqL.of hp1⟩, fun D2 hD2 => ?_⟩
      refine lc_list (K := K) (a := p) (xs := ys) (fun j H4 => Same H3 H4 ∧ ∃ vs, H4 D2 = some (.lst vs) ∧ Paired (SPat H4) vs ((asS st).take j)) ⟨(Same.refl H3).new hD2, [], upd_same, .nil⟩ (fun j H4 _ r => SqL.of (r.1 _ _ hp1)) ?_ ?_
      · rintro j y H4 hj ⟨s4, vs, h4, pv4⟩
        have hjl : j < ys.length := (List.getElem?_eq_some_iff.mp hj).1
        obtain ⟨q, hq, b2, rfl, hb2⟩ := par_get py hj
        have hqs := gst.2.2 q ((srtQ_perm st).mem_iff.mp (List.mem_of_getElem? hq))
        have hq0s := gst.2.2 q0 ((srtQ_perm st).mem_iff.mp (List.mem_of_getElem? hq0))
        have ha' : (asS st)[j]? = some (q.1, q.2 * q0.2) := by
          unfold asS
          rw [List.getElem?_map, hq, es]
          rfl
        refine ⟨b2, _, rfl, .inl (.inl (s4 _ _ hb2)), rfl, ⟨_, _, rfl, _, _, rfl, rfl, rfl, _, rfl, _, rfl, _, rfl, p, _, _, _, rfl, rfl, SqL.of (s4 _ _ hp1), at_of (j := 0) rfl hy0, c, _, _, _, rfl, rfl, .inl (.inl (s4 _ _ hc)), (rfl : atI [V.int q0.1, V.int q0.2] 1 = some (.int q0.2)), _, _, rfl, rfl, .inr ⟨?_, ?_⟩, (by show 2 ≤ sizeLine; decide), fun t nt => ⟨vs, ?_, ?_, (s4.new nt).mut hD2, _, upd_same, ?_⟩⟩⟩
        · omega
        · omega
        · rw [upd_ne (ne_of_none h4 nt)]
          exact h4
        · rw [par_len pv4, List.length_take]
          exact sm (by omega)
        · have h2t : upd H4 t (.tup [.int q.1, .int (q.2 * q0.2)]) D2 = some (.lst vs) := by
            rw [upd_ne (ne_of_none h4 nt)]
            exact h4
          have sp : SPat (upd H4 t (.tup [.int q.1, .int (q.2 * q0.2)])) (.ref t) (q.1, q.2 * q0.2) := ⟨t, rfl, upd_same⟩
          rw [← take_snoc ha']
          exact par_app (par_imp (fun _ _ z => (z.same ((Same.refl H4).new nt)).mut h2t) pv4) (.cons (sp.mut h2t) .nil)
      rintro H4 ⟨s4, vs, h4, pv4⟩
      rw [show ys.length = (asS st).length by rw [asS_len, yl], List.take_length] at pv4
      refine ⟨D2, _, rfl, .inl ⟨SqL.of h4, fun t2 nt2 => ?_⟩⟩
      have g5 : upd H4 t2 (.tup vs) g = some (.lst us) := ((Same.refl H4).new nt2) _ _ (s4 _ _ g2)
      have s5 : Same H3 (upd H4 t2 (.tup vs)) := s4.new nt2
      have sv : SSat (upd H4 t2 (.tup vs)) (.ref t2) (asS st) := ⟨t2, vs, rfl, upd_same, par_imp (fun _ _ z => z.same ((Same.refl H4).new nt2)) pv4⟩
      generalize upd H4 t2 (.tup vs) = H5 at g5 s5 sv ⊢
      have pu5 := par_imp (fun _ _ z => SSat.same z s5) pu3
      have hst' : (way.map asS)[i]? = some (asS st) := by rw [List.getElem?_map, hst]; rfl
      refine ⟨g, us, _, rfl, rfl, g5, ?_, us ++ [.ref t2], _, _, rfl, (s13.trans s5).mut hg, upd_same, ?_⟩
      · rw [par_len pu, List.length_take]
        exact szl (by omega)
      · rw [← take_snoc hst']
        exact par_app (par_imp (fun _ _ z => z.mut g5) pu5) (.cons (sv.mut g5) .nil)
    · rintro σ H' ⟨us, t, r, rfl, s1, h1, pu⟩
      rw [show xs.length = (way.map asS).length by rw [List.length_map, xl], List.take_length] at pu
      have gA : ∀ st ∈ way.map asS, st ≠ [] := fun st m => by
        obtain ⟨q, hq, rfl⟩ := List.mem_map.mp m
        exact (asS_good (gs q hq)).1
      refine ⟨_, rfl, g, us, way.map asS, rfl, SqL.of h1, pu, gA, fun p ys pm np py => ?_⟩
      have s2 : Same H' (upd H' p (.lst ys)) := (Same.refl H').new np
      refine ⟨p, _, rfl, .inl ⟨SqL.of upd_same, fun t2 nt2 => ?_⟩⟩
      have s3 := s2.new (o := .tup ys) nt2
      exact k _ _ (s1.trans s3) ⟨t2, ys, rfl, upd_same, par_imp (fun _ _ z => z.same s3) py⟩
end
end K
namespace K
open PySem L2 Rg LamX
open Evl (pss_cut)
theorem sqT_of {K : PySem.W.Frag} {H : Hp} {a : Addr} {xs : List V} (h : H a = some (.tup xs)) : SqT K H a xs := .inl (.inl h)
section
variable {P : Program} {w : World} {K : PySem.W.Frag} {mg : Str → Option Value} {base : Heap}
/-! ### _law_nets -/
abbrev nNT : List Str := ["_law_lengths_here", "_law_strands_here", "_law_strand", "_law_bar", "_law_sign"]
theorem scNT : FnScope nNT ["_law_lengths_here", "_law_strands_here"] (defScope sLwNets) := ⟨rfl, rfl, rfl, by decide +kernel, rfl, by decide +kernel, by decide +kernel⟩
def scNTo : Scope := { kind := .function, names := [(Str.ofString ".0", .local), (Str.ofString "_law_strand", .local), (Str.ofString "abs", .globalImplicit), (Str.ofString "sum", .globalImplicit), (Str.ofString "_law_lengths_here", .free)], isGenerator := false, isCoroutine := false }

abbrev teNTL (K : PySem.W.Frag) : TE := tCB rAb (tCons (tCB (rSum K) (tCons (tLc (iList K (tVar 2)) (gTup K 2 (gCons (gName 3) (gCons (gName 4) gNil))) tYes (tOp (rI CMul fun i j => .int (i * j)) (tOp (rIxL K) (tVar 0) (tVar 3)) (tVar 4)) [3, 4]) tNil)) tNil)
def spNTL (K : PySem.W.Frag) : Sp := fun vs H Q _ => ∃ (la : Addr) (v : V) (ls : List Int) (way : List Strd), vs = [.ref la, v] ∧ H la = some (.lst (ls.map V.int)) ∧ LWy H v way ∧ fitW ls.length way ∧
  ∀ p H', Same H H' → H p = none → H' p = some (.lst ((netsW ls way).map V.int)) → Q (.ref p) H'
theorem ok_ntL {f : Addr} {fd : FuncData} (F : Fun K "_law_nets" "_law_nets" sLwNets f fd) (T : Bi mg) : FnOk P w K mg base CX0 1 f fd ["_law_lengths_here", "_law_strands_here"] (spNTL K) := by
  refine F.ok scNT (fun vs H Q E h => ?_) (fun cdv A outer s H vs Q E hr h => ?_)
  · obtain ⟨la, v, ls, way, rfl, _⟩ := h
    rfl
  · have nd := scNT.nd
    refine ⟨_, (pss_one (ps_ret (pe_lc (own := [("_law_strand", 2)]) (g := (gName 2)) (tt := tYes) (te := teNTL K)  rfl nd (pi_list (pv 1))
          (blkOk_by (N := nNT) (sc := defScope sLwNets) (by decide +kernel)) (fun _ _ _ _ _ => (pg_name (i := 2) nd rfl (Or.inl rfl))) (fun _ _ _ _ _ => pts_nil) (fun _ _ _ _ _ => (pe_callB call_abs (by rfl) T.abs (by decide +kernel) (pa_cons (pe_callB (cr_sum rfl) (by rfl) T.sum (by decide +kernel) (pa_cons (pe_lc (own := [("_law_bar", 3), ("_law_sign", 4)]) (g := (gTup K 2 (gCons (gName 3) (gCons (gName 4) gNil)))) (tt := tYes) (te := tOp (rI CMul fun i j => .int (i * j)) (tOp (rIxL K) (tVar 0) (tVar 3)) (tVar 4))  rfl nd (pi_list (pv 2))
          (blkOk_by (N := nNT) (sc := relS scNTo (defScope sLwNets)) (by decide +kernel)) (fun _ _ _ _ _ => (pg_tup rfl (pgs_cons (pg_name (i := 3) nd rfl (Or.inl rfl)) (pgs_cons (pg_name (i := 4) nd rfl (Or.inl rfl)) pgs_nil)))) (fun _ _ _ _ _ => pts_nil) (fun _ _ _ _ _ => (pe_op op_mul (pe_ix (r := rIxL K) ix_list (pv 0) (pv 3) (fun _ _ => rfl)) (pv 4)))) pa_nil)) pa_nil)))))), ?_⟩
    obtain ⟨la, v, ls, way, rfl, hla, ⟨a, xs, rfl, ha, px⟩, ⟨w8, fit⟩, k⟩ := h
    have xl : xs.length = way.length := par_len px
    refine ⟨_, rfl, a, rfl, ⟨_, SqL.of ha⟩, fun D hD => ?_⟩
    refine lc_list (K := K) (a := a) (xs := xs) (fun j H' => Same H H' ∧ H' D = some (.lst ((netsW ls (way.take j)).map V.int))) ⟨(Same.refl H).new hD, upd_same⟩ (fun j H' _ q => SqL.of (q.1 _ _ ha)) ?_ ?_
    · rintro j y H' hj ⟨s1, h1⟩
      obtain ⟨st, hst, rs⟩ := par_get px hj
      have hm := fit st (List.mem_of_getElem? hst)
      obtain ⟨b, zs, rfl, hb, pz⟩ := rs.same s1
      have zl : zs.length = st.length := par_len pz
      refine ⟨rfl, _, rfl, b, rfl, ⟨_, SqL.of hb⟩, fun D3 hD3 => ?_⟩
      refine lc_list (K := K) (a := b) (xs := zs) (fun i G => Same H' G ∧ G D3 = some (.lst (((st.take i).map fun q => ls.getD q.1.toNat 0 * q.2).map V.int))) ⟨(Same.refl H').new hD3, upd_same⟩ (fun i G _ q => SqL.of (q.1 _ _ hb)) ?_ ?_
      · rintro i z G hi ⟨s7, h7⟩
        have hil : i < zs.length := (List.getElem?_eq_some_iff.mp hi).1
        obtain ⟨q, hq, c, rfl, hc⟩ := par_get pz hi
        have hqb := hm.2 q (List.mem_of_getElem? hq)
        have s17 := s1.trans s7
        refine ⟨c, _, rfl, .inl (.inl (s7 _ _ hc)), rfl, _, _, rfl, _, _, rfl, rfl, rfl, ?_⟩
        refine ⟨_, rfl, _, rfl, la, _, q.1, _, rfl, rfl, SqL.of (s17 _ _ hla), get_len hqb.1 hqb.2.1, _, rfl, _, _, rfl, rfl, .inr ⟨?_, ?_⟩, _, h7, ?_, s7.mut hD3, ?_⟩
        · have z := hqb.2.2
          omega
        · have z := hqb.2.2
          omega
        · rw [List.length_map, List.length_map, List.length_take]
          exact sm (by omega)
        · rw [upd_same, ← take_snoc hq, List.map_append, List.map_append]
          rfl
      rintro G1 ⟨s7, h7⟩
      rw [zl, List.take_length] at h7
      have s8 := s1.trans s7
      refine ⟨D3, _, rfl, SqL.of h7, _, rfl, ?_⟩
      refine ⟨_, s7 _ _ h1, ?_, s8.mut hD, ?_⟩
      · unfold netsW
        rw [List.length_map, List.length_map, List.length_take]
        exact sm (by omega)
      · rw [upd_same, ← take_snoc hst]
        unfold netsW
        rw [List.map_append, List.map_append]
        rfl
    rintro H6 ⟨s6, h6⟩
    rw [xl, List.take_length] at h6
    exact k D H6 s6 hD h6

abbrev teNTT (K : PySem.W.Frag) : TE := tCB rAb (tCons (tCB (rSum K) (tCons (tLc (iTup K (tVar 2)) (gTup K 2 (gCons (gName 3) (gCons (gName 4) gNil))) tYes (tOp (rI CMul fun i j => .int (i * j)) (tOp (rIxL K) (tVar 0) (tVar 3)) (tVar 4)) [3, 4]) tNil)) tNil)
def spNTT (K : PySem.W.Frag) : Sp := fun vs H Q _ => ∃ (la : Addr) (v : V) (ls : List Int) (way : List Strd), vs = [.ref la, v] ∧ H la = some (.lst (ls.map V.int)) ∧ SWat H v way ∧ fitW ls.length way ∧
  ∀ p H', Same H H' → H p = none → H' p = some (.lst ((netsW ls way).map V.int)) → Q (.ref p) H'
theorem ok_ntT {f : Addr} {fd : FuncData} (F : Fun K "_law_nets" "_law_nets" sLwNets f fd) (T : Bi mg) : FnOk P w K mg base CX0 1 f fd ["_law_lengths_here", "_law_strands_here"] (spNTT K) := by
  refine F.ok scNT (fun vs H Q E h => ?_) (fun cdv A outer s H vs Q E hr h => ?_)
  · obtain ⟨la, v, ls, way, rfl, _⟩ := h
    rfl
  · have nd := scNT.nd
    refine ⟨_, (pss_one (ps_ret (pe_lc (own := [("_law_strand", 2)]) (g := (gName 2)) (tt := tYes) (te := teNTT K)  rfl nd (pi_tup (pv 1))
          (blkOk_by (N := nNT) (sc := defScope sLwNets) (by decide +kernel)) (fun _ _ _ _ _ => (pg_name (i := 2) nd rfl (Or.inl rfl))) (fun _ _ _ _ _ => pts_nil) (fun _ _ _ _ _ => (pe_callB call_abs (by rfl) T.abs (by decide +kernel) (pa_cons (pe_callB (cr_sum rfl) (by rfl) T.sum (by decide +kernel) (pa_cons (pe_lc (own := [("_law_bar", 3), ("_law_sign", 4)]) (g := (gTup K 2 (gCons (gName 3) (gCons (gName 4) gNil)))) (tt := tYes) (te := tOp (rI CMul fun i j => .int (i * j)) (tOp (rIxL K) (tVar 0) (tVar 3)) (tVar 4))  rfl nd (pi_tup (pv 2))
          (blkOk_by (N := nNT) (sc := relS scNTo (defScope sLwNets)) (by decide +kernel)) (fun _ _ _ _ _ => (pg_tup rfl (pgs_cons (pg_name (i := 3) nd rfl (Or.inl rfl)) (pgs_cons (pg_name (i := 4) nd rfl (Or.inl rfl)) pgs_nil)))) (fun _ _ _ _ _ => pts_nil) (fun _ _ _ _ _ => (pe_op op_mul (pe_ix (r := rIxL K) ix_list (pv 0) (pv 3) (fun _ _ => rfl)) (pv 4)))) pa_nil)) pa_nil)))))), ?_⟩
    obtain ⟨la, v, ls, way, rfl, hla, ⟨a, xs, rfl, ha, px⟩, ⟨w8, fit⟩, k⟩ := h
    have xl : xs.length = way.length := par_len px
    refine ⟨_, rfl, a, rfl, ⟨_, sqT_of ha⟩, fun D hD => ?_⟩
    refine lc_tup (K := K) (a := a) (xs := xs) (fun j H' => Same H H' ∧ H' D = some (.lst ((netsW ls (way.take j)).map V.int))) ⟨(Same.refl H).new hD, upd_same⟩ (fun j H' _ q => sqT_of (q.1 _ _ ha)) ?_ ?_
    · rintro j y H' hj ⟨s1, h1⟩
      obtain ⟨st, hst, rs⟩ := par_get px hj
      have hm := fit st (List.mem_of_getElem? hst)
      obtain ⟨b, zs, rfl, hb, pz⟩ := rs.same s1
      have zl : zs.length = st.length := par_len pz
      refine ⟨rfl, _, rfl, b, rfl, ⟨_, sqT_of hb⟩, fun D3 hD3 => ?_⟩
      refine lc_tup (K := K) (a := b) (xs := zs) (fun i G => Same H' G ∧ G D3 = some (.lst (((st.take i).map fun q => ls.getD q.1.toNat 0 * q.2).map V.int))) ⟨(Same.refl H').new hD3, upd_same⟩ (fun i G _ q => sqT_of (q.1 _ _ hb)) ?_ ?_
      · rintro i z G hi ⟨s7, h7⟩
        have hil : i < zs.length := (List.getElem?_eq_some_iff.mp hi).1
        obtain ⟨q, hq, c, rfl, hc⟩ := par_get pz hi
        have hqb := hm.2 q (List.mem_of_getElem? hq)
        have s17 := s1.trans s7
        refine ⟨c, _, rfl, .inl (.inl (s7 _ _ hc)), rfl, _, _, rfl, _, _, rfl, rfl, rfl, ?_⟩
        refine ⟨_, rfl, _, rfl, la, _, q.1, _, rfl, rfl, SqL.of (s17 _ _ hla), get_len hqb.1 hqb.2.1, _, rfl, _, _, rfl, rfl, .inr ⟨?_, ?_⟩, _, h7, ?_, s7.mut hD3, ?_⟩
        · have z := hqb.2.2
          omega
        · have z := hqb.2.2
          omega
        · rw [List.length_map, List.length_map, List.length_take]
          exact sm (by omega)
        · rw [upd_same, ← take_snoc hq, List.map_append, List.map_append]
          rfl
      rintro G1 ⟨s7, h7⟩
      rw [zl, List.take_length] at h7
      have s8 := s1.trans s7
      refine ⟨D3, _, rfl, SqL.of h7, _, rfl, ?_⟩
      refine ⟨_, s7 _ _ h1, ?_, s8.mut hD, ?_⟩
      · unfold netsW
        rw [List.length_map, List.length_map, List.length_take]
        exact sm (by omega)
      · rw [upd_same, ← take_snoc hst]
        unfold netsW
        rw [List.map_append, List.map_append]
        rfl
    rintro H6 ⟨s6, h6⟩
    rw [xl, List.take_length] at h6
    exact k D H6 s6 hD h6
end
end K
/-! bool(x) of an own instance with __bool__ -/
namespace Rg
open PySem PySem.Spec PyProof.Rows L2
open PySem.Sem (wp)
theorem bool_newO {prog : Program} {w : World} (a : Addr) : MeetsIn prog w (Builtin.«bool.__new__» ⟨[.type "bool", .ref a], []⟩) (fun A R s => wpAny (model prog w) A.in1 (truthy (.ref a)) (fun b s' => R (.ok (.ret (.bool b))) s') (fun e s' => R (.error e) s') s) := by
  intro A R s h
  have f1 := PySem.F.conv_sub_bool
  unfold Builtin.«bool.__new__»
  refine wpAny_bind ?_
  have e1 : isType (Value.type "bool") = pure true := by first | rfl | kernel_rfl
  rw [e1]
  refine wpAny_pure ?_
  rw [f1]
  refine wpAny_bind (wpAny_pure ?_)
  have e2 : someArgs "bool" 0 1 { pos := [Value.ref a] } = pure [Value.ref a] := by first | rfl | kernel_rfl
  rw [e2]
  refine wpAny_bind (wpAny_pure ?_)
  refine wpAny_bind (wpAny_mono h (fun b s' q => wpAny_pure q) fun _ _ x => x)
section
variable {X : Cx} {k : Nat} {f : Addr} {fd : FuncData} {sp : Sp}
def rBoolO (K : PySem.W.Frag) (f : Addr) (sp : Sp) : List V → Hp → VK → Prop := fun vxs Hh Qq => ∃ a C dx fs, vxs = [.ref a] ∧ Hh a = some (.ins C dx fs) ∧ PySem.W.findIn K (.ref C) "__bool__" = some (some (.ref f)) ∧ PySem.W.isFn K (.ref f) = true ∧
  sp [.ref a] Hh (fun v H' => ∃ b, v = .bl b ∧ Qq (.bl b) H') E0
theorem call_boolO (F : FnOk X.prog X.w X.K X.mg X.base CX0 k f fd ["self"] sp) (hr : Room (k + 2) X.A) (hb : Binds X.K fd ["self"] []) : CallR X (.type "bool") (rBoolO X.K f sp) := by
  intro pns s σs Hh vxs uvs Qq Iv r h
  obtain ⟨a, C, dx, fs, rfl, eqa, hs, hf, qq⟩ := h
  obtain ⟨u, rfl, rlu⟩ := vals1 r
  obtain rfl : u = Value.ref a := rlu
  obtain ⟨mA, O, _⟩ := ins_get Iv.hok eqa
  obtain ⟨od, J, _⟩ := O.look
  obtain ⟨m, hF⟩ := Iv.fr
  refine callType_newIn PySem.F.called_bool PySem.F.newNe_bool (PySem.F.typeCall_bool_1 _) (PySem.F.newCall_bool_1 _) (fun obj => PySem.F.args_object_init_2 obj _) PySem.F.entry_bool_new (bool_newO a) ?_
  refine PySem.W.truthy_K hF Iv.ok.mod.kin J hs hf ?_
  have hlst : ([Value.ref a] ++ []).length = (["self"] : List Str).length := rfl
  refine wpAny_call (codeAny_mono (F.run X.A.in1.in1 X.stack s Hh ⟨[.ref a], []⟩ [.ref a] [.ref a] _ E0 hr.in1.in1 Iv.env0.in1.in1 (hb s [.ref a] Iv.kIn hlst) (.cons rfl .nil) qq) fun r s' hsq => ?_)
  cases r with
  | error e => exact hsq.elim
  | ok fl =>
    cases fl with
    | ret u =>
      obtain ⟨v, H', I3, rlv, b, ev, q3⟩ := Iv.after hsq
      subst ev
      cases rlv
      exact ⟨rfl, ⟨.bl b, H', I3, rfl, q3⟩⟩
    | next => exact False.elim hsq
    | brk => exact False.elim hsq
    | cont => exact False.elim hsq
end
end Rg
namespace K
open PySem L2 Rg LamX
open Evl (pss_cut)
/-- a promise that no error is told in -/
theorem fn_calm {P : Program} {w : World} {K : PySem.W.Frag} {mg : Str → Option Value} {base : Heap} {k : Nat} {f : Addr} {fd : FuncData} {ps : List Str} {sp : Sp} (F : FnOk P w K mg base (L2.CX P w) k f fd ps sp) : FnOk P w K mg base CX0 k f fd ps (fun vs H Q _ => sp vs H Q fun _ _ _ => False) :=
  ⟨fun vs H Q E h => F.len _ _ _ _ h, fun A outer s H args us vs Q E hr e0 hb hv h => codeAny_mono (F.run A outer s H args us vs Q (fun _ _ _ => False) hr e0 hb hv h) fun r s' hq => by
    cases r with
    | ok fl => cases fl <;> exact hq
    | error e =>
      obtain ⟨_, _, _, _, _, _, _, _, _, _, _, _, z⟩ := hq
      exact z⟩
theorem atm_good {v : V} {d : PyData} (h : Atm v d) : d.canLay0 = true ∧ d.depth = 0 ∧ PyData.eqv d d = true := by
  rcases h with ⟨i, _, rfl⟩ | ⟨_, rfl⟩ | ⟨z, _, rfl⟩
  · exact ⟨by simp [PyData.canLay0], by simp [PyData.depth], by simp [PyData.eqv]⟩
  · exact ⟨by simp [PyData.canLay0], by simp [PyData.depth], by simp [PyData.eqv]⟩
  · exact ⟨by simp [PyData.canLay0, z.2], by simp [PyData.depth], by simp [PyData.eqv]⟩
theorem fv_good {H : Hp} {f : Bool} : ∀ {n : Nat} {v : V} {d : PyData}, FV H f n v d → d.canLay0 = true ∧ d.depth ≤ n ∧ PyData.eqv d d = true
  | 0, v, d, h => by
    obtain ⟨a, b, c⟩ := atm_good h
    exact ⟨a, by omega, c⟩
  | n + 1, v, d, h => by
    rcases h with h | ⟨a, xs, ds, _, ha, rfl, hl, p⟩
    · obtain ⟨a, b, c⟩ := atm_good h
      exact ⟨a, by omega, c⟩
    · clear ha hl
      have go : PyData.canLayAll0 ds = true ∧ PyData.depthAll ds ≤ n ∧ PyData.eqvAll ds ds = true := by
        induction p with
        | nil => exact ⟨by simp [PyData.canLayAll0], by simp [PyData.depthAll], by simp [PyData.eqvAll]⟩
        | cons h t ih =>
          obtain ⟨b1, b2, b3⟩ := fv_good h
          obtain ⟨c1, c2, c3⟩ := ih
          exact ⟨by simp [PyData.canLayAll0, b1, c1], by simp only [PyData.depthAll]; omega, by simp [PyData.eqvAll, b3, c3]⟩
      obtain ⟨c1, c2, c3⟩ := go
      exact ⟨by simp [PyData.canLay0, c1], by simp only [PyData.depth]; omega, by simp [PyData.eqv, c3]⟩
theorem fv_shaped {H : Hp} {f : Bool} {n : Nat} {v : V} {d : PyData} (h : FV H f n v d) (hn : n ≤ 64) : SeqAt.shaped d = true := by
  obtain ⟨a, b, _⟩ := fv_good h
  simp [SeqAt.shaped, a]
  omega
theorem fv_dp {K : PySem.W.Frag} {H : Hp} : ∀ {n : Nat} {v : V} {d : PyData}, FV H false n v d → Dp K H v d := by
  have at_dp : ∀ {v : V} {d : PyData}, Atm v d → Dp K H v d := fun h => by
    rcases h with ⟨i, rfl, rfl⟩ | ⟨rfl, rfl⟩ | ⟨z, rfl, rfl⟩
    · exact .int i
    · exact .non
    · exact .str z.1
  intro n
  induction n with
  | zero => exact fun h => at_dp h
  | succ n ih =>
    intro v d h
    rcases h with h | ⟨a, xs, ds, rfl, ha, rfl, hl, p⟩
    · exact at_dp h
    · rcases ha with ha | ⟨z, _⟩
      · refine .tup (.inl (.inl ha)) ?_
        clear ha hl
        induction p with
        | nil => exact .nil
        | cons h t ih2 => exact .cons (ih h) ih2
      · cases z

theorem flat_perm {a b : List Strd} (p : a.Perm b) : (flatB a).Perm (flatB b) := by
  induction p with
  | nil => exact List.Perm.refl _
  | cons x _ ih => exact List.Perm.append_left _ ih
  | swap x y l =>
    unfold flatB
    simp only [List.flatMap_cons, ← List.append_assoc]
    exact List.Perm.append_right _ List.perm_append_comm
  | trans _ _ h1 h2 => exact h1.trans h2
theorem flat_asS : ∀ way : List Strd, (flatB (way.map asS)).Perm (flatB way)
  | [] => List.Perm.refl _
  | st :: way => by
    unfold flatB
    simp only [List.map_cons, List.flatMap_cons]
    exact (asS_bars st).append (flat_asS way)
theorem due_good {n : Nat} {way : List Strd} (g : goodV n way) : goodV n (dueW way) := by
  have p : (dueW way).Perm (way.map asS) := srtW_perm _
  refine ⟨fun st m => ?_, ?_, ?_⟩
  · obtain ⟨q, hq, rfl⟩ := List.mem_map.mp (p.mem_iff.mp m)
    exact asS_good (g.st q hq)
  · rw [p.length_eq, List.length_map]
    exact g.ln
  · exact ((flat_perm p).trans (flat_asS way)).trans g.pm
theorem flat_len : ∀ w : List Strd, ((flatB w).length : Int) = manyW w
  | [] => rfl
  | st :: w => by
    have ih := flat_len w
    unfold flatB at ih ⊢
    unfold manyW at ih ⊢
    rw [List.flatMap_cons, List.length_append, List.length_map, List.map_cons, List.sum_cons, ← ih]
    omega
theorem good_many {n : Nat} {w : List Strd} (g : goodV n w) : manyW w = n := by
  rw [← flat_len, g.pm.length_eq, rngI_len]
theorem good_pos {n : Nat} {w : List Strd} (g : goodV n w) (h : 0 < n) : 0 < w.length := by
  cases w with
  | nil =>
    have := good_many g
    unfold manyW at this
    simp at this
    omega
  | cons x l => simp
theorem good_fit {n : Nat} {w : List Strd} (g : goodV n w) : fitW n w := by
  refine ⟨g.ln, fun st m => ⟨(g.st st m).2.1, fun q hq => ?_⟩⟩
  have h1 : q.1 ∈ flatB w := List.mem_flatMap.mpr ⟨st, m, List.mem_map.mpr ⟨q, hq, rfl⟩⟩
  have h2 := g.pm.mem_iff.mp h1
  unfold rngI at h2
  obtain ⟨i, hi, e⟩ := List.mem_map.mp h2
  have := List.mem_range.mp hi
  exact ⟨by omega, by omega, (g.st st m).2.2 q hq⟩
/-- just one net is too great -/
theorem at_only {ns : List Int} (nn : ∀ y ∈ ns, 0 ≤ y) (h : hadN ns = false) {j : Nat} {m : Int} (hj : ns[j]? = some m) : (ns.sum - m < m) ↔ j = atN ns := by
  obtain ⟨lt, g⟩ := atN_lt h
  refine ⟨fun q => (atN_of nn hj (by omega)).symm, fun e => ?_⟩
  subst e
  rw [List.getElem?_eq_getElem lt] at hj
  cases hj
  omega
section
variable {P : Program} {w : World} {K : PySem.W.Frag} {mg : Str → Option Value} {base : Heap}
/-! ### can_line, where no error comes -/
def spCLc (K : PySem.W.Frag) (CR CL CN CG : Addr) : Sp := fun vs H Q _ => ∃ (r l : Addr) (ls : List Int) (W : List Strd), vs = [.ref r, .ref l] ∧ RingAt K CR H r ls ∧ 3 ≤ ls.length ∧ ls.length ≤ 8 ∧ LineF CL H l W ∧ goodV ls.length W ∧
  (hadN (netsW ls W) = true → ∀ p H', Same H H' → NetsR CN H' p (netsW ls W) → Q (.ref p) H') ∧ (hadN (netsW ls W) = false → ∀ p H', Same H H' → GreatR CG H' p W (netsW ls W) → Q (.ref p) H')
theorem ok_clc {CR CL CN CG cR cL cM f : Addr} {fd : FuncData} {k : Nat} (F : FnOk P w K mg base (L2.CX P w) k f fd ["ring", "lineup"] (spCL K CR CL CN CG cR cL cM)) : FnOk P w K mg base CX0 k f fd ["ring", "lineup"] (spCLc K CR CL CN CG) :=
  (fn_calm F).imp fun vs H Q E ⟨r, l, ls, W, hv, ra, l3, l8, lf, g, k1, k2⟩ => ⟨.ref r, .ref l, hv, .inr ⟨r, ls, rfl, ra, l3, l8, .inr ⟨l, W, rfl, lf, .inr ⟨good_many g, good_fit g, good_pos g (by omega), k1, k2⟩⟩⟩⟩
/-- the truth of the papers of a class -/
structure PapB (P : Program) (w : World) (K : PySem.W.Frag) (mg : Str → Option Value) (base : Heap) (C fB : Addr) (fdB : FuncData) (b : Bool) : Prop where
  ok : FnOk P w K mg base CX0 1 fB fdB ["self"] (fun vs H Q _ => ∃ v, vs = [v] ∧ Q (.bl b) H)
  b : Binds K fdB ["self"] []
  f : PySem.W.findIn K (.ref C) "__bool__" = some (some (.ref fB))
  fn : PySem.W.isFn K (.ref fB) = true
end
end K
namespace K
open PySem L2 Rg LamX
open Evl (pss_cut)
section
variable {P : Program} {w : World} {K : PySem.W.Frag} {mg : Str → Option Value} {base : Heap}
/-! ### _law_paper_right -/
def spPR (K : PySem.W.Frag) : Sp := fun vs H Q _ => ∃ (la : Addr) (v : V) (ls : List Int) (way : List Strd), vs = [.ref la, v] ∧ H la = some (.lst (ls.map V.int)) ∧ 3 ≤ ls.length ∧ ls.length ≤ 8 ∧ Bd 1000000 ls ∧ LWy H v way ∧ goodV ls.length way ∧ ∀ H', Same H H' → Q (.bl true) H'
abbrev nPR : List Str := ["_law_lengths_here", "_law_strands_here", "_law_due", "_law_nets_here", "_law_told", "_law_is_right", "_law_at", "_law_lot", "_law_spot", "_law_net", "_law_bar", "_law_sign"]
theorem scPR : FnScope nPR ["_law_lengths_here", "_law_strands_here"] (defScope sLwPaperRight) := ⟨rfl, rfl, rfl, by decide +kernel, rfl, by decide +kernel, by decide +kernel⟩
structure Knows (K : PySem.W.Frag) (mg : Str → Option Value) (CN CG aP aD : Addr) : Prop where
  nI : C8.InsC K CN
  gI : C8.InsC K CG
  pg : mg "Paper" = some (.ref aP)
  dg : mg "Denial" = some (.ref aD)
  np : PySem.W.kitOne K (.ref CN) (.ref aP) = some true
  gd : PySem.W.kitOne K (.ref CG) (.ref aD) = some true
theorem ok_pr {CR CL CN CG aP aD fR fL fRT fNT fHM fC fBN fBG f : Addr} {fd fdR fdL fdRT fdNT fdHM fdC fdBN fdBG : FuncData} (F : Fun K "_law_paper_right" "_law_paper_right" sLwPaperRight f fd) (T : Bi mg) (R : RingP P w K mg base CR fR fdR) (RG : RingC K mg CR) (LP : LineP P w K mg base CL fL fdL) (RL : LineC K mg CL) (RN : NetsC K mg CN) (TGC : TooGreatC K mg CG) (KN : Knows K mg CN CG aP aD)
    (BN : PapB P w K mg base CN fBN fdBN true) (BG : PapB P w K mg base CG fBG fdBG false)
    (RT : DefAt P w K mg base CX0 1 "_law_right" ["_law_strands_here"] (spRT K) fRT fdRT) (NT : DefAt P w K mg base CX0 1 "_law_nets" ["_law_lengths_here", "_law_strands_here"] (spNTT K) fNT fdNT) (HM : DefAt P w K mg base CX0 1 "_law_is_home" ["_law_nets_here"] spHM fHM fdHM)
    (CLI : DefAt P w K mg base CX0 7 "can_line" ["ring", "lineup"] (spCLc K CR CL CN CG) fC fdC) :
    FnOk P w K mg base CX0 8 f fd ["_law_lengths_here", "_law_strands_here"] (spPR K) := by
  refine F.ok scPR (fun vs H Q E h => ?_) (fun cdv A outer s H vs Q E hr h => ?_)
  · obtain ⟨la, v, ls, way, rfl, _⟩ := h
    rfl
  · have nd := scPR.nd
    have PG := KN.pg
    have DG := KN.dg
    have FBN := BN.ok
    have BBN := BN.b
    have FBG := BG.ok
    have BBG := BG.b
    have EI := KN.nI
    have EG := KN.gI
    refine ⟨_, (pss_cons (ps_set (i := 2) nd rfl (Or.inl rfl) (pe_call RT.ok (hr.mono (by decide)) rfl RT.g RT.kp RT.b .nil pass0 (pa_cons (pv 1) pa_nil)))
      (pss_cons (ps_asg (pe_tup (pa_cons (pe_call NT.ok (hr.mono (by decide)) rfl NT.g NT.kp NT.b .nil pass0 (pa_cons (pv 0) (pa_cons (pv 2) pa_nil))) (pa_cons (pe_call CLI.ok (hr.mono (by decide)) rfl CLI.g CLI.kp CLI.b .nil pass0 (pa_cons (pe_make R.made R.ok (hr.mono (by decide)) (by rfl) RG.g R.b .nil pass0 (pa_cons (pv 0) pa_nil)) (pa_cons (pe_make LP.made LP.ok (hr.mono (by decide)) (by rfl) RL.g LP.b .nil pass0 (pa_cons (pv 1) pa_nil)) pa_nil))) pa_nil))) (pg_tup (by rfl) (pgs_cons (pg_name (i := 3) nd rfl (Or.inr rfl)) (pgs_cons (pg_name (i := 4) nd rfl (Or.inl rfl)) pgs_nil))))
      (pss_cons (ps_if (pt_val (pe_call HM.ok (hr.mono (by decide)) rfl HM.g HM.kp HM.b .nil pass0 (pa_cons (pv 3) pa_nil))) (pss_cons (ps_set (i := 5) nd rfl (Or.inl rfl) (pe_and (pe_callB call_isi (by rfl) T.isinstance (by decide +kernel) (pa_cons (pv 4) (pa_cons (pe_glob (v := .ref CN) rfl RN.g rfl) pa_nil))) (pe_and (pe_callB call_isi (by rfl) T.isinstance (by decide +kernel) (pa_cons (pv 4) (pa_cons (pe_glob (v := .ref aP) rfl PG rfl) pa_nil))) (pe_one (pe_callTy (call_boolO FBN (hr.mono (by decide)) BBN) (by rfl) T.bool (by decide +kernel) (pa_cons (pv 4) pa_nil))))))
      (pss_one (ps_ret (pe_and (pv 5) (pe_and (pe_cmpR op_eq (pe_fld (pv 4) rfl) pe_str (nomark _)) (pe_and (pe_cmpR (op_eqD hr.units) (pe_fld (pv 4) rfl) (pe_callTy call_tuple_of (by rfl) T.tuple (by decide +kernel) (pa_cons (pv 3) pa_nil)) (nomark _)) (pe_one (pe_cmpR (op_eqD hr.units) (pe_fld (pv 4) rfl) (pe_tup (pa_cons (pe_callTy call_tuple_of (by rfl) T.tuple (by decide +kernel) (pa_cons (pv 3) pa_nil)) pa_nil)) (nomark _))))))))) pss_nil)
      (pss_cons (ps_if (PW.pt (pw_or (pt_not (pt_val (pe_callB call_isi (by rfl) T.isinstance (by decide +kernel) (pa_cons (pv 4) (pa_cons (pe_glob (v := .ref CG) rfl TGC.g rfl) pa_nil))))) (pw_or (pt_not (pt_val (pe_callB call_isi (by rfl) T.isinstance (by decide +kernel) (pa_cons (pv 4) (pa_cons (pe_glob (v := .ref aD) rfl DG rfl) pa_nil))))) (pw_or (pt_bool FBG (hr.mono (by decide)) BBG (pv 4)) (pw_or1 (pt_cmpR op_ne (pe_fld (pv 4) rfl) pe_str (nomark _))))))) (pss_one ps_never) pss_nil)
      (pss_cons (ps_setLc (i := 6) (own := [("_law_spot", 8), ("_law_net", 9)]) (g := (gTup K 2 (gCons (gName 8) (gCons (gName 9) gNil)))) (tt := tTest (tOp (rI0 fun i j => .bl (decide (j < i))) (tVar 9) (tOp (rI0 fun i j => .int (i - j)) (tCB (rSum K) (tCons (tVar 3) tNil)) (tVar 9)))) (te := tVar 8)  rfl nd rfl rfl (sw_true rfl rfl rfl (by decide +kernel)) (pi_enum (by rfl) T.enumerate (pa_cons (pv 3) pa_nil))
          (blkOk_by (N := nPR) (sc := defScope sLwPaperRight) (by decide +kernel)) (fun _ _ _ _ _ => (pg_tup rfl (pgs_cons (pg_name (i := 8) nd rfl (Or.inl rfl)) (pgs_cons (pg_name (i := 9) nd rfl (Or.inl rfl)) pgs_nil)))) (fun _ _ _ _ _ => (pts_one (pt_cmpR op_gt (pv 9) (pe_op op_sub (pe_callB (cr_sum rfl) (by rfl) T.sum (by decide +kernel) (pa_cons (pv 3) pa_nil)) (pv 9)) (nomark _)))) (fun _ _ _ _ _ => (pv 8)))
      (pss_cons (ps_set (i := 7) nd rfl (Or.inl rfl) (pe_callTy call_tuple_of (by rfl) T.tuple (by decide +kernel) (pa_cons (pe_lc (own := [("_law_bar", 10), ("_law_sign", 11)]) (g := (gTup K 2 (gCons (gName 10) (gCons (gName 11) gNil)))) (tt := tYes) (te := tVar 10)  rfl nd (pi_tup (pe_ix (r := rIxT K) ix_tup (pv 2) (pe_ix (r := rIxL K) ix_list (pv 6) pe_int (fun _ _ => rfl)) (fun _ _ => rfl)))
          (blkOk_by (N := nPR) (sc := defScope sLwPaperRight) (by decide +kernel)) (fun _ _ _ _ _ => (pg_tup rfl (pgs_cons (pg_name (i := 10) nd rfl (Or.inl rfl)) (pgs_cons (pg_name (i := 11) nd rfl (Or.inl rfl)) pgs_nil)))) (fun _ _ _ _ _ => pts_nil) (fun _ _ _ _ _ => (pv 10))) pa_nil)))
      (pss_one (ps_ret (pe_and (pe_cmpR op_eq (pe_callB (r := rLenS K) call_len_seq (by rfl) T.len PySem.boot_len (pa_cons (pv 6) pa_nil)) pe_int (nomark _)) (pe_and (pe_cmpR (op_eqD hr.units) (pe_fld (pv 4) rfl) (pe_tup (pa_cons (pv 7) (pa_cons (pe_ix (r := rIxL K) ix_list (pv 3) (pe_ix (r := rIxL K) ix_list (pv 6) pe_int (fun _ _ => rfl)) (fun _ _ => rfl)) (pa_cons (pe_op op_sub (pe_callB (cr_sum rfl) (by rfl) T.sum (by decide +kernel) (pa_cons (pv 3) pa_nil)) (pe_ix (r := rIxL K) ix_list (pv 3) (pe_ix (r := rIxL K) ix_list (pv 6) pe_int (fun _ _ => rfl)) (fun _ _ => rfl))) pa_nil)))) (nomark _)) (pe_one (pe_cmpR (op_eqD hr.units) (pe_tup (pa_cons (pe_fld (pv 4) rfl) (pa_cons (pe_fld (pv 4) rfl) (pa_cons (pe_fld (pv 4) rfl) pa_nil)))) (pe_fld (pv 4) rfl) (nomark _))))))))))))), ?_⟩
    obtain ⟨la, v, ls, way, rfl, hla, l3, l8, bd, lw, gw, k⟩ := h
    have gd := due_good gw
    have fit := good_fit gd
    have w8 := gd.ln
    have wp := good_pos gd (by omega)
    refine ⟨_, rfl, v, way, rfl, lw, gw.ln, gw.st, fun v1 H1 s1 due => ?_⟩
    refine ⟨_, rfl, _, rfl, la, v1, ls, dueW way, rfl, s1 _ _ hla, due, fit, fun p H2 s2 np hp => ?_⟩
    have s02 := s1.trans s2
    refine ⟨_, rfl, madeL2 (s02 _ _ hla) l3 l8 bd fun r H3 ra s3 nr => ⟨rfl, ?_⟩⟩
    have s03 := s02.trans s3
    refine ⟨_, rfl, madeU (lw.same s03) gw l3 l8 fun x H4 lf s4 => ⟨rfl, ?_⟩⟩
    refine ⟨r, x, ls, dueW way, rfl, ra.same s4, l3, l8, lf, gd, fun e1 q H5 s5 nr5 => ?_, fun e1 q H5 s5 gr5 => ?_⟩
    · refine ⟨(by show 2 ≤ sizeLine; decide), fun t0 nt0 => ⟨t0, _, rfl, .inl (.inl upd_same), rfl, _, _, rfl, _, _, rfl, rfl, ?_⟩⟩
      have s6 : Same H5 (upd H5 t0 (.tup [.ref p, .ref q])) := (Same.refl H5).new nt0
      generalize upd H5 t0 (.tup [.ref p, .ref q]) = H6 at s6 ⊢
      have s26 := ((s3.trans s4).trans s5).trans s6
      have hp6 := s26 _ _ hp
      have nl : (netsW ls (dueW way)).length = (dueW way).length := by
        unfold netsW
        rw [List.length_map]
      refine ⟨_, rfl, p, netsW ls (dueW way), rfl, hp6, by omega, by omega, netsW_nn _ _, fun H7 s7 => ⟨_, rfl, ?_⟩⟩
      rw [e1]
      refine iteT ?_
      have s06 := s02.trans s26
      have s07 := s06.trans s7
      have nr7 := nr5.ext (ExtN.of (s6.trans s7))
      have hp7 := s7 _ _ hp6
      obtain ⟨nv, pg, fv⟩ := id nr7
      obtain ⟨dx, tt, hq, ht⟩ := id pg
      refine ⟨_, rfl, .ref q, .ref CN, .ref CN, .ref CN, true, rfl, .own _, .base (.ins hq EI.cl EI.ha EI.hn EI.htk EI.hm), EI.me, _, rfl, iteT ?_⟩
      refine ⟨_, rfl, .ref q, .ref aP, .ref CN, .ref aP, true, rfl, .own _, .base (.ins hq EI.cl EI.ha EI.hn EI.htk EI.hm), KN.np, _, rfl, iteT ?_⟩
      refine ⟨_, rfl, q, CN, dx, _, rfl, hq, BN.f, BN.fn, _, rfl, true, rfl, ?_⟩
      refine ⟨_, rfl, _, rfl, iteT ?_⟩
      refine ⟨_, rfl, q, CN, dx, _, _, rfl, hq, RN.pc.cl, RN.pc.nw, rfl, rfl, _, rfl, iteDT rfl ?_⟩
      refine ⟨_, rfl, q, CN, dx, _, _, rfl, hq, RN.pc.cl, RN.n1, rfl, _, rfl, p, _, rfl, .inl ⟨SqL.of hp7, fun t1 nt1 => ?_⟩⟩
      have s8 : Same H7 (upd H7 t1 (.tup ((netsW ls (dueW way)).map V.int))) := (Same.refl H7).new nt1
      have h8 : upd H7 t1 (.tup ((netsW ls (dueW way)).map V.int)) t1 = some (.tup ((netsW ls (dueW way)).map V.int)) := upd_same
      generalize upd H7 t1 (.tup ((netsW ls (dueW way)).map V.int)) = H8 at s8 h8 ⊢
      have fv8 := fv.same s8
      have lt8 : ((netsW ls (dueW way)).map V.int).length ≤ 1000 := by rw [List.length_map]; omega
      have g8 : FV H8 false 1 (.ref t1) (.tuple ((netsW ls (dueW way)).map PyData.int)) := FV.tup h8 lt8 (fv_ints _)
      refine ⟨_, _, fv_dp fv8, fv_dp g8, fv_shaped fv8 (by omega), fv_shaped g8 (by omega), ?_⟩
      rw [(fv_good g8).2.2]
      refine ⟨_, rfl, iteT ?_⟩
      have ht8 := s8 _ _ ht
      refine ⟨_, rfl, q, CN, dx, _, _, rfl, s8 _ _ hq, RN.pc.cl, RN.pc.np, rfl, _, rfl, p, _, rfl, .inl ⟨SqL.of (s8 _ _ hp7), fun t2 nt2 => ⟨(by show 1 ≤ sizeLine; decide), fun t3 nt3 => ?_⟩⟩⟩
      have s9 : Same H8 (upd H8 t2 (.tup ((netsW ls (dueW way)).map V.int))) := (Same.refl H8).new nt2
      have h9 : upd H8 t2 (.tup ((netsW ls (dueW way)).map V.int)) t2 = some (.tup ((netsW ls (dueW way)).map V.int)) := upd_same
      generalize upd H8 t2 (.tup ((netsW ls (dueW way)).map V.int)) = H9 at s9 h9 nt3 ⊢
      have s10 : Same H9 (upd H9 t3 (.tup [.ref t2])) := (Same.refl H9).new nt3
      have h10 : upd H9 t3 (.tup [.ref t2]) t3 = some (.tup [.ref t2]) := upd_same
      generalize upd H9 t3 (.tup [.ref t2]) = H10 at s10 h10 ⊢
      have ga : FV H10 false 2 (.ref tt) (.tuple [.tuple ((netsW ls (dueW way)).map PyData.int)]) := FV.tup (s10 _ _ (s9 _ _ ht8)) (by show 1 ≤ 1000; decide) (.cons ((fv8.same s9).same s10) .nil)
      have gb : FV H10 false 2 (.ref t3) (.tuple [.tuple ((netsW ls (dueW way)).map PyData.int)]) := FV.tup h10 (by show 1 ≤ 1000; decide) (.cons (FV.tup (s10 _ _ h9) lt8 (fv_ints _)) .nil)
      refine ⟨_, _, fv_dp ga, fv_dp gb, fv_shaped ga (by omega), fv_shaped gb (by omega), ?_⟩
      rw [(fv_good ga).2.2]
      exact k _ (((s07.trans s8).trans s9).trans s10)
    · refine ⟨(by show 2 ≤ sizeLine; decide), fun t0 nt0 => ⟨t0, _, rfl, .inl (.inl upd_same), rfl, _, _, rfl, _, _, rfl, rfl, ?_⟩⟩
      have s6 : Same H5 (upd H5 t0 (.tup [.ref p, .ref q])) := (Same.refl H5).new nt0
      generalize upd H5 t0 (.tup [.ref p, .ref q]) = H6 at s6 ⊢
      have s26 := ((s3.trans s4).trans s5).trans s6
      have hp6 := s26 _ _ hp
      have nl : (netsW ls (dueW way)).length = (dueW way).length := by
        unfold netsW
        rw [List.length_map]
      have nn := netsW_nn ls (dueW way)
      refine ⟨_, rfl, p, netsW ls (dueW way), rfl, hp6, by omega, by omega, nn, fun H7 s7 => ⟨_, rfl, ?_⟩⟩
      rw [e1]
      refine iteF ?_
      have s06 := s02.trans s26
      have s07 := s06.trans s7
      have gr7 := gr5.ext (ExtN.of (s6.trans s7))
      have hp7 := s7 _ _ hp6
      have due7 := due.same ((s2.trans s26).trans s7)
      obtain ⟨lv, pg, fv⟩ := id gr7
      obtain ⟨dx, tt, hq, ht⟩ := id pg
      obtain ⟨alt, _⟩ := atN_lt e1
      refine ⟨_, rfl, .ref q, .ref CG, .ref CG, .ref CG, true, rfl, .own _, .base (.ins hq EG.cl EG.ha EG.hn EG.htk EG.hm), EG.me, _, rfl, iteF ?_⟩
      refine ⟨_, rfl, .ref q, .ref aD, .ref CG, .ref aD, true, rfl, .own _, .base (.ins hq EG.cl EG.ha EG.hn EG.htk EG.hm), KN.gd, _, rfl, iteF ?_⟩
      refine ⟨_, rfl, q, CG, dx, _, rfl, hq, BG.f, BG.fn, _, rfl, false, rfl, iteF ?_⟩
      refine ⟨_, rfl, q, CG, dx, _, _, rfl, hq, TGC.pc.cl, TGC.pc.nw, rfl, rfl, _, rfl, iteF ?_⟩
      -- the index of the net that is too great
      refine ⟨_, rfl, p, _, rfl, SqL.of hp7, fun D hD => ?_⟩
      refine lc_it walk_enum (fun j H' => Same H7 H' ∧ H' D = some (.lst ((if atN (netsW ls (dueW way)) < j then [(atN (netsW ls (dueW way)) : Int)] else []).map V.int))) ⟨(Same.refl H7).new hD, upd_same⟩ (fun j H' _ z => z.1.seq (SqL.of hp7)) ?_ ?_
      · rintro j y H8 H9 hj ⟨s8, h8⟩ ⟨U, x1, x2, rfl, hU, rfl, z1, z2⟩
        obtain rfl := (Option.some.inj z1).symm
        obtain ⟨m, hm, rfl⟩ := int_at z2
        have hDU : D ≠ U := ne_of_none h8 hU
        have s9 : Same H7 (upd H8 U (.tup [.int (j : Nat), .int m])) := s8.new hU
        refine ⟨U, _, rfl, .inl (.inl upd_same), rfl, _, _, rfl, _, _, rfl, rfl, rfl, _, rfl, _, rfl, p, _, rfl, s9.seq (SqL.of hp7), _, rfl, _, _, rfl, rfl, _, _, rfl, rfl, _, rfl, ?_⟩
        have ao := at_only nn e1 hm
        by_cases c : j = atN (netsW ls (dueW way))
        · refine iteDT (ao.mpr c) ⟨_, rfl, _, by rw [upd_ne hDU]; exact h8, ?_, s9.mut hD, ?_⟩
          · rw [if_neg (by omega)]
            exact sm (by show 0 ≤ 10000; decide)
          · rw [upd_same, if_neg (by omega), if_pos (by omega), c]
            rfl
        · refine iteDF (fun z => c (ao.mp z)) ⟨s9, ?_⟩
          rw [upd_ne hDU, h8]
          by_cases c2 : atN (netsW ls (dueW way)) < j
          · rw [if_pos c2, if_pos (by omega)]
          · rw [if_neg c2, if_neg (by omega)]
      · rintro H8 ⟨s8, h8⟩
        rw [List.length_map, if_pos alt] at h8
        obtain ⟨da, dxs, rfl, hda, pdx⟩ := id due7
        have dxl : dxs.length = (dueW way).length := par_len pdx
        obtain ⟨y, hy⟩ : ∃ y, dxs[atN (netsW ls (dueW way))]? = some y := ⟨_, List.getElem?_eq_getElem (by omega)⟩
        obtain ⟨st, hst, sa, zs, rfl, hsa, pz⟩ := par_get pdx hy
        have est : (dueW way).getD (atN (netsW ls (dueW way))) [] = st := by rw [List.getD_eq_getElem?_getD, hst]; rfl
        rw [est] at fv
        have st8 := (gd.st st (List.mem_of_getElem? hst)).2.1
        have zl : zs.length = st.length := par_len pz
        have gn := getD_at (d := (0 : Int)) alt
        have gv : atI ((netsW ls (dueW way)).map V.int) (atN (netsW ls (dueW way)) : Nat) = some (.int ((netsW ls (dueW way)).getD (atN (netsW ls (dueW way))) 0)) := atI_nat (by rw [List.getElem?_map, gn]; rfl)
        generalize hmx : (netsW ls (dueW way)).getD (atN (netsW ls (dueW way))) 0 = mx at pg gv gn hq ht
        have at0 : atI ([(atN (netsW ls (dueW way)) : Int)].map V.int) 0 = some (.int (atN (netsW ls (dueW way)) : Nat)) := rfl
        have hsa8 := s8 _ _ hsa
        refine ⟨_, rfl, _, rfl, D, _, _, _, rfl, rfl, SqL.of h8, at0, da, _, _, _, rfl, rfl, sqT_of (s8 _ _ hda), atI_nat hy, sa, rfl, ⟨_, sqT_of hsa8⟩, fun D2 hD2 => ?_⟩
        refine lc_tup (K := K) (a := sa) (xs := zs) (fun i G => Same H8 G ∧ G D2 = some (.lst (((st.take i).map (·.1)).map V.int))) ⟨(Same.refl H8).new hD2, upd_same⟩ (fun i G _ z => sqT_of (z.1 _ _ hsa8)) ?_ ?_
        · rintro i z G hi ⟨s9, h9⟩
          have hil : i < zs.length := (List.getElem?_eq_some_iff.mp hi).1
          obtain ⟨u, hu, c, rfl, hc⟩ := par_get pz hi
          refine ⟨c, _, rfl, .inl (.inl (s9 _ _ (s8 _ _ hc))), rfl, _, _, rfl, _, _, rfl, rfl, rfl, _, rfl, _, h9, ?_, s9.mut hD2, ?_⟩
          · rw [List.length_map, List.length_map, List.length_take]
            exact sm (by omega)
          · rw [upd_same, ← take_snoc hu, List.map_append, List.map_append]
            rfl
        rintro H9 ⟨s9, h9⟩
        rw [zl, List.take_length] at h9
        refine ⟨D2, _, rfl, .inl ⟨SqL.of h9, fun t1 nt1 => ?_⟩⟩
        have s10 : Same H9 (upd H9 t1 (.tup ((st.map (·.1)).map V.int))) := (Same.refl H9).new nt1
        have h10 : upd H9 t1 (.tup ((st.map (·.1)).map V.int)) t1 = some (.tup ((lotI st).map V.int)) := upd_same
        generalize upd H9 t1 (.tup ((st.map (·.1)).map V.int)) = H10 at s10 h10 ⊢
        have sA := (s8.trans s9).trans s10
        have hD10 := s10 _ _ (s9 _ _ h8)
        have hp10 := sA _ _ hp7
        have hq10 := sA _ _ hq
        have fv10 := fv.same sA
        have ht10 := sA _ _ ht
        have ll : ((lotI st).map V.int).length ≤ 1000 := by
          unfold lotI
          rw [List.length_map, List.length_map]
          omega
        refine ⟨_, rfl, D, _, rfl, .inl (SqL.of hD10), rfl, _, rfl, iteDT rfl ?_⟩
        refine ⟨_, rfl, q, CG, dx, _, _, rfl, hq10, TGC.pc.cl, TGC.pc.np, rfl, _, rfl, _, rfl, _, rfl, D, _, _, _, rfl, rfl, SqL.of hD10, at0, p, _, _, _, rfl, rfl, SqL.of hp10, gv, _, rfl, p, _, rfl, SqL.of hp10, _, rfl, _, rfl, D, _, _, _, rfl, rfl, SqL.of hD10, at0, p, _, _, _, rfl, rfl, SqL.of hp10, gv, _, _, rfl, rfl, (by show 3 ≤ sizeLine; decide), fun t3 nt3 => ?_⟩
        have s11 : Same H10 (upd H10 t3 (.tup [.ref t1, .int mx, .int ((netsW ls (dueW way)).sum - mx)])) := (Same.refl H10).new nt3
        have h11 : upd H10 t3 (.tup [.ref t1, .int mx, .int ((netsW ls (dueW way)).sum - mx)]) t3 = some (.tup [.ref t1, .int mx, .int ((netsW ls (dueW way)).sum - mx)]) := upd_same
        have hq11 := s11 _ _ hq10
        have ga : FV (upd H10 t3 (.tup [.ref t1, .int mx, .int ((netsW ls (dueW way)).sum - mx)])) false 2 (.ref tt) (.tuple [.tuple ((lotI st).map PyData.int), .int mx, .int ((netsW ls (dueW way)).sum - mx)]) := FV.tup (s11 _ _ ht10) (by show 3 ≤ 1000; decide) (.cons (fv10.same s11) (.cons (FV.int _) (.cons (FV.int _) .nil)))
        have gb : FV (upd H10 t3 (.tup [.ref t1, .int mx, .int ((netsW ls (dueW way)).sum - mx)])) false 2 (.ref t3) (.tuple [.tuple ((lotI st).map PyData.int), .int mx, .int ((netsW ls (dueW way)).sum - mx)]) := FV.tup h11 (by show 3 ≤ 1000; decide) (.cons (FV.tup (s11 _ _ h10) ll (fv_ints _)) (.cons (FV.int _) (.cons (FV.int _) .nil)))
        refine ⟨_, _, fv_dp ga, fv_dp gb, fv_shaped ga (by omega), fv_shaped gb (by omega), ?_⟩
        rw [(fv_good ga).2.2]
        refine ⟨_, rfl, iteT ?_⟩
        refine ⟨_, rfl, q, CG, dx, _, _, rfl, hq11, TGC.pc.cl, TGC.n1, rfl, _, rfl, q, CG, dx, _, _, rfl, hq11, TGC.pc.cl, TGC.n2, rfl, _, rfl, q, CG, dx, _, _, rfl, hq11, TGC.pc.cl, TGC.n3, rfl, (by show 3 ≤ sizeLine; decide), fun t4 nt4 => ?_⟩
        have s12 : Same (upd H10 t3 (.tup [.ref t1, .int mx, .int ((netsW ls (dueW way)).sum - mx)])) (upd (upd H10 t3 (.tup [.ref t1, .int mx, .int ((netsW ls (dueW way)).sum - mx)])) t4 (.tup [lv, .int mx, .int ((netsW ls (dueW way)).sum - mx)])) := (Same.refl _).new nt4
        have gc := ga.same s12
        have ge : FV (upd (upd H10 t3 (.tup [.ref t1, .int mx, .int ((netsW ls (dueW way)).sum - mx)])) t4 (.tup [lv, .int mx, .int ((netsW ls (dueW way)).sum - mx)])) false 2 (.ref t4) (.tuple [.tuple ((lotI st).map PyData.int), .int mx, .int ((netsW ls (dueW way)).sum - mx)]) := FV.tup upd_same (by show 3 ≤ 1000; decide) (.cons ((fv10.same s11).same s12) (.cons (FV.int _) (.cons (FV.int _) .nil)))
        refine ⟨_, rfl, q, CG, dx, _, _, rfl, s12 _ _ hq11, TGC.pc.cl, TGC.pc.np, rfl, _, _, fv_dp ge, fv_dp gc, fv_shaped ge (by omega), fv_shaped gc (by omega), ?_⟩
        rw [(fv_good gc).2.2]
        exact k _ (((s07.trans sA).trans s11).trans s12)
end
end K
namespace K
open PySem L2 Rg LamX
open Evl (pss_cut)
theorem par_set {α β : Type} {R S : α → β → Prop} {x : α} {b' : β} (hs : S x b') (hi : ∀ u b, u ≠ x → R u b → S u b) : ∀ {xs : List α} {ys : List β} {i : Nat}, Paired R xs ys → xs.Nodup → xs[i]? = some x → Paired S xs (ys.set i b')
  | u :: xs, y :: ys, 0, .cons h t, nd, e => by
    cases e
    refine .cons hs ?_
    have nx := (List.nodup_cons.mp nd).1
    clear nd h
    induction t with
    | nil => exact .nil
    | cons h _ ih => exact .cons (hi _ _ (fun e => nx (by rw [e]; exact List.mem_cons_self ..)) h) (ih fun z => nx (List.mem_cons_of_mem _ z))
  | u :: xs, y :: ys, i + 1, .cons h t, nd, e => by
    have e' : xs[i]? = some x := by simpa using e
    refine .cons (hi _ _ (fun z => (List.nodup_cons.mp nd).1 (by rw [z]; exact List.mem_of_getElem? e')) h) (par_set hs hi t (List.nodup_cons.mp nd).2 e')
theorem par_memi {α β : Type} {R S : α → β → Prop} : ∀ {xs : List α} {ys : List β}, (∀ x y, x ∈ xs → R x y → S x y) → Paired R xs ys → Paired S xs ys
  | _, _, _, .nil => .nil
  | _, _, i, .cons h t => .cons (i _ _ (List.mem_cons_self ..) h) (par_memi (fun x y m => i x y (List.mem_cons_of_mem _ m)) t)
theorem flat_set {q : Int × Int} : ∀ {way : List Strd} {i : Nat} {st : Strd}, way[i]? = some st → (flatB (way.set i (st ++ [q]))).Perm (flatB way ++ [q.1])
  | s :: way, 0, st, e => by
    cases e
    unfold flatB
    simp only [List.set_cons_zero, List.flatMap_cons, List.map_append, List.map_cons, List.map_nil, List.append_assoc]
    exact List.Perm.append_left _ List.perm_append_comm
  | s :: way, i + 1, st, e => by
    have ih := flat_set (q := q) (way := way) (i := i) (st := st) (by simpa using e)
    unfold flatB at ih ⊢
    simp only [List.set_cons_succ, List.flatMap_cons, List.append_assoc]
    exact List.Perm.append_left _ ih
theorem len_flat : ∀ {way : List Strd}, (∀ st ∈ way, st ≠ []) → way.length ≤ (flatB way).length ∧ ∀ st ∈ way, st.length ≤ (flatB way).length
  | [], _ => ⟨Nat.le_refl _, fun _ m => nomatch m⟩
  | s :: way, h => by
    have ih := len_flat (way := way) fun st m => h st (List.mem_cons_of_mem _ m)
    have h0 := List.length_pos_iff.mpr (h s (List.mem_cons_self ..))
    have e : (flatB (s :: way)).length = s.length + (flatB way).length := by
      unfold flatB
      rw [List.flatMap_cons, List.length_append, List.length_map]
    refine ⟨by rw [List.length_cons, e]; omega, fun st m => ?_⟩
    rcases List.mem_cons.mp m with rfl | m
    · omega
    · have := ih.2 st m
      omega
theorem rngI_succ (j : Nat) : rngI (j + 1) = rngI j ++ [(j : Int)] := by
  unfold rngI
  rw [List.range_succ, List.map_append]
  rfl
theorem LSt.upd {H : Hp} {a : Addr} {us ws : List V} {v : V} {q : Strd} (h : LSt H v q) (ne : v ≠ .ref a) (hD : H a = some (.lst us)) : LSt (upd H a (.lst ws)) v q := by
  obtain ⟨b, xs, rfl, z, p⟩ := h
  refine ⟨b, xs, rfl, ?_, par_imp (fun _ _ k => k.mut hD) p⟩
  rw [upd_ne fun e => ne (by rw [e])]
  exact z
section
variable {K : PySem.W.Frag} {H H' : Hp} {p : Addr} {e : Addr × List Int} {n : Nat}
/-- strands are no pen -/
theorem SPat.but {v : V} {q : Int × Int} (h : SPat H v q) (pen : PenAt K H p e n) (b : But p H H') : SPat H' v q := by
  obtain ⟨a, rfl, z⟩ := h
  obtain ⟨px, hp⟩ := pen.some
  exact ⟨a, rfl, b _ _ (fun k => by rw [k, hp] at z; cases z) z⟩
theorem LSt.but {v : V} {q : Strd} (h : LSt H v q) (pen : PenAt K H p e n) (b : But p H H') : LSt H' v q := by
  obtain ⟨a, xs, rfl, z, px⟩ := h
  refine ⟨a, xs, rfl, b _ _ (fun k => ?_) z, par_imp (fun _ _ k => k.but pen b) px⟩
  obtain ⟨at', rest, h1, _⟩ := pen.ex
  rw [k, h1] at z
  cases z
  cases px with
  | cons _ t => cases t with
    | cons h _ =>
      obtain ⟨c, e, _⟩ := h
      cases e
theorem LWy.but {v : V} {q : List Strd} (h : LWy H v q) (pen : PenAt K H p e n) (b : But p H H') : LWy H' v q := by
  obtain ⟨a, xs, rfl, z, px⟩ := h
  refine ⟨a, xs, rfl, b _ _ (fun k => ?_) z, par_imp (fun _ _ k => k.but pen b) px⟩
  obtain ⟨at', rest, h1, _⟩ := pen.ex
  rw [k, h1] at z
  cases z
  cases px with
  | cons _ t => cases t with
    | cons h _ =>
      obtain ⟨c, _, e, _⟩ := h
      cases e
end
section
variable {P : Program} {w : World} {K : PySem.W.Frag} {mg : Str → Option Value} {base : Heap}
/-! ### _law_strands -/
def spSD (K : PySem.W.Frag) : Sp := fun vs H Q _ => ∃ (p : Addr) (e : Addr × List Int) (m n : Nat), vs = [.ref p, .int (m : Nat)] ∧ 3 ≤ m ∧ m ≤ 8 ∧ n < 800000 ∧ PenAt K H p e n ∧
  ∀ (v : V) (way : List Strd) (H' : Hp), goodV m way → LWy H' v way → But p H H' → PenAt K H' p e (n + 20) → Q v H'
abbrev nSD : List Str := ["_law_bench_here", "_law_many", "_law_found", "_law_most", "_law_bar", "_law_at", "_law_pair"]
theorem scSD : FnScope nSD ["_law_bench_here", "_law_many"] (defScope sLwStrands) := ⟨rfl, rfl, rfl, by decide +kernel, rfl, by decide +kernel, by decide +kernel⟩
theorem ok_sd {f fD fP : Addr} {fd fdD fdP : FuncData} (F : Fun K "_law_strands" "_law_strands" sLwStrands f fd) (T : Bi mg) (D : DrawAt P w K mg base fD fdD) (PK : DefAt P w K mg base CX0 3 "_law_pick" ["_law_bench_here", "_law_some"] (spPick K) fP fdP) : FnOk P w K mg base CX0 4 f fd ["_law_bench_here", "_law_many"] (spSD K) := by
  refine F.ok scSD (fun vs H Q E h => ?_) (fun cdv A outer s H vs Q E hr h => ?_)
  · obtain ⟨p, e, m, n, rfl, _⟩ := h
    rfl
  · have nd := scSD.nd
    refine ⟨_, (pss_cons (ps_par (i := 2) (j := 3) (by rfl) nd rfl rfl (by decide) rfl rfl (pa_cons (pe_lst pa_nil) (pa_cons (pe_call PK.ok (hr.mono (by decide)) rfl PK.g PK.kp PK.b .nil pass0 (pa_cons (pv 0) (pa_cons (pe_lst (pa_cons pe_int (pa_cons pe_int (pa_cons pe_int (pa_cons pe_int (pa_cons pe_int (pa_cons (pv 1) pa_nil))))))) pa_nil))) pa_nil)) (by rfl))
      (pss_cons (ps_for PassesOwn.never rfl (pi_range1 (by rfl) T.range (pa_cons (pv 1) pa_nil)) (pg_name (i := 4) nd rfl (Or.inl rfl)) (pss_cons (ps_par (i := 5) (j := 6) (by rfl) nd rfl rfl (by decide) rfl rfl (pa_cons (pe_call D.ok (hr.mono (by decide)) rfl D.g D.kp D.b .nil pass0 (pa_cons (pv 0) (pa_cons (pv 3) pa_nil))) (pa_cons (pe_tup (pa_cons (pv 4) (pa_cons (pe_op op_sub pe_int (pe_op op_mul pe_int (pe_call D.ok (hr.mono (by decide)) rfl D.g D.kp D.b .nil pass0 (pa_cons (pv 0) (pa_cons pe_int pa_nil))))) pa_nil))) pa_nil)) (by rfl))
      (pss_one (ps_if (pt_cmpR op_lt (pv 5) (pe_callB (r := rLenS K) call_len_seq (by rfl) T.len PySem.boot_len (pa_cons (pv 2) pa_nil)) (nomark _)) (pss_one (ps_expr (pe_bm PySem.F.plainAttrs_list PySem.F.slot_list_append PySem.F.type_list_append mt_append (pe_ix (r := rIxL K) ix_list (pv 2) (pv 5) (fun _ _ => rfl)) (pa_cons (pv 6) pa_nil)))) (pss_one (ps_expr (pe_bm PySem.F.plainAttrs_list PySem.F.slot_list_append PySem.F.type_list_append mt_append (pv 2) (pa_cons (pe_lst (pa_cons (pv 6) pa_nil)) pa_nil))))))))
      (pss_one (ps_ret (pv 2))))), ?_⟩
    obtain ⟨p, e, m, n, rfl, m3, m8, hn, pen, k⟩ := h
    refine ⟨(by show 0 ≤ sizeLine; decide), fun g hg => ?_⟩
    have s0 : Same H (upd H g (.lst [])) := (Same.refl H).new hg
    have hg0 : upd H g (.lst []) g = some (.lst []) := upd_same
    have gp : g ≠ p := pen.ne hg
    generalize upd H g (.lst []) = H0 at s0 hg0 ⊢
    refine ⟨_, rfl, _, rfl, (by show 6 ≤ sizeLine; decide), fun l hl => ?_⟩
    have s1 : Same H0 (upd H0 l (.lst (([1, 2, 3, 3, 4, (m : Int)] : List Int).map V.int))) := (Same.refl H0).new hl
    have h1 : upd H0 l (.lst (([1, 2, 3, 3, 4, (m : Int)] : List Int).map V.int)) l = some (.lst (([1, 2, 3, 3, 4, (m : Int)] : List Int).map V.int)) := upd_same
    have lp : l ≠ p := (pen.same s0).ne hl
    refine ⟨p, l, e, ([1, 2, 3, 3, 4, (m : Int)] : List Int).map V.int, n, rfl, SqL.of h1, lp, (by show 1 ≤ 6; decide), (by show 6 ≤ 1000; decide), by omega, (pen.same s0).same s1, fun i mv H1 hi b1 pen1 => ?_⟩
    obtain ⟨mo, hmo, rfl⟩ := int_at hi
    have mob : 1 ≤ mo ∧ mo ≤ 8 := by
      have := List.mem_of_getElem? hmo
      simp only [List.mem_cons, List.not_mem_nil, or_false] at this
      omega
    have bH : But p H H1 := fun b o nb hb => b1 _ _ nb (s1 _ _ (s0 _ _ hb))
    have hg1 : H1 g = some (.lst []) := b1 _ _ gp (s1 _ _ hg0)
    refine ⟨_, _, rfl, _, rfl, _, rfl, by omega, by omega, ?_⟩
    refine for_range (lo := 0) (n := ((m : Nat) : Int).toNat) (fun j σ H' => ∃ (way : List Strd) (xs : List V) (z1 z2 z3 : Option V), σ = [some (.ref p), some (.int (m : Nat)), some (.ref g), some (.int mo), z1, z2, z3] ∧ H' g = some (.lst xs) ∧ Paired (LSt H') xs way ∧ xs.Nodup ∧
      (∀ x ∈ xs, ∃ a, x = .ref a ∧ H a = none ∧ a ≠ g) ∧ (∀ st ∈ way, st ≠ [] ∧ ∀ q ∈ st, q.2 = 1 ∨ q.2 = -1) ∧ (flatB way).Perm (rngI j) ∧ But p H H' ∧ PenAt K H' p e (n + 1 + 2 * j))
      ⟨[], [], none, none, none, rfl, hg1, .nil, List.nodup_nil, (fun x hx => nomatch hx), (fun x hx => nomatch hx), List.Perm.refl _, bH, pen1⟩ ?_ ?_
    · rintro j σ H2 hj ⟨way, xs, z1, z2, z3, rfl, h2, px, ndx, fr, gs, pm, b2, pen2⟩
      have hj' : j < m := by omega
      have fl : (flatB way).length = j := by rw [pm.length_eq, rngI_len]
      have lf := len_flat (way := way) fun st hst => (gs st hst).1
      have xl := par_len px
      refine ⟨_, rfl, _, rfl, p, e, mo, _, rfl, by omega, by omega, by omega, pen2, fun r H3 r0 r1 b3 pen3 => ?_⟩
      refine ⟨_, rfl, _, rfl, p, e, 2, _, rfl, by omega, by omega, by omega, pen3, fun c H4 c0 c1 b4 pen4 => ?_⟩
      have b24 : But p H2 H4 := fun b o nb hb => b4 _ _ nb (b3 _ _ nb hb)
      have px4 := par_imp (fun _ _ z => LSt.but z pen2 b24) px
      have h4 := b24 _ _ gp h2
      have bH4 : But p H H4 := fun b o nb hb => b24 _ _ nb (b2 _ _ nb hb)
      refine ⟨_, _, rfl, rfl, .inr ⟨by omega, by omega⟩, _, _, rfl, rfl, (by show 2 ≤ sizeLine; decide), fun t nt => ⟨_, _, rfl, ?_⟩⟩
      have s5 : Same H4 (upd H4 t (.tup [.int (0 + (j : Nat)), .int (1 - 2 * c)])) := (Same.refl H4).new nt
      have h5 : upd H4 t (.tup [.int (0 + (j : Nat)), .int (1 - 2 * c)]) t = some (.tup [.int (0 + (j : Nat)), .int (1 - 2 * c)]) := upd_same
      have pen5 := pen4.same s5
      have bH5 : But p H (upd H4 t (.tup [.int (0 + (j : Nat)), .int (1 - 2 * c)])) := fun b o nb hb => s5 _ _ (bH4 _ _ nb hb)
      have px5 := par_imp (fun _ _ z => LSt.same z s5) px4
      have hg5 := s5 _ _ h4
      have sp5 : SPat (upd H4 t (.tup [.int (0 + (j : Nat)), .int (1 - 2 * c)])) (.ref t) ((j : Int), 1 - 2 * c) := ⟨t, rfl, by rw [h5, Int.zero_add]⟩
      have sgq : (1 - 2 * c : Int) = 1 ∨ (1 - 2 * c : Int) = -1 := by omega
      generalize upd H4 t (.tup [.int (0 + (j : Nat)), .int (1 - 2 * c)]) = H5 at s5 pen5 bH5 px5 hg5 sp5 ⊢
      refine ⟨_, rfl, _, rfl, g, _, rfl, .inl (SqL.of hg5), _, _, rfl, rfl, _, rfl, ?_⟩
      by_cases c2 : r < (xs.length : Int)
      · refine iteDT c2 ?_
        have hrl : r.toNat < xs.length := by omega
        obtain ⟨x, hx⟩ : ∃ x, xs[r.toNat]? = some x := ⟨_, List.getElem?_eq_getElem hrl⟩
        obtain ⟨st, hst, la⟩ := par_get px5 hx
        obtain ⟨a, us, rfl, ha, pu⟩ := id la
        obtain ⟨a', ea, na, ag⟩ := fr _ (List.mem_of_getElem? hx)
        cases ea
        have st8 := lf.2 st (List.mem_of_getElem? hst)
        have ul := par_len pu
        refine ⟨_, rfl, _, rfl, g, _, r, _, rfl, rfl, SqL.of hg5, at_of (j := r.toNat) (by omega) hx, .inl ⟨rfl, _, SqL.of ha⟩, _, rfl, a, us, _, rfl, rfl, ha, szl (by omega), ?_⟩
        refine ⟨way.set r.toNat (st ++ [((j : Int), 1 - 2 * c)]), xs, _, _, _, rfl, by rw [upd_ne (fun e => ag e.symm)]; exact hg5, ?_, ndx, fr, ?_, ?_, bH5.mut na, pen.mut (pen5.mono (by omega)) bH5 na⟩
        · refine par_set (R := LSt H5) ?_ (fun u b ne l => l.upd ne ha) px5 ndx hx
          exact ⟨a, _, rfl, upd_same, par_app (par_imp (fun _ _ z => z.mut ha) pu) (.cons (sp5.mut ha) .nil)⟩
        · intro q hq
          rcases List.mem_or_eq_of_mem_set hq with hq | rfl
          · exact gs q hq
          · refine ⟨by simp, fun u hu => ?_⟩
            rcases List.mem_append.mp hu with hu | hu
            · exact (gs st (List.mem_of_getElem? hst)).2 u hu
            · rw [List.mem_singleton.mp hu]
              exact sgq
        · rw [rngI_succ]
          exact (flat_set hst).trans (pm.append_right _)
      · refine iteDF c2 ?_
        refine ⟨_, rfl, .inl ⟨rfl, _, SqL.of hg5⟩, _, rfl, (by show 1 ≤ sizeLine; decide), fun D nD => ?_⟩
        have s6 : Same H5 (upd H5 D (.lst [.ref t])) := (Same.refl H5).new nD
        have h6 : upd H5 D (.lst [.ref t]) D = some (.lst [.ref t]) := upd_same
        have nDH : H D = none := by
          cases e : H D with
          | none => rfl
          | some o =>
            have dp : D ≠ p := pen5.ne nD
            have := bH5 _ _ dp e
            rw [nD] at this
            cases this
        have Dg : D ≠ g := fun z => by rw [z, hg5] at nD; cases nD
        have bH6 := bH5.mut (o := .lst [.ref t]) nDH
        have px6 := par_imp (fun _ _ z => LSt.same z s6) px5
        have hg6 := s6 _ _ hg5
        have sp6 := sp5.same s6
        have pen6 := pen5.same s6
        have nm : V.ref D ∉ xs := fun z => by
          obtain ⟨st, _, a, us, e1, e2, _⟩ := par_mem px5 z
          cases e1
          rw [nD] at e2
          cases e2
        generalize upd H5 D (.lst [.ref t]) = H6 at s6 h6 bH6 px6 hg6 sp6 pen6 ⊢
        refine ⟨g, xs, _, rfl, rfl, hg6, szl (by omega), ?_⟩
        refine ⟨way ++ [[((j : Int), 1 - 2 * c)]], xs ++ [.ref D], _, _, _, rfl, upd_same, ?_, ?_, ?_, ?_, ?_, bH6.mut hg, pen.mut (pen6.mono (by omega)) bH6 hg⟩
        · refine par_app ?_ (.cons ?_ .nil)
          · have gx : ∀ x ∈ xs, x ≠ .ref g := fun x hx e => by
              obtain ⟨a, ea, _, ag⟩ := fr x hx
              rw [e] at ea
              cases ea
              exact ag rfl
            exact par_memi (fun x y hx l => l.upd (gx x hx) hg6) px6
          · exact LSt.upd ⟨D, _, rfl, h6, .cons sp6 .nil⟩ (fun e => Dg (V.ref.inj e)) hg6
        · refine List.nodup_append.mpr ⟨ndx, by simp, fun a ha b hb e => nm ?_⟩
          rw [List.mem_singleton] at hb
          rw [← hb, ← e]
          exact ha
        · intro x hx
          rcases List.mem_append.mp hx with hx | hx
          · exact fr x hx
          · rw [List.mem_singleton] at hx
            exact ⟨D, hx, nDH, Dg⟩
        · intro q hq
          rcases List.mem_append.mp hq with hq | hq
          · exact gs q hq
          · rw [List.mem_singleton] at hq
            subst hq
            refine ⟨by simp, fun u hu => ?_⟩
            rw [List.mem_singleton.mp hu]
            exact sgq
        · rw [rngI_succ]
          unfold flatB at pm ⊢
          rw [List.flatMap_append]
          exact pm.append_right _
    · rintro σ H2 ⟨way, xs, z1, z2, z3, rfl, h2, px, ndx, fr, gs, pm, b2, pen2⟩
      rw [Int.toNat_natCast] at pm pen2
      have fl : (flatB way).length = m := by rw [pm.length_eq, rngI_len]
      have lf := len_flat (way := way) fun st hst => (gs st hst).1
      exact ⟨_, rfl, k (.ref g) way H2 ⟨fun st hst => ⟨(gs st hst).1, by have := lf.2 st hst; omega, (gs st hst).2⟩, by omega, pm⟩ ⟨g, xs, rfl, h2, px⟩ b2 (pen2.mono (by omega))⟩
end
end K
namespace K
open PySem L2 Rg LamX
open Evl (pss_cut)
/-- parted further, it is had if it was -/
def Finer (way way' : List Strd) : Prop := ∀ ls : List Int, hadN (netsW ls way) = true → hadN (netsW ls way') = true
theorem had_iff {ns : List Int} : hadN ns = true ↔ ∀ m ∈ ns, 2 * m ≤ ns.sum := by
  unfold hadN
  rw [List.all_eq_true]
  exact ⟨fun h m hm => of_decide_eq_true (h m hm), fun h m hm => decide_eq_true (h m hm)⟩
theorem had_perm {a b : List Int} (p : a.Perm b) : hadN a = hadN b := by
  rw [Bool.eq_iff_iff, had_iff, had_iff, sum_perm p]
  exact ⟨fun h m hm => h m (p.mem_iff.mpr hm), fun h m hm => h m (p.mem_iff.mp hm)⟩
theorem netsW_app (ls : List Int) (a b : List Strd) : netsW ls (a ++ b) = netsW ls a ++ netsW ls b := by
  unfold netsW
  rw [List.map_append]
theorem net_app (ls : List Int) (a b : Strd) : net ls (a ++ b) = net ls a + net ls b := by
  unfold net
  rw [List.map_append, List.sum_append]
theorem finer_of {A B : List Strd} {st a b : Strd} (h : (a ++ b).Perm st) : Finer (A ++ [st] ++ B) (A ++ [a, b] ++ B) := by
  intro ls q
  rw [had_iff] at q ⊢
  have e : net ls st = net ls a + net ls b := by rw [← net_perm h, net_app]
  have na := sum_nn (netsW_nn ls A)
  have nb := sum_nn (netsW_nn ls B)
  have e1 : (netsW ls (A ++ [st] ++ B)).sum = (netsW ls A).sum + absI (net ls st) + (netsW ls B).sum := by
    rw [netsW_app, netsW_app, List.sum_append, List.sum_append]
    simp [netsW]
  have e2 : (netsW ls (A ++ [a, b] ++ B)).sum = (netsW ls A).sum + (absI (net ls a) + absI (net ls b)) + (netsW ls B).sum := by
    rw [netsW_app, netsW_app, List.sum_append, List.sum_append]
    simp [netsW]
  rw [e1] at q
  rw [e2]
  have qs := q (absI (net ls st)) (by rw [netsW_app, netsW_app]; simp [netsW])
  rw [e] at qs q
  rw [absI_nat] at qs
  intro m hm
  rw [netsW_app, netsW_app] at hm
  have m1 : m ∈ netsW ls A ∨ m = absI (net ls a) ∨ m = absI (net ls b) ∨ m ∈ netsW ls B := by
    simp only [List.mem_append] at hm
    rcases hm with (hm | hm) | hm
    · exact .inl hm
    · simp [netsW] at hm
      rcases hm with hm | hm
      · exact .inr (.inl hm)
      · exact .inr (.inr (.inl hm))
    · exact .inr (.inr (.inr hm))
  rw [absI_nat, absI_nat] at m1 ⊢
  rcases m1 with hm | hm | hm | hm
  · have := q m (by rw [netsW_app, netsW_app]; exact List.mem_append_left _ (List.mem_append_left _ hm))
    rw [absI_nat] at this
    omega
  · omega
  · omega
  · have := q m (by rw [netsW_app, netsW_app]; exact List.mem_append_right _ hm)
    rw [absI_nat] at this
    omega
theorem Finer.refl (w : List Strd) : Finer w w := fun _ h => h
theorem flat_app (a b : List Strd) : flatB (a ++ b) = flatB a ++ flatB b := by
  unfold flatB
  rw [List.flatMap_append]
theorem split_at {α : Type} {l : List α} {i : Nat} {x : α} (h : l[i]? = some x) : l.take i ++ [x] ++ l.drop (i + 1) = l := by
  obtain ⟨hi, rfl⟩ := List.getElem?_eq_some_iff.mp h
  rw [List.append_assoc]
  show l.take i ++ l[i] :: l.drop (i + 1) = l
  rw [List.getElem_cons_drop, List.take_append_drop]
theorem good_part {m : Nat} {A B : List Strd} {st a b : Strd} (g : goodV m (A ++ [st] ++ B)) (m8 : m ≤ 8) (h : (a ++ b).Perm st) (na : a ≠ []) (nb : b ≠ []) : goodV m (A ++ [a, b] ++ B) := by
  have gst := g.st st (by simp)
  have pm : (flatB (A ++ [a, b] ++ B)).Perm (rngI m) := by
    refine List.Perm.trans ?_ g.pm
    rw [flat_app, flat_app, flat_app, flat_app]
    refine List.Perm.append_right _ (List.Perm.append_left _ ?_)
    unfold flatB
    simp only [List.flatMap_cons, List.flatMap_nil, List.append_nil]
    rw [← List.map_append]
    exact h.map _
  have st1 : ∀ s ∈ A ++ [a, b] ++ B, s ≠ [] ∧ ∀ q ∈ s, q.2 = 1 ∨ q.2 = -1 := by
    intro s hs
    rw [List.mem_append, List.mem_append] at hs
    rcases hs with (hs | hs) | hs
    · have := g.st s (by simp [hs])
      exact ⟨this.1, this.2.2⟩
    · simp only [List.mem_cons, List.not_mem_nil, or_false] at hs
      rcases hs with rfl | rfl
      · exact ⟨na, fun q hq => gst.2.2 q (h.mem_iff.mp (List.mem_append_left _ hq))⟩
      · exact ⟨nb, fun q hq => gst.2.2 q (h.mem_iff.mp (List.mem_append_right _ hq))⟩
    · have := g.st s (by simp [hs])
      exact ⟨this.1, this.2.2⟩
  have lf := len_flat (way := A ++ [a, b] ++ B) fun s hs => (st1 s hs).1
  rw [pm.length_eq, rngI_len] at lf
  exact ⟨fun s hs => ⟨(st1 s hs).1, by have := lf.2 s hs; omega, (st1 s hs).2⟩, by omega, pm⟩
section
variable {P : Program} {w : World} {K : PySem.W.Frag} {mg : Str → Option Value} {base : Heap}
/-! ### _law_parted -/
def spPA (K : PySem.W.Frag) : Sp := fun vs H Q _ => ∃ (p : Addr) (v : V) (e : Addr × List Int) (way : List Strd) (m n : Nat), vs = [.ref p, v] ∧ LWy H v way ∧ goodV m way ∧ 3 ≤ m ∧ m ≤ 8 ∧ n < 800000 ∧ PenAt K H p e n ∧
  ∀ (v' : V) (way' : List Strd) (H' : Hp), goodV m way' → LWy H' v' way' → Finer way way' → But p H H' → PenAt K H' p e (n + 10) → Q v' H'
abbrev nPA : List Str := ["_law_bench_here", "_law_strands_here", "_law_at", "_law_rows", "_law_cut"]
theorem scPA : FnScope nPA ["_law_bench_here", "_law_strands_here"] (defScope sLwParted) := ⟨rfl, rfl, rfl, by decide +kernel, rfl, by decide +kernel, by decide +kernel⟩
theorem ok_pa {f fD fM : Addr} {fd fdD fdM : FuncData} (F : Fun K "_law_parted" "_law_parted" sLwParted f fd) (T : Bi mg) (D : DrawAt P w K mg base fD fdD) (MX : DefAt P w K mg base CX0 3 "_law_mixed" ["_law_bench_here", "_law_some"] (spMixed K) fM fdM) : FnOk P w K mg base CX0 4 f fd ["_law_bench_here", "_law_strands_here"] (spPA K) := by
  refine F.ok scPA (fun vs H Q E h => ?_) (fun cdv A outer s H vs Q E hr h => ?_)
  · obtain ⟨p, v, e, way, m, n, rfl, _⟩ := h
    rfl
  · have nd := scPA.nd
    refine ⟨_, (pss_cons (ps_set (i := 2) nd rfl (Or.inl rfl) (pe_call D.ok (hr.mono (by decide)) rfl D.g D.kp D.b .nil pass0 (pa_cons (pv 0) (pa_cons (pe_callB (r := rLenS K) call_len_seq (by rfl) T.len PySem.boot_len (pa_cons (pv 1) pa_nil)) pa_nil))))
      (pss_cons (ps_set (i := 3) nd rfl (Or.inl rfl) (pe_call MX.ok (hr.mono (by decide)) rfl MX.g MX.kp MX.b .nil pass0 (pa_cons (pv 0) (pa_cons (pe_ix (r := rIxL K) ix_list (pv 1) (pv 2) (fun _ _ => rfl)) pa_nil))))
      (pss_cons (ps_if (pt_cmpR op_lt (pe_callB (r := rLenS K) call_len_seq (by rfl) T.len PySem.boot_len (pa_cons (pv 3) pa_nil)) pe_int (nomark _)) (pss_one (ps_ret (pv 1))) pss_nil)
      (pss_cons (ps_set (i := 4) nd rfl (Or.inl rfl) (pe_op op_add pe_int (pe_call D.ok (hr.mono (by decide)) rfl D.g D.kp D.b .nil pass0 (pa_cons (pv 0) (pa_cons (pe_op op_sub (pe_callB (r := rLenS K) call_len_seq (by rfl) T.len PySem.boot_len (pa_cons (pv 3) pa_nil)) pe_int) pa_nil)))))
      (pss_one (ps_ret (pe_op op_cat (pe_op op_cat (pe_slice sl_list (pv 1) po_none (po_some (pv 2))) (pe_lst (pa_cons (pe_slice sl_list (pv 3) po_none (po_some (pv 4))) (pa_cons (pe_slice sl_list (pv 3) (po_some (pv 4)) po_none) pa_nil)))) (pe_slice sl_list (pv 1) (po_some (pe_op op_add (pv 2) pe_int)) po_none)))))))), ?_⟩
    obtain ⟨p, v, e, way, m, n, rfl, lw, gw, m3, m8, hn, pen, k⟩ := h
    obtain ⟨a, xs, rfl, ha, px⟩ := id lw
    have xl := par_len px
    have w8 := gw.ln
    have wp := good_pos gw (by omega)
    refine ⟨_, rfl, _, rfl, a, _, rfl, .inl (SqL.of ha), p, e, _, n, rfl, by omega, by omega, by omega, pen, fun r H1 r0 r1 b1 pen1 => ?_⟩
    have lw1 := lw.but pen b1
    obtain ⟨a1, xs1, ea, ha1, px1⟩ := id lw1
    cases ea
    have ap : a ≠ p := fun z => by
      obtain ⟨at', rest, h1, _⟩ := pen.ex
      rw [z, h1] at ha
      cases ha
      cases px with
      | cons _ t => cases t with
        | cons h _ =>
          obtain ⟨c, _, e, _⟩ := h
          cases e
    have hrl : r.toNat < xs1.length := by have := par_len px1; omega
    obtain ⟨x, hx⟩ : ∃ x, xs1[r.toNat]? = some x := ⟨_, List.getElem?_eq_getElem hrl⟩
    obtain ⟨st, hst, c, us, rfl, hc, pu⟩ := par_get px1 hx
    have gst := gw.st st (List.mem_of_getElem? hst)
    have st8 := gst.2.1
    have cp : c ≠ p := fun z => by
      obtain ⟨at', rest, h1, _⟩ := pen1.ex
      rw [z, h1] at hc
      cases hc
      cases pu with
      | cons _ t => cases t with
        | cons h _ =>
          obtain ⟨c, e, _⟩ := h
          cases e
    have ul := par_len pu
    refine ⟨_, rfl, _, rfl, _, rfl, a, _, r, _, rfl, rfl, SqL.of ha1, at_of (j := r.toNat) (by omega) hx, p, c, e, us, n + 1, rfl, SqL.of hc, cp, by omega, by omega, pen1, fun q ys H2 pm nq b2 hq pen2 => ?_⟩
    have pu2 := par_imp (fun _ _ z => SPat.but z pen1 b2) pu
    have py : Paired (SPat H2) ys (ys.map (pk H2)) := spat_of ys fun z hz => let ⟨q, _, h⟩ := par_mem pu2 (pm.mem_iff.mp hz); ⟨q, h⟩
    have rows : (ys.map (pk H2)).Perm st := by rw [← pk_map pu2]; exact pm.map _
    have yl : ys.length = st.length := by rw [pm.length_eq, ul]
    have lw2 := lw1.but pen1 b2
    have b02 : But p H H2 := fun b o nb hb => b2 _ _ nb (b1 _ _ nb hb)
    refine ⟨_, rfl, q, _, rfl, .inl (SqL.of hq), _, _, rfl, rfl, _, rfl, ?_⟩
    by_cases c2 : (ys.length : Int) < 2
    · refine iteDT c2 ⟨_, rfl, ?_⟩
      exact k _ way H2 gw lw2 (Finer.refl _) b02 (pen2.mono (by omega))
    · refine iteDF c2 ?_
      refine ⟨_, rfl, _, rfl, q, _, rfl, .inl (SqL.of hq), _, _, rfl, rfl, p, e, _, _, rfl, by omega, by omega, by omega, pen2, fun c3 H3 c30 c31 b3 pen3 => ?_⟩
      have qp : q ≠ p := pen1.ne nq
      have hq3 := b3 _ _ qp hq
      have lw3 := lw2.but pen2 b3
      have py3 := par_imp (fun _ _ z => SPat.but z pen2 b3) py
      have b03 : But p H H3 := fun b o nb hb => b3 _ _ nb (b02 _ _ nb hb)
      obtain ⟨a3, xs3, ea, ha3, px3⟩ := id lw3
      cases ea
      have xl3 := par_len px3
      obtain ⟨i, rfl⟩ := Int.eq_ofNat_of_zero_le r0
      obtain ⟨c4, rfl⟩ := Int.eq_ofNat_of_zero_le c30
      rw [Int.toNat_natCast] at hst
      refine ⟨_, _, rfl, rfl, ?_⟩
      obtain ⟨cu, hcu⟩ : ∃ cu : Nat, (1 : Int) + (c4 : Int) = (cu : Int) := ⟨1 + c4, by omega⟩
      -- the strands ahead
      refine ⟨_, rfl, _, rfl, (i : Int), rfl, a, _, rfl, SqL.of ha3, fun t1 n1 => ?_⟩
      rw [cutV_to]
      have s4 : Same H3 (upd H3 t1 (.lst (xs3.take i))) := (Same.refl H3).new n1
      have h4 : upd H3 t1 (.lst (xs3.take i)) t1 = some (.lst (xs3.take i)) := upd_same
      generalize upd H3 t1 (.lst (xs3.take i)) = H4 at s4 h4 ⊢
      -- the two parts
      refine ⟨_, rfl, _, rfl, ((1 : Int) + (c4 : Int)), rfl, q, _, rfl, SqL.of (s4 _ _ hq3), fun t2 n2 => ?_⟩
      rw [hcu, cutV_to]
      have s5 : Same H4 (upd H4 t2 (.lst (ys.take cu))) := (Same.refl H4).new n2
      have h5 : upd H4 t2 (.lst (ys.take cu)) t2 = some (.lst (ys.take cu)) := upd_same
      generalize upd H4 t2 (.lst (ys.take cu)) = H5 at s5 h5 ⊢
      refine ⟨_, rfl, _, rfl, ((1 : Int) + (c4 : Int)), rfl, q, _, rfl, SqL.of (s5 _ _ (s4 _ _ hq3)), fun t3 n3 => ?_⟩
      rw [cut_from _ hcu]
      have s6 : Same H5 (upd H5 t3 (.lst (ys.drop cu))) := (Same.refl H5).new n3
      have h6 : upd H5 t3 (.lst (ys.drop cu)) t3 = some (.lst (ys.drop cu)) := upd_same
      generalize upd H5 t3 (.lst (ys.drop cu)) = H6 at s6 h6 ⊢
      refine ⟨(by show 2 ≤ sizeLine; decide), fun t4 n4 => ?_⟩
      have s7 : Same H6 (upd H6 t4 (.lst [.ref t2, .ref t3])) := (Same.refl H6).new n4
      have h7 : upd H6 t4 (.lst [.ref t2, .ref t3]) t4 = some (.lst [.ref t2, .ref t3]) := upd_same
      generalize upd H6 t4 (.lst [.ref t2, .ref t3]) = H7 at s7 h7 ⊢
      refine ⟨t1, t4, _, _, rfl, rfl, s7 _ _ (s6 _ _ (s5 _ _ h4)), h7, ?_, fun t5 n5 => ?_⟩
      · rw [List.length_take]
        exact Nat.le_of_lt (szl (n := min i xs3.length + 2) (by omega))
      have s8 : Same H7 (upd H7 t5 (.lst (xs3.take i ++ [.ref t2, .ref t3]))) := (Same.refl H7).new n5
      have h8 : upd H7 t5 (.lst (xs3.take i ++ [.ref t2, .ref t3])) t5 = some (.lst (xs3.take i ++ [.ref t2, .ref t3])) := upd_same
      generalize upd H7 t5 (.lst (xs3.take i ++ [.ref t2, .ref t3])) = H8 at s8 h8 ⊢
      have s38 := (((s4.trans s5).trans s6).trans s7).trans s8
      have hi1 : ((i : Int) + 1) = ((i + 1 : Nat) : Int) := by omega
      refine ⟨_, rfl, _, rfl, _, _, rfl, rfl, ((i : Int) + 1), rfl, a, _, rfl, SqL.of (s38 _ _ ha3), fun t6 n6 => ?_⟩
      rw [cut_from _ hi1]
      have s9 : Same H8 (upd H8 t6 (.lst (xs3.drop (i + 1)))) := (Same.refl H8).new n6
      have h9 : upd H8 t6 (.lst (xs3.drop (i + 1))) t6 = some (.lst (xs3.drop (i + 1))) := upd_same
      generalize upd H8 t6 (.lst (xs3.drop (i + 1))) = H9 at s9 h9 ⊢
      refine ⟨t5, t6, _, _, rfl, rfl, s9 _ _ h8, h9, ?_, fun t7 n7 => ?_⟩
      · rw [List.length_append, List.length_take, List.length_drop]
        exact Nat.le_of_lt (szl (n := min i xs3.length + 2 + (xs3.length - (i + 1))) (by omega))
      have s10 : Same H9 (upd H9 t7 (.lst (xs3.take i ++ [.ref t2, .ref t3] ++ xs3.drop (i + 1)))) := (Same.refl H9).new n7
      have h10 : upd H9 t7 (.lst (xs3.take i ++ [.ref t2, .ref t3] ++ xs3.drop (i + 1))) t7 = some (.lst (xs3.take i ++ [.ref t2, .ref t3] ++ xs3.drop (i + 1))) := upd_same
      generalize upd H9 t7 (.lst (xs3.take i ++ [.ref t2, .ref t3] ++ xs3.drop (i + 1))) = H10 at s10 h10 ⊢
      have sB := (s38.trans s9).trans s10
      have hw := split_at hst
      have px10 := par_imp (fun _ _ z => LSt.same z sB) px3
      have py10 := par_imp (fun _ _ z => SPat.same z sB) py3
      have pAB : ((ys.map (pk H2)).take cu ++ (ys.map (pk H2)).drop cu).Perm st := by rw [List.take_append_drop]; exact rows
      have rl : (ys.map (pk H2)).length = ys.length := List.length_map _
      have na : (ys.map (pk H2)).take cu ≠ [] := fun z => by
        have := congrArg List.length z
        rw [List.length_take, rl, List.length_nil] at this
        omega
      have nb : (ys.map (pk H2)).drop cu ≠ [] := fun z => by
        have := congrArg List.length z
        rw [List.length_drop, rl, List.length_nil] at this
        omega
      have gw' := gw
      rw [← hw] at gw'
      refine k (.ref t7) (way.take i ++ [(ys.map (pk H2)).take cu, (ys.map (pk H2)).drop cu] ++ way.drop (i + 1)) H10 (good_part gw' m8 pAB na nb) ?_ ?_ (fun b o nb hb => sB _ _ (b03 _ _ nb hb)) ((pen3.same sB).mono (by omega))
      · refine ⟨t7, _, rfl, h10, par_app (par_app (par_take i px10) (.cons ?_ (.cons ?_ .nil))) (par_drop (i + 1) px10)⟩
        · exact ⟨t2, _, rfl, s10 _ _ (s9 _ _ (s8 _ _ (s7 _ _ (s6 _ _ h5)))), par_take cu py10⟩
        · exact ⟨t3, _, rfl, s10 _ _ (s9 _ _ (s8 _ _ (s7 _ _ h6))), par_drop cu py10⟩
      · have := finer_of (A := way.take i) (B := way.drop (i + 1)) pAB
        rw [hw] at this
        exact this
end
end K
namespace K
open PySem L2 Rg LamX
open Evl (pss_cut)
theorem wy_ne {K : PySem.W.Frag} {H : Hp} {p a : Addr} {e : Addr × List Int} {n : Nat} {xs : List V} {w : List Strd} (pen : PenAt K H p e n) (ha : H a = some (.lst xs)) (px : Paired (LSt H) xs w) : a ≠ p := fun z => by
  obtain ⟨at', rest, h1, _⟩ := pen.ex
  rw [z, h1] at ha
  cases ha
  cases px with
  | cons _ t => cases t with
    | cons h _ =>
      obtain ⟨c, _, e, _⟩ := h
      cases e
theorem st_ne {K : PySem.W.Frag} {H : Hp} {p a : Addr} {e : Addr × List Int} {n : Nat} {xs : List V} {w : Strd} (pen : PenAt K H p e n) (ha : H a = some (.lst xs)) (px : Paired (SPat H) xs w) : a ≠ p := fun z => by
  obtain ⟨at', rest, h1, _⟩ := pen.ex
  rw [z, h1] at ha
  cases ha
  cases px with
  | cons _ t => cases t with
    | cons h _ =>
      obtain ⟨c, e, _⟩ := h
      cases e
theorem fit_part {m : Nat} {w : List Strd} {i : Nat} (f : fitW m w) : fitW m (w.take i ++ w.drop (i + 1)) := by
  refine ⟨?_, fun st h => ?_⟩
  · rw [List.length_append, List.length_take, List.length_drop]
    have := f.1
    omega
  · rcases List.mem_append.mp h with h | h
    · exact f.2 st (List.mem_of_mem_take h)
    · exact f.2 st (List.mem_of_mem_drop h)
section
variable {P : Program} {w : World} {K : PySem.W.Frag} {mg : Str → Option Value} {base : Heap}
/-! ### _law_pulled -/
def spPU (K : PySem.W.Frag) : Sp := fun vs H Q _ => ∃ (p la : Addr) (v : V) (e : Addr × List Int) (ls : List Int) (way : List Strd) (n : Nat), vs = [.ref p, .ref la, v] ∧ H la = some (.lst (ls.map V.int)) ∧ la ≠ p ∧ 3 ≤ ls.length ∧ ls.length ≤ 8 ∧ Bd 1000000 ls ∧ LWy H v way ∧ goodV ls.length way ∧ n < 800000 ∧ PenAt K H p e n ∧
  ∀ (l : Addr) (ls' : List Int) (H' : Hp), ls'.length = ls.length → Bd 1000000 ls' → l ≠ p → H' l = some (.lst (ls'.map V.int)) → But p H H' → PenAt K H' p e (n + 10) → Q (.ref l) H'
abbrev nPU : List Str := ["_law_bench_here", "_law_lengths_here", "_law_strands_here", "_law_at", "_law_wanted", "_law_bar", "_law_sign", "_law_rest", "_law_length", "_law_one", "_law_turn"]
theorem scPU : FnScope nPU ["_law_bench_here", "_law_lengths_here", "_law_strands_here"] (defScope sLwPulled) := ⟨rfl, rfl, rfl, by decide +kernel, rfl, by decide +kernel, by decide +kernel⟩
theorem ok_pu {f fD fP fN : Addr} {fd fdD fdP fdN : FuncData} (F : Fun K "_law_pulled" "_law_pulled" sLwPulled f fd) (T : Bi mg) (D : DrawAt P w K mg base fD fdD) (PK : DefAt P w K mg base CX0 3 "_law_pick" ["_law_bench_here", "_law_some"] (spPick K) fP fdP) (NT : DefAt P w K mg base CX0 1 "_law_nets" ["_law_lengths_here", "_law_strands_here"] (spNTL K) fN fdN) : FnOk P w K mg base CX0 4 f fd ["_law_bench_here", "_law_lengths_here", "_law_strands_here"] (spPU K) := by
  refine F.ok scPU (fun vs H Q E h => ?_) (fun cdv A outer s H vs Q E hr h => ?_)
  · obtain ⟨p, la, v, e, ls, way, n, rfl, _⟩ := h
    rfl
  · have nd := scPU.nd
    refine ⟨_, (pss_cons (ps_set (i := 3) nd rfl (Or.inl rfl) (pe_call D.ok (hr.mono (by decide)) rfl D.g D.kp D.b .nil pass0 (pa_cons (pv 0) (pa_cons (pe_callB (r := rLenS K) call_len_seq (by rfl) T.len PySem.boot_len (pa_cons (pv 2) pa_nil)) pa_nil))))
      (pss_cons (ps_set (i := 4) nd rfl (Or.inl rfl) (pe_op op_add (pe_callB (cr_sum rfl) (by rfl) T.sum (by decide +kernel) (pa_cons (pe_call NT.ok (hr.mono (by decide)) rfl NT.g NT.kp NT.b .nil pass0 (pa_cons (pv 1) (pa_cons (pe_op op_cat (pe_slice sl_list (pv 2) po_none (po_some (pv 3))) (pe_slice sl_list (pv 2) (po_some (pe_op op_add (pv 3) pe_int)) po_none)) pa_nil))) pa_nil)) (pe_call PK.ok (hr.mono (by decide)) rfl PK.g PK.kp PK.b .nil pass0 (pa_cons (pv 0) (pa_cons (pe_lst (pa_cons pe_int (pa_cons pe_int (pa_cons pe_int (pa_cons (pe_un un_neg pe_int) (pa_cons pe_int pa_nil)))))) pa_nil)))))
      (pss_cons (ps_asg (pe_call PK.ok (hr.mono (by decide)) rfl PK.g PK.kp PK.b .nil pass0 (pa_cons (pv 0) (pa_cons (pe_ix (r := rIxL K) ix_list (pv 2) (pv 3) (fun _ _ => rfl)) pa_nil))) (pg_tup (by rfl) (pgs_cons (pg_name (i := 5) nd rfl (Or.inr rfl)) (pgs_cons (pg_name (i := 6) nd rfl (Or.inl rfl)) pgs_nil))))
      (pss_cons (ps_set (i := 7) nd rfl (Or.inl rfl) (pe_callB (cr_sum rfl) (by rfl) T.sum (by decide +kernel) (pa_cons (pe_lc (own := [("_law_one", 9), ("_law_turn", 10)]) (g := (gTup K 2 (gCons (gName 9) (gCons (gName 10) gNil)))) (tt := tTest (tOp rNe (tVar 9) (tVar 5))) (te := tOp (rI CMul fun i j => .int (i * j)) (tOp (rIxL K) (tVar 1) (tVar 9)) (tVar 10))  rfl nd (pi_list (pe_ix (r := rIxL K) ix_list (pv 2) (pv 3) (fun _ _ => rfl)))
          (blkOk_by (N := nPU) (sc := defScope sLwPulled) (by decide +kernel)) (fun _ _ _ _ _ => (pg_tup rfl (pgs_cons (pg_name (i := 9) nd rfl (Or.inl rfl)) (pgs_cons (pg_name (i := 10) nd rfl (Or.inl rfl)) pgs_nil)))) (fun _ _ _ _ _ => (pts_one (pt_cmpR op_ne (pv 9) (pv 5) (nomark _)))) (fun _ _ _ _ _ => (pe_op op_mul (pe_ix (r := rIxL K) ix_list (pv 1) (pv 9) (fun _ _ => rfl)) (pv 10)))) pa_nil)))
      (pss_cons (ps_set (i := 8) nd rfl (Or.inl rfl) (pe_op op_mul (pe_op op_sub (pv 4) (pv 7)) (pv 6)))
      (pss_cons (ps_if (pt_not (pt_chain op_le op_le pe_int (pv 8) (pe_op op_pow pe_int pe_int))) (pss_one (ps_ret (pv 1))) pss_nil)
      (pss_one (ps_ret (pe_op op_cat (pe_op op_cat (pe_slice sl_list (pv 1) po_none (po_some (pv 5))) (pe_lst (pa_cons (pv 8) pa_nil))) (pe_slice sl_list (pv 1) (po_some (pe_op op_add (pv 5) pe_int)) po_none)))))))))), ?_⟩
    obtain ⟨p, la, v, e, ls, way, n, rfl, hla, lap, l3, l8, bd, lw, gw, hn, pen, k⟩ := h
    obtain ⟨a, xs, rfl, ha, px⟩ := id lw
    have xl := par_len px
    have w8 := gw.ln
    have wp := good_pos gw (by omega)
    have fit := good_fit gw
    refine ⟨_, rfl, _, rfl, a, _, rfl, .inl (SqL.of ha), p, e, _, n, rfl, by omega, by omega, by omega, pen, fun r H1 r0 r1 b1 pen1 => ?_⟩
    have px1 := par_imp (fun _ _ z => LSt.but z pen b1) px
    have ap := wy_ne pen ha px
    have ha1 := b1 _ _ ap ha
    have hla1 := b1 _ _ lap hla
    obtain ⟨i, rfl⟩ := Int.eq_ofNat_of_zero_le r0
    have hil : i < xs.length := by omega
    -- the other strands
    refine ⟨_, rfl, _, rfl, _, rfl, (i : Int), rfl, a, _, rfl, SqL.of ha1, fun t1 n1 => ?_⟩
    rw [cutV_to]
    have s2 : Same H1 (upd H1 t1 (.lst (xs.take i))) := (Same.refl H1).new n1
    have h2 : upd H1 t1 (.lst (xs.take i)) t1 = some (.lst (xs.take i)) := upd_same
    generalize upd H1 t1 (.lst (xs.take i)) = H2 at s2 h2 ⊢
    have hi1 : ((i : Int) + 1) = ((i + 1 : Nat) : Int) := by omega
    refine ⟨_, rfl, _, rfl, _, _, rfl, rfl, ((i : Int) + 1), rfl, a, _, rfl, SqL.of (s2 _ _ ha1), fun t2 n2 => ?_⟩
    rw [cut_from _ hi1]
    have s3 : Same H2 (upd H2 t2 (.lst (xs.drop (i + 1)))) := (Same.refl H2).new n2
    have h3 : upd H2 t2 (.lst (xs.drop (i + 1))) t2 = some (.lst (xs.drop (i + 1))) := upd_same
    generalize upd H2 t2 (.lst (xs.drop (i + 1))) = H3 at s3 h3 ⊢
    refine ⟨t1, t2, _, _, rfl, rfl, s3 _ _ h2, h3, ?_, fun t3 n3 => ?_⟩
    · rw [List.length_take, List.length_drop]
      exact Nat.le_of_lt (szl (by omega))
    have s4 : Same H3 (upd H3 t3 (.lst (xs.take i ++ xs.drop (i + 1)))) := (Same.refl H3).new n3
    have h4 : upd H3 t3 (.lst (xs.take i ++ xs.drop (i + 1))) t3 = some (.lst (xs.take i ++ xs.drop (i + 1))) := upd_same
    generalize upd H3 t3 (.lst (xs.take i ++ xs.drop (i + 1))) = H4 at s4 h4 ⊢
    have s14 := (s2.trans s3).trans s4
    have px4 := par_imp (fun _ _ z => LSt.same z s14) px1
    refine ⟨la, .ref t3, ls, way.take i ++ way.drop (i + 1), rfl, s14 _ _ hla1, ⟨t3, _, rfl, h4, par_app (par_take i px4) (par_drop (i + 1) px4)⟩, fit_part fit, fun t5 H5 s5 n5 h5 => ?_⟩
    refine ⟨t5, _, rfl, SqL.of h5, ?_⟩
    have s15 := s14.trans s5
    have pen5 := pen1.same s15
    refine ⟨_, rfl, _, rfl, (by show 5 ≤ sizeLine; decide), fun l6 nl6 => ?_⟩
    have s6 : Same H5 (upd H5 l6 (.lst (([0, 0, 1, -1, 2] : List Int).map V.int))) := (Same.refl H5).new nl6
    have h6 : upd H5 l6 (.lst (([0, 0, 1, -1, 2] : List Int).map V.int)) l6 = some (.lst (([0, 0, 1, -1, 2] : List Int).map V.int)) := upd_same
    have l6p : l6 ≠ p := pen5.ne nl6
    have s16 := s15.trans s6
    refine ⟨p, l6, e, ([0, 0, 1, -1, 2] : List Int).map V.int, n + 1, rfl, SqL.of h6, l6p, (by show 1 ≤ 5; decide), (by show 5 ≤ 1000; decide), by omega, pen5.same s6, fun j1 mv H7 hj1 b7 pen7 => ?_⟩
    obtain ⟨mo, hmo, rfl⟩ := int_at hj1
    have b17 : But p H1 H7 := fun b o nb hb => b7 _ _ nb (s16 _ _ hb)
    have px7 := par_imp (fun _ _ z => LSt.but z pen1 b17) px1
    have ha7 := b17 _ _ ap ha1
    have hla7 := b17 _ _ lap hla1
    have b07 : But p H H7 := fun b o nb hb => b17 _ _ nb (b1 _ _ nb hb)
    obtain ⟨x, hx⟩ : ∃ x, xs[i]? = some x := ⟨_, List.getElem?_eq_getElem hil⟩
    obtain ⟨st, hst, c, us, rfl, hc, pu⟩ := par_get px7 hx
    have gst := gw.st st (List.mem_of_getElem? hst)
    have st8 := gst.2.1
    have st1 := List.length_pos_iff.mpr gst.1
    have ul := par_len pu
    have cp := st_ne pen7 hc pu
    refine ⟨_, _, rfl, rfl, _, rfl, _, rfl, _, rfl, a, _, (i : Int), _, rfl, rfl, SqL.of ha7, atI_nat hx, p, c, e, us, n + 1 + 1, rfl, SqL.of hc, cp, by omega, by omega, by omega, pen7, fun j2 v2 H8 hj2 b8 pen8 => ?_⟩
    obtain ⟨u, hu, b, rfl, hb⟩ := par_get pu hj2
    have hub := (fit.2 st (List.mem_of_getElem? hst)).2 u (List.mem_of_getElem? hu)
    have hb8 := (SPat.but ⟨b, rfl, hb⟩ pen7 b8 : SPat H8 (.ref b) u)
    obtain ⟨b', eb, hb8⟩ := hb8
    cases eb
    have ha8 := b8 _ _ ap ha7
    have hla8 := b8 _ _ lap hla7
    have hc8 := b8 _ _ cp hc
    have pu8 := par_imp (fun _ _ z => SPat.but z pen7 b8) pu
    have b08 : But p H H8 := fun b o nb hb => b8 _ _ nb (b07 _ _ nb hb)
    refine ⟨b, _, rfl, .inl (.inl hb8), rfl, _, _, rfl, _, _, rfl, rfl, ?_⟩
    refine ⟨_, rfl, _, rfl, a, _, (i : Int), _, rfl, rfl, SqL.of ha8, atI_nat hx, c, rfl, ⟨_, SqL.of hc8⟩, fun D nD => ?_⟩
    refine lc_list (K := K) (a := c) (xs := us) (fun j G => Same H8 G ∧ ∃ zs : List Int, zs.length ≤ j ∧ G D = some (.lst (zs.map V.int))) ⟨(Same.refl H8).new nD, [], Nat.le_refl _, upd_same⟩ (fun j G _ z => SqL.of (z.1 _ _ hc8)) ?_ ?_
    · rintro j y G hj ⟨s9, zs, zl, h9⟩
      have hjl : j < us.length := (List.getElem?_eq_some_iff.mp hj).1
      obtain ⟨q, hq, d, rfl, hd⟩ := par_get pu8 hj
      have hqb := (fit.2 st (List.mem_of_getElem? hst)).2 q (List.mem_of_getElem? hq)
      refine ⟨d, _, rfl, .inl (.inl (s9 _ _ hd)), rfl, _, _, rfl, _, _, rfl, rfl, rfl, _, rfl, _, rfl, rfl, _, rfl, ?_⟩
      by_cases c9 : q.1 = u.1
      · rw [c9, decide_eq_true rfl]
        exact iteF ⟨s9, zs, by omega, h9⟩
      · rw [decide_eq_false fun z => c9 (V.int.inj z)]
        refine iteT ?_
        refine ⟨_, rfl, _, rfl, la, _, q.1, _, rfl, rfl, SqL.of (s9 _ _ hla8), get_len hqb.1 hqb.2.1, _, rfl, _, _, rfl, rfl, .inr ⟨?_, ?_⟩, _, h9, ?_, s9.mut nD, zs ++ [ls.getD q.1.toNat 0 * q.2], ?_, ?_⟩
        · have z := hqb.2.2
          omega
        · have z := hqb.2.2
          omega
        · rw [List.length_map]
          exact sm (by omega)
        · rw [List.length_append]
          exact Nat.succ_le_succ zl
        · rw [upd_same, List.map_append]
          rfl
    rintro H9 ⟨s9, zs, zl, h9⟩
    refine ⟨D, _, rfl, SqL.of h9, ?_⟩
    refine ⟨_, rfl, _, rfl, _, _, rfl, rfl, _, rfl, _, _, rfl, rfl, .inr ⟨?_, ?_⟩, ?_⟩
    · have z := hub.2.2
      omega
    · have z := hub.2.2
      omega
    have hla9 := s9 _ _ hla8
    have pen9 := (pen8.same s9).mono (show n + 1 + 1 + 1 ≤ n + 10 by omega)
    have b09 : But p H H9 := fun b o nb hb => s9 _ _ (b08 _ _ nb hb)
    have ha9 := s9 _ _ ha8
    have fin : ∀ z : Int, (decide (1 ≤ z) && decide (z ≤ 1000000)) = true → ∀ G : Hp, True := fun _ _ _ => trivial
    dsimp only
    generalize ((netsW ls (way.take i ++ way.drop (i + 1))).sum + mo - zs.sum) * u.2 = z
    refine ⟨_, rfl, _, _, rfl, rfl, _, rfl, ?_⟩
    have p6 : (10 : Int) ^ (6 : Int).toNat = 1000000 := by decide
    by_cases z1 : 1 ≤ z
    · refine iteDT z1 ?_
      refine ⟨_, _, rfl, rfl, ⟨by decide, by decide, by decide⟩, _, _, rfl, rfl, ?_⟩
      refine ⟨_, rfl, ?_⟩
      rw [p6]
      by_cases z6 : z ≤ 1000000
      · rw [decide_eq_true z6]
        refine iteF ?_
        obtain ⟨ub, hu1⟩ := Int.eq_ofNat_of_zero_le hub.1
        have ubl : ub < ls.length := by have := hub.2.1; omega
        refine ⟨_, rfl, _, rfl, u.1, rfl, la, _, rfl, SqL.of hla9, fun t1 n1 => ?_⟩
        rw [hu1, cutV_to]
        have q1 : Same H9 (upd H9 t1 (.lst ((ls.map V.int).take ub))) := (Same.refl H9).new n1
        have k1 : upd H9 t1 (.lst ((ls.map V.int).take ub)) t1 = some (.lst ((ls.map V.int).take ub)) := upd_same
        generalize upd H9 t1 (.lst ((ls.map V.int).take ub)) = G1 at q1 k1 ⊢
        refine ⟨_, rfl, (by show 1 ≤ sizeLine; decide), fun t2 n2 => ?_⟩
        have q2 : Same G1 (upd G1 t2 (.lst [.int z])) := (Same.refl G1).new n2
        have k2 : upd G1 t2 (.lst [.int z]) t2 = some (.lst [.int z]) := upd_same
        generalize upd G1 t2 (.lst [.int z]) = G2 at q2 k2 ⊢
        refine ⟨t1, t2, _, _, rfl, rfl, q2 _ _ k1, k2, ?_, fun t3 n3 => ?_⟩
        · rw [List.length_take, List.length_map]
          exact Nat.le_of_lt (szl (n := min ub ls.length + 1) (by omega))
        have q3 : Same G2 (upd G2 t3 (.lst ((ls.map V.int).take ub ++ [.int z]))) := (Same.refl G2).new n3
        have k3 : upd G2 t3 (.lst ((ls.map V.int).take ub ++ [.int z])) t3 = some (.lst ((ls.map V.int).take ub ++ [.int z])) := upd_same
        generalize upd G2 t3 (.lst ((ls.map V.int).take ub ++ [.int z])) = G3 at q3 k3 ⊢
        have hu2 : ((ub : Int) + 1) = ((ub + 1 : Nat) : Int) := by omega
        have q13 := (q1.trans q2).trans q3
        refine ⟨_, rfl, _, rfl, _, _, rfl, rfl, ((ub : Int) + 1), rfl, la, _, rfl, SqL.of (q13 _ _ hla9), fun t4 n4 => ?_⟩
        rw [cut_from _ hu2]
        have q4 : Same G3 (upd G3 t4 (.lst ((ls.map V.int).drop (ub + 1)))) := (Same.refl G3).new n4
        have k4 : upd G3 t4 (.lst ((ls.map V.int).drop (ub + 1))) t4 = some (.lst ((ls.map V.int).drop (ub + 1))) := upd_same
        generalize upd G3 t4 (.lst ((ls.map V.int).drop (ub + 1))) = G4 at q4 k4 ⊢
        refine ⟨t3, t4, _, _, rfl, rfl, q4 _ _ k3, k4, ?_, fun t5 n5' => ?_⟩
        · rw [List.length_append, List.length_take, List.length_drop, List.length_map]
          exact Nat.le_of_lt (szl (n := min ub ls.length + 1 + (ls.length - (ub + 1))) (by omega))
        have q5 : Same G4 (upd G4 t5 (.lst ((ls.map V.int).take ub ++ [.int z] ++ (ls.map V.int).drop (ub + 1)))) := (Same.refl G4).new n5'
        have q15 := (q13.trans q4).trans q5
        refine k t5 (ls.take ub ++ [z] ++ ls.drop (ub + 1)) _ ?_ ((bd.take ub |>.app (Bd.one z1 z6)).app (bd.drop (ub + 1))) ((pen9.same (q13.trans q4)).ne n5') ?_ (fun b o nb hb => q15 _ _ (b09 _ _ nb hb)) (pen9.same q15)
        · simp only [List.length_append, List.length_take, List.length_drop, List.length_cons, List.length_nil]
          omega
        · rw [upd_same, List.map_append, List.map_append, List.map_take, List.map_drop]
          rfl
      · rw [decide_eq_false z6]
        exact iteT ⟨_, rfl, k la ls H9 rfl bd lap hla9 b09 pen9⟩
    · refine iteDF z1 ?_
      exact ⟨_, rfl, iteT ⟨_, rfl, k la ls H9 rfl bd lap hla9 b09 pen9⟩⟩
end
end K
namespace K
open PySem L2 Rg LamX
open Evl (pss_cut)
/-! ### bars numbered anew -/
def idxP (o : List Int) (b : Int) : Nat := o.findIdx fun z => decide (z = b)
theorem idxP_at {o : List Int} {b : Int} (h : b ∈ o) : o[idxP o b]? = some b ∧ ∀ (m : Nat) (z : Int), m < idxP o b → o[m]? = some z → z ≠ b := by
  have lt : idxP o b < o.length := List.findIdx_lt_length_of_exists ⟨b, h, decide_eq_true rfl⟩
  refine ⟨?_, fun m z hm hz e => ?_⟩
  · rw [List.getElem?_eq_getElem lt]
    exact congrArg some (of_decide_eq_true (List.findIdx_getElem (w := lt)))
  · obtain ⟨hl, rfl⟩ := List.getElem?_eq_some_iff.mp hz
    have := List.not_of_lt_findIdx (p := fun z => decide (z = b)) hm
    rw [decide_eq_true e] at this
    exact absurd this (by decide)
theorem idxP_uniq {o : List Int} (nd : o.Nodup) {j : Nat} {b : Int} (h : o[j]? = some b) : idxP o b = j := by
  have hm := List.mem_of_getElem? h
  obtain ⟨h1, h2⟩ := idxP_at hm
  rcases Nat.lt_trichotomy (idxP o b) j with q | q | q
  · obtain ⟨hl, e1⟩ := List.getElem?_eq_some_iff.mp h1
    obtain ⟨hl2, e2⟩ := List.getElem?_eq_some_iff.mp h
    exact absurd (e1.trans e2.symm) (List.pairwise_iff_getElem.mp nd _ _ hl hl2 q)
  · exact q
  · exact absurd rfl (h2 j b q h)
theorem map_idx {o : List Int} (nd : o.Nodup) : o.map (fun b => (idxP o b : Int)) = rngI o.length := by
  refine List.ext_getElem? fun i => ?_
  unfold rngI
  rw [List.getElem?_map, List.getElem?_map]
  by_cases h : i < o.length
  · rw [List.getElem?_eq_getElem h, List.getElem?_range h]
    have := idxP_uniq nd (List.getElem?_eq_getElem h)
    show some ((idxP o o[i] : Nat) : Int) = some (i : Int)
    rw [this]
  · rw [List.getElem?_eq_none (by omega), List.getElem?_eq_none (by rw [List.length_range]; omega)]
    rfl
def renS (o : List Int) (st : Strd) : Strd := st.map fun q => ((idxP o q.1 : Int), q.2)
def renL (o ls : List Int) : List Int := o.map fun b => ls.getD b.toNat 0
theorem rngI_nd (m : Nat) : (rngI m).Nodup := by
  unfold rngI
  exact List.Pairwise.map _ (fun a b h e => h (by omega)) List.nodup_range
section
variable {m : Nat} {o ls : List Int} {way : List Strd}
theorem flat_ren (o : List Int) : ∀ way : List Strd, flatB (way.map (renS o)) = (flatB way).map fun b => (idxP o b : Int)
  | [] => rfl
  | st :: way => by
    have ih := flat_ren o way
    unfold flatB at ih ⊢
    rw [List.map_cons, List.flatMap_cons, List.flatMap_cons, ih, List.map_append]
    congr 1
    unfold renS
    rw [List.map_map, List.map_map]
    rfl
theorem ren_good (po : o.Perm (rngI m)) (g : goodV m way) : goodV m (way.map (renS o)) := by
  have nd : o.Nodup := po.nodup_iff.mpr (rngI_nd m)
  have ol : o.length = m := by rw [po.length_eq, rngI_len]
  refine ⟨fun st h => ?_, by rw [List.length_map]; exact g.ln, ?_⟩
  · obtain ⟨s, hs, rfl⟩ := List.mem_map.mp h
    have gs := g.st s hs
    refine ⟨fun e => gs.1 (List.map_eq_nil_iff.mp e), by unfold renS; rw [List.length_map]; exact gs.2.1, fun q hq => ?_⟩
    obtain ⟨u, hu, rfl⟩ := List.mem_map.mp hq
    exact gs.2.2 u hu
  · rw [flat_ren]
    have p1 : ((flatB way).map fun b => (idxP o b : Int)).Perm (o.map fun b => (idxP o b : Int)) := (g.pm.trans po.symm).map _
    rw [map_idx nd, ol] at p1
    exact p1
theorem mem_o (po : o.Perm (rngI m)) (g : goodV m way) {st : Strd} (hs : st ∈ way) {q : Int × Int} (hq : q ∈ st) : q.1 ∈ o :=
  po.symm.mem_iff.mp (g.pm.mem_iff.mp (List.mem_flatMap.mpr ⟨st, hs, List.mem_map.mpr ⟨q, hq, rfl⟩⟩))
theorem net_ren (po : o.Perm (rngI m)) (g : goodV m way) {st : Strd} (hs : st ∈ way) : net (renL o ls) (renS o st) = net ls st := by
  unfold net renS
  rw [List.map_map]
  congr 1
  refine List.map_congr_left fun q hq => ?_
  have h1 := (idxP_at (mem_o po g hs hq)).1
  show (renL o ls).getD ((idxP o q.1 : Nat) : Int).toNat 0 * q.2 = _
  rw [Int.toNat_natCast, List.getD_eq_getElem?_getD]
  unfold renL
  rw [List.getElem?_map, h1]
  rfl
theorem nets_ren (po : o.Perm (rngI m)) (g : goodV m way) : netsW (renL o ls) (way.map (renS o)) = netsW ls way := by
  unfold netsW
  rw [List.map_map]
  exact List.map_congr_left fun st hs => congrArg absI (net_ren po g hs)
theorem nets_due {ls : List Int} {w : List Strd} {m : Nat} (g : goodV m w) : (netsW ls (dueW w)).Perm (netsW ls w) := by
  have p : (netsW ls (dueW w)).Perm (netsW ls (w.map asS)) := (srtW_perm _).map _
  refine p.trans (List.Perm.of_eq ?_)
  unfold netsW
  rw [List.map_map]
  exact List.map_congr_left fun st hs => net_asS (g.st st hs)
theorem nets_anew (po : o.Perm (rngI m)) (g : goodV m way) : (netsW (renL o ls) (dueW (way.map (renS o)))).Perm (netsW ls (dueW way)) :=
  (nets_due (ren_good po g)).trans ((List.Perm.of_eq (nets_ren po g)).trans (nets_due g).symm)
theorem asS_asc (st : Strd) : (lotI (asS st)).Pairwise (· ≤ ·) := by
  unfold lotI asS
  rw [List.map_map, List.pairwise_map]
  refine (srtQ_sorted st).imp fun {a b} h => ?_
  have := lexLe_iff.mp h
  show a.1 ≤ b.1
  omega
/-- the strand that is too great -/
theorem great_at {ls : List Int} {w : List Strd} {m : Nat} (g : goodV m w) (h : hadN (netsW ls (dueW w)) = false) : ∃ (i : Nat) (st : Strd), w[i]? = some st ∧ (dueW w).getD (atN (netsW ls (dueW w))) [] = asS st ∧ (netsW ls (dueW w)).getD (atN (netsW ls (dueW w))) 0 = absI (net ls st) ∧ (netsW ls w).sum < 2 * absI (net ls st) := by
  obtain ⟨lt, gr⟩ := atN_lt h
  have lt' : atN (netsW ls (dueW w)) < (dueW w).length := by
    have e : (netsW ls (dueW w)).length = (dueW w).length := by unfold netsW; rw [List.length_map]
    omega
  have hd := getD_at (d := ([] : Strd)) lt'
  have md := List.mem_of_getElem? hd
  obtain ⟨st, hst, est⟩ := List.mem_map.mp ((srtW_perm _).mem_iff.mp md)
  obtain ⟨i, hi⟩ := List.mem_iff_getElem?.mp hst
  have hn : (netsW ls (dueW w))[atN (netsW ls (dueW w))]? = some (absI (net ls ((dueW w).getD (atN (netsW ls (dueW w))) []))) := by
    show ((dueW w).map _)[_]? = _
    rw [List.getElem?_map, hd]
    rfl
  have e1 : (netsW ls (dueW w)).getD (atN (netsW ls (dueW w))) 0 = absI (net ls st) := by
    rw [List.getD_eq_getElem?_getD, hn, ← est, net_asS (g.st st hst)]
    rfl
  refine ⟨i, st, hi, est.symm, e1, ?_⟩
  rw [← sum_perm (nets_due g)]
  have := getD_at (d := (0 : Int)) lt
  rw [List.getElem?_eq_getElem lt] at this
  have e2 := Option.some.inj this
  rw [← e1, ← e2]
  exact gr
theorem great_same (po : o.Perm (rngI m)) (g : goodV m way) {i j : Nat} {st s : Strd} (hi : way[i]? = some st) (gi : (netsW ls way).sum < 2 * absI (net ls st)) (hj : (way.map (renS o))[j]? = some s) (gj : (netsW (renL o ls) (way.map (renS o))).sum < 2 * absI (net (renL o ls) s)) : s = renS o st := by
  rw [nets_ren po g] at gj
  rw [List.getElem?_map] at hj
  obtain ⟨s', hs', rfl⟩ : ∃ s', way[j]? = some s' ∧ renS o s' = s := by
    cases e : way[j]? with
    | none => rw [e] at hj; cases hj
    | some s' => rw [e] at hj; exact ⟨s', rfl, Option.some.inj hj⟩
  rw [net_ren po g (List.mem_of_getElem? hs')] at gj
  by_cases e : i = j
  · subst e
    rw [hi] at hs'
    cases hs'
    rfl
  · have h1 : (netsW ls way)[i]? = some (absI (net ls st)) := by unfold netsW; rw [List.getElem?_map, hi]; rfl
    have h2 : (netsW ls way)[j]? = some (absI (net ls s')) := by unfold netsW; rw [List.getElem?_map, hs']; rfl
    have := sum_two (netsW_nn ls way) h1 h2 e
    omega
end
theorem ints_perm {ys : List V} {ls : List Int} (p : ys.Perm (ls.map V.int)) : ∃ ms : List Int, ys = ms.map V.int ∧ ms.Perm ls := by
  have e : (ls.map V.int).map (fun v => match v with | .int i => i | _ => 0) = ls := by
    rw [List.map_map]
    conv => rhs; rw [← List.map_id ls]
    exact List.map_congr_left fun x _ => rfl
  refine ⟨ys.map fun v => match v with | .int i => i | _ => 0, ?_, ?_⟩
  · rw [List.map_map]
    conv => lhs; rw [← List.map_id ys]
    refine List.map_congr_left fun y hy => ?_
    obtain ⟨i, _, rfl⟩ := List.mem_map.mp (p.mem_iff.mp hy)
    rfl
  · have z := p.map (fun v => match v with | .int i => i | _ => 0)
    rw [e] at z
    exact z
end K
namespace K
open PySem L2 Rg LamX
open Evl (pss_cut)
abbrev gK2 {α : Type} : List α → List α → List α := fun us ws => match us, ws with
  | [], [b, r] => [r, b]
  | _, _ => []
section
variable {P : Program} {w : World} {K : PySem.W.Frag} {mg : Str → Option Value} {base : Heap}
theorem slFromZ {a : Addr} {xs : List V} {z : Int} {i : Nat} {H : Hp} {Q : VK} (hz : z = (i : Int)) (ha : H a = some (.tup xs)) (k : ∀ t H', H' t = some (.tup (xs.drop i)) → Same H H' → Q (.ref t) H') : rSlA K (.ref a) (some z) none H Q := by
  subst hz
  exact slFrom ha k
/-! ### _law_renumbered_right -/
def spRR (K : PySem.W.Frag) : Sp := fun vs H Q _ => ∃ (p la : Addr) (v : V) (e : Addr × List Int) (ls : List Int) (way : List Strd) (n : Nat), vs = [.ref p, .ref la, v] ∧ H la = some (.lst (ls.map V.int)) ∧ la ≠ p ∧ 3 ≤ ls.length ∧ ls.length ≤ 8 ∧ Bd 1000000 ls ∧ LWy H v way ∧ goodV ls.length way ∧ n < 800000 ∧ PenAt K H p e n ∧
  ∀ H' : Hp, But p H H' → PenAt K H' p e (n + 10) → Q (.bl true) H'
abbrev nRR : List Str := ["_law_bench_here", "_law_lengths_here", "_law_strands_here", "_law_order", "_law_ring", "_law_its", "_law_mine", "_law_bar", "_law_strand", "_law_sign"]
theorem scRR : FnScope nRR ["_law_bench_here", "_law_lengths_here", "_law_strands_here"] (defScope sLwRenumberedRight) := ⟨rfl, rfl, rfl, by decide +kernel, rfl, by decide +kernel, by decide +kernel⟩
def scRRo : Scope := { kind := .function, names := [(Str.ofString ".0", .local), (Str.ofString "_law_strand", .local), (Str.ofString "_law_order", .free)], isGenerator := false, isCoroutine := false }
theorem ok_rr {CR CL CN CG fR fL fM fC f : Addr} {fd fdR fdL fdM fdC : FuncData} {g1 : List Value → List Value → List Value} (F : Fun K "_law_renumbered_right" "_law_renumbered_right" sLwRenumberedRight f fd) (T : Bi mg) (R : RingP P w K mg base CR fR fdR) (RG : RingC K mg CR) (LP : LineP P w K mg base CL fL fdL) (RL : LineC K mg CL) (RN : NetsC K mg CN) (TGC : TooGreatC K mg CG)
    (MX : DefAt P w K mg base CX0 3 "_law_mixed" ["_law_bench_here", "_law_some"] (spMixed K) fM fdM) (CLI : DefAt P w K mg base CX0 7 "can_line" ["ring", "lineup"] (spCLc K CR CL CN CG) fC fdC) (KB : KBinds K fdC ["ring", "lineup"] ["lineup", "ring"] g1 gK2) :
    FnOk P w K mg base CX0 8 f fd ["_law_bench_here", "_law_lengths_here", "_law_strands_here"] (spRR K) := by
  refine F.ok scRR (fun vs H Q E h => ?_) (fun cdv A outer s H vs Q E hr h => ?_)
  · obtain ⟨p, la, v, e, ls, way, n, rfl, _⟩ := h
    rfl
  · have nd := scRR.nd
    refine ⟨_, (pss_cons (ps_set (i := 3) nd rfl (Or.inr rfl) (pe_call MX.ok (hr.mono (by decide)) rfl MX.g MX.kp MX.b .nil pass0 (pa_cons (pv 0) (pa_cons (pe_listRg rfl (by rfl) T.list (prg_1 (by rfl) T.range (pe_callB (r := rLenS K) call_len_seq (by rfl) T.len PySem.boot_len (pa_cons (pv 1) pa_nil)))) pa_nil))))
      (pss_cons (ps_set (i := 4) nd rfl (Or.inl rfl) (pe_make R.made R.ok (hr.mono (by decide)) (by rfl) RG.g R.b .nil pass0 (pa_cons (pe_lc (own := [("_law_bar", 7)]) (g := (gName 7)) (tt := tYes) (te := tOp (rIxL K) (tVar 1) (tVar 7))  rfl nd (pi_list (pv 3))
          (blkOk_by (N := nRR) (sc := defScope sLwRenumberedRight) (by decide +kernel)) (fun _ _ _ _ _ => (pg_name (i := 7) nd rfl (Or.inl rfl))) (fun _ _ _ _ _ => pts_nil) (fun _ _ _ _ _ => (pe_ix (r := rIxL K) ix_list (pv 1) (pv 7) (fun _ _ => rfl)))) pa_nil)))
      (pss_cons (ps_set (i := 5) nd rfl (Or.inl rfl) (pe_callK0 CLI.ok (hr.mono (by decide)) rfl CLI.g CLI.kp KB pass0 (pk_cons (pe_make LP.made LP.ok (hr.mono (by decide)) (by rfl) RL.g LP.b .nil pass0 (pa_cons (pe_lc (own := [("_law_strand", 8)]) (g := gName 8) (tt := tYes) (te := tLc (iList K (tVar 8)) (gTup K 2 (gCons (gName 7) (gCons (gName 9) gNil))) tYes (tTup (tCons (tBM K "list" (rIndex K) (tVar 3) (tCons (tVar 7) tNil)) (tCons (tVar 9) tNil))) [7, 9]) rfl nd (pi_list (pv 2)) (blkOk_by (N := nRR) (sc := defScope sLwRenumberedRight) (by decide +kernel)) (fun _ _ _ _ _ => pg_name (i := 8) nd rfl (Or.inl rfl)) (fun _ _ _ _ _ => pts_nil) (fun _ _ _ _ _ => pe_lc (own := [("_law_bar", 7), ("_law_sign", 9)]) (g := gTup K 2 (gCons (gName 7) (gCons (gName 9) gNil))) (tt := tYes) (te := tTup (tCons (tBM K "list" (rIndex K) (tVar 3) (tCons (tVar 7) tNil)) (tCons (tVar 9) tNil))) rfl nd (pi_list (pv 8)) (blkOk_by (N := nRR) (sc := relS scRRo (defScope sLwRenumberedRight)) (by decide +kernel)) (fun _ _ _ _ _ => pg_tup rfl (pgs_cons (pg_name (i := 7) nd rfl (Or.inl rfl)) (pgs_cons (pg_name (i := 9) nd rfl (Or.inl rfl)) pgs_nil))) (fun _ _ _ _ _ => pts_nil) (fun _ _ _ _ _ => pe_tup (pa_cons (pe_bm PySem.F.plainAttrs_list PySem.F.slot_list_index PySem.F.type_list_index mt_index (pv 3) (pa_cons (pv 7) pa_nil)) (pa_cons (pv 9) pa_nil))))) pa_nil)) (pk_cons (pv 4) pk_nil))))
      (pss_cons (ps_set (i := 6) nd rfl (Or.inl rfl) (pe_call CLI.ok (hr.mono (by decide)) rfl CLI.g CLI.kp CLI.b .nil pass0 (pa_cons (pe_make R.made R.ok (hr.mono (by decide)) (by rfl) RG.g R.b .nil pass0 (pa_cons (pv 1) pa_nil)) (pa_cons (pe_make LP.made LP.ok (hr.mono (by decide)) (by rfl) RL.g LP.b .nil pass0 (pa_cons (pv 2) pa_nil)) pa_nil))))
      (pss_cons (ps_if (pt_cmpR op_ne (pe_fld (pv 6) rfl) (pe_fld (pv 5) rfl) (nomark _)) (pss_one ps_never) pss_nil)
      (pss_cons (ps_if (pt_cmpR op_eq (pe_fld (pv 6) rfl) pe_str (nomark _)) (pss_one (ps_ret (pe_cmpR (op_eqD hr.units) (pe_callB cr_sortedT (by rfl) T.sorted (by decide +kernel) (pa_cons (pe_fld (pv 6) rfl) pa_nil)) (pe_callB cr_sortedT (by rfl) T.sorted (by decide +kernel) (pa_cons (pe_fld (pv 5) rfl) pa_nil)) (nomark _)))) pss_nil)
      (pss_one (ps_ret (pe_and (pe_cmpR (op_eqD hr.units) (pe_callB cr_sortedI (by rfl) T.sorted (by decide +kernel) (pa_cons (pe_lc (own := [("_law_bar", 7)]) (g := gName 7) (tt := tYes) (te := tOp (rIxL K) (tVar 3) (tVar 7)) rfl nd (pi_tup (pe_fld (pv 5) rfl)) (blkOk_by (N := nRR) (sc := defScope sLwRenumberedRight) (by decide +kernel)) (fun _ _ _ _ _ => pg_name (i := 7) nd rfl (Or.inl rfl)) (fun _ _ _ _ _ => pts_nil) (fun _ _ _ _ _ => pe_ix (r := rIxL K) ix_list (pv 3) (pv 7) (fun _ _ => rfl))) pa_nil)) (pe_callTy call_list_of (by rfl) T.list (by decide +kernel) (pa_cons (pe_fld (pv 6) rfl) pa_nil)) (nomark _)) (pe_one (pe_cmpR (op_eqD hr.units) (pe_slice sl_tupA (pe_fld (pv 5) rfl) (po_some pe_int) po_none) (pe_slice sl_tupA (pe_fld (pv 6) rfl) (po_some pe_int) po_none) (nomark _)))))))))))), ?_⟩
    obtain ⟨p, la, v, e, ls, way, n, rfl, hla, lap, l3, l8, bd, lw, gw, hn, pen, k⟩ := h
    obtain ⟨px0, hp0⟩ := pen.some
    refine ⟨_, rfl, _, rfl, la, _, rfl, .inl (SqL.of hla), ?_⟩
    rw [List.length_map]
    refine ⟨_, rfl, RgOk.of_le (by omega) (by omega) (by omega) (by omega), fun l0 n0 => ?_⟩
    rw [rgV_rngI]
    have s0 : Same H (upd H l0 (.lst ((rngI ls.length).map V.int))) := (Same.refl H).new n0
    have h0 : upd H l0 (.lst ((rngI ls.length).map V.int)) l0 = some (.lst ((rngI ls.length).map V.int)) := upd_same
    have l0p := pen.ne n0
    have pen0 := pen.same s0
    refine ⟨p, l0, e, (rngI ls.length).map V.int, n, rfl, SqL.of h0, l0p, by rw [List.length_map, rngI_len]; omega, by omega, pen0, fun q ys H1 pm nq b1 hq pen1 => ?_⟩
    obtain ⟨o, rfl, po⟩ := ints_perm pm
    have ol : o.length = ls.length := by rw [po.length_eq, rngI_len]
    have qp := pen0.ne nq
    have b01 : But p H H1 := fun b o nb hb => b1 _ _ nb (s0 _ _ hb)
    have hla1 := b01 _ _ lap hla
    have lw1 := lw.but pen b01
    have po' := po
    have rl : (renL o ls).length = ls.length := by unfold renL; rw [List.length_map, ol]
    have omem : ∀ b ∈ o, 0 ≤ b ∧ b < (ls.length : Int) := fun b hb => by
      have h2 := po.mem_iff.mp hb
      unfold rngI at h2
      obtain ⟨i, hi, rfl⟩ := List.mem_map.mp h2
      have := List.mem_range.mp hi
      omega
    have rbd : Bd 1000000 (renL o ls) := fun x hx => by
      obtain ⟨b, hb, rfl⟩ := List.mem_map.mp hx
      have := omem b hb
      exact bd.get (i := b.toNat) (by omega)
    -- the ring
    refine ⟨_, rfl, q, rfl, ⟨_, SqL.of hq⟩, fun D nD => ?_⟩
    refine lc_list (K := K) (a := q) (xs := o.map V.int) (fun j G => Same H1 G ∧ G D = some (.lst (((o.take j).map fun b => ls.getD b.toNat 0).map V.int))) ⟨(Same.refl H1).new nD, upd_same⟩ (fun j G _ z => SqL.of (z.1 _ _ hq)) ?_ ?_
    · rintro j y G hj ⟨s2, h2⟩
      obtain ⟨b, hb, rfl⟩ := int_at hj
      have hbl : j < o.length := (List.getElem?_eq_some_iff.mp hb).1
      have bb := omem b (List.mem_of_getElem? hb)
      refine ⟨rfl, _, rfl, _, rfl, la, _, b, _, rfl, rfl, SqL.of (s2 _ _ hla1), get_len bb.1 bb.2, _, h2, ?_, s2.mut nD, ?_⟩
      · rw [List.length_map, List.length_map, List.length_take]
        exact sm (by omega)
      · rw [upd_same, ← take_snoc hb, List.map_append, List.map_append]
        rfl
    rintro H2 ⟨s2, h2⟩
    rw [List.length_map, List.take_length] at h2
    have h2 : H2 D = some (.lst ((renL o ls).map V.int)) := h2
    refine madeL2 h2 (by omega) (by omega) rbd fun r H3 ra s3 nr => ⟨rfl, ?_⟩
    have s13 := s2.trans s3
    have hq3 := s13 _ _ hq
    obtain ⟨a, xs, rfl, ha3, px3⟩ := lw1.same s13
    have xl := par_len px3
    -- the line-up
    refine ⟨_, rfl, a, rfl, ⟨_, SqL.of ha3⟩, fun D2 nD2 => ?_⟩
    refine lc_list (K := K) (a := a) (xs := xs) (fun j G => Same H3 G ∧ ∃ us, G D2 = some (.lst us) ∧ Paired (LSt G) us ((way.map (renS o)).take j)) ⟨(Same.refl H3).new nD2, [], upd_same, .nil⟩ (fun j G _ z => SqL.of (z.1 _ _ ha3)) ?_ ?_
    · rintro j y G hj ⟨s4, us, h4, pu4⟩
      obtain ⟨st, hst, c, zs, rfl, hc, pz⟩ := par_get px3 hj
      have hjl : j < xs.length := (List.getElem?_eq_some_iff.mp hj).1
      have gst := gw.st st (List.mem_of_getElem? hst)
      have st8 := gst.2.1
      have zl := par_len pz
      have hc4 := s4 _ _ hc
      refine ⟨rfl, _, rfl, c, rfl, ⟨_, SqL.of hc4⟩, fun D3 nD3 => ?_⟩
      refine lc_list (K := K) (a := c) (xs := zs) (fun i G2 => Same G G2 ∧ ∃ vs, G2 D3 = some (.lst vs) ∧ Paired (SPat G2) vs ((renS o st).take i)) ⟨(Same.refl G).new nD3, [], upd_same, .nil⟩ (fun i G2 _ z => SqL.of (z.1 _ _ hc4)) ?_ ?_
      · rintro i z G2 hi ⟨s5, vs, h5, pv5⟩
        have hil : i < zs.length := (List.getElem?_eq_some_iff.mp hi).1
        obtain ⟨u, hu, d, rfl, hd⟩ := par_get pz hi
        have hum := mem_o po gw (List.mem_of_getElem? hst) (List.mem_of_getElem? hu)
        obtain ⟨i1, i2⟩ := idxP_at hum
        have s45 := s4.trans s5
        have hu' : (renS o st)[i]? = some ((idxP o u.1 : Int), u.2) := by unfold renS; rw [List.getElem?_map, hu]; rfl
        refine ⟨d, _, rfl, .inl (.inl (s45 _ _ hd)), rfl, _, _, rfl, _, _, rfl, rfl, rfl, _, rfl, .inl ⟨rfl, _, SqL.of (s45 _ _ hq3)⟩, _, rfl, q, o.map V.int, .int u.1, idxP o u.1, .int u.1, rfl, rfl, SqL.of (s45 _ _ hq3), rfl, ?_, ?_, beq_self_eq_true u.1, ?_, _, rfl, (by show 2 ≤ sizeLine; decide), fun t nt => ⟨vs, ?_, ?_, (s5.new nt).mut nD3, _, upd_same, ?_⟩⟩
        · refine List.all_eq_true.mpr fun y hy => ?_
          obtain ⟨z, _, rfl⟩ := List.mem_map.mp hy
          rfl
        · rw [List.getElem?_map, i1]
          rfl
        · intro m2 z2 hm2 hz2
          obtain ⟨z3, hz3, rfl⟩ := int_at hz2
          exact beq_eq_false_iff_ne.mpr (i2 m2 z3 hm2 hz3)
        · rw [upd_ne (ne_of_none h5 nt)]
          exact h5
        · rw [par_len pv5, List.length_take]
          exact sm (by omega)
        · have h5t : upd G2 t (.tup [.int (idxP o u.1 : Nat), .int u.2]) D3 = some (.lst vs) := by
            rw [upd_ne (ne_of_none h5 nt)]
            exact h5
          have sp : SPat (upd G2 t (.tup [.int (idxP o u.1 : Nat), .int u.2])) (.ref t) ((idxP o u.1 : Int), u.2) := ⟨t, rfl, upd_same⟩
          rw [← take_snoc hu']
          exact par_app (par_imp (fun _ _ z => (z.same ((Same.refl G2).new nt)).mut h5t) pv5) (.cons (sp.mut h5t) .nil)
      rintro G2 ⟨s5, vs, h5, pv5⟩
      rw [show zs.length = (renS o st).length by unfold renS; rw [List.length_map, zl], List.take_length] at pv5
      have hst' : (way.map (renS o))[j]? = some (renS o st) := by rw [List.getElem?_map, hst]; rfl
      have h4' := s5 _ _ h4
      have D23 : V.ref D3 ≠ V.ref D2 := fun e => by
        have e2 := V.ref.inj e
        rw [e2, h4] at nD3
        cases nD3
      refine ⟨us, h4', ?_, (s4.trans s5).mut nD2, _, upd_same, ?_⟩
      · rw [par_len pu4, List.length_take, List.length_map]
        have := gw.ln
        exact sm (by omega)
      · rw [← take_snoc hst']
        have pu5 := par_imp (fun _ _ z => LSt.same z s5) pu4
        refine par_app (par_memi (fun x y hx l => l.upd (fun e => ?_) h4') pu5) (.cons (LSt.upd ⟨D3, vs, rfl, h5, pv5⟩ D23 h4') .nil)
        rw [e] at l hx
        obtain ⟨b, ws, eb, z, pp⟩ := l
        cases eb
        rw [h4'] at z
        cases z
        obtain ⟨q2, _, d2, ed, z2⟩ := par_mem pp hx
        cases ed
        rw [h4'] at z2
        cases z2
    rintro H4 ⟨s4, us, h4, pu4⟩
    rw [show xs.length = (way.map (renS o)).length by rw [List.length_map, xl], List.take_length] at pu4
    refine madeU (n := ls.length) ⟨D2, us, rfl, h4, pu4⟩ (ren_good po gw) l3 l8 fun x H5 lf s5 => ⟨rfl, ?_⟩
    have s35 := s4.trans s5
    have hla5 := s35 _ _ (s13 _ _ hla1)
    have lw3 : LWy H3 (.ref a) way := ⟨a, xs, rfl, ha3, px3⟩
    have lw5 := lw3.same s35
    have hq5 := s35 _ _ hq3
    have pen5 := (pen1.same s13).same s35
    have b05 : But p H H5 := fun b o nb hb => s35 _ _ (s13 _ _ (b01 _ _ nb hb))
    have nal : n + ((rngI ls.length).map V.int).length ≤ n + 10 := by rw [List.length_map, rngI_len]; omega
    have np := nets_anew (ls := ls) po gw
    have gd2 : goodV (renL o ls).length (dueW (way.map (renS o))) := by rw [rl]; exact due_good (ren_good po gw)
    refine ⟨_, rfl, r, x, renL o ls, dueW (way.map (renS o)), rfl, (ra.same s4).same s5, by omega, by omega, lf, gd2, fun e1 p1 H6 s6 nr1 => ?_, fun e1 p1 H6 s6 gr1 => ?_⟩
    · refine ⟨_, rfl, madeL2 (s6 _ _ hla5) l3 l8 bd fun r2 H7 ra2 s7 nr7 => ⟨rfl, ?_⟩⟩
      have s67 := s6.trans s7
      refine ⟨_, rfl, madeU (lw5.same s67) gw l3 l8 fun x2 H8 lf2 s8 => ⟨rfl, ?_⟩⟩
      refine ⟨r2, x2, ls, dueW way, rfl, ra2.same s8, l3, l8, lf2, due_good gw, fun e2 p2 H9 s9 nr2 => ?_, fun e2 p2 H9 s9 gr2 => ?_⟩
      · have s69 := (s7.trans s8).trans s9
        have nr1' := nr1.ext (ExtN.of s69)
        obtain ⟨v1, ⟨dx1, t1, hp1, ht1⟩, fv1⟩ := nr1'
        obtain ⟨v2, ⟨dx2, t2, hp2, ht2⟩, fv2⟩ := nr2
        obtain ⟨u1, rfl, hu1⟩ := fv_lot fv1
        obtain ⟨u2, rfl, hu2⟩ := fv_lot fv2
        refine ⟨_, rfl, p2, CN, dx2, _, _, rfl, hp2, RN.pc.cl, RN.pc.nw, rfl, _, rfl, p1, CN, dx1, _, _, rfl, hp1, RN.pc.cl, RN.pc.nw, rfl, rfl, _, rfl, iteF ?_⟩
        refine ⟨_, rfl, p2, CN, dx2, _, _, rfl, hp2, RN.pc.cl, RN.pc.nw, rfl, rfl, _, rfl, iteDT rfl ?_⟩
        refine ⟨_, rfl, p2, CN, dx2, _, _, rfl, hp2, RN.pc.cl, RN.n1, rfl, u2, _, rfl, sqT_of hu2, fun o2 z2 pm2 od2 nz2 => ?_⟩
        have q1 : Same H9 (upd H9 z2 (.lst (o2.map V.int))) := (Same.refl H9).new nz2
        have k1 : upd H9 z2 (.lst (o2.map V.int)) z2 = some (.lst (o2.map V.int)) := upd_same
        generalize upd H9 z2 (.lst (o2.map V.int)) = G1 at q1 k1 ⊢
        refine ⟨_, rfl, p1, CN, dx1, _, _, rfl, q1 _ _ hp1, RN.pc.cl, RN.n1, rfl, u1, _, rfl, sqT_of (q1 _ _ hu1), fun o1 z1 pm1 od1 nz1 => ?_⟩
        have q2 : Same G1 (upd G1 z1 (.lst (o1.map V.int))) := (Same.refl G1).new nz1
        have k2 : upd G1 z1 (.lst (o1.map V.int)) z1 = some (.lst (o1.map V.int)) := upd_same
        generalize upd G1 z1 (.lst (o1.map V.int)) = G2 at q2 k2 ⊢
        have eo : o2 = o1 := sorted_eqI ((pm2.trans np.symm).trans pm1.symm) od2 od1
        refine ⟨_, _, .lst (SqL.of (q2 _ _ k1)) (dp_ints _), .lst (SqL.of k2) (dp_ints _), shaped_ints _, shaped_ints _, ?_⟩
        rw [eqvA_pd, decide_eq_true eo]
        have sF := ((((s6.trans s69).trans q1).trans q2))
        exact k _ (fun b o nb hb => sF _ _ (b05 _ _ nb hb)) ((pen5.same sF).mono nal)
      · rw [had_perm np] at e1
        rw [e1] at e2
        cases e2
    · refine ⟨_, rfl, madeL2 (s6 _ _ hla5) l3 l8 bd fun r2 H7 ra2 s7 nr7 => ⟨rfl, ?_⟩⟩
      have s67 := s6.trans s7
      refine ⟨_, rfl, madeU (lw5.same s67) gw l3 l8 fun x2 H8 lf2 s8 => ⟨rfl, ?_⟩⟩
      refine ⟨r2, x2, ls, dueW way, rfl, ra2.same s8, l3, l8, lf2, due_good gw, fun e2 p2 H9 s9 nr2 => ?_, fun e2 p2 H9 s9 gr2 => ?_⟩
      · rw [had_perm np] at e1
        rw [e1] at e2
        cases e2
      · have s69 := (s7.trans s8).trans s9
        have gr1' := gr1.ext (ExtN.of s69)
        obtain ⟨v1, ⟨dx1, t1, hp1, ht1⟩, fv1⟩ := gr1'
        obtain ⟨v2, ⟨dx2, t2, hp2, ht2⟩, fv2⟩ := gr2
        obtain ⟨i1, st1, hi1, ed1, em1, gg1⟩ := great_at (ren_good po gw) e1
        obtain ⟨i2, st2, hi2, ed2, em2, gg2⟩ := great_at gw e2
        have es := great_same po gw hi2 gg2 hi1 gg1
        subst es
        rw [net_ren po gw (List.mem_of_getElem? hi2)] at em1
        rw [ed1] at fv1
        rw [ed2] at fv2
        obtain ⟨u1, rfl, hu1⟩ := fv_lot fv1
        obtain ⟨u2, rfl, hu2⟩ := fv_lot fv2
        have gs2 := gw.st st2 (List.mem_of_getElem? hi2)
        have gs1 := (ren_good po gw).st _ (List.mem_of_getElem? hi1)
        have ml1 : (lotI (asS (renS o st2))).length ≤ 8 := by unfold lotI; rw [List.length_map, asS_len]; exact gs1.2.1
        have esum := sum_perm np
        rw [em1, esum] at hp1 ht1
        rw [em2] at hp2 ht2
        refine ⟨_, rfl, p2, CG, dx2, _, _, rfl, hp2, TGC.pc.cl, TGC.pc.nw, rfl, _, rfl, p1, CG, dx1, _, _, rfl, hp1, TGC.pc.cl, TGC.pc.nw, rfl, rfl, _, rfl, iteF ?_⟩
        refine ⟨_, rfl, p2, CG, dx2, _, _, rfl, hp2, TGC.pc.cl, TGC.pc.nw, rfl, rfl, _, rfl, iteF ?_⟩
        have lb : ∀ b ∈ lotI (asS (renS o st2)), ∃ j : Nat, b = (j : Int) ∧ j < o.length := fun b hb => by
          have h2 := (asS_bars (renS o st2)).mem_iff.mp hb
          obtain ⟨q2, hq2, rfl⟩ := List.mem_map.mp h2
          obtain ⟨u, hu, rfl⟩ := List.mem_map.mp hq2
          have := (idxP_at (mem_o po gw (List.mem_of_getElem? hi2) hu)).1
          exact ⟨idxP o u.1, rfl, (List.getElem?_eq_some_iff.mp this).1⟩
        have hq9 := (s6.trans s69) _ _ hq5
        refine ⟨_, rfl, p1, CG, dx1, _, _, rfl, hp1, TGC.pc.cl, TGC.n1, rfl, u1, rfl, ⟨_, sqT_of hu1⟩, fun D5 nD5 => ?_⟩
        refine lc_tup (K := K) (a := u1) (xs := (lotI (asS (renS o st2))).map V.int) (fun j G => Same H9 G ∧ G D5 = some (.lst ((((lotI (asS (renS o st2))).take j).map fun b => o.getD b.toNat 0).map V.int))) ⟨(Same.refl H9).new nD5, upd_same⟩ (fun j G _ z => sqT_of (z.1 _ _ hu1)) ?_ ?_
        · rintro j y G hj ⟨q1, k1⟩
          obtain ⟨b, hb, rfl⟩ := int_at hj
          obtain ⟨jb, rfl, hjb⟩ := lb b (List.mem_of_getElem? hb)
          have hbl : j < (lotI (asS (renS o st2))).length := (List.getElem?_eq_some_iff.mp hb).1
          refine ⟨rfl, _, rfl, _, rfl, q, _, (jb : Int), _, rfl, rfl, SqL.of (q1 _ _ hq9), getL (i := jb) rfl hjb, _, k1, ?_, q1.mut nD5, ?_⟩
          · rw [List.length_map, List.length_map, List.length_take]
            exact sm (by omega)
          · rw [upd_same, ← take_snoc hb, List.map_append, List.map_append]
            rfl
        rintro G ⟨q1, k1⟩
        rw [List.length_map, List.take_length] at k1
        refine ⟨D5, _, rfl, SqL.of k1, fun ns z pm2 od nz => ?_⟩
        have q2 : Same G (upd G z (.lst (ns.map V.int))) := (Same.refl G).new nz
        have k2 : upd G z (.lst (ns.map V.int)) z = some (.lst (ns.map V.int)) := upd_same
        generalize upd G z (.lst (ns.map V.int)) = G2 at q2 k2 ⊢
        have q12 := q1.trans q2
        refine ⟨_, rfl, p2, CG, dx2, _, _, rfl, q12 _ _ hp2, TGC.pc.cl, TGC.n1, rfl, u2, _, rfl, .inr (sqT_of (q12 _ _ hu2)), fun l nl => ?_⟩
        have q3 : Same G2 (upd G2 l (.lst ((lotI (asS st2)).map V.int))) := (Same.refl G2).new nl
        have k3 : upd G2 l (.lst ((lotI (asS st2)).map V.int)) l = some (.lst ((lotI (asS st2)).map V.int)) := upd_same
        generalize upd G2 l (.lst ((lotI (asS st2)).map V.int)) = G3 at q3 k3 ⊢
        have ens : ns = lotI (asS st2) := by
          refine sorted_eqI (pm2.trans ?_) od (asS_asc st2)
          have p1 : ((lotI (asS (renS o st2))).map fun b => o.getD b.toNat 0).Perm (((renS o st2).map (·.1)).map fun b => o.getD b.toNat 0) := (asS_bars (renS o st2)).map _
          have e3 : ((renS o st2).map (·.1)).map (fun b => o.getD b.toNat 0) = st2.map (·.1) := by
            unfold renS
            rw [List.map_map, List.map_map]
            refine List.map_congr_left fun u hu => ?_
            have := (idxP_at (mem_o po gw (List.mem_of_getElem? hi2) hu)).1
            show o.getD ((idxP o u.1 : Nat) : Int).toNat 0 = u.1
            rw [Int.toNat_natCast, List.getD_eq_getElem?_getD, this]
            rfl
          rw [e3] at p1
          exact p1.trans (asS_bars st2).symm
        refine ⟨_, _, .lst (SqL.of (q3 _ _ k2)) (dp_ints _), .lst (SqL.of k3) (dp_ints _), shaped_ints _, shaped_ints _, ?_⟩
        rw [eqvA_pd, decide_eq_true ens]
        refine ⟨_, rfl, iteT ?_⟩
        have q13 := q12.trans q3
        refine ⟨_, rfl, p1, CG, dx1, _, _, rfl, q13 _ _ hp1, TGC.pc.cl, TGC.pc.np, rfl, _, rfl, ?_⟩
        dsimp only [tNoPart]
        refine slFromZ (i := 1) rfl (q13 _ _ ht1) fun w1 G4 k4 q4 => ?_
        refine ⟨_, rfl, p2, CG, dx2, _, _, rfl, q4 _ _ (q13 _ _ hp2), TGC.pc.cl, TGC.pc.np, rfl, _, rfl, ?_⟩
        dsimp only [tNoPart]
        refine slFromZ (i := 1) rfl (q4 _ _ (q13 _ _ ht2)) fun w2 G5 k5 q5 => ?_
        have ga : FV G5 false 1 (.ref w1) (.tuple [.int (absI (net ls st2)), .int ((netsW ls (dueW way)).sum - absI (net ls st2))]) := FV.tup (q5 _ _ k4) (by show 2 ≤ 1000; decide) (.cons (FV.int _) (.cons (FV.int _) .nil))
        have gb : FV G5 false 1 (.ref w2) (.tuple [.int (absI (net ls st2)), .int ((netsW ls (dueW way)).sum - absI (net ls st2))]) := FV.tup k5 (by show 2 ≤ 1000; decide) (.cons (FV.int _) (.cons (FV.int _) .nil))
        refine ⟨_, _, fv_dp ga, fv_dp gb, fv_shaped ga (by omega), fv_shaped gb (by omega), ?_⟩
        rw [(fv_good ga).2.2]
        have sF := (((s6.trans s69).trans q13).trans q4).trans q5
        exact k _ (fun b o nb hb => sF _ _ (b05 _ _ nb hb)) ((pen5.same sF).mono nal)
end
end K
namespace K
open PySem PySem.Spec PyProof.Rows L2 Rg LamX
open Evl (pss_cut)
/-- isinstance(e, c), e the caught error with its dict -/
def rIsX (K : PySem.W.Frag) (a : Addr) (cls : Value) (d : Option Addr) : List V → Hp → VK → Prop := fun xs H Q => ∃ (c : V) (cv : Value) (b : Bool) (D dd : Addr) (fs : List (Str × V)), xs = [.ref a, c] ∧ (∀ u, RelV c u → u = cv) ∧ cls = .ref D ∧ ExcC K D ∧ d = some dd ∧ H dd = some (.xd fs) ∧ PySem.W.kitOne K (.ref D) cv = some b ∧ Q (.bl b) H
theorem cr_isX {X : Cx} {a : Addr} {cls : Value} {d : Option Addr} {oe : Obj} {pn : List (Addr × Obj)} (hz : Zc cls d oe) (hf : ∃ vs, oe.data = .fields vs) : CallR (X.suite a ((a, oe) :: pn)) (.builtin "isinstance") (rIsX X.K a cls d) := by
  intro pins s σ H xs us Q I r ⟨c, cv, b, D, dd, fs, ex, hcv, ec, C, ed, hdd, e, q⟩
  subst ex ec ed
  obtain ⟨u1, u2, rfl, r1, r2⟩ := vals2 r
  obtain rfl : u1 = Value.ref a := r1
  obtain rfl := hcv _ r2
  obtain ⟨hget, _⟩ := I.pin (a, oe) (List.mem_append_left _ List.mem_cons_self)
  obtain ⟨vs, hv⟩ := hf
  obtain ⟨mA, hns, _⟩ := (show ObjOk X.prog X.w H s.heap dd (.xd fs) from I.hok dd _ hdd)
  obtain ⟨od, ho, _⟩ := lookIn_ns hns
  have J : PySem.W.InstAt s.heap a oe D (some od) := ⟨hget, hz.1, by unfold PySem.W.notCls; rw [hv] <;> rfl, by rw [hz.2]; exact ho⟩
  have hcl : (PySem.W.clsIn X.K D).isSome = true := by
    obtain ⟨cd, hc, _⟩ := PySem.W.any_some C.hd
    rw [hc]
    rfl
  exact PySem.W.kia_one (PySem.W.kitx_exc hcl C.hg C.hk C.hs C.ha C.hn C.ht C.hm) I.kIn J e (fun z => nomatch z) fun tk => ⟨.bl b, H, I.kept (t' := tk) fun _ _ z => z, rfl, q⟩
/-- isinstance(e, (A, B)), e the caught error with its dict -/
def rIsXT (K : PySem.W.Frag) (a : Addr) (cls : Value) (d : Option Addr) : List V → Hp → VK → Prop := fun xs H Q => ∃ (tp : Addr) (cs : List V) (us : List Value) (b : Bool) (D dd : Addr) (fs : List (Str × V)), xs = [.ref a, .ref tp] ∧ H tp = some (.tup cs) ∧ Paired ClsV cs us ∧ cls = .ref D ∧ ExcC K D ∧ d = some dd ∧ H dd = some (.xd fs) ∧ PySem.W.kitAny K (.ref D) us = some b ∧ Q (.bl b) H
theorem cr_isXT {X : Cx} {a : Addr} {cls : Value} {d : Option Addr} {oe : Obj} {pn : List (Addr × Obj)} (hz : Zc cls d oe) (hf : ∃ vs, oe.data = .fields vs) : CallR (X.suite a ((a, oe) :: pn)) (.builtin "isinstance") (rIsXT X.K a cls d) := by
  intro pins s σ H xs us Q I r ⟨tp, cs, cv, b, D, dd, fs, ex, hT, hk, ec, C, ed, hdd, e, q⟩
  subst ex ec ed
  obtain ⟨u1, u2, rfl, r1, r2⟩ := vals2 r
  obtain rfl : u1 = Value.ref a := r1
  cases (show u2 = Value.ref tp from r2)
  obtain ⟨_, its, rv, o, h1, h2, n, h3⟩ := (show ObjOk X.prog X.w H s.heap tp (.tup cs) from I.hok tp _ hT)
  have e3 := ClsV.all hk rv
  subst e3
  obtain ⟨oc, odt, dt, sl⟩ := o
  simp only at h2 h3
  subst h2 h3
  obtain ⟨hget, _⟩ := I.pin (a, oe) (List.mem_append_left _ List.mem_cons_self)
  obtain ⟨vs, hv⟩ := hf
  obtain ⟨mA, hns, _⟩ := (show ObjOk X.prog X.w H s.heap dd (.xd fs) from I.hok dd _ hdd)
  obtain ⟨od, ho, _⟩ := lookIn_ns hns
  have J : PySem.W.InstAt s.heap a oe D (some od) := ⟨hget, hz.1, by unfold PySem.W.notCls; rw [hv] <;> rfl, by rw [hz.2]; exact ho⟩
  have hcl : (PySem.W.clsIn X.K D).isSome = true := by
    obtain ⟨cd, hc, _⟩ := PySem.W.any_some C.hd
    rw [hc]
    rfl
  exact PySem.W.kia_tup (PySem.W.kitx_exc hcl C.hg C.hk C.hs C.ha C.hn C.ht C.hm) I.kIn J h1 e (fun z => nomatch z) fun tk => ⟨.bl b, H, I.kept (t' := tk) fun _ _ z => z, rfl, q⟩
/-- error.f, whose class is told at the proof -/
def tXfA (K : PySem.W.Frag) (a : Addr) (cls : Value) (d : Option Addr) (te : TE) (f : Str) : TE := fun σ Hh Q => te σ Hh fun x J => x = .ref a ∧ ∃ (C dd : Addr) (fs : List (Str × V)) (v : V), cls = .ref C ∧ XfC K C ∧ PySem.W.findIn K (.ref C) f = some none ∧ d = some dd ∧ J dd = some (.xd fs) ∧ fs.lookup f = some v ∧ Q v J
theorem pe_xfA {X : Cx} {a : Addr} {oe : Obj} {cls : Value} {d : Option Addr} {pn : List (Addr × Obj)} {ex : Expr} {te : TE} {po : Pos} {n : Str} (hz : Zc cls d oe) (hf : ∃ vs, oe.data = .fields vs) (he : PE (X.suite a ((a, oe) :: pn)) ex te)
    (hb : attributeBase ex n X.env (eval ex X.env) = eval ex X.env := by rfl) : PE (X.suite a ((a, oe) :: pn)) (.Attribute ex n po) (tXfA X.K a cls d te n) := by
  refine ⟨fun pins s σ Hh Q Iv h => attr_of hb (thn (he.run pins s σ Hh _ Iv h) fun u s1 hh => ?_)⟩
  obtain ⟨x, J, I1, rx, exx, C, dd, fs, v, ec, T, hno, ed, ea, l, q⟩ := hh
  subst exx
  obtain rfl : u = Value.ref a := rx
  subst ec ed
  obtain ⟨ha, _⟩ := I1.pin (a, oe) (List.mem_append_left _ List.mem_cons_self)
  obtain ⟨vs, hd⟩ := hf
  have hx : ObjOk X.prog X.w J s1.heap dd (.xd fs) := I1.hok dd _ ea
  obtain ⟨mA, hns, hr⟩ := hx
  obtain ⟨od, ho, hl⟩ := lookIn_ns hns
  obtain ⟨z, hu, ru⟩ := RelO.some_of (v := v) (o := mA n) (by rw [← l]; exact hr n)
  have J0 : PySem.W.InstAt s1.heap a oe C (some od) := ⟨ha, hz.1, by unfold PySem.W.notCls; rw [hd] <;> rfl, by rw [hz.2]; exact ho⟩
  exact HandSPX.exc_get I1.kIn J0 T.ga T.gg T.exC (PySem.W.findObj_own T.hdC hno rfl (by rw [hl, hu])) (handed_of ru) ⟨v, J, I1.tok _, ru, q⟩
theorem kit_fst {K : PySem.W.Frag} {t c : Value} {r : List Value} (h : PySem.W.kitOne K t c = some true) : PySem.W.kitAny K t (c :: r) = some true := by
  unfold PySem.W.kitAny
  rw [h]
theorem kit_skip {K : PySem.W.Frag} {t c : Value} {r : List Value} {b : Bool} (h : PySem.W.kitOne K t c = some false) (h2 : PySem.W.kitAny K t r = some b) : PySem.W.kitAny K t (c :: r) = some b := by
  unfold PySem.W.kitAny
  rw [h]
  exact h2
structure Hs where
  l : Addr
  r : Addr
  m : Addr
structure HeardC (K : PySem.W.Frag) (mg : Str → Option Value) (c : Hs) (eR : Addr) : Prop where
  gRE : mg "RingError" = some (.ref eR)
  gl : mg "BadLineUp" = some (.ref c.l)
  el : ExcC K c.l
  xl : XfC K c.l
  ml : PySem.W.exmOne K (.ref c.l) (.ref eR) = some true
  fl : PySem.W.findIn K (.ref c.l) "part" = some none
  gr : mg "BadRing" = some (.ref c.r)
  er : ExcC K c.r
  xr : XfC K c.r
  mr : PySem.W.exmOne K (.ref c.r) (.ref eR) = some true
  fr : PySem.W.findIn K (.ref c.r) "part" = some none
  gm : mg "Misfit" = some (.ref c.m)
  em : ExcC K c.m
  xm : XfC K c.m
  mm : PySem.W.exmOne K (.ref c.m) (.ref eR) = some true
  fm : PySem.W.findIn K (.ref c.m) "part" = some none
  krl : PySem.W.kitOne K (.ref c.r) (.ref c.l) = some false
  kml : PySem.W.kitOne K (.ref c.m) (.ref c.l) = some false
  kmr : PySem.W.kitOne K (.ref c.m) (.ref c.r) = some false
inductive Tells (c : Hs) : Addr → V → List V → Prop where
  | l (v : V) : Tells c c.l v [.str "lineup", v]
  | r (v : V) : Tells c c.r v [.str "ring", v]
  | m (v : V) : Tells c c.m v [.str "misfit", v]
/-- one of the errors comes: a tuple tells which, and its field -/
def Told (c : Hs) (Q : VK) : XK := fun cls d H' => ∃ (C dd : Addr) (v : V) (its : List V), cls = .ref C ∧ d = some dd ∧ H' dd = some (.xd [("part", v)]) ∧ Tells c C v its ∧ ∀ p H2, Same H' H2 → H2 p = some (.tup its) → Q (.ref p) H2
def THeard (c : Hs) : (XK → Hp → VK → Prop) → Hp → VK → Prop := fun tl H Q => ∀ R : VK, tl (Told c Q) H R
theorem takes_len {X : Cx} {W : WX} (t : Takes X W) : Takes X fun c d σ H => σ.length = X.N.length → W c d σ H := fun u s' ⟨a, B, sI, pins, σ, H, cls, d, e, I, nb, up, sky, na, os, ag, w⟩ =>
  t u s' ⟨a, B, sI, pins, σ, H, cls, d, e, I, nb, up, sky, na, os, ag, w I.len⟩
abbrev nHeard : List Str := ["_law_ask", "_law_heard_here", "error"]
theorem scHeard : FnScope nHeard ["_law_ask"] (defScope sLwHeard) := ⟨rfl, rfl, rfl, by decide +kernel, rfl, by decide +kernel, by decide +kernel⟩
theorem heard_gives {X : Cx} {c : Hs} {eR g : Addr} {cdg : Value} {q : Str} (T : Bi X.mg) (Hc : HeardC X.K X.mg c eR) : GivesTo X nHeard "_law_heard" (defScope sLwHeard) g cdg (defBody sLwHeard) "_law_ask" q (THeard c) := by
  intro f c' s H Q tl act hc h
  have nd := scHeard.nd
  refine ⟨_, pss_cons (ps_set (i := 1) nd rfl (Or.inl rfl) pe_non)
    (pss_cons (ps_try_as (X := (cxOf C8.CX0 X.prog X.w X.K X.mg X.base nHeard "_law_heard" (defScope sLwHeard) g cdg X.A X.stack s H C8.E0).nox) (c := .ref eR) (i := 2)
      (tb := fun W D σ H => ∃ Ech : XK, (∀ cls d σ' H', Ech cls d H' → σ'.length = 3 → W cls d σ' H') ∧ σ[0]? = some (some (.ref f)) ∧ H c' = some (CodeO c' q) ∧ tl Ech H fun _ H' => D.nx σ H')
      rfl rfl nd rfl rfl ⟨rfl, rfl, .inl Hc.gRE⟩ L2.takes0 (fun W pn xe tk _ => ?_) (fun a oe cls d pn hz hf =>
        pss_cons (ps_set (i := 1) nd rfl (Or.inl rfl) (pe_tup (pa_cons pe_str (pa_cons pe_str pa_nil))))
        (pss_one (ps_if (pt_val (pe_callB (cr_isXT hz hf) (by rfl) T.isinstance (by decide +kernel) (pa_cons (pv 2) (pa_cons (pe_tup (pa_cons (pe_glob (v := .ref c.l) rfl Hc.gl rfl) (pa_cons (pe_glob (v := .ref c.r) rfl Hc.gr rfl) (pa_cons (pe_glob (v := .ref c.m) rfl Hc.gm rfl) pa_nil)))) pa_nil))))
          (pss_one (ps_set (i := 1) nd rfl (Or.inl rfl) (pe_tup (pa_cons (pe_ifExp (pt_val (pe_callB (cr_isX hz hf) (by rfl) T.isinstance (by decide +kernel) (pa_cons (pv 2) (pa_cons (pe_glob (v := .ref c.l) rfl Hc.gl rfl) pa_nil)))) pe_str (pe_ifExp (pt_val (pe_callB (cr_isX hz hf) (by rfl) T.isinstance (by decide +kernel) (pa_cons (pv 2) (pa_cons (pe_glob (v := .ref c.r) rfl Hc.gr rfl) pa_nil)))) pe_str pe_str)) (pa_cons (pe_xfA hz hf (pv 2)) pa_nil)))))
          pss_nil))))
    (pss_one (ps_ret (pv 1)))), ?_⟩
  · refine ⟨fun pins s' σ H' D I h' => ?_⟩
    obtain ⟨Ech, hW, h1, h2, h3⟩ := h'
    exact (pss_one (ps_expr (act _ pn xe Ech _ _ (takes_len tk) hW))).run pins s' σ H' D I ⟨h1, h2, h3⟩
  · refine ⟨Told c Q, ?_, rfl, hc, h _⟩
    rintro cls d σ' H' ⟨C, dd, v, its, rfl, rfl, hdd, tells, q⟩ hl
    obtain ⟨x0, x1, x2, rfl⟩ : ∃ x0 x1 x2, σ' = [x0, x1, x2] := by
      match σ', hl with
      | [x0, x1, x2], _ => exact ⟨x0, x1, x2, rfl⟩
    have two : ∀ y : Addr, H' y = none → ∀ t : Addr, upd H' y (.tup [.str "other", .str ""]) t = none → Same H' (upd (upd H' y (.tup [.str "other", .str ""])) t (.tup [.ref c.l, .ref c.r, .ref c.m])) := fun y hy t ht => ((Same.refl H').new hy).new ht
    have tells' := tells
    cases tells'
    · refine ⟨true, Hc.ml, fun _ a ha => ?_, fun z => by cases z⟩
      refine ⟨(by show 2 ≤ sizeLine; decide), fun y hy => ?_⟩
      refine ⟨_, rfl, (by show 3 ≤ sizeLine; decide), fun t ht => ?_⟩
      have s2 := two y hy t ht
      refine ⟨t, _, _, true, c.l, dd, _, rfl, upd_same, .cons (.own _) (.cons (.own _) (.cons (.own _) .nil)), rfl, Hc.el, rfl, s2 _ _ hdd, kit_fst kit_self, _, rfl, iteT ?_⟩
      refine ⟨_, rfl, .ref c.l, .ref c.l, true, c.l, dd, _, rfl, fun _ r => r, rfl, Hc.el, rfl, s2 _ _ hdd, kit_self, _, rfl, iteT ?_⟩
      refine ⟨_, rfl, rfl, c.l, dd, _, v, rfl, Hc.xl, Hc.fl, rfl, s2 _ _ hdd, by simp [List.lookup], (by show 2 ≤ sizeLine; decide), fun p hp => ?_⟩
      exact ⟨_, rfl, q p _ (s2.new hp) upd_same⟩
    · refine ⟨true, Hc.mr, fun _ a ha => ?_, fun z => by cases z⟩
      refine ⟨(by show 2 ≤ sizeLine; decide), fun y hy => ?_⟩
      refine ⟨_, rfl, (by show 3 ≤ sizeLine; decide), fun t ht => ?_⟩
      have s2 := two y hy t ht
      refine ⟨t, _, _, true, c.r, dd, _, rfl, upd_same, .cons (.own _) (.cons (.own _) (.cons (.own _) .nil)), rfl, Hc.er, rfl, s2 _ _ hdd, kit_skip Hc.krl (kit_fst kit_self), _, rfl, iteT ?_⟩
      refine ⟨_, rfl, .ref c.l, .ref c.l, false, c.r, dd, _, rfl, fun _ r => r, rfl, Hc.er, rfl, s2 _ _ hdd, Hc.krl, _, rfl, iteF ?_⟩
      refine ⟨_, rfl, .ref c.r, .ref c.r, true, c.r, dd, _, rfl, fun _ r => r, rfl, Hc.er, rfl, s2 _ _ hdd, kit_self, _, rfl, iteT ?_⟩
      refine ⟨_, rfl, rfl, c.r, dd, _, v, rfl, Hc.xr, Hc.fr, rfl, s2 _ _ hdd, by simp [List.lookup], (by show 2 ≤ sizeLine; decide), fun p hp => ?_⟩
      exact ⟨_, rfl, q p _ (s2.new hp) upd_same⟩
    · refine ⟨true, Hc.mm, fun _ a ha => ?_, fun z => by cases z⟩
      refine ⟨(by show 2 ≤ sizeLine; decide), fun y hy => ?_⟩
      refine ⟨_, rfl, (by show 3 ≤ sizeLine; decide), fun t ht => ?_⟩
      have s2 := two y hy t ht
      refine ⟨t, _, _, true, c.m, dd, _, rfl, upd_same, .cons (.own _) (.cons (.own _) (.cons (.own _) .nil)), rfl, Hc.em, rfl, s2 _ _ hdd, kit_skip Hc.kml (kit_skip Hc.kmr (kit_fst kit_self)), _, rfl, iteT ?_⟩
      refine ⟨_, rfl, .ref c.l, .ref c.l, false, c.m, dd, _, rfl, fun _ r => r, rfl, Hc.em, rfl, s2 _ _ hdd, Hc.kml, _, rfl, iteF ?_⟩
      refine ⟨_, rfl, .ref c.r, .ref c.r, false, c.m, dd, _, rfl, fun _ r => r, rfl, Hc.em, rfl, s2 _ _ hdd, Hc.kmr, _, rfl, iteF ?_⟩
      refine ⟨_, rfl, rfl, c.m, dd, _, v, rfl, Hc.xm, Hc.fm, rfl, s2 _ _ hdd, by simp [List.lookup], (by show 2 ≤ sizeLine; decide), fun p hp => ?_⟩
      exact ⟨_, rfl, q p _ (s2.new hp) upd_same⟩
/-- a lambda that raises is heard; Z: how things stand where it raises -/
theorem hear {c : Hs} {C : Addr} {v : V} {its : List V} (te : Tells c C v its) {T : List (Addr × Str)} {H : Hp} {σ : L2.St} {t : XK → TE} {Q : VK} (Z : Hp → Prop) (tab : Tabs T H)
    (body : ∀ (E' : XK) (J : Hp) (Q' : VK), ExtN H J → Tabs T J → (∀ J2 : Hp, Z J2 → Errs E' C "part" v J2) → t E' σ J Q') (k : ∀ J2 M p, Z J2 → Same J2 M → M p = some (.tup its) → Q (.ref p) M) : tLam T (THeard c) t σ H Q := by
  refine ⟨tab, fun I extI tabsI R => ?_⟩
  refine body _ _ _ extI tabsI fun J2 z d L sL nd xd => ⟨C, d, v, its, rfl, rfl, xd, te, fun p M sM hp => k J2 M p z (sL.trans sM) hp⟩
/-- all but what stands at h and the tables stay -/
def Kp (h : Addr) (H H' : Hp) : Prop := ∀ b o, b ≠ h → H b = some o → (∀ ps, o ≠ .tbl ps) → H' b = some o
theorem Kp.refl (h : Addr) (H : Hp) : Kp h H H := fun _ _ _ e _ => e
theorem Kp.of_but {h : Addr} {H H' : Hp} (b : But h H H') : Kp h H H' := fun a o n e _ => b a o n e
theorem Kp.ext {h : Addr} {H H1 H2 : Hp} (a : Kp h H H1) (e : ExtN H1 H2) : Kp h H H2 := fun b o n q t => e b o (a b o n q t) t
theorem Kp.same {h : Addr} {H H1 H2 : Hp} (a : Kp h H H1) (s : Same H1 H2) : Kp h H H2 := fun b o n q t => s b o (a b o n q t)
theorem Kp.but {h : Addr} {H H1 H2 : Hp} (a : Kp h H H1) (s : But h H1 H2) : Kp h H H2 := fun b o n q t => s b o n (a b o n q t)
theorem Kp.trans {h : Addr} {H H1 H2 : Hp} (a : Kp h H H1) (s : Kp h H1 H2) : Kp h H H2 := fun b o n q t => s b o n (a b o n q t) t
theorem tabS_but {h : Addr} {xs : List V} {H H' : Hp} {P : Addr} {q : Str} (t : TabS H P q) (b : But h H H') (hh : H h = some (.lst xs)) : TabS H' P q := by
  obtain ⟨ps, h1, h2, h3⟩ := t
  refine ⟨ps, b _ _ (fun e => ?_) h1, h2, fun pos cv hc => ?_⟩
  · rw [e, hh] at h1
    cases h1
  · obtain ⟨c, e1, e2⟩ := h3 pos cv hc
    refine ⟨c, e1, b _ _ (fun e => ?_) e2⟩
    rw [e, hh] at e2
    cases e2
theorem tabs_but {h : Addr} {xs : List V} {H H' : Hp} {T : List (Addr × Str)} (t : Tabs T H) (b : But h H H') (hh : H h = some (.lst xs)) : Tabs T H' := fun p hp => tabS_but (t p hp) b hh
abbrev qRf : Str := "_law_refused_right.<locals>.<lambda>"
abbrev T1 (P1 : Addr) : List (Addr × Str) := [(P1, qRf)]
/-- a def whose code object stands at c -/
structure FunC (K : PySem.W.Frag) (x qual : Str) (st : Stmt) (f : Addr) (fd : FuncData) (c : Addr) : Prop where
  ex : ∃ (oc : Value) (od : Option Addr) (kV doc pm : Value) (an : Option Addr) (ct : Value) (osl : Array (Option Value)),
    fd = PySem.W.fnOf x qual (defArgs st) (defBody st) (defScope st) .none kV doc pm an (.ref c) ct ∧ K.lookup f = some ⟨oc, od, .func fd, osl⟩ ∧ PySem.W.codeIn K (.ref c) qual = true
theorem FunC.ok {P : Program} {w : World} {K : PySem.W.Frag} {mg : Str → Option Value} {base : Heap} {x qual : Str} {st : Stmt} {f c : Addr} {fd : FuncData} {N ps : List Str} {k : Nat} {sp : Sp} (F : FunC K x qual st f fd c) (S : FnScope N ps (defScope st)) (len : ∀ vs H Q E, sp vs H Q E → vs.length = ps.length)
    (hbody : ∀ (A : Around) (outer : List Env) (s : Shared) (H : Hp) (vs : List V) (Q : VK) (E : XK), Room k (A.deeper (PyProof.Rows.envOfC qual (defScope st) s.heap.objs.size f (.ref c))) → sp vs H Q E →
      ∃ t, PSs (cxOf CX0 P w K mg base N qual (defScope st) f (.ref c) A outer s H E).nox (defBody st) t ∧ t { nx := fun _ H' => Q .non H', rt := Q } (L2.start N vs) H) : FnOk P w K mg base CX0 (k + 1) f fd ps sp := by
  obtain ⟨oc, od, kV, doc, pm, an, ct, osl, rfl, lk, hcd⟩ := F.ex
  exact fn_of lk hcd S len fun A outer s H vs Q E hr hsp => by
    obtain ⟨t, h, q⟩ := hbody A outer s H vs Q E hr hsp
    exact ⟨t, h.nox, q⟩
theorem Same.ext {H H' : Hp} (s : Same H H') : ExtN H H' := ExtN.of s
theorem RingW.ext {K : PySem.W.Frag} {C : Addr} {H H' : Hp} {r : Addr} {ls : List Int} (h : RingW K C H r ls) (s : ExtN H H') : RingW K C H' r ls := by
  obtain ⟨dx, t, h1, h2⟩ := h
  refine ⟨dx, t, s _ _ h1 (fun _ z => nomatch z), ?_⟩
  rcases h2 with (z | ⟨o, z⟩) | z
  · exact .inl (.inl (s _ _ z (fun _ z => nomatch z)))
  · exact .inl (.inr ⟨o, s _ _ z (fun _ z => nomatch z)⟩)
  · exact .inr z
theorem PenAt.ext {K : PySem.W.Frag} {H H' : Hp} {p : Addr} {e : Addr × List Int} {n : Nat} (h : PenAt K H p e n) (s : ExtN H H') : PenAt K H' p e n := by
  obtain ⟨a, r, h1, h5, h6, h7⟩ := h.ex
  refine ⟨⟨a, r, s _ _ h1 (fun _ z => nomatch z), h5, h6, h7⟩, ?_, h.np, h.ln⟩
  rcases h.sq with (z | ⟨o, z⟩) | z
  · exact .inl (.inl (s _ _ z (fun _ z => nomatch z)))
  · exact .inl (.inr ⟨o, s _ _ z (fun _ z => nomatch z)⟩)
  · exact .inr z
end K
namespace Rg
open PySem PySem.Spec PyProof.Rows L2
/-! ### str(oj), the instance's own __str__ -/
section
variable {X : Cx} {k : Nat} {f : Addr} {fd : FuncData} {sp : Sp}
def rStrO (K : PySem.W.Frag) (f : Addr) (sp : Sp) : List V → Hp → VK → Prop := fun vxs Hh Qq => ∃ a C dx fs, vxs = [.ref a] ∧ Hh a = some (.ins C dx fs) ∧ PySem.W.findIn K (.ref C) "__str__" = some (some (.ref f)) ∧ PySem.W.isFn K (.ref f) = true ∧
  sp [.ref a] Hh (fun v H' => ∃ y : Str, v = .str y ∧ Qq (.str y) H') E0
theorem call_strO (F : FnOk X.prog X.w X.K X.mg X.base CX0 k f fd ["self"] sp) (hr : Room (k + 2) X.A) (hb : Binds X.K fd ["self"] []) : CallR X (.type "str") (rStrO X.K f sp) := by
  intro pns s σs Hh vxs uvs Qq Iv r h
  obtain ⟨a, C, dx, fs, rfl, eqa, hs, hf, qq⟩ := h
  obtain ⟨u, rfl, rlu⟩ := vals1 r
  obtain rfl : u = Value.ref a := rlu
  obtain ⟨mA, O, _, _, _, _⟩ := ins_get Iv.hok eqa
  obtain ⟨od, hod⟩ : ∃ od, s.heap.get? dx = some od := let ⟨oj, _, _, e', _⟩ := O.ns; ⟨oj, e'⟩
  have hu := hr.units
  refine PySem.W.kso_call (K := X.K) (ox := PySem.W.instObj C dx) (C := C) (od := some od) (by show X.A.units + 1 + 1 < cLine; omega) Iv.kIn ⟨O.obj, rfl, rfl, hod⟩ hs hf ?_
  have hlst : ([Value.ref a] ++ []).length = (["self"] : List Str).length := rfl
  refine wpAny_call (codeAny_mono (F.run X.A.in1.in1 X.stack s Hh ⟨[.ref a], []⟩ [.ref a] [.ref a] _ E0 hr.in1.in1 Iv.env0.in1.in1 (hb s [.ref a] Iv.kIn hlst) (.cons rfl .nil) qq) fun r s' hsq => ?_)
  cases r with
  | error e => exact hsq.elim
  | ok fl =>
    cases fl with
    | ret u =>
      obtain ⟨v, H', I3, rlv, y, ev, q3⟩ := Iv.after hsq
      subst ev
      obtain ⟨t, rfl⟩ := rlv
      exact ⟨.str y, H', I3, ⟨t, rfl⟩, q3⟩
    | next => exact False.elim hsq
    | brk => exact False.elim hsq
    | cont => exact False.elim hsq
end
end Rg
namespace K
open PySem L2 Rg LamX
open Evl (pss_cut)
theorem digit_len {b : Int} (h0 : 0 ≤ b) (h8 : b < 8) : (toString b : Str).length ≤ 2 ∧ b.natAbs.log2 < 1920 := by
  have : b = 0 ∨ b = 1 ∨ b = 2 ∨ b = 3 ∨ b = 4 ∨ b = 5 ∨ b = 6 ∨ b = 7 := by omega
  rcases this with rfl | rfl | rfl | rfl | rfl | rfl | rfl | rfl <;> decide +kernel
def SmS (ss : List Str) : Prop := ∀ s ∈ ss, s.length ≤ 4
theorem SmS.app {a b : List Str} (h : SmS a) (k : SmS b) : SmS (a ++ b) := fun s hs => (List.mem_append.mp hs).elim (h s) (k s)
theorem SmS.one {s : Str} (h : s.length ≤ 4) : SmS [s] := fun x hx => by rw [List.mem_singleton.mp hx]; exact h
theorem SmS.sum : ∀ {ss : List Str}, SmS ss → (ss.map (·.length)).sum ≤ 4 * ss.length
  | [], _ => Nat.le_refl _
  | s :: ss, h => by
    have ih := SmS.sum (ss := ss) fun x hx => h x (List.mem_cons_of_mem _ hx)
    have := h s (List.mem_cons_self ..)
    rw [List.map_cons, List.sum_cons, List.length_cons]
    omega
def RowT (H : Hp) (v : V) : Prop := ∃ (a : Addr) (ss : List Str), v = .ref a ∧ H a = some (.lst (ss.map V.str)) ∧ ss.length ≤ 9 ∧ SmS ss
theorem RowT.same {H H' : Hp} {v : V} (h : RowT H v) (s : Same H H') : RowT H' v := let ⟨a, ss, e, z, l, k⟩ := h; ⟨a, ss, e, s _ _ z, l, k⟩
section
variable {P : Program} {w : World} {K : PySem.W.Frag} {mg : Str → Option Value} {base : Heap}
/-! ### item_of -/
def spItO : Sp := fun vs H Q _ => ∃ b s : Int, vs = [.int b, .int s] ∧ 0 ≤ b ∧ b < 8 ∧ ∀ z : Str, z.length ≤ 4 → Q (.str z) H
theorem scItO : FnScope ["bar", "sign"] ["bar", "sign"] (defScope sItemOf) := ⟨rfl, rfl, rfl, by decide +kernel, rfl, by decide +kernel, by decide +kernel⟩
theorem ok_itO {f : Addr} {fd : FuncData} (F : Fun K "item_of" "item_of" sItemOf f fd) (Ts : mg "str" = none) : FnOk P w K mg base CX0 1 f fd ["bar", "sign"] spItO := by
  refine F.ok scItO (fun vs H Q E h => ?_) (fun cdv A outer s H vs Q E hr h => ?_)
  · obtain ⟨b, s, rfl, _⟩ := h
    rfl
  · refine ⟨_, pss_one (ps_ret (pe_op op_add_str (pe_ifExp (pt_cmpR op_eq (pv 1) pe_int (nomark _)) pe_str pe_str) (pe_callTy call_str_int (by rfl) Ts (by decide +kernel) (pa_cons (pv 0) pa_nil)))), ?_⟩
    obtain ⟨b, s, rfl, h0, h8, k⟩ := h
    obtain ⟨d1, d2⟩ := digit_len h0 h8
    refine ⟨_, rfl, rfl, _, rfl, ?_⟩
    by_cases c : V.int s = V.int 1
    · refine iteDT c ⟨_, rfl, b, rfl, d2, _, _, rfl, rfl, ?_, k _ ?_⟩
      · exact Nat.le_trans (Nat.add_le_add (show ("+" : Str).length ≤ 1 by decide) d1) (by decide)
      · exact Nat.le_trans (Nat.le_of_eq (PySem.Str.length_append _ _)) (Nat.le_trans (Nat.add_le_add (show ("+" : Str).length ≤ 1 by decide) d1) (by decide))
    · refine iteDF c ⟨_, rfl, b, rfl, d2, _, _, rfl, rfl, ?_, k _ ?_⟩
      · exact Nat.le_trans (Nat.add_le_add (show ("-" : Str).length ≤ 1 by decide) d1) (by decide)
      · exact Nat.le_trans (Nat.le_of_eq (PySem.Str.length_append _ _)) (Nat.le_trans (Nat.add_le_add (show ("-" : Str).length ≤ 1 by decide) d1) (by decide))
/-! ### lineup_items -/
def spLI (K : PySem.W.Frag) (CL : Addr) : Sp := fun vs H Q _ => ∃ (r : Addr) (W : List Strd), vs = [.ref r] ∧ LineF CL H r W ∧ fitW 8 W ∧ ∀ (p : Addr) (ss : List Str) (H' : Hp), Same H H' → H' p = some (.lst (ss.map V.str)) → ss.length ≤ 100 → SmS ss → Q (.ref p) H'
abbrev nLI : List Str := ["lineup", "rows", "strand", "bar", "sign", "row", "item"]
theorem scLI : FnScope nLI ["lineup"] (defScope sLineupItems) := ⟨rfl, rfl, rfl, by decide +kernel, rfl, by decide +kernel, by decide +kernel⟩
def scLIo : Scope := { kind := .function, names := [(Str.ofString ".0", .local), (Str.ofString "strand", .local)], isGenerator := false, isCoroutine := false }
theorem ok_li {CL f fI : Addr} {fd fdI : FuncData} (F : Fun K "lineup_items" "lineup_items" sLineupItems f fd) (T : Bi mg) (RL : LineC K mg CL) (IT : DefAt P w K mg base CX0 1 "item_of" ["bar", "sign"] spItO fI fdI) : FnOk P w K mg base CX0 2 f fd ["lineup"] (spLI K CL) := by
  refine F.ok scLI (fun vs H Q E h => ?_) (fun cdv A outer s H vs Q E hr h => ?_)
  · obtain ⟨r, W, rfl, _⟩ := h
    rfl
  · have nd := scLI.nd
    refine ⟨_, pss_cons (ps_setLc (i := 1) (own := [("strand", 2)]) (g := gName 2) (tt := tYes) (te := tOp rCat (tLst (tCons (tC (.str "/")) tNil)) (tLc (iTup K (tVar 2)) (gTup K 2 (gCons (gName 3) (gCons (gName 4) gNil))) tYes (tCall spItO [] E0 (tCons (tVar 3) (tCons (tVar 4) tNil))) [3, 4])) rfl nd rfl rfl (sw_true rfl rfl rfl (by decide +kernel)) (pi_tup (pe_fld (pv 0) rfl))
          (blkOk_by (N := nLI) (sc := defScope sLineupItems) (by decide +kernel)) (fun _ _ _ _ _ => pg_name (i := 2) nd rfl (Or.inl rfl)) (fun _ _ _ _ _ => pts_nil)
          (fun _ _ _ _ _ => pe_op op_cat (pe_lst (pa_cons pe_str pa_nil)) (pe_lc (own := [("bar", 3), ("sign", 4)]) (g := gTup K 2 (gCons (gName 3) (gCons (gName 4) gNil))) (tt := tYes) (te := tCall spItO [] E0 (tCons (tVar 3) (tCons (tVar 4) tNil))) rfl nd (pi_tup (pv 2))
            (blkOk_by (N := nLI) (sc := relS scLIo (defScope sLineupItems)) (by decide +kernel)) (fun _ _ _ _ _ => pg_tup rfl (pgs_cons (pg_name (i := 3) nd rfl (Or.inl rfl)) (pgs_cons (pg_name (i := 4) nd rfl (Or.inl rfl)) pgs_nil))) (fun _ _ _ _ _ => pts_nil)
            (fun _ _ _ _ _ => pe_call IT.ok hr rfl IT.g IT.kp IT.b .nil pass0 (pa_cons (pv 3) (pa_cons (pv 4) pa_nil))))))
      (pss_one (ps_ret (pe_slice sl_list (pe_lc2 (own := [("row", 5), ("item", 6)]) (vs1 := [6]) (g := gName 5) (g1 := gName 6) (tt := tYes) (tt1 := tYes) (wi1 := iList K (tVar 5)) (te := tVar 6) rfl nd (pi_list (pv 1)) (blkOk_by (N := nLI) (sc := defScope sLineupItems) (by decide +kernel)) (by decide)
          (fun _ _ _ _ _ => pg_name (i := 5) nd rfl (Or.inl rfl)) (fun _ _ _ _ _ => pts_nil) (fun _ _ _ _ _ => pi_list (pv 5)) (fun _ _ _ _ _ => pg_name (i := 6) nd rfl (Or.inl rfl)) (fun _ _ _ _ _ => pts_nil) (fun _ _ _ _ _ => pv 6)) (po_some pe_int) po_none))), ?_⟩
    obtain ⟨r, W, rfl, lf, ⟨w8, fit⟩, k⟩ := h
    obtain ⟨dl, t, l, lx, n, hr0, en, ⟨t', xs, et, ht, px⟩, _⟩ := id lf
    obtain rfl := V.ref.inj et
    have xl := par_len px
    refine ⟨_, rfl, r, CL, dl, _, _, rfl, hr0, RL.cl, RL.nS, rfl, t, rfl, ⟨_, sqT_of ht⟩, fun D nD => ?_⟩
    refine lc_tup (K := K) (a := t) (xs := xs) (fun j G => Same H G ∧ ∃ us, G D = some (.lst us) ∧ us.length = j ∧ ∀ u ∈ us, RowT G u ∧ u ≠ .ref D) ⟨(Same.refl H).new nD, [], upd_same, rfl, (fun u hu => nomatch hu)⟩ (fun j G _ z => sqT_of (z.1 _ _ ht)) ?_ ?_
    · rintro j y G hj ⟨s1, us, h1, ul, gu⟩
      obtain ⟨st, hst, c, zs, rfl, hc, pz⟩ := par_get px hj
      have hjl : j < xs.length := (List.getElem?_eq_some_iff.mp hj).1
      have hm := fit st (List.mem_of_getElem? hst)
      have zl := par_len pz
      refine ⟨rfl, (by show 1 ≤ sizeLine; decide), fun t1 n1 => ?_⟩
      have s2 : Same G (upd G t1 (.lst [.str "/"])) := (Same.refl G).new n1
      have h2 : upd G t1 (.lst [.str "/"]) t1 = some (.lst [.str "/"]) := upd_same
      generalize upd G t1 (.lst [.str "/"]) = G1 at s2 h2 ⊢
      have s12 := s1.trans s2
      refine ⟨_, rfl, c, rfl, ⟨_, sqT_of (s12 _ _ hc)⟩, fun D3 nD3 => ?_⟩
      refine lc_tup (K := K) (a := c) (xs := zs) (fun i G2 => Same G1 G2 ∧ ∃ ss : List Str, G2 D3 = some (.lst (ss.map V.str)) ∧ ss.length = i ∧ SmS ss) ⟨(Same.refl G1).new nD3, [], upd_same, rfl, (fun u hu => nomatch hu)⟩ (fun i G2 _ z => sqT_of (z.1 _ _ (s12 _ _ hc))) ?_ ?_
      · rintro i z G2 hi ⟨s3, ss, h3, sl, sm3⟩
        have hil : i < zs.length := (List.getElem?_eq_some_iff.mp hi).1
        obtain ⟨u, hu, d, rfl, hd⟩ := par_get pz hi
        have hub := hm.2 u (List.mem_of_getElem? hu)
        refine ⟨d, _, rfl, .inl (.inl (s3 _ _ (s12 _ _ hd))), rfl, _, _, rfl, _, _, rfl, rfl, rfl, _, rfl, _, rfl, u.1, u.2, rfl, hub.1, by have := hub.2.1; omega, fun q hq => ⟨_, h3, ?_, s3.mut nD3, ss ++ [q], ?_, by rw [List.length_append, sl]; rfl, sm3.app (SmS.one hq)⟩⟩
        · rw [List.length_map]
          exact sm (by omega)
        · rw [upd_same, List.map_append]
          rfl
      rintro G2 ⟨s3, ss, h3, sl, sm3⟩
      refine ⟨t1, D3, _, _, rfl, rfl, s3 _ _ h2, h3, ?_, fun t5 n5 => ?_⟩
      · rw [List.length_map]
        exact Nat.le_of_lt (szl (n := 1 + ss.length) (by omega))
      have s4 : Same G2 (upd G2 t5 (.lst ([.str "/"] ++ ss.map V.str))) := (Same.refl G2).new n5
      have h4 : upd G2 t5 (.lst ([.str "/"] ++ ss.map V.str)) t5 = some (.lst ((("/" : Str) :: ss).map V.str)) := upd_same
      generalize upd G2 t5 (.lst ([.str "/"] ++ ss.map V.str)) = G4 at s4 h4 ⊢
      have s24 := (s2.trans s3).trans s4
      have h14 := s24 _ _ h1
      have ne5 : V.ref t5 ≠ .ref D := fun e => by
        have e := V.ref.inj e
        rw [e, h14] at h4
        have e2 := HO.lst.inj (Option.some.inj h4)
        obtain ⟨⟨a, _, e3, _⟩, _⟩ := gu (.str "/") (by rw [e2]; exact List.mem_cons_self ..)
        cases e3
      refine ⟨us, h14, ?_, (s1.trans s24).mut nD, us ++ [.ref t5], upd_same, by rw [List.length_append, ul]; rfl, fun u hu => ?_⟩
      · exact sm (by omega)
      · have rowm : ∀ u, RowT G4 u → u ≠ .ref D → RowT (upd G4 D (.lst (us ++ [.ref t5]))) u := fun u ⟨a, ss, e, z, l, k⟩ ne => ⟨a, ss, e, by rw [upd_ne fun q => ne (by rw [e, q])]; exact z, l, k⟩
        rcases List.mem_append.mp hu with hu | hu
        · obtain ⟨g1, g2⟩ := gu u hu
          exact ⟨rowm u (g1.same s24) g2, g2⟩
        · rw [List.mem_singleton.mp hu]
          exact ⟨rowm _ ⟨t5, _, rfl, h4, by rw [List.length_cons]; omega, fun x hx => by
            rcases List.mem_cons.mp hx with rfl | hx
            · decide
            · exact sm3 x hx⟩ ne5, ne5⟩
    rintro H1 ⟨s1, us, h1, ul, gu⟩
    refine ⟨_, rfl, D, rfl, ⟨_, SqL.of h1⟩, fun D2 nD2 => ?_⟩
    refine walk_any walk_list (fun j G => Same H1 G ∧ ∃ ss : List Str, G D2 = some (.lst (ss.map V.str)) ∧ ss.length ≤ 9 * j ∧ SmS ss) ⟨(Same.refl H1).new nD2, [], upd_same, Nat.le_refl _, (fun u hu => nomatch hu)⟩ (fun j G _ z => SqL.of (z.1 _ _ h1)) ?_ ?_
    · rintro j x G G' hj ⟨s2, ss, h2, sl, sm2⟩ ⟨rfl, hx⟩
      obtain ⟨⟨a, rs, rfl, ha, rl, rm⟩, _⟩ := gu x (List.mem_of_getElem? hx)
      refine ⟨rfl, _, rfl, a, rfl, ⟨_, SqL.of (s2 _ _ ha)⟩, ?_⟩
      refine walk_any walk_list (fun i G2 => Same H1 G2 ∧ ∃ ss : List Str, G2 D2 = some (.lst (ss.map V.str)) ∧ ss.length ≤ 9 * j + i ∧ SmS ss) ⟨s2, ss, h2, sl, sm2⟩ (fun i G2 _ z => SqL.of (z.1 _ _ ha)) ?_ ?_
      · rintro i y G2 G3 hi ⟨s3, ss3, h3, sl3, sm3⟩ ⟨rfl, hy⟩
        rw [List.getElem?_map] at hy
        rw [List.length_map] at hi
        obtain ⟨q, hq, rfl⟩ : ∃ q, rs[i]? = some q ∧ V.str q = y := by
          cases e : rs[i]? with
          | none => rw [e] at hy; cases hy
          | some q => rw [e] at hy; exact ⟨q, rfl, Option.some.inj hy⟩
        refine ⟨rfl, _, rfl, _, h3, ?_, s3.mut nD2, ss3 ++ [q], ?_, by rw [List.length_append]; exact Nat.succ_le_succ sl3, sm3.app (SmS.one (rm q (List.mem_of_getElem? hq)))⟩
        · rw [List.length_map]
          exact sm (by omega)
        · rw [upd_same, List.map_append]
          rfl
      · rintro G2 ⟨s3, ss3, h3, sl3, sm3⟩
        rw [List.length_map] at sl3
        exact ⟨s3, ss3, h3, by omega, sm3⟩
    rintro H2 ⟨s2, ss, h2, sl, sm2⟩
    refine ⟨_, rfl, D2, _, rfl, SqL.of h2, fun p np => ?_⟩
    rw [cut_from (z := 1) (k := 1) _ rfl]
    refine k p (ss.drop 1) _ ((s1.trans s2).new np) ?_ ?_ fun q hq => sm2 q (List.mem_of_mem_drop hq)
    · rw [upd_same, List.map_drop]
    · rw [List.length_drop]
      omega
/-! ### str of a line-up -/
def spStrU (K : PySem.W.Frag) (CL : Addr) : Sp := fun vs H Q _ => ∃ (r : Addr) (W : List Strd), vs = [.ref r] ∧ LineF CL H r W ∧ fitW 8 W ∧ ∀ (z : Str) (H' : Hp), Same H H' → Q (.str z) H'
theorem scStrU : FnScope ["self"] ["self"] (defScope sLineUpStr) := ⟨rfl, rfl, rfl, by decide +kernel, rfl, by decide +kernel, by decide +kernel⟩
theorem ok_strU {CL f fI : Addr} {fd fdI : FuncData} (F : Fun K "__str__" "LineUp.__str__" sLineUpStr f fd) (LI : DefAt P w K mg base CX0 2 "lineup_items" ["lineup"] (spLI K CL) fI fdI) : FnOk P w K mg base CX0 3 f fd ["self"] (spStrU K CL) := by
  refine F.ok scStrU (fun vs H Q E h => ?_) (fun cdv A outer s H vs Q E hr h => ?_)
  · obtain ⟨r, W, rfl, _⟩ := h
    rfl
  · have nd := scStrU.nd
    refine ⟨_, pss_one (ps_ret (pe_join pe_str (pe_call LI.ok hr rfl LI.g LI.kp LI.b .nil pass0 (pa_cons (pv 0) pa_nil)))), ?_⟩
    obtain ⟨r, W, rfl, lf, fit, k⟩ := h
    refine ⟨⟨_, rfl⟩, _, rfl, r, W, rfl, lf, fit, fun p ss H1 s1 h1 l1 m1 => ⟨_, p, ss, rfl, rfl, .inl (SqL.of h1), ?_, k _ _ s1⟩⟩
    have := m1.sum
    have e : (" " : Str).length = 1 := by decide
    rw [e]
    omega
end
end K
namespace K
open PySem L2 Rg LamX
open Evl (pss_cut)
theorem RingAt.ext {K : PySem.W.Frag} {C : Addr} {H H' : Hp} {r : Addr} {ls : List Int} (h : RingAt K C H r ls) (s : ExtN H H') : RingAt K C H' r ls := by
  obtain ⟨dx, t, h1, h2, o, h3, h4⟩ := h
  refine ⟨dx, t, s _ _ h1 (fun _ z => nomatch z), ?_, o, s _ _ h3 (fun _ z => nomatch z), h4⟩
  rcases h2 with (z | ⟨o, z⟩) | z
  · exact .inl (.inl (s _ _ z (fun _ z => nomatch z)))
  · exact .inl (.inr ⟨o, s _ _ z (fun _ z => nomatch z)⟩)
  · exact .inr z
theorem RingAt.but {K : PySem.W.Frag} {C h : Addr} {xs : List V} {H H' : Hp} {r : Addr} {ls : List Int} (g : RingAt K C H r ls) (hh : H h = some (.lst xs)) (b : But h H H') : RingAt K C H' r ls := by
  obtain ⟨dx, t, h1, h2, o, h3, h4⟩ := g
  have go : ∀ {a : Addr} {u : HO}, H a = some u → (∀ ys, u ≠ .lst ys) → H' a = some u := fun {a u} q n => b _ _ (fun z => by rw [z, hh] at q; exact n _ (Option.some.inj q).symm) q
  refine ⟨dx, t, go h1 (fun _ z => nomatch z), ?_, o, go h3 (fun _ z => nomatch z), h4⟩
  rcases h2 with (z | ⟨o, z⟩) | z
  · exact .inl (.inl (go z (fun _ z => nomatch z)))
  · exact .inl (.inr ⟨o, go z (fun _ z => nomatch z)⟩)
  · exact .inr z
theorem LineF.butL {C h : Addr} {px : List V} {H H' : Hp} {r : Addr} {w : List Strd} (g : LineF C H r w) (hh : H h = some (.lst px)) (b : But h H H') : LineF C H' r w := by
  have go : ∀ {a : Addr} {u : HO}, H a = some u → (∀ ys, u ≠ .lst ys) → H' a = some u := fun {a u} q n => b _ _ (fun z => by rw [z, hh] at q; exact n _ (Option.some.inj q).symm) q
  obtain ⟨dx, t, l, xs, n, h1, h2, ⟨t', ys, et, ht, py⟩, h4, h5⟩ := g
  refine ⟨dx, t, l, xs, n, go h1 (fun _ z => nomatch z), h2, ⟨t', ys, et, go ht (fun _ z => nomatch z), ?_⟩, go h4 (fun _ z => nomatch z), ?_⟩
  · exact par_imp (fun _ _ ⟨a, zs, e, z, p⟩ => ⟨a, zs, e, go z (fun _ z => nomatch z), par_imp (fun _ _ ⟨c, e, z⟩ => ⟨c, e, go z (fun _ z => nomatch z)⟩) p⟩) py
  · exact par_imp (fun _ _ ⟨a, e, z⟩ => ⟨a, e, go z (fun _ z => nomatch z)⟩) h5
/-! ### what is no ring, no line-up, as the law draws it -/
def OddV (l : Addr) (ls : List Int) (M : Hp) (v : V) : Prop := v = .non ∨ v = .int 5 ∨ (∃ z, v = .str z) ∨ (v = .ref l ∧ M l = some (.lst (ls.map V.int)))
structure KitT (K : PySem.W.Frag) (C : Addr) : Prop where
  kN : PySem.W.kitOne K (.type "NoneType") (.ref C) = some false
  kI : PySem.W.kitOne K (.type "int") (.ref C) = some false
  kS : PySem.W.kitOne K (.type "str") (.ref C) = some false
  kL : PySem.W.kitOne K (.type "list") (.ref C) = some false
theorem OddV.no {K : PySem.W.Frag} {C l : Addr} {ls : List Int} {M : Hp} {v : V} (G : KitT K C) (h : OddV l ls M v) : NoR K C M v := by
  rcases h with rfl | rfl | ⟨z, rfl⟩ | ⟨rfl, h⟩
  · exact ⟨_, .base .non, G.kN⟩
  · exact ⟨_, .base (.int _), G.kI⟩
  · exact ⟨_, .base (.str _), G.kS⟩
  · exact ⟨_, .base (.lst h), G.kL⟩
theorem OddV.ext {l : Addr} {ls : List Int} {M M' : Hp} {v : V} (h : OddV l ls M v) (s : ExtN M M') : OddV l ls M' v := by
  rcases h with h | h | h | ⟨h, g⟩
  · exact .inl h
  · exact .inr (.inl h)
  · exact .inr (.inr (.inl h))
  · exact .inr (.inr (.inr ⟨h, s _ _ g (fun _ z => nomatch z)⟩))
theorem OddV.but {l p : Addr} {ls : List Int} {M M' : Hp} {v : V} (h : OddV l ls M v) (n : l ≠ p) (s : But p M M') : OddV l ls M' v := by
  rcases h with h | h | h | ⟨h, g⟩
  · exact .inl h
  · exact .inr (.inl h)
  · exact .inr (.inr (.inl h))
  · exact .inr (.inr (.inr ⟨h, s _ _ n g⟩))
structure KitU (K : PySem.W.Frag) (C : Addr) : Prop where
  kN : PySem.W.kitOne K (.type "NoneType") (.ref C) = some false
  kB : PySem.W.kitOne K (.type "bool") (.ref C) = some false
  kS : PySem.W.kitOne K (.type "str") (.ref C) = some false
  kL : PySem.W.kitOne K (.type "list") (.ref C) = some false
def BadV (M : Hp) (v : V) : Prop := v = .non ∨ (∃ b, v = .bl b) ∨ (∃ z, v = .str z) ∨ ∃ o xs, v = .ref o ∧ M o = some (.lst xs)
theorem BadV.no {K : PySem.W.Frag} {C : Addr} {M : Hp} {v : V} (G : KitU K C) (h : BadV M v) : NoR K C M v := by
  rcases h with rfl | ⟨b, rfl⟩ | ⟨z, rfl⟩ | ⟨o, xs, rfl, h⟩
  · exact ⟨_, .base .non, G.kN⟩
  · exact ⟨_, .base (.bl _), G.kB⟩
  · exact ⟨_, .base (.str _), G.kS⟩
  · exact ⟨_, .base (.lst h), G.kL⟩
theorem BadV.ext {M M' : Hp} {v : V} (h : BadV M v) (s : ExtN M M') : BadV M' v := by
  rcases h with h | h | h | ⟨o, xs, h, g⟩
  · exact .inl h
  · exact .inr (.inl h)
  · exact .inr (.inr (.inl h))
  · exact .inr (.inr (.inr ⟨o, xs, h, s _ _ g (fun _ z => nomatch z)⟩))
theorem BadV.but {p : Addr} {M M' : Hp} {v : V} (h : BadV M v) (n : v ≠ .ref p) (s : But p M M') : BadV M' v := by
  rcases h with h | h | h | ⟨o, xs, h, g⟩
  · exact .inl h
  · exact .inr (.inl h)
  · exact .inr (.inr (.inl h))
  · exact .inr (.inr (.inr ⟨o, xs, h, s _ _ (fun z => n (by rw [h, z])) g⟩))
theorem BadV.fresh {p : Addr} {M : Hp} {v : V} (h : BadV M v) (n : M p = none) : v ≠ .ref p := by
  rintro rfl
  rcases h with h | ⟨_, h⟩ | ⟨_, h⟩ | ⟨o, xs, h, g⟩
  · cases h
  · cases h
  · cases h
  · cases h; rw [n] at g; cases g
def wst (m : Nat) : Strd := (List.range m).map fun i : Nat => ((i : Int), (1 : Int))
theorem wst_len (m : Nat) : (wst m).length = m := by unfold wst; rw [List.length_map, List.length_range]
theorem wst_succ (m : Nat) : wst (m + 1) = wst m ++ [((m : Int), (1 : Int))] := by
  unfold wst
  rw [List.range_succ, List.map_append]
  rfl
theorem wst_good {m : Nat} (h3 : 3 ≤ m) (h8 : m ≤ 8) : goodV m [wst m] := by
  refine ⟨fun st hst => ?_, (by show 1 ≤ 8; decide), ?_⟩
  · rw [List.mem_singleton.mp hst]
    refine ⟨fun e => ?_, by rw [wst_len]; exact h8, fun q hq => ?_⟩
    · have := wst_len m
      rw [e] at this
      simp at this
      omega
    · obtain ⟨i, _, rfl⟩ := List.mem_map.mp hq
      exact .inl rfl
  · refine List.Perm.of_eq ?_
    unfold flatB wst rngI
    rw [List.flatMap_cons, List.flatMap_nil, List.append_nil, List.map_map]
    rfl
def ItsAt (M : Hp) (v : V) (its : List V) : Prop := ∃ a, v = .ref a ∧ M a = some (.tup its)
structure RS (K : PySem.W.Frag) (CR CL P1 : Addr) (hd l ring wide : Addr) (ls : List Int) (W : List Strd) (odd bad : V) (M : Hp) (us : List V) (rows : List (List V)) : Prop where
  tab : Tabs (T1 P1) M
  rg : RingAt K CR M ring ls
  wd : LineF CL M wide W
  od : OddV l ls M odd
  bd : BadV M bad
  hh : M hd = some (.lst us)
  its : Paired (ItsAt M) us rows
section
variable {K : PySem.W.Frag} {CR CL P1 : Addr} {hd l ring wide r : Addr} {ls : List Int} {W : List Strd} {odd bad : V} {M M' : Hp} {us : List V} {rows : List (List V)} {it : List V}
theorem RS.ext (h : RS K CR CL P1 hd l ring wide ls W odd bad M us rows) (x : ExtN M M') (t : Tabs (T1 P1) M') : RS K CR CL P1 hd l ring wide ls W odd bad M' us rows :=
  ⟨t, h.rg.ext x, h.wd.ext x, h.od.ext x, h.bd.ext x, x _ _ h.hh (fun _ z => nomatch z), par_imp (fun _ _ ⟨a, q, z⟩ => ⟨a, q, x _ _ z (fun _ z => nomatch z)⟩) h.its⟩
theorem RS.same (h : RS K CR CL P1 hd l ring wide ls W odd bad M us rows) (x : Same M M') : RS K CR CL P1 hd l ring wide ls W odd bad M' us rows := h.ext (ExtN.of x) (h.tab.ext x)
/-- one more is heard -/
theorem RS.put (h : RS K CR CL P1 hd l ring wide ls W odd bad M us rows) (nl : l ≠ hd) (nv : bad ≠ .ref hd) (hr : M r = some (.tup it)) : RS K CR CL P1 hd l ring wide ls W odd bad (upd M hd (.lst (us ++ [.ref r]))) (us ++ [.ref r]) (rows ++ [it]) := by
  have b : But hd M (upd M hd (.lst (us ++ [.ref r]))) := (But.refl hd M).at
  have go : ∀ {a : Addr} {x : List V}, M a = some (.tup x) → upd M hd (.lst (us ++ [.ref r])) a = some (.tup x) := fun {a x} q => b _ _ (fun z => by rw [z, h.hh] at q; cases q) q
  exact ⟨tabs_but h.tab b h.hh, h.rg.but h.hh b, h.wd.butL h.hh b, h.od.but nl b, h.bd.but nv b, upd_same, par_app (par_imp (fun _ _ ⟨a, q, z⟩ => ⟨a, q, go z⟩) h.its) (.cons ⟨r, rfl, go hr⟩ .nil)⟩
end
section
variable {P : Program} {w : World} {K : PySem.W.Frag} {mg : Str → Option Value} {base : Heap}
/-! ### _law_refused_right -/
def spRF (K : PySem.W.Frag) (P1 : Addr) : Sp := fun vs H Q _ => ∃ (p la : Addr) (v : V) (e : Addr × List Int) (ls : List Int) (way : List Strd) (n : Nat), vs = [.ref p, .ref la, v] ∧ H la = some (.lst (ls.map V.int)) ∧ la ≠ p ∧ 3 ≤ ls.length ∧ ls.length ≤ 8 ∧ Bd 1000000 ls ∧ LWy H v way ∧ goodV ls.length way ∧ n < 800000 ∧ PenAt K H p e n ∧ Tabs (T1 P1) H ∧
  ∀ H' : Hp, Q (.bl true) H'
abbrev nRF : List Str := ["_law_bench_here", "_law_lengths_here", "_law_strands_here", "_law_odd", "_law_ring", "_law_lineup", "_law_bad", "_law_many", "_law_wide", "_law_heard_here", "_law_bar"]
theorem scRF : FnScope nRF ["_law_bench_here", "_law_lengths_here", "_law_strands_here"] (defScope sLwRefusedRight) := ⟨rfl, rfl, rfl, by decide +kernel, rfl, by decide +kernel, by decide +kernel⟩
theorem ok_rf {CR CL CN CG cd P1 eR f fR fL fK fC fS fH : Addr} {hc : Hs} {fd fdR fdL fdK fdC fdS fdH : FuncData} (F : FunC K "_law_refused_right" "_law_refused_right" sLwRefusedRight f fd cd) (T : Bi mg) (Ts : mg "str" = none) (R : RingP P w K mg base CR fR fdR) (RG : RingC K mg CR) (KT : KitT K CR) (LP : LineP P w K mg base CL fL fdL) (RL : LineC K mg CL) (KU : KitU K CL)
    (SU : FnOk P w K mg base CX0 3 fS fdS ["self"] (spStrU K CL)) (SUB : Binds K fdS ["self"] []) (SUF : PySem.W.findIn K (.ref CL) "__str__" = some (some (.ref fS))) (SUN : PySem.W.isFn K (.ref fS) = true)
    (CLX : DefAt P w K mg base (L2.CX P w) 7 "can_line" ["ring", "lineup"] (spCL K CR CL CN CG hc.r hc.l hc.m) fC fdC)
    (PK : DefAt P w K mg base CX0 3 "_law_pick" ["_law_bench_here", "_law_some"] (spPick K) fK fdK) (Hc : HeardC K mg hc eR) (TB : TabB base mg cd P1) (hmT : (P1, qRf) ∈ T1 P1) (hu : ∀ p ∈ T1 P1, p.1 = P1 → p.2 = qRf)
    (FH : Fun K "_law_heard" "_law_heard" sLwHeard fH fdH) (BH : Binds K fdH ["_law_ask"] []) (GH : mg "_law_heard" = some (.ref fH)) : FnOk P w K mg base CX0 10 f fd ["_law_bench_here", "_law_lengths_here", "_law_strands_here"] (spRF K P1) := by
  refine F.ok scRF (fun vs H Q E h => ?_) (fun A outer s H vs Q E hr h => ?_)
  · obtain ⟨p, la, v, e, ls, way, n, rfl, _⟩ := h
    rfl
  · have nd := scRF.nd
    obtain ⟨oc, od, kV, doc, pm, an, cdv, ct, osl, rfl, lk, hcd⟩ := FH.ex
    refine ⟨_, (pss_cons (ps_asg (pe_tup (pa_cons (pe_call PK.ok (hr.mono (by decide)) rfl PK.g PK.kp PK.b .nil pass0 (pa_cons (pv 0) (pa_cons (pe_lst (pa_cons pe_non (pa_cons pe_int (pa_cons (pv 1) (pa_cons pe_str pa_nil))))) pa_nil)))
          (pa_cons (pe_make R.made R.ok (hr.mono (by decide)) (by rfl) RG.g R.b .nil pass0 (pa_cons (pv 1) pa_nil))
          (pa_cons (pe_make LP.made LP.ok (hr.mono (by decide)) (by rfl) RL.g LP.b .nil pass0 (pa_cons (pv 2) pa_nil)) pa_nil))))
        (pg_tup (by rfl) (pgs_cons (pg_name (i := 3) nd rfl (Or.inr rfl)) (pgs_cons (pg_name (i := 4) nd rfl (Or.inr rfl)) (pgs_cons (pg_name (i := 5) nd rfl (Or.inl rfl)) pgs_nil)))))
      (pss_cons (ps_asg (pe_tup (pa_cons (pe_call PK.ok (hr.mono (by decide)) rfl PK.g PK.kp PK.b .nil pass0 (pa_cons (pv 0) (pa_cons (pe_lst (pa_cons pe_non (pa_cons (pv 2) (pa_cons (pe_callTy (call_strO SU (hr.mono (by decide)) SUB) (by rfl) Ts (by decide +kernel) (pa_cons (pv 5) pa_nil)) (pa_cons pe_bl pa_nil))))) pa_nil))) (pa_cons (pe_callB (r := rLenS K) call_len_seq (by rfl) T.len PySem.boot_len (pa_cons (pv 1) pa_nil)) pa_nil)))
        (pg_tup (by rfl) (pgs_cons (pg_name (i := 6) nd rfl (Or.inr rfl)) (pgs_cons (pg_name (i := 7) nd rfl (Or.inl rfl)) pgs_nil))))
      (pss_cons (ps_set (i := 8) nd rfl (Or.inr rfl) (pe_make LP.made LP.ok (hr.mono (by decide)) (by rfl) RL.g LP.b .nil pass0 (pa_cons (pe_lst (pa_cons (pe_lc (own := [("_law_bar", 10)]) (g := gName 10) (tt := tYes) (te := tTup (tCons (tVar 10) (tCons (tC (.int 1)) tNil))) rfl nd (pi_range1 (by rfl) T.range (pa_cons (pe_ifExp (pt_cmpR op_lt (pv 7) pe_int (nomark _)) (pe_op op_add (pv 7) pe_int) (pe_op op_sub (pv 7) pe_int)) pa_nil))
          (blkOk_by (N := nRF) (sc := defScope sLwRefusedRight) (by decide +kernel)) (fun _ _ _ _ _ => pg_name (i := 10) nd rfl (Or.inl rfl)) (fun _ _ _ _ _ => pts_nil) (fun _ _ _ _ _ => pe_tup (pa_cons (pv 10) (pa_cons pe_int pa_nil)))) pa_nil)) pa_nil)))
      (pss_cons (ps_set (i := 9) nd rfl (Or.inl rfl) (pe_lst (pa_cons (pe_lamcall (T := T1 P1) (TT := THeard hc) (a := "_law_ask") (g := fH) (c := cd) (P := P1) (k := 7) (Ng := nHeard) rfl GH FH.kp lk hcd BH scHeard rfl (Or.inl rfl) (heard_gives T Hc) TB rfl hmT hu (hr.mono (by decide)) (lamS_by (sc := defScope sLwRefusedRight) (by decide +kernel)) rfl (fun _ _ _ _ _ => rfl)
          (fun A outer s H E f c' hr' => (pe_call CLX.ok hr' rfl CLX.g CLX.kp CLX.b .nil (passes_call (takes_of rfl rfl rfl rfl) (fun _ _ _ _ h => h)) (pa_cons (pv 3) (pa_cons (pv 6) pa_nil))))) pa_nil)))
      (pss_cons (ps_expr (pe_bm PySem.F.plainAttrs_list PySem.F.slot_list_append PySem.F.type_list_append mt_append (pv 9) (pa_cons (pe_lamcall (T := T1 P1) (TT := THeard hc) (a := "_law_ask") (g := fH) (c := cd) (P := P1) (k := 7) (Ng := nHeard) rfl GH FH.kp lk hcd BH scHeard rfl (Or.inl rfl) (heard_gives T Hc) TB rfl hmT hu (hr.mono (by decide)) (lamS_by (sc := defScope sLwRefusedRight) (by decide +kernel)) rfl (fun _ _ _ _ _ => rfl)
          (fun A outer s H E f c' hr' => (pe_call CLX.ok hr' rfl CLX.g CLX.kp CLX.b .nil (passes_call (takes_of rfl rfl rfl rfl) (fun _ _ _ _ h => h)) (pa_cons (pv 4) (pa_cons (pv 6) pa_nil))))) pa_nil)))
      (pss_cons (ps_expr (pe_bm PySem.F.plainAttrs_list PySem.F.slot_list_append PySem.F.type_list_append mt_append (pv 9) (pa_cons (pe_lamcall (T := T1 P1) (TT := THeard hc) (a := "_law_ask") (g := fH) (c := cd) (P := P1) (k := 7) (Ng := nHeard) rfl GH FH.kp lk hcd BH scHeard rfl (Or.inl rfl) (heard_gives T Hc) TB rfl hmT hu (hr.mono (by decide)) (lamS_by (sc := defScope sLwRefusedRight) (by decide +kernel)) rfl (fun _ _ _ _ _ => rfl)
          (fun A outer s H E f c' hr' => (pe_call CLX.ok hr' rfl CLX.g CLX.kp CLX.b .nil (passes_call (takes_of rfl rfl rfl rfl) (fun _ _ _ _ h => h)) (pa_cons (pv 4) (pa_cons (pv 8) pa_nil))))) pa_nil)))
      (pss_one (ps_ret (pe_cmpR (op_eqD hr.units) (pv 9) (pe_lst (pa_cons (pe_tup (pa_cons pe_str (pa_cons pe_str pa_nil))) (pa_cons (pe_tup (pa_cons pe_str (pa_cons pe_str pa_nil))) (pa_cons (pe_tup (pa_cons pe_str (pa_cons pe_str pa_nil))) pa_nil)))) (nomark _)))))))))), ?_⟩
    obtain ⟨p, la, v, e, ls, way, n, rfl, hla, lap, l3, l8, bd, lw, gw, hn, pen, tab, q⟩ := h
    refine ⟨_, rfl, _, rfl, (by show 4 ≤ sizeLine; decide), fun u0 nu0 => ?_⟩
    have npu := pen.ne nu0
    have s0 : Same H (upd H u0 (.lst [.non, .int 5, .ref la, .str "3 2 2"])) := (Same.refl H).new nu0
    have hu0 : upd H u0 (.lst [.non, .int 5, .ref la, .str "3 2 2"]) u0 = some (.lst [.non, .int 5, .ref la, .str "3 2 2"]) := upd_same
    generalize upd H u0 (.lst [.non, .int 5, .ref la, .str "3 2 2"]) = H0 at s0 hu0 ⊢
    have pen0 := pen.same s0
    refine ⟨p, u0, e, _, n, rfl, SqL.of hu0, npu, (by show 1 ≤ 4; decide), (by show 4 ≤ 1000; decide), by omega, pen0, fun i0 odd H1 hv0 b1 pen1 => ?_⟩
    obtain ⟨px0, hpx0⟩ := pen0.some
    have tab1 := tabs_but (tab.ext s0) b1 hpx0
    have hla1 := b1 _ _ lap (s0 _ _ hla)
    have lw1 := (lw.same s0).but pen0 b1
    have od1 : OddV la ls H1 odd := by
      have hm := List.mem_of_getElem? hv0
      simp only [List.mem_cons, List.not_mem_nil, or_false] at hm
      rcases hm with z | z | z | z
      · exact .inl z
      · exact .inr (.inl z)
      · exact .inr (.inr (.inr ⟨z, hla1⟩))
      · exact .inr (.inr (.inl ⟨_, z⟩))
    refine ⟨_, rfl, madeL2 hla1 l3 l8 bd fun ring H2 rg2 s2 nr2 => ⟨rfl, ?_⟩⟩
    refine ⟨_, rfl, madeU (lw1.same s2) gw l3 l8 fun lu H3 lf3 s3 => ⟨rfl, (by show 3 ≤ sizeLine; decide), fun t3 nt3 => ?_⟩⟩
    have s4 : Same H3 (upd H3 t3 (.tup [odd, .ref ring, .ref lu])) := (Same.refl H3).new nt3
    have ht4 : upd H3 t3 (.tup [odd, .ref ring, .ref lu]) t3 = some (.tup [odd, .ref ring, .ref lu]) := upd_same
    generalize upd H3 t3 (.tup [odd, .ref ring, .ref lu]) = H4 at s4 ht4 ⊢
    refine ⟨t3, _, rfl, .inl (.inl ht4), rfl, _, _, rfl, _, _, rfl, _, _, rfl, rfl, ?_⟩
    have s14 := (s2.trans s3).trans s4
    have pen4 := pen1.same s14
    have tab4 := tab1.ext s14
    have hla4 := s14 _ _ hla1
    have lw4 := lw1.same s14
    have rg4 := (rg2.same s3).same s4
    have lf4 := lf3.same s4
    have od4 := od1.ext (ExtN.of s14)
    have fit8 : fitW 8 (dueW way) := by
      have f := good_fit (due_good gw)
      refine ⟨f.1, fun st hst => ⟨(f.2 st hst).1, fun u hu => ?_⟩⟩
      have := (f.2 st hst).2 u hu
      exact ⟨this.1, by omega, this.2.2⟩
    obtain ⟨dl, tl, ll, lx, nn, hlu, _⟩ := id lf4
    obtain ⟨va, vxs, rfl, hva4, pvx⟩ := id lw4
    have vap := wy_ne pen4 hva4 pvx
    refine ⟨_, rfl, _, rfl, _, rfl, lu, CL, dl, _, rfl, hlu, SUF, SUN, lu, dueW way, rfl, lf4, fit8, fun z H5 s5 => ⟨z, rfl, (by show 4 ≤ sizeLine; decide), fun u5 nu5 => ?_⟩⟩
    have pen5 := pen4.same s5
    have npu5 := pen5.ne nu5
    have s6 : Same H5 (upd H5 u5 (.lst [.non, .ref va, .str z, .bl true])) := (Same.refl H5).new nu5
    have hu6 : upd H5 u5 (.lst [.non, .ref va, .str z, .bl true]) u5 = some (.lst [.non, .ref va, .str z, .bl true]) := upd_same
    generalize upd H5 u5 (.lst [.non, .ref va, .str z, .bl true]) = H6 at s6 hu6 ⊢
    have s46 := s5.trans s6
    have pen6 := pen5.same s6
    refine ⟨p, u5, e, _, n + 1, rfl, SqL.of hu6, npu5, (by show 1 ≤ 4; decide), (by show 4 ≤ 1000; decide), by omega, pen6, fun i1 bad H7 hv1 b7 pen7 => ?_⟩
    obtain ⟨px6, hpx6⟩ := pen6.some
    have tab7 := tabs_but (tab4.ext s46) b7 hpx6
    have hla7 := b7 _ _ lap (s46 _ _ hla4)
    have rg7 := (rg4.same s46).but hpx6 b7
    have od7 := (od4.ext (ExtN.of s46)).but lap b7
    have hva7 := b7 _ _ vap (s46 _ _ hva4)
    have bd7 : BadV H7 bad := by
      have hm := List.mem_of_getElem? hv1
      simp only [List.mem_cons, List.not_mem_nil, or_false] at hm
      rcases hm with y | y | y | y
      · exact .inl y
      · exact .inr (.inr (.inr ⟨va, vxs, y, hva7⟩))
      · exact .inr (.inr (.inl ⟨_, y⟩))
      · exact .inr (.inl ⟨_, y⟩)
    refine ⟨_, rfl, la, _, rfl, .inl (SqL.of hla7), ?_⟩
    rw [List.length_map]
    refine ⟨(by show 2 ≤ sizeLine; decide), fun t8 nt8 => ?_⟩
    have s8 : Same H7 (upd H7 t8 (.tup [bad, .int (ls.length : Nat)])) := (Same.refl H7).new nt8
    have ht8 : upd H7 t8 (.tup [bad, .int (ls.length : Nat)]) t8 = some (.tup [bad, .int (ls.length : Nat)]) := upd_same
    generalize upd H7 t8 (.tup [bad, .int (ls.length : Nat)]) = H8 at s8 ht8 ⊢
    refine ⟨t8, _, rfl, .inl (.inl ht8), rfl, _, _, rfl, _, _, rfl, rfl, ?_⟩
    have tab8 := tab7.ext s8
    have hla8 := s8 _ _ hla7
    have rg8 := rg7.same s8
    have od8 := od7.ext (ExtN.of s8)
    have bd8 := bd7.ext (ExtN.of s8)
    refine ⟨_, rfl, _, _, rfl, rfl, _, rfl, ?_⟩
    by_cases c8 : (ls.length : Int) < 8
    · refine iteDT c8 ⟨_, rfl, _, _, rfl, rfl, ?_⟩
      obtain ⟨m', hm'⟩ : ∃ m' : Nat, (((ls.length : Int) + 1)).toNat = m' := ⟨_, rfl⟩
      have hz : ((ls.length : Int) + 1) = (m' : Int) := by omega
      have m3 : 3 ≤ m' := by omega
      have m8 : m' ≤ 8 := by omega
      have mne : (m' : Int) ≠ (ls.length : Nat) := by omega
      refine ⟨_, rfl, by omega, by omega, fun D nD => ?_⟩
      refine lc_range (lo := 0) (n := (((ls.length : Int) + 1)).toNat) (fun j G => Same H8 G ∧ ∃ us, G D = some (.lst us) ∧ Paired (SPat G) us (wst j)) ⟨(Same.refl H8).new nD, [], upd_same, .nil⟩ ?_ ?_
      · rintro j G hj ⟨s9, us, h9, pu⟩
        have ul := par_len pu
        rw [wst_len] at ul
        refine ⟨rfl, _, rfl, (by show 2 ≤ sizeLine; decide), fun t nt => ⟨us, ?_, ?_, (s9.new nt).mut nD, _, upd_same, ?_⟩⟩
        · rw [upd_ne (ne_of_none h9 nt)]
          exact h9
        · exact sm (by omega)
        · have h9t : upd G t (.tup [.int (0 + (j : Nat)), .int 1]) D = some (.lst us) := by
            rw [upd_ne (ne_of_none h9 nt)]
            exact h9
          have sp : SPat (upd G t (.tup [.int (0 + (j : Nat)), .int 1])) (.ref t) ((j : Int), (1 : Int)) := ⟨t, rfl, by rw [upd_same, Int.zero_add]⟩
          rw [wst_succ]
          exact par_app (par_imp (fun _ _ z => (z.same ((Same.refl G).new nt)).mut h9t) pu) (.cons (sp.mut h9t) .nil)
      rintro H9 ⟨s9, us, h9, pu⟩
      rw [hm'] at pu
      refine ⟨(by show 1 ≤ sizeLine; decide), fun u9 nu9 => ?_⟩
      have sA : Same H9 (upd H9 u9 (.lst [.ref D])) := (Same.refl H9).new nu9
      have hu9 : upd H9 u9 (.lst [.ref D]) u9 = some (.lst [.ref D]) := upd_same
      generalize upd H9 u9 (.lst [.ref D]) = H10 at sA hu9 ⊢
      have lwW : LWy H10 (.ref u9) [wst m'] := ⟨u9, _, rfl, hu9, .cons ⟨D, us, rfl, sA _ _ h9, par_imp (fun _ _ z => z.same sA) pu⟩ .nil⟩
      refine madeU (n := m') lwW (wst_good m3 m8) m3 m8 fun wide H11 wd11 sB => ⟨rfl, ?_⟩
      have s811 := (s9.trans sA).trans sB
      have tab11 := tab8.ext s811
      have hla11 := s811 _ _ hla8
      have rg11 := rg8.same s811
      have od11 := od8.ext (ExtN.of s811)
      have bd11 := bd8.ext (ExtN.of s811)
      have mW : manyW (dueW [wst m']) = m' := good_many (due_good (wst_good m3 m8))
      -- no ring
      refine hear (.r (.str "ring")) (fun J => ExtN H11 J ∧ Tabs (T1 P1) J) tab11 (fun E' J Q' xJ tJ er' => ⟨_, rfl, _, rfl, odd, bad, rfl, .inl ⟨(od11.ext xJ).no KT, er' J ⟨xJ, tJ⟩⟩⟩) fun J2 M r1 z sM hr1 => ?_
      refine ⟨(by show 1 ≤ sizeLine; decide), fun hd nhd => ?_⟩
      have xM : ExtN H11 M := z.1.trans (ExtN.of sM)
      have tM := z.2.ext sM
      have hlM := xM _ _ hla11 (fun _ z => nomatch z)
      have nlh : la ≠ hd := ne_of_none hlM nhd
      have nvh : bad ≠ .ref hd := (bd11.ext xM).fresh nhd
      have st1 : RS K CR CL P1 hd la ring wide ls (dueW [wst m']) odd bad (upd M hd (.lst [.ref r1])) [.ref r1] [[.str "ring", .str "ring"]] := by
        have s := (Same.refl M).new nhd (o := .lst [.ref r1])
        have x := xM.trans (ExtN.of s)
        exact ⟨tM.ext s, rg11.ext x, wd11.ext x, od11.ext x, bd11.ext x, upd_same, .cons ⟨r1, rfl, s _ _ hr1⟩ .nil⟩
      generalize upd M hd (.lst [.ref r1]) = M1 at st1 ⊢
      -- no line-up
      refine ⟨_, rfl, .inl ⟨rfl, _, SqL.of st1.hh⟩, ?_⟩
      refine hear (.l (.str "lineup")) (fun J => RS K CR CL P1 hd la ring wide ls (dueW [wst m']) odd bad J [.ref r1] [[.str "ring", .str "ring"]]) st1.tab (fun E' J Q' xJ tJ er' => ?_) fun J2 M r2 z sM hr2 => ?_
      · have sJ := st1.ext xJ tJ
        exact ⟨_, rfl, _, rfl, .ref ring, bad, rfl, .inr ⟨ring, ls, rfl, sJ.rg, l3, l8, .inl ⟨sJ.bd.no KU, er' J sJ⟩⟩⟩
      have stM := RS.same z sM
      refine ⟨hd, _, _, rfl, rfl, stM.hh, (by show 1 < sizeLine; decide), ?_⟩
      have st2 := stM.put nlh nvh hr2
      generalize upd M hd (.lst ([.ref r1] ++ [.ref r2])) = M2 at st2 ⊢
      -- unlike numbers of bars
      refine ⟨_, rfl, .inl ⟨rfl, _, SqL.of st2.hh⟩, ?_⟩
      refine hear (.m (.str "bars")) (fun J => RS K CR CL P1 hd la ring wide ls (dueW [wst m']) odd bad J ([.ref r1] ++ [.ref r2]) ([[.str "ring", .str "ring"]] ++ [[.str "lineup", .str "lineup"]])) st2.tab (fun E' J Q' xJ tJ er' => ?_) fun J2 M r3 z sM hr3 => ?_
      · have sJ := st2.ext xJ tJ
        exact ⟨_, rfl, _, rfl, .ref ring, .ref wide, rfl, .inr ⟨ring, ls, rfl, sJ.rg, l3, l8, .inr ⟨wide, dueW [wst m'], rfl, sJ.wd, .inl ⟨by rw [mW]; exact mne, er' J sJ⟩⟩⟩⟩
      have stM := RS.same z sM
      refine ⟨hd, _, _, rfl, rfl, stM.hh, (by show 2 < sizeLine; decide), ?_⟩
      have st3 := stM.put nlh nvh hr3
      generalize upd M hd (.lst ([.ref r1] ++ [.ref r2] ++ [.ref r3])) = W0 at st3 ⊢
      have hh3 := st3.hh
      have it3 := st3.its
      refine ⟨_, rfl, (by show 2 ≤ sizeLine; decide), fun t1 nt1 => ⟨(by show 2 ≤ sizeLine; decide), fun t2 nt2 => ⟨(by show 2 ≤ sizeLine; decide), fun t3 nt3 => ⟨(by show 3 ≤ sizeLine; decide), fun t7 nt7 => ?_⟩⟩⟩⟩
      have w1 : Same W0 (upd W0 t1 (.tup [.str "ring", .str "ring"])) := (Same.refl W0).new nt1
      have z1 : upd W0 t1 (.tup [.str "ring", .str "ring"]) t1 = some (.tup [.str "ring", .str "ring"]) := upd_same
      generalize upd W0 t1 (.tup [.str "ring", .str "ring"]) = W1 at w1 z1 nt2 nt3 nt7 ⊢
      have w2 : Same W1 (upd W1 t2 (.tup [.str "lineup", .str "lineup"])) := (Same.refl W1).new nt2
      have z2 : upd W1 t2 (.tup [.str "lineup", .str "lineup"]) t2 = some (.tup [.str "lineup", .str "lineup"]) := upd_same
      generalize upd W1 t2 (.tup [.str "lineup", .str "lineup"]) = W2 at w2 z2 nt3 nt7 ⊢
      have w3 : Same W2 (upd W2 t3 (.tup [.str "misfit", .str "bars"])) := (Same.refl W2).new nt3
      have z3 : upd W2 t3 (.tup [.str "misfit", .str "bars"]) t3 = some (.tup [.str "misfit", .str "bars"]) := upd_same
      generalize upd W2 t3 (.tup [.str "misfit", .str "bars"]) = W3 at w3 z3 nt7 ⊢
      have w4 : Same W3 (upd W3 t7 (.lst [.ref t1, .ref t2, .ref t3])) := (Same.refl W3).new nt7
      have z4 : upd W3 t7 (.lst [.ref t1, .ref t2, .ref t3]) t7 = some (.lst [.ref t1, .ref t2, .ref t3]) := upd_same
      generalize upd W3 t7 (.lst [.ref t1, .ref t2, .ref t3]) = W4 at w4 z4 ⊢
      have v3 := w4
      have v2 := w3.trans v3
      have v1 := w2.trans v2
      have v0 := w1.trans v1
      have td : ∀ {a : Addr} {x y : Str}, W4 a = some (.tup [.str x, .str y]) → Dp K W4 (.ref a) (.tuple [.str x, .str y]) := fun h => .tup (.inl (.inl h)) (.cons (.str _) (.cons (.str _) .nil))
      have sh : SeqAt.shaped (.list [.tuple [PyData.str "ring", PyData.str "ring"], .tuple [PyData.str "lineup", PyData.str "lineup"], .tuple [PyData.str "misfit", PyData.str "bars"]]) = true := by decide +kernel
      have eq : PyData.eqv (.list [.tuple [PyData.str "ring", PyData.str "ring"], .tuple [PyData.str "lineup", PyData.str "lineup"], .tuple [PyData.str "misfit", PyData.str "bars"]]) (.list [.tuple [PyData.str "ring", PyData.str "ring"], .tuple [PyData.str "lineup", PyData.str "lineup"], .tuple [PyData.str "misfit", PyData.str "bars"]]) = true := by decide +kernel
      obtain _ | ⟨⟨a1, e1, q1⟩, it3⟩ := it3
      obtain _ | ⟨⟨a2, e2, q2⟩, it3⟩ := it3
      obtain _ | ⟨⟨a3, e3, q3⟩, it3⟩ := it3
      cases e1; cases e2; cases e3
      refine ⟨_, _, .lst (SqL.of (v0 _ _ hh3)) (.cons (td (v0 _ _ q1)) (.cons (td (v0 _ _ q2)) (.cons (td (v0 _ _ q3)) .nil))), .lst (SqL.of z4) (.cons (td (v1 _ _ z1)) (.cons (td (v2 _ _ z2)) (.cons (td (v3 _ _ z3)) .nil))), sh, sh, ?_⟩
      rw [eq]
      exact q W4
    · refine iteDF c8 ⟨_, rfl, _, _, rfl, rfl, ?_⟩
      obtain ⟨m', hm'⟩ : ∃ m' : Nat, (((ls.length : Int) - 1)).toNat = m' := ⟨_, rfl⟩
      have hz : ((ls.length : Int) - 1) = (m' : Int) := by omega
      have m3 : 3 ≤ m' := by omega
      have m8 : m' ≤ 8 := by omega
      have mne : (m' : Int) ≠ (ls.length : Nat) := by omega
      refine ⟨_, rfl, by omega, by omega, fun D nD => ?_⟩
      refine lc_range (lo := 0) (n := (((ls.length : Int) - 1)).toNat) (fun j G => Same H8 G ∧ ∃ us, G D = some (.lst us) ∧ Paired (SPat G) us (wst j)) ⟨(Same.refl H8).new nD, [], upd_same, .nil⟩ ?_ ?_
      · rintro j G hj ⟨s9, us, h9, pu⟩
        have ul := par_len pu
        rw [wst_len] at ul
        refine ⟨rfl, _, rfl, (by show 2 ≤ sizeLine; decide), fun t nt => ⟨us, ?_, ?_, (s9.new nt).mut nD, _, upd_same, ?_⟩⟩
        · rw [upd_ne (ne_of_none h9 nt)]
          exact h9
        · exact sm (by omega)
        · have h9t : upd G t (.tup [.int (0 + (j : Nat)), .int 1]) D = some (.lst us) := by
            rw [upd_ne (ne_of_none h9 nt)]
            exact h9
          have sp : SPat (upd G t (.tup [.int (0 + (j : Nat)), .int 1])) (.ref t) ((j : Int), (1 : Int)) := ⟨t, rfl, by rw [upd_same, Int.zero_add]⟩
          rw [wst_succ]
          exact par_app (par_imp (fun _ _ z => (z.same ((Same.refl G).new nt)).mut h9t) pu) (.cons (sp.mut h9t) .nil)
      rintro H9 ⟨s9, us, h9, pu⟩
      rw [hm'] at pu
      refine ⟨(by show 1 ≤ sizeLine; decide), fun u9 nu9 => ?_⟩
      have sA : Same H9 (upd H9 u9 (.lst [.ref D])) := (Same.refl H9).new nu9
      have hu9 : upd H9 u9 (.lst [.ref D]) u9 = some (.lst [.ref D]) := upd_same
      generalize upd H9 u9 (.lst [.ref D]) = H10 at sA hu9 ⊢
      have lwW : LWy H10 (.ref u9) [wst m'] := ⟨u9, _, rfl, hu9, .cons ⟨D, us, rfl, sA _ _ h9, par_imp (fun _ _ z => z.same sA) pu⟩ .nil⟩
      refine madeU (n := m') lwW (wst_good m3 m8) m3 m8 fun wide H11 wd11 sB => ⟨rfl, ?_⟩
      have s811 := (s9.trans sA).trans sB
      have tab11 := tab8.ext s811
      have hla11 := s811 _ _ hla8
      have rg11 := rg8.same s811
      have od11 := od8.ext (ExtN.of s811)
      have bd11 := bd8.ext (ExtN.of s811)
      have mW : manyW (dueW [wst m']) = m' := good_many (due_good (wst_good m3 m8))
      -- no ring
      refine hear (.r (.str "ring")) (fun J => ExtN H11 J ∧ Tabs (T1 P1) J) tab11 (fun E' J Q' xJ tJ er' => ⟨_, rfl, _, rfl, odd, bad, rfl, .inl ⟨(od11.ext xJ).no KT, er' J ⟨xJ, tJ⟩⟩⟩) fun J2 M r1 z sM hr1 => ?_
      refine ⟨(by show 1 ≤ sizeLine; decide), fun hd nhd => ?_⟩
      have xM : ExtN H11 M := z.1.trans (ExtN.of sM)
      have tM := z.2.ext sM
      have hlM := xM _ _ hla11 (fun _ z => nomatch z)
      have nlh : la ≠ hd := ne_of_none hlM nhd
      have nvh : bad ≠ .ref hd := (bd11.ext xM).fresh nhd
      have st1 : RS K CR CL P1 hd la ring wide ls (dueW [wst m']) odd bad (upd M hd (.lst [.ref r1])) [.ref r1] [[.str "ring", .str "ring"]] := by
        have s := (Same.refl M).new nhd (o := .lst [.ref r1])
        have x := xM.trans (ExtN.of s)
        exact ⟨tM.ext s, rg11.ext x, wd11.ext x, od11.ext x, bd11.ext x, upd_same, .cons ⟨r1, rfl, s _ _ hr1⟩ .nil⟩
      generalize upd M hd (.lst [.ref r1]) = M1 at st1 ⊢
      -- no line-up
      refine ⟨_, rfl, .inl ⟨rfl, _, SqL.of st1.hh⟩, ?_⟩
      refine hear (.l (.str "lineup")) (fun J => RS K CR CL P1 hd la ring wide ls (dueW [wst m']) odd bad J [.ref r1] [[.str "ring", .str "ring"]]) st1.tab (fun E' J Q' xJ tJ er' => ?_) fun J2 M r2 z sM hr2 => ?_
      · have sJ := st1.ext xJ tJ
        exact ⟨_, rfl, _, rfl, .ref ring, bad, rfl, .inr ⟨ring, ls, rfl, sJ.rg, l3, l8, .inl ⟨sJ.bd.no KU, er' J sJ⟩⟩⟩
      have stM := RS.same z sM
      refine ⟨hd, _, _, rfl, rfl, stM.hh, (by show 1 < sizeLine; decide), ?_⟩
      have st2 := stM.put nlh nvh hr2
      generalize upd M hd (.lst ([.ref r1] ++ [.ref r2])) = M2 at st2 ⊢
      -- unlike numbers of bars
      refine ⟨_, rfl, .inl ⟨rfl, _, SqL.of st2.hh⟩, ?_⟩
      refine hear (.m (.str "bars")) (fun J => RS K CR CL P1 hd la ring wide ls (dueW [wst m']) odd bad J ([.ref r1] ++ [.ref r2]) ([[.str "ring", .str "ring"]] ++ [[.str "lineup", .str "lineup"]])) st2.tab (fun E' J Q' xJ tJ er' => ?_) fun J2 M r3 z sM hr3 => ?_
      · have sJ := st2.ext xJ tJ
        exact ⟨_, rfl, _, rfl, .ref ring, .ref wide, rfl, .inr ⟨ring, ls, rfl, sJ.rg, l3, l8, .inr ⟨wide, dueW [wst m'], rfl, sJ.wd, .inl ⟨by rw [mW]; exact mne, er' J sJ⟩⟩⟩⟩
      have stM := RS.same z sM
      refine ⟨hd, _, _, rfl, rfl, stM.hh, (by show 2 < sizeLine; decide), ?_⟩
      have st3 := stM.put nlh nvh hr3
      generalize upd M hd (.lst ([.ref r1] ++ [.ref r2] ++ [.ref r3])) = W0 at st3 ⊢
      have hh3 := st3.hh
      have it3 := st3.its
      refine ⟨_, rfl, (by show 2 ≤ sizeLine; decide), fun t1 nt1 => ⟨(by show 2 ≤ sizeLine; decide), fun t2 nt2 => ⟨(by show 2 ≤ sizeLine; decide), fun t3 nt3 => ⟨(by show 3 ≤ sizeLine; decide), fun t7 nt7 => ?_⟩⟩⟩⟩
      have w1 : Same W0 (upd W0 t1 (.tup [.str "ring", .str "ring"])) := (Same.refl W0).new nt1
      have z1 : upd W0 t1 (.tup [.str "ring", .str "ring"]) t1 = some (.tup [.str "ring", .str "ring"]) := upd_same
      generalize upd W0 t1 (.tup [.str "ring", .str "ring"]) = W1 at w1 z1 nt2 nt3 nt7 ⊢
      have w2 : Same W1 (upd W1 t2 (.tup [.str "lineup", .str "lineup"])) := (Same.refl W1).new nt2
      have z2 : upd W1 t2 (.tup [.str "lineup", .str "lineup"]) t2 = some (.tup [.str "lineup", .str "lineup"]) := upd_same
      generalize upd W1 t2 (.tup [.str "lineup", .str "lineup"]) = W2 at w2 z2 nt3 nt7 ⊢
      have w3 : Same W2 (upd W2 t3 (.tup [.str "misfit", .str "bars"])) := (Same.refl W2).new nt3
      have z3 : upd W2 t3 (.tup [.str "misfit", .str "bars"]) t3 = some (.tup [.str "misfit", .str "bars"]) := upd_same
      generalize upd W2 t3 (.tup [.str "misfit", .str "bars"]) = W3 at w3 z3 nt7 ⊢
      have w4 : Same W3 (upd W3 t7 (.lst [.ref t1, .ref t2, .ref t3])) := (Same.refl W3).new nt7
      have z4 : upd W3 t7 (.lst [.ref t1, .ref t2, .ref t3]) t7 = some (.lst [.ref t1, .ref t2, .ref t3]) := upd_same
      generalize upd W3 t7 (.lst [.ref t1, .ref t2, .ref t3]) = W4 at w4 z4 ⊢
      have v3 := w4
      have v2 := w3.trans v3
      have v1 := w2.trans v2
      have v0 := w1.trans v1
      have td : ∀ {a : Addr} {x y : Str}, W4 a = some (.tup [.str x, .str y]) → Dp K W4 (.ref a) (.tuple [.str x, .str y]) := fun h => .tup (.inl (.inl h)) (.cons (.str _) (.cons (.str _) .nil))
      have sh : SeqAt.shaped (.list [.tuple [PyData.str "ring", PyData.str "ring"], .tuple [PyData.str "lineup", PyData.str "lineup"], .tuple [PyData.str "misfit", PyData.str "bars"]]) = true := by decide +kernel
      have eq : PyData.eqv (.list [.tuple [PyData.str "ring", PyData.str "ring"], .tuple [PyData.str "lineup", PyData.str "lineup"], .tuple [PyData.str "misfit", PyData.str "bars"]]) (.list [.tuple [PyData.str "ring", PyData.str "ring"], .tuple [PyData.str "lineup", PyData.str "lineup"], .tuple [PyData.str "misfit", PyData.str "bars"]]) = true := by decide +kernel
      obtain _ | ⟨⟨a1, e1, q1⟩, it3⟩ := it3
      obtain _ | ⟨⟨a2, e2, q2⟩, it3⟩ := it3
      obtain _ | ⟨⟨a3, e3, q3⟩, it3⟩ := it3
      cases e1; cases e2; cases e3
      refine ⟨_, _, .lst (SqL.of (v0 _ _ hh3)) (.cons (td (v0 _ _ q1)) (.cons (td (v0 _ _ q2)) (.cons (td (v0 _ _ q3)) .nil))), .lst (SqL.of z4) (.cons (td (v1 _ _ z1)) (.cons (td (v2 _ _ z2)) (.cons (td (v3 _ _ z3)) .nil))), sh, sh, ?_⟩
      rw [eq]
      exact q W4
end
end K
namespace Rg
open PySem PySem.Spec PyProof.Rows L2
section
variable {X : Cx} {k k2 : Nat} {f f2 : Addr} {fd fd2 : FuncData} {sp sp2 : Sp} {e : Expr} {ta : TE}
theorem pt_bool2 (F : FnOk X.prog X.w X.K X.mg X.base CX0 k f fd ["self"] sp) (F2 : FnOk X.prog X.w X.K X.mg X.base CX0 k2 f2 fd2 ["self"] sp2) (hr : Room k X.A) (hr2 : Room k2 X.A) (hb : Binds X.K fd ["self"] []) (hb2 : Binds X.K fd2 ["self"] []) (ha : PE X e ta)
    (he : ∀ whole, isTrue e X.env whole = (do let v ← whole; standAt e.pos; holding [v] (truthy v)) := by intro _; rfl) : PT X e (fun σ H Q => ta σ H fun x H' => rTruO X.K f sp x H' Q ∨ rTruO X.K f2 sp2 x H' Q) := by
  refine ⟨fun pins s σ H Q I h => ?_⟩
  exact isTrue_plain (thn (ha.run pins s σ H _ I h) fun v s1 ⟨x, H1, I1, r1, q1⟩ => q1.elim (fun q => tru_insO F hr hb I1 r1 q) (fun q => tru_insO F2 hr2 hb2 I1 r1 q)) (he _)
end
end Rg
namespace K
open PySem L2 Rg LamX
open Evl (pss_cut)
section
variable {K : PySem.W.Frag} {P1 p la : Addr} {e : Addr × List Int} {n m : Nat} {ls : List Int} {v : V} {way : List Strd} {H H' : Hp}
structure LS (K : PySem.W.Frag) (P1 p : Addr) (e : Addr × List Int) (n : Nat) (la : Addr) (ls : List Int) (v : V) (way : List Strd) (H : Hp) : Prop where
  pen : PenAt K H p e n
  tab : Tabs (T1 P1) H
  hla : H la = some (.lst (ls.map V.int))
  lap : la ≠ p
  lw : LWy H v way
  gw : goodV ls.length way
  l3 : 3 ≤ ls.length
  l8 : ls.length ≤ 8
  bd : Bd 1000000 ls
theorem LS.same (h : LS K P1 p e n la ls v way H) (s : Same H H') : LS K P1 p e n la ls v way H' := ⟨h.pen.same s, h.tab.ext s, s _ _ h.hla, h.lap, h.lw.same s, h.gw, h.l3, h.l8, h.bd⟩
theorem LS.but (h : LS K P1 p e n la ls v way H) (b : But p H H') (pen : PenAt K H' p e m) : LS K P1 p e m la ls v way H' :=
  let ⟨px, hp⟩ := h.pen.some
  ⟨pen, tabs_but h.tab b hp, b _ _ h.lap h.hla, h.lap, h.lw.but h.pen b, h.gw, h.l3, h.l8, h.bd⟩
def lenS (ls : List Int) (st : Strd) : Int := (st.map fun q => ls.getD q.1.toNat 0).sum
theorem net_le (bd : Bd 1000000 ls) : ∀ st : Strd, (∀ q ∈ st, 0 ≤ q.1 ∧ q.1 < (ls.length : Int) ∧ (q.2 = 1 ∨ q.2 = -1)) → -lenS ls st ≤ net ls st ∧ net ls st ≤ lenS ls st
  | [], _ => by simp [lenS, net]
  | q :: st, h => by
    have ih := net_le bd st fun u hu => h u (List.mem_cons_of_mem _ hu)
    have hq := h q (List.mem_cons_self ..)
    have bq := bd.get (i := q.1.toNat) (by omega)
    unfold lenS net at ih ⊢
    rw [List.map_cons, List.map_cons, List.sum_cons, List.sum_cons]
    rcases hq.2.2 with e | e <;> rw [e] <;> omega
theorem net_ge (bd : Bd 1000000 ls) {st : Strd} (h : ∀ q ∈ st, 0 ≤ q.1 ∧ q.1 < (ls.length : Int) ∧ (q.2 = 1 ∨ q.2 = -1)) {q : Int × Int} (hq : q ∈ st) : 2 * ls.getD q.1.toNat 0 ≤ absI (net ls st) + lenS ls st := by
  have p := List.perm_cons_erase hq
  have h1 := net_le bd (st.erase q) fun u hu => h u (List.mem_of_mem_erase hu)
  have e1 : net ls st = ls.getD q.1.toNat 0 * q.2 + net ls (st.erase q) := by
    rw [net_perm p]
    unfold net
    rw [List.map_cons, List.sum_cons]
  have e2 : lenS ls st = ls.getD q.1.toNat 0 + lenS ls (st.erase q) := by
    have z : lenS ls st = lenS ls (q :: st.erase q) := sum_perm (p.map _)
    rw [z]
    unfold lenS
    rw [List.map_cons, List.sum_cons]
  rw [e1, e2, absI_nat]
  rcases (h q hq).2.2 with e | e <;> rw [e] <;> omega
theorem lens_flat (ls : List Int) : ∀ way : List Strd, (way.map (lenS ls)).sum = ((flatB way).map fun b => ls.getD b.toNat 0).sum
  | [] => rfl
  | st :: way => by
    have ih := lens_flat ls way
    unfold flatB at ih ⊢
    rw [List.map_cons, List.sum_cons, ih, List.flatMap_cons, List.map_append, List.sum_append, List.map_map]
    rfl
theorem rng_map (ls : List Int) : (rngI ls.length).map (fun b => ls.getD b.toNat 0) = ls := by
  refine List.ext_getElem? fun i => ?_
  unfold rngI
  rw [List.map_map, List.getElem?_map]
  by_cases h : i < ls.length
  · rw [List.getElem?_range h]
    show some (ls.getD ((i : Nat) : Int).toNat 0) = _
    rw [Int.toNat_natCast, ← getD_at h]
  · rw [List.getElem?_eq_none (show (List.range ls.length).length ≤ i by rw [List.length_range]; omega), List.getElem?_eq_none (show ls.length ≤ i by omega)]
    rfl
theorem nets_le (bd : Bd 1000000 ls) : ∀ way : List Strd, (∀ st ∈ way, ∀ q ∈ st, 0 ≤ q.1 ∧ q.1 < (ls.length : Int) ∧ (q.2 = 1 ∨ q.2 = -1)) → (netsW ls way).sum ≤ (way.map (lenS ls)).sum
  | [], _ => by simp [netsW]
  | st :: way, h => by
    have ih := nets_le bd way fun s hs => h s (List.mem_cons_of_mem _ hs)
    have h1 := net_le bd st (h st (List.mem_cons_self ..))
    unfold netsW at ih ⊢
    rw [List.map_cons, List.map_cons, List.sum_cons, List.sum_cons, absI_nat]
    omega
/-- a ring that has a line-up closes -/
theorem had_closes (gw : goodV ls.length way) (h : hadN (netsW ls (dueW way)) = true) (bd : Bd 1000000 ls) (l3 : 3 ≤ ls.length) : closesB ls = true := by
  rw [had_perm (nets_due gw), had_iff] at h
  unfold closesB
  refine List.all_eq_true.mpr fun x hx => decide_eq_true ?_
  obtain ⟨k, hk⟩ := List.mem_iff_getElem?.mp hx
  have hkl : k < ls.length := (List.getElem?_eq_some_iff.mp hk).1
  have kf : ((k : Nat) : Int) ∈ flatB way := gw.pm.symm.mem_iff.mp (List.mem_map.mpr ⟨k, List.mem_range.mpr hkl, rfl⟩)
  obtain ⟨st, hst, hq⟩ := List.mem_flatMap.mp kf
  obtain ⟨q, hq, eq⟩ := List.mem_map.mp hq
  have fit := good_fit gw
  have h1 := net_ge bd (fit.2 st hst).2 hq
  have ex : ls.getD q.1.toNat 0 = x := by
    rw [show q.1 = (k : Int) from eq, Int.toNat_natCast, List.getD_eq_getElem?_getD, hk]
    rfl
  rw [ex] at h1
  have p := List.perm_cons_erase hst
  have e1 : (netsW ls way).sum = absI (net ls st) + (netsW ls (way.erase st)).sum := by
    have z : (netsW ls way).Perm (netsW ls (st :: way.erase st)) := p.map _
    rw [sum_perm z]
    unfold netsW
    rw [List.map_cons, List.sum_cons]
  have e2 : (way.map (lenS ls)).sum = lenS ls st + ((way.erase st).map (lenS ls)).sum := by
    rw [sum_perm (p.map (lenS ls)), List.map_cons, List.sum_cons]
  have e3 : (way.map (lenS ls)).sum = ls.sum := by
    rw [lens_flat, sum_perm (gw.pm.map _), rng_map]
  have h2 := nets_le bd (way.erase st) fun s hs => (fit.2 s (List.mem_of_mem_erase hs)).2
  have h3 := h (absI (net ls st)) (List.mem_map.mpr ⟨st, hst, rfl⟩)
  omega
end
section
variable {P : Program} {w : World} {K : PySem.W.Frag} {mg : Str → Option Value} {base : Heap}
abbrev nLW : List Str := ["_law_script", "_law_bench_here", "_law_turn", "_law_many", "_law_lengths_here", "_law_strands_here", "_law_lap", "_law_finer"]
theorem scLaw : FnScope nLW ["_law_script"] (defScope sLaw) := ⟨rfl, rfl, rfl, by decide +kernel, rfl, by decide +kernel, by decide +kernel⟩
def spLaw (K : PySem.W.Frag) (P1 : Addr) : Sp := fun vs H Q _ => ∃ (a : Addr) (ns : List Int), vs = [.ref a] ∧ SqL K H a (ns.map V.int) ∧ ns.length ≤ 63 ∧ Tabs (T1 P1) H ∧ ∀ H', Q (.bl true) H'
theorem ok_law {CR CL CN CG P1 f fP fLn fK fSD fPU fPR fRR fPA fRF fC fR fL fBN fBG : Addr} {fd fdP fdLn fdK fdSD fdPU fdPR fdRR fdPA fdRF fdC fdR fdL fdBN fdBG : FuncData} (F : Fun K "law" "law" sLaw f fd) (T : Bi mg) (R : RingP P w K mg base CR fR fdR) (RG : RingC K mg CR) (LP : LineP P w K mg base CL fL fdL) (RL : LineC K mg CL)
    (BN : PapB P w K mg base CN fBN fdBN true) (BG : PapB P w K mg base CG fBG fdBG false)
    (PN : DefAt P w K mg base CX0 2 "_law_bench" ["_law_script"] (spPen K) fP fdP) (LN : DefAt P w K mg base CX0 3 "_law_lengths" ["_law_bench_here", "_law_many"] (spLengths K) fLn fdLn) (PK : DefAt P w K mg base CX0 3 "_law_pick" ["_law_bench_here", "_law_some"] (spPick K) fK fdK)
    (SD : DefAt P w K mg base CX0 4 "_law_strands" ["_law_bench_here", "_law_many"] (spSD K) fSD fdSD) (PU : DefAt P w K mg base CX0 4 "_law_pulled" ["_law_bench_here", "_law_lengths_here", "_law_strands_here"] (spPU K) fPU fdPU)
    (PR : DefAt P w K mg base CX0 8 "_law_paper_right" ["_law_lengths_here", "_law_strands_here"] (spPR K) fPR fdPR) (RR : DefAt P w K mg base CX0 8 "_law_renumbered_right" ["_law_bench_here", "_law_lengths_here", "_law_strands_here"] (spRR K) fRR fdRR)
    (PA : DefAt P w K mg base CX0 4 "_law_parted" ["_law_bench_here", "_law_strands_here"] (spPA K) fPA fdPA) (RF : DefAt P w K mg base CX0 10 "_law_refused_right" ["_law_bench_here", "_law_lengths_here", "_law_strands_here"] (spRF K P1) fRF fdRF)
    (CLI : DefAt P w K mg base CX0 7 "can_line" ["ring", "lineup"] (spCLc K CR CL CN CG) fC fdC) : FnOk P w K mg base CX0 11 f fd ["_law_script"] (spLaw K P1) := by
  refine F.ok scLaw (fun vs H Q E h => ?_) (fun cdv A outer s H vs Q E hr h => ?_)
  · obtain ⟨a, ns, rfl, _⟩ := h
    rfl
  · have nd := scLaw.nd
    refine ⟨_, (pss_cons (ps_set (i := 1) nd rfl (Or.inl rfl) (pe_call PN.ok (hr.mono (by decide)) rfl PN.g PN.kp PN.b .nil pass0 (pa_cons (pv 0) pa_nil)))
      (pss_cons (ps_for PassesOwn.never rfl (pi_range1 (by rfl) T.range (pa_cons pe_int pa_nil)) (pg_name (i := 2) nd rfl (Or.inl rfl)) (pss_cons (ps_set (i := 3) nd rfl (Or.inl rfl) (pe_call PK.ok (hr.mono (by decide)) rfl PK.g PK.kp PK.b .nil pass0 (pa_cons (pv 1) (pa_cons (pe_lst (pa_cons pe_int (pa_cons pe_int (pa_cons pe_int (pa_cons pe_int (pa_cons pe_int (pa_cons pe_int (pa_cons pe_int pa_nil)))))))) pa_nil))))
      (pss_cons (ps_par (i := 4) (j := 5) (by rfl) nd rfl rfl (by decide) rfl rfl (pa_cons (pe_call LN.ok (hr.mono (by decide)) rfl LN.g LN.kp LN.b .nil pass0 (pa_cons (pv 1) (pa_cons (pv 3) pa_nil))) (pa_cons (pe_call SD.ok (hr.mono (by decide)) rfl SD.g SD.kp SD.b .nil pass0 (pa_cons (pv 1) (pa_cons (pv 3) pa_nil))) pa_nil)) (by rfl))
      (pss_cut (ps_if (pt_cmpR op_gt (pv 2) pe_int (nomark _)) (pss_one (ps_set (i := 4) nd rfl (Or.inl rfl) (pe_call PU.ok (hr.mono (by decide)) rfl PU.g PU.kp PU.b .nil pass0 (pa_cons (pv 1) (pa_cons (pv 4) (pa_cons (pv 5) pa_nil)))))) pss_nil)
      (pss_cons (ps_if (PW.pt (pw_or (pt_not (pt_val (pe_call PR.ok (hr.mono (by decide)) rfl PR.g PR.kp PR.b .nil pass0 (pa_cons (pv 4) (pa_cons (pv 5) pa_nil))))) (pw_or1 (pt_not (pt_val (pe_call RR.ok (hr.mono (by decide)) rfl RR.g RR.kp RR.b .nil pass0 (pa_cons (pv 1) (pa_cons (pv 4) (pa_cons (pv 5) pa_nil))))))))) (pss_one ps_never) pss_nil)
      (pss_cons (ps_for PassesOwn.never rfl (pi_range1 (by rfl) T.range (pa_cons pe_int pa_nil)) (pg_name (i := 6) nd rfl (Or.inl rfl)) (pss_cons (ps_set (i := 7) nd rfl (Or.inl rfl) (pe_call PA.ok (hr.mono (by decide)) rfl PA.g PA.kp PA.b .nil pass0 (pa_cons (pv 1) (pa_cons (pv 5) pa_nil))))
      (pss_cons (ps_if (pt_not (pt_val (pe_call PR.ok (hr.mono (by decide)) rfl PR.g PR.kp PR.b .nil pass0 (pa_cons (pv 4) (pa_cons (pv 7) pa_nil))))) (pss_one ps_never) pss_nil)
      (pss_cons (ps_if (PW.pt (pw_and (pt_bool2 BN.ok BG.ok (hr.mono (by decide)) (hr.mono (by decide)) BN.b BG.b (pe_call CLI.ok (hr.mono (by decide)) rfl CLI.g CLI.kp CLI.b .nil pass0 (pa_cons (pe_make R.made R.ok (hr.mono (by decide)) (by rfl) RG.g R.b .nil pass0 (pa_cons (pv 4) pa_nil)) (pa_cons (pe_make LP.made LP.ok (hr.mono (by decide)) (by rfl) RL.g LP.b .nil pass0 (pa_cons (pv 5) pa_nil)) pa_nil)))) (pw_and1 (pt_not (pt_bool2 BN.ok BG.ok (hr.mono (by decide)) (hr.mono (by decide)) BN.b BG.b (pe_call CLI.ok (hr.mono (by decide)) rfl CLI.g CLI.kp CLI.b .nil pass0 (pa_cons (pe_make R.made R.ok (hr.mono (by decide)) (by rfl) RG.g R.b .nil pass0 (pa_cons (pv 4) pa_nil)) (pa_cons (pe_make LP.made LP.ok (hr.mono (by decide)) (by rfl) RL.g LP.b .nil pass0 (pa_cons (pv 7) pa_nil)) pa_nil)))))))) (pss_one ps_never) pss_nil)
      (pss_one (ps_set (i := 5) nd rfl (Or.inl rfl) (pv 7)))))))
      (pss_one (ps_if (PW.pt (pw_and (pt_bool2 BN.ok BG.ok (hr.mono (by decide)) (hr.mono (by decide)) BN.b BG.b (pe_call CLI.ok (hr.mono (by decide)) rfl CLI.g CLI.kp CLI.b .nil pass0 (pa_cons (pe_make R.made R.ok (hr.mono (by decide)) (by rfl) RG.g R.b .nil pass0 (pa_cons (pv 4) pa_nil)) (pa_cons (pe_make LP.made LP.ok (hr.mono (by decide)) (by rfl) RL.g LP.b .nil pass0 (pa_cons (pv 5) pa_nil)) pa_nil)))) (pw_and1 (pt_not (pt_val (pe_fld (pe_make R.made R.ok (hr.mono (by decide)) (by rfl) RG.g R.b .nil pass0 (pa_cons (pv 4) pa_nil)) rfl)))))) (pss_one ps_never) pss_nil))))))))
      (pss_one (ps_ret (pe_call RF.ok (hr.mono (by decide)) rfl RF.g RF.kp RF.b .nil pass0 (pa_cons (pv 1) (pa_cons (pv 4) (pa_cons (pv 5) pa_nil)))))))), ?_⟩
    obtain ⟨a, ns, rfl, hs, hl, tab, q⟩ := h
    refine ⟨_, rfl, a, ns, rfl, hs, hl, fun p e H1 s1 np pen1 => ?_⟩
    have tab1 := tab.ext s1
    refine ⟨_, rfl, by decide, by decide, ?_⟩
    refine for_range (lo := 0) (n := (4 : Int).toNat) (fun i σ H' => PenAt K H' p e (i * 100) ∧ Tabs (T1 P1) H' ∧ ((i = 0 ∧ σ = [some (.ref a), some (.ref p), none, none, none, none, none, none]) ∨ ∃ (la : Addr) (ls : List Int) (v : V) (way : List Strd) (z2 z3 z6 z7 : Option V), σ = [some (.ref a), some (.ref p), z2, z3, some (.ref la), some v, z6, z7] ∧ LS K P1 p e (i * 100) la ls v way H')) ⟨by simpa using pen1, tab1, .inl ⟨rfl, rfl⟩⟩ ?_ ?_
    · rintro i σ H1 hi ⟨pen1, tab1, hσ⟩
      have hi4 : i < 4 := hi
      obtain ⟨z2, z3, z4, z5, z6, z7, rfl⟩ : ∃ z2 z3 z4 z5 z6 z7, σ = [some (.ref a), some (.ref p), z2, z3, z4, z5, z6, z7] := by
        rcases hσ with ⟨_, e⟩ | ⟨la, ls, v, way, z2, z3, z6, z7, e, _⟩
        · exact ⟨_, _, _, _, _, _, e⟩
        · exact ⟨_, _, _, _, _, _, e⟩
      clear hσ
      refine ⟨_, rfl, (by show 7 ≤ sizeLine; decide), fun u0 nu0 => ?_⟩
      have npu := pen1.ne nu0
      have s2 : Same H1 (upd H1 u0 (.lst [.int 3, .int 4, .int 5, .int 6, .int 6, .int 7, .int 8])) := (Same.refl H1).new nu0
      have hu : upd H1 u0 (.lst [.int 3, .int 4, .int 5, .int 6, .int 6, .int 7, .int 8]) u0 = some (.lst [.int 3, .int 4, .int 5, .int 6, .int 6, .int 7, .int 8]) := upd_same
      generalize upd H1 u0 (.lst [.int 3, .int 4, .int 5, .int 6, .int 6, .int 7, .int 8]) = H2 at s2 hu ⊢
      have pen2 := pen1.same s2
      have tab2 := tab1.ext s2
      refine ⟨p, u0, e, _, _, rfl, SqL.of hu, npu, (by show 1 ≤ 7; decide), (by show 7 ≤ 1000; decide), by omega, pen2, fun i0 v0 H3 hv0 b3 pen3 => ?_⟩
      obtain ⟨px, hpx⟩ := pen2.some
      have tab3 := tabs_but tab2 b3 hpx
      have hvm : ∃ m : Nat, v0 = .int (m : Nat) ∧ 3 ≤ m ∧ m ≤ 8 := by
        have hm := List.mem_of_getElem? hv0
        simp only [List.mem_cons, List.not_mem_nil, or_false] at hm
        rcases hm with z | z | z | z | z | z | z
        · exact ⟨3, z, by decide, by decide⟩
        · exact ⟨4, z, by decide, by decide⟩
        · exact ⟨5, z, by decide, by decide⟩
        · exact ⟨6, z, by decide, by decide⟩
        · exact ⟨6, z, by decide, by decide⟩
        · exact ⟨7, z, by decide, by decide⟩
        · exact ⟨8, z, by decide, by decide⟩
      obtain ⟨m, rfl, m3, m8⟩ := hvm
      refine ⟨_, rfl, _, rfl, p, e, m, _, rfl, m3, m8, by omega, pen3, fun la ls H4 ll bd nl b4 hl4 pen4 => ?_⟩
      obtain ⟨px3, hpx3⟩ := pen3.some
      have tab4 := tabs_but tab3 b4 hpx3
      have lap := pen3.ne nl
      refine ⟨_, rfl, _, rfl, p, e, m, _, rfl, m3, m8, by omega, pen4, fun v way H5 gw lw b5 pen5 => ⟨_, _, rfl, ?_⟩⟩
      obtain ⟨px4, hpx4⟩ := pen4.some
      have st5 : LS K P1 p e (i * 100 + 1 + 12 + 20) la ls v way H5 := ⟨pen5, tabs_but tab4 b5 hpx4, b5 _ _ lap hl4, lap, lw, by rw [ll]; exact gw, by omega, by omega, bd⟩
      clear gw lw hl4 bd pen1 tab1 tab2 tab3 tab4 pen3 pen4
      -- pulled
      refine ⟨fun σ' G => ∃ (la : Addr) (ls : List Int), σ' = [some (.ref a), some (.ref p), some (.int (0 + (i : Nat))), some (.int (m : Nat)), some (.ref la), some v, z6, z7] ∧ LS K P1 p e (i * 100 + 43) la ls v way G, ?_, ?_⟩
      · refine ⟨_, rfl, _, _, rfl, rfl, _, rfl, ?_⟩
        by_cases c : 1 < (0 + (i : Nat) : Int)
        · refine iteDT c ?_
          refine ⟨_, rfl, _, rfl, _, rfl, p, la, v, e, ls, way, _, rfl, st5.hla, st5.lap, st5.l3, st5.l8, st5.bd, st5.lw, st5.gw, by omega, st5.pen, fun l2 ls2 H6 e6 bd6 ne6 h6 b6 pen6 => ?_⟩
          obtain ⟨px5, hpx5⟩ := st5.pen.some
          exact ⟨l2, ls2, rfl, pen6.mono (by omega), tabs_but st5.tab b6 hpx5, h6, ne6, st5.lw.but st5.pen b6, by rw [e6]; exact st5.gw, by rw [e6]; exact st5.l3, by rw [e6]; exact st5.l8, bd6⟩
        · refine iteDF c ?_
          exact ⟨la, ls, rfl, st5.but (fun _ _ _ h => h) (st5.pen.mono (by omega))⟩
      rintro σ' H6 ⟨la, ls, rfl, st6⟩
      refine ⟨_, rfl, _, rfl, la, v, ls, way, rfl, st6.hla, st6.l3, st6.l8, st6.bd, st6.lw, st6.gw, fun H7 s7 => ⟨_, rfl, iteF ?_⟩⟩
      have st7 := st6.same s7
      refine ⟨_, rfl, _, rfl, _, rfl, p, la, v, e, ls, way, _, rfl, st7.hla, st7.lap, st7.l3, st7.l8, st7.bd, st7.lw, st7.gw, by omega, st7.pen, fun H8 b8 pen8 => ⟨_, rfl, iteF ?_⟩⟩
      have st8 := st7.but b8 pen8
      clear st5 st6 st7
      refine ⟨_, rfl, by decide, by decide, ?_⟩
      refine for_range (lo := 0) (n := (3 : Int).toNat) (fun j σ G => ∃ (v : V) (way : List Strd) (z6 z7 : Option V), σ = [some (.ref a), some (.ref p), some (.int (0 + (i : Nat))), some (.int (m : Nat)), some (.ref la), some v, z6, z7] ∧ LS K P1 p e (i * 100 + 53 + 10 * j) la ls v way G) ⟨v, way, _, _, rfl, st8⟩ ?_ ?_
      · rintro j σ H8 hj ⟨v, way, z6, z7, rfl, st8⟩
        have hj3 : j < 3 := hj
        refine ⟨_, rfl, _, rfl, p, v, e, way, ls.length, _, rfl, st8.lw, st8.gw, st8.l3, st8.l8, by omega, st8.pen, fun v2 way2 H9 gw2 lw2 fin b9 pen9 => ?_⟩
        have st9 := st8.but b9 pen9
        have nx9 : LS K P1 p e (i * 100 + 53 + 10 * j + 10) la ls v2 way2 H9 := ⟨st9.pen, st9.tab, st9.hla, st9.lap, lw2, gw2, st9.l3, st9.l8, st9.bd⟩
        refine ⟨_, rfl, _, rfl, la, v2, ls, way2, rfl, nx9.hla, nx9.l3, nx9.l8, nx9.bd, nx9.lw, nx9.gw, fun H10 s10 => ⟨_, rfl, iteF ?_⟩⟩
        have st10 := st9.same s10
        have nx10 := nx9.same s10
        have fin' : hadN (netsW ls (dueW way)) = true → hadN (netsW ls (dueW way2)) = true := fun h => by
          rw [had_perm (nets_due st8.gw)] at h
          rw [had_perm (nets_due gw2)]
          exact fin ls h
        refine ⟨_, rfl, madeL2 st10.hla st10.l3 st10.l8 st10.bd fun r HA ra sA nr => ⟨rfl, _, rfl, madeU (st10.same sA).lw st10.gw st10.l3 st10.l8 fun x HB lf sB => ⟨rfl, r, x, ls, dueW way, rfl, ra.same sB, st10.l3, st10.l8, lf, due_good st10.gw, fun e1 p1 HC sC nr1 => ?_, fun e1 p1 HC sC gr1 => ?_⟩⟩⟩
        · obtain ⟨nv, ⟨dx, tt, hp, ht⟩, fv⟩ := nr1
          refine .inl ⟨p1, CN, dx, _, rfl, hp, BN.f, BN.fn, _, rfl, true, rfl, iteT ?_⟩
          have e2' := fin' e1
          have nxC := nx10.same ((sA.trans sB).trans sC)
          clear hp ht fv nr ra lf sA sB sC e1
          refine ⟨_, rfl, madeL2 nxC.hla nxC.l3 nxC.l8 nxC.bd fun r HA ra sA nr => ⟨rfl, _, rfl, madeU (nxC.same sA).lw nxC.gw nxC.l3 nxC.l8 fun x HB lf sB => ⟨rfl, r, x, ls, dueW way2, rfl, ra.same sB, nxC.l3, nxC.l8, lf, due_good nxC.gw, fun e1 p1 HC sC nr1 => ?_, fun e1 p1 HC sC gr1 => ?_⟩⟩⟩
          · obtain ⟨nv, ⟨dx, tt, hp, ht⟩, fv⟩ := nr1
            refine .inl ⟨p1, CN, dx, _, rfl, hp, BN.f, BN.fn, _, rfl, true, rfl, iteF ?_⟩
            exact ⟨_, rfl, v2, way2, _, _, rfl, (nxC.same ((sA.trans sB).trans sC)).but (fun _ _ _ h => h) ((nxC.same ((sA.trans sB).trans sC)).pen.mono (by omega))⟩
          · rw [e2'] at e1
            cases e1
        · obtain ⟨nv, ⟨dx, tt, hp, ht⟩, fv⟩ := gr1
          refine .inr ⟨p1, CG, dx, _, rfl, hp, BG.f, BG.fn, _, rfl, false, rfl, iteF ?_⟩
          have nxC := nx10.same ((sA.trans sB).trans sC)
          exact ⟨_, rfl, v2, way2, _, _, rfl, nxC.but (fun _ _ _ h => h) (nxC.pen.mono (by omega))⟩
      · rintro σ H8 ⟨v, way, z6, z7, rfl, st8⟩
        have l100 : i * 100 + 53 + 10 * (3 : Int).toNat ≤ (i + 1) * 100 := by
          show i * 100 + 53 + 30 ≤ _
          omega
        refine ⟨_, rfl, madeL2 st8.hla st8.l3 st8.l8 st8.bd fun r HA ra sA nr => ⟨rfl, _, rfl, madeU (st8.same sA).lw st8.gw st8.l3 st8.l8 fun x HB lf sB => ⟨rfl, r, x, ls, dueW way, rfl, ra.same sB, st8.l3, st8.l8, lf, due_good st8.gw, fun e1 p1 HC sC nr1 => ?_, fun e1 p1 HC sC gr1 => ?_⟩⟩⟩
        · obtain ⟨nv, ⟨dx, tt, hp, ht⟩, fv⟩ := nr1
          refine .inl ⟨p1, CN, dx, _, rfl, hp, BN.f, BN.fn, _, rfl, true, rfl, iteT ?_⟩
          have cl := had_closes st8.gw e1 st8.bd st8.l3
          have stC := st8.same ((sA.trans sB).trans sC)
          clear hp ht fv nr ra lf sA sB sC e1
          refine ⟨_, rfl, madeL2 stC.hla stC.l3 stC.l8 stC.bd fun r HD ra sD nr => ⟨rfl, ?_⟩⟩
          obtain ⟨dx2, t2, hr0, _⟩ := id ra
          refine ⟨r, CR, dx2, _, _, rfl, hr0, RG.cl, RG.nC, rf_closes _ _, _, rfl, ?_⟩
          rw [cl]
          refine iteF ?_
          have stD := (stC.same sD)
          have stE := stD.but (fun _ _ _ h => h) (stD.pen.mono l100)
          exact ⟨stE.pen, stE.tab, .inr ⟨la, ls, v, way, _, _, _, _, rfl, stE⟩⟩
        · obtain ⟨nv, ⟨dx, tt, hp, ht⟩, fv⟩ := gr1
          refine .inr ⟨p1, CG, dx, _, rfl, hp, BG.f, BG.fn, _, rfl, false, rfl, iteF ?_⟩
          have stD := st8.same ((sA.trans sB).trans sC)
          have stE := stD.but (fun _ _ _ h => h) (stD.pen.mono l100)
          exact ⟨stE.pen, stE.tab, .inr ⟨la, ls, v, way, _, _, _, _, rfl, stE⟩⟩
    · rintro σ H' ⟨pen, tab, hσ⟩
      rcases hσ with ⟨z, _⟩ | ⟨la, ls, v, way, z2, z3, z6, z7, rfl, st⟩
      · exact absurd z (by decide)
      · exact ⟨_, rfl, _, rfl, _, rfl, p, la, v, e, ls, way, _, rfl, st.hla, st.lap, st.l3, st.l8, st.bd, st.lw, st.gw, by decide, st.pen, st.tab, fun H2 => q H2⟩
end
end K
namespace K
open PySem L2 Rg LamX
theorem kb_lr {K : PySem.W.Frag} {fd : FuncData} (h : ∀ (a b : Value) (s : Shared), BindsTo s fd ⟨[], [("lineup", a), ("ring", b)]⟩ [("ring", b), ("lineup", a)]) : KBinds K fd ["ring", "lineup"] ["lineup", "ring"] gK2 gK2 := by
  refine ⟨fun s us ws _ hl => ?_, fun {vs us zs ws} r1 r2 => ?_⟩
  · match us, ws, hl with
    | [], [a, b], _ => exact h a b s
  · cases r1 with
    | nil =>
      cases r2 with
      | nil => exact .nil
      | cons x t =>
        cases t with
        | nil => exact .nil
        | cons y t2 =>
          cases t2 with
          | nil => exact .cons y (.cons x .nil)
          | cons _ _ => exact .nil
    | cons _ _ => exact .nil
section
variable {P : Program} {w : World} {K : PySem.W.Frag} {mg : Str → Option Value} {base : Heap}
theorem scBadLineUp : FnScope ["self", "part"] ["self", "part"] (defScope sBadLineUpInit) := ⟨rfl, rfl, rfl, by decide +kernel, rfl, by decide +kernel, by decide +kernel⟩
theorem ok_badLineUpI {f : Addr} {fd : FuncData} (F : Fun K "__init__" "BadLineUp.__init__" sBadLineUpInit f fd) : FnOk P w K mg base CX0 1 f fd ["self", "part"] (spIni K "part") := by
  refine F.ok scBadLineUp (fun vs H Q E h => ?_) (fun cdv A outer s H vs Q E hr h => ?_)
  · obtain ⟨a, C, v, rfl, _⟩ := h
    rfl
  · refine ⟨_, pss_one (ps_ost (pv 0) (pv 1)), ?_⟩
    obtain ⟨a, C, v, rfl, o, n, ha, k⟩ := h
    exact ⟨_, rfl, _, rfl, a, C, rfl, o, n, .inl ⟨ha, fun d h1 h2 => k d h1 h2⟩⟩
theorem scMisfit : FnScope ["self", "part"] ["self", "part"] (defScope sMisfitInit) := ⟨rfl, rfl, rfl, by decide +kernel, rfl, by decide +kernel, by decide +kernel⟩
theorem ok_misfitI {f : Addr} {fd : FuncData} (F : Fun K "__init__" "Misfit.__init__" sMisfitInit f fd) : FnOk P w K mg base CX0 1 f fd ["self", "part"] (spIni K "part") := by
  refine F.ok scMisfit (fun vs H Q E h => ?_) (fun cdv A outer s H vs Q E hr h => ?_)
  · obtain ⟨a, C, v, rfl, _⟩ := h
    rfl
  · refine ⟨_, pss_one (ps_ost (pv 0) (pv 1)), ?_⟩
    obtain ⟨a, C, v, rfl, o, n, ha, k⟩ := h
    exact ⟨_, rfl, _, rfl, a, C, rfl, o, n, .inl ⟨ha, fun d h1 h2 => k d h1 h2⟩⟩
theorem scPBT : FnScope ["self"] ["self"] (defScope sPaperBool) := ⟨rfl, rfl, rfl, by decide +kernel, rfl, by decide +kernel, by decide +kernel⟩
theorem ok_PBT {f : Addr} {fd : FuncData} (F : Fun K "__bool__" "Paper.__bool__" sPaperBool f fd) : FnOk P w K mg base CX0 1 f fd ["self"] (fun vs H Q _ => ∃ v, vs = [v] ∧ Q (.bl true) H) := by
  refine F.ok scPBT (fun vs H Q E h => ?_) (fun cdv A outer s H vs Q E hr h => ?_)
  · obtain ⟨v, rfl, _⟩ := h
    rfl
  · refine ⟨_, (pss_one (ps_ret pe_bl)), ?_⟩
    obtain ⟨v, rfl, q⟩ := h
    exact q
theorem scPBF : FnScope ["self"] ["self"] (defScope sDenialBool) := ⟨rfl, rfl, rfl, by decide +kernel, rfl, by decide +kernel, by decide +kernel⟩
theorem ok_PBF {f : Addr} {fd : FuncData} (F : Fun K "__bool__" "Denial.__bool__" sDenialBool f fd) : FnOk P w K mg base CX0 1 f fd ["self"] (fun vs H Q _ => ∃ v, vs = [v] ∧ Q (.bl false) H) := by
  refine F.ok scPBF (fun vs H Q E h => ?_) (fun cdv A outer s H vs Q E hr h => ?_)
  · obtain ⟨v, rfl, _⟩ := h
    rfl
  · refine ⟨_, (pss_one (ps_ret pe_bl)), ?_⟩
    obtain ⟨v, rfl, q⟩ := h
    exact q
end
theorem code_hd {K : PySem.W.Frag} {c P : Addr} {o : Obj} (l : K.lookup c = some o) (h : PySem.W.codeHdIn [(c, o)] c P = true) : PySem.W.codeHdIn K c P = true := by
  have e : List.lookup c [(c, o)] = some o := by simp [List.lookup]
  unfold PySem.W.codeHdIn at h ⊢
  rw [e] at h
  rw [l]
  exact h
theorem lookup_out {K : PySem.W.Frag} {P : Addr} : ∀ {as : List Addr}, as = K.map (·.1) → P ∉ as → K.lookup P = none := by
  intro as e h
  subst e
  induction K with
  | nil => rfl
  | cons x r ih =>
    obtain ⟨a, o⟩ := x
    rw [List.map_cons, List.mem_cons, not_or] at h
    have hne : (P == a) = false := by simpa using h.1
    rw [List.lookup_cons, hne]
    exact ih h.2
theorem out_of {K : Params → PySem.W.Frag} {as : List Addr} {e : ∀ P, as = (K P).map (·.1)} {ts : List Addr} {w : World} {h : Heap} (_ : (PySem.W.kmHook K as e ts).says w h) {P : Addr} (hP : P ∉ as) : (K w.params).lookup P = none := lookup_out (e w.params) hP


theorem all_mk {fileEN fileEG : Str} {l : PySem.W.OpenLaw} {w : World} {K : PySem.W.Frag} {h : Heap} {mg : Str → Option Value} {fa : Addr} (X : K.In h) (G : h.Ns mainGlobals mg) (hfa : mg "law" = some (.ref fa))
    {C CL CN CG eX eR eL eM f0 f1 f2 f3 f4 f5 f6 f7 f8 f9 f10 f11 f12 f13 f14 f15 f16 f17 f18 f19 f20 f21 f22 f23 f24 f25 f26 f27 f28 f29 f30 f31 f32 f33 cRR f34 fm0 fm1 fm2 fm3 fm4 fm5 fm6 fm7 fm8 P1 Pa Dn fPi fEN ccEN cEN fEG ccEG cEG : Addr} {od0 an0 od1 an1 od2 an2 od3 an3 od4 an4 od5 an5 od6 an6 od7 an7 od8 an8 od9 an9 od10 an10 od11 an11 od12 an12 od13 an13 od14 an14 od15 an15 od16 an16 od17 an17 od18 an18 od19 an19 od20 an20 od21 an21 od22 an22 od23 an23 od24 an24 od25 an25 od26 an26 od27 an27 od28 an28 od29 an29 od30 an30 od31 an31 od32 an32 od33 an33 od34 an34 odm0 anm0 odm1 anm1 odm2 anm2 odm3 anm3 odm4 anm4 odm5 anm5 odm6 anm6 odm7 anm7 odm8 anm8 odc1 odP anP odEN anEN cddEN kcdEN odEG anEG cddEG kcdEG : Option Addr} {sl0 sl1 sl2 sl3 sl4 sl5 sl6 sl7 sl8 sl9 sl10 sl11 sl12 sl13 sl14 sl15 sl16 sl17 sl18 sl19 sl20 sl21 sl22 sl23 sl24 sl25 sl26 sl27 sl28 sl29 sl30 sl31 sl32 sl33 sl34 slm0 slm1 slm2 slm3 slm4 slm5 slm6 slm7 slm8 slc1 slP slEN ccsEN kcsEN slEG ccsEG kcsEG : Array (Option Value)} {oc0 kV0 dc0 pm0 ct0 cd0 oc1 kV1 dc1 pm1 ct1 cd1 oc2 kV2 dc2 pm2 ct2 cd2 oc3 kV3 dc3 pm3 ct3 cd3 oc4 kV4 dc4 pm4 ct4 cd4 oc5 kV5 dc5 pm5 ct5 cd5 oc6 kV6 dc6 pm6 ct6 cd6 oc7 kV7 dc7 pm7 ct7 cd7 oc8 kV8 dc8 pm8 ct8 cd8 oc9 kV9 dc9 pm9 ct9 cd9 oc10 kV10 dc10 pm10 ct10 cd10 oc11 kV11 dc11 pm11 ct11 cd11 oc12 kV12 dc12 pm12 ct12 cd12 oc13 kV13 dc13 pm13 ct13 cd13 oc14 kV14 dc14 pm14 ct14 cd14 oc15 kV15 dc15 pm15 ct15 cd15 oc16 kV16 dc16 pm16 ct16 cd16 oc17 kV17 dc17 pm17 ct17 cd17 oc18 kV18 dc18 pm18 ct18 cd18 oc19 kV19 dc19 pm19 ct19 cd19 oc20 kV20 dc20 pm20 ct20 cd20 oc21 kV21 dc21 pm21 ct21 cd21 oc22 kV22 dc22 pm22 ct22 cd22 oc23 kV23 dc23 pm23 ct23 cd23 oc24 kV24 dc24 pm24 ct24 cd24 oc25 kV25 dc25 pm25 ct25 cd25 oc26 kV26 dc26 pm26 ct26 cd26 oc27 kV27 dc27 pm27 ct27 cd27 oc28 kV28 dc28 pm28 ct28 cd28 oc29 kV29 dc29 pm29 ct29 cd29 oc30 kV30 dc30 pm30 ct30 cd30 oc31 kV31 dc31 pm31 ct31 cd31 oc32 kV32 dc32 pm32 ct32 cd32 oc33 kV33 dc33 pm33 ct33 oc34 kV34 dc34 pm34 ct34 cd34 ocm0 kVm0 dcm0 pmm0 ctm0 cdm0 ocm1 kVm1 dcm1 pmm1 ctm1 cdm1 ocm2 kVm2 dcm2 pmm2 ctm2 cdm2 ocm3 kVm3 dcm3 pmm3 ctm3 cdm3 ocm4 kVm4 dcm4 pmm4 ctm4 cdm4 ocm5 kVm5 dcm5 pmm5 ctm5 cdm5 ocm6 kVm6 dcm6 pmm6 ctm6 cdm6 ocm7 kVm7 dcm7 pmm7 ctm7 cdm7 ocm8 kVm8 dcm8 pmm8 ctm8 cdm8 ocP kVP dcP pmP cdP ctP ocEN kVEN dcEN pmEN ctEN cclEN kclEN ocEG kVEG dcEG pmEG ctEG cclEG kclEG : Value} {tkMOST_LENGTH tkLEAST_BARS tkMOST_BARS tfEN tfEG : Tok} {vsc1 vsEN vsEG : Array Value}
    {nmeR nmeL nmeM qqeR qqeL qqeM : Str} {NeR NeL NeM : Addr} {bseR bseL bseM : List Value} {bmeR bmeL bmeM : List Value} {sneR sneL sneM : List Str} {subeR subeL subeM : List Value} {abeR abeL abeM : Bool} {coleR coleL coleM : Option Bool} {ddeR ddeL ddeM : Option Addr} {k0eR k1eR k2eR k3eR k5eR k0eL k1eL k2eL k3eL k5eL k0eM k1eM k2eM k3eM k5eM : Option Value}
    (aC : PySem.W.nsIn K mainGlobals "Ring" = some (some (.ref C)))
    (aCL : PySem.W.nsIn K mainGlobals "LineUp" = some (some (.ref CL)))
    (aCN : PySem.W.nsIn K mainGlobals "Nets" = some (some (.ref CN)))
    (aCG : PySem.W.nsIn K mainGlobals "TooGreat" = some (some (.ref CG)))
    (aeX : PySem.W.nsIn K mainGlobals "RingError" = some (some (.ref eX)))
    (aeR : PySem.W.nsIn K mainGlobals "BadRing" = some (some (.ref eR)))
    (aeL : PySem.W.nsIn K mainGlobals "BadLineUp" = some (some (.ref eL)))
    (aeM : PySem.W.nsIn K mainGlobals "Misfit" = some (some (.ref eM)))
    (a0 : PySem.W.nsIn K mainGlobals "is_integer" = some (some (.ref f0)))
    (l0 : K.lookup f0 = some ⟨oc0, od0, .func (PySem.W.fnOf "is_integer" "is_integer" (defArgs sIsInteger) (defBody sIsInteger) (defScope sIsInteger) .none kV0 dc0 pm0 an0 cd0 ct0), sl0⟩)
    (c0 : PySem.W.codeIn K cd0 "is_integer" = true)
    (k0 : PySem.W.keepIn K (.ref f0) = true)
    (a1 : PySem.W.nsIn K mainGlobals "is_within" = some (some (.ref f1)))
    (l1 : K.lookup f1 = some ⟨oc1, od1, .func (PySem.W.fnOf "is_within" "is_within" (defArgs sIsWithin) (defBody sIsWithin) (defScope sIsWithin) .none kV1 dc1 pm1 an1 cd1 ct1), sl1⟩)
    (c1 : PySem.W.codeIn K cd1 "is_within" = true)
    (k1 : PySem.W.keepIn K (.ref f1) = true)
    (a2 : PySem.W.nsIn K mainGlobals "is_list" = some (some (.ref f2)))
    (l2 : K.lookup f2 = some ⟨oc2, od2, .func (PySem.W.fnOf "is_list" "is_list" (defArgs sIsList) (defBody sIsList) (defScope sIsList) .none kV2 dc2 pm2 an2 cd2 ct2), sl2⟩)
    (c2 : PySem.W.codeIn K cd2 "is_list" = true)
    (k2 : PySem.W.keepIn K (.ref f2) = true)
    (a3 : PySem.W.nsIn K mainGlobals "is_numbers" = some (some (.ref f3)))
    (l3 : K.lookup f3 = some ⟨oc3, od3, .func (PySem.W.fnOf "is_numbers" "is_numbers" (defArgs sIsNumbers) (defBody sIsNumbers) (defScope sIsNumbers) .none kV3 dc3 pm3 an3 cd3 ct3), sl3⟩)
    (c3 : PySem.W.codeIn K cd3 "is_numbers" = true)
    (k3 : PySem.W.keepIn K (.ref f3) = true)
    (a4 : PySem.W.nsIn K mainGlobals "fixed" = some (some (.ref f4)))
    (l4 : K.lookup f4 = some ⟨oc4, od4, .func (PySem.W.fnOf "fixed" "fixed" (defArgs sFixed) (defBody sFixed) (defScope sFixed) .none kV4 dc4 pm4 an4 cd4 ct4), sl4⟩)
    (c4 : PySem.W.codeIn K cd4 "fixed" = true)
    (k4 : PySem.W.keepIn K (.ref f4) = true)
    (a5 : PySem.W.nsIn K mainGlobals "are_lengths" = some (some (.ref f5)))
    (l5 : K.lookup f5 = some ⟨oc5, od5, .func (PySem.W.fnOf "are_lengths" "are_lengths" (defArgs sAreLengths) (defBody sAreLengths) (defScope sAreLengths) .none kV5 dc5 pm5 an5 cd5 ct5), sl5⟩)
    (c5 : PySem.W.codeIn K cd5 "are_lengths" = true)
    (k5 : PySem.W.keepIn K (.ref f5) = true)
    (a6 : PySem.W.nsIn K mainGlobals "has_level" = some (some (.ref f6)))
    (l6 : K.lookup f6 = some ⟨oc6, od6, .func (PySem.W.fnOf "has_level" "has_level" (defArgs sHasLevel) (defBody sHasLevel) (defScope sHasLevel) .none kV6 dc6 pm6 an6 cd6 ct6), sl6⟩)
    (c6 : PySem.W.codeIn K cd6 "has_level" = true)
    (k6 : PySem.W.keepIn K (.ref f6) = true)
    (a7 : PySem.W.nsIn K mainGlobals "want_ring" = some (some (.ref f7)))
    (l7 : K.lookup f7 = some ⟨oc7, od7, .func (PySem.W.fnOf "want_ring" "want_ring" (defArgs sWantRing) (defBody sWantRing) (defScope sWantRing) .none kV7 dc7 pm7 an7 cd7 ct7), sl7⟩)
    (c7 : PySem.W.codeIn K cd7 "want_ring" = true)
    (k7 : PySem.W.keepIn K (.ref f7) = true)
    (a8 : PySem.W.nsIn K mainGlobals "want_as_many" = some (some (.ref f8)))
    (l8 : K.lookup f8 = some ⟨oc8, od8, .func (PySem.W.fnOf "want_as_many" "want_as_many" (defArgs sWantAsMany) (defBody sWantAsMany) (defScope sWantAsMany) .none kV8 dc8 pm8 an8 cd8 ct8), sl8⟩)
    (c8 : PySem.W.codeIn K cd8 "want_as_many" = true)
    (k8 : PySem.W.keepIn K (.ref f8) = true)
    (a9 : PySem.W.nsIn K mainGlobals "want_lineup" = some (some (.ref f9)))
    (l9 : K.lookup f9 = some ⟨oc9, od9, .func (PySem.W.fnOf "want_lineup" "want_lineup" (defArgs sWantLineup) (defBody sWantLineup) (defScope sWantLineup) .none kV9 dc9 pm9 an9 cd9 ct9), sl9⟩)
    (c9 : PySem.W.codeIn K cd9 "want_lineup" = true)
    (k9 : PySem.W.keepIn K (.ref f9) = true)
    (a10 : PySem.W.nsIn K mainGlobals "want_lined" = some (some (.ref f10)))
    (l10 : K.lookup f10 = some ⟨oc10, od10, .func (PySem.W.fnOf "want_lined" "want_lined" (defArgs sWantLined) (defBody sWantLined) (defScope sWantLined) .none kV10 dc10 pm10 an10 cd10 ct10), sl10⟩)
    (c10 : PySem.W.codeIn K cd10 "want_lined" = true)
    (k10 : PySem.W.keepIn K (.ref f10) = true)
    (a11 : PySem.W.nsIn K mainGlobals "are_strands" = some (some (.ref f11)))
    (l11 : K.lookup f11 = some ⟨oc11, od11, .func (PySem.W.fnOf "are_strands" "are_strands" (defArgs sAreStrands) (defBody sAreStrands) (defScope sAreStrands) .none kV11 dc11 pm11 an11 cd11 ct11), sl11⟩)
    (c11 : PySem.W.codeIn K cd11 "are_strands" = true)
    (k11 : PySem.W.keepIn K (.ref f11) = true)
    (a12 : PySem.W.nsIn K mainGlobals "is_strand" = some (some (.ref f12)))
    (l12 : K.lookup f12 = some ⟨oc12, od12, .func (PySem.W.fnOf "is_strand" "is_strand" (defArgs sIsStrand) (defBody sIsStrand) (defScope sIsStrand) .none kV12 dc12 pm12 an12 cd12 ct12), sl12⟩)
    (c12 : PySem.W.codeIn K cd12 "is_strand" = true)
    (k12 : PySem.W.keepIn K (.ref f12) = true)
    (a13 : PySem.W.nsIn K mainGlobals "as_strand" = some (some (.ref f13)))
    (l13 : K.lookup f13 = some ⟨oc13, od13, .func (PySem.W.fnOf "as_strand" "as_strand" (defArgs sAsStrand) (defBody sAsStrand) (defScope sAsStrand) .none kV13 dc13 pm13 an13 cd13 ct13), sl13⟩)
    (c13 : PySem.W.codeIn K cd13 "as_strand" = true)
    (k13 : PySem.W.keepIn K (.ref f13) = true)
    (a14 : PySem.W.nsIn K mainGlobals "lineup_items" = some (some (.ref f14)))
    (l14 : K.lookup f14 = some ⟨oc14, od14, .func (PySem.W.fnOf "lineup_items" "lineup_items" (defArgs sLineupItems) (defBody sLineupItems) (defScope sLineupItems) .none kV14 dc14 pm14 an14 cd14 ct14), sl14⟩)
    (c14 : PySem.W.codeIn K cd14 "lineup_items" = true)
    (k14 : PySem.W.keepIn K (.ref f14) = true)
    (a15 : PySem.W.nsIn K mainGlobals "item_of" = some (some (.ref f15)))
    (l15 : K.lookup f15 = some ⟨oc15, od15, .func (PySem.W.fnOf "item_of" "item_of" (defArgs sItemOf) (defBody sItemOf) (defScope sItemOf) .none kV15 dc15 pm15 an15 cd15 ct15), sl15⟩)
    (c15 : PySem.W.codeIn K cd15 "item_of" = true)
    (k15 : PySem.W.keepIn K (.ref f15) = true)
    (a16 : PySem.W.nsIn K mainGlobals "nets_of" = some (some (.ref f16)))
    (l16 : K.lookup f16 = some ⟨oc16, od16, .func (PySem.W.fnOf "nets_of" "nets_of" (defArgs sNetsOf) (defBody sNetsOf) (defScope sNetsOf) .none kV16 dc16 pm16 an16 cd16 ct16), sl16⟩)
    (c16 : PySem.W.codeIn K cd16 "nets_of" = true)
    (k16 : PySem.W.keepIn K (.ref f16) = true)
    (a17 : PySem.W.nsIn K mainGlobals "too_great" = some (some (.ref f17)))
    (l17 : K.lookup f17 = some ⟨oc17, od17, .func (PySem.W.fnOf "too_great" "too_great" (defArgs sTooGreat) (defBody sTooGreat) (defScope sTooGreat) .none kV17 dc17 pm17 an17 cd17 ct17), sl17⟩)
    (c17 : PySem.W.codeIn K cd17 "too_great" = true)
    (k17 : PySem.W.keepIn K (.ref f17) = true)
    (a18 : PySem.W.nsIn K mainGlobals "can_line" = some (some (.ref f18)))
    (l18 : K.lookup f18 = some ⟨oc18, od18, .func (PySem.W.fnOf "can_line" "can_line" (defArgs sCanLine) (defBody sCanLine) (defScope sCanLine) .none kV18 dc18 pm18 an18 cd18 ct18), sl18⟩)
    (c18 : PySem.W.codeIn K cd18 "can_line" = true)
    (k18 : PySem.W.keepIn K (.ref f18) = true)
    (a19 : PySem.W.nsIn K mainGlobals "_law_bench" = some (some (.ref f19)))
    (l19 : K.lookup f19 = some ⟨oc19, od19, .func (PySem.W.fnOf "_law_bench" "_law_bench" (defArgs sLwBench) (defBody sLwBench) (defScope sLwBench) .none kV19 dc19 pm19 an19 cd19 ct19), sl19⟩)
    (c19 : PySem.W.codeIn K cd19 "_law_bench" = true)
    (k19 : PySem.W.keepIn K (.ref f19) = true)
    (a20 : PySem.W.nsIn K mainGlobals "_law_draw" = some (some (.ref f20)))
    (l20 : K.lookup f20 = some ⟨oc20, od20, .func (PySem.W.fnOf "_law_draw" "_law_draw" (defArgs sLwDraw) (defBody sLwDraw) (defScope sLwDraw) .none kV20 dc20 pm20 an20 cd20 ct20), sl20⟩)
    (c20 : PySem.W.codeIn K cd20 "_law_draw" = true)
    (k20 : PySem.W.keepIn K (.ref f20) = true)
    (a21 : PySem.W.nsIn K mainGlobals "_law_pick" = some (some (.ref f21)))
    (l21 : K.lookup f21 = some ⟨oc21, od21, .func (PySem.W.fnOf "_law_pick" "_law_pick" (defArgs sLwPick) (defBody sLwPick) (defScope sLwPick) .none kV21 dc21 pm21 an21 cd21 ct21), sl21⟩)
    (c21 : PySem.W.codeIn K cd21 "_law_pick" = true)
    (k21 : PySem.W.keepIn K (.ref f21) = true)
    (a22 : PySem.W.nsIn K mainGlobals "_law_mixed" = some (some (.ref f22)))
    (l22 : K.lookup f22 = some ⟨oc22, od22, .func (PySem.W.fnOf "_law_mixed" "_law_mixed" (defArgs sLwMixed) (defBody sLwMixed) (defScope sLwMixed) .none kV22 dc22 pm22 an22 cd22 ct22), sl22⟩)
    (c22 : PySem.W.codeIn K cd22 "_law_mixed" = true)
    (k22 : PySem.W.keepIn K (.ref f22) = true)
    (a23 : PySem.W.nsIn K mainGlobals "_law_lengths" = some (some (.ref f23)))
    (l23 : K.lookup f23 = some ⟨oc23, od23, .func (PySem.W.fnOf "_law_lengths" "_law_lengths" (defArgs sLwLengths) (defBody sLwLengths) (defScope sLwLengths) .none kV23 dc23 pm23 an23 cd23 ct23), sl23⟩)
    (c23 : PySem.W.codeIn K cd23 "_law_lengths" = true)
    (k23 : PySem.W.keepIn K (.ref f23) = true)
    (a24 : PySem.W.nsIn K mainGlobals "_law_strands" = some (some (.ref f24)))
    (l24 : K.lookup f24 = some ⟨oc24, od24, .func (PySem.W.fnOf "_law_strands" "_law_strands" (defArgs sLwStrands) (defBody sLwStrands) (defScope sLwStrands) .none kV24 dc24 pm24 an24 cd24 ct24), sl24⟩)
    (c24 : PySem.W.codeIn K cd24 "_law_strands" = true)
    (k24 : PySem.W.keepIn K (.ref f24) = true)
    (a25 : PySem.W.nsIn K mainGlobals "_law_right" = some (some (.ref f25)))
    (l25 : K.lookup f25 = some ⟨oc25, od25, .func (PySem.W.fnOf "_law_right" "_law_right" (defArgs sLwRight) (defBody sLwRight) (defScope sLwRight) .none kV25 dc25 pm25 an25 cd25 ct25), sl25⟩)
    (c25 : PySem.W.codeIn K cd25 "_law_right" = true)
    (k25 : PySem.W.keepIn K (.ref f25) = true)
    (a26 : PySem.W.nsIn K mainGlobals "_law_nets" = some (some (.ref f26)))
    (l26 : K.lookup f26 = some ⟨oc26, od26, .func (PySem.W.fnOf "_law_nets" "_law_nets" (defArgs sLwNets) (defBody sLwNets) (defScope sLwNets) .none kV26 dc26 pm26 an26 cd26 ct26), sl26⟩)
    (c26 : PySem.W.codeIn K cd26 "_law_nets" = true)
    (k26 : PySem.W.keepIn K (.ref f26) = true)
    (a27 : PySem.W.nsIn K mainGlobals "_law_is_home" = some (some (.ref f27)))
    (l27 : K.lookup f27 = some ⟨oc27, od27, .func (PySem.W.fnOf "_law_is_home" "_law_is_home" (defArgs sLwIsHome) (defBody sLwIsHome) (defScope sLwIsHome) .none kV27 dc27 pm27 an27 cd27 ct27), sl27⟩)
    (c27 : PySem.W.codeIn K cd27 "_law_is_home" = true)
    (k27 : PySem.W.keepIn K (.ref f27) = true)
    (a28 : PySem.W.nsIn K mainGlobals "_law_paper_right" = some (some (.ref f28)))
    (l28 : K.lookup f28 = some ⟨oc28, od28, .func (PySem.W.fnOf "_law_paper_right" "_law_paper_right" (defArgs sLwPaperRight) (defBody sLwPaperRight) (defScope sLwPaperRight) .none kV28 dc28 pm28 an28 cd28 ct28), sl28⟩)
    (c28 : PySem.W.codeIn K cd28 "_law_paper_right" = true)
    (k28 : PySem.W.keepIn K (.ref f28) = true)
    (a29 : PySem.W.nsIn K mainGlobals "_law_parted" = some (some (.ref f29)))
    (l29 : K.lookup f29 = some ⟨oc29, od29, .func (PySem.W.fnOf "_law_parted" "_law_parted" (defArgs sLwParted) (defBody sLwParted) (defScope sLwParted) .none kV29 dc29 pm29 an29 cd29 ct29), sl29⟩)
    (c29 : PySem.W.codeIn K cd29 "_law_parted" = true)
    (k29 : PySem.W.keepIn K (.ref f29) = true)
    (a30 : PySem.W.nsIn K mainGlobals "_law_pulled" = some (some (.ref f30)))
    (l30 : K.lookup f30 = some ⟨oc30, od30, .func (PySem.W.fnOf "_law_pulled" "_law_pulled" (defArgs sLwPulled) (defBody sLwPulled) (defScope sLwPulled) .none kV30 dc30 pm30 an30 cd30 ct30), sl30⟩)
    (c30 : PySem.W.codeIn K cd30 "_law_pulled" = true)
    (k30 : PySem.W.keepIn K (.ref f30) = true)
    (a31 : PySem.W.nsIn K mainGlobals "_law_renumbered_right" = some (some (.ref f31)))
    (l31 : K.lookup f31 = some ⟨oc31, od31, .func (PySem.W.fnOf "_law_renumbered_right" "_law_renumbered_right" (defArgs sLwRenumberedRight) (defBody sLwRenumberedRight) (defScope sLwRenumberedRight) .none kV31 dc31 pm31 an31 cd31 ct31), sl31⟩)
    (c31 : PySem.W.codeIn K cd31 "_law_renumbered_right" = true)
    (k31 : PySem.W.keepIn K (.ref f31) = true)
    (a32 : PySem.W.nsIn K mainGlobals "_law_heard" = some (some (.ref f32)))
    (l32 : K.lookup f32 = some ⟨oc32, od32, .func (PySem.W.fnOf "_law_heard" "_law_heard" (defArgs sLwHeard) (defBody sLwHeard) (defScope sLwHeard) .none kV32 dc32 pm32 an32 cd32 ct32), sl32⟩)
    (c32 : PySem.W.codeIn K cd32 "_law_heard" = true)
    (k32 : PySem.W.keepIn K (.ref f32) = true)
    (a33 : PySem.W.nsIn K mainGlobals "_law_refused_right" = some (some (.ref f33)))
    (l33 : K.lookup f33 = some ⟨oc33, od33, .func (PySem.W.fnOf "_law_refused_right" "_law_refused_right" (defArgs sLwRefusedRight) (defBody sLwRefusedRight) (defScope sLwRefusedRight) .none kV33 dc33 pm33 an33 (.ref cRR) ct33), sl33⟩)
    (c33 : PySem.W.codeIn K (.ref cRR) "_law_refused_right" = true)
    (k33 : PySem.W.keepIn K (.ref f33) = true)
    (a34 : PySem.W.nsIn K mainGlobals "law" = some (some (.ref f34)))
    (l34 : K.lookup f34 = some ⟨oc34, od34, .func (PySem.W.fnOf "law" "law" (defArgs sLaw) (defBody sLaw) (defScope sLaw) .none kV34 dc34 pm34 an34 cd34 ct34), sl34⟩)
    (c34 : PySem.W.codeIn K cd34 "law" = true)
    (k34 : PySem.W.keepIn K (.ref f34) = true)
    (am0 : PySem.W.findIn K (.ref C) "__init__" = some (some (.ref fm0)))
    (im0 : PySem.W.isFn K (.ref fm0) = true)
    (lm0 : K.lookup fm0 = some ⟨ocm0, odm0, .func (PySem.W.fnOf "__init__" "Ring.__init__" (defArgs sRingInit) (defBody sRingInit) (defScope sRingInit) .none kVm0 dcm0 pmm0 anm0 cdm0 ctm0), slm0⟩)
    (cm0 : PySem.W.codeIn K cdm0 "Ring.__init__" = true)
    (km0 : PySem.W.keepIn K (.ref fm0) = true)
    (am1 : PySem.W.findIn K (.ref C) "__len__" = some (some (.ref fm1)))
    (im1 : PySem.W.isFn K (.ref fm1) = true)
    (lm1 : K.lookup fm1 = some ⟨ocm1, odm1, .func (PySem.W.fnOf "__len__" "Ring.__len__" (defArgs sRingLen) (defBody sRingLen) (defScope sRingLen) .none kVm1 dcm1 pmm1 anm1 cdm1 ctm1), slm1⟩)
    (cm1 : PySem.W.codeIn K cdm1 "Ring.__len__" = true)
    (km1 : PySem.W.keepIn K (.ref fm1) = true)
    (am2 : PySem.W.findIn K (.ref CL) "__init__" = some (some (.ref fm2)))
    (im2 : PySem.W.isFn K (.ref fm2) = true)
    (lm2 : K.lookup fm2 = some ⟨ocm2, odm2, .func (PySem.W.fnOf "__init__" "LineUp.__init__" (defArgs sLineUpInit) (defBody sLineUpInit) (defScope sLineUpInit) .none kVm2 dcm2 pmm2 anm2 cdm2 ctm2), slm2⟩)
    (cm2 : PySem.W.codeIn K cdm2 "LineUp.__init__" = true)
    (km2 : PySem.W.keepIn K (.ref fm2) = true)
    (am3 : PySem.W.findIn K (.ref eR) "__init__" = some (some (.ref fm3)))
    (im3 : PySem.W.isFn K (.ref fm3) = true)
    (lm3 : K.lookup fm3 = some ⟨ocm3, odm3, .func (PySem.W.fnOf "__init__" "BadRing.__init__" (defArgs sBadRingInit) (defBody sBadRingInit) (defScope sBadRingInit) .none kVm3 dcm3 pmm3 anm3 cdm3 ctm3), slm3⟩)
    (cm3 : PySem.W.codeIn K cdm3 "BadRing.__init__" = true)
    (km3 : PySem.W.keepIn K (.ref fm3) = true)
    (tim3 : PySem.W.typeIn K (.ref fm3) = some (.type "function"))
    (am4 : PySem.W.findIn K (.ref eL) "__init__" = some (some (.ref fm4)))
    (im4 : PySem.W.isFn K (.ref fm4) = true)
    (lm4 : K.lookup fm4 = some ⟨ocm4, odm4, .func (PySem.W.fnOf "__init__" "BadLineUp.__init__" (defArgs sBadLineUpInit) (defBody sBadLineUpInit) (defScope sBadLineUpInit) .none kVm4 dcm4 pmm4 anm4 cdm4 ctm4), slm4⟩)
    (cm4 : PySem.W.codeIn K cdm4 "BadLineUp.__init__" = true)
    (km4 : PySem.W.keepIn K (.ref fm4) = true)
    (tim4 : PySem.W.typeIn K (.ref fm4) = some (.type "function"))
    (am5 : PySem.W.findIn K (.ref eM) "__init__" = some (some (.ref fm5)))
    (im5 : PySem.W.isFn K (.ref fm5) = true)
    (lm5 : K.lookup fm5 = some ⟨ocm5, odm5, .func (PySem.W.fnOf "__init__" "Misfit.__init__" (defArgs sMisfitInit) (defBody sMisfitInit) (defScope sMisfitInit) .none kVm5 dcm5 pmm5 anm5 cdm5 ctm5), slm5⟩)
    (cm5 : PySem.W.codeIn K cdm5 "Misfit.__init__" = true)
    (km5 : PySem.W.keepIn K (.ref fm5) = true)
    (tim5 : PySem.W.typeIn K (.ref fm5) = some (.type "function"))
    (am6 : PySem.W.findIn K (.ref CL) "__str__" = some (some (.ref fm6)))
    (im6 : PySem.W.isFn K (.ref fm6) = true)
    (lm6 : K.lookup fm6 = some ⟨ocm6, odm6, .func (PySem.W.fnOf "__str__" "LineUp.__str__" (defArgs sLineUpStr) (defBody sLineUpStr) (defScope sLineUpStr) .none kVm6 dcm6 pmm6 anm6 cdm6 ctm6), slm6⟩)
    (cm6 : PySem.W.codeIn K cdm6 "LineUp.__str__" = true)
    (km6 : PySem.W.keepIn K (.ref fm6) = true)
    (am7 : PySem.W.findIn K (.ref CN) "__bool__" = some (some (.ref fm7)))
    (im7 : PySem.W.isFn K (.ref fm7) = true)
    (lm7 : K.lookup fm7 = some ⟨ocm7, odm7, .func (PySem.W.fnOf "__bool__" "Paper.__bool__" (defArgs sPaperBool) (defBody sPaperBool) (defScope sPaperBool) .none kVm7 dcm7 pmm7 anm7 cdm7 ctm7), slm7⟩)
    (cm7 : PySem.W.codeIn K cdm7 "Paper.__bool__" = true)
    (km7 : PySem.W.keepIn K (.ref fm7) = true)
    (am8 : PySem.W.findIn K (.ref CG) "__bool__" = some (some (.ref fm8)))
    (im8 : PySem.W.isFn K (.ref fm8) = true)
    (lm8 : K.lookup fm8 = some ⟨ocm8, odm8, .func (PySem.W.fnOf "__bool__" "Denial.__bool__" (defArgs sDenialBool) (defBody sDenialBool) (defScope sDenialBool) .none kVm8 dcm8 pmm8 anm8 cdm8 ctm8), slm8⟩)
    (cm8 : PySem.W.codeIn K cdm8 "Denial.__bool__" = true)
    (km8 : PySem.W.keepIn K (.ref fm8) = true)
    (rC_pg : PySem.W.plainGet K C Str.empty = true)
    (rC_hd : PySem.W.hasDictIn K C = true)
    (rC_po : PySem.W.plainOver K C = true)
    (rC_sa : PySem.W.findIn K (.ref C) "__setattr__" = some (some (.builtin "object.__setattr__")))
    (rC_mk : PySem.W.makesIn K C = true)
    (rC_kc : PySem.W.keepIn K (.ref C) = true)
    (rC_ha : PySem.W.findIn K (.ref C) "__class__" = some (some (.builtin "object.__class__")))
    (rC_hm : PySem.W.mroIn K C (.type "object") = some true)
    (rC_n_lengths : PySem.W.findIn K (.ref C) "lengths" = some none)
    (rC_n_total : PySem.W.findIn K (.ref C) "total" = some none)
    (rC_n_closes : PySem.W.findIn K (.ref C) "closes" = some none)
    (rC_n_is_clear : PySem.W.findIn K (.ref C) "is_clear" = some none)
    (rCL_pg : PySem.W.plainGet K CL Str.empty = true)
    (rCL_hd : PySem.W.hasDictIn K CL = true)
    (rCL_po : PySem.W.plainOver K CL = true)
    (rCL_sa : PySem.W.findIn K (.ref CL) "__setattr__" = some (some (.builtin "object.__setattr__")))
    (rCL_mk : PySem.W.makesIn K CL = true)
    (rCL_kc : PySem.W.keepIn K (.ref CL) = true)
    (rCL_ha : PySem.W.findIn K (.ref CL) "__class__" = some (some (.builtin "object.__class__")))
    (rCL_hm : PySem.W.mroIn K CL (.type "object") = some true)
    (rCL_n_strands : PySem.W.findIn K (.ref CL) "strands" = some none)
    (rCL_n_lots : PySem.W.findIn K (.ref CL) "lots" = some none)
    (rCL_n_many : PySem.W.findIn K (.ref CL) "many" = some none)
    (rCN_pg : PySem.W.plainGet K CN Str.empty = true)
    (rCN_hd : PySem.W.hasDictIn K CN = true)
    (rCN_po : PySem.W.plainOver K CN = true)
    (rCN_sa : PySem.W.findIn K (.ref CN) "__setattr__" = some (some (.builtin "object.__setattr__")))
    (rCN_mk : PySem.W.makesIn K CN = true)
    (rCN_kc : PySem.W.keepIn K (.ref CN) = true)
    (rCN_ha : PySem.W.findIn K (.ref CN) "__class__" = some (some (.builtin "object.__class__")))
    (rCN_hm : PySem.W.mroIn K CN (.type "object") = some true)
    (rCN_n_word : PySem.W.findIn K (.ref CN) "word" = some none)
    (rCN_n_parts : PySem.W.findIn K (.ref CN) "parts" = some none)
    (rCN_n_nets : PySem.W.findIn K (.ref CN) "nets" = some none)
    (rCG_pg : PySem.W.plainGet K CG Str.empty = true)
    (rCG_hd : PySem.W.hasDictIn K CG = true)
    (rCG_po : PySem.W.plainOver K CG = true)
    (rCG_sa : PySem.W.findIn K (.ref CG) "__setattr__" = some (some (.builtin "object.__setattr__")))
    (rCG_mk : PySem.W.makesIn K CG = true)
    (rCG_kc : PySem.W.keepIn K (.ref CG) = true)
    (rCG_ha : PySem.W.findIn K (.ref CG) "__class__" = some (some (.builtin "object.__class__")))
    (rCG_hm : PySem.W.mroIn K CG (.type "object") = some true)
    (rCG_n_word : PySem.W.findIn K (.ref CG) "word" = some none)
    (rCG_n_parts : PySem.W.findIn K (.ref CG) "parts" = some none)
    (rCG_n_lot : PySem.W.findIn K (.ref CG) "lot" = some none)
    (rCG_n_net : PySem.W.findIn K (.ref CG) "net" = some none)
    (rCG_n_others : PySem.W.findIn K (.ref CG) "others" = some none)
    (rhn : PySem.W.specialIn K (.builtin "object.__class__") "__get__" = some (some (.builtin "getset_descriptor.__get__")))
    (rht : PySem.W.takesIn K (.builtin "object.__class__") = some true)
    (kN : PySem.W.kitOne K (.type "NoneType") (.ref C) = some false)
    (kI : PySem.W.kitOne K (.type "int") (.ref C) = some false)
    (kS : PySem.W.kitOne K (.type "str") (.ref C) = some false)
    (kL : PySem.W.kitOne K (.type "list") (.ref C) = some false)
    (uN : PySem.W.kitOne K (.type "NoneType") (.ref CL) = some false)
    (uB : PySem.W.kitOne K (.type "bool") (.ref CL) = some false)
    (uS : PySem.W.kitOne K (.type "str") (.ref CL) = some false)
    (uL : PySem.W.kitOne K (.type "list") (.ref CL) = some false)
    (krl : PySem.W.kitOne K (.ref eR) (.ref eL) = some false)
    (kml : PySem.W.kitOne K (.ref eM) (.ref eL) = some false)
    (kmr : PySem.W.kitOne K (.ref eM) (.ref eR) = some false)
    (kNP : PySem.W.kitOne K (.ref CN) (.ref Pa) = some true)
    (kGD : PySem.W.kitOne K (.ref CG) (.ref Dn) = some true)
    (aPa : PySem.W.nsIn K mainGlobals "Paper" = some (some (.ref Pa)))
    (aDn : PySem.W.nsIn K mainGlobals "Denial" = some (some (.ref Dn)))
    (topS : (l.prog.main.scope.names.lookup ("super" : Str)).isSome = false)
    (thE : PySem.W.nsIn K cStatics "thirdparty.any" = some none)
    (tyP : PySem.W.typeIn K (.ref fPi) = some (.type "function"))
    (fnP : PySem.W.fnIn K fPi = true)
    (lPi : K.lookup fPi = some ⟨ocP, odP, .func (PySem.W.fnOf "__init__" "Paper.__init__" (defArgs sPaperInit) (defBody sPaperInit) (defScope sPaperInit) .none kVP dcP pmP anP cdP ctP), slP⟩)
    (cPi : PySem.W.codeIn K cdP "Paper.__init__" = true)
    (kPi : PySem.W.keepIn K (.ref fPi) = true)
    (aEiN : PySem.W.findIn K (.ref CN) "__init__" = some (some (.ref fEN)))
    (iEiN : PySem.W.isFn K (.ref fEN) = true)
    (lEiN : K.lookup fEN = some ⟨ocEN, odEN, .func (PySem.W.fnX "__init__" "Nets.__init__" (defArgs sNetsInit) (defBody sNetsInit) (defScope sNetsInit) [(("__class__" : Str), ccEN)] .none kVEN dcEN pmEN anEN (.ref cEN) ctEN), slEN⟩)
    (cEiN : PySem.W.codeIn K (.ref cEN) "Nets.__init__" = true)
    (kEiN : PySem.W.keepIn K (.ref fEN) = true)
    (loEN : K.lookup cEN = some ⟨cclEN, cddEN, .fields vsEN, ccsEN⟩)
    (vsE2N : vsEN[2]? = some (.str fileEN tfEN))
    (fiEN : ((l.prog.main.file : Str) == fileEN) = true)
    (ceEN : K.lookup ccEN = some ⟨kclEN, kcdEN, .cell (some (.ref CN)), kcsEN⟩)
    (mEEN : PySem.W.mroIn K CN (.ref CN) = some true)
    (toEN : PySem.W.ks_superIn K CN CN "__init__" = some (some (.ref fPi)))
    (aEiG : PySem.W.findIn K (.ref CG) "__init__" = some (some (.ref fEG)))
    (iEiG : PySem.W.isFn K (.ref fEG) = true)
    (lEiG : K.lookup fEG = some ⟨ocEG, odEG, .func (PySem.W.fnX "__init__" "TooGreat.__init__" (defArgs sTooGreatInit) (defBody sTooGreatInit) (defScope sTooGreatInit) [(("__class__" : Str), ccEG)] .none kVEG dcEG pmEG anEG (.ref cEG) ctEG), slEG⟩)
    (cEiG : PySem.W.codeIn K (.ref cEG) "TooGreat.__init__" = true)
    (kEiG : PySem.W.keepIn K (.ref fEG) = true)
    (loEG : K.lookup cEG = some ⟨cclEG, cddEG, .fields vsEG, ccsEG⟩)
    (vsE2G : vsEG[2]? = some (.str fileEG tfEG))
    (fiEG : ((l.prog.main.file : Str) == fileEG) = true)
    (ceEG : K.lookup ccEG = some ⟨kclEG, kcdEG, .cell (some (.ref CG)), kcsEG⟩)
    (mEEG : PySem.W.mroIn K CG (.ref CG) = some true)
    (toEG : PySem.W.ks_superIn K CG CG "__init__" = some (some (.ref fPi)))
    (z_int : PySem.W.nsIn K mainGlobals "int" = some none)
    (z_len : PySem.W.nsIn K mainGlobals "len" = some none)
    (z_abs : PySem.W.nsIn K mainGlobals "abs" = some none)
    (z_list : PySem.W.nsIn K mainGlobals "list" = some none)
    (z_tuple : PySem.W.nsIn K mainGlobals "tuple" = some none)
    (z_bool : PySem.W.nsIn K mainGlobals "bool" = some none)
    (z_range : PySem.W.nsIn K mainGlobals "range" = some none)
    (z_sum : PySem.W.nsIn K mainGlobals "sum" = some none)
    (z_max : PySem.W.nsIn K mainGlobals "max" = some none)
    (z_all : PySem.W.nsIn K mainGlobals "all" = some none)
    (z_any : PySem.W.nsIn K mainGlobals "any" = some none)
    (z_sorted : PySem.W.nsIn K mainGlobals "sorted" = some none)
    (z_enumerate : PySem.W.nsIn K mainGlobals "enumerate" = some none)
    (z_isinstance : PySem.W.nsIn K mainGlobals "isinstance" = some none)
    (z_super : PySem.W.nsIn K mainGlobals "super" = some none)
    (z_str : PySem.W.nsIn K mainGlobals "str" = some none)
    (g_MOST_LENGTH : PySem.W.nsIn K mainGlobals "MOST_LENGTH" = some (some (.int 1000000 tkMOST_LENGTH)))
    (g_LEAST_BARS : PySem.W.nsIn K mainGlobals "LEAST_BARS" = some (some (.int 3 tkLEAST_BARS)))
    (g_MOST_BARS : PySem.W.nsIn K mainGlobals "MOST_BARS" = some (some (.int 8 tkMOST_BARS)))
    (xeR : K.lookup eR = some (excClassObj nmeR qqeR eR NeR bseR bmeR true sneR subeR abeR coleR ddeR k0eR k1eR k2eR k3eR k5eR "ValueError.__new__"))
    (rveR : PySem.HandSPX.refsVE bmeR = true)
    (saeR : PySem.W.findIn K (.ref eR) "__setattr__" = some (some (.builtin "object.__setattr__")))
    (eCeR : PySem.W.subIn K (.ref eR) (.type "BaseException") = some true)
    (tCeR : PySem.W.typeIn K (.ref eR) = some (.type "type"))
    (kCeR : PySem.W.keepIn K (.ref eR) = true)
    (nfeRpart : PySem.W.findIn K (.ref eR) "part" = some none)
    (gaeR : PySem.W.findIn K (.ref eR) "__getattribute__" = some (some (.builtin "BaseException.__getattribute__")))
    (ggeR : PySem.W.findIn K (.ref eR) "__getattr__" = some none)
    (hdeR : PySem.W.hasDictIn K eR = true)
    (haeR : PySem.W.findIn K (.ref eR) "__class__" = some (some (.builtin "object.__class__")))
    (hmeR : PySem.W.mroIn K eR (.type "object") = some true)
    (sbeR : PySem.W.subIn K (.ref eR) (.ref eX) = some true)
    (xeL : K.lookup eL = some (excClassObj nmeL qqeL eL NeL bseL bmeL true sneL subeL abeL coleL ddeL k0eL k1eL k2eL k3eL k5eL "ValueError.__new__"))
    (rveL : PySem.HandSPX.refsVE bmeL = true)
    (saeL : PySem.W.findIn K (.ref eL) "__setattr__" = some (some (.builtin "object.__setattr__")))
    (eCeL : PySem.W.subIn K (.ref eL) (.type "BaseException") = some true)
    (tCeL : PySem.W.typeIn K (.ref eL) = some (.type "type"))
    (kCeL : PySem.W.keepIn K (.ref eL) = true)
    (nfeLpart : PySem.W.findIn K (.ref eL) "part" = some none)
    (gaeL : PySem.W.findIn K (.ref eL) "__getattribute__" = some (some (.builtin "BaseException.__getattribute__")))
    (ggeL : PySem.W.findIn K (.ref eL) "__getattr__" = some none)
    (hdeL : PySem.W.hasDictIn K eL = true)
    (haeL : PySem.W.findIn K (.ref eL) "__class__" = some (some (.builtin "object.__class__")))
    (hmeL : PySem.W.mroIn K eL (.type "object") = some true)
    (sbeL : PySem.W.subIn K (.ref eL) (.ref eX) = some true)
    (xeM : K.lookup eM = some (excClassObj nmeM qqeM eM NeM bseM bmeM true sneM subeM abeM coleM ddeM k0eM k1eM k2eM k3eM k5eM "ValueError.__new__"))
    (rveM : PySem.HandSPX.refsVE bmeM = true)
    (saeM : PySem.W.findIn K (.ref eM) "__setattr__" = some (some (.builtin "object.__setattr__")))
    (eCeM : PySem.W.subIn K (.ref eM) (.type "BaseException") = some true)
    (tCeM : PySem.W.typeIn K (.ref eM) = some (.type "type"))
    (kCeM : PySem.W.keepIn K (.ref eM) = true)
    (nfeMpart : PySem.W.findIn K (.ref eM) "part" = some none)
    (gaeM : PySem.W.findIn K (.ref eM) "__getattribute__" = some (some (.builtin "BaseException.__getattribute__")))
    (ggeM : PySem.W.findIn K (.ref eM) "__getattr__" = some none)
    (hdeM : PySem.W.hasDictIn K eM = true)
    (haeM : PySem.W.findIn K (.ref eM) "__class__" = some (some (.builtin "object.__class__")))
    (hmeM : PySem.W.mroIn K eM (.type "object") = some true)
    (sbeM : PySem.W.subIn K (.ref eM) (.ref eX) = some true)
    (eCeX : PySem.W.subIn K (.ref eX) (.type "BaseException") = some true)
    (hdeX : PySem.W.hasDictIn K eX = true)
    (tCeX : PySem.W.typeIn K (.ref eX) = some (.type "type"))
    (lc1 : K.lookup cRR = some ⟨.type "code", odc1, .fields vsc1, slc1⟩)
    (hdc1 : PySem.W.codeHdIn [(cRR, ⟨.type "code", odc1, .fields vsc1, slc1⟩)] cRR P1 = true)
    (nT1 : K.lookup P1 = none)
    (hT1 : h.get? P1 = some { cls := .none, data := .fields #[] }) :
    LawAtS l w K CX0 11 63 "_law_script" mg fa h := by
  have e := hfa.symm.trans (PySem.W.mg_of X G a34)
  cases e
  have gl : ∀ {x : Str} {v : Value}, PySem.W.nsIn K mainGlobals x = some (some v) → mg x = some v := fun q => PySem.W.mg_of X G q
  have T : Bi mg := ⟨PySem.W.mg_none_of X G z_int, PySem.W.mg_none_of X G z_len, PySem.W.mg_none_of X G z_abs, PySem.W.mg_none_of X G z_list, PySem.W.mg_none_of X G z_tuple, PySem.W.mg_none_of X G z_bool, PySem.W.mg_none_of X G z_range, PySem.W.mg_none_of X G z_sum, PySem.W.mg_none_of X G z_max, PySem.W.mg_none_of X G z_all, PySem.W.mg_none_of X G z_any, PySem.W.mg_none_of X G z_sorted, PySem.W.mg_none_of X G z_enumerate, PySem.W.mg_none_of X G z_isinstance⟩
  have N : Nm mg := ⟨⟨_, gl g_MOST_LENGTH⟩, ⟨_, gl g_LEAST_BARS⟩, ⟨_, gl g_MOST_BARS⟩⟩
  have Ts : mg "str" = none := PySem.W.mg_none_of X G z_str
  have R : RingC K mg C := ⟨⟨rC_pg, rC_hd, rC_po, rC_sa⟩, rC_n_lengths, rC_n_total, rC_n_closes, rC_n_is_clear, gl aC, rC_ha, rhn, rht, rC_hm⟩
  have RL : LineC K mg CL := ⟨⟨rCL_pg, rCL_hd, rCL_po, rCL_sa⟩, rCL_n_strands, rCL_n_lots, rCL_n_many, gl aCL⟩
  have clN : Cls K CN := ⟨rCN_pg, rCN_hd, rCN_po, rCN_sa⟩
  have clG : Cls K CG := ⟨rCG_pg, rCG_hd, rCG_po, rCG_sa⟩
  have clL : Cls K CL := ⟨rCL_pg, rCL_hd, rCL_po, rCL_sa⟩
  have RN : NetsC K mg CN := ⟨⟨clN, rCN_n_word, rCN_n_parts⟩, rCN_n_nets, gl aCN⟩
  have TGC : TooGreatC K mg CG := ⟨⟨clG, rCG_n_word, rCG_n_parts⟩, rCG_n_lot, rCG_n_net, rCG_n_others, gl aCG⟩
  have EN : C8.InsC K CN := ⟨clN, rCN_ha, rhn, rht, rCN_hm, kit_self⟩
  have EG : C8.InsC K CG := ⟨clG, rCG_ha, rhn, rht, rCG_hm, kit_self⟩
  have EL : C8.InsC K CL := ⟨clL, rCL_ha, rhn, rht, rCL_hm, kit_self⟩
  have KN : Knows K mg CN CG Pa Dn := ⟨EN, EG, gl aPa, gl aDn, kNP, kGD⟩
  have KT : KitT K C := ⟨kN, kI, kS, kL⟩
  have KU : KitU K CL := ⟨uN, uB, uS, uL⟩
  have oeR : OexC K eR := ⟨⟨_, _, _, _, _, _, _, _, _, _, _, _, _, _, _, xeR, rveR⟩, saeR, eCeR, tCeR, kCeR⟩
  have oeL : OexC K eL := ⟨⟨_, _, _, _, _, _, _, _, _, _, _, _, _, _, _, xeL, rveL⟩, saeL, eCeL, tCeL, kCeL⟩
  have oeM : OexC K eM := ⟨⟨_, _, _, _, _, _, _, _, _, _, _, _, _, _, _, xeM, rveM⟩, saeM, eCeM, tCeM, kCeM⟩
  have Hc : HeardC K mg ⟨eL, eR, eM⟩ eX := ⟨gl aeX, gl aeL, ⟨gaeL, ggeL, eCeL, hdeL, haeL, rhn, rht, hmeL⟩, ⟨gaeL, ggeL, eCeL, hdeL⟩, PySem.W.exm_ref eCeX hdeX tCeX sbeL, nfeLpart, gl aeR, ⟨gaeR, ggeR, eCeR, hdeR, haeR, rhn, rht, hmeR⟩, ⟨gaeR, ggeR, eCeR, hdeR⟩, PySem.W.exm_ref eCeX hdeX tCeX sbeR, nfeRpart, gl aeM, ⟨gaeM, ggeM, eCeM, hdeM, haeM, rhn, rht, hmeM⟩, ⟨gaeM, ggeM, eCeM, hdeM⟩, PySem.W.exm_ref eCeX hdeX tCeX sbeM, nfeMpart, krl, kml, kmr⟩
  have F0 := fun_mk (st := sIsInteger) l0 c0 k0
  have b0 := F0.binds (ps := ["value"]) fun _ _ _ _ _ _ us hl => match us, hl with | [_], _ => rfl
  have F1 := fun_mk (st := sIsWithin) l1 c1 k1
  have b1 := F1.binds (ps := ["value", "least", "most"]) fun _ _ _ _ _ _ us hl => match us, hl with | [_, _, _], _ => rfl
  have F2 := fun_mk (st := sIsList) l2 c2 k2
  have b2 := F2.binds (ps := ["value"]) fun _ _ _ _ _ _ us hl => match us, hl with | [_], _ => rfl
  have F3 := fun_mk (st := sIsNumbers) l3 c3 k3
  have b3 := F3.binds (ps := ["value"]) fun _ _ _ _ _ _ us hl => match us, hl with | [_], _ => rfl
  have F4 := fun_mk (st := sFixed) l4 c4 k4
  have b4 := F4.binds (ps := ["value"]) fun _ _ _ _ _ _ us hl => match us, hl with | [_], _ => rfl
  have F5 := fun_mk (st := sAreLengths) l5 c5 k5
  have b5 := F5.binds (ps := ["value"]) fun _ _ _ _ _ _ us hl => match us, hl with | [_], _ => rfl
  have F6 := fun_mk (st := sHasLevel) l6 c6 k6
  have b6 := F6.binds (ps := ["lengths"]) fun _ _ _ _ _ _ us hl => match us, hl with | [_], _ => rfl
  have F7 := fun_mk (st := sWantRing) l7 c7 k7
  have b7 := F7.binds (ps := ["value", "part"]) fun _ _ _ _ _ _ us hl => match us, hl with | [_, _], _ => rfl
  have F8 := fun_mk (st := sWantAsMany) l8 c8 k8
  have b8 := F8.binds (ps := ["one", "other"]) fun _ _ _ _ _ _ us hl => match us, hl with | [_, _], _ => rfl
  have F9 := fun_mk (st := sWantLineup) l9 c9 k9
  have b9 := F9.binds (ps := ["value", "part"]) fun _ _ _ _ _ _ us hl => match us, hl with | [_, _], _ => rfl
  have F10 := fun_mk (st := sWantLined) l10 c10 k10
  have b10 := F10.binds (ps := ["ring", "lineup"]) fun _ _ _ _ _ _ us hl => match us, hl with | [_, _], _ => rfl
  have F11 := fun_mk (st := sAreStrands) l11 c11 k11
  have b11 := F11.binds (ps := ["value"]) fun _ _ _ _ _ _ us hl => match us, hl with | [_], _ => rfl
  have F12 := fun_mk (st := sIsStrand) l12 c12 k12
  have b12 := F12.binds (ps := ["value"]) fun _ _ _ _ _ _ us hl => match us, hl with | [_], _ => rfl
  have F13 := fun_mk (st := sAsStrand) l13 c13 k13
  have b13 := F13.binds (ps := ["pairs"]) fun _ _ _ _ _ _ us hl => match us, hl with | [_], _ => rfl
  have F14 := fun_mk (st := sLineupItems) l14 c14 k14
  have b14 := F14.binds (ps := ["lineup"]) fun _ _ _ _ _ _ us hl => match us, hl with | [_], _ => rfl
  have F15 := fun_mk (st := sItemOf) l15 c15 k15
  have b15 := F15.binds (ps := ["bar", "sign"]) fun _ _ _ _ _ _ us hl => match us, hl with | [_, _], _ => rfl
  have F16 := fun_mk (st := sNetsOf) l16 c16 k16
  have b16 := F16.binds (ps := ["ring", "lineup"]) fun _ _ _ _ _ _ us hl => match us, hl with | [_, _], _ => rfl
  have F17 := fun_mk (st := sTooGreat) l17 c17 k17
  have b17 := F17.binds (ps := ["nets"]) fun _ _ _ _ _ _ us hl => match us, hl with | [_], _ => rfl
  have F18 := fun_mk (st := sCanLine) l18 c18 k18
  have b18 := F18.binds (ps := ["ring", "lineup"]) fun _ _ _ _ _ _ us hl => match us, hl with | [_, _], _ => rfl
  have F19 := fun_mk (st := sLwBench) l19 c19 k19
  have b19 := F19.binds (ps := ["_law_script"]) fun _ _ _ _ _ _ us hl => match us, hl with | [_], _ => rfl
  have F20 := fun_mk (st := sLwDraw) l20 c20 k20
  have b20 := F20.binds (ps := ["_law_bench_here", "_law_many"]) fun _ _ _ _ _ _ us hl => match us, hl with | [_, _], _ => rfl
  have F21 := fun_mk (st := sLwPick) l21 c21 k21
  have b21 := F21.binds (ps := ["_law_bench_here", "_law_some"]) fun _ _ _ _ _ _ us hl => match us, hl with | [_, _], _ => rfl
  have F22 := fun_mk (st := sLwMixed) l22 c22 k22
  have b22 := F22.binds (ps := ["_law_bench_here", "_law_some"]) fun _ _ _ _ _ _ us hl => match us, hl with | [_, _], _ => rfl
  have F23 := fun_mk (st := sLwLengths) l23 c23 k23
  have b23 := F23.binds (ps := ["_law_bench_here", "_law_many"]) fun _ _ _ _ _ _ us hl => match us, hl with | [_, _], _ => rfl
  have F24 := fun_mk (st := sLwStrands) l24 c24 k24
  have b24 := F24.binds (ps := ["_law_bench_here", "_law_many"]) fun _ _ _ _ _ _ us hl => match us, hl with | [_, _], _ => rfl
  have F25 := fun_mk (st := sLwRight) l25 c25 k25
  have b25 := F25.binds (ps := ["_law_strands_here"]) fun _ _ _ _ _ _ us hl => match us, hl with | [_], _ => rfl
  have F26 := fun_mk (st := sLwNets) l26 c26 k26
  have b26 := F26.binds (ps := ["_law_lengths_here", "_law_strands_here"]) fun _ _ _ _ _ _ us hl => match us, hl with | [_, _], _ => rfl
  have F27 := fun_mk (st := sLwIsHome) l27 c27 k27
  have b27 := F27.binds (ps := ["_law_nets_here"]) fun _ _ _ _ _ _ us hl => match us, hl with | [_], _ => rfl
  have F28 := fun_mk (st := sLwPaperRight) l28 c28 k28
  have b28 := F28.binds (ps := ["_law_lengths_here", "_law_strands_here"]) fun _ _ _ _ _ _ us hl => match us, hl with | [_, _], _ => rfl
  have F29 := fun_mk (st := sLwParted) l29 c29 k29
  have b29 := F29.binds (ps := ["_law_bench_here", "_law_strands_here"]) fun _ _ _ _ _ _ us hl => match us, hl with | [_, _], _ => rfl
  have F30 := fun_mk (st := sLwPulled) l30 c30 k30
  have b30 := F30.binds (ps := ["_law_bench_here", "_law_lengths_here", "_law_strands_here"]) fun _ _ _ _ _ _ us hl => match us, hl with | [_, _, _], _ => rfl
  have F31 := fun_mk (st := sLwRenumberedRight) l31 c31 k31
  have b31 := F31.binds (ps := ["_law_bench_here", "_law_lengths_here", "_law_strands_here"]) fun _ _ _ _ _ _ us hl => match us, hl with | [_, _, _], _ => rfl
  have F32 := fun_mk (st := sLwHeard) l32 c32 k32
  have b32 := F32.binds (ps := ["_law_ask"]) fun _ _ _ _ _ _ us hl => match us, hl with | [_], _ => rfl
  have F33 : FunC K "_law_refused_right" "_law_refused_right" sLwRefusedRight f33 _ cRR := ⟨⟨_, _, _, _, _, _, _, _, rfl, l33, c33⟩⟩
  have F330 := fun_mk (st := sLwRefusedRight) l33 c33 k33
  have b33 := F330.binds (ps := ["_law_bench_here", "_law_lengths_here", "_law_strands_here"]) fun _ _ _ _ _ _ us hl => match us, hl with | [_, _, _], _ => rfl
  have F34 := fun_mk (st := sLaw) l34 c34 k34
  have b34 := F34.binds (ps := ["_law_script"]) fun _ _ _ _ _ _ us hl => match us, hl with | [_], _ => rfl
  have Fm0 := fun_mk (st := sRingInit) lm0 cm0 km0
  have bm0 := Fm0.binds (ps := ["self", "lengths"]) fun _ _ _ _ _ _ us hl => match us, hl with | [_, _], _ => rfl
  have Fm1 := fun_mk (st := sRingLen) lm1 cm1 km1
  have bm1 := Fm1.binds (ps := ["self"]) fun _ _ _ _ _ _ us hl => match us, hl with | [_], _ => rfl
  have Fm2 := fun_mk (st := sLineUpInit) lm2 cm2 km2
  have bm2 := Fm2.binds (ps := ["self", "strands"]) fun _ _ _ _ _ _ us hl => match us, hl with | [_, _], _ => rfl
  have Fm3 := fun_mk (st := sBadRingInit) lm3 cm3 km3
  have bm3 := Fm3.binds (ps := ["self", "part"]) fun _ _ _ _ _ _ us hl => match us, hl with | [_, _], _ => rfl
  have Fm4 := fun_mk (st := sBadLineUpInit) lm4 cm4 km4
  have bm4 := Fm4.binds (ps := ["self", "part"]) fun _ _ _ _ _ _ us hl => match us, hl with | [_, _], _ => rfl
  have Fm5 := fun_mk (st := sMisfitInit) lm5 cm5 km5
  have bm5 := Fm5.binds (ps := ["self", "part"]) fun _ _ _ _ _ _ us hl => match us, hl with | [_, _], _ => rfl
  have Fm6 := fun_mk (st := sLineUpStr) lm6 cm6 km6
  have bm6 := Fm6.binds (ps := ["self"]) fun _ _ _ _ _ _ us hl => match us, hl with | [_], _ => rfl
  have Fm7 := fun_mk (st := sPaperBool) lm7 cm7 km7
  have bm7 := Fm7.binds (ps := ["self"]) fun _ _ _ _ _ _ us hl => match us, hl with | [_], _ => rfl
  have Fm8 := fun_mk (st := sDenialBool) lm8 cm8 km8
  have bm8 := Fm8.binds (ps := ["self"]) fun _ _ _ _ _ _ us hl => match us, hl with | [_], _ => rfl
  refine ⟨PySem.W.fnOf "law" "law" (defArgs sLaw) (defBody sLaw) (defScope sLaw) .none kV34 dc34 pm34 an34 cd34 ct34, [(cRR, P1)], spLaw K P1, fun p hp => ?_, fun p hp => ?_, fun p hp => ?_, fun s v => .of_eq rfl, fun H a ns hl _ hT' hs => ?_, fun base KB GB TB => ?_⟩
  · rw [List.mem_singleton.mp hp]; exact hT1
  · rw [List.mem_singleton.mp hp]; exact nT1
  · rw [List.mem_singleton.mp hp]; exact PySem.W.codeHd_of_K X (code_hd lc1 hdc1)
  · refine ⟨a, ns, rfl, hs, by omega, fun p hp => ?_, fun _ => rfl⟩
    rw [List.mem_singleton.mp hp]; exact TabS.nil (hT' _ (List.mem_singleton.mpr rfl))
  · have tb1 := TB _ (List.mem_singleton.mpr rfl)
    have hm1 : (P1, qRf) ∈ T1 P1 := List.mem_singleton.mpr rfl
    have hu1 : ∀ p ∈ T1 P1, p.1 = P1 → p.2 = qRf := fun p hp _ => by rw [List.mem_singleton.mp hp]
    have dInt := (⟨ok_isInt F0 T, gl a0, k0, b0⟩ : DefAt l.prog w K mg base _ _ "is_integer" _ _ _ _)
    have dList := (⟨ok_isList F2 T, gl a2, k2, b2⟩ : DefAt l.prog w K mg base _ _ "is_list" _ _ _ _)
    have dWith := (⟨ok_within F1 dInt, gl a1, k1, b1⟩ : DefAt l.prog w K mg base _ _ "is_within" _ _ _ _)
    have dNT := (⟨ok_numsT F3 T dInt dList, gl a3, k3, b3⟩ : DefAt l.prog w K mg base _ _ "is_numbers" _ _ _ _)
    have eR' : ErrAt l.prog w K mg base "BadRing" "part" eR fm3 _ := ⟨oeR, am3, tim3, nfeRpart, gl aeR, bm3, ok_badRingI Fm3⟩
    have eL' : ErrAt l.prog w K mg base "BadLineUp" "part" eL fm4 _ := ⟨oeL, am4, tim4, nfeLpart, gl aeL, bm4, ok_badLineUpI Fm4⟩
    have eM' : ErrAt l.prog w K mg base "Misfit" "part" eM fm5 _ := ⟨oeM, am5, tim5, nfeMpart, gl aeM, bm5, ok_misfitI Fm5⟩
    have dF2 := at_fz (P := l.prog) (w := w) (base := base) F4 T (gl a4) k4 b4 2
    have dAL := (⟨ok_areL F5 T N dWith dList, gl a5, k5, b5⟩ : DefAt l.prog w K mg base _ _ "are_lengths" _ _ _ _)
    have dHL := (⟨ok_hasL F6 T, gl a6, k6, b6⟩ : DefAt l.prog w K mg base _ _ "has_level" _ _ _ _)
    have Gp : RingP l.prog w K mg base C fm0 _ := ⟨⟨rC_mk, am0, im0, rC_kc⟩, ok_ri (P := l.prog) (w := w) (base := base) Fm0 T N R dAL dHL, bm0⟩
    have NL := ok_rlen (P := l.prog) (w := w) (base := base) Fm1 T R
    have dWR := (⟨ok_wantR F7 T R eR', gl a7, k7, b7⟩ : DefAt l.prog w K mg base _ _ "want_ring" _ _ _ _)
    have dIS := (⟨ok_is F12 T dList dNT, gl a12, k12, b12⟩ : DefAt l.prog w K mg base _ _ "is_strand" _ _ _ _)
    have dASs := (⟨ok_asS F13 T, gl a13, k13, b13⟩ : DefAt l.prog w K mg base _ _ "as_strand" _ _ _ _)
    have dAre := (⟨ok_are F11 T N dList dIS, gl a11, k11, b11⟩ : DefAt l.prog w K mg base _ _ "are_strands" _ _ _ _)
    have Lp : LineP l.prog w K mg base CL fm2 _ := ⟨⟨rCL_mk, am2, im2, rCL_kc⟩, ok_lu (P := l.prog) (w := w) (base := base) Fm2 T RL dAre dASs dF2, bm2⟩
    have dWM := (⟨ok_asM F8 eM', gl a8, k8, b8⟩ : DefAt l.prog w K mg base _ _ "want_as_many" _ _ _ _)
    have dWU := (⟨ok_wantU F9 T (gl aCL) EL eL', gl a9, k9, b9⟩ : DefAt l.prog w K mg base _ _ "want_lineup" _ _ _ _)
    have dWL := (⟨ok_wld F10 T RL ⟨am1, im1, km1⟩ NL bm1 dWR dWU dWM, gl a10, k10, b10⟩ : DefAt l.prog w K mg base _ _ "want_lined" _ _ _ _)
    have dNe := (⟨ok_nets F16 T R RL, gl a16, k16, b16⟩ : DefAt l.prog w K mg base _ _ "nets_of" _ _ _ _)
    have dTG := (⟨ok_tg F17 T, gl a17, k17, b17⟩ : DefAt l.prog w K mg base _ _ "too_great" _ _ _ _)
    have FPi := fun_mk (st := sPaperInit) lPi cPi kPi
    have PI1 := ok_pi (P := l.prog) (w := w) (mg := mg) (base := base) (n := 1) FPi dF2
    have FEiN : FunS K "__init__" "Nets.__init__" sNetsInit fEN cEN ccEN _ := ⟨⟨_, _, _, _, _, _, _, _, rfl, lEiN, cEiN⟩, kEiN⟩
    have bEiN := FEiN.binds (ps := ["self", "nets"]) fun _ _ _ _ _ us hl => match us, hl with | [_, _], _ => rfl
    have SAN : SupAt l.prog K mg (nfS sNetsInit "__init__" "Nets.__init__" ccEN cEN) fEN CN ccEN := ⟨rfl, ⟨_, rfl, rfl⟩, ⟨_, _, _, _, _, _, loEN, vsE2N, fiEN⟩, ⟨_, _, _, ceEN⟩, (let ⟨cd, hc, _⟩ := PySem.W.any_some clN.hd; ⟨cd, hc⟩), PySem.W.mg_none_of X G z_super, topS, show (defScope sNetsInit).names.lookup ("super" : Str) = some .globalImplicit by decide +kernel⟩
    have STN : SupTo K CN CN fPi := ⟨mEEN, thE, toEN, tyP, fnP⟩
    have FEiG : FunS K "__init__" "TooGreat.__init__" sTooGreatInit fEG cEG ccEG _ := ⟨⟨_, _, _, _, _, _, _, _, rfl, lEiG, cEiG⟩, kEiG⟩
    have bEiG := FEiG.binds (ps := ["self", "lot", "net", "others"]) fun _ _ _ _ _ us hl => match us, hl with | [_, _, _, _], _ => rfl
    have SAG : SupAt l.prog K mg (nfS sTooGreatInit "__init__" "TooGreat.__init__" ccEG cEG) fEG CG ccEG := ⟨rfl, ⟨_, rfl, rfl⟩, ⟨_, _, _, _, _, _, loEG, vsE2G, fiEG⟩, ⟨_, _, _, ceEG⟩, (let ⟨cd, hc, _⟩ := PySem.W.any_some clG.hd; ⟨cd, hc⟩), PySem.W.mg_none_of X G z_super, topS, show (defScope sTooGreatInit).names.lookup ("super" : Str) = some .globalImplicit by decide +kernel⟩
    have STG : SupTo K CG CG fPi := ⟨mEEG, thE, toEG, tyP, fnP⟩
    have NP : NetsP l.prog w K mg base CN fEN _ := ⟨⟨rCN_mk, aEiN, iEiN, rCN_kc⟩, ok_ni (P := l.prog) (w := w) (base := base) (n := 1) FEiN SAN RN STN PI1, bEiN⟩
    have GP : TooGreatP l.prog w K mg base CG fEG _ := ⟨⟨rCG_mk, aEiG, iEiG, rCG_kc⟩, ok_gi (P := l.prog) (w := w) (base := base) (n := 1) FEiG SAG TGC STG PI1, bEiG⟩
    have dCL := (⟨ok_cl F18 T RL RN TGC NP GP dWL dNe dTG, gl a18, k18, b18⟩ : DefAt l.prog w K mg base _ _ "can_line" _ _ _ _)
    have dCLc := (⟨ok_clc dCL.ok, gl a18, k18, b18⟩ : DefAt l.prog w K mg base _ _ "can_line" _ _ _ _)
    have kb1 : KBinds K _ ["ring", "lineup"] ["lineup", "ring"] gK2 gK2 := kb_lr (fun a b s => .of_eq rfl) (fd := PySem.W.fnOf "can_line" "can_line" (defArgs sCanLine) (defBody sCanLine) (defScope sCanLine) .none kV18 dc18 pm18 an18 cd18 ct18)
    have BN : PapB l.prog w K mg base CN fm7 _ true := ⟨ok_PBT Fm7, bm7, am7, im7⟩
    have BG : PapB l.prog w K mg base CG fm8 _ false := ⟨ok_PBF Fm8, bm8, am8, im8⟩
    have dDr : DrawAt l.prog w K mg base _ _ := ⟨ok_draw F20 T, gl a20, k20, b20⟩
    have dPn := (⟨ok_pen F19 T, gl a19, k19, b19⟩ : DefAt l.prog w K mg base _ _ "_law_bench" _ _ _ _)
    have dPk := (⟨ok_pick F21 T dDr, gl a21, k21, b21⟩ : DefAt l.prog w K mg base _ _ "_law_pick" _ _ _ _)
    have dMx := (⟨ok_mixed F22 T dDr, gl a22, k22, b22⟩ : DefAt l.prog w K mg base _ _ "_law_mixed" _ _ _ _)
    have dLn := (⟨ok_lengths F23 T dDr, gl a23, k23, b23⟩ : DefAt l.prog w K mg base _ _ "_law_lengths" _ _ _ _)
    have dSD := (⟨ok_sd F24 T dDr dPk, gl a24, k24, b24⟩ : DefAt l.prog w K mg base _ _ "_law_strands" _ _ _ _)
    have dRT := (⟨ok_rt F25 T, gl a25, k25, b25⟩ : DefAt l.prog w K mg base _ _ "_law_right" _ _ _ _)
    have dNTT := (⟨ok_ntT F26 T, gl a26, k26, b26⟩ : DefAt l.prog w K mg base _ _ "_law_nets" _ _ _ _)
    have dNTL := (⟨ok_ntL F26 T, gl a26, k26, b26⟩ : DefAt l.prog w K mg base _ _ "_law_nets" _ _ _ _)
    have dHM := (⟨ok_hm F27 T, gl a27, k27, b27⟩ : DefAt l.prog w K mg base _ _ "_law_is_home" _ _ _ _)
    have dPR := (⟨ok_pr F28 T Gp R Lp RL RN TGC KN BN BG dRT dNTT dHM dCLc, gl a28, k28, b28⟩ : DefAt l.prog w K mg base _ _ "_law_paper_right" _ _ _ _)
    have dPA := (⟨ok_pa F29 T dDr dMx, gl a29, k29, b29⟩ : DefAt l.prog w K mg base _ _ "_law_parted" _ _ _ _)
    have dPU := (⟨ok_pu F30 T dDr dPk dNTL, gl a30, k30, b30⟩ : DefAt l.prog w K mg base _ _ "_law_pulled" _ _ _ _)
    have dRR := (⟨ok_rr F31 T Gp R Lp RL RN TGC dMx dCLc kb1, gl a31, k31, b31⟩ : DefAt l.prog w K mg base _ _ "_law_renumbered_right" _ _ _ _)
    have dItO := (⟨ok_itO F15 Ts, gl a15, k15, b15⟩ : DefAt l.prog w K mg base _ _ "item_of" _ _ _ _)
    have dLI := (⟨ok_li F14 T RL dItO, gl a14, k14, b14⟩ : DefAt l.prog w K mg base _ _ "lineup_items" _ _ _ _)
    have dRF := (⟨ok_rf (hc := ⟨eL, eR, eM⟩) F33 T Ts Gp R KT Lp RL KU (ok_strU (P := l.prog) (w := w) (mg := mg) (base := base) Fm6 dLI) bm6 am6 im6 dCL dPk Hc tb1 hm1 hu1 F32 b32 (gl a32), gl a33, k33, b33⟩ : DefAt l.prog w K mg base _ _ "_law_refused_right" _ _ _ _)
    exact ok_law F34 T Gp R Lp RL BN BG dPn dLn dPk dSD dPU dPR dRR dPA dRF dCLc
end K
open PySem PySem.W PyProof.Rows in
set_option maxRecDepth 100000 in
set_option maxHeartbeats 0 in
theorem PySem.Challenge.cw_ringbars_k50_whole_lineups_by_nets_holds : PySem.Challenge.rw_ringbars_k50_whole_lineups_by_nets.Holds := by
  w_on; o_law; k_head; (case hw => w_witness2)
  k_fill
  refine LamX.walk_ofTs (l := PySem.Challenge.rw_ringbars_k50_whole_lineups_by_nets) (n := 63) (k := 11) (x := "_law_script") (CX := fun _ => L2.CX0) rfl (by decide) rfl ⟨rfl, by decide, by decide⟩ (fun w h Y => PySem.W.km_in_of Y) ?F (fun _ _ _ _ _ z => z)
  case F =>
    intro w mg fa h Y KX G hmg
    refine' K.all_mk KX G hmg ?aC ?aCL ?aCN ?aCG ?aeX ?aeR ?aeL ?aeM ?a0 ?l0 ?c0 ?k0 ?a1 ?l1 ?c1 ?k1 ?a2 ?l2 ?c2 ?k2 ?a3 ?l3 ?c3 ?k3 ?a4 ?l4 ?c4 ?k4 ?a5 ?l5 ?c5 ?k5 ?a6 ?l6 ?c6 ?k6 ?a7 ?l7 ?c7 ?k7 ?a8 ?l8 ?c8 ?k8 ?a9 ?l9 ?c9 ?k9 ?a10 ?l10 ?c10 ?k10 ?a11 ?l11 ?c11 ?k11 ?a12 ?l12 ?c12 ?k12 ?a13 ?l13 ?c13 ?k13 ?a14 ?l14 ?c14 ?k14 ?a15 ?l15 ?c15 ?k15 ?a16 ?l16 ?c16 ?k16 ?a17 ?l17 ?c17 ?k17 ?a18 ?l18 ?c18 ?k18 ?a19 ?l19 ?c19 ?k19 ?a20 ?l20 ?c20 ?k20 ?a21 ?l21 ?c21 ?k21 ?a22 ?l22 ?c22 ?k22 ?a23 ?l23 ?c23 ?k23 ?a24 ?l24 ?c24 ?k24 ?a25 ?l25 ?c25 ?k25 ?a26 ?l26 ?c26 ?k26 ?a27 ?l27 ?c27 ?k27 ?a28 ?l28 ?c28 ?k28 ?a29 ?l29 ?c29 ?k29 ?a30 ?l30 ?c30 ?k30 ?a31 ?l31 ?c31 ?k31 ?a32 ?l32 ?c32 ?k32 ?a33 ?l33 ?c33 ?k33 ?a34 ?l34 ?c34 ?k34 ?am0 ?im0 ?lm0 ?cm0 ?km0 ?am1 ?im1 ?lm1 ?cm1 ?km1 ?am2 ?im2 ?lm2 ?cm2 ?km2 ?am3 ?im3 ?lm3 ?cm3 ?km3 ?tim3 ?am4 ?im4 ?lm4 ?cm4 ?km4 ?tim4 ?am5 ?im5 ?lm5 ?cm5 ?km5 ?tim5 ?am6 ?im6 ?lm6 ?cm6 ?km6 ?am7 ?im7 ?lm7 ?cm7 ?km7 ?am8 ?im8 ?lm8 ?cm8 ?km8 ?rC_pg ?rC_hd ?rC_po ?rC_sa ?rC_mk ?rC_kc ?rC_ha ?rC_hm ?rC_n_lengths ?rC_n_total ?rC_n_closes ?rC_n_is_clear ?rCL_pg ?rCL_hd ?rCL_po ?rCL_sa ?rCL_mk ?rCL_kc ?rCL_ha ?rCL_hm ?rCL_n_strands ?rCL_n_lots ?rCL_n_many ?rCN_pg ?rCN_hd ?rCN_po ?rCN_sa ?rCN_mk ?rCN_kc ?rCN_ha ?rCN_hm ?rCN_n_word ?rCN_n_parts ?rCN_n_nets ?rCG_pg ?rCG_hd ?rCG_po ?rCG_sa ?rCG_mk ?rCG_kc ?rCG_ha ?rCG_hm ?rCG_n_word ?rCG_n_parts ?rCG_n_lot ?rCG_n_net ?rCG_n_others ?rhn ?rht ?kN ?kI ?kS ?kL ?uN ?uB ?uS ?uL ?krl ?kml ?kmr ?kNP ?kGD ?aPa ?aDn ?topS ?thE ?tyP ?fnP ?lPi ?cPi ?kPi ?aEiN ?iEiN ?lEiN ?cEiN ?kEiN ?loEN ?vsE2N ?fiEN ?ceEN ?mEEN ?toEN ?aEiG ?iEiG ?lEiG ?cEiG ?kEiG ?loEG ?vsE2G ?fiEG ?ceEG ?mEEG ?toEG ?z_int ?z_len ?z_abs ?z_list ?z_tuple ?z_bool ?z_range ?z_sum ?z_max ?z_all ?z_any ?z_sorted ?z_enumerate ?z_isinstance ?z_super ?z_str ?g_MOST_LENGTH ?g_LEAST_BARS ?g_MOST_BARS ?xeR ?rveR ?saeR ?eCeR ?tCeR ?kCeR ?nfeRpart ?gaeR ?ggeR ?hdeR ?haeR ?hmeR ?sbeR ?xeL ?rveL ?saeL ?eCeL ?tCeL ?kCeL ?nfeLpart ?gaeL ?ggeL ?hdeL ?haeL ?hmeL ?sbeL ?xeM ?rveM ?saeM ?eCeM ?tCeM ?kCeM ?nfeMpart ?gaeM ?ggeM ?hdeM ?haeM ?hmeM ?sbeM ?eCeX ?hdeX ?tCeX ?lc1 ?hdc1 ?nT1 ?hT1
    (case hT1 => exact PySem.W.km_tabs_of Y _ (List.mem_cons_self ..))
    (case aC => k_is)
    (case aCL => k_is)
    (case aCN => k_is)
    (case aCG => k_is)
    (case aeX => k_is)
    (case aPa => k_is)
    (case aDn => k_is)
    (case aeR => k_is)
    (case aeL => k_is)
    (case aeM => k_is)
    (case a0 => k_is)
    (case l0 => k_is)
    (case c0 => k_is)
    (case k0 => k_is)
    (case a1 => k_is)
    (case l1 => k_is)
    (case c1 => k_is)
    (case k1 => k_is)
    (case a2 => k_is)
    (case l2 => k_is)
    (case c2 => k_is)
    (case k2 => k_is)
    (case a3 => k_is)
    (case l3 => k_is)
    (case c3 => k_is)
    (case k3 => k_is)
    (case a4 => k_is)
    (case l4 => k_is)
    (case c4 => k_is)
    (case k4 => k_is)
    (case a5 => k_is)
    (case l5 => k_is)
    (case c5 => k_is)
    (case k5 => k_is)
    (case a6 => k_is)
    (case l6 => k_is)
    (case c6 => k_is)
    (case k6 => k_is)
    (case a7 => k_is)
    (case l7 => k_is)
    (case c7 => k_is)
    (case k7 => k_is)
    (case a8 => k_is)
    (case l8 => k_is)
    (case c8 => k_is)
    (case k8 => k_is)
    (case a9 => k_is)
    (case l9 => k_is)
    (case c9 => k_is)
    (case k9 => k_is)
    (case a10 => k_is)
    (case l10 => k_is)
    (case c10 => k_is)
    (case k10 => k_is)
    (case a11 => k_is)
    (case l11 => k_is)
    (case c11 => k_is)
    (case k11 => k_is)
    (case a12 => k_is)
    (case l12 => k_is)
    (case c12 => k_is)
    (case k12 => k_is)
    (case a13 => k_is)
    (case l13 => k_is)
    (case c13 => k_is)
    (case k13 => k_is)
    (case a14 => k_is)
    (case l14 => k_is)
    (case c14 => k_is)
    (case k14 => k_is)
    (case a15 => k_is)
    (case l15 => k_is)
    (case c15 => k_is)
    (case k15 => k_is)
    (case a16 => k_is)
    (case l16 => k_is)
    (case c16 => k_is)
    (case k16 => k_is)
    (case a17 => k_is)
    (case l17 => k_is)
    (case c17 => k_is)
    (case k17 => k_is)
    (case a18 => k_is)
    (case l18 => k_is)
    (case c18 => k_is)
    (case k18 => k_is)
    (case a19 => k_is)
    (case l19 => k_is)
    (case c19 => k_is)
    (case k19 => k_is)
    (case a20 => k_is)
    (case l20 => k_is)
    (case c20 => k_is)
    (case k20 => k_is)
    (case a21 => k_is)
    (case l21 => k_is)
    (case c21 => k_is)
    (case k21 => k_is)
    (case a22 => k_is)
    (case l22 => k_is)
    (case c22 => k_is)
    (case k22 => k_is)
    (case a23 => k_is)
    (case l23 => k_is)
    (case c23 => k_is)
    (case k23 => k_is)
    (case a24 => k_is)
    (case l24 => k_is)
    (case c24 => k_is)
    (case k24 => k_is)
    (case a25 => k_is)
    (case l25 => k_is)
    (case c25 => k_is)
    (case k25 => k_is)
    (case a26 => k_is)
    (case l26 => k_is)
    (case c26 => k_is)
    (case k26 => k_is)
    (case a27 => k_is)
    (case l27 => k_is)
    (case c27 => k_is)
    (case k27 => k_is)
    (case a28 => k_is)
    (case l28 => k_is)
    (case c28 => k_is)
    (case k28 => k_is)
    (case a29 => k_is)
    (case l29 => k_is)
    (case c29 => k_is)
    (case k29 => k_is)
    (case a30 => k_is)
    (case l30 => k_is)
    (case c30 => k_is)
    (case k30 => k_is)
    (case a31 => k_is)
    (case l31 => k_is)
    (case c31 => k_is)
    (case k31 => k_is)
    (case a32 => k_is)
    (case l32 => k_is)
    (case c32 => k_is)
    (case k32 => k_is)
    (case a33 => k_is)
    (case l33 => k_is)
    (case c33 => k_is)
    (case k33 => k_is)
    (case a34 => k_is)
    (case l34 => k_is)
    (case c34 => k_is)
    (case k34 => k_is)
    (case am0 => k_is)
    (case im0 => k_is)
    (case lm0 => k_is)
    (case cm0 => k_is)
    (case km0 => k_is)
    (case am1 => k_is)
    (case im1 => k_is)
    (case lm1 => k_is)
    (case cm1 => k_is)
    (case km1 => k_is)
    (case am2 => k_is)
    (case im2 => k_is)
    (case lm2 => k_is)
    (case cm2 => k_is)
    (case km2 => k_is)
    (case am3 => k_is)
    (case im3 => k_is)
    (case lm3 => k_is)
    (case cm3 => k_is)
    (case km3 => k_is)
    (case tim3 => k_is)
    (case am4 => k_is)
    (case im4 => k_is)
    (case lm4 => k_is)
    (case cm4 => k_is)
    (case km4 => k_is)
    (case tim4 => k_is)
    (case am5 => k_is)
    (case im5 => k_is)
    (case lm5 => k_is)
    (case cm5 => k_is)
    (case km5 => k_is)
    (case tim5 => k_is)
    (case am6 => k_is)
    (case im6 => k_is)
    (case lm6 => k_is)
    (case cm6 => k_is)
    (case km6 => k_is)
    (case am7 => k_is)
    (case im7 => k_is)
    (case lm7 => k_is)
    (case cm7 => k_is)
    (case km7 => k_is)
    (case am8 => k_is)
    (case im8 => k_is)
    (case lm8 => k_is)
    (case cm8 => k_is)
    (case km8 => k_is)
    (case rC_pg => k_is)
    (case rC_hd => k_is)
    (case rC_po => k_is)
    (case rC_sa => k_is)
    (case rC_mk => k_is)
    (case rC_kc => k_is)
    (case rC_ha => k_is)
    (case rC_hm => k_is)
    (case rC_n_lengths => k_is)
    (case rC_n_total => k_is)
    (case rC_n_closes => k_is)
    (case rC_n_is_clear => k_is)
    (case rCL_pg => k_is)
    (case rCL_hd => k_is)
    (case rCL_po => k_is)
    (case rCL_sa => k_is)
    (case rCL_mk => k_is)
    (case rCL_kc => k_is)
    (case rCL_ha => k_is)
    (case rCL_hm => k_is)
    (case rCL_n_strands => k_is)
    (case rCL_n_lots => k_is)
    (case rCL_n_many => k_is)
    (case rCN_pg => k_is)
    (case rCN_hd => k_is)
    (case rCN_po => k_is)
    (case rCN_sa => k_is)
    (case rCN_mk => k_is)
    (case rCN_kc => k_is)
    (case rCN_ha => k_is)
    (case rCN_hm => k_is)
    (case rCN_n_word => k_is)
    (case rCN_n_parts => k_is)
    (case rCN_n_nets => k_is)
    (case rCG_pg => k_is)
    (case rCG_hd => k_is)
    (case rCG_po => k_is)
    (case rCG_sa => k_is)
    (case rCG_mk => k_is)
    (case rCG_kc => k_is)
    (case rCG_ha => k_is)
    (case rCG_hm => k_is)
    (case rCG_n_word => k_is)
    (case rCG_n_parts => k_is)
    (case rCG_n_lot => k_is)
    (case rCG_n_net => k_is)
    (case rCG_n_others => k_is)
    (case rhn => k_is)
    (case rht => k_is)
    (case kN => kit_is)
    (case kI => kit_is)
    (case kS => kit_is)
    (case kL => kit_is)
    (case uN => kit_is)
    (case uB => kit_is)
    (case uS => kit_is)
    (case uL => kit_is)
    (case krl => kit_is)
    (case kml => kit_is)
    (case kmr => kit_is)
    (case kNP => kit_is)
    (case kGD => kit_is)
    (case topS => first | rfl | decide +kernel)
    (case thE => k_is)
    (case aEiN => k_is)
    (case iEiN => k_is)
    (case lEiN => k_is)
    (case cEiN => k_is)
    (case kEiN => k_is)
    (case loEN => k_is)
    (case vsE2N => rfl)
    (case fiEN => first | rfl | decide +kernel)
    (case ceEN => k_is)
    (case mEEN => k_is)
    (case toEN => ks_is)
    (case tyP => k_is)
    (case fnP => k_is)
    (case lPi => k_is)
    (case cPi => k_is)
    (case kPi => k_is)
    (case aEiG => k_is)
    (case iEiG => k_is)
    (case lEiG => k_is)
    (case cEiG => k_is)
    (case kEiG => k_is)
    (case loEG => k_is)
    (case vsE2G => rfl)
    (case fiEG => first | rfl | decide +kernel)
    (case ceEG => k_is)
    (case mEEG => k_is)
    (case toEG => ks_is)
    (case z_int => k_is)
    (case z_len => k_is)
    (case z_abs => k_is)
    (case z_list => k_is)
    (case z_tuple => k_is)
    (case z_bool => k_is)
    (case z_range => k_is)
    (case z_sum => k_is)
    (case z_max => k_is)
    (case z_all => k_is)
    (case z_any => k_is)
    (case z_sorted => k_is)
    (case z_enumerate => k_is)
    (case z_isinstance => k_is)
    (case z_super => k_is)
    (case z_str => k_is)
    (case g_MOST_LENGTH => k_is)
    (case g_LEAST_BARS => k_is)
    (case g_MOST_BARS => k_is)
    (case xeR => k_is)
    (case rveR => first | (with_reducible rfl) | decide +kernel | k_is)
    (case saeR => k_is)
    (case eCeR => k_is)
    (case tCeR => k_is)
    (case kCeR => k_is)
    (case nfeRpart => k_is)
    (case gaeR => k_is)
    (case ggeR => k_is)
    (case hdeR => k_is)
    (case haeR => k_is)
    (case hmeR => k_is)
    (case sbeR => k_is)
    (case xeL => k_is)
    (case rveL => first | (with_reducible rfl) | decide +kernel | k_is)
    (case saeL => k_is)
    (case eCeL => k_is)
    (case tCeL => k_is)
    (case kCeL => k_is)
    (case nfeLpart => k_is)
    (case gaeL => k_is)
    (case ggeL => k_is)
    (case hdeL => k_is)
    (case haeL => k_is)
    (case hmeL => k_is)
    (case sbeL => k_is)
    (case xeM => k_is)
    (case rveM => first | (with_reducible rfl) | decide +kernel | k_is)
    (case saeM => k_is)
    (case eCeM => k_is)
    (case tCeM => k_is)
    (case kCeM => k_is)
    (case nfeMpart => k_is)
    (case gaeM => k_is)
    (case ggeM => k_is)
    (case hdeM => k_is)
    (case haeM => k_is)
    (case hmeM => k_is)
    (case sbeM => k_is)
    (case eCeX => k_is)
    (case hdeX => k_is)
    (case tCeX => k_is)
    (case lc1 => k_is)
    (case hdc1 => first | rfl | decide +kernel | with_unfolding_all rfl)
    (case nT1 => exact K.out_of Y (by decide +kernel))
