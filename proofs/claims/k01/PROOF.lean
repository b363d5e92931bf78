import PyProof.Rows.All
import Wide.All
import OpenK.AllK
import Wide.FinOn
import PyProof.EqAt
import PyProof.EqKinds
import PyProof.TupleCall
import HandS.ForMost
import HandS.Walk
import HandS.Property
import HandS.Star
import HandS.IsInst
import HandS.Gcd
import HandS.Flow
import KE.KTupSum
import KE.GoesEnum
import KE.KOpsOwn
import HandS.Strs
import HandS.Conv
import HandS.Sort
import HandS.ExcInit
import HandS.ClsMeth
import HandS.FStr
import HandS.TupAny
import KE.KEqDeep
import HandS.Style
import HandS.Nested
import HandS.Lambda
import KE.KDflt
import HandS.List
import HandS.SetFor
import HandS.Words
import HandS.ExcIs
import HandS.ExcCtx
import KE.KExcIs
import HandS.ExcField
import HandS.WordsExc
import PyProof.Rows.RegStrFacts
import HandS.OwnEq
import HandS.CallLocal
import OpenK.KMeth
import HandS.TupMul
import PyProof.Rows.TupMore
import HandS.EndOwn
import PySem.Challenge.RW_readingring_k01_rings_and_their_signs
set_option Elab.async false
set_option linter.all false
set_option maxRecDepth 100000
set_option maxHeartbeats 8000000
/-! Rules beside the layer's: len of an own instance, enumerate over a tuple, sum and max of a tuple. -/
namespace Rz
open PySem PySem.Spec PyProof.Rows L2

section
variable {X : Cx}
/-! ### len(o), o an instance whose class defines it -/
def rLenI (C : Addr) (sp : Sp) (E : XK) : List V → Hp → VK → Prop := fun xs H Q => ∃ a dx fs, xs = [.ref a] ∧ H a = some (.ins C dx fs) ∧
  sp [.ref a] H (fun v H' => ∃ n : Int, v = .int n ∧ 0 ≤ n ∧ n < 2 ^ 63 ∧ Q (.int n) H') E
theorem call_lenI {CX : CXT} {k : Nat} {f C : Addr} {sp : Sp} {E : XK} (hs : PySem.W.findIn X.K (.ref C) "__len__" = some (some (.ref f))) (hf : PySem.W.isFn X.K (.ref f) = true)
    (F : FnR X.prog X.w X.K X.mg X.base CX k f sp) (hr : Room (k + 1) X.A) (hx : Passes CX X E) : CallR X (.builtin "len") (rLenI C sp E) := by
  intro pins s σ H xs us Q I r h
  obtain ⟨a, dx, fs, rfl, ea, q⟩ := h
  rw [Vals.ref1 r]
  obtain ⟨mA, O, _⟩ := ins_get I.hok ea
  obtain ⟨od, J, _⟩ := O.look
  have hc : wpAny (model X.prog X.w) X.A.in1 (call (.ref f) [.ref a]) (EP X pins σ (fun v H' => ∃ n : Int, v = .int n ∧ 0 ≤ n ∧ n < 2 ^ 63 ∧ Q (.int n) H')) X.xe s := by
    refine wpAny_call (codeAny_mono (F X.A.in1 X.stack s H [.ref a] [.ref a] _ E hr.in1 I.env0.in1 (.cons rfl .nil) q) fun r s' hq => ?_)
    cases r with
    | error e => exact hx pins σ H s e s' I hq
    | ok fl =>
      cases fl with
      | ret u => exact I.after hq
      | next => exact False.elim hq
      | brk => exact False.elim hq
      | cont => exact False.elim hq
  refine Calls.call_function_entry kind_len plain_len entry_len (args_len1 _) ?_
  unfold Builtin.«len»
  refine wpAny_bind (m := oneArg "len" _) (wpAny_pure ?_)
  refine wpAny_bind (m := callSpecial? (.ref a) (Str.ofString "__len__")) (PySem.W.special_fn I.kIn J hs (beq_iff_eq.mp hf) (wpAny_mono hc (fun r s' hr => ?_) fun _ _ y => y))
  obtain ⟨v, H', I', rv, n, rfl, h0, h1, hq⟩ := hr
  obtain ⟨t, rfl⟩ := rv
  refine wpAny_bind (wpAny_holding (wpAny_pure ?_))
  refine wpAny_bind (wpAny_letGo ?_)
  show wpAny _ _ (if n < 0 then _ else _) _ _ _
  rw [if_neg (by omega)]
  show wpAny _ _ (if n ≥ 2 ^ 63 then _ else _) _ _ _
  rw [if_neg (by omega)]
  exact wpAny_bind (wpAny_mkInt (wpAny_pure ⟨_, rfl, ⟨.int n, H', I'.tok _, ⟨_, rfl⟩, hq⟩⟩))

/-! ### sum, max of a tuple of ints -/
def rSumT (K : PySem.W.Frag) : List V → Hp → VK → Prop := fun vs H Q => ∃ (a : Addr) (ns : List Int), vs = [V.ref a] ∧ SqT K H a (ns.map V.int) ∧ Q (.int ns.sum) H
def rMaxT (K : PySem.W.Frag) : List V → Hp → VK → Prop := fun vs H Q => ∃ (a : Addr) (ns : List Int), vs = [V.ref a] ∧ SqT K H a (ns.map V.int) ∧ 0 < ns.length ∧
  ∀ m, m ∈ ns → (∀ y, y ∈ ns → y ≤ m) → Q (.int m) H
theorem cr_sumT (hc : X.calm = true) : CallR X (.builtin "sum") (rSumT X.K) := by
  intro pins s σ H vs us Q I r h
  obtain ⟨a, ns, rfl, hs, q⟩ := h
  obtain ⟨its, rv, hl, _⟩ := I.tuple hs
  rw [Vals.ref1 r]
  have hi := rv.ints
  have hl' : s.heap.IsTuple a its.toArray := hl
  obtain ⟨xs, e⟩ := hi.allInts.items
  have hn : numsOf (intItems xs).toList = ns := by rw [← e]; exact hi.numsOf
  rw [nums_intItems] at hn
  rw [e] at hl'
  refine PySem.W.ktm_sumG (I.ok.hd hc) hl' fun h' tk t' hk => ?_
  have J : Inv X pins σ H { s with heap := h', toks := tk } := I.kept hk
  refine ⟨.int ns.sum, H, J, ⟨t', ?_⟩, q⟩
  rw [preSum_eq, List.take_of_length_le (by simp), hn]
theorem max_tup {prog : Program} {w : World} {A : Around} {E : Value → Shared → Prop} {s : Shared} {l : Addr} {xs : Array (Int × Tok)} {Q : Value → Shared → Prop} (hh : A.handled = none) (ht : s.heap.IsTuple l (intItems xs)) (hne : 0 < xs.size)
    (h : ∀ v h' tk, (intItems xs)[argBest (fun i j => decide (numAt xs i > numAt xs j)) (xs.size - 1)]? = some v → (∀ b o, s.heap.get? b = some o → h'.get? b = some o) → Q v { s with heap := h', toks := tk }) :
    wpAny (model prog w) A (call (.builtin "max") [.ref l]) Q E s := by
  obtain ⟨o, ho, hc, n, hd⟩ := id ht
  have hlt : l < s.heap.objs.size := Heap.lt_size ho
  refine call_max_walk (wpAny_pyIter_tuple ht ?_)
  refine ⟨s.heap.objs.size, _, _, _, _, _, _, rfl, Walks.tuple (A := A.in1) hh _ l (Nat.ne_of_lt hlt) (intItems xs), ⟨⟨_, Heap.get?_push_size _ rfl, rfl, rfl⟩, ht.at fun o e => Heap.get?_push_of_some _ e⟩, fun b hb => ?_, by simpa [intItems] using hne,
    CmpOf.ints_gt (numAt xs) (fun _ _ => intItems_at), fun v h' tk hP hk => ?_⟩
  · rcases List.mem_cons.mp hb with rfl | hb
    · exact Heap.lt_size (Heap.get?_push_size _ rfl)
    · obtain rfl := List.mem_singleton.mp hb
      exact Heap.lt_size (Heap.get?_push_of_some _ ho)
  · refine h v h' tk (by simpa [intItems] using hP) fun b o e => ?_
    refine hk b o (fun hm => ?_) (Heap.get?_push_of_some _ e)
    have := List.mem_singleton.mp hm
    exact absurd (this ▸ Heap.lt_size e) (Nat.lt_irrefl _)
theorem cr_maxT (hc : X.calm = true) : CallR X (.builtin "max") (rMaxT X.K) := by
  intro pins s σ H vs us Q I r h
  obtain ⟨a, ns, rfl, hs, hne, q⟩ := h
  obtain ⟨its, rv, hl, _⟩ := I.tuple hs
  rw [Vals.ref1 r]
  have hi := rv.ints
  have hl' : s.heap.IsTuple a its.toArray := hl
  obtain ⟨xs, e⟩ := hi.allInts.items
  have hn : numsOf (intItems xs).toList = ns := by rw [← e]; exact hi.numsOf
  rw [nums_intItems] at hn
  subst hn
  rw [e] at hl'
  have hsz : 0 < xs.size := by simpa using hne
  refine max_tup (I.ok.hd hc) hl' hsz fun v h' tk hv hk => ?_
  obtain ⟨t, rfl⟩ := intItems_at hv
  obtain ⟨h1, h2⟩ := argBest_gt (numAt xs) (xs.size - 1)
  refine ⟨.int _, H, I.kept hk, ⟨t, rfl⟩, q _ ?_ fun a ha => ?_⟩
  · rw [numAt_eq]; exact PySem.getD_mem (by rw [List.length_map, Array.length_toList]; omega)
  · obtain ⟨j, hj, rfl⟩ := mem_getD ha
    rw [List.length_map, Array.length_toList] at hj
    rw [← numAt_eq]; exact h2 j (by omega)
end

/-! ### enumerate(t), t a tuple -/
theorem meets_enumerate_newT (l : Addr) (items : Array Value) (n : Nat) (dct : Option Addr) (sl : Array (Option Value)) :
    Meets (Builtin.«enumerate.__new__» ⟨[.type "enumerate", .ref l], []⟩) (fun _ R s => s.heap.get? l = some { cls := .type "tuple", dict := dct, data := .seq items n, slots := sl } ∧
      R (.ok (.ret (.ref (s.heap.push { cls := .type "tuple_iterator", data := .fields #[.ref l, .int 0 0] }).objs.size)))
        { s with heap := (s.heap.push { cls := .type "tuple_iterator", data := .fields #[.ref l, .int 0 0] }).push { cls := .type "enumerate", data := .fields #[.none, .bool false, .ref s.heap.objs.size, rawInt 0, .none, .none] } }) :=
  .of_wp fun prog w A R s h => by
    obtain ⟨hp, g, d, tk, os⟩ := s; obtain ⟨hl, h⟩ := h
    have hsub := sub_enumerate
    have hL : Heap.IsTuple (Shared.heap ⟨hp, g, d, tk, os⟩) l items := ⟨_, hl, rfl, n, rfl⟩
    wp_walk using AutoSeq1.wpAny_loadPart' hl
    refine wpAny_stack_any fun st => wpAny_pure ?_
    split
    · rename_i c _ _ _ _ _
      cases (c == Value.type "enumerate")
      · wp_walk using AutoSeq1.wpAny_loadPart' hl, wpAny_pyIter_tuple hL
        exact ⟨_, rfl, h⟩
      · wp_walk using AutoSeq1.wpAny_loadPart' hl, wpAny_pyIter_tuple hL
        exact ⟨_, rfl, h⟩
    · wp_walk using AutoSeq1.wpAny_loadPart' hl, wpAny_pyIter_tuple hL
      exact ⟨_, rfl, h⟩
theorem call_enumerate_tuple {prog : Program} {w : World} {A : Around} {E : Value → Shared → Prop} {s : Shared} {l : Addr} {items : Array Value} {Q : Value → Shared → Prop} (hL : s.heap.IsTuple l items)
    (h : ∀ h', IsEnum h' (s.heap.objs.size + 1) s.heap.objs.size 0 .none → h'.IsTupleIter s.heap.objs.size l 0 → h'.objs.size = s.heap.objs.size + 2 →
      (∀ b o, s.heap.get? b = some o → h'.get? b = some o) → Q (.ref (s.heap.objs.size + 1)) { s with heap := h' }) :
    wpAny (model prog w) A (call (.type "enumerate") [.ref l]) Q E s := by
  obtain ⟨⟨c, dct, dt, sl⟩, hl, hc, n, hd⟩ := hL
  replace hc : c = .type "tuple" := hc
  replace hd : dt = .seq items n := hd
  subst hc hd
  refine callType_new F.called_enumerate (by decide) (F.typeCall_enumerate_1 _) (F.newCall_enumerate_1 _) (fun obj => F.args_object_init_2 obj _) F.entry_enumerate_new
    (meets_enumerate_newT l items n dct sl) ⟨hl, ?_⟩
  have hz : (s.heap.push { cls := .type "tuple_iterator", data := .fields #[.ref l, .int 0 0] }).objs.size = s.heap.objs.size + 1 := Heap.size_push ..
  show _ ∧ _
  rw [hz]
  have he : IsEnum ((s.heap.push { cls := .type "tuple_iterator", data := .fields #[.ref l, .int 0 0] }).push
      { cls := .type "enumerate", data := .fields #[.none, .bool false, .ref s.heap.objs.size, rawInt 0, .none, .none] }) (s.heap.objs.size + 1) s.heap.objs.size 0 .none := by
    have := Heap.get?_push_size (s.heap.push { cls := .type "tuple_iterator", data := .fields #[.ref l, .int 0 0] })
      (o := { cls := .type "enumerate", data := .fields #[.none, .bool false, .ref s.heap.objs.size, rawInt 0, .none, .none] }) rfl
    rw [hz] at this; exact this
  refine ⟨⟨_, he, rfl⟩, h _ he ⟨_, Heap.get?_push_of_some _ (Heap.get?_push_size _ rfl), rfl, rfl⟩ (by rw [Heap.size_push, hz]) fun b o x => Heap.get?_push_of_some _ (Heap.get?_push_of_some _ x)⟩

/-- the tuple at a, each item in a new pair with its number -/
def IteT (K : PySem.W.Frag) (a : Addr) : It :=
  ⟨fun i H => ∃ (xs : List V) (x : V), SqT K H a xs ∧ xs[i]? = some x, fun i H v H' => ∃ T x, v = .ref T ∧ H T = none ∧ H' = upd H T (.tup [.int (i : Nat), x]) ∧ ∀ xs, SqT K H a xs → xs[i]? = some x, fun i H => ∃ xs : List V, SqT K H a xs ∧ xs.length = i⟩
theorem turn_enumT {P : Program} {w : World} {K : PySem.W.Frag} {elts : List Expr} {kk : Nat} {tpos : Pos} (a e it : Addr) :
    Turn P w K (.Tuple elts kk tpos) (IteT K a) [e, it] e (fun i h => (∃ old, IsEnum h e it ((i : Nat) : Int) old) ∧ h.IsTupleIter it a i ∧ e ≠ it ∧ e ≠ a ∧ it ≠ a) where
  mem := by simp
  obj := fun i h st b hb => by
    obtain ⟨⟨old, he⟩, ⟨o, ho, hc, hd⟩, _⟩ := st
    have e' : b = e ∨ b = it := by simpa using hb
    rcases e' with z | z
    · rw [z]; exact ⟨_, he, fun v q => nomatch q⟩
    · rw [z]; exact ⟨o, ho, fun v q => by rw [hd] at q; cases q⟩
  keep := fun i h h' st k => let ⟨⟨old, he⟩, hi, hne⟩ := st; ⟨⟨old, k e (by simp) _ he⟩, hi.at fun o q => k it (by simp) o q, hne⟩
  item := by
    intro X hP hw hK hc i pins s σ H E I hf st hg
    subst hP hw hK
    obtain ⟨⟨old, he⟩, hit, hne, hea, hia⟩ := st
    obtain ⟨xs, x, hq, hx⟩ := hg
    obtain ⟨its, rv, p, hz⟩ := I.tuple hq
    obtain ⟨u, hu, ru⟩ := rv.get hx
    have hel : e < s.heap.objs.size := Heap.lt_size he
    have hil : it < s.heap.objs.size := by obtain ⟨_, q, _⟩ := hit; exact Heap.lt_size q
    have hlt : i < its.toArray.size := by
      have := (List.getElem?_eq_some_iff.mp hu).1
      simpa using this
    refine wpAny_pyNext_enum_itemC (Draws.tuple (prog := X.prog) (w := X.w) (A := X.A.in1) (I.ok.hd hc) it a (Ne.symm hia) its.toArray) he ⟨hit, p⟩ hlt hne (by simp [hne, hea]) fun x' h' tk hPx ho hst' hT hsz hk => ?_
    have ex : x' = u := by
      have h1 : its.toArray[i]? = some u := by simpa using hu
      exact Option.some.inj (hPx.symm.trans h1)
    subst ex
    obtain ⟨hit', _⟩ := hst'
    refine ⟨_, rfl, wpAny_letOwnedTupleGo_enum (s := { s with heap := h', toks := tk + 1 }) ho fun h'' he' sb => ?_⟩
    have hT2 : h''.get? s.heap.objs.size = some { cls := .type "tuple", data := .seq #[.int i tk, x'] } := (sb.2 _ (Nat.ne_of_gt hel)).trans hT
    have new : ObjOk X.prog X.w (upd H s.heap.objs.size (.tup [.int (i : Nat), x])) h'' s.heap.objs.size (.tup [.int (i : Nat), x]) :=
      ⟨by show 2 ≤ sizeLine; decide, [.int i tk, x'], .cons ⟨_, rfl⟩ (.cons ru .nil), ⟨_, hT2, rfl, _, rfl⟩⟩
    have I1 : Inv X pins σ (upd H s.heap.objs.size (.tup [.int (i : Nat), x])) { s with heap := h'', toks := tk + 1 } :=
      I.turnedNew (ch := [e, it]) (fun b ob hb q => (sb.2 b (fun z => hb (by simp [z]))).trans (hk b ob (fun z => hb (by simp [z])) (fun z => hb (by simp [z])) q)) hf (Nat.le_refl _) new
    refine ⟨.ref s.heap.objs.size, _, I1, rfl, ⟨_, x, rfl, I.hok.fresh (Nat.le_refl _), rfl, fun ys hy => by rw [I.tuple_inj hy hq]; exact hx⟩, ⟨⟨x', ?_⟩, hit'.at fun o q => (sb.2 it (Ne.symm hne)).trans q, hne, hea, hia⟩, fun b hb => ?_⟩
    · have e1 : ((i + 1 : Nat) : Int) = (i : Int) + 1 := by omega
      rw [e1]; exact he'
    · have hb' : b < s.heap.objs.size := by
        have e' : b = e ∨ b = it := by simpa using hb
        rcases e' with z | z
        · rw [z]; exact hel
        · rw [z]; exact hil
      rw [upd_ne (Nat.ne_of_lt hb')]
      exact (hf b hb).1
  done := by
    intro X hP hw hK hc i pins s σ H E I hf st hg
    subst hP hw hK
    obtain ⟨⟨old, he⟩, hit, hne, hea, hia⟩ := st
    obtain ⟨xs, hq, hx⟩ := hg
    obtain ⟨its, rv, p, hz⟩ := I.tuple hq
    obtain ⟨f0, f1, f2, f3, f4, f5⟩ := hf it (by simp)
    have hl := rv.length
    have hn : i = its.toArray.size := by simp; omega
    subst hn
    exact wpAny_pyNext_enum_endD (Draws.tuple (prog := X.prog) (w := X.w) (A := X.A.in1) (I.ok.hd hc) it a (Ne.symm hia) its.toArray) he ⟨hit, p⟩ fun h' eb => ⟨rfl, I.turned (t' := s.toks) (fun b o hb q => eb b o hb q) f0 f1 f3 f4 f5⟩
  self := fun A i s Q E st h => let ⟨⟨_, he⟩, _⟩ := st; wpAny_pyIter_enum he h
def iEnumT (K : PySem.W.Frag) (ta : TA) : TI := fun σ H R => ta σ H fun vs H1 => ∃ a xs, vs = [.ref a] ∧ SqT K H1 a xs ∧ R (IteT K a) H1
theorem pi_enumT {X : Cx} {e : Expr} {ta : TA} {p pos tpos : Pos} {elts : List Expr} {kk : Nat} (hg : Gl X "enumerate") (hm : X.mg "enumerate" = none) (ha : PA X [e] ta) (hs : starEach [e] X.env = [(false, eval e X.env)] := by rfl) :
    PI X (.Tuple elts kk tpos) (.Call (.Name "enumerate" p) [e] [] pos) (iEnumT X.K ta) := by
  refine ⟨fun pins s σ H R I h => ?_⟩
  refine Call_ (ld_blt I hg hm boot_enumerate (PyProof.Rows.callWith_type1 (thn (ha.run pos pins s σ H _ I h) fun us s1 ⟨vs, H1, I1, r1, q1⟩ => ?_) hs rfl))
  obtain ⟨a, xs, ex, hq, q⟩ := q1
  subst ex
  cases r1 with
  | cons r rr =>
    cases rr
    cases r
    obtain ⟨its, rv, p', hz⟩ := I1.tuple hq
    have la : a < s1.heap.objs.size := by obtain ⟨_, y, _⟩ := p'; exact Heap.lt_size y
    refine call_enumerate_tuple (show s1.heap.IsTuple a its.toArray from p') fun h' he hit hsz hk => wpAny_pyIter_enum he ?_
    have I2 : Inv X pins σ H1 { s1 with heap := h' } := I1.kept (t' := s1.toks) hk
    refine ⟨s1.heap.objs.size + 1, [s1.heap.objs.size + 1, s1.heap.objs.size], _, _, H1, rfl, I2, turn_enumT a (s1.heap.objs.size + 1) s1.heap.objs.size, ⟨⟨.none, he⟩, hit, Nat.succ_ne_self _, Nat.ne_of_gt (Nat.lt_succ_of_lt la), Nat.ne_of_gt la⟩, fun b hb => ?_, q⟩
    have e' : b = s1.heap.objs.size + 1 ∨ b = s1.heap.objs.size := by simpa using hb
    have hle : s1.heap.objs.size ≤ b := by
      rcases e' with z | z
      · rw [z]; exact Nat.le_add_right _ _
      · rw [z]; exact Nat.le_refl _
    exact I1.fpOk hle (I1.hok.fresh hle)
theorem walk_enumT {K : PySem.W.Frag} {a : Addr} {xs : List V} : Walk (IteT K a) xs.length (fun H => SqT K H a xs) (YPair (fun i => some (.int (i : Nat))) (fun i => xs[i]?)) := by
  refine ⟨fun i _ hi q => ⟨xs, xs[i], q, by simp [hi]⟩, fun _ q => ⟨xs, q, rfl⟩, fun i H v H' _ q y => ?_⟩
  obtain ⟨T, x, h1, h2, h3, h4⟩ := y
  exact ⟨T, .int (i : Nat), x, h1, h2, h3, rfl, h4 xs q⟩
/-! ### f(e, ..), f an instance: a reading that speaks of no context -/
def tCallI (C : Addr) (sp : Sp) (E : XK) (tf : TE) (t : TA) : TE := fun σ H Q => tf σ H fun y H1 => ∃ a, y = V.ref a ∧ t σ H1 fun vs H2 => (∃ dx fs, H2 a = some (.ins C dx fs)) ∧ sp (V.ref a :: vs) H2 Q E
theorem pe_callI {X : Cx} {CX : CXT} {k : Nat} {C g : Addr} {sp : Sp} {E : XK} {fe e : Expr} {es : List Expr} {tf : TE} {t : TA} {pos : Pos} (hf : PE X fe tf) (c : StX.CallO X.K C g) (F : FnR X.prog X.w X.K X.mg X.base CX k g sp) (hr : Room k X.A) (hx : Passes CX X E) (ha : PA X (e :: es) t)
    (ht : eval (.Call fe (e :: es) [] pos) X.env = (do callWith pos (← eval fe X.env) [] (backTo pos (starEach (e :: es) X.env)) (backToKw pos (keywordEach [] X.env))) := by rfl)
    (he : starEach (e :: es) X.env = (false, eval e X.env) :: starEach es X.env := by rfl) (hpl : (backTo pos (starEach es X.env)).any (·.1) = false := by rfl) : PE X (.Call fe (e :: es) [] pos) (tCallI C sp E tf t) := by
  refine ⟨fun pins s σ H Q I h => ?_⟩
  refine Call_ (thn (hf.run pins s σ H _ I h) fun u s1 ⟨y, H1, I1, ry, a, ey, q⟩ => ?_) ht
  subst ey
  obtain rfl : u = Value.ref a := ry
  refine StX.callO_with (thn (ha.run pos pins s1 σ H1 _ I1 q) fun us s2 ⟨vs, H2, I2, r, hi, q2⟩ => ?_) he hpl
  have hi' : StX.InsC X H2 a C := .inr hi
  obtain ⟨ox, od, J, hd⟩ := StX.insC_at I2 hi'
  exact ⟨⟨C, ox, od, J, hd⟩, StX.run_callO c F hr hx I2 hi' r q2⟩
end Rz
/-! One more rule beside the layer's: ring >> int, the class's own sign. -/
namespace Rz
open PySem PySem.Spec PyProof.Rows L2
section
variable {X : Cx}
def rShO (C : Addr) (sp : Sp) (E : XK) : R2 := fun x y H Q => ∃ (a dx : Addr) (fs : List (Str × V)) (i : Int), x = .ref a ∧ y = .int i ∧ H a = some (.ins C dx fs) ∧ sp [.ref a, .int i] H (fun v H' => (∃ b : Addr, v = .ref b) ∧ Q v H') E
theorem op_shO {CX : CXT} {k : Nat} {f C : Addr} {sp : Sp} {E : XK} {fo ro : Option Value} (hc : PySem.W.selfFirst X.K C = true) (hs : PySem.W.findIn X.K (.ref C) "__rshift__" = some (some (.ref f))) (hf : PySem.W.isFn X.K (.ref f) = true)
    (hn : PySem.W.findIn X.K (.ref C) "__rrshift__" = some none) (h1 : PySem.W.findIn X.K (.type "int") "__rshift__" = some fo) (h2 : PySem.W.findIn X.K (.type "int") "__rrshift__" = some ro) (hsub : PySem.W.subIn X.K (.type "int") (.ref C) = some false)
    (F : FnR X.prog X.w X.K X.mg X.base CX k f sp) (hr : Room k X.A) (hx : Passes CX X E) : OpR X (binaryOp .RShift) (rShO C sp E) := by
  intro pins s σ H x y v u Q I rx ry h
  obtain ⟨a, dx, fs, i, rfl, rfl, ea, q⟩ := h
  obtain rfl : v = Value.ref a := rx
  obtain ⟨t, rfl⟩ := ry
  obtain ⟨mA, O, _⟩ := ins_get I.hok ea
  obtain ⟨od, J, _⟩ := O.look
  obtain ⟨m, hns, _⟩ := I.loc
  refine PySem.W.ksp_binT (op := .RShift) (T := "int") ⟨hns, I.bk, Nat.le_trans I.ok.bsz I.ok.above⟩ I.ok.mod.kin J rfl hc hs hf hn (.inl rfl) h1 h2 hsub ?_
  refine wpAny_call (codeAny_mono (F X.A X.stack s H [.ref a, .int i t] [.ref a, .int i] _ E hr I.env0 (.cons rfl (.cons ⟨_, rfl⟩ .nil)) q) fun r s' hq => ?_)
  cases r with
  | error e => exact hx pins σ H s e s' I hq
  | ok fl =>
    cases fl with
    | ret u =>
      obtain ⟨v, H', J', rv, ⟨b, rfl⟩, q'⟩ := I.after hq
      obtain rfl : u = Value.ref b := rv
      exact ⟨.ref b, H', J', rfl, q'⟩
    | next => exact False.elim hq
    | brk => exact False.elim hq
    | cont => exact False.elim hq
end
end Rz
/-! More rules beside the layer's: a range that stands in a slot, walked; a tuple's index of an int. -/
namespace Rz
open PySem PySem.Spec PyProof.Rows L2
section
variable {X : Cx}
def iRngV (te : TE) : TI := fun σ H R => te σ H fun x H1 => ∃ a lo hi, x = .ref a ∧ H1 a = some (.rng lo hi) ∧ (-(2 ^ 62) ≤ lo ∧ lo < 2 ^ 62 ∧ -(2 ^ 62) ≤ hi ∧ hi < 2 ^ 62) ∧ R (Itr lo (hi - lo).toNat) H1
theorem pi_rngV {tg e : Expr} {te : TE} (he : PE X e te) : PI X tg e (iRngV te) := by
  refine ⟨fun pins s σ H R I h => ?_⟩
  refine thn (he.run pins s σ H _ I h) fun v s1 ⟨x, H1, I1, r1, q1⟩ => ?_
  obtain ⟨a, lo, hi, ex, ha, ⟨h1, h2, h3, h4⟩, q⟩ := q1
  subst ex
  cases r1
  obtain ⟨t, u, v, ho⟩ := (show ObjOk X.prog X.w H1 s1.heap a (.rng lo hi) from I1.hok a _ ha)
  refine wpAny_pyIter_range (show IsRange s1.heap a lo hi 1 t u v from ho) (small_one h1 h2 h3 h4) ?_
  refine ⟨s1.heap.objs.size, [s1.heap.objs.size], _, _, H1, rfl, I1.kept (t' := s1.toks) fun b o e => Heap.get?_push_of_some _ e, turn_range _ lo (hi - lo).toNat, ?_, fun b hb => ?_, q⟩
  · have e1 : lo + ((0 : Nat) : Int) * 1 = lo := by simp
    have e2 : (((hi - lo).toNat : Nat) : Int) - ((0 : Nat) : Int) = Builtin.Range.rangeSize lo hi 1 := by rw [rangeSize_one]; split <;> omega
    show IsRangeIter _ _ (lo + ((0 : Nat) : Int) * 1) ((((hi - lo).toNat : Nat) : Int) - ((0 : Nat) : Int)) 1
    rw [e1, e2]
    exact Heap.get?_push_size _ rfl
  · have e : b = s1.heap.objs.size := by simpa using hb
    subst e
    exact I1.fpOk (Nat.le_refl _) (I1.hok.fresh (Nat.le_refl _))
/-- t.index(i), the first place -/
theorem mt_tup_indexI : MtR X "tuple.index" (fun x xs H Q => ∃ p, ∃ ys : List Int, ∃ z j, x = .ref p ∧ xs = [.int z] ∧ SqT X.K H p (ys.map V.int) ∧ ys[j]? = some z ∧ (∀ m y, m < j → ys[m]? = some y → y ≠ z) ∧ Q (.int (j : Nat)) H) := by
  intro pins s σ H x xs v us Q I rx rs h
  obtain ⟨p, ys, z, j, rfl, rfl, hq, hy, hno, q⟩ := h
  cases rx
  obtain ⟨u, rfl, t, rfl⟩ := vals1 rs
  obtain ⟨its, r, pl, hz⟩ := I.tuple hq
  obtain ⟨⟨cls, dd, dt, sl⟩, ho, hc, n, hd⟩ := pl
  simp only at hc hd
  subst hc
  subst hd
  have fl : (ys.map V.int).all flatV = true := by
    rw [List.all_eq_true]
    intro x hx
    obtain ⟨i, _, rfl⟩ := List.mem_map.mp hx
    rfl
  have hl : its.toArray.size = ys.length := by rw [List.size_toArray, ← r.length, List.length_map]
  have hj : j < its.toArray.size := by rw [hl]; exact (List.getElem?_eq_some_iff.mp hy).1
  have at' : ∀ (m : Nat) (hm : m < its.toArray.size), ∃ y t', ys[m]? = some y ∧ its.toArray[m] = Value.int y t' := fun m hm => by
    have hm' : m < ys.length := by rw [← hl]; exact hm
    obtain ⟨w, hw, t', hw'⟩ := r.get (i := m) (x := .int ys[m]) (by simp [hm'])
    refine ⟨ys[m], t', List.getElem?_eq_getElem hm', ?_⟩
    have e := (List.getElem?_eq_some_iff.mp hw).2
    rw [← hw', ← e]
    simp
  refine call_meets PySem.F.slot_tuple_index ⟨_, ho, rfl⟩ PySem.F.entry_tuple_index (PySem.F.args_tuple_index_2 _ _) (TI.tuple_indexAt p its.toArray n dd sl (.int z t) (eqU (.int z)) j hj ?_ ?_)
    ⟨ho, fun w hw => mem_eqAt (x := .int z) ⟨t, rfl⟩ rfl r fl w (by simpa using hw), ⟨.int (j : Nat), H, I.tok _, ⟨_, rfl⟩, q⟩⟩
  · obtain ⟨y, t', h1, h2⟩ := at' j hj
    rw [hy] at h1
    cases h1
    rw [h2]
    show (z == z) = true
    exact beq_self_eq_true z
  · intro m hm hmj
    obtain ⟨y, t', h1, h2⟩ := at' m hm
    rw [h2]
    show (y == z) = false
    exact beq_eq_false_iff_ne.mpr (hno m y hmj h1)
end
end Rz
/-! The mathematics of a ring: the ends as the greatest sum over chains, Bellman's equation, where ends repeat. -/
namespace Rm
/-- f r + f (r - 1) + .. , k terms -/
def sumBack (f : Int → Int) (r : Int) : Nat → Int
  | 0 => 0
  | k + 1 => sumBack f r k + f (r - k)
/-- the greatest of f r .. f (r - k) -/
def maxBack (f : Int → Int) (r : Int) : Nat → Int
  | 0 => f r
  | k + 1 => max (maxBack f r k) (f (r - (k + 1 : Nat)))
theorem sum_front (f : Int → Int) : ∀ (k : Nat) (r : Int), sumBack f r (k + 1) = f r + sumBack f (r - 1) k
  | 0, r => by simp [sumBack]
  | k + 1, r => by
    show sumBack f r (k + 1) + f (r - (k + 1 : Nat)) = f r + (sumBack f (r - 1) k + f (r - 1 - k))
    rw [sum_front f k r, show r - ((k + 1 : Nat) : Int) = r - 1 - k by omega]
    omega
theorem max_front (f : Int → Int) : ∀ (k : Nat) (r : Int), maxBack f r (k + 1) = max (f r) (maxBack f (r - 1) k)
  | 0, r => by simp [maxBack]
  | k + 1, r => by
    show max (maxBack f r (k + 1)) (f (r - (k + 1 + 1 : Nat))) = max (f r) (max (maxBack f (r - 1) k) (f (r - 1 - (k + 1 : Nat))))
    rw [max_front f k r, show r - ((k + 1 + 1 : Nat) : Int) = r - 1 - (k + 1 : Nat) by omega]
    omega
theorem sum_add (f : Int → Int) (r : Int) (k : Nat) : ∀ n : Nat, sumBack f r (k + n) = sumBack f r k + sumBack f (r - k) n
  | 0 => by simp [sumBack]
  | n + 1 => by
    show sumBack f r (k + n) + f (r - (k + n : Nat)) = sumBack f r k + (sumBack f (r - k) n + f (r - k - n))
    rw [sum_add f r k n, show r - ((k + n : Nat) : Int) = r - k - n by omega]
    omega
theorem sum_mono {f : Int → Int} (h : ∀ i, 0 ≤ f i) (r : Int) {j k : Nat} (hjk : j ≤ k) : sumBack f r j ≤ sumBack f r k := by
  induction k with
  | zero =>
    have : j = 0 := by omega
    subst this
    exact Int.le_refl _
  | succ k ih =>
    by_cases e : j = k + 1
    · subst e
      exact Int.le_refl _
    · have := ih (by omega)
      have h2 := h (r - k)
      show sumBack f r j ≤ sumBack f r k + f (r - k)
      omega
theorem sum_nn {f : Int → Int} (h : ∀ i, 0 ≤ f i) (r : Int) (k : Nat) : 0 ≤ sumBack f r k := sum_mono h r (Nat.zero_le k)
theorem max_ge {f : Int → Int} (r : Int) : ∀ {j k : Nat}, j ≤ k → f (r - j) ≤ maxBack f r k
  | j, 0, h => by
    have : j = 0 := by omega
    subst this
    simp [maxBack]
  | j, k + 1, h => by
    show f (r - j) ≤ max (maxBack f r k) (f (r - (k + 1 : Nat)))
    by_cases e : j = k + 1
    · subst e
      omega
    · have := max_ge (f := f) r (j := j) (k := k) (by omega)
      omega
theorem max_le {f : Int → Int} {M : Int} (h : ∀ i, f i ≤ M) (r : Int) : ∀ k : Nat, maxBack f r k ≤ M
  | 0 => h r
  | k + 1 => by
    have h1 := max_le h r k
    have h2 := h (r - (k + 1 : Nat))
    show max (maxBack f r k) (f (r - (k + 1 : Nat))) ≤ M
    omega
theorem max_mono {f : Int → Int} (r : Int) {j k : Nat} (h : j ≤ k) : maxBack f r j ≤ maxBack f r k := by
  induction k with
  | zero =>
    have : j = 0 := by omega
    subst this
    exact Int.le_refl _
  | succ k ih =>
    by_cases e : j = k + 1
    · subst e
      exact Int.le_refl _
    · have := ih (by omega)
      show maxBack f r j ≤ max (maxBack f r k) (f (r - (k + 1 : Nat)))
      omega

/-- readers in a ring: days, books at first, all books, all days, the slowest -/
structure Ring (N : Nat) (d s : Int → Int) (B T M : Int) : Prop where
  pos : 0 < N
  dper : ∀ i t : Int, d (i + N * t) = d i
  sper : ∀ i t : Int, s (i + N * t) = s i
  d1 : ∀ i, 1 ≤ d i
  s0 : ∀ i, 0 ≤ s i
  b : ∀ r, sumBack s r N = B
  b1 : 1 ≤ B
  t : ∀ r, sumBack d r N = T
  mu : ∀ i, d i ≤ M
  ma : ∃ i, d i = M

/-- the sum of the chain from reading x of reader r that goes k readers back -/
def ch (d s : Int → Int) (r : Int) (k : Nat) (x : Int) : Int := sumBack d r (k + 1) + (x - sumBack s r k) * maxBack d r k
/-- e is the greatest of them -/
def IsEnd (d s : Int → Int) (r x e : Int) : Prop := (∀ k, sumBack s r k ≤ x → ch d s r k x ≤ e) ∧ ∃ k, sumBack s r k ≤ x ∧ ch d s r k x = e
theorem IsEnd.inj {d s : Int → Int} {r x e e' : Int} (h : IsEnd d s r x e) (h' : IsEnd d s r x e') : e = e' := by
  obtain ⟨k, h1, h2⟩ := h.2
  obtain ⟨k', h1', h2'⟩ := h'.2
  have := h.1 k' h1'
  have := h'.1 k h1
  omega

section
variable {N : Nat} {d s : Int → Int} {B T M : Int} (R : Ring N d s B T M)
include R
theorem Ring.sumS (r : Int) (k : Nat) : ∀ m : Nat, sumBack s r (k + m * N) = sumBack s r k + m * B
  | 0 => by simp
  | m + 1 => by
    rw [show k + (m + 1) * N = k + m * N + N by rw [Nat.add_mul, Nat.one_mul, Nat.add_assoc], sum_add, Ring.sumS r k m, R.b, show ((m + 1 : Nat) : Int) = (m : Int) + 1 by omega, Int.add_mul]
    omega
theorem Ring.sumD (r : Int) (k : Nat) : ∀ m : Nat, sumBack d r (k + m * N) = sumBack d r k + m * T
  | 0 => by simp
  | m + 1 => by
    rw [show k + (m + 1) * N = k + m * N + N by rw [Nat.add_mul, Nat.one_mul, Nat.add_assoc], sum_add, Ring.sumD r k m, R.t, show ((m + 1 : Nat) : Int) = (m : Int) + 1 by omega, Int.add_mul]
    omega
theorem Ring.maxM (r : Int) {k : Nat} (h : N ≤ k + 1) : maxBack d r k = M := by
  obtain ⟨i, hi⟩ := R.ma
  have hN := R.pos
  have h0 : 0 ≤ (r - i) % (N : Int) := Int.emod_nonneg _ (by omega)
  have h1 : (r - i) % (N : Int) < N := Int.emod_lt_of_pos _ (by omega)
  have e : r - (((r - i) % (N : Int)).toNat : Nat) = i + N * ((r - i) / (N : Int)) := by
    have := Int.emod_add_mul_ediv (r - i) (N : Int)
    omega
  have h2 := max_ge (f := d) r (j := ((r - i) % (N : Int)).toNat) (k := k) (by omega)
  rw [e, R.dper, hi] at h2
  have h3 := max_le R.mu r k
  omega
theorem Ring.M1 : 1 ≤ M := by
  obtain ⟨i, hi⟩ := R.ma
  have := R.d1 i
  omega
theorem Ring.round (r x : Int) (k : Nat) {m : Nat} (hm : 1 ≤ m) : ch d s r (k + m * N) x = sumBack d r (k + 1) + (x - sumBack s r k) * M + m * (T - B * M) := by
  unfold ch
  have e1 : sumBack d r (k + m * N + 1) = sumBack d r (k + 1) + m * T := by
    rw [show k + m * N + 1 = k + 1 + m * N by omega, R.sumD]
  have e2 : N ≤ k + m * N + 1 := by
    have : 1 * N ≤ m * N := Nat.mul_le_mul_right N hm
    omega
  rw [e1, R.sumS, R.maxM r e2]
  have e3 : (x - (sumBack s r k + m * B)) * M = (x - sumBack s r k) * M - m * (B * M) := by
    rw [show x - (sumBack s r k + m * B) = (x - sumBack s r k) - m * B by omega, Int.sub_mul, Int.mul_assoc]
  rw [e3, Int.mul_sub]
  omega
end

/-- what the loop over the first i readers back has found -/
def Sofar (N : Nat) (d s : Int → Int) (r x : Int) (i : Nat) (L : Int) : Prop :=
  (∀ j m : Nat, j < i → sumBack s r (j + m * N) ≤ x → ch d s r (j + m * N) x ≤ L) ∧ ((i = 0 ∧ L = 0) ∨ ∃ k, sumBack s r k ≤ x ∧ ch d s r k x = L)
section
variable {N : Nat} {d s : Int → Int} {B T M : Int} (R : Ring N d s B T M)
include R
theorem Ring.ch_pos (r x : Int) (k : Nat) (h : sumBack s r k ≤ x) : 1 ≤ ch d s r k x := by
  unfold ch
  have h1 : d (r - k) ≤ sumBack d r (k + 1) := by
    have := sum_nn (f := d) (fun i => by have := R.d1 i; omega) r k
    show d (r - k) ≤ sumBack d r k + d (r - k)
    omega
  have h2 := R.d1 (r - k)
  have h3 : 0 ≤ maxBack d r k := by
    have := max_ge (f := d) r (j := 0) (k := k) (Nat.zero_le _)
    have := R.d1 (r - (0 : Nat))
    omega
  have h4 := Int.mul_nonneg (show 0 ≤ x - sumBack s r k by omega) h3
  omega
theorem Ring.step {r x L : Int} {i : Nat} (P : Sofar N d s r x i L) (hl : sumBack s r i ≤ x) {L2 : Int}
    (h2 : L2 = if B ≤ x - sumBack s r i then max (max L (ch d s r i x)) (sumBack d r (i + 1) + (x - sumBack s r i) * M + (if 0 < T - B * M then (x - sumBack s r i) / B else 1) * (T - B * M)) else max L (ch d s r i x)) :
    Sofar N d s r x (i + 1) L2 := by
  have P1 := P.1
  have hB := R.b1
  have hge : max L (ch d s r i x) ≤ L2 := by
    rw [h2]
    split <;> omega
  have key : ∀ m : Nat, 1 ≤ m → sumBack s r (i + m * N) ≤ x → ch d s r (i + m * N) x ≤ L2 := by
    intro m hm hv
    rw [R.round r x i hm]
    rw [R.sumS] at hv
    have hmB : (1 : Int) * B ≤ m * B := Int.mul_le_mul_of_nonneg_right (by omega) (by omega)
    have hBl : B ≤ x - sumBack s r i := by omega
    rw [if_pos hBl] at h2
    have hc : (m : Int) * (T - B * M) ≤ (if 0 < T - B * M then (x - sumBack s r i) / B else 1) * (T - B * M) := by
      split
      · rename_i hg
        refine Int.mul_le_mul_of_nonneg_right ?_ (by omega)
        exact (Int.le_ediv_iff_mul_le (by omega)).mpr (by omega)
      · rename_i hg
        have h5 : (0 : Int) ≤ ((m : Int) - 1) * (-(T - B * M)) := Int.mul_nonneg (by omega) (by omega)
        rw [Int.sub_mul, Int.mul_neg] at h5
        omega
    omega
  refine ⟨fun j m hj hv => ?_, ?_⟩
  · by_cases e : j = i
    · subst e
      cases m with
      | zero =>
        have e0 : j + 0 * N = j := by omega
        rw [e0]
        omega
      | succ m => exact key (m + 1) (by omega) hv
    · have := P1 j m (by omega) hv
      omega
  · right
    have hcp := R.ch_pos r x i hl
    have hL : ∃ k, sumBack s r k ≤ x ∧ ch d s r k x = max L (ch d s r i x) := by
      rcases P.2 with ⟨h0, hL0⟩ | ⟨k, hk, hk2⟩
      · exact ⟨i, hl, by omega⟩
      · by_cases hh : ch d s r i x ≤ L
        · exact ⟨k, hk, by omega⟩
        · exact ⟨i, hl, by omega⟩
    by_cases hBl : B ≤ x - sumBack s r i
    · rw [if_pos hBl] at h2
      -- the candidate of whole rounds is a chain too
      have hcand : ∃ k, sumBack s r k ≤ x ∧ ch d s r k x = sumBack d r (i + 1) + (x - sumBack s r i) * M + (if 0 < T - B * M then (x - sumBack s r i) / B else 1) * (T - B * M) := by
        by_cases hg : 0 < T - B * M
        · rw [if_pos hg]
          have hq1 : 1 ≤ (x - sumBack s r i) / B := (Int.le_ediv_iff_mul_le (by omega)).mpr (by omega)
          have hq2 : (x - sumBack s r i) / B * B ≤ x - sumBack s r i := Int.ediv_mul_le _ (by omega)
          have hqn : ((((x - sumBack s r i) / B).toNat : Nat) : Int) = (x - sumBack s r i) / B := by omega
          refine ⟨i + ((x - sumBack s r i) / B).toNat * N, ?_, ?_⟩
          · rw [R.sumS, hqn]
            omega
          · rw [R.round r x i (by omega), hqn]
        · rw [if_neg hg]
          refine ⟨i + 1 * N, ?_, ?_⟩
          · rw [R.sumS]
            omega
          · rw [R.round r x i (by omega)]
            simp
      obtain ⟨k1, a1, a2⟩ := hL
      obtain ⟨k2, c1, c2⟩ := hcand
      by_cases hh : max L (ch d s r i x) ≤ sumBack d r (i + 1) + (x - sumBack s r i) * M + (if 0 < T - B * M then (x - sumBack s r i) / B else 1) * (T - B * M)
      · exact ⟨k2, c1, by rw [c2, h2]; omega⟩
      · exact ⟨k1, a1, by rw [a2, h2]; omega⟩
    · rw [if_neg hBl] at h2
      rw [h2]
      exact hL
theorem Ring.fin {r x L : Int} {i : Nat} (P : Sofar N d s r x i L) (hi : i = N ∨ (0 < i ∧ x < sumBack s r i)) : IsEnd d s r x L := by
  have P1 := P.1
  have hN := R.pos
  refine ⟨fun k hk => ?_, ?_⟩
  · have ek : k = k % N + k / N * N := by
      have := Nat.mod_add_div k N
      rw [Nat.mul_comm] at this
      exact this.symm
    rw [ek] at hk ⊢
    refine P1 _ _ ?_ hk
    rcases hi with hi | ⟨_, hi⟩
    · rw [hi]
      exact Nat.mod_lt _ hN
    · rcases Nat.lt_or_ge (k % N) i with h | h
      · exact h
      · have := sum_mono R.s0 r h
        have h2 := R.sumS r (k % N) (k / N)
        have h3 : (0 : Int) ≤ ((k / N : Nat) : Int) * B := Int.mul_nonneg (Int.natCast_nonneg _) (by have := R.b1; omega)
        omega
  · rcases P.2 with ⟨h0, _⟩ | h
    · rcases hi with hi | ⟨hi, _⟩ <;> omega
    · exact h
theorem Ring.sofar0 (r x : Int) : Sofar N d s r x 0 0 := ⟨fun _ _ h => absurd h (Nat.not_lt_zero _), .inl ⟨rfl, rfl⟩⟩
theorem Ring.ends (r : Int) {x : Int} (hx : 0 ≤ x) : ∃ e, IsEnd d s r x e := by
  have go : ∀ n i L, i + n = N → sumBack s r i ≤ x → Sofar N d s r x i L → ∃ e, IsEnd d s r x e := by
    intro n
    induction n with
    | zero =>
      intro i L hi _ P
      exact ⟨L, R.fin P (.inl (by omega))⟩
    | succ n ih =>
      intro i L hi hl P
      have P' := R.step P hl rfl
      by_cases h : sumBack s r (i + 1) ≤ x
      · exact ih (i + 1) _ (by omega) h P'
      · exact ⟨_, R.fin P' (.inr ⟨by omega, by omega⟩)⟩
  exact go N 0 0 (by omega) (by show (0 : Int) ≤ x; exact hx) (R.sofar0 r x)
end
/-- the day on which reading x of reader r ends -/
noncomputable def E (d s : Int → Int) (r x : Int) : Int := open Classical in if h : ∃ e, IsEnd d s r x e then Classical.choose h else 0
section
variable {N : Nat} {d s : Int → Int} {B T M : Int} (R : Ring N d s B T M)
include R
theorem Ring.isE (r : Int) {x : Int} (hx : 0 ≤ x) : IsEnd d s r x (E d s r x) := by
  have h := R.ends r hx
  unfold E
  rw [dif_pos h]
  exact Classical.choose_spec h
theorem Ring.E_of {r x e : Int} (h : IsEnd d s r x e) : E d s r x = e := by
  have h' : ∃ e, IsEnd d s r x e := ⟨e, h⟩
  unfold E
  rw [dif_pos h']
  exact (Classical.choose_spec h').inj h
theorem Ring.E_per (r x t : Int) : E d s (r + N * t) x = E d s r x := by
  have hs : ∀ k, sumBack s (r + N * t) k = sumBack s r k := by
    intro k
    induction k with
    | zero => rfl
    | succ k ih =>
      show sumBack s (r + N * t) k + s (r + N * t - k) = sumBack s r k + s (r - k)
      rw [ih, show r + N * t - k = (r - k) + N * t by omega, R.sper]
  have hd : ∀ k, sumBack d (r + N * t) k = sumBack d r k := by
    intro k
    induction k with
    | zero => rfl
    | succ k ih =>
      show sumBack d (r + N * t) k + d (r + N * t - k) = sumBack d r k + d (r - k)
      rw [ih, show r + N * t - k = (r - k) + N * t by omega, R.dper]
  have hm : ∀ k, maxBack d (r + N * t) k = maxBack d r k := by
    intro k
    induction k with
    | zero => exact R.dper r t
    | succ k ih =>
      show max (maxBack d (r + N * t) k) (d (r + N * t - (k + 1 : Nat))) = max (maxBack d r k) (d (r - (k + 1 : Nat)))
      rw [ih, show r + N * t - ((k + 1 : Nat) : Int) = (r - (k + 1 : Nat)) + N * t by omega, R.dper]
  have he : IsEnd d s (r + N * t) x = IsEnd d s r x := by
    funext e
    unfold IsEnd ch
    simp only [hs, hd, hm]
  unfold E
  rw [he]
theorem Ring.E_mod (r x : Int) : E d s (r % N) x = E d s r x := by
  have h := R.E_per (r % N) x (r / N)
  rw [Int.emod_add_mul_ediv] at h
  exact h.symm
theorem Ring.ub (r : Int) {x : Int} (hx : 0 ≤ x) (k : Nat) (h : sumBack s r k ≤ x) : ch d s r k x ≤ E d s r x := (R.isE r hx).1 k h
theorem Ring.att (r : Int) {x : Int} (hx : 0 ≤ x) : ∃ k, sumBack s r k ≤ x ∧ ch d s r k x = E d s r x := (R.isE r hx).2
theorem Ring.low (r : Int) {x : Int} (hx : 0 ≤ x) : (x + 1) * d r ≤ E d s r x := by
  have h := R.ub r hx 0 hx
  have e : ch d s r 0 x = (x + 1) * d r := by
    unfold ch
    show 0 + d (r - (0 : Nat)) + (x - 0) * d r = _
    rw [show r - ((0 : Nat) : Int) = r by omega, Int.add_mul]
    simp
    omega
  omega
theorem Ring.E1 (r : Int) {x : Int} (hx : 0 ≤ x) : d r ≤ E d s r x := by
  have h := R.low r hx
  have h2 : (0 : Int) ≤ x * d r := Int.mul_nonneg hx (by have := R.d1 r; omega)
  rw [Int.add_mul] at h
  omega
/-- Bellman, from below -/
theorem Ring.next (r : Int) {x : Int} (hx : 0 ≤ x) : E d s r x + d r ≤ E d s r (x + 1) := by
  obtain ⟨k, hk, e⟩ := R.att r hx
  have h := R.ub r (x := x + 1) (by omega) k (by omega)
  have h2 := max_ge (f := d) r (j := 0) (k := k) (Nat.zero_le _)
  rw [show r - ((0 : Nat) : Int) = r by omega] at h2
  unfold ch at h e
  have e3 : (x + 1 - sumBack s r k) * maxBack d r k = (x - sumBack s r k) * maxBack d r k + maxBack d r k := by
    rw [show x + 1 - sumBack s r k = (x - sumBack s r k) + 1 by omega, Int.add_mul]
    omega
  omega
theorem Ring.from (r : Int) {x : Int} (hs : s r ≤ x) : E d s (r - 1) (x - s r) + d r ≤ E d s r x := by
  have hx : 0 ≤ x - s r := by omega
  have hx0 : 0 ≤ x := by have := R.s0 r; omega
  obtain ⟨k, hk, e⟩ := R.att (r - 1) hx
  have hS : sumBack s r (k + 1) = s r + sumBack s (r - 1) k := sum_front s k r
  have h := R.ub r hx0 (k + 1) (by omega)
  unfold ch at h e
  rw [sum_front d (k + 1) r, hS, max_front d k r] at h
  have e2 : x - (s r + sumBack s (r - 1) k) = x - s r - sumBack s (r - 1) k := by omega
  rw [e2] at h
  have h4 : (x - s r - sumBack s (r - 1) k) * maxBack d (r - 1) k ≤ (x - s r - sumBack s (r - 1) k) * max (d r) (maxBack d (r - 1) k) :=
    Int.mul_le_mul_of_nonneg_left (by omega) (by omega)
  omega
/-- .. from above -/
theorem Ring.bell (r : Int) {x : Int} (hx : 0 ≤ x) : E d s r x = d r ∨ (1 ≤ x ∧ E d s r x = E d s r (x - 1) + d r) ∨ (s r ≤ x ∧ E d s r x = E d s (r - 1) (x - s r) + d r) := by
  obtain ⟨k, hk, e⟩ := R.att r hx
  cases k with
  | zero =>
    have e0 : ch d s r 0 x = d r + x * d r := by
      unfold ch
      show 0 + d (r - (0 : Nat)) + (x - 0) * d r = _
      rw [show r - ((0 : Nat) : Int) = r by omega]
      simp
    by_cases h0 : x = 0
    · left
      subst h0
      simp at e0
      omega
    · right; left
      refine ⟨by omega, ?_⟩
      have h1 := R.ub r (x := x - 1) (by omega) 0 (by show (0 : Int) ≤ x - 1; omega)
      have e1 : ch d s r 0 (x - 1) = x * d r := by
        unfold ch
        show 0 + d (r - (0 : Nat)) + (x - 1 - 0) * d r = _
        rw [show r - ((0 : Nat) : Int) = r by omega, show x - 1 - 0 = x - 1 by omega, Int.sub_mul]
        omega
      have h2 := R.next r (x := x - 1) (by omega)
      rw [show x - 1 + 1 = x by omega] at h2
      omega
  | succ k =>
    have hS : sumBack s r (k + 1) = s r + sumBack s (r - 1) k := sum_front s k r
    have hnn := sum_nn R.s0 (r - 1) k
    have hsr : s r ≤ x := by omega
    have h1 := R.ub (r - 1) (x := x - s r) (by omega) k (by omega)
    have h3 := R.from r hsr
    have e' := e
    unfold ch at e' h1
    rw [sum_front d (k + 1) r, hS, max_front d k r, show x - (s r + sumBack s (r - 1) k) = x - s r - sumBack s (r - 1) k by omega] at e'
    by_cases hm : d r ≤ maxBack d (r - 1) k
    · right; right
      refine ⟨hsr, ?_⟩
      rw [show max (d r) (maxBack d (r - 1) k) = maxBack d (r - 1) k by omega] at e'
      omega
    · rw [show max (d r) (maxBack d (r - 1) k) = d r by omega] at e'
      by_cases hl : x - s r - sumBack s (r - 1) k = 0
      · right; right
        refine ⟨hsr, ?_⟩
        rw [hl] at e' h1
        simp at e' h1
        omega
      · right; left
        have hx1 : 1 ≤ x := by have := R.s0 r; omega
        refine ⟨hx1, ?_⟩
        have h5 := R.ub r (x := x - 1) (by omega) (k + 1) (by omega)
        unfold ch at h5
        rw [sum_front d (k + 1) r, hS, max_front d k r, show max (d r) (maxBack d (r - 1) k) = d r by omega,
          show x - 1 - (s r + sumBack s (r - 1) k) = (x - s r - sumBack s (r - 1) k) - 1 by omega, Int.sub_mul] at h5
        have h2 := R.next r (x := x - 1) (by omega)
        rw [show x - 1 + 1 = x by omega] at h2
        omega
end
end Rm
/-! Where ends repeat; counts by a day; heaps. -/
namespace Rm
def Rep (d s : Int → Int) (p q x : Int) : Prop := ∀ r, E d s r (x + p) = E d s r x + q
section
variable {N : Nat} {d s : Int → Int} {B T M : Int} (R : Ring N d s B T M)
include R
theorem Ring.T0 : 0 ≤ T := by
  have h := sum_nn (f := d) (fun i => by have := R.d1 i; omega) 0 N
  rw [R.t] at h
  exact h
theorem Ring.BM0 : 0 ≤ B * M := Int.mul_nonneg (by have := R.b1; omega) (by have := R.M1; omega)
theorem Ring.S_le (r : Int) {k m : Nat} (h : k ≤ m * N) : sumBack s r k ≤ m * B := by
  have h1 := sum_mono R.s0 r h
  have h2 := R.sumS r 0 m
  rw [Nat.zero_add] at h2
  rw [h2] at h1
  show sumBack s r k ≤ m * B
  have : sumBack s r 0 = 0 := rfl
  omega
/-- one more unit of x -/
theorem ch_succ (d s : Int → Int) (r : Int) (k : Nat) (x y : Int) : ch d s r k (x + y) = ch d s r k x + y * maxBack d r k := by
  unfold ch
  rw [show x + y - sumBack s r k = (x - sumBack s r k) + y by omega, Int.add_mul]
  omega
theorem Ring.rep_slow (hg : T ≤ B * M) {x : Int} (hx : 4 * B + B * M ≤ x) : Rep d s 1 M x := by
  intro r
  have hB := R.b1
  have hT := R.T0
  have hBM := R.BM0
  have hM := R.M1
  have hx0 : 0 ≤ x := by omega
  apply Int.le_antisymm
  · obtain ⟨k, hk, e⟩ := R.att r (x := x + 1) (by omega)
    by_cases hv : sumBack s r k ≤ x
    · have h1 := R.ub r hx0 k hv
      rw [ch_succ R d s r k x 1] at e
      have h2 := max_le R.mu r k
      omega
    · have hkN : 2 * N ≤ k := by
        rcases Nat.lt_or_ge k (2 * N) with h | h
        · have := R.S_le r (k := k) (m := 2) (by omega)
          omega
        · exact h
      obtain ⟨k', rfl⟩ : ∃ k', k = k' + 1 * N := ⟨k - 1 * N, by omega⟩
      rw [R.round r (x + 1) k' (by omega)] at e
      rw [R.sumS] at hk hv
      have h1 := R.ub r hx0 k' (by omega)
      unfold ch at h1
      rw [R.maxM r (k := k') (by omega)] at h1
      rw [show x + 1 - sumBack s r k' = (x - sumBack s r k') + 1 by omega, Int.add_mul] at e
      omega
  · obtain ⟨k, hk, e⟩ := R.att r hx0
    by_cases hm : maxBack d r k = M
    · have h1 := R.ub r (x := x + 1) (by omega) k (by omega)
      rw [ch_succ R d s r k x 1, hm] at h1
      omega
    · have hkN : k + 1 < N := by
        rcases Nat.lt_or_ge (k + 1) N with h | h
        · exact h
        · exact absurd (R.maxM r h) hm
      have hS := R.S_le r (k := k) (m := 1) (by omega)
      have h1 := R.ub r (x := x + 1) (by omega) (k + 1 * N) (by rw [R.sumS]; omega)
      rw [R.round r (x + 1) k (by omega)] at h1
      have h2 := max_le R.mu r k
      unfold ch at e
      have h3 : (x - sumBack s r k) * (maxBack d r k + 1) ≤ (x - sumBack s r k) * M := Int.mul_le_mul_of_nonneg_left (by omega) (by omega)
      rw [Int.mul_add] at h3
      rw [show x + 1 - sumBack s r k = (x - sumBack s r k) + 1 by omega, Int.add_mul] at h1
      omega
theorem Ring.rep_fast (hg : B * M < T) {x : Int} (hx : 4 * B + B * M ≤ x) : Rep d s B T x := by
  intro r
  have hB := R.b1
  have hBM := R.BM0
  have hx0 : 0 ≤ x := by omega
  apply Int.le_antisymm
  · obtain ⟨k, hk, e⟩ := R.att r (x := x + B) (by omega)
    by_cases hkN : 2 * N ≤ k + 1
    · obtain ⟨k', rfl⟩ : ∃ k', k = k' + 1 * N := ⟨k - 1 * N, by have := R.pos; omega⟩
      rw [R.round r (x + B) k' (by omega)] at e
      rw [R.sumS] at hk
      have h1 := R.ub r hx0 k' (by omega)
      unfold ch at h1
      rw [R.maxM r (k := k') (by omega)] at h1
      rw [show x + B - sumBack s r k' = (x - sumBack s r k') + B by omega, Int.add_mul] at e
      omega
    · have hS := R.S_le r (k := k) (m := 2) (by omega)
      have h1 := R.ub r hx0 (k + 1 * N) (by rw [R.sumS]; omega)
      rw [R.round r x k (by omega)] at h1
      unfold ch at e
      have h2 := max_le R.mu r k
      have h3 : (x + B - sumBack s r k) * maxBack d r k ≤ (x + B - sumBack s r k) * M := Int.mul_le_mul_of_nonneg_left h2 (by omega)
      rw [show x + B - sumBack s r k = (x - sumBack s r k) + B by omega, Int.add_mul, Int.add_mul] at h3
      rw [show x + B - sumBack s r k = (x - sumBack s r k) + B by omega, Int.add_mul] at e
      omega
  · obtain ⟨k, hk, e⟩ := R.att r hx0
    have h1 := R.ub r (x := x + B) (by omega) (k + 1 * N) (by rw [R.sumS]; omega)
    rw [R.round r (x + B) k (by omega)] at h1
    have h2 := max_le R.mu r k
    unfold ch at e
    have h3 : (x - sumBack s r k) * maxBack d r k ≤ (x - sumBack s r k) * M := Int.mul_le_mul_of_nonneg_left h2 (by omega)
    rw [show x + B - sumBack s r k = (x - sumBack s r k) + B by omega, Int.add_mul] at h1
    omega
theorem Ring.claim {p q m r : Int} (hp : 1 ≤ p) (hm : 1 ≤ m) (hsm : s r ≤ m) (h1 : E d s r (m - 1 + p) = E d s r (m - 1) + q) (h2 : E d s (r - 1) (m - s r + p) = E d s (r - 1) (m - s r) + q) : E d s r (m + p) = E d s r m + q := by
  have n1 := R.next r (x := m - 1) (by omega)
  have n2 := R.next r (x := m - 1 + p) (by omega)
  have f1 := R.from r (x := m) hsm
  have f2 := R.from r (x := m + p) (by omega)
  have b1 := R.bell r (x := m) (by omega)
  have b2 := R.bell r (x := m + p) (by omega)
  have e1 := R.E1 r (x := m - 1) (by omega)
  have e2 := R.E1 r (x := m - 1 + p) (by omega)
  have d1 := R.d1 r
  rw [show m - 1 + 1 = m by omega] at n1
  rw [show m - 1 + p + 1 = m + p by omega] at n2
  rw [show m + p - s r = m - s r + p by omega] at f2 b2
  rw [show m + p - 1 = m - 1 + p by omega] at b2
  rcases b1 with b1 | ⟨_, b1⟩ | ⟨_, b1⟩ <;> rcases b2 with b2 | ⟨_, b2⟩ | ⟨_, b2⟩ <;> omega
/-- as many in a row as the greatest number of books at first: then all later ones -/
theorem Ring.later {w p q n : Int} (hw : ∀ i, s i ≤ w) (hw1 : ∃ i, s i = w) (w1 : 1 ≤ w) (hp : 1 ≤ p) (hn : 0 ≤ n) (h : ∀ j, 0 ≤ j → j < w → Rep d s p q (n + j)) : ∀ m, n ≤ m → Rep d s p q m := by
  have go : ∀ k : Nat, ∀ m, n ≤ m → m - n < k → Rep d s p q m := by
    intro k
    induction k with
    | zero => intro m h1 h2; omega
    | succ k ih =>
      intro m h1 h2
      by_cases hmw : m < n + w
      · have := h (m - n) (by omega) (by omega)
        rw [show n + (m - n) = m by omega] at this
        exact this
      · obtain ⟨r0, hr0⟩ := hw1
        -- around the ring from r0
        have around : ∀ j : Nat, E d s (r0 + j) (m + p) = E d s (r0 + j) m + q := by
          intro j
          induction j with
          | zero =>
            have hs := hw r0
            refine R.claim hp (by omega) (by rw [show r0 + ((0 : Nat) : Int) = r0 by omega]; omega) (ih (m - 1) (by omega) (by omega) _) ?_
            rw [show r0 + ((0 : Nat) : Int) = r0 by omega]
            exact ih (m - s r0) (by omega) (by omega) _
          | succ j ihj =>
            have hs := hw (r0 + (j + 1 : Nat))
            have hs0 := R.s0 (r0 + (j + 1 : Nat))
            refine R.claim hp (by omega) (by omega) (ih (m - 1) (by omega) (by omega) _) ?_
            rw [show r0 + ((j + 1 : Nat) : Int) - 1 = r0 + j by omega]
            by_cases hz : s (r0 + (j + 1 : Nat)) = 0
            · rw [hz, show m - 0 = m by omega]
              exact ihj
            · exact ih (m - s (r0 + (j + 1 : Nat))) (by omega) (by omega) _
        intro r
        have hN := R.pos
        have a0 : 0 ≤ (r - r0) % (N : Int) := Int.emod_nonneg _ (by omega)
        have h3 := around ((r - r0) % (N : Int)).toNat
        have e3 : r0 + ((((r - r0) % (N : Int)).toNat : Nat) : Int) = r + N * (-((r - r0) / (N : Int))) := by
          have := Int.emod_add_mul_ediv (r - r0) (N : Int)
          rw [Int.mul_neg]
          omega
        rw [e3, R.E_per, R.E_per] at h3
        exact h3
  intro m hm
  exact go ((m - n).toNat + 1) m hm (by omega)
theorem Ring.rounds {p q n : Int} (hp : 1 ≤ p) (h : ∀ m, n ≤ m → Rep d s p q m) (r : Int) {x : Int} (hx : n ≤ x) : ∀ k : Nat, E d s r (x + k * p) = E d s r x + k * q
  | 0 => by simp
  | k + 1 => by
    have ih := Ring.rounds hp h r hx k
    have h0 : (0 : Int) ≤ (k : Int) * p := Int.mul_nonneg (Int.natCast_nonneg _) (by omega)
    have h1 := h (x + k * p) (by omega) r
    rw [show ((k + 1 : Nat) : Int) = (k : Int) + 1 by omega, Int.add_mul, Int.add_mul, Int.one_mul, Int.one_mul, ← Int.add_assoc, h1, ih]
    omega
theorem Ring.mono (r : Int) {x : Int} (hx : 0 ≤ x) : ∀ k : Nat, E d s r x + (k + 1) * d r ≤ E d s r (x + (k + 1))
  | 0 => by
    have := R.next r hx
    simpa using this
  | k + 1 => by
    have ih := Ring.mono r hx k
    have h1 := R.next r (x := x + (k + 1)) (by omega)
    rw [show ((k + 1 : Nat) : Int) = (k : Int) + 1 by omega, show x + ((k : Int) + 1 + 1) = x + ((k : Int) + 1) + 1 by omega, Int.add_mul ((k : Int) + 1) 1]
    omega
theorem Ring.lt (r : Int) {x y : Int} (hx : 0 ≤ x) (h : x < y) : E d s r x + d r ≤ E d s r y := by
  have h1 := R.mono r hx (y - x - 1).toNat
  rw [show ((((y - x - 1).toNat : Nat) : Int) + 1) = y - x by omega, show x + (y - x) = y by omega] at h1
  have h2 : (1 : Int) * d r ≤ (y - x) * d r := Int.mul_le_mul_of_nonneg_right (by omega) (by have := R.d1 r; omega)
  omega
theorem Ring.le (r : Int) {x y : Int} (hx : 0 ≤ x) (h : x ≤ y) : E d s r x ≤ E d s r y := by
  by_cases e : x = y
  · subst e
    exact Int.le_refl _
  · have := R.lt r hx (show x < y by omega)
    have := R.d1 r
    omega
end

/-- c readings of reader r have ended by day D -/
def Cnt (d s : Int → Int) (r D c : Int) : Prop := 0 ≤ c ∧ (c = 0 ∨ E d s r (c - 1) ≤ D) ∧ D < E d s r c
noncomputable def Cn (d s : Int → Int) (r D : Int) : Int := open Classical in if h : ∃ c, Cnt d s r D c then Classical.choose h else 0
section
variable {N : Nat} {d s : Int → Int} {B T M : Int} (R : Ring N d s B T M)
include R
theorem Ring.cnt_inj {r D c c' : Int} (h : Cnt d s r D c) (h' : Cnt d s r D c') : c = c' := by
  obtain ⟨a0, a1, a2⟩ := h
  obtain ⟨b0, b1, b2⟩ := h'
  rcases Int.lt_trichotomy c c' with z | z | z
  · have := R.le r (x := c) (y := c' - 1) a0 (by omega)
    omega
  · exact z
  · have := R.le r (x := c') (y := c - 1) b0 (by omega)
    omega
theorem Ring.cnt_ex (r D : Int) : ∃ c, Cnt d s r D c := by
  have go : ∀ n : Nat, D < E d s r n → ∃ c, Cnt d s r D c := by
    intro n
    induction n with
    | zero => intro h; exact ⟨0, by omega, .inl rfl, h⟩
    | succ n ih =>
      intro h
      by_cases hh : E d s r n ≤ D
      · exact ⟨((n + 1 : Nat) : Int), by omega, .inr (by rw [show ((n + 1 : Nat) : Int) - 1 = n by omega]; exact hh), h⟩
      · exact ih (by omega)
  refine go D.toNat ?_
  have h := R.low r (x := (D.toNat : Nat)) (by omega)
  have h2 : (((D.toNat : Nat) : Int) + 1) * 1 ≤ (((D.toNat : Nat) : Int) + 1) * d r := Int.mul_le_mul_of_nonneg_left (R.d1 r) (by omega)
  omega
theorem Ring.cn (r D : Int) : Cnt d s r D (Cn d s r D) := by
  have h := R.cnt_ex r D
  unfold Cn
  rw [dif_pos h]
  exact Classical.choose_spec h
theorem Ring.cn_of {r D c : Int} (h : Cnt d s r D c) : Cn d s r D = c := R.cnt_inj (R.cn r D) h
theorem Ring.cn_per (r D t : Int) : Cn d s (r + N * t) D = Cn d s r D := by
  refine R.cn_of ?_
  have h := R.cn r D
  unfold Cnt at h ⊢
  rw [R.E_per, R.E_per]
  exact h
theorem Ring.cn_mod (r D : Int) : Cn d s (r % N) D = Cn d s r D := by
  have h := R.cn_per (r % N) D (r / N)
  rw [Int.emod_add_mul_ediv] at h
  exact h.symm
theorem Ring.cn_end (r : Int) {x : Int} (hx : 0 ≤ x) : Cn d s r (E d s r x) = x + 1 := by
  refine R.cn_of ⟨by omega, .inr (by rw [show x + 1 - 1 = x by omega]; exact Int.le_refl _), ?_⟩
  have := R.lt r hx (show x < x + 1 by omega)
  have := R.d1 r
  omega
theorem Ring.cn_before (r : Int) {x : Int} (hx : 0 ≤ x) : Cn d s r (E d s r x - 1) = x := by
  refine R.cn_of ⟨hx, ?_, by omega⟩
  by_cases h : x = 0
  · exact .inl h
  · right
    have := R.lt r (x := x - 1) (y := x) (by omega) (by omega)
    have := R.d1 r
    omega
theorem Ring.cn_next (r D : Int) : Cn d s r D ≤ Cn d s r (D + d r) ∧ Cn d s r (D + d r) ≤ Cn d s r D + 1 := by
  obtain ⟨a0, a1, a2⟩ := R.cn r D
  obtain ⟨b0, b1, b2⟩ := R.cn r (D + d r)
  have d1 := R.d1 r
  constructor
  · rcases Int.lt_or_le (Cn d s r (D + d r)) (Cn d s r D) with z | z
    · rcases a1 with a1 | a1
      · omega
      · have := R.le r (x := Cn d s r (D + d r)) (y := Cn d s r D - 1) b0 (by omega)
        omega
    · exact z
  · rcases Int.lt_or_le (Cn d s r D + 1) (Cn d s r (D + d r)) with z | z
    · rcases b1 with b1 | b1
      · omega
      · have := R.lt r (x := Cn d s r D) (y := Cn d s r (D + d r) - 1) a0 (by omega)
        omega
    · exact z
/-- a reader who has a book and is not reading begins -/
theorem Ring.cn_reads {r D : Int} (hD : 0 ≤ D) (h : Cn d s r D < s r + Cn d s (r - 1) D) : Cn d s r D + 1 ≤ Cn d s r (D + d r) := by
  obtain ⟨a0, a1, a2⟩ := R.cn r D
  obtain ⟨b0, b1, b2⟩ := R.cn r (D + d r)
  obtain ⟨c0, c1, c2⟩ := R.cn (r - 1) D
  have hs := R.s0 r
  rcases Int.lt_or_le (Cn d s r (D + d r)) (Cn d s r D + 1) with z | z
  · have h1 := R.le r (x := Cn d s r (D + d r)) (y := Cn d s r D) b0 (by omega)
    have b := R.bell r (x := Cn d s r D) a0
    rcases b with b | ⟨h2, b⟩ | ⟨h2, b⟩
    · omega
    · rcases a1 with a1 | a1 <;> omega
    · rcases c1 with c1 | c1
      · omega
      · have h3 := R.le (r - 1) (x := Cn d s r D - s r) (y := Cn d s (r - 1) D - 1) (by omega) (by omega)
        omega
  · exact z
end
theorem sum_lin (f g h : Int → Int) (r : Int) : ∀ n : Nat, sumBack (fun j => f j + g (j - 1) - h j) r n = sumBack f r n + sumBack g (r - 1) n - sumBack h r n
  | 0 => by simp [sumBack]
  | n + 1 => by
    show sumBack (fun j => f j + g (j - 1) - h j) r n + (f (r - n) + g (r - n - 1) - h (r - n)) = sumBack f r n + f (r - n) + (sumBack g (r - 1) n + g (r - 1 - n)) - (sumBack h r n + h (r - n))
    rw [sum_lin f g h r n, show r - 1 - (n : Int) = r - n - 1 by omega]
    omega
theorem sum_win {f : Int → Int} {N : Nat} (hp : ∀ i t : Int, f (i + N * t) = f i) (r : Int) : sumBack f (r - 1) N = sumBack f r N := by
  have h1 := sum_front f N r
  have h2 : sumBack f r (N + 1) = sumBack f r N + f (r - N) := rfl
  have h3 := hp (r - N) 1
  rw [show r - (N : Int) + N * 1 = r by omega] at h3
  omega
theorem sum_le {f g : Int → Int} (h : ∀ i, f i ≤ g i) (r : Int) : ∀ n : Nat, sumBack f r n ≤ sumBack g r n
  | 0 => Int.le_refl _
  | n + 1 => by
    have h1 := sum_le h r n
    have h2 := h (r - n)
    show sumBack f r n + f (r - n) ≤ sumBack g r n + g (r - n)
    omega
theorem sum_lt {f g : Int → Int} (h : ∀ i, f i ≤ g i) (r : Int) : ∀ {n j : Nat}, j < n → f (r - j) < g (r - j) → sumBack f r n < sumBack g r n
  | 0, j, hj, _ => absurd hj (Nat.not_lt_zero _)
  | n + 1, j, hj, hh => by
    show sumBack f r n + f (r - n) < sumBack g r n + g (r - n)
    by_cases e : j = n
    · subst e
      have := sum_le h r j
      omega
    · have h1 := sum_lt h r (n := n) (j := j) (by omega) hh
      have h2 := h (r - n)
      omega
theorem sum_shift (f : Int → Int) (r c : Int) : ∀ n : Nat, sumBack (fun i => f i + c) r n = sumBack f r n + n * c
  | 0 => by simp [sumBack]
  | n + 1 => by
    show sumBack (fun i => f i + c) r n + (f (r - n) + c) = sumBack f r n + f (r - n) + ((n + 1 : Nat) : Int) * c
    rw [sum_shift f r c n, show ((n + 1 : Nat) : Int) = (n : Int) + 1 by omega, Int.add_mul]
    omega
section
variable {N : Nat} {d s : Int → Int} {B T M : Int} (R : Ring N d s B T M)
include R
/-- the heaps of a day, all together: fewer than all books, as at least one is being read; at most one a reader is -/
theorem Ring.heaps {D : Int} (hD : 0 ≤ D) (r : Int) : B - N ≤ sumBack (fun j => s j + Cn d s (j - 1) D - Cn d s j (D + d j)) r N ∧ sumBack (fun j => s j + Cn d s (j - 1) D - Cn d s j (D + d j)) r N < B := by
  rw [sum_lin s (fun j => Cn d s j D) (fun j => Cn d s j (D + d j)) r N, R.b, sum_win (f := fun j => Cn d s j D) (N := N) (fun i t => R.cn_per i D t)]
  have h1 := sum_le (f := fun j => Cn d s j D) (g := fun j => Cn d s j (D + d j)) (fun i => (R.cn_next i D).1) r N
  have h2 := sum_le (f := fun j => Cn d s j (D + d j)) (g := fun j => Cn d s j D + 1) (fun i => (R.cn_next i D).2) r N
  rw [sum_shift (fun j => Cn d s j D) r 1 N] at h2
  refine ⟨by omega, ?_⟩
  -- someone reads
  have some_reads : ∃ j : Nat, j < N ∧ Cn d s (r - j) D < Cn d s (r - j) (D + d (r - j)) := by
    apply Classical.byContradiction
    intro hno
    have hall : ∀ j : Nat, j < N → s (r - j) + Cn d s (r - j - 1) D ≤ Cn d s (r - j) D := by
      intro j hj
      apply Classical.byContradiction
      intro hh
      have := R.cn_reads (r := r - j) hD (by omega)
      exact hno ⟨j, hj, by omega⟩
    have go : ∀ n : Nat, n ≤ N → sumBack s r n + sumBack (fun j => Cn d s j D) (r - 1) n ≤ sumBack (fun j => Cn d s j D) r n := by
      intro n
      induction n with
      | zero => intro _; show (0 : Int) + 0 ≤ 0; omega
      | succ n ih =>
        intro hn
        have h3 := ih (by omega)
        have h4 := hall n (by omega)
        show sumBack s r n + s (r - n) + (sumBack (fun j => Cn d s j D) (r - 1) n + Cn d s (r - 1 - n) D) ≤ sumBack (fun j => Cn d s j D) r n + Cn d s (r - n) D
        rw [show r - 1 - (n : Int) = r - n - 1 by omega]
        omega
    have h5 := go N (Nat.le_refl _)
    rw [R.b, sum_win (f := fun j => Cn d s j D) (N := N) (fun i t => R.cn_per i D t)] at h5
    have := R.b1
    omega
  obtain ⟨j, hj, hjr⟩ := some_reads
  have h6 := sum_lt (f := fun j => Cn d s j D) (g := fun j => Cn d s j (D + d j)) (fun i => (R.cn_next i D).1) r hj hjr
  omega
end

/-! ### from lists -/
/-- round the list, from any index -/
def at' (l : List Int) (i : Int) : Int := l.getD (i % (l.length : Int)).toNat 0
theorem at_per (l : List Int) (i t : Int) : at' l (i + (l.length : Int) * t) = at' l i := by
  unfold at'
  rw [Int.add_mul_emod_self_left]
theorem at_nat {l : List Int} {j : Nat} {v : Int} (h : l[j]? = some v) : at' l (j : Int) = v := by
  have hj := (List.getElem?_eq_some_iff.mp h).1
  unfold at'
  rw [Int.emod_eq_of_lt (by omega) (by omega), List.getD_eq_getElem?_getD, Int.toNat_natCast, h]
  rfl
theorem at_mem {l : List Int} (hl : 0 < l.length) (i : Int) : at' l i ∈ l := by
  unfold at'
  have h0 : 0 ≤ i % (l.length : Int) := Int.emod_nonneg _ (by omega)
  have h1 : i % (l.length : Int) < l.length := Int.emod_lt_of_pos _ (by omega)
  rw [List.getD_eq_getElem?_getD, List.getElem?_eq_getElem (show (i % (l.length : Int)).toNat < l.length by omega)]
  exact List.getElem_mem _
theorem mem_at {l : List Int} {v : Int} (h : v ∈ l) : ∃ i, at' l i = v := by
  obtain ⟨j, hj, e⟩ := List.getElem_of_mem h
  exact ⟨j, at_nat (by rw [List.getElem?_eq_getElem hj, e])⟩
theorem sum_list (l : List Int) : sumBack (at' l) ((l.length : Int) - 1) l.length = l.sum := by
  have go : ∀ n : Nat, n ≤ l.length → sumBack (at' l) ((n : Int) - 1) n = (l.take n).sum := by
    intro n
    induction n with
    | zero => intro _; simp [sumBack]
    | succ n ih =>
      intro hn
      rw [show ((n + 1 : Nat) : Int) - 1 = n by omega, sum_front, ih (by omega), List.take_add_one, List.sum_append, at_nat (List.getElem?_eq_getElem (show n < l.length by omega)), List.getElem?_eq_getElem (show n < l.length by omega)]
      simp
      omega
  have h := go l.length (Nat.le_refl _)
  rw [List.take_length] at h
  exact h
theorem sum_any {f : Int → Int} {N : Nat} (hp : ∀ i t : Int, f (i + N * t) = f i) (p q : Int) : sumBack f p N = sumBack f q N := by
  have go : ∀ (n : Nat) (r : Int), sumBack f (r - n) N = sumBack f r N := by
    intro n
    induction n with
    | zero => intro r; rw [show r - ((0 : Nat) : Int) = r by omega]
    | succ n ih =>
      intro r
      rw [show r - ((n + 1 : Nat) : Int) = r - n - 1 by omega, sum_win hp, ih]
  rcases Int.le_total p q with h | h
  · have := go (q - p).toNat q
    rw [show q - ((q - p).toNat : Int) = p by omega] at this
    exact this
  · have := go (p - q).toNat p
    rw [show p - ((p - q).toNat : Int) = q by omega] at this
    exact this.symm
theorem ring_of {ds ss : List Int} {M : Int} (hl : 0 < ds.length) (hls : ss.length = ds.length) (h1 : ∀ y ∈ ds, 1 ≤ y) (h2 : ∀ y ∈ ss, 0 ≤ y) (hB : 1 ≤ ss.sum) (hM : M ∈ ds) (hMu : ∀ y ∈ ds, y ≤ M) :
    Ring ds.length (at' ds) (at' ss) ss.sum ds.sum M where
  pos := hl
  dper := at_per ds
  sper := by rw [← hls]; exact at_per ss
  d1 := fun i => h1 _ (at_mem hl i)
  s0 := fun i => h2 _ (at_mem (by omega) i)
  b := fun r => by
    rw [sum_any (f := at' ss) (N := ds.length) (by rw [← hls]; exact at_per ss) r ((ss.length : Int) - 1), ← hls]
    exact sum_list ss
  b1 := hB
  t := fun r => by
    rw [sum_any (f := at' ds) (N := ds.length) (at_per ds) r ((ds.length : Int) - 1)]
    exact sum_list ds
  mu := fun i => hMu _ (at_mem hl i)
  ma := mem_at hM
end Rm
/-! An own exception class with its own __init__, which calls its own base's. -/
namespace Rp
open PySem PySem.Spec PyProof.Rows L2
/-- the slots that a class over ValueError has -/
def oxS : List (Option Value) → Bool
  | [_, _, _, _, some (.builtin n), _] => n == "ValueError.__new__"
  | _ => false
/-- the record of such a class -/
def oxO (C : Addr) : Obj → Bool
  | ⟨.type t, _, .cls cd, sl⟩ => t == "type" && cd.hasDict && !cd.hasDel && oxS sl.toList && (match cd.mro with
    | .ref c :: r => c == C && PySem.HandSPX.refsVE r
    | _ => false)
  | _ => false
def oxB (K : PySem.W.Frag) (C : Addr) : Bool := (K.lookup C).any (oxO C) && (decide (PySem.W.findIn K (.ref C) "__setattr__" = some (some (.builtin "object.__setattr__"))) && (decide (PySem.W.subIn K (.ref C) (.type "BaseException") = some true) && (decide (PySem.W.typeIn K (.ref C) = some (.type "type")) && PySem.W.keepIn K (.ref C))))
theorem oxB_ok {K : PySem.W.Frag} {C : Addr} (h : oxB K C = true) : OexC K C := by
  unfold oxB at h
  simp only [Bool.and_eq_true, decide_eq_true_eq] at h
  obtain ⟨h0, h1, h2, h3, h4⟩ := h
  refine ⟨?_, h1, h2, h3, h4⟩
  cases e : K.lookup C with
  | none => rw [e] at h0; cases h0
  | some o =>
    rw [e] at h0
    have h0 : oxO C o = true := h0
    unfold oxO at h0
    split at h0
    · rename_i t dd cd sl q0
      simp only [Bool.and_eq_true, beq_iff_eq, Bool.not_eq_true'] at h0
      obtain ⟨⟨⟨⟨rfl, hd⟩, hl⟩, hs⟩, hm⟩ := h0
      unfold oxS at hs
      split at hs
      · rename_i k0 k1 k2 k3 n k5 es
        have hn : n = "ValueError.__new__" := beq_iff_eq.mp hs
        subst hn
        split at hm
        · rename_i c r em
          simp only [Bool.and_eq_true, beq_iff_eq] at hm
          obtain ⟨rfl, hr⟩ := hm
          obtain ⟨nm, bs, mro, ns, qn, hdct, sn, sub, ab, col, del⟩ := cd
          have hd : hdct = true := hd
          have hl : del = false := hl
          have em : mro = _ := em
          subst hd hl em
          have esl : sl = #[k0, k1, k2, k3, some (.builtin "ValueError.__new__"), k5] := by
            obtain ⟨l⟩ := sl
            simp only at es
            rw [es]
          subst esl
          exact ⟨nm, qn, ns, bs, r, sn, sub, ab, col, dd, k0, k1, k2, k3, k5, rfl, hr⟩
        · cases hm
      · cases hs
    · cases h0
section
variable {X : Cx} {e : Expr} {es : List Expr} {ta : TA} {p1 p2 pos : Pos}
/-- Base.__init__(self, ..), Base an own class over ValueError -/
theorem pe_reinit {pl : Sem Bool} {x : Str} {B : Addr} {mc : Value} (hg : Gl X x) (hm : X.mg x = some (.ref B)) (r : ClX.CRead X.K B mc) (vV : PySem.W.findCls X.K (.ref B) mc "__init__" = some (.val (.builtin "ValueError.__init__"))) (ha : PA X (e :: es) ta)
    (hc : eval (.Call (.Attribute (.Name x p1) "__init__" p2) (e :: es) [] pos) X.env = (do
      let ov ← eval (.Name x p1) X.env
      standAt p2.atName
      let (f, first) ← holding [ov] (getMethod ov "__init__" pl)
      callWith pos f first (backTo pos (starEach (e :: es) X.env)) (backToKw pos (keywordEach [] X.env))) := by rfl)
    (hdb : (x == ("__debug__" : Str)) = false := by decide) (he : starEach (e :: es) X.env = (false, eval e X.env) :: starEach es X.env := by rfl) (hpl : (backTo pos (starEach es X.env)).any (·.1) = false := by rfl) :
    PE X (.Call (.Attribute (.Name x p1) "__init__" p2) (e :: es) [] pos) (tVeI X.K ta) := by
  refine ⟨fun pins s σ H Q I h => ?_⟩
  refine PySem.W.methodCall_KW (ld_glob I hg hm ?_ hdb) hc
  refine PySem.W.method_cls I.kIn r.ga (PySem.W.cls_value I.kIn r.rd vV (by decide +kernel) ?_)
  show wpAny _ _ (callWith pos (Value.builtin "ValueError.__init__") [] (backTo pos (starEach (e :: es) X.env)) []) _ _ _
  refine PyProof.Rows.callWith_method1 (thn (ha.run pos pins _ σ H _ (I.tok _) h) fun us s1 ⟨vs, H1, I1, r1, a, C, ws, ev, hl, T, ea, q⟩ => ?_) he hpl
  subst ev
  cases r1 with
  | @cons _ u0 _ ur ra rw' =>
    obtain rfl : u0 = Value.ref a := ra
    exact oinit_ok T I1 ea (by rw [← Paired.length rw', sizeLine_eq]; omega) fun s' J => ⟨.non, H1, J, rfl, q⟩
end
end Rp
namespace Rp
open PySem PySem.Spec PyProof.Rows L2
def topS (i : Nat) : Stmt := PySem.Challenge.pw_readingring_k01_rings_and_their_signs.main.body.getD i (.Pass ⟨0, 0, 0, 0⟩)
abbrev s_iInvalidRing : Stmt := inClass (topS 3) 0
abbrev s_is_number : Stmt := topS 12
abbrev s_lies_between : Stmt := topS 13
abbrev s_check_number : Stmt := topS 14
abbrev s_check_reader : Stmt := topS 15
abbrev s_rinit : Stmt := inClass (topS 21) 0
abbrev s_rsingle : Stmt := inClass (topS 21) 1
abbrev s_rdays : Stmt := inClass (topS 21) 2
abbrev s_rstarts : Stmt := inClass (topS 21) 3
abbrev s_rbooks : Stmt := inClass (topS 21) 4
abbrev s_rpace : Stmt := inClass (topS 21) 5
abbrev s_rwith_days : Stmt := inClass (topS 21) 6
abbrev s_rlen : Stmt := inClass (topS 21) 7
abbrev s_rgetitem : Stmt := inClass (topS 21) 8
abbrev s_rcall : Stmt := inClass (topS 21) 10
abbrev s_rrshift : Stmt := inClass (topS 21) 11
abbrev s_req : Stmt := inClass (topS 21) 12
abbrev s_check_part : Stmt := topS 22
abbrev s_slowest_decides : Stmt := topS 23
abbrev s_pace_of : Stmt := topS 24
abbrev s_round_pace : Stmt := topS 25
abbrev s_end_day : Stmt := topS 26
abbrev s_ldice : Stmt := topS 28
abbrev s_lnext : Stmt := topS 29
abbrev s_llike : Stmt := topS 30
abbrev s_lpick : Stmt := topS 31
abbrev s_ltold : Stmt := topS 32
abbrev s_lring : Stmt := topS 33
abbrev s_lterms : Stmt := topS 34
abbrev s_lpace : Stmt := topS 35
abbrev s_lbad_rings : Stmt := topS 36
abbrev s_law : Stmt := topS 37
abbrev N_iInvalidRing : List Str := ["self", "part", "index"]
abbrev P_iInvalidRing : List Str := ["self", "part", "index"]
theorem sc_iInvalidRing : FnScope N_iInvalidRing P_iInvalidRing (defScope s_iInvalidRing) := ⟨rfl, rfl, rfl, by decide +kernel, rfl, by decide +kernel, by decide +kernel⟩
abbrev N_is_number : List Str := ["value"]
abbrev P_is_number : List Str := ["value"]
theorem sc_is_number : FnScope N_is_number P_is_number (defScope s_is_number) := ⟨rfl, rfl, rfl, by decide +kernel, rfl, by decide +kernel, by decide +kernel⟩
abbrev N_lies_between : List Str := ["value", "low", "high"]
abbrev P_lies_between : List Str := ["value", "low", "high"]
theorem sc_lies_between : FnScope N_lies_between P_lies_between (defScope s_lies_between) := ⟨rfl, rfl, rfl, by decide +kernel, rfl, by decide +kernel, by decide +kernel⟩
abbrev N_check_number : List Str := ["value", "low", "high"]
abbrev P_check_number : List Str := ["value", "low", "high"]
theorem sc_check_number : FnScope N_check_number P_check_number (defScope s_check_number) := ⟨rfl, rfl, rfl, by decide +kernel, rfl, by decide +kernel, by decide +kernel⟩
abbrev N_check_reader : List Str := ["ring", "reader"]
abbrev P_check_reader : List Str := ["ring", "reader"]
theorem sc_check_reader : FnScope N_check_reader P_check_reader (defScope s_check_reader) := ⟨rfl, rfl, rfl, by decide +kernel, rfl, by decide +kernel, by decide +kernel⟩
abbrev N_rinit : List Str := ["self", "days", "starts"]
abbrev P_rinit : List Str := ["self", "days", "starts"]
theorem sc_rinit : FnScope N_rinit P_rinit (defScope s_rinit) := ⟨rfl, rfl, rfl, by decide +kernel, rfl, by decide +kernel, by decide +kernel⟩
abbrev N_rsingle : List Str := ["cls", "days"]
abbrev P_rsingle : List Str := ["cls", "days"]
theorem sc_rsingle : FnScope N_rsingle P_rsingle (defScope s_rsingle) := ⟨rfl, rfl, rfl, by decide +kernel, rfl, by decide +kernel, by decide +kernel⟩
abbrev N_rdays : List Str := ["self"]
abbrev P_rdays : List Str := ["self"]
theorem sc_rdays : FnScope N_rdays P_rdays (defScope s_rdays) := ⟨rfl, rfl, rfl, by decide +kernel, rfl, by decide +kernel, by decide +kernel⟩
abbrev N_rstarts : List Str := ["self"]
abbrev P_rstarts : List Str := ["self"]
theorem sc_rstarts : FnScope N_rstarts P_rstarts (defScope s_rstarts) := ⟨rfl, rfl, rfl, by decide +kernel, rfl, by decide +kernel, by decide +kernel⟩
abbrev N_rbooks : List Str := ["self"]
abbrev P_rbooks : List Str := ["self"]
theorem sc_rbooks : FnScope N_rbooks P_rbooks (defScope s_rbooks) := ⟨rfl, rfl, rfl, by decide +kernel, rfl, by decide +kernel, by decide +kernel⟩
abbrev N_rpace : List Str := ["self"]
abbrev P_rpace : List Str := ["self"]
theorem sc_rpace : FnScope N_rpace P_rpace (defScope s_rpace) := ⟨rfl, rfl, rfl, by decide +kernel, rfl, by decide +kernel, by decide +kernel⟩
abbrev N_rwith_days : List Str := ["self", "reader", "days", "changed"]
abbrev P_rwith_days : List Str := ["self", "reader", "days"]
theorem sc_rwith_days : FnScope N_rwith_days P_rwith_days (defScope s_rwith_days) := ⟨rfl, rfl, rfl, by decide +kernel, rfl, by decide +kernel, by decide +kernel⟩
abbrev N_rlen : List Str := ["self"]
abbrev P_rlen : List Str := ["self"]
theorem sc_rlen : FnScope N_rlen P_rlen (defScope s_rlen) := ⟨rfl, rfl, rfl, by decide +kernel, rfl, by decide +kernel, by decide +kernel⟩
abbrev N_rgetitem : List Str := ["self", "at"]
abbrev P_rgetitem : List Str := ["self", "at"]
theorem sc_rgetitem : FnScope N_rgetitem P_rgetitem (defScope s_rgetitem) := ⟨rfl, rfl, rfl, by decide +kernel, rfl, by decide +kernel, by decide +kernel⟩
abbrev N_rcall : List Str := ["self", "reader", "number"]
abbrev P_rcall : List Str := ["self", "reader", "number"]
theorem sc_rcall : FnScope N_rcall P_rcall (defScope s_rcall) := ⟨rfl, rfl, rfl, by decide +kernel, rfl, by decide +kernel, by decide +kernel⟩
abbrev N_rrshift : List Str := ["self", "other", "days", "starts"]
abbrev P_rrshift : List Str := ["self", "other"]
theorem sc_rrshift : FnScope N_rrshift P_rrshift (defScope s_rrshift) := ⟨rfl, rfl, rfl, by decide +kernel, rfl, by decide +kernel, by decide +kernel⟩
abbrev N_req : List Str := ["self", "other"]
abbrev P_req : List Str := ["self", "other"]
theorem sc_req : FnScope N_req P_req (defScope s_req) := ⟨rfl, rfl, rfl, by decide +kernel, rfl, by decide +kernel, by decide +kernel⟩
abbrev N_check_part : List Str := ["part", "values", "limits", "lengths", "low", "high", "fewest", "most", "index", "value"]
abbrev P_check_part : List Str := ["part", "values", "limits", "lengths"]
theorem sc_check_part : FnScope N_check_part P_check_part (defScope s_check_part) := ⟨rfl, rfl, rfl, by decide +kernel, rfl, by decide +kernel, by decide +kernel⟩
abbrev N_slowest_decides : List Str := ["days", "books"]
abbrev P_slowest_decides : List Str := ["days", "books"]
theorem sc_slowest_decides : FnScope N_slowest_decides P_slowest_decides (defScope s_slowest_decides) := ⟨rfl, rfl, rfl, by decide +kernel, rfl, by decide +kernel, by decide +kernel⟩
abbrev N_pace_of : List Str := ["days", "books"]
abbrev P_pace_of : List Str := ["days", "books"]
theorem sc_pace_of : FnScope N_pace_of P_pace_of (defScope s_pace_of) := ⟨rfl, rfl, rfl, by decide +kernel, rfl, by decide +kernel, by decide +kernel⟩
abbrev N_round_pace : List Str := ["days", "books", "common"]
abbrev P_round_pace : List Str := ["days", "books"]
theorem sc_round_pace : FnScope N_round_pace P_round_pace (defScope s_round_pace) := ⟨rfl, rfl, rfl, by decide +kernel, rfl, by decide +kernel, by decide +kernel⟩
abbrev N_end_day : List Str := ["ring", "reader", "number", "books", "slowest", "gain", "latest", "total", "slowest_met", "left", "step", "rounds"]
abbrev P_end_day : List Str := ["ring", "reader", "number"]
theorem sc_end_day : FnScope N_end_day P_end_day (defScope s_end_day) := ⟨rfl, rfl, rfl, by decide +kernel, rfl, by decide +kernel, by decide +kernel⟩
abbrev N_ldice : List Str := ["_law_script", "_law_mixed", "_law_cell"]
abbrev P_ldice : List Str := ["_law_script"]
theorem sc_ldice : FnScope N_ldice P_ldice (defScope s_ldice) := ⟨rfl, rfl, rfl, by decide +kernel, rfl, by decide +kernel, by decide +kernel⟩
abbrev N_lnext : List Str := ["_law_dice_here", "_law_many", "_law_found", "_law_cell"]
abbrev P_lnext : List Str := ["_law_dice_here", "_law_many"]
theorem sc_lnext : FnScope N_lnext P_lnext (defScope s_lnext) := ⟨rfl, rfl, rfl, by decide +kernel, rfl, by decide +kernel, by decide +kernel⟩
abbrev N_llike : List Str := ["_law_found", "_law_due", "_law_k"]
abbrev P_llike : List Str := ["_law_found", "_law_due"]
theorem sc_llike : FnScope N_llike P_llike (defScope s_llike) := ⟨rfl, rfl, rfl, by decide +kernel, rfl, by decide +kernel, by decide +kernel⟩
abbrev N_lpick : List Str := ["_law_d", "_law_some"]
abbrev P_lpick : List Str := ["_law_d", "_law_some"]
theorem sc_lpick : FnScope N_lpick P_lpick (defScope s_lpick) := ⟨rfl, rfl, rfl, by decide +kernel, rfl, by decide +kernel, by decide +kernel⟩
abbrev N_ltold : List Str := ["_law_work", "e", "_law_some", "_law_k"]
abbrev P_ltold : List Str := ["_law_work"]
theorem sc_ltold : FnScope N_ltold P_ltold (defScope s_ltold) := ⟨rfl, rfl, rfl, by decide +kernel, rfl, by decide +kernel, by decide +kernel⟩
abbrev N_lring : List Str := ["_law_d", "_law_size", "_law_most", "_law_count", "_law_days", "_law_starts", "_law_k"]
abbrev P_lring : List Str := ["_law_d", "_law_size", "_law_most"]
theorem sc_lring : FnScope N_lring P_lring (defScope s_lring) := ⟨rfl, rfl, rfl, by decide +kernel, rfl, by decide +kernel, by decide +kernel⟩
abbrev N_lterms : List Str := ["_law_one", "_law_other", "_law_low", "_law_k"]
abbrev P_lterms : List Str := ["_law_one", "_law_other"]
theorem sc_lterms : FnScope N_lterms P_lterms (defScope s_lterms) := ⟨rfl, rfl, rfl, by decide +kernel, rfl, by decide +kernel, by decide +kernel⟩
abbrev N_lpace : List Str := ["_law_days", "_law_books"]
abbrev P_lpace : List Str := ["_law_days", "_law_books"]
theorem sc_lpace : FnScope N_lpace P_lpace (defScope s_lpace) := ⟨rfl, rfl, rfl, by decide +kernel, rfl, by decide +kernel, by decide +kernel⟩
abbrev N_lbad_rings : List Str := ["_law_d", "_law_days", "_law_starts", "_law_k", "_law_odd", "_law_bad", "_law_zeros", "_law_size", "_law_rows", "_law_one", "_law_two", "_law_part", "_law_index"]
abbrev P_lbad_rings : List Str := ["_law_d", "_law_days", "_law_starts"]
theorem sc_lbad_rings : FnScope N_lbad_rings P_lbad_rings (defScope s_lbad_rings) := ⟨rfl, rfl, rfl, by decide +kernel, rfl, by decide +kernel, by decide +kernel⟩
abbrev N_law : List Str := ["_law_script", "_law_d", "_law_turn", "_law_days", "_law_starts", "_law_ring_here", "_law_size", "_law_k", "_law_turned", "_law_other", "_law_bad", "_law_new", "_law_due"]
abbrev P_law : List Str := ["_law_script"]
theorem sc_law : FnScope N_law P_law (defScope s_law) := ⟨rfl, rfl, rfl, by decide +kernel, rfl, by decide +kernel, by decide +kernel⟩
/-- what the top has written: the defs where they stand, the class, constants, built-ins that are still so -/
structure Tx (K : PySem.W.Frag) (mg : Str → Option Value) where
  C : Addr
  a_iInvalidRing : Addr
  d_iInvalidRing : FuncData
  F_iInvalidRing : Fun K "__init__" "InvalidRing.__init__" s_iInvalidRing a_iInvalidRing d_iInvalidRing
  b_iInvalidRing : Binds K d_iInvalidRing P_iInvalidRing []
  c_iInvalidRing : Addr
  gc_iInvalidRing : mg "InvalidRing" = some (.ref c_iInvalidRing)
  ic_iInvalidRing : PySem.W.findIn K (.ref c_iInvalidRing) "__init__" = some (some (.ref a_iInvalidRing))
  it_iInvalidRing : PySem.W.typeIn K (.ref a_iInvalidRing) = some (.type "function")
  io_iInvalidRing : oxB K c_iInvalidRing = true
  a_is_number : Addr
  d_is_number : FuncData
  F_is_number : Fun K "is_number" "is_number" s_is_number a_is_number d_is_number
  b_is_number : Binds K d_is_number P_is_number []
  g_is_number : mg "is_number" = some (.ref a_is_number)
  a_lies_between : Addr
  d_lies_between : FuncData
  F_lies_between : Fun K "lies_between" "lies_between" s_lies_between a_lies_between d_lies_between
  b_lies_between : Binds K d_lies_between P_lies_between []
  g_lies_between : mg "lies_between" = some (.ref a_lies_between)
  a_check_number : Addr
  d_check_number : FuncData
  F_check_number : Fun K "check_number" "check_number" s_check_number a_check_number d_check_number
  b_check_number : Binds K d_check_number P_check_number []
  g_check_number : mg "check_number" = some (.ref a_check_number)
  a_check_reader : Addr
  d_check_reader : FuncData
  F_check_reader : Fun K "check_reader" "check_reader" s_check_reader a_check_reader d_check_reader
  b_check_reader : Binds K d_check_reader P_check_reader []
  g_check_reader : mg "check_reader" = some (.ref a_check_reader)
  a_rinit : Addr
  d_rinit : FuncData
  F_rinit : Fun K "__init__" "Ring.__init__" s_rinit a_rinit d_rinit
  b_rinit : Binds K d_rinit P_rinit []
  a_rsingle : Addr
  d_rsingle : FuncData
  F_rsingle : Fun K "single" "Ring.single" s_rsingle a_rsingle d_rsingle
  p_rsingle : Addr
  crd : ClX.CRead K C (.type "type")
  cmS : ClX.CMet K C (.type "type") "single" p_rsingle a_rsingle
  a_rdays : Addr
  d_rdays : FuncData
  F_rdays : Fun K "days" "Ring.days" s_rdays a_rdays d_rdays
  b_rdays : Binds K d_rdays P_rdays []
  a_rstarts : Addr
  d_rstarts : FuncData
  F_rstarts : Fun K "starts" "Ring.starts" s_rstarts a_rstarts d_rstarts
  b_rstarts : Binds K d_rstarts P_rstarts []
  a_rbooks : Addr
  d_rbooks : FuncData
  F_rbooks : Fun K "books" "Ring.books" s_rbooks a_rbooks d_rbooks
  b_rbooks : Binds K d_rbooks P_rbooks []
  a_rpace : Addr
  d_rpace : FuncData
  F_rpace : Fun K "pace" "Ring.pace" s_rpace a_rpace d_rpace
  b_rpace : Binds K d_rpace P_rpace []
  a_rwith_days : Addr
  d_rwith_days : FuncData
  F_rwith_days : Fun K "with_days" "Ring.with_days" s_rwith_days a_rwith_days d_rwith_days
  b_rwith_days : Binds K d_rwith_days P_rwith_days []
  a_rlen : Addr
  d_rlen : FuncData
  F_rlen : Fun K "__len__" "Ring.__len__" s_rlen a_rlen d_rlen
  b_rlen : Binds K d_rlen P_rlen []
  a_rgetitem : Addr
  d_rgetitem : FuncData
  F_rgetitem : Fun K "__getitem__" "Ring.__getitem__" s_rgetitem a_rgetitem d_rgetitem
  b_rgetitem : Binds K d_rgetitem P_rgetitem []
  a_rcall : Addr
  d_rcall : FuncData
  F_rcall : Fun K "__call__" "Ring.__call__" s_rcall a_rcall d_rcall
  b_rcall : Binds K d_rcall P_rcall []
  a_rrshift : Addr
  d_rrshift : FuncData
  F_rrshift : Fun K "__rshift__" "Ring.__rshift__" s_rrshift a_rrshift d_rrshift
  b_rrshift : Binds K d_rrshift P_rrshift []
  a_req : Addr
  d_req : FuncData
  F_req : Fun K "__eq__" "Ring.__eq__" s_req a_req d_req
  b_req : Binds K d_req P_req []
  a_check_part : Addr
  d_check_part : FuncData
  F_check_part : Fun K "check_part" "check_part" s_check_part a_check_part d_check_part
  b_check_part : Binds K d_check_part P_check_part []
  g_check_part : mg "check_part" = some (.ref a_check_part)
  a_slowest_decides : Addr
  d_slowest_decides : FuncData
  F_slowest_decides : Fun K "slowest_decides" "slowest_decides" s_slowest_decides a_slowest_decides d_slowest_decides
  b_slowest_decides : Binds K d_slowest_decides P_slowest_decides []
  g_slowest_decides : mg "slowest_decides" = some (.ref a_slowest_decides)
  a_pace_of : Addr
  d_pace_of : FuncData
  F_pace_of : Fun K "pace_of" "pace_of" s_pace_of a_pace_of d_pace_of
  b_pace_of : Binds K d_pace_of P_pace_of []
  g_pace_of : mg "pace_of" = some (.ref a_pace_of)
  a_round_pace : Addr
  d_round_pace : FuncData
  F_round_pace : Fun K "round_pace" "round_pace" s_round_pace a_round_pace d_round_pace
  b_round_pace : Binds K d_round_pace P_round_pace []
  g_round_pace : mg "round_pace" = some (.ref a_round_pace)
  a_end_day : Addr
  d_end_day : FuncData
  F_end_day : Fun K "end_day" "end_day" s_end_day a_end_day d_end_day
  b_end_day : Binds K d_end_day P_end_day []
  g_end_day : mg "end_day" = some (.ref a_end_day)
  a_ldice : Addr
  d_ldice : FuncData
  F_ldice : Fun K "_law_dice" "_law_dice" s_ldice a_ldice d_ldice
  b_ldice : Binds K d_ldice P_ldice []
  g_ldice : mg "_law_dice" = some (.ref a_ldice)
  a_lnext : Addr
  d_lnext : FuncData
  F_lnext : Fun K "_law_next" "_law_next" s_lnext a_lnext d_lnext
  b_lnext : Binds K d_lnext P_lnext []
  g_lnext : mg "_law_next" = some (.ref a_lnext)
  a_llike : Addr
  d_llike : FuncData
  F_llike : Fun K "_law_like" "_law_like" s_llike a_llike d_llike
  b_llike : Binds K d_llike P_llike []
  g_llike : mg "_law_like" = some (.ref a_llike)
  a_lpick : Addr
  d_lpick : FuncData
  F_lpick : Fun K "_law_pick" "_law_pick" s_lpick a_lpick d_lpick
  b_lpick : Binds K d_lpick P_lpick []
  g_lpick : mg "_law_pick" = some (.ref a_lpick)
  a_ltold : Addr
  d_ltold : FuncData
  F_ltold : Fun K "_law_told" "_law_told" s_ltold a_ltold d_ltold
  b_ltold : Binds K d_ltold P_ltold []
  g_ltold : mg "_law_told" = some (.ref a_ltold)
  a_lring : Addr
  d_lring : FuncData
  F_lring : Fun K "_law_ring" "_law_ring" s_lring a_lring d_lring
  b_lring : Binds K d_lring P_lring []
  g_lring : mg "_law_ring" = some (.ref a_lring)
  a_lterms : Addr
  d_lterms : FuncData
  F_lterms : Fun K "_law_terms" "_law_terms" s_lterms a_lterms d_lterms
  b_lterms : Binds K d_lterms P_lterms []
  g_lterms : mg "_law_terms" = some (.ref a_lterms)
  a_lpace : Addr
  d_lpace : FuncData
  F_lpace : Fun K "_law_pace" "_law_pace" s_lpace a_lpace d_lpace
  b_lpace : Binds K d_lpace P_lpace []
  g_lpace : mg "_law_pace" = some (.ref a_lpace)
  a_lbad_rings : Addr
  d_lbad_rings : FuncData
  F_lbad_rings : Fun K "_law_bad_rings" "_law_bad_rings" s_lbad_rings a_lbad_rings d_lbad_rings
  b_lbad_rings : Binds K d_lbad_rings P_lbad_rings []
  g_lbad_rings : mg "_law_bad_rings" = some (.ref a_lbad_rings)
  a_law : Addr
  d_law : FuncData
  F_law : Fun K "law" "law" s_law a_law d_law
  b_law : Binds K d_law P_law []
  g_law : mg "law" = some (.ref a_law)
  cl : Cls K C
  nD : NoAttr K C "_days"
  nS : NoAttr K C "_starts"
  mkR : Mk K C a_rinit
  gC : mg "Ring" = some (.ref C)
  p_rdays : Addr
  q_rdays : PropOf K C "days" p_rdays a_rdays
  p_rstarts : Addr
  q_rstarts : PropOf K C "starts" p_rstarts a_rstarts
  p_rbooks : Addr
  q_rbooks : PropOf K C "books" p_rbooks a_rbooks
  p_rpace : Addr
  q_rpace : PropOf K C "pace" p_rpace a_rpace
  lenC : PySem.W.findIn K (.ref C) "__len__" = some (some (.ref a_rlen))
  lenF : PySem.W.isFn K (.ref a_rlen) = true
  callC : StX.CallO K C a_rcall
  shC : PySem.W.findIn K (.ref C) "__rshift__" = some (some (.ref a_rrshift))
  shF : PySem.W.isFn K (.ref a_rrshift) = true
  shN : PySem.W.findIn K (.ref C) "__rrshift__" = some none
  shI : ∃ fo, PySem.W.findIn K (.type "int") "__rshift__" = some fo
  shJ : ∃ ro, PySem.W.findIn K (.type "int") "__rrshift__" = some ro
  shS : PySem.W.subIn K (.type "int") (.ref C) = some false
  sfC : PySem.W.selfFirst K C = true
  clsC : PySem.W.findIn K (.ref C) "__class__" = some (some (.builtin "object.__class__"))
  clsG : PySem.W.specialIn K (.builtin "object.__class__") "__get__" = some (some (.builtin "getset_descriptor.__get__"))
  clsT : PySem.W.takesIn K (.builtin "object.__class__") = some true
  clsM : PySem.W.mroIn K C (.type "object") = some true
  eqC : PySem.W.findIn K (.ref C) "__eq__" = some (some (.ref a_req))
  eqF : PySem.W.isFn K (.ref a_req) = true
  kC : PySem.W.keepIn K (.ref C) = true
  giC : PySem.W.findIn K (.ref C) "__getitem__" = some (some (.ref a_rgetitem))
  giF : PySem.W.isFn K (.ref a_rgetitem) = true
  noSq : PySem.W.noSeq K C = true
  gFn : PySem.W.fnIn K a_rgetitem = true
  kT : PySem.W.kitOne K (.type "tuple") (.ref C) = some false
  sT : PySem.W.subIn K (.type "tuple") (.ref C) = some false
  uNoneType : ∃ fo, PySem.W.findIn K (.type "NoneType") "__rshift__" = some fo
  vNoneType : ∃ ro, PySem.W.findIn K (.type "NoneType") "__rrshift__" = some ro
  wNoneType : PySem.W.subIn K (.type "NoneType") (.ref C) = some false
  ubool : ∃ fo, PySem.W.findIn K (.type "bool") "__rshift__" = some fo
  vbool : ∃ ro, PySem.W.findIn K (.type "bool") "__rrshift__" = some ro
  wbool : PySem.W.subIn K (.type "bool") (.ref C) = some false
  ustr : ∃ fo, PySem.W.findIn K (.type "str") "__rshift__" = some fo
  vstr : ∃ ro, PySem.W.findIn K (.type "str") "__rrshift__" = some ro
  wstr : PySem.W.subIn K (.type "str") (.ref C) = some false
  mW : Meth K C "with_days" a_rwith_days
  c_LATEST : ∃ t, mg "LATEST" = some (.int 1000000000000000000 t)
  c_FEWEST_READERS : ∃ t, mg "FEWEST_READERS" = some (.int 2 t)
  c_MOST_READERS : ∃ t, mg "MOST_READERS" = some (.int 8 t)
  c_MOST_DAYS : ∃ t, mg "MOST_DAYS" = some (.int 30 t)
  c_MOST_BOOKS : ∃ t, mg "MOST_BOOKS" = some (.int 12 t)
  g_gcd : mg "gcd" = some (.builtin "math.gcd")
  z_len : mg "len" = none
  z_sum : mg "sum" = none
  z_max : mg "max" = none
  z_min : mg "min" = none
  z_range : mg "range" = none
  z_int : mg "int" = none
  z_bool : mg "bool" = none
  z_isinstance : mg "isinstance" = none
  z_tuple : mg "tuple" = none
  z_enumerate : mg "enumerate" = none
  z_list : mg "list" = none
  z_str : mg "str" = none
  z_sorted : mg "sorted" = none
end Rp
namespace Rp
open PySem PySem.Spec PyProof.Rows L2 Rz Rm
/-! ### a ring as it stands -/
theorem ds_ne : ¬ (("_days" : Str) = "_starts") := by decide +kernel
def flds (td ts : Addr) : List (Str × V) := putF "_starts" (.ref ts) (putF "_days" (.ref td) [])
theorem flds_days (td ts : Addr) : (flds td ts).lookup ("_days" : Str) = some (.ref td) := by
  unfold flds
  rw [lookup_putF, if_neg ds_ne, lookup_putF, if_pos rfl]
theorem flds_starts (td ts : Addr) : (flds td ts).lookup ("_starts" : Str) = some (.ref ts) := by
  unfold flds
  rw [lookup_putF, if_pos rfl]
/-- days and books at first that make a ring -/
structure Good (ds ss : List Int) : Prop where
  l2 : 2 ≤ ds.length
  l8 : ds.length ≤ 8
  ls : ss.length = ds.length
  d1 : ∀ y ∈ ds, 1 ≤ y ∧ y ≤ 30
  s0 : ∀ y ∈ ss, 0 ≤ y ∧ y ≤ 12
  b1 : 1 ≤ ss.sum
  b12 : ss.sum ≤ 12
structure RingAt (C : Addr) (H : Hp) (p dx td ts : Addr) (ds ss : List Int) : Prop where
  ob : H p = some (.ins C dx (flds td ts))
  td : H td = some (.tup (ds.map V.int))
  ts : H ts = some (.tup (ss.map V.int))
  ok : Good ds ss
theorem RingAt.same {C : Addr} {H H' : Hp} {p dx td ts : Addr} {ds ss : List Int} (R : RingAt C H p dx td ts ds ss) (s : Same H H') : RingAt C H' p dx td ts ds ss :=
  ⟨s _ _ R.ob, s _ _ R.td, s _ _ R.ts, R.ok⟩
theorem sq_same {K : PySem.W.Frag} {H H' : Hp} {a : Addr} {xs : List V} (e : Same H H') (h : H a = some (.tup xs)) : SqT K H' a xs := .of (e _ _ h)
theorem same_upd {H : Hp} {p : Addr} {o : HO} (h : H p = none) : Same H (upd H p o) := fun b x e => by
  rw [upd_ne (ne_of_none e h)]
  exact e
section
variable {P : Program} {w : World} {K : PySem.W.Frag} {mg : Str → Option Value} {base : Heap}
/-! ### checks -/
/-- a number is one -/
def spIsNum : Sp := fun vs H Q _ => ∃ i : Int, vs = [.int i] ∧ Q (.bl true) H
theorem ok_is_number (T : Tx K mg) : FnOk P w K mg base CX0 1 T.a_is_number T.d_is_number P_is_number spIsNum := by
  refine T.F_is_number.ok sc_is_number (fun vs H Q E h => ?_) (fun cdv A outer s H vs Q E hr h => ?_)
  · obtain ⟨i, rfl, _⟩ := h
    rfl
  · obtain ⟨i, rfl, q⟩ := h
    refine ⟨_, pss_one (ps_ret (pe_and (pe_callB call_isi (by rfl) T.z_isinstance (by decide +kernel) (pa_cons (pv 0) (pa_cons (pe_bltn (v := .ty "int") (u := .type "int") (by rfl) T.z_int (by decide +kernel) rfl) pa_nil)))
      (pe_one (pe_not (pe_callB call_isi (by rfl) T.z_isinstance (by decide +kernel) (pa_cons (pv 0) (pa_cons (pe_bltn (v := .ty "bool") (u := .type "bool") (by rfl) T.z_bool (by decide +kernel) rfl) pa_nil))))))), ?_⟩
    refine ⟨.int i, rfl, .int i, .ty "int", .type "int", .type "int", true, rfl, .ty _, .base (.int i), kit_ty (by decide +kernel), true, rfl, iteT ?_⟩
    exact ⟨.int i, rfl, .int i, .ty "bool", .type "int", .type "bool", false, rfl, .ty _, .base (.int i), kit_ty (by decide +kernel), false, rfl, q⟩
def spLies : Sp := fun vs H Q _ => ∃ v lo hi : Int, vs = [.int v, .int lo, .int hi] ∧ Q (.bl (decide (lo ≤ v) && decide (v ≤ hi))) H
theorem ok_lies (T : Tx K mg) : FnOk P w K mg base CX0 2 T.a_lies_between T.d_lies_between P_lies_between spLies := by
  refine T.F_lies_between.ok sc_lies_between (fun vs H Q E h => ?_) (fun cdv A outer s H vs Q E hr h => ?_)
  · obtain ⟨v, lo, hi, rfl, _⟩ := h
    rfl
  · obtain ⟨v, lo, hi, rfl, q⟩ := h
    refine ⟨_, pss_one (ps_ret (pe_and (pe_call (ok_is_number T) hr (by rfl) T.g_is_number T.F_is_number.kp T.b_is_number .nil pass0 (pa_cons (pv 0) pa_nil)) (pe_one (pe_chain op_le op_le (pv 1) (pv 0) (pv 2))))), ?_⟩
    refine ⟨.int v, rfl, v, rfl, true, rfl, iteT ?_⟩
    refine ⟨.int lo, rfl, .int v, rfl, lo, v, rfl, rfl, decide (lo ≤ v), rfl, ?_⟩
    by_cases h : lo ≤ v
    · rw [decide_eq_true h] at q ⊢
      exact iteT ⟨.int hi, rfl, v, hi, rfl, rfl, q⟩
    · rw [decide_eq_false h] at q ⊢
      exact iteF q
theorem in_lim {v lo hi : Int} (h1 : lo ≤ v) (h2 : v ≤ hi) : (decide (lo ≤ v) && decide (v ≤ hi)) = true := by
  rw [decide_eq_true h1, decide_eq_true h2] <;> rfl
def spChk : Sp := fun vs H Q _ => ∃ v lo hi : Int, vs = [.int v, .int lo, .int hi] ∧ lo ≤ v ∧ v ≤ hi ∧ Q .non H
theorem ok_chk (T : Tx K mg) : FnOk P w K mg base CX0 3 T.a_check_number T.d_check_number P_check_number spChk := by
  refine T.F_check_number.ok sc_check_number (fun vs H Q E h => ?_) (fun cdv A outer s H vs Q E hr h => ?_)
  · obtain ⟨v, lo, hi, rfl, _⟩ := h
    rfl
  · obtain ⟨v, lo, hi, rfl, h1, h2, q⟩ := h
    refine ⟨_, pss_one (ps_if (pt_not (pt_val (pe_call (ok_lies T) hr (by rfl) T.g_lies_between T.F_lies_between.kp T.b_lies_between .nil pass0 (pa_cons (pv 0) (pa_cons (pv 1) (pa_cons (pv 2) pa_nil)))))) (pss_one ps_never) pss_nil), ?_⟩
    refine ⟨.int v, rfl, .int lo, rfl, .int hi, rfl, v, lo, hi, rfl, _, rfl, ?_⟩
    rw [in_lim h1 h2]
    exact iteF q
/-! ### the ring's own -/
def spLen (C : Addr) : Sp := fun vs H Q _ => ∃ p dx td ts ds ss, vs = [.ref p] ∧ RingAt C H p dx td ts ds ss ∧ Q (.int ds.length) H
theorem ok_len (T : Tx K mg) : FnOk P w K mg base CX0 1 T.a_rlen T.d_rlen P_rlen (spLen T.C) := by
  refine T.F_rlen.ok sc_rlen (fun vs H Q E h => ?_) (fun cdv A outer s H vs Q E hr h => ?_)
  · obtain ⟨p, dx, td, ts, ds, ss, rfl, _⟩ := h
    rfl
  · obtain ⟨p, dx, td, ts, ds, ss, rfl, R, q⟩ := h
    refine ⟨_, pss_one (ps_ret (pe_callB call_len_seq (by rfl) T.z_len PySem.boot_len (pa_cons (pe_fld (pv 0) rfl) pa_nil))), ?_⟩
    refine ⟨_, rfl, p, _, dx, _, _, rfl, R.ob, T.cl, T.nD, flds_days _ _, td, _, rfl, .inr (.of R.td), ?_⟩
    rw [List.length_map]
    exact q
def spDays (C : Addr) : Sp := fun vs H Q _ => ∃ p dx td ts ds ss, vs = [.ref p] ∧ RingAt C H p dx td ts ds ss ∧ Q (.ref td) H
def spStarts (C : Addr) : Sp := fun vs H Q _ => ∃ p dx td ts ds ss, vs = [.ref p] ∧ RingAt C H p dx td ts ds ss ∧ Q (.ref ts) H
def spBooks (C : Addr) : Sp := fun vs H Q _ => ∃ p dx td ts ds ss, vs = [.ref p] ∧ RingAt C H p dx td ts ds ss ∧ Q (.int ss.sum) H
theorem ok_days (T : Tx K mg) : FnOk P w K mg base CX0 1 T.a_rdays T.d_rdays P_rdays (spDays T.C) := by
  refine T.F_rdays.ok sc_rdays (fun vs H Q E h => ?_) (fun cdv A outer s H vs Q E hr h => ?_)
  · obtain ⟨p, dx, td, ts, ds, ss, rfl, _⟩ := h
    rfl
  · obtain ⟨p, dx, td, ts, ds, ss, rfl, R, q⟩ := h
    refine ⟨_, pss_one (ps_ret (pe_fld (pv 0) rfl)), ?_⟩
    exact ⟨_, rfl, p, _, dx, _, _, rfl, R.ob, T.cl, T.nD, flds_days _ _, q⟩
theorem ok_starts (T : Tx K mg) : FnOk P w K mg base CX0 1 T.a_rstarts T.d_rstarts P_rstarts (spStarts T.C) := by
  refine T.F_rstarts.ok sc_rstarts (fun vs H Q E h => ?_) (fun cdv A outer s H vs Q E hr h => ?_)
  · obtain ⟨p, dx, td, ts, ds, ss, rfl, _⟩ := h
    rfl
  · obtain ⟨p, dx, td, ts, ds, ss, rfl, R, q⟩ := h
    refine ⟨_, pss_one (ps_ret (pe_fld (pv 0) rfl)), ?_⟩
    exact ⟨_, rfl, p, _, dx, _, _, rfl, R.ob, T.cl, T.nS, flds_starts _ _, q⟩
theorem ok_books (T : Tx K mg) : FnOk P w K mg base CX0 1 T.a_rbooks T.d_rbooks P_rbooks (spBooks T.C) := by
  refine T.F_rbooks.ok sc_rbooks (fun vs H Q E h => ?_) (fun cdv A outer s H vs Q E hr h => ?_)
  · obtain ⟨p, dx, td, ts, ds, ss, rfl, _⟩ := h
    rfl
  · obtain ⟨p, dx, td, ts, ds, ss, rfl, R, q⟩ := h
    refine ⟨_, pss_one (ps_ret (pe_callB (cr_sumT rfl) (by rfl) T.z_sum (by decide +kernel) (pa_cons (pe_fld (pv 0) rfl) pa_nil))), ?_⟩
    exact ⟨_, rfl, p, _, dx, _, _, rfl, R.ob, T.cl, T.nS, flds_starts _ _, ts, ss, rfl, .of R.ts, q⟩
/-! ### check_reader -/
def spReader (C : Addr) : Sp := fun vs H Q _ => ∃ p dx td ts ds ss, ∃ r : Int, vs = [.ref p, .int r] ∧ RingAt C H p dx td ts ds ss ∧ 0 ≤ r ∧ r < ds.length ∧ Q .non H
theorem ok_reader (T : Tx K mg) : FnOk P w K mg base CX0 3 T.a_check_reader T.d_check_reader P_check_reader (spReader T.C) := by
  refine T.F_check_reader.ok sc_check_reader (fun vs H Q E h => ?_) (fun cdv A outer s H vs Q E hr h => ?_)
  · obtain ⟨p, dx, td, ts, ds, ss, r, rfl, _⟩ := h
    rfl
  · obtain ⟨p, dx, td, ts, ds, ss, r, rfl, R, h1, h2, q⟩ := h
    refine ⟨_, pss_one (ps_if (pt_not (pt_val (pe_call (ok_lies T) hr (by rfl) T.g_lies_between T.F_lies_between.kp T.b_lies_between .nil pass0
      (pa_cons (pv 1) (pa_cons pe_int (pa_cons (pe_op op_sub (pe_callB (call_lenI T.lenC T.lenF ((ok_len T).raw T.b_rlen .nil) hr pass0) (by rfl) T.z_len PySem.boot_len (pa_cons (pv 0) pa_nil)) pe_int) pa_nil)))))) (pss_one ps_never) pss_nil), ?_⟩
    have hl := R.ok.l8
    refine ⟨.int r, rfl, .ref p, rfl, p, dx, _, rfl, R.ob, p, dx, td, ts, ds, ss, rfl, R, (ds.length : Int), rfl, by omega, by omega, _, _, rfl, rfl, ?_⟩
    refine ⟨r, 0, (ds.length : Int) - 1, rfl, _, rfl, ?_⟩
    rw [in_lim h1 (show r ≤ (ds.length : Int) - 1 by omega)]
    exact iteF q
end
end Rp
namespace Rp
open PySem PySem.Spec PyProof.Rows L2 Rz Rm
/-! ### the pace -/
/-- days that readers need -/
structure Dys (ds : List Int) : Prop where
  ne : 0 < ds.length
  d1 : ∀ y ∈ ds, 1 ≤ y
theorem Good.dys {ds ss : List Int} (G : Good ds ss) : Dys ds := ⟨by have := G.l2; omega, fun y h => (G.d1 y h).1⟩
def mx (ds : List Int) : Int := ds.foldr max 0
theorem mx_nn : ∀ ds : List Int, 0 ≤ mx ds
  | [] => Int.le_refl _
  | a :: r => by
    have := mx_nn r
    show 0 ≤ max a (mx r)
    omega
theorem le_mx : ∀ {ds : List Int} {y : Int}, y ∈ ds → y ≤ mx ds
  | a :: r, y, h => by
    show y ≤ max a (mx r)
    rcases List.mem_cons.mp h with e | e
    · omega
    · have := le_mx e
      omega
theorem mx_le : ∀ {ds : List Int} {M : Int}, 0 ≤ M → (∀ y ∈ ds, y ≤ M) → mx ds ≤ M
  | [], _, h, _ => h
  | a :: r, M, h, hu => by
    have h1 := hu a List.mem_cons_self
    have h2 := mx_le (ds := r) h fun y hy => hu y (List.mem_cons_of_mem _ hy)
    show max a (mx r) ≤ M
    omega
theorem mx_eq {ds : List Int} {M : Int} (D : Dys ds) (hM : M ∈ ds) (hMu : ∀ y ∈ ds, y ≤ M) : mx ds = M :=
  Int.le_antisymm (mx_le (by have := D.d1 M hM; omega) hMu) (le_mx hM)
theorem mx_mem : ∀ {ds : List Int}, ds ≠ [] → (∀ y ∈ ds, 0 ≤ y) → mx ds ∈ ds
  | [], h, _ => absurd rfl h
  | [a], _, h => by
    have h1 := h a (by simp)
    show max a 0 ∈ [a]
    rw [show max a 0 = a by omega]
    simp
  | a :: b :: r, _, h => by
    have ih := mx_mem (ds := b :: r) (by simp) fun y hy => h y (List.mem_cons_of_mem _ hy)
    show max a (mx (b :: r)) ∈ a :: b :: r
    by_cases c : a ≤ mx (b :: r)
    · rw [show max a (mx (b :: r)) = mx (b :: r) by omega]
      exact List.mem_cons_of_mem _ ih
    · rw [show max a (mx (b :: r)) = a by omega]
      exact List.mem_cons_self
theorem Dys.mem {ds : List Int} (D : Dys ds) : mx ds ∈ ds := mx_mem (fun e => by
  have := D.ne
  rw [e] at this
  exact absurd this (Nat.lt_irrefl _)) fun y h => by have := D.d1 y h; omega
def gq (ds : List Int) (b : Int) : Int := ((Nat.gcd ds.sum.natAbs b.natAbs : Nat) : Int)
/-- the pace's two numbers -/
def pX (ds : List Int) (b : Int) : Int := if ds.sum ≤ mx ds * b then mx ds else ds.sum / gq ds b
def pY (ds : List Int) (b : Int) : Int := if ds.sum ≤ mx ds * b then 1 else b / gq ds b
theorem gq_facts {ds : List Int} {b : Int} (h : 1 ≤ b) : 1 ≤ gq ds b ∧ gq ds b ≤ b ∧ gq ds b ∣ ds.sum ∧ gq ds b ∣ b := by
  have g0 : 0 < Nat.gcd ds.sum.natAbs b.natAbs := Nat.gcd_pos_of_pos_right _ (by omega)
  have gle : Nat.gcd ds.sum.natAbs b.natAbs ≤ b.natAbs := Nat.le_of_dvd (by omega) (Nat.gcd_dvd_right _ _)
  unfold gq
  exact ⟨by omega, by omega, Int.ofNat_dvd_left.mpr (Nat.gcd_dvd_left _ _), Int.ofNat_dvd_left.mpr (Nat.gcd_dvd_right _ _)⟩
section
variable {P : Program} {w : World} {K : PySem.W.Frag} {mg : Str → Option Value} {base : Heap}
/-! ### check_part -/
def spPart : Sp := fun vs H Q _ => ∃ (part : Str) (v l n : Addr) (ns : List Int) (lo hi f m : Int), vs = [.str part, .ref v, .ref l, .ref n] ∧ H v = some (.tup (ns.map V.int)) ∧ H l = some (.tup [.int lo, .int hi]) ∧ H n = some (.tup [.int f, .int m]) ∧
  (∀ y ∈ ns, lo ≤ y ∧ y ≤ hi) ∧ f ≤ ns.length ∧ (ns.length : Int) ≤ m ∧ ∀ H', Same H H' → Q .non H'
theorem get_int {ns : List Int} {i : Nat} {y : V} (h : (ns.map V.int)[i]? = some y) : ∃ z, ns[i]? = some z ∧ y = .int z := by
  rw [List.getElem?_map] at h
  cases e : ns[i]? with
  | none =>
    rw [e] at h
    cases h
  | some z =>
    rw [e] at h
    exact ⟨z, rfl, (Option.some.inj h).symm⟩
theorem ok_part (T : Tx K mg) : FnOk P w K mg base CX0 3 T.a_check_part T.d_check_part P_check_part spPart := by
  refine T.F_check_part.ok sc_check_part (fun vs H Q E h => ?_) (fun cdv A outer s H vs Q E hr h => ?_)
  · obtain ⟨part, v, l, n, ns, lo, hi, f, m, rfl, _⟩ := h
    rfl
  · obtain ⟨part, v, l, n, ns, lo, hi, f, m, rfl, hv, hl, hn, hall, hf, hm, q⟩ := h
    have nd := sc_check_part.nd
    refine ⟨_, pss_cons (ps_if (pt_not (pt_val (pe_callB call_isi (by rfl) T.z_isinstance (by decide +kernel) (pa_cons (pv 1) (pa_cons (pe_bltn (v := .ty "tuple") (u := .type "tuple") (by rfl) T.z_tuple (by decide +kernel) rfl) pa_nil))))) (pss_one ps_never) pss_nil)
      (pss_cons (ps_asg (pv 2) (pg_tup rfl (pgs_cons (pg_name (i := 4) nd rfl (.inl rfl)) (pgs_cons (pg_name (i := 5) nd rfl (.inl rfl)) pgs_nil))))
      (pss_cons (ps_asg (pv 3) (pg_tup rfl (pgs_cons (pg_name (i := 6) nd rfl (.inl rfl)) (pgs_cons (pg_name (i := 7) nd rfl (.inl rfl)) pgs_nil))))
      (pss_cons (ps_for PassesOwn.never rfl (pi_enumT (by rfl) T.z_enumerate (pa_cons (pv 1) pa_nil)) (pg_tup rfl (pgs_cons (pg_name (i := 8) nd rfl (.inl rfl)) (pgs_cons (pg_name (i := 9) nd rfl (.inl rfl)) pgs_nil)))
        (pss_one (ps_if (PW.pt (pw_or (pt_cmpR op_ge (pv 8) (pv 7) (nomark _)) (pw_or1 (pt_not (pt_val (pe_call (ok_lies T) hr (by rfl) T.g_lies_between T.F_lies_between.kp T.b_lies_between .nil pass0 (pa_cons (pv 9) (pa_cons (pv 4) (pa_cons (pv 5) pa_nil)))))))))
          (pss_one ps_never) pss_nil)))
      (pss_one (ps_if (pt_cmpR op_lt (pe_callB call_len_seq (by rfl) T.z_len PySem.boot_len (pa_cons (pv 1) pa_nil)) (pv 6) (nomark _)) (pss_one ps_never) pss_nil))))), ?_⟩
    -- isinstance(values, tuple)
    refine ⟨.ref v, rfl, .ref v, .ty "tuple", .type "tuple", .type "tuple", true, rfl, .ty _, .base (.tup hv), kit_ty (by decide +kernel), true, rfl, iteF ?_⟩
    -- low, high = limits; fewest, most = lengths
    refine ⟨.ref l, rfl, l, _, rfl, .of hl, rfl, _, _, rfl, _, _, rfl, rfl, ?_⟩
    refine ⟨.ref n, rfl, n, _, rfl, .of hn, rfl, _, _, rfl, _, _, rfl, rfl, ?_⟩
    -- for index, value in enumerate(values)
    refine ⟨.ref v, rfl, v, _, rfl, .of hv, for_it walk_enumT (fun i σ H' => ∃ y8 y9, σ = [some (.str part), some (.ref v), some (.ref l), some (.ref n), some (.int lo), some (.int hi), some (.int f), some (.int m), y8, y9] ∧ Same H H')
      ⟨none, none, rfl, Same.refl H⟩ (fun i σ H' _ ⟨_, _, _, sm⟩ => sq_same sm hv) ?_ ?_⟩
    · rintro i x σ H1 H2 hi1 ⟨y8, y9, rfl, sm⟩ ⟨t, a, b, rfl, nt, rfl, ha, hb⟩
      have ha' : a = .int (i : Nat) := (Option.some.inj ha).symm
      subst ha'
      obtain ⟨z, hz, rfl⟩ := get_int hb
      rw [List.length_map] at hi1
      have hz2 := hall z (List.mem_of_getElem? hz)
      refine ⟨t, _, rfl, .of upd_same, rfl, _, _, rfl, _, _, rfl, rfl, ?_⟩
      refine ⟨.int (i : Nat), rfl, .int m, rfl, _, _, rfl, rfl, _, rfl, ?_⟩
      rw [decide_eq_false (show ¬ m ≤ ((i : Nat) : Int) by omega)]
      refine iteF ?_
      refine ⟨.int z, rfl, .int lo, rfl, .int hi, rfl, z, lo, hi, rfl, _, rfl, ?_⟩
      rw [in_lim hz2.1 hz2.2]
      exact iteF ⟨_, _, rfl, sm.trans (same_upd nt)⟩
    · rintro σ H1 ⟨y8, y9, rfl, sm⟩
      refine ⟨.ref v, rfl, v, _, rfl, .inr (sq_same sm hv), .int f, rfl, _, _, rfl, rfl, _, rfl, ?_⟩
      rw [List.length_map, decide_eq_false (show ¬ (ns.length : Int) < f by omega)]
      exact iteF (q H1 sm)
/-! ### Ring.__init__ -/
def spInit (C : Addr) : Sp := fun vs H Q _ => ∃ (p dx td ts : Addr) (ds ss : List Int), vs = [.ref p, .ref td, .ref ts] ∧ H p = some (.ins C dx []) ∧ H td = some (.tup (ds.map V.int)) ∧ H ts = some (.tup (ss.map V.int)) ∧ Good ds ss ∧
  ∀ H', RingAt C H' p dx td ts ds ss → (∀ b o, H b = some o → b ≠ p → H' b = some o) → Q .non H'
theorem ok_init (T : Tx K mg) : FnOk P w K mg base CX0 4 T.a_rinit T.d_rinit P_rinit (spInit T.C) := by
  refine T.F_rinit.ok sc_rinit (fun vs H Q E h => ?_) (fun cdv A outer s H vs Q E hr h => ?_)
  · obtain ⟨p, dx, td, ts, ds, ss, rfl, _⟩ := h
    rfl
  · obtain ⟨p, dx, td, ts, ds, ss, rfl, hp, hd, hs, G, q⟩ := h
    obtain ⟨u1, c1⟩ := T.c_MOST_DAYS
    obtain ⟨u2, c2⟩ := T.c_FEWEST_READERS
    obtain ⟨u3, c3⟩ := T.c_MOST_READERS
    obtain ⟨u4, c4⟩ := T.c_MOST_BOOKS
    have l2 := G.l2
    have l8 := G.l8
    have ls := G.ls
    refine ⟨_, pss_cons (ps_expr (pe_call (ok_part T) hr (by rfl) T.g_check_part T.F_check_part.kp T.b_check_part .nil pass0 (pa_cons pe_str (pa_cons (pv 1) (pa_cons (pe_tup (pa_cons pe_int (pa_cons (pe_glob (v := .int 30) (by rfl) c1 ⟨_, rfl⟩) pa_nil))) (pa_cons (pe_tup (pa_cons (pe_glob (v := .int 2) (by rfl) c2 ⟨_, rfl⟩) (pa_cons (pe_glob (v := .int 8) (by rfl) c3 ⟨_, rfl⟩) pa_nil))) pa_nil))))))
      (pss_cons (ps_expr (pe_call (ok_part T) hr (by rfl) T.g_check_part T.F_check_part.kp T.b_check_part .nil pass0 (pa_cons pe_str (pa_cons (pv 2) (pa_cons (pe_tup (pa_cons pe_int (pa_cons (pe_glob (v := .int 12) (by rfl) c4 ⟨_, rfl⟩) pa_nil)))
        (pa_cons (pe_tup (pa_cons (pe_callB call_len_seq (by rfl) T.z_len PySem.boot_len (pa_cons (pv 1) pa_nil)) (pa_cons (pe_callB call_len_seq (by rfl) T.z_len PySem.boot_len (pa_cons (pv 1) pa_nil)) pa_nil))) pa_nil))))))
      (pss_cons (ps_if (pt_not (pt_chain op_le op_le pe_int (pe_callB (cr_sumT rfl) (by rfl) T.z_sum (by decide +kernel) (pa_cons (pv 2) pa_nil)) (pe_glob (v := .int 12) (by rfl) c4 ⟨_, rfl⟩))) (pss_one ps_never) pss_nil)
      (pss_cons (ps_fld (pv 0) (pe_callTy call_tupleT (by rfl) T.z_tuple (by decide +kernel) (pa_cons (pv 1) pa_nil)) rfl)
      (pss_one (ps_fld (pv 0) (pe_callTy call_tupleT (by rfl) T.z_tuple (by decide +kernel) (pa_cons (pv 2) pa_nil)) rfl))))), ?_⟩
    -- check_part("days", ..)
    refine ⟨.ref td, rfl, (by show 2 ≤ sizeLine; decide), fun a1 h1 => ⟨(by show 2 ≤ sizeLine; decide), fun a2 h2 => ?_⟩⟩
    have s1 := same_upd (o := .tup [.int 1, .int 30]) h1
    have s2 := same_upd (o := .tup [.int 2, .int 8]) h2
    refine ⟨_, td, a1, a2, ds, 1, 30, 2, 8, rfl, s2 _ _ (s1 _ _ hd), s2 _ _ upd_same, upd_same, G.d1, by omega, by omega, fun H1 s3 => ?_⟩
    have t1 : Same H H1 := (s1.trans s2).trans s3
    -- check_part("starts", ..)
    refine ⟨.ref ts, rfl, (by show 2 ≤ sizeLine; decide), fun a3 h3 => ?_⟩
    have s4 := same_upd (o := .tup [.int 0, .int 12]) h3
    refine ⟨.ref td, rfl, td, _, rfl, .inr (sq_same (t1.trans s4) hd), .ref td, rfl, td, _, rfl, .inr (sq_same (t1.trans s4) hd), (by show 2 ≤ sizeLine; decide), fun a4 h4 => ?_⟩
    have s5 := same_upd (o := .tup [.int ((ds.map V.int).length : Nat), .int ((ds.map V.int).length : Nat)]) h4
    refine ⟨_, ts, a3, a4, ss, 0, 12, ((ds.map V.int).length : Nat), ((ds.map V.int).length : Nat), rfl, s5 _ _ (s4 _ _ (t1 _ _ hs)), s5 _ _ upd_same, upd_same, G.s0, by rw [List.length_map]; omega, by rw [List.length_map]; omega, fun H2 s6 => ?_⟩
    have t2 : Same H H2 := ((t1.trans s4).trans s5).trans s6
    -- not 1 <= sum(starts) <= MOST_BOOKS
    refine ⟨.ref ts, rfl, ts, ss, rfl, sq_same t2 hs, _, _, rfl, rfl, _, rfl, ?_⟩
    rw [decide_eq_true G.b1]
    refine iteT ⟨_, _, rfl, rfl, _, rfl, ?_⟩
    rw [decide_eq_true G.b12]
    refine iteF ?_
    -- the two attributes
    refine ⟨.ref td, rfl, td, _, rfl, sq_same t2 hd, _, rfl, p, T.C, dx, [], rfl, t2 _ _ hp, T.cl, T.nD, (by show 0 < 1000; decide), ?_⟩
    have npt : ts ≠ p := ne_of hs hp (by intro z; cases z)
    have npd : td ≠ p := ne_of hd hp (by intro z; cases z)
    refine ⟨.ref ts, rfl, ts, ss.map V.int, rfl, .of (by rw [upd_ne npt]; exact t2 _ _ hs), _, rfl, p, T.C, dx, _, rfl, upd_same, T.cl, T.nS, (by show 1 < 1000; decide), ?_⟩
    refine q _ ⟨upd_same, by rw [upd_ne npd, upd_ne npd]; exact t2 _ _ hd, by rw [upd_ne npt, upd_ne npt]; exact t2 _ _ hs, G⟩ fun b o e hb => ?_
    rw [upd_ne hb, upd_ne hb]
    exact t2 _ _ e
end
end Rp
namespace Rp
open PySem PySem.Spec PyProof.Rows L2 Rz Rm
section
variable {P : Program} {w : World} {K : PySem.W.Frag} {mg : Str → Option Value} {base : Heap}
def spSlow : Sp := fun vs H Q _ => ∃ (td : Addr) (ds : List Int) (b : Int), vs = [.ref td, .int b] ∧ H td = some (.tup (ds.map V.int)) ∧ Dys ds ∧ 0 ≤ b ∧ b < 2 ^ 64 ∧ Q (.bl (decide (ds.sum ≤ mx ds * b))) H
theorem ok_slow (T : Tx K mg) : FnOk P w K mg base CX0 1 T.a_slowest_decides T.d_slowest_decides P_slowest_decides spSlow := by
  refine T.F_slowest_decides.ok sc_slowest_decides (fun vs H Q E h => ?_) (fun cdv A outer s H vs Q E hr h => ?_)
  · obtain ⟨td, ds, b, rfl, _⟩ := h
    rfl
  · obtain ⟨td, ds, b, rfl, hd, D, b0, b1, q⟩ := h
    refine ⟨_, pss_one (ps_ret (pe_cmpR op_ge (pe_op op_mul (pe_callB (cr_maxT rfl) (by rfl) T.z_max (by decide +kernel) (pa_cons (pv 0) pa_nil)) (pv 1)) (pe_callB (cr_sumT rfl) (by rfl) T.z_sum (by decide +kernel) (pa_cons (pv 0) pa_nil)) (nomark _))), ?_⟩
    refine ⟨.ref td, rfl, td, ds, rfl, .of hd, D.ne, fun M hM hMu => ⟨.int b, rfl, M, b, rfl, rfl, .inr ⟨by omega, b1⟩, .ref td, rfl, td, ds, rfl, .of hd, _, _, rfl, rfl, ?_⟩⟩
    rw [mx_eq D hM hMu] at q
    exact q
def spRound : Sp := fun vs H Q _ => ∃ (td : Addr) (ds : List Int) (b : Int), vs = [.ref td, .int b] ∧ H td = some (.tup (ds.map V.int)) ∧ 1 ≤ b ∧ b ≤ 1000 ∧ ∀ H' t, Same H H' → H' t = some (.tup [.int (ds.sum / gq ds b), .int (b / gq ds b)]) → Q (.ref t) H'
theorem ok_round (T : Tx K mg) : FnOk P w K mg base CX0 1 T.a_round_pace T.d_round_pace P_round_pace spRound := by
  refine T.F_round_pace.ok sc_round_pace (fun vs H Q E h => ?_) (fun cdv A outer s H vs Q E hr h => ?_)
  · obtain ⟨td, ds, b, rfl, _⟩ := h
    rfl
  · obtain ⟨td, ds, b, rfl, hd, b1, b2, q⟩ := h
    have nd := sc_round_pace.nd
    refine ⟨_, pss_cons (ps_set (i := 2) nd rfl (.inl rfl) (pe_callBfun cr_gcd (by rfl) T.g_gcd (pa_cons (pe_callB (cr_sumT rfl) (by rfl) T.z_sum (by decide +kernel) (pa_cons (pv 0) pa_nil)) (pa_cons (pv 1) pa_nil))))
      (pss_one (ps_ret (pe_tup (pa_cons (pe_op op_fdiv (pe_callB (cr_sumT rfl) (by rfl) T.z_sum (by decide +kernel) (pa_cons (pv 0) pa_nil)) (pv 2)) (pa_cons (pe_op op_fdiv (pv 1) (pv 2)) pa_nil))))), ?_⟩
    refine ⟨.ref td, rfl, td, ds, rfl, .of hd, .int b, rfl, ds.sum, b, rfl, ?_⟩
    obtain ⟨g0, gle, _, _⟩ := gq_facts (ds := ds) b1
    unfold gq at g0 gle q
    generalize ((Nat.gcd ds.sum.natAbs b.natAbs : Nat) : Int) = g at g0 gle q ⊢
    refine ⟨.ref td, rfl, td, ds, rfl, .of hd, .int g, rfl, _, _, rfl, rfl, ⟨by omega, by omega⟩, .int b, rfl, .int g, rfl, _, _, rfl, rfl, ⟨by omega, by omega⟩, (by show 2 ≤ sizeLine; decide), fun t ht => ?_⟩
    exact q _ t (same_upd ht) upd_same
def spPace : Sp := fun vs H Q _ => ∃ (td : Addr) (ds : List Int) (b : Int), vs = [.ref td, .int b] ∧ H td = some (.tup (ds.map V.int)) ∧ Dys ds ∧ 1 ≤ b ∧ b ≤ 1000 ∧
  ∀ H' t, Same H H' → H' t = some (.tup [.int (pX ds b), .int (pY ds b)]) → Q (.ref t) H'
theorem ok_pace_of (T : Tx K mg) : FnOk P w K mg base CX0 2 T.a_pace_of T.d_pace_of P_pace_of spPace := by
  refine T.F_pace_of.ok sc_pace_of (fun vs H Q E h => ?_) (fun cdv A outer s H vs Q E hr h => ?_)
  · obtain ⟨td, ds, b, rfl, _⟩ := h
    rfl
  · obtain ⟨td, ds, b, rfl, hd, D, b1, b12, q⟩ := h
    have nd := sc_pace_of.nd
    refine ⟨_, pss_cons (ps_if (pt_val (pe_call (ok_slow T) hr (by rfl) T.g_slowest_decides T.F_slowest_decides.kp T.b_slowest_decides .nil pass0 (pa_cons (pv 0) (pa_cons (pv 1) pa_nil))))
        (pss_one (ps_ret (pe_tup (pa_cons (pe_callB (cr_maxT rfl) (by rfl) T.z_max (by decide +kernel) (pa_cons (pv 0) pa_nil)) (pa_cons pe_int pa_nil))))) pss_nil)
      (pss_one (ps_ret (pe_call (ok_round T) hr (by rfl) T.g_round_pace T.F_round_pace.kp T.b_round_pace .nil pass0 (pa_cons (pv 0) (pa_cons (pv 1) pa_nil))))), ?_⟩
    refine ⟨.ref td, rfl, .int b, rfl, td, ds, b, rfl, hd, D, by omega, by omega, _, rfl, ?_⟩
    by_cases hc : ds.sum ≤ mx ds * b
    · rw [decide_eq_true hc]
      refine iteT ?_
      refine ⟨.ref td, rfl, td, ds, rfl, .of hd, D.ne, fun M' hM' hMu' => ⟨(by show 2 ≤ sizeLine; decide), fun t ht => ?_⟩⟩
      refine q _ t (same_upd ht) ?_
      rw [upd_same, pX, pY, if_pos hc, if_pos hc, mx_eq D hM' hMu']
    · rw [decide_eq_false hc]
      refine iteF ?_
      refine ⟨.ref td, rfl, .int b, rfl, td, ds, b, rfl, hd, b1, b12, fun H' t s0 ht => q H' t s0 ?_⟩
      rw [ht, pX, pY, if_neg hc, if_neg hc]
def spRPace (C : Addr) : Sp := fun vs H Q _ => ∃ p dx td ts ds ss, vs = [.ref p] ∧ RingAt C H p dx td ts ds ss ∧ ∀ H' t, Same H H' → H' t = some (.tup [.int (pX ds ss.sum), .int (pY ds ss.sum)]) → Q (.ref t) H'
theorem ok_rpace (T : Tx K mg) : FnOk P w K mg base CX0 3 T.a_rpace T.d_rpace P_rpace (spRPace T.C) := by
  refine T.F_rpace.ok sc_rpace (fun vs H Q E h => ?_) (fun cdv A outer s H vs Q E hr h => ?_)
  · obtain ⟨p, dx, td, ts, ds, ss, rfl, _⟩ := h
    rfl
  · obtain ⟨p, dx, td, ts, ds, ss, rfl, R, q⟩ := h
    have b12 := R.ok.b12
    refine ⟨_, pss_one (ps_ret (pe_call (ok_pace_of T) hr (by rfl) T.g_pace_of T.F_pace_of.kp T.b_pace_of .nil pass0 (pa_cons (pe_fld (pv 0) rfl) (pa_cons (pe_callB (cr_sumT rfl) (by rfl) T.z_sum (by decide +kernel) (pa_cons (pe_fld (pv 0) rfl) pa_nil)) pa_nil)))), ?_⟩
    exact ⟨_, rfl, p, _, dx, _, _, rfl, R.ob, T.cl, T.nD, flds_days _ _, _, rfl, p, _, dx, _, _, rfl, R.ob, T.cl, T.nS, flds_starts _ _, ts, ss, rfl, .of R.ts, td, ds, ss.sum, rfl, R.td, R.ok.dys, R.ok.b1, by omega, q⟩
end
end Rp
namespace Rp
open PySem PySem.Spec PyProof.Rows L2 Rz Rm
theorem at_ix {ds : List Int} {z : Int} (h1 : -(ds.length : Int) ≤ z) (h2 : z < ds.length) : atI (ds.map V.int) z = some (.int (at' ds z)) := by
  have hl : 0 < ds.length := by omega
  have h0 := Int.emod_nonneg z (show (ds.length : Int) ≠ 0 by omega)
  have hlt := Int.emod_lt_of_pos z (show (0 : Int) < ds.length by omega)
  have e : ixN (ds.map V.int).length z = some (z % (ds.length : Int)).toNat := by
    unfold ixN
    rw [List.length_map]
    by_cases h : 0 ≤ z
    · rw [if_pos h, if_pos h2, Int.emod_eq_of_lt h h2]
    · rw [if_neg h, if_pos h1]
      have e2 := Int.add_mul_emod_self_left z (ds.length : Int) 1
      rw [Int.mul_one, Int.emod_eq_of_lt (a := z + ds.length) (by omega) (by omega)] at e2
      rw [e2]
  unfold atI
  rw [e]
  show (ds.map V.int)[(z % (ds.length : Int)).toNat]? = _
  rw [List.getElem?_map]
  unfold at'
  rw [List.getD_eq_getElem?_getD, List.getElem?_eq_getElem (show (z % (ds.length : Int)).toNat < ds.length by omega)]
  rfl
theorem Good.ring {ds ss : List Int} (G : Good ds ss) {M : Int} (hM : M ∈ ds) (hMu : ∀ y ∈ ds, y ≤ M) : Rm.Ring ds.length (at' ds) (at' ss) ss.sum ds.sum M :=
  ring_of (by have := G.l2; omega) G.ls (fun y h => (G.d1 y h).1) (fun y h => (G.s0 y h).1) G.b1 hM hMu
theorem exists_max : ∀ {ds : List Int}, ds ≠ [] → ∃ M, M ∈ ds ∧ ∀ y ∈ ds, y ≤ M
  | [], h => absurd rfl h
  | [a], _ => ⟨a, by simp, by simp⟩
  | a :: b :: r, _ => by
    obtain ⟨M, h1, h2⟩ := exists_max (ds := b :: r) (by simp)
    by_cases h : a ≤ M
    · exact ⟨M, List.mem_cons_of_mem _ h1, fun y hy => by
        rcases List.mem_cons.mp hy with e | e
        · omega
        · exact h2 y e⟩
    · exact ⟨a, List.mem_cons_self, fun y hy => by
        rcases List.mem_cons.mp hy with e | e
        · omega
        · have := h2 y e; omega⟩
theorem Good.max {ds ss : List Int} (G : Good ds ss) : ∃ M, M ∈ ds ∧ ∀ y ∈ ds, y ≤ M := exists_max (by
  intro e
  have := G.l2
  rw [e] at this
  simp at this)
theorem sum_bounds : ∀ {ds : List Int}, (∀ y ∈ ds, 1 ≤ y ∧ y ≤ 30) → (ds.length : Int) ≤ ds.sum ∧ ds.sum ≤ 30 * ds.length
  | [], _ => by simp
  | a :: r, h => by
    have h1 := h a List.mem_cons_self
    have ih := sum_bounds (ds := r) fun y hy => h y (List.mem_cons_of_mem _ hy)
    rw [List.sum_cons, List.length_cons]
    omega
theorem max_if (i j : Int) : (if j > i then j else i) = max i j := by
  by_cases h : j > i
  · rw [if_pos h]
    omega
  · rw [if_neg h]
    omega
section
variable {P : Program} {w : World} {K : PySem.W.Frag} {mg : Str → Option Value} {base : Heap}
/-! ### end_day -/
def spEnd (C : Addr) : Sp := fun vs H Q _ => ∃ p dx td ts ds ss, ∃ r x : Int, vs = [.ref p, .int r, .int x] ∧ RingAt C H p dx td ts ds ss ∧ 0 ≤ r ∧ r < ds.length ∧ 0 ≤ x ∧ Q (.int (Rm.E (at' ds) (at' ss) r x)) H
/-- the loop's slots ahead of step i -/
def edS (p : Addr) (r x B M g L : Int) (ds ss : List Int) (i : Nat) (y10 y11 : Option V) : L2.St :=
  [some (.ref p), some (.int r), some (.int x), some (.int B), some (.int M), some (.int g), some (.int L), some (.int (sumBack (at' ds) r i)), some (.int (if i = 0 then 0 else maxBack (at' ds) r (i - 1))), some (.int (x - sumBack (at' ss) r i)), y10, y11]
theorem met_next {ds : List Int} (h1 : ∀ i, 1 ≤ at' ds i) (r : Int) (i : Nat) : (if at' ds (r - i) > (if i = 0 then 0 else maxBack (at' ds) r (i - 1)) then at' ds (r - i) else (if i = 0 then 0 else maxBack (at' ds) r (i - 1))) = maxBack (at' ds) r i := by
  rw [max_if]
  cases i with
  | zero =>
    have := h1 (r - (0 : Nat))
    show max 0 (at' ds (r - (0 : Nat))) = at' ds r
    rw [show r - ((0 : Nat) : Int) = r by omega] at this ⊢
    omega
  | succ i =>
    rw [if_neg (Nat.succ_ne_zero i)]
    show max (maxBack (at' ds) r i) (at' ds (r - (i + 1 : Nat))) = max (maxBack (at' ds) r i) (at' ds (r - (i + 1 : Nat)))
    rfl
theorem ok_end (T : Tx K mg) : FnOk P w K mg base CX0 3 T.a_end_day T.d_end_day P_end_day (spEnd T.C) := by
  refine T.F_end_day.ok sc_end_day (fun vs H Q E h => ?_) (fun cdv A outer s H vs Q E hr h => ?_)
  · obtain ⟨p, dx, td, ts, ds, ss, r, x, rfl, _⟩ := h
    rfl
  · obtain ⟨p, dx, td, ts, ds, ss, r, x, rfl, R, r0, r1, x0, q⟩ := h
    have nd := sc_end_day.nd
    have G := R.ok
    have l2 := G.l2
    have l8 := G.l8
    have ls := G.ls
    have rdD : ∀ {Q' : VK} {E' : XK}, Q' (.ref td) H → spDays T.C [.ref p] H Q' E' := fun z => ⟨p, dx, td, ts, ds, ss, rfl, R, z⟩
    have rdS : ∀ {Q' : VK} {E' : XK}, Q' (.ref ts) H → spStarts T.C [.ref p] H Q' E' := fun z => ⟨p, dx, td, ts, ds, ss, rfl, R, z⟩
    refine ⟨_, pss_cons (ps_set (i := 3) nd rfl (.inl rfl) (pe_prop (pv 0) T.cl T.q_rbooks (ok_books T) hr T.b_rbooks .nil pass0 rfl))
      (pss_cons (ps_set (i := 4) nd rfl (.inl rfl) (pe_callB (cr_maxT rfl) (by rfl) T.z_max (by decide +kernel) (pa_cons (pe_prop (pv 0) T.cl T.q_rdays (ok_days T) hr T.b_rdays .nil pass0 rfl) pa_nil)))
      (pss_cons (ps_set (i := 5) nd rfl (.inl rfl) (pe_op op_sub (pe_callB (cr_sumT rfl) (by rfl) T.z_sum (by decide +kernel) (pa_cons (pe_prop (pv 0) T.cl T.q_rdays (ok_days T) hr T.b_rdays .nil pass0 rfl) pa_nil)) (pe_op op_mul (pv 3) (pv 4))))
      (pss_cons (ps_asg3 pe_int (pg_name (i := 6) nd rfl (.inl rfl)) (pg_name (i := 7) nd rfl (.inl rfl)) (pg_name (i := 8) nd rfl (.inl rfl)))
      (pss_cons (ps_set (i := 9) nd rfl (.inl rfl) (pv 2))
      (pss_cons (ps_for PassesOwn.never rfl (pi_range1 (by rfl) T.z_range (pa_cons (pe_callB (call_lenI T.lenC T.lenF ((ok_len T).raw T.b_rlen .nil) hr pass0) (by rfl) T.z_len PySem.boot_len (pa_cons (pv 0) pa_nil)) pa_nil)) (pg_name (i := 10) nd rfl (.inl rfl))
        (pss_cons (ps_aug (i := 7) nd rfl (.inl rfl) (pe_ix ix_tup (pe_prop (pv 0) T.cl T.q_rdays (ok_days T) hr T.b_rdays .nil pass0 rfl) (pe_op op_sub (pv 1) (pv 10)) (fun _ _ => rfl)) ip_add)
        (pss_cons (ps_set (i := 8) nd rfl (.inl rfl) (pe_callB (call_max2 rfl) (by rfl) T.z_max (by decide +kernel) (pa_cons (pv 8) (pa_cons (pe_ix ix_tup (pe_prop (pv 0) T.cl T.q_rdays (ok_days T) hr T.b_rdays .nil pass0 rfl) (pe_op op_sub (pv 1) (pv 10)) (fun _ _ => rfl)) pa_nil))))
        (pss_cons (ps_set (i := 6) nd rfl (.inl rfl) (pe_callB (call_max2 rfl) (by rfl) T.z_max (by decide +kernel) (pa_cons (pv 6) (pa_cons (pe_op op_add (pv 7) (pe_op op_mul (pv 9) (pv 8))) pa_nil))))
        (pss_cons (ps_if (pt_cmpR op_ge (pv 9) (pv 3) (nomark _))
          (pss_cons (ps_set (i := 11) nd rfl (.inl rfl) (pe_ifExp (pt_cmpR op_gt (pv 5) pe_int (nomark _)) (pe_op op_fdiv (pv 9) (pv 3)) pe_int))
          (pss_one (ps_set (i := 6) nd rfl (.inl rfl) (pe_callB (call_max2 rfl) (by rfl) T.z_max (by decide +kernel) (pa_cons (pv 6) (pa_cons (pe_op op_add (pe_op op_add (pv 7) (pe_op op_mul (pv 9) (pv 4))) (pe_op op_mul (pv 11) (pv 5))) pa_nil)))))) pss_nil)
        (pss_cons (ps_aug (i := 9) nd rfl (.inl rfl) (pe_ix ix_tup (pe_prop (pv 0) T.cl T.q_rstarts (ok_starts T) hr T.b_rstarts .nil pass0 rfl) (pe_op op_sub (pv 1) (pv 10)) (fun _ _ => rfl)) ip_sub)
        (pss_one (ps_if (pt_cmpR op_lt (pv 9) pe_int (nomark _)) (pss_one ps_break) pss_nil))))))))
      (pss_one (ps_ret (pv 6)))))))), ?_⟩
    -- books, slowest, gain
    refine ⟨.ref p, rfl, p, dx, _, rfl, R.ob, p, dx, td, ts, ds, ss, rfl, R, ?_⟩
    refine ⟨.ref p, rfl, p, dx, _, rfl, R.ob, rdD ⟨td, ds, rfl, .of R.td, by omega, fun M hM hMu => ?_⟩⟩
    have RR := G.ring hM hMu
    have b1 := G.b1
    have b12 := G.b12
    have hM30 := G.d1 M hM
    have hT := sum_bounds G.d1
    have hBM : 0 ≤ ss.sum * M ∧ ss.sum * M ≤ 360 := by
      constructor
      · exact Int.mul_nonneg (by omega) (by omega)
      · have := Int.mul_le_mul_of_nonneg_right b12 (show 0 ≤ M by omega)
        omega
    refine ⟨.ref p, rfl, p, dx, _, rfl, R.ob, rdD ⟨td, ds, rfl, .of R.td, .int ss.sum, rfl, .int M, rfl, _, _, rfl, rfl, .inl ⟨by omega, by omega⟩, _, _, rfl, rfl, ?_⟩⟩
    -- latest = total = slowest_met = 0; left = number
    refine ⟨.int x, rfl, ?_⟩
    -- for step in range(len(ring))
    refine ⟨.ref p, rfl, p, dx, _, rfl, R.ob, p, dx, td, ts, ds, ss, rfl, R, (ds.length : Int), rfl, by omega, by omega, (ds.length : Int), rfl, by omega, by omega, for_range (lo := 0) (n := ((ds.length : Int) - 0).toNat)
      (fun i σ H' => H' = H ∧ ∃ L y10 y11, σ = edS p r x ss.sum M (ds.sum - ss.sum * M) L ds ss i y10 y11 ∧ sumBack (at' ss) r i ≤ x ∧ Sofar ds.length (at' ds) (at' ss) r x i L)
      ⟨rfl, 0, none, none, ?_, ?_, RR.sofar0 r x⟩ ?_ ?_⟩
    · show _ = ([some (.ref p), some (.int r), some (.int x), some (.int ss.sum), some (.int M), some (.int (ds.sum - ss.sum * M)), some (.int 0), some (.int 0), some (.int 0), some (.int (x - 0)), none, none] : L2.St)
      rw [show x - 0 = x by omega]
      rfl
    · show (0 : Int) ≤ x
      exact x0
    · rintro i σ H1 hi ⟨rfl, L, y10, y11, rfl, hle, SF⟩
      have hin : i < ds.length := by omega
      have e0 : (0 : Int) + (i : Int) = i := by omega
      have hix : atI (ds.map V.int) (r - (0 + (i : Int))) = some (.int (at' ds (r - i))) := by
        rw [e0]
        exact at_ix (by omega) (by omega)
      have hix2 : atI (ss.map V.int) (r - (0 + (i : Int))) = some (.int (at' ss (r - i))) := by
        rw [e0]
        exact at_ix (by omega) (by omega)
      -- total
      refine ⟨.int (sumBack (at' ds) r i), rfl, .ref p, rfl, p, dx, _, rfl, R.ob, rdD ⟨.int r, rfl, _, rfl, _, _, rfl, rfl, td, _, _, _, rfl, rfl, .of R.td, hix, _, _, rfl, rfl, ?_⟩⟩
      -- slowest_met
      refine ⟨_, rfl, .ref p, rfl, p, dx, _, rfl, R.ob, rdD ⟨.int r, rfl, _, rfl, _, _, rfl, rfl, td, _, _, _, rfl, rfl, .of R.td, hix, _, _, rfl, ?_⟩⟩
      rw [met_next RR.d1 r i]
      have hm1 : maxBack (at' ds) r i ≤ M := max_le RR.mu r i
      have hm0 : 1 ≤ maxBack (at' ds) r i := by
        have h1 := max_ge (f := at' ds) r (j := 0) (k := i) (Nat.zero_le _)
        have h2 := RR.d1 (r - (0 : Nat))
        omega
      -- latest
      refine ⟨.int L, rfl, .int (sumBack (at' ds) r (i + 1)), rfl, .int (x - sumBack (at' ss) r i), rfl, .int (maxBack (at' ds) r i), rfl, _, _, rfl, rfl, .inr ⟨by omega, by omega⟩, _, _, rfl, rfl, _, _, rfl, ?_⟩
      rw [max_if]
      have hch : sumBack (at' ds) r (i + 1) + (x - sumBack (at' ss) r i) * maxBack (at' ds) r i = ch (at' ds) (at' ss) r i x := rfl
      rw [hch]
      have hs : sumBack (at' ss) r (i + 1) = sumBack (at' ss) r i + at' ss (r - i) := rfl
      -- the end of a turn
      have fin : ∀ (L2 : Int) (y11' : Option V), Sofar ds.length (at' ds) (at' ss) r x (i + 1) L2 → tSeq (tAug 9 (tOp (rIxT K) (tProp T.C (spStarts T.C) [] E0 (tVar 0)) (tOp (rI0 fun i j => .int (i - j)) (tVar 1) (tVar 10))) (ipI fun i j => i - j)) (tIfS (tTest (tOp (rI0 fun i j => .bl (decide (i < j))) (tVar 9) (tC (.int 0)))) tBreak tNext)
          { nx := fun σ H' => H' = H1 ∧ ∃ L y10 y11, σ = edS p r x ss.sum M (ds.sum - ss.sum * M) L ds ss (i + 1) y10 y11 ∧ sumBack (at' ss) r (i + 1) ≤ x ∧ Sofar ds.length (at' ds) (at' ss) r x (i + 1) L,
            ct := fun σ H' => H' = H1 ∧ ∃ L y10 y11, σ = edS p r x ss.sum M (ds.sum - ss.sum * M) L ds ss (i + 1) y10 y11 ∧ sumBack (at' ss) r (i + 1) ≤ x ∧ Sofar ds.length (at' ds) (at' ss) r x (i + 1) L,
            rt := Q, bk := fun σ H' => tRet (tVar 6) { nx := fun _ H' => Q .non H', rt := Q } σ H' }
          [some (.ref p), some (.int r), some (.int x), some (.int ss.sum), some (.int M), some (.int (ds.sum - ss.sum * M)), some (.int L2), some (.int (sumBack (at' ds) r (i + 1))), some (.int (maxBack (at' ds) r i)), some (.int (x - sumBack (at' ss) r i)), some (.int (0 + (i : Int))), y11'] H1 := by
        intro L2 y11' SF2
        refine ⟨_, rfl, .ref p, rfl, p, dx, _, rfl, R.ob, rdS ⟨.int r, rfl, _, rfl, _, _, rfl, rfl, ts, _, _, _, rfl, rfl, .of R.ts, hix2, _, _, rfl, rfl, ?_⟩⟩
        have el : x - sumBack (at' ss) r i - at' ss (r - i) = x - sumBack (at' ss) r (i + 1) := by omega
        refine ⟨.int (x - sumBack (at' ss) r i - at' ss (r - i)), rfl, _, _, rfl, rfl, _, rfl, ?_⟩
        by_cases hb : x - sumBack (at' ss) r i - at' ss (r - i) < 0
        · rw [decide_eq_true hb]
          refine iteT ⟨.int L2, rfl, ?_⟩
          have := RR.E_of (RR.fin SF2 (.inr ⟨by omega, by omega⟩))
          rw [this] at q
          exact q
        · rw [decide_eq_false hb]
          refine iteF ⟨rfl, L2, some (.int (0 + (i : Int))), y11', ?_, by omega, SF2⟩
          unfold edS
          rw [← el]
          rfl
      -- if left >= books
      refine ⟨.int (x - sumBack (at' ss) r i), rfl, .int ss.sum, rfl, _, _, rfl, rfl, _, rfl, ?_⟩
      by_cases hb : ss.sum ≤ x - sumBack (at' ss) r i
      · rw [decide_eq_true hb]
        refine iteT ?_
        have go : ∀ rounds : Int, rounds = (if 0 < ds.sum - ss.sum * M then (x - sumBack (at' ss) r i) / ss.sum else 1) → _ := fun rounds hrd =>
          fin (max (max L (ch (at' ds) (at' ss) r i x)) (sumBack (at' ds) r (i + 1) + (x - sumBack (at' ss) r i) * M + rounds * (ds.sum - ss.sum * M))) (some (.int rounds)) (RR.step SF hle (by rw [if_pos hb, hrd]))
        -- rounds
        refine ⟨.int (ds.sum - ss.sum * M), rfl, _, _, rfl, rfl, _, rfl, ?_⟩
        by_cases hg : 0 < ds.sum - ss.sum * M
        · rw [decide_eq_true hg]
          refine iteT ⟨.int (x - sumBack (at' ss) r i), rfl, .int ss.sum, rfl, _, _, rfl, rfl, ⟨by omega, by omega⟩, ?_⟩
          refine ⟨_, rfl, .int (sumBack (at' ds) r (i + 1)), rfl, .int (x - sumBack (at' ss) r i), rfl, .int M, rfl, _, _, rfl, rfl, .inr ⟨by omega, by omega⟩, _, _, rfl, rfl, _, rfl, .int (ds.sum - ss.sum * M), rfl, _, _, rfl, rfl, .inr ⟨by omega, by omega⟩, _, _, rfl, rfl, _, _, rfl, ?_⟩
          rw [max_if]
          exact go _ (by rw [if_pos hg])
        · rw [decide_eq_false hg]
          refine iteF ?_
          refine ⟨_, rfl, .int (sumBack (at' ds) r (i + 1)), rfl, .int (x - sumBack (at' ss) r i), rfl, .int M, rfl, _, _, rfl, rfl, .inr ⟨by omega, by omega⟩, _, _, rfl, rfl, _, rfl, .int (ds.sum - ss.sum * M), rfl, _, _, rfl, rfl, .inr ⟨by omega, by omega⟩, _, _, rfl, rfl, _, _, rfl, ?_⟩
          rw [max_if]
          exact go _ (by rw [if_neg hg])
      · rw [decide_eq_false hb]
        refine iteF ?_
        exact fin _ y11 (RR.step SF hle (by rw [if_neg hb]))
    · rintro σ H1 ⟨rfl, L, y10, y11, rfl, hle, SF⟩
      have := RR.E_of (RR.fin SF (.inl (by omega)))
      rw [this] at q
      exact ⟨.int L, rfl, q⟩
end
end Rp
namespace Rp
open PySem PySem.Spec PyProof.Rows L2 Rz Rm
/-- readings and days of a repetition -/
def RepIs (T B M p q : Int) : Prop := (T ≤ M * B ∧ p = 1 ∧ q = M) ∨ (¬ T ≤ M * B ∧ p = B ∧ q = T)
theorem at_emod {ss : List Int} (i : Int) : at' ss (i % (ss.length : Int)) = at' ss i := by
  unfold at'
  rw [Int.emod_emod_of_dvd _ (Int.dvd_refl _)]
theorem emod_pred (z n : Int) : (z % n - 1) % n = (z - 1) % n := by
  have h := Int.emod_add_mul_ediv z n
  have e : z - 1 = (z % n - 1) + n * (z / n) := by omega
  rw [e, Int.add_mul_emod_self_left]
/-- the book of place q at reader r -/
def Bk (ss : List Int) (r q v : Int) : Prop := ∃ i : Nat, i < ss.length ∧ sumBack (at' ss) r i ≤ q ∧ q < sumBack (at' ss) r (i + 1) ∧ v = (ss.take ((r - i) % (ss.length : Int)).toNat).sum + (q - sumBack (at' ss) r i)
theorem Bk.inj {ss : List Int} (h0 : ∀ i, 0 ≤ at' ss i) {r q v v' : Int} (h : Bk ss r q v) (h' : Bk ss r q v') : v = v' := by
  obtain ⟨i, _, a1, a2, rfl⟩ := h
  obtain ⟨j, _, b1, b2, rfl⟩ := h'
  have e : i = j := by
    rcases Nat.lt_trichotomy i j with z | z | z
    · have := sum_mono h0 r (show i + 1 ≤ j by omega)
      omega
    · exact z
    · have := sum_mono h0 r (show j + 1 ≤ i by omega)
      omega
  rw [e]
section
variable {P : Program} {w : World} {K : PySem.W.Frag} {mg : Str → Option Value} {base : Heap}
/-! ### ring(reader, number) -/
def spCall (C : Addr) : Sp := fun vs H Q _ => ∃ p dx td ts ds ss, ∃ r x : Int, vs = [.ref p, .int r, .int x] ∧ RingAt C H p dx td ts ds ss ∧ 0 ≤ r ∧ r < ds.length ∧ 0 ≤ x ∧ x ≤ 1000000000000000000 ∧ Q (.int (Rm.E (at' ds) (at' ss) r x)) H
theorem ok_call (T : Tx K mg) : FnOk P w K mg base CX0 4 T.a_rcall T.d_rcall P_rcall (spCall T.C) := by
  refine T.F_rcall.ok sc_rcall (fun vs H Q E h => ?_) (fun cdv A outer s H vs Q E hr h => ?_)
  · obtain ⟨p, dx, td, ts, ds, ss, r, x, rfl, _⟩ := h
    rfl
  · obtain ⟨p, dx, td, ts, ds, ss, r, x, rfl, R, r0, r1, x0, x1, q⟩ := h
    obtain ⟨u1, c1⟩ := T.c_LATEST
    refine ⟨_, pss_cons (ps_expr (pe_call (ok_reader T) hr (by rfl) T.g_check_reader T.F_check_reader.kp T.b_check_reader .nil pass0 (pa_cons (pv 0) (pa_cons (pv 1) pa_nil))))
      (pss_cons (ps_expr (pe_call (ok_chk T) hr (by rfl) T.g_check_number T.F_check_number.kp T.b_check_number .nil pass0 (pa_cons (pv 2) (pa_cons pe_int (pa_cons (pe_glob (v := .int 1000000000000000000) (by rfl) c1 ⟨_, rfl⟩) pa_nil)))))
      (pss_one (ps_ret (pe_call (ok_end T) hr (by rfl) T.g_end_day T.F_end_day.kp T.b_end_day .nil pass0 (pa_cons (pv 0) (pa_cons (pv 1) (pa_cons (pv 2) pa_nil))))))), ?_⟩
    refine ⟨_, rfl, _, rfl, p, dx, td, ts, ds, ss, r, rfl, R, r0, r1, ?_⟩
    refine ⟨_, rfl, x, 0, 1000000000000000000, rfl, x0, x1, ?_⟩
    exact ⟨_, rfl, _, rfl, _, rfl, p, dx, td, ts, ds, ss, r, x, rfl, R, r0, r1, x0, q⟩
end
end Rp
namespace Rp
open PySem PySem.Spec PyProof.Rows L2 Rz Rm
theorem cut_front {xs : List V} {r : Int} (h0 : 0 ≤ r) (h1 : r < xs.length) : cutV xs none (some r) = xs.take r.toNat ∧ ¬ (HT.sIx xs.length 0 none = 0 ∧ HT.sIx xs.length xs.length (some r) = xs.length) := by
  have e : r = ((r.toNat : Nat) : Int) := by omega
  have e1 : HT.sIx xs.length xs.length (some r) = r.toNat := by
    rw [e, HT.sIx_nat]
    omega
  constructor
  · unfold cutV
    rw [HT.sIx_none, e1]
    simp
  · rw [e1]
    omega
theorem sum_le_zero : ∀ {l : List Int}, (∀ y ∈ l, y ≤ 0) → l.sum ≤ 0
  | [], _ => by simp
  | a :: r, h => by
    have h1 := h a List.mem_cons_self
    have ih := sum_le_zero (l := r) fun y hy => h y (List.mem_cons_of_mem _ hy)
    rw [List.sum_cons]
    omega
section
variable {N : Nat} {d s : Int → Int} {B T M : Int} (R : Rm.Ring N d s B T M)
include R
theorem _root_.Rm.Ring.rep_big {p q x : Int} (h : RepIs T B M p q) (hx : 4 * B + B * M ≤ x) : Rep d s p q x := by
  rw [RepIs, Int.mul_comm M B] at h
  rcases h with ⟨h1, rfl, rfl⟩ | ⟨h1, rfl, rfl⟩
  · exact R.rep_slow h1 hx
  · exact R.rep_fast (by omega) hx
theorem _root_.Rm.Ring.p1 {p q : Int} (h : RepIs T B M p q) : 1 ≤ p := by
  have := R.b1
  rcases h with ⟨_, rfl, _⟩ | ⟨_, rfl, _⟩ <;> omega
end
section
variable {P : Program} {w : World} {K : PySem.W.Frag} {mg : Str → Option Value} {base : Heap}
end
end Rp
namespace Rp
open PySem PySem.Spec PyProof.Rows L2 Rz Rm
/-! ### the drawn row -/
/-- all that was tracked but the row is as it was -/
def Kp (row : Addr) (H H' : Hp) : Prop := ∀ b o, H b = some o → b ≠ row → H' b = some o
theorem Kp.refl (row : Addr) (H : Hp) : Kp row H H := fun _ _ h _ => h
theorem Kp.trans {row : Addr} {H H1 H2 : Hp} (a : Kp row H H1) (b : Kp row H1 H2) : Kp row H H2 := fun c o h n => b c o (a c o h n) n
theorem Same.kp {row : Addr} {H H' : Hp} (s : Same H H') : Kp row H H' := fun b o h _ => s b o h
/-- the script stands in the written part -/
def Wr (K : PySem.W.Frag) (a : Addr) (xs : List V) : Prop := ∃ (o : Obj) (its : Array Value) (n : Nat), K.lookup a = some o ∧ o.cls = .type "list" ∧ o.dict = none ∧ o.data = .seq its n ∧ its.size ≤ sizeLine ∧ Vals xs its.toList
theorem far_of {K : PySem.W.Frag} {H : Hp} {D a : Addr} {xs : List V} (h : SqL K H a xs) (hD : H D = none) : D ≠ a ∨ Wr K a xs := by
  rcases h with (h | ⟨o, h⟩) | h
  · exact .inl fun e => by rw [e, h] at hD; cases hD
  · exact .inl fun e => by rw [e, h] at hD; cases hD
  · exact .inr h
theorem sq_upd {K : PySem.W.Frag} {H : Hp} {D a : Addr} {xs : List V} {o : HO} (h : SqL K H a xs) (f : D ≠ a ∨ Wr K a xs) : SqL K (upd H D o) a xs := by
  rcases f with f | f
  · rcases h with (h | ⟨u, h⟩) | h
    · exact .inl (.inl (by rw [upd_ne f.symm]; exact h))
    · exact .inl (.inr ⟨u, by rw [upd_ne f.symm]; exact h⟩)
    · exact .inr h
  · exact .inr f
structure RowAt (K : PySem.W.Frag) (H : Hp) (row a : Addr) (ns : List Int) : Prop where
  ob : ∃ i m q : Int, H row = some (.lst [.ref a, .int i, .int m, .int q]) ∧ 0 ≤ i
  sc : SqL K H a (ns.map V.int)
  ne : row ≠ a ∨ Wr K a (ns.map V.int)
theorem RowAt.same {K : PySem.W.Frag} {H H' : Hp} {row a : Addr} {ns : List Int} (R : RowAt K H row a ns) (s : Same H H') : RowAt K H' row a ns := by
  obtain ⟨i, m, q, h, h0⟩ := R.ob
  exact ⟨⟨i, m, q, s _ _ h, h0⟩, s.seq R.sc, R.ne⟩
theorem kp_upd {row : Addr} {H : Hp} {o : HO} : Kp row H (upd H row o) := fun b z h n => by
  rw [upd_ne n]
  exact h
/-- the row is written -/
theorem RowAt.put {K : PySem.W.Frag} {H : Hp} {row a : Addr} {ns : List Int} (R : RowAt K H row a ns) {i m q : Int} (h : 0 ≤ i) : RowAt K (upd H row (.lst [.ref a, .int i, .int m, .int q])) row a ns :=
  ⟨⟨i, m, q, upd_same, h⟩, sq_upd R.sc R.ne, R.ne⟩
theorem first_ix : ∀ {l : List Int} {m : Int}, m ∈ l → ∃ j : Nat, l[j]? = some m ∧ ∀ k z, k < j → l[k]? = some z → z ≠ m
  | a :: r, m, h => by
    by_cases e : a = m
    · exact ⟨0, by simp [e], fun k z hk => absurd hk (Nat.not_lt_zero _)⟩
    · obtain ⟨j, h1, h2⟩ := first_ix (l := r) (m := m) (by
        rcases List.mem_cons.mp h with q | q
        · exact absurd q.symm e
        · exact q)
      refine ⟨j + 1, by simpa using h1, fun k z hk hz => ?_⟩
      cases k with
      | zero =>
        simp at hz
        rw [← hz]
        exact e
      | succ k => exact h2 k z (by omega) (by simpa using hz)
theorem mem_le_sum : ∀ {l : List Int}, (∀ y ∈ l, 0 ≤ y) → ∀ x ∈ l, x ≤ l.sum
  | a :: r, h, x, hx => by
    have ha := h a List.mem_cons_self
    have hr : ∀ y ∈ r, 0 ≤ y := fun y hy => h y (List.mem_cons_of_mem _ hy)
    have hs : 0 ≤ r.sum := sum_nonneg' hr
    rw [List.sum_cons]
    rcases List.mem_cons.mp hx with e | e
    · omega
    · have := mem_le_sum hr x e
      omega
where sum_nonneg' : ∀ {l : List Int}, (∀ y ∈ l, 0 ≤ y) → 0 ≤ l.sum
  | [], _ => by simp
  | a :: r, h => by
    have h1 := h a List.mem_cons_self
    have h2 := sum_nonneg' (l := r) fun y hy => h y (List.mem_cons_of_mem _ hy)
    rw [List.sum_cons]
    omega
theorem mem_set {l : List Int} {j : Nat} {v y : Int} (h : y ∈ l.set j v) : y ∈ l ∨ y = v := List.mem_or_eq_of_mem_set h
theorem flat_ints (l : List Int) : (l.map V.int).all flatV = true := by
  rw [List.all_eq_true]
  intro x hx
  obtain ⟨i, _, rfl⟩ := List.mem_map.mp hx
  rfl
theorem lc_keep {σ : L2.St} {H : Hp} {F G : Hp → Prop} (h : F H) : tYes σ H (fun b H3 => if b = true then F H3 else G H3) := by
  show if true = true then F H else G H
  rw [if_pos rfl]
  exact h
theorem map_snoc (l : List Int) (v : Int) : l.map V.int ++ [V.int v] = (l ++ [v]).map V.int := by
  rw [List.map_append]
  rfl
theorem RowAt.upd' {K : PySem.W.Frag} {H : Hp} {D row a : Addr} {ns : List Int} {o : HO} (R : RowAt K H row a ns) (n : D ≠ row) (f : D ≠ a ∨ Wr K a (ns.map V.int)) : RowAt K (upd H D o) row a ns := by
  obtain ⟨i, m, q, h, h0⟩ := R.ob
  exact ⟨⟨i, m, q, by rw [upd_ne n.symm]; exact h, h0⟩, sq_upd R.sc f, R.ne⟩
theorem RowAt.nn {K : PySem.W.Frag} {H : Hp} {D row a : Addr} {ns : List Int} (R : RowAt K H row a ns) (h : H D = none) : D ≠ row := fun e => by
  obtain ⟨i, m, q, h2, _⟩ := R.ob
  rw [e, h2] at h
  cases h
theorem kp_new {row D : Addr} {H0 H : Hp} {o : HO} (k : Kp row H0 H) (h : H0 D = none) : Kp row H0 (upd H D o) := fun b z e n => by
  rw [upd_ne (ne_of_none e h)]
  exact k b z e n
end Rp
/-! Equal values are alike, whatever their depth. -/
namespace Rp
open PySem PySem.Spec PyProof.Rows L2 Rz Rm
/-- equal values: ints, None; tuples and lists of such -/
def LkD : Nat → Hp → V → V → Prop
  | 0, _, v, w => (∃ x, v = .int x ∧ w = .int x) ∨ (v = .non ∧ w = .non) ∨ ∃ x, v = .str x ∧ w = .str x
  | n + 1, H, v, w => LkD n H v w ∨ ∃ (f g : Addr) (xs ys : List V), v = .ref f ∧ w = .ref g ∧ ((H f = some (.tup xs) ∧ H g = some (.tup ys)) ∨ (H f = some (.lst xs) ∧ H g = some (.lst ys))) ∧ ys.length = xs.length ∧ xs.length ≤ 1000000 ∧
      ∀ (i : Nat) (x y : V), xs[i]? = some x → ys[i]? = some y → LkD n H x y
theorem LkD.same {H H' : Hp} (s : Same H H') : ∀ {n : Nat} {v w : V}, LkD n H v w → LkD n H' v w
  | 0, _, _, h => h
  | n + 1, _, _, h => by
    rcases h with h | ⟨f, g, xs, ys, e1, e2, ho, hl, h1, ht⟩
    · exact .inl (LkD.same s h)
    · refine .inr ⟨f, g, xs, ys, e1, e2, ?_, hl, h1, fun i x y hx hy => LkD.same s (ht i x y hx hy)⟩
      rcases ho with ⟨a, b⟩ | ⟨a, b⟩
      · exact .inl ⟨s _ _ a, s _ _ b⟩
      · exact .inr ⟨s _ _ a, s _ _ b⟩
theorem LkD.ints {H : Hp} {f g : Addr} {l : List Int} (h : (H f = some (.tup (l.map V.int)) ∧ H g = some (.tup (l.map V.int))) ∨ (H f = some (.lst (l.map V.int)) ∧ H g = some (.lst (l.map V.int)))) (hl : l.length ≤ 1000) : LkD 1 H (.ref f) (.ref g) := by
  refine .inr ⟨f, g, _, _, rfl, rfl, h, rfl, by rw [List.length_map]; omega, fun i x y hx hy => ?_⟩
  rw [hx] at hy
  cases hy
  rw [List.getElem?_map] at hx
  cases e : l[i]? with
  | none => rw [e] at hx; cases hx
  | some z => rw [e] at hx; cases hx; exact .inl ⟨z, rfl, rfl⟩
section
variable {P : Program} {w : World} {K : PySem.W.Frag} {mg : Str → Option Value} {base : Heap}
def spLikeD (n : Nat) : Sp := fun vs H Q _ => ∃ v y : V, vs = [v, y] ∧ LkD n H v y ∧ ∀ H', Same H H' → Q (.bl true) H'
theorem ok_like0 (T : Tx K mg) : FnOk P w K mg base CX0 1 T.a_llike T.d_llike P_llike (spLikeD 0) := by
  refine T.F_llike.ok sc_llike (fun vs H Q E h => ?_) (fun cdv A outer s H vs Q E hr h => ?_)
  · obtain ⟨x, y, rfl, _⟩ := h
    rfl
  · obtain ⟨v, y, rfl, hv, q⟩ := h
    have q := q H (fun _ _ z => z)
    refine ⟨_, pss_cons (ps_if (PW.pt (pw_or (pt_val (pe_callB call_isi (by rfl) T.z_isinstance (by decide +kernel) (pa_cons (pv 1) (pa_cons (pe_bltn (v := .ty "tuple") (u := .type "tuple") (by rfl) T.z_tuple (by decide +kernel) rfl) pa_nil))))
        (pw_or1 (pt_val (pe_callB call_isi (by rfl) T.z_isinstance (by decide +kernel) (pa_cons (pv 1) (pa_cons (pe_bltn (v := .ty "list") (u := .type "list") (by rfl) T.z_list (by decide +kernel) rfl) pa_nil))))))) pss_never pss_nil)
      (pss_cons (ps_if (pt_cmpR op_ne (pe_callB call_isi (by rfl) T.z_isinstance (by decide +kernel) (pa_cons (pv 0) (pa_cons (pe_bltn (v := .ty "bool") (u := .type "bool") (by rfl) T.z_bool (by decide +kernel) rfl) pa_nil)))
        (pe_callB call_isi (by rfl) T.z_isinstance (by decide +kernel) (pa_cons (pv 1) (pa_cons (pe_bltn (v := .ty "bool") (u := .type "bool") (by rfl) T.z_bool (by decide +kernel) rfl) pa_nil))) (nomark _)) (pss_one (ps_ret pe_bl)) pss_nil)
      (pss_cons (ps_if (PW.pt (pw_or (pt_cmpR op_ne (pe_callB call_isi (by rfl) T.z_isinstance (by decide +kernel) (pa_cons (pv 0) (pa_cons (pe_bltn (v := .ty "int") (u := .type "int") (by rfl) T.z_int (by decide +kernel) rfl) pa_nil)))
        (pe_callB call_isi (by rfl) T.z_isinstance (by decide +kernel) (pa_cons (pv 1) (pa_cons (pe_bltn (v := .ty "int") (u := .type "int") (by rfl) T.z_int (by decide +kernel) rfl) pa_nil))) (nomark _))
        (pw_or1 (pt_cmpR op_ne (pe_callB call_isi (by rfl) T.z_isinstance (by decide +kernel) (pa_cons (pv 0) (pa_cons (pe_bltn (v := .ty "str") (u := .type "str") (by rfl) T.z_str (by decide +kernel) rfl) pa_nil)))
        (pe_callB call_isi (by rfl) T.z_isinstance (by decide +kernel) (pa_cons (pv 1) (pa_cons (pe_bltn (v := .ty "str") (u := .type "str") (by rfl) T.z_str (by decide +kernel) rfl) pa_nil))) (nomark _))))) (pss_one (ps_ret pe_bl)) pss_nil)
      (pss_one (ps_ret (pe_cmpR op_eq (pv 0) (pv 1) (nomark _)))))), ?_⟩
    rcases hv with ⟨x, rfl, rfl⟩ | ⟨rfl, rfl⟩ | ⟨x, rfl, rfl⟩
    · refine ⟨_, rfl, .int x, .ty "tuple", .type "int", .type "tuple", false, rfl, .ty _, .base (.int x), kit_ty (by decide +kernel), _, rfl, iteF ?_⟩
      refine ⟨_, rfl, .int x, .ty "list", .type "int", .type "list", false, rfl, .ty _, .base (.int x), kit_ty (by decide +kernel), _, rfl, iteF ?_⟩
      refine ⟨_, rfl, .int x, .ty "bool", .type "int", .type "bool", false, rfl, .ty _, .base (.int x), kit_ty (by decide +kernel), _, rfl, .int x, .ty "bool", .type "int", .type "bool", false, rfl, .ty _, .base (.int x), kit_ty (by decide +kernel), rfl, _, rfl, iteNS rfl ?_⟩
      refine ⟨_, rfl, .int x, .ty "int", .type "int", .type "int", true, rfl, .ty _, .base (.int x), kit_ty (by decide +kernel), _, rfl, .int x, .ty "int", .type "int", .type "int", true, rfl, .ty _, .base (.int x), kit_ty (by decide +kernel), rfl, _, rfl, iteNS rfl ?_⟩
      refine ⟨_, rfl, .int x, .ty "str", .type "int", .type "str", false, rfl, .ty _, .base (.int x), kit_ty (by decide +kernel), _, rfl, .int x, .ty "str", .type "int", .type "str", false, rfl, .ty _, .base (.int x), kit_ty (by decide +kernel), rfl, _, rfl, iteNS rfl ?_⟩
      exact ⟨_, rfl, _, rfl, rfl, by rw [decide_eq_true rfl]; exact q⟩
    · refine ⟨_, rfl, .non, .ty "tuple", .type "NoneType", .type "tuple", false, rfl, .ty _, .base (.non), kit_ty (by decide +kernel), _, rfl, iteF ?_⟩
      refine ⟨_, rfl, .non, .ty "list", .type "NoneType", .type "list", false, rfl, .ty _, .base (.non), kit_ty (by decide +kernel), _, rfl, iteF ?_⟩
      refine ⟨_, rfl, .non, .ty "bool", .type "NoneType", .type "bool", false, rfl, .ty _, .base (.non), kit_ty (by decide +kernel), _, rfl, .non, .ty "bool", .type "NoneType", .type "bool", false, rfl, .ty _, .base (.non), kit_ty (by decide +kernel), rfl, _, rfl, iteNS rfl ?_⟩
      refine ⟨_, rfl, .non, .ty "int", .type "NoneType", .type "int", false, rfl, .ty _, .base (.non), kit_ty (by decide +kernel), _, rfl, .non, .ty "int", .type "NoneType", .type "int", false, rfl, .ty _, .base (.non), kit_ty (by decide +kernel), rfl, _, rfl, iteNS rfl ?_⟩
      refine ⟨_, rfl, .non, .ty "str", .type "NoneType", .type "str", false, rfl, .ty _, .base (.non), kit_ty (by decide +kernel), _, rfl, .non, .ty "str", .type "NoneType", .type "str", false, rfl, .ty _, .base (.non), kit_ty (by decide +kernel), rfl, _, rfl, iteNS rfl ?_⟩
      exact ⟨_, rfl, _, rfl, rfl, q⟩
    · refine ⟨_, rfl, .str x, .ty "tuple", .type "str", .type "tuple", false, rfl, .ty _, .base (.str x), kit_ty (by decide +kernel), _, rfl, iteF ?_⟩
      refine ⟨_, rfl, .str x, .ty "list", .type "str", .type "list", false, rfl, .ty _, .base (.str x), kit_ty (by decide +kernel), _, rfl, iteF ?_⟩
      refine ⟨_, rfl, .str x, .ty "bool", .type "str", .type "bool", false, rfl, .ty _, .base (.str x), kit_ty (by decide +kernel), _, rfl, .str x, .ty "bool", .type "str", .type "bool", false, rfl, .ty _, .base (.str x), kit_ty (by decide +kernel), rfl, _, rfl, iteNS rfl ?_⟩
      refine ⟨_, rfl, .str x, .ty "int", .type "str", .type "int", false, rfl, .ty _, .base (.str x), kit_ty (by decide +kernel), _, rfl, .str x, .ty "int", .type "str", .type "int", false, rfl, .ty _, .base (.str x), kit_ty (by decide +kernel), rfl, _, rfl, iteNS rfl ?_⟩
      refine ⟨_, rfl, .str x, .ty "str", .type "str", .type "str", true, rfl, .ty _, .base (.str x), kit_ty (by decide +kernel), _, rfl, .str x, .ty "str", .type "str", .type "str", true, rfl, .ty _, .base (.str x), kit_ty (by decide +kernel), rfl, _, rfl, iteNS rfl ?_⟩
      exact ⟨_, rfl, _, rfl, rfl, by rw [decide_eq_true rfl]; exact q⟩
theorem ok_likeS {n : Nat} (T : Tx K mg) (IH : FnOk P w K mg base CX0 (n + 1) T.a_llike T.d_llike P_llike (spLikeD n)) : FnOk P w K mg base CX0 (n + 2) T.a_llike T.d_llike P_llike (fun vs H Q _ => ∃ (f g : Addr) (xs ys : List V), vs = [.ref f, .ref g] ∧ (H f = some (.tup xs) ∧ H g = some (.tup ys)) ∧ ys.length = xs.length ∧ xs.length ≤ 1000000 ∧
      (∀ (i : Nat) (x y : V), xs[i]? = some x → ys[i]? = some y → LkD n H x y) ∧ ∀ H', Same H H' → Q (.bl true) H') := by
  refine T.F_llike.ok sc_llike (fun vs H Q E h => ?_) (fun cdv A outer s H vs Q E hr h => ?_)
  · obtain ⟨f, g, xs, ys, rfl, _⟩ := h
    rfl
  · obtain ⟨f, g, xs, ys, rfl, ⟨hf, hg⟩, hl, h1000, ht, q⟩ := h
    have nd := sc_llike.nd
    refine ⟨_, pss_cons (ps_if (PW.pt (pw_or (pt_val (pe_callB call_isi (by rfl) T.z_isinstance (by decide +kernel) (pa_cons (pv 1) (pa_cons (pe_bltn (v := .ty "tuple") (u := .type "tuple") (by rfl) T.z_tuple (by decide +kernel) rfl) pa_nil))))
        (pw_or1 (pt_val (pe_callB call_isi (by rfl) T.z_isinstance (by decide +kernel) (pa_cons (pv 1) (pa_cons (pe_bltn (v := .ty "list") (u := .type "list") (by rfl) T.z_list (by decide +kernel) rfl) pa_nil)))))))
        (pss_cons (ps_if (pt_cmpR op_ne (pe_callB call_isi (by rfl) T.z_isinstance (by decide +kernel) (pa_cons (pv 0) (pa_cons (pe_bltn (v := .ty "tuple") (u := .type "tuple") (by rfl) T.z_tuple (by decide +kernel) rfl) pa_nil)))
          (pe_callB call_isi (by rfl) T.z_isinstance (by decide +kernel) (pa_cons (pv 1) (pa_cons (pe_bltn (v := .ty "tuple") (u := .type "tuple") (by rfl) T.z_tuple (by decide +kernel) rfl) pa_nil))) (nomark _)) (pss_one (ps_ret pe_bl)) pss_nil)
        (pss_cons (ps_if (PW.pt (pw_or (pt_cmpR op_ne (pe_callB call_isi (by rfl) T.z_isinstance (by decide +kernel) (pa_cons (pv 0) (pa_cons (pe_bltn (v := .ty "list") (u := .type "list") (by rfl) T.z_list (by decide +kernel) rfl) pa_nil)))
          (pe_callB call_isi (by rfl) T.z_isinstance (by decide +kernel) (pa_cons (pv 1) (pa_cons (pe_bltn (v := .ty "list") (u := .type "list") (by rfl) T.z_list (by decide +kernel) rfl) pa_nil))) (nomark _))
          (pw_or1 (pt_cmpR op_ne (pe_callB call_len_seq (by rfl) T.z_len PySem.boot_len (pa_cons (pv 0) pa_nil)) (pe_callB call_len_seq (by rfl) T.z_len PySem.boot_len (pa_cons (pv 1) pa_nil)) (nomark _))))) (pss_one (ps_ret pe_bl)) pss_nil)
        (pss_one (ps_ret (pe_cmpR (op_eqD hr.units) (pe_lc (own := [("_law_k", 2)]) rfl nd (pi_range1 (by rfl) T.z_range (pa_cons (pe_callB call_len_seq (by rfl) T.z_len PySem.boot_len (pa_cons (pv 1) pa_nil)) pa_nil)) (blkOk_by (N := N_llike) (sc := defScope s_llike) (by decide +kernel))
          (fun _ _ _ _ _ => pg_name (i := 2) nd rfl (.inl rfl))
          (fun _ _ _ _ _ => pts_one (pt_not (pt_val (pe_call (IH) hr (by rfl) T.g_llike T.F_llike.kp T.b_llike .nil pass0 (pa_cons (pe_ix (r := rIxT K) ix_tup (pv 0) (pv 2) (fun _ _ => rfl)) (pa_cons (pe_ix (r := rIxT K) ix_tup (pv 1) (pv 2) (fun _ _ => rfl)) pa_nil))))))
          (fun _ _ _ _ _ => pv 2)) (pe_lst pa_nil) (nomark _)))))) pss_nil) pss_never, ?_⟩
    refine ⟨_, rfl, .ref g, .ty "tuple", .type "tuple", .type "tuple", true, rfl, .ty _, .base (.tup hg), kit_ty (by decide +kernel), _, rfl, iteT ?_⟩
    refine ⟨_, rfl, .ref f, .ty "tuple", .type "tuple", .type "tuple", true, rfl, .ty _, .base (.tup hf), kit_ty (by decide +kernel), _, rfl, .ref g, .ty "tuple", .type "tuple", .type "tuple", true, rfl, .ty _, .base (.tup hg), kit_ty (by decide +kernel), rfl, _, rfl, iteNS rfl ?_⟩
    refine ⟨_, rfl, .ref f, .ty "list", .type "tuple", .type "list", false, rfl, .ty _, .base (.tup hf), kit_ty (by decide +kernel), _, rfl, .ref g, .ty "list", .type "tuple", .type "list", false, rfl, .ty _, .base (.tup hg), kit_ty (by decide +kernel), rfl, _, rfl, iteNS rfl ?_⟩
    refine ⟨_, rfl, f, _, rfl, .inr (.of hf), _, rfl, g, _, rfl, .inr (.of hg), rfl, _, rfl, iteNS (by rw [hl]) ?_⟩
    refine ⟨_, rfl, g, _, rfl, .inr (.of hg), _, rfl, by omega, by omega, fun D hD => lc_range (lo := 0) (n := (((ys.length : Nat) : Int)).toNat) (fun i H' => H' D = some (.lst []) ∧ Same H H') ⟨upd_same, same_upd hD⟩ ?_ ?_⟩
    · rintro i H1 hi ⟨h1, s1⟩
      have hi' : i < xs.length := by omega
      have hi2 : i < ys.length := by omega
      refine ⟨rfl, ?_⟩
      refine ⟨_, rfl, _, rfl, f, _, _, _, rfl, rfl, sq_same s1 hf, at_of (j := i) (by omega) (List.getElem?_eq_getElem hi'), _, rfl, _, rfl, g, _, _, _, rfl, rfl, sq_same s1 hg, at_of (j := i) (by omega) (List.getElem?_eq_getElem hi2), _, _, rfl, (ht i _ _ (List.getElem?_eq_getElem hi') (List.getElem?_eq_getElem hi2)).same s1, fun H2 s2 => ⟨_, rfl, ?_⟩⟩
      exact iteF ⟨s2 _ _ h1, s1.trans s2⟩
    · rintro H1 ⟨h1, s1⟩
      refine ⟨Nat.zero_le _, fun e he => ?_⟩
      have s2 := same_upd (o := .lst []) he
      exact ⟨.list [], .list [], .lst (.of (s2 _ _ h1)) .nil, .lst (.of upd_same) .nil, rfl, rfl, q _ (s1.trans s2)⟩
theorem ok_likeSL {n : Nat} (T : Tx K mg) (IH : FnOk P w K mg base CX0 (n + 1) T.a_llike T.d_llike P_llike (spLikeD n)) : FnOk P w K mg base CX0 (n + 2) T.a_llike T.d_llike P_llike (fun vs H Q _ => ∃ (f g : Addr) (xs ys : List V), vs = [.ref f, .ref g] ∧ (H f = some (.lst xs) ∧ H g = some (.lst ys)) ∧ ys.length = xs.length ∧ xs.length ≤ 1000000 ∧
      (∀ (i : Nat) (x y : V), xs[i]? = some x → ys[i]? = some y → LkD n H x y) ∧ ∀ H', Same H H' → Q (.bl true) H') := by
  refine T.F_llike.ok sc_llike (fun vs H Q E h => ?_) (fun cdv A outer s H vs Q E hr h => ?_)
  · obtain ⟨f, g, xs, ys, rfl, _⟩ := h
    rfl
  · obtain ⟨f, g, xs, ys, rfl, ⟨hf, hg⟩, hl, h1000, ht, q⟩ := h
    have nd := sc_llike.nd
    refine ⟨_, pss_cons (ps_if (PW.pt (pw_or (pt_val (pe_callB call_isi (by rfl) T.z_isinstance (by decide +kernel) (pa_cons (pv 1) (pa_cons (pe_bltn (v := .ty "tuple") (u := .type "tuple") (by rfl) T.z_tuple (by decide +kernel) rfl) pa_nil))))
        (pw_or1 (pt_val (pe_callB call_isi (by rfl) T.z_isinstance (by decide +kernel) (pa_cons (pv 1) (pa_cons (pe_bltn (v := .ty "list") (u := .type "list") (by rfl) T.z_list (by decide +kernel) rfl) pa_nil)))))))
        (pss_cons (ps_if (pt_cmpR op_ne (pe_callB call_isi (by rfl) T.z_isinstance (by decide +kernel) (pa_cons (pv 0) (pa_cons (pe_bltn (v := .ty "tuple") (u := .type "tuple") (by rfl) T.z_tuple (by decide +kernel) rfl) pa_nil)))
          (pe_callB call_isi (by rfl) T.z_isinstance (by decide +kernel) (pa_cons (pv 1) (pa_cons (pe_bltn (v := .ty "tuple") (u := .type "tuple") (by rfl) T.z_tuple (by decide +kernel) rfl) pa_nil))) (nomark _)) (pss_one (ps_ret pe_bl)) pss_nil)
        (pss_cons (ps_if (PW.pt (pw_or (pt_cmpR op_ne (pe_callB call_isi (by rfl) T.z_isinstance (by decide +kernel) (pa_cons (pv 0) (pa_cons (pe_bltn (v := .ty "list") (u := .type "list") (by rfl) T.z_list (by decide +kernel) rfl) pa_nil)))
          (pe_callB call_isi (by rfl) T.z_isinstance (by decide +kernel) (pa_cons (pv 1) (pa_cons (pe_bltn (v := .ty "list") (u := .type "list") (by rfl) T.z_list (by decide +kernel) rfl) pa_nil))) (nomark _))
          (pw_or1 (pt_cmpR op_ne (pe_callB call_len_seq (by rfl) T.z_len PySem.boot_len (pa_cons (pv 0) pa_nil)) (pe_callB call_len_seq (by rfl) T.z_len PySem.boot_len (pa_cons (pv 1) pa_nil)) (nomark _))))) (pss_one (ps_ret pe_bl)) pss_nil)
        (pss_one (ps_ret (pe_cmpR (op_eqD hr.units) (pe_lc (own := [("_law_k", 2)]) rfl nd (pi_range1 (by rfl) T.z_range (pa_cons (pe_callB call_len_seq (by rfl) T.z_len PySem.boot_len (pa_cons (pv 1) pa_nil)) pa_nil)) (blkOk_by (N := N_llike) (sc := defScope s_llike) (by decide +kernel))
          (fun _ _ _ _ _ => pg_name (i := 2) nd rfl (.inl rfl))
          (fun _ _ _ _ _ => pts_one (pt_not (pt_val (pe_call (IH) hr (by rfl) T.g_llike T.F_llike.kp T.b_llike .nil pass0 (pa_cons (pe_ix (r := rIxL K) ix_list (pv 0) (pv 2) (fun _ _ => rfl)) (pa_cons (pe_ix (r := rIxL K) ix_list (pv 1) (pv 2) (fun _ _ => rfl)) pa_nil))))))
          (fun _ _ _ _ _ => pv 2)) (pe_lst pa_nil) (nomark _)))))) pss_nil) pss_never, ?_⟩
    refine ⟨_, rfl, .ref g, .ty "tuple", .type "list", .type "tuple", false, rfl, .ty _, .base (.lst hg), kit_ty (by decide +kernel), _, rfl, iteF ?_⟩
    refine ⟨_, rfl, .ref g, .ty "list", .type "list", .type "list", true, rfl, .ty _, .base (.lst hg), kit_ty (by decide +kernel), _, rfl, iteT ?_⟩
    refine ⟨_, rfl, .ref f, .ty "tuple", .type "list", .type "tuple", false, rfl, .ty _, .base (.lst hf), kit_ty (by decide +kernel), _, rfl, .ref g, .ty "tuple", .type "list", .type "tuple", false, rfl, .ty _, .base (.lst hg), kit_ty (by decide +kernel), rfl, _, rfl, iteNS rfl ?_⟩
    refine ⟨_, rfl, .ref f, .ty "list", .type "list", .type "list", true, rfl, .ty _, .base (.lst hf), kit_ty (by decide +kernel), _, rfl, .ref g, .ty "list", .type "list", .type "list", true, rfl, .ty _, .base (.lst hg), kit_ty (by decide +kernel), rfl, _, rfl, iteNS rfl ?_⟩
    refine ⟨_, rfl, f, _, rfl, .inl (.of hf), _, rfl, g, _, rfl, .inl (.of hg), rfl, _, rfl, iteNS (by rw [hl]) ?_⟩
    refine ⟨_, rfl, g, _, rfl, .inl (.of hg), _, rfl, by omega, by omega, fun D hD => lc_range (lo := 0) (n := (((ys.length : Nat) : Int)).toNat) (fun i H' => H' D = some (.lst []) ∧ Same H H') ⟨upd_same, same_upd hD⟩ ?_ ?_⟩
    · rintro i H1 hi ⟨h1, s1⟩
      have hi' : i < xs.length := by omega
      have hi2 : i < ys.length := by omega
      refine ⟨rfl, ?_⟩
      refine ⟨_, rfl, _, rfl, f, _, _, _, rfl, rfl, .of (s1 _ _ hf), at_of (j := i) (by omega) (List.getElem?_eq_getElem hi'), _, rfl, _, rfl, g, _, _, _, rfl, rfl, .of (s1 _ _ hg), at_of (j := i) (by omega) (List.getElem?_eq_getElem hi2), _, _, rfl, (ht i _ _ (List.getElem?_eq_getElem hi') (List.getElem?_eq_getElem hi2)).same s1, fun H2 s2 => ⟨_, rfl, ?_⟩⟩
      exact iteF ⟨s2 _ _ h1, s1.trans s2⟩
    · rintro H1 ⟨h1, s1⟩
      refine ⟨Nat.zero_le _, fun e he => ?_⟩
      have s2 := same_upd (o := .lst []) he
      exact ⟨.list [], .list [], .lst (.of (s2 _ _ h1)) .nil, .lst (.of upd_same) .nil, rfl, rfl, q _ (s1.trans s2)⟩
theorem ok_likeD (T : Tx K mg) : ∀ n : Nat, FnOk P w K mg base CX0 (n + 1) T.a_llike T.d_llike P_llike (spLikeD n)
  | 0 => ok_like0 T
  | n + 1 => by
    have IH := ok_likeD T n
    have h0 := IH.mono (show n + 1 ≤ n + 2 by omega)
    have hT := ok_likeS T IH
    have hL := ok_likeSL T IH
    refine ⟨fun vs H Q E h => ?_, fun A outer s H args us vs Q E hr e b r h => ?_⟩
    · obtain ⟨v, y, rfl, _⟩ := h
      rfl
    · obtain ⟨v, y, rfl, hv, q⟩ := h
      rcases hv with hv | ⟨f, g, xs, ys, rfl, rfl, ho | ho, hl, h1, ht⟩
      · exact h0.run A outer s H args us _ Q E hr e b r ⟨v, y, rfl, hv, q⟩
      · exact hT.run A outer s H args us _ Q E hr e b r ⟨f, g, xs, ys, rfl, ho, hl, h1, ht, q⟩
      · exact hL.run A outer s H args us _ Q E hr e b r ⟨f, g, xs, ys, rfl, ho, hl, h1, ht, q⟩
end
end Rp
namespace Rp
open PySem PySem.Spec PyProof.Rows L2 Rz Rm
/-! ### which book, when it came -/
section
variable {ds ss : List Int} {M : Int} (RR : Rm.Ring ds.length (at' ds) (at' ss) ss.sum ds.sum M) (hl : ss.length = ds.length)
include RR hl
theorem bk_ex (k : Int) {q : Int} (q0 : 0 ≤ q) (q1 : q < ss.sum) : ∃ v, Bk ss k q v := by
  have go : ∀ n : Nat, n ≤ ss.length → q < sumBack (at' ss) k n → ∃ v, Bk ss k q v := by
    intro n
    induction n with
    | zero => intro _ h; exact absurd h (by show ¬ q < 0; omega)
    | succ n ih =>
      intro hn h
      by_cases hh : q < sumBack (at' ss) k n
      · exact ih (by omega) hh
      · exact ⟨_, n, by omega, by omega, h, rfl⟩
  refine go ss.length (Nat.le_refl _) ?_
  rw [hl, RR.b]
  exact q1
end
noncomputable def bk (ss : List Int) (k n : Int) : Int := open Classical in if h : ∃ v, Bk ss k (n % ss.sum) v then Classical.choose h else 0
noncomputable def cm (ds ss : List Int) (k n : Int) : Int := if n < at' ss k then 0 else Rm.E (at' ds) (at' ss) (k - 1) (n - at' ss k)
section
variable {ds ss : List Int} {M : Int} (RR : Rm.Ring ds.length (at' ds) (at' ss) ss.sum ds.sum M) (hl : ss.length = ds.length)
include RR hl
theorem bk_is (k n : Int) : Bk ss k (n % ss.sum) (bk ss k n) := by
  have hB := RR.b1
  have h := bk_ex RR hl k (q := n % ss.sum) (Int.emod_nonneg _ (by omega)) (Int.emod_lt_of_pos _ (by omega))
  unfold bk
  rw [dif_pos h]
  exact Classical.choose_spec h
theorem bk_of {k n v : Int} (h : Bk ss k (n % ss.sum) v) : bk ss k n = v := (bk_is RR hl k n).inj RR.s0 h
theorem s_le (k : Int) : at' ss k ≤ ss.sum := by
  have hN := RR.pos
  have h := sum_mono RR.s0 k (show 1 ≤ ds.length by omega)
  rw [RR.b] at h
  have e : sumBack (at' ss) k 1 = at' ss k := by
    show 0 + at' ss (k - (0 : Nat)) = _
    rw [show k - ((0 : Nat) : Int) = k by omega]
    omega
  omega
theorem bk_first {k : Nat} (hk : k < ds.length) {n : Int} (n0 : 0 ≤ n) (n1 : n < at' ss k) : bk ss k n = (ss.take k).sum + n := by
  have h1 := s_le RR hl k
  refine bk_of RR hl ⟨0, by omega, ?_, ?_, ?_⟩
  · show (0 : Int) ≤ _
    exact Int.emod_nonneg _ (by have := RR.b1; omega)
  · rw [Int.emod_eq_of_lt n0 (by omega)]
    show n < 0 + at' ss ((k : Int) - (0 : Nat))
    rw [show (k : Int) - ((0 : Nat) : Int) = k by omega]
    omega
  · rw [Int.emod_eq_of_lt n0 (by omega), show (k : Int) - ((0 : Nat) : Int) = k by omega, Int.emod_eq_of_lt (by omega) (by omega), Int.toNat_natCast]
    show _ = _ + (n - 0)
    omega
theorem bk_rec (k : Int) {n : Int} (h : at' ss k ≤ n) : bk ss k n = bk ss (k - 1) (n - at' ss k) := by
  have hB := RR.b1
  have hs0 := RR.s0 k
  have hsB := s_le RR hl k
  have hN := RR.pos
  symm
  apply bk_of RR hl
  have q0 : 0 ≤ n % ss.sum := Int.emod_nonneg _ (by omega)
  have q1 : n % ss.sum < ss.sum := Int.emod_lt_of_pos _ (by omega)
  have hdm := Int.emod_add_mul_ediv n ss.sum
  obtain ⟨i, hi, a1, a2, a3⟩ := bk_is RR hl k n
  have hf : ∀ j : Nat, sumBack (at' ss) k (j + 1) = at' ss k + sumBack (at' ss) (k - 1) j := fun j => sum_front (at' ss) j k
  by_cases hq : at' ss k ≤ n % ss.sum
  · have hi0 : i ≠ 0 := fun e => by
      subst e
      have := hf 0
      have e0 : sumBack (at' ss) (k - 1) 0 = 0 := rfl
      have : sumBack (at' ss) k (0 + 1) = sumBack (at' ss) k 1 := rfl
      omega
    obtain ⟨i', rfl⟩ : ∃ i', i = i' + 1 := ⟨i - 1, by omega⟩
    have em : (n - at' ss k) % ss.sum = n % ss.sum - at' ss k := by
      have e1 : n - at' ss k = (n % ss.sum - at' ss k) + ss.sum * (n / ss.sum) := by omega
      rw [e1, Int.add_mul_emod_self_left, Int.emod_eq_of_lt (by omega) (by omega)]
    have h1 := hf i'
    have h2 := hf (i' + 1)
    refine ⟨i', by omega, by omega, by omega, ?_⟩
    rw [em, a3, show k - 1 - (i' : Int) = k - ((i' + 1 : Nat) : Int) by omega]
    omega
  · have hi0 : i = 0 := by
      rcases Nat.eq_zero_or_pos i with z | z
      · exact z
      · have := sum_mono RR.s0 k (show 1 ≤ i by omega)
        have h1 := hf 0
        have e0 : sumBack (at' ss) (k - 1) 0 = 0 := rfl
        have : sumBack (at' ss) k (0 + 1) = sumBack (at' ss) k 1 := rfl
        omega
    subst hi0
    have hdiv : 1 ≤ n / ss.sum := by
      rcases Int.lt_or_le (n / ss.sum) 1 with z | z
      · have : ss.sum * (n / ss.sum) ≤ 0 := Int.mul_nonpos_of_nonneg_of_nonpos (by omega) (by omega)
        omega
      · exact z
    have em : (n - at' ss k) % ss.sum = n % ss.sum - at' ss k + ss.sum := by
      have e1 : n - at' ss k = (n % ss.sum - at' ss k + ss.sum) + ss.sum * (n / ss.sum - 1) := by
        rw [Int.mul_sub]
        omega
      rw [e1, Int.add_mul_emod_self_left, Int.emod_eq_of_lt (by omega) (by omega)]
    have hlast : sumBack (at' ss) (k - 1) (ds.length - 1 + 1) = sumBack (at' ss) (k - 1) (ds.length - 1) + at' ss (k - 1 - (ds.length - 1 : Nat)) := rfl
    rw [show ds.length - 1 + 1 = ds.length by omega, RR.b] at hlast
    have hper := RR.sper (k - ds.length) 1
    rw [show k - (ds.length : Int) + ds.length * 1 = k by omega] at hper
    rw [show k - 1 - ((ds.length - 1 : Nat) : Int) = k - ds.length by omega, ← hper] at hlast
    have hfull : sumBack (at' ss) (k - 1) (ds.length - 1 + 1) = ss.sum := by
      rw [show ds.length - 1 + 1 = ds.length by omega, RR.b]
    refine ⟨ds.length - 1, by omega, by omega, by omega, ?_⟩
    have ek : (k - 1 - ((ds.length - 1 : Nat) : Int)) % (ss.length : Int) = (k - (0 : Nat)) % (ss.length : Int) := by
      rw [show k - 1 - ((ds.length - 1 : Nat) : Int) = k + (ss.length : Int) * (-1) by omega, Int.add_mul_emod_self_left, show k - ((0 : Nat) : Int) = k by omega]
    rw [em, ek, a3]
    have e0 : sumBack (at' ss) k 0 = 0 := rfl
    omega
theorem bk_per (k t n : Int) : bk ss (k + ds.length * t) n = bk ss k n := by
  have hS : ∀ i, sumBack (at' ss) (k + ds.length * t) i = sumBack (at' ss) k i := by
    intro i
    induction i with
    | zero => rfl
    | succ i ih =>
      show sumBack (at' ss) (k + ds.length * t) i + at' ss (k + ds.length * t - i) = sumBack (at' ss) k i + at' ss (k - i)
      rw [ih, show k + ds.length * t - (i : Int) = (k - i) + ds.length * t by omega, RR.sper]
  apply bk_of RR hl
  obtain ⟨i, hi, a1, a2, a3⟩ := bk_is RR hl k n
  refine ⟨i, hi, by rw [hS]; exact a1, by rw [hS]; exact a2, ?_⟩
  rw [hS, a3, show k + ds.length * t - (i : Int) = (k - i) + ss.length * t by rw [hl]; omega, Int.add_mul_emod_self_left]
end
/-! ### what lies in heaps, on lists -/
/-- f b, f (b + 1), .. below c -/
def seg (f : Int → List Int) (b c : Int) : List (List Int) := (List.range (c - b).toNat).map fun (i : Nat) => f (b + (i : Int))
theorem seg_nil {f : Int → List Int} {b c : Int} (h : c ≤ b) : seg f b c = [] := by
  unfold seg
  rw [show (c - b).toNat = 0 by omega]
  rfl
theorem seg_snoc {f : Int → List Int} {b c : Int} (h : b ≤ c) : seg f b (c + 1) = seg f b c ++ [f c] := by
  unfold seg
  rw [show (c + 1 - b).toNat = (c - b).toNat + 1 by omega, List.range_succ, List.map_append]
  show _ ++ [f (b + ((c - b).toNat : Int))] = _
  rw [show b + ((c - b).toNat : Int) = c by omega]
theorem seg_cons {f : Int → List Int} {b c : Int} (h : b < c) : seg f b c = f b :: seg f (b + 1) c := by
  unfold seg
  rw [show (c - b).toNat = (c - (b + 1)).toNat + 1 by omega, List.range_succ_eq_map, List.map_cons, List.map_map, show b + ((0 : Nat) : Int) = b by omega]
  congr 1
  apply List.map_congr_left
  intro i _
  show f (b + ((i + 1 : Nat) : Int)) = f (b + 1 + (i : Int))
  rw [show b + ((i + 1 : Nat) : Int) = b + 1 + (i : Int) by omega]
theorem seg_length (f : Int → List Int) (b c : Int) : (seg f b c).length = (c - b).toNat := by
  unfold seg
  rw [List.length_map, List.length_range]
theorem seg_get {f : Int → List Int} {b c : Int} {i : Nat} (h : i < (c - b).toNat) : (seg f b c)[i]? = some (f (b + i)) := by
  unfold seg
  rw [List.getElem?_map, List.getElem?_range h]
  rfl
/-- tuples of ints at addresses -/
def Tups (H : Hp) : List V → List (List Int) → Prop := Paired fun v l => ∃ t, v = V.ref t ∧ H t = some (.tup (l.map V.int))
theorem Tups.snoc {H : Hp} {v : V} {l : List Int} (h2 : ∃ t, v = V.ref t ∧ H t = some (.tup (l.map V.int))) : ∀ {xs : List V} {ls : List (List Int)}, Tups H xs ls → Tups H (xs ++ [v]) (ls ++ [l])
  | _, _, .nil => .cons h2 .nil
  | _, _, .cons r t => .cons r (Tups.snoc h2 t)
theorem Tups.mono {H H' : Hp} (k : ∀ b xs, H b = some (.tup xs) → H' b = some (.tup xs)) : ∀ {xs : List V} {ls : List (List Int)}, Tups H xs ls → Tups H' xs ls
  | _, _, .nil => .nil
  | _, _, .cons ⟨t, e, h⟩ r => .cons ⟨t, e, k _ _ h⟩ (Tups.mono k r)
theorem Tups.length {H : Hp} {xs : List V} {ls : List (List Int)} (h : Tups H xs ls) : xs.length = ls.length := Paired.length h
theorem Tups.get {H : Hp} : ∀ {xs : List V} {ls : List (List Int)} {i : Nat} {l : List Int}, Tups H xs ls → ls[i]? = some l → ∃ t, xs[i]? = some (.ref t) ∧ H t = some (.tup (l.map V.int))
  | _, _, i, l, .nil, h => by simp at h
  | _, _, 0, l, .cons ⟨t, e, h2⟩ r, h => by
    simp at h
    subst h
    exact ⟨t, by rw [e]; rfl, h2⟩
  | _, _, i + 1, l, .cons _ r, h => by
    obtain ⟨t, h1, h2⟩ := Tups.get (i := i) (l := l) r (by simpa using h)
    exact ⟨t, by simpa using h1, h2⟩
/-- as data, for == -/
theorem dp_is {K : PySem.W.Frag} {H : Hp} : ∀ l : List Int, DpAll K H (l.map V.int) (l.map PyData.int)
  | [] => .nil
  | x :: r => .cons (.int x) (dp_is r)
theorem Tups.data {K : PySem.W.Frag} {H : Hp} : ∀ {xs : List V} {ls : List (List Int)}, Tups H xs ls → DpAll K H xs (ls.map fun l => PyData.tuple (l.map PyData.int))
  | _, _, .nil => .nil
  | _, _, .cons ⟨t, e, h⟩ r => .cons (by subst e; exact .tup (.of h) (dp_is _)) (Tups.data r)
theorem lay_tups : ∀ ls : List (List Int), PyData.canLayAll0 (ls.map fun l => PyData.tuple (l.map PyData.int)) = true ∧ PyData.depthAll (ls.map fun l => PyData.tuple (l.map PyData.int)) ≤ 1
  | [] => ⟨rfl, Nat.zero_le _⟩
  | l :: r => by
    obtain ⟨h1, h2⟩ := lay_tups r
    constructor
    · simp [PyData.canLayAll0, PyData.canLay0, PySem.W.ke_canLayAll0 l, h1]
    · simp only [List.map_cons, PyData.depthAll, PyData.depth, PySem.W.ke_depthAll l]
      omega
theorem shaped_tups (ls : List (List Int)) : SeqAt.shaped (.list (ls.map fun l => PyData.tuple (l.map PyData.int))) = true := by
  obtain ⟨h1, h2⟩ := lay_tups ls
  simp only [SeqAt.shaped, PyData.canLay0, PyData.depth, h1, Bool.true_and]
  exact decide_eq_true (by omega)
end Rp
namespace Rp
open PySem PySem.Spec PyProof.Rows L2 Rz Rm
def nx (N j : Nat) : Nat := if j + 1 = N then 0 else j + 1
def prv (N j : Nat) : Nat := if j = 0 then N - 1 else j - 1
theorem nx_lt {N j : Nat} (h : j < N) : nx N j < N := by
  unfold nx
  split <;> omega
theorem prv_lt {N j : Nat} (h : j < N) : prv N j < N := by
  unfold prv
  split <;> omega
theorem prv_nx {N j : Nat} (h : j < N) : prv N (nx N j) = j := by
  unfold prv nx
  split <;> split <;> omega
theorem prv_inj {N i j : Nat} (hi : i < N) (hj : j < N) (h : prv N i = j) : i = nx N j := by
  unfold prv at h
  unfold nx
  split at h <;> split <;> omega
theorem nx_mod {N j : Nat} (h : j < N) : ((j : Int) + 1) % (N : Int) = (nx N j : Int) := by
  unfold nx
  split
  · rename_i e
    rw [show (j : Int) + 1 = N by omega, Int.emod_self]
    rfl
  · rw [Int.emod_eq_of_lt (by omega) (by omega)]
    omega
noncomputable def item (ds ss : List Int) (j n : Int) : List Int := [bk ss j n, cm ds ss j n]
noncomputable def rowOf (ds ss : List Int) (j n : Int) : List Int := [Rm.E (at' ds) (at' ss) j n - at' ds j, Rm.E (at' ds) (at' ss) j n, bk ss j n, cm ds ss j n]
/-- the ends, counts of the reader before, by its index -/
theorem E_prv {ds ss : List Int} {M : Int} (RR : Rm.Ring ds.length (at' ds) (at' ss) ss.sum ds.sum M) {j : Nat} (hj : j < ds.length) (x : Int) : Rm.E (at' ds) (at' ss) (prv ds.length j : Nat) x = Rm.E (at' ds) (at' ss) ((j : Int) - 1) x := by
  unfold prv
  split
  · rename_i e
    have h := RR.E_per ((j : Int) - 1) x 1
    rw [show (j : Int) - 1 + ds.length * 1 = ((ds.length - 1 : Nat) : Int) by omega] at h
    exact h
  · rw [show ((j - 1 : Nat) : Int) = (j : Int) - 1 by omega]
theorem Cn_prv {ds ss : List Int} {M : Int} (RR : Rm.Ring ds.length (at' ds) (at' ss) ss.sum ds.sum M) {j : Nat} (hj : j < ds.length) (x : Int) : Cn (at' ds) (at' ss) (prv ds.length j : Nat) x = Cn (at' ds) (at' ss) ((j : Int) - 1) x := by
  unfold prv
  split
  · rename_i e
    have h := RR.cn_per ((j : Int) - 1) x 1
    rw [show (j : Int) - 1 + ds.length * 1 = ((ds.length - 1 : Nat) : Int) by omega] at h
    exact h
  · rw [show ((j - 1 : Nat) : Int) = (j : Int) - 1 by omega]
theorem item_next {ds ss : List Int} {M : Int} (RR : Rm.Ring ds.length (at' ds) (at' ss) ss.sum ds.sum M) (hl : ss.length = ds.length) {j : Nat} (hj : j < ds.length) {n : Int} (n0 : 0 ≤ n) :
    item ds ss (nx ds.length j : Nat) (at' ss (nx ds.length j : Nat) + n) = [bk ss j n, Rm.E (at' ds) (at' ss) j n] := by
  have hb := bk_rec RR hl (nx ds.length j : Nat) (n := at' ss (nx ds.length j : Nat) + n) (by omega)
  rw [show at' ss (nx ds.length j : Nat) + n - at' ss (nx ds.length j : Nat) = n by omega] at hb
  have hp := E_prv RR (nx_lt hj) n
  rw [prv_nx hj] at hp
  have hbp : bk ss (((nx ds.length j : Nat) : Int) - 1) n = bk ss j n := by
    unfold nx
    split
    · rename_i e
      have h := bk_per RR hl (((0 : Nat) : Int) - 1) 1 n
      rw [show ((0 : Nat) : Int) - 1 + ds.length * 1 = j by omega] at h
      exact h.symm
    · rw [show ((j + 1 : Nat) : Int) - 1 = j by omega]
  unfold item cm
  rw [if_neg (by omega), hb, hbp, show at' ss (nx ds.length j : Nat) + n - at' ss (nx ds.length j : Nat) = n by omega, hp]
/-- where the play's lists stand: apart, and new -/
structure Ad (H0 : Hp) (N : Nat) (hl rd rl sl : Addr) (ha ra : List Addr) : Prop where
  f1 : H0 hl = none
  f2 : H0 rd = none
  f3 : H0 rl = none
  f4 : H0 sl = none
  fh : ∀ a ∈ ha, H0 a = none
  fr : ∀ a ∈ ra, H0 a = none
  n1 : hl ≠ rd
  n2 : hl ≠ rl
  n3 : hl ≠ sl
  n4 : rd ≠ rl
  n5 : rd ≠ sl
  n6 : rl ≠ sl
  nh : ∀ a ∈ ha, a ≠ hl ∧ a ≠ rd ∧ a ≠ rl ∧ a ≠ sl
  nr : ∀ a ∈ ra, a ≠ hl ∧ a ≠ rd ∧ a ≠ rl ∧ a ≠ sl
  nhr : ∀ a ∈ ha, ∀ c ∈ ra, a ≠ c
  dh : ha.Nodup
  dr : ra.Nodup
  lh : ha.length = N
  lr : ra.length = N
/-- what a reader is reading -/
def RdOk (H : Hp) (ds ss : List Int) (v : V) (j : Int) (b e : Int) : Prop := (v = .non ∧ b = e) ∨ (∃ t, v = .ref t ∧ H t = some (.tup [.int (Rm.E (at' ds) (at' ss) j e), .int (bk ss j e)]) ∧ b = e + 1)
/-- the play: so many readings of each reader have begun, so many have ended -/
structure Sim (ds ss : List Int) (H0 H : Hp) (hl rd rl sl : Addr) (ha ra : List Addr) (b e : Nat → Int) : Prop where
  sm : Same H0 H
  ohl : H hl = some (.lst (ha.map V.ref))
  orl : H rl = some (.lst (ra.map V.ref))
  oh : ∀ (j : Nat) (a : Addr), ha[j]? = some a → ∃ xs, H a = some (.lst xs) ∧ Tups H xs (seg (item ds ss j) (b j) (at' ss j + e (prv ds.length j)))
  orr : ∀ (j : Nat) (a : Addr), ra[j]? = some a → ∃ xs, H a = some (.lst xs) ∧ Tups H xs (seg (rowOf ds ss j) 0 (b j))
  ord : ∃ vs, H rd = some (.lst vs) ∧ vs.length = ds.length ∧ ∀ j, j < ds.length → ∃ v, vs[j]? = some v ∧ RdOk H ds ss v j (b j) (e j)
  b0 : ∀ j, j < ds.length → 0 ≤ b j
  e0 : ∀ j, j < ds.length → 0 ≤ e j
  le : ∀ j, j < ds.length → b j ≤ at' ss j + e (prv ds.length j)
theorem RdOk.mono {H H' : Hp} {ds ss : List Int} {v : V} {j b e : Int} (k : ∀ b xs, H b = some (.tup xs) → H' b = some (.tup xs)) (h : RdOk H ds ss v j b e) : RdOk H' ds ss v j b e := by
  rcases h with h | ⟨t, h1, h2, h3⟩
  · exact .inl h
  · exact .inr ⟨t, h1, k _ _ h2, h3⟩
section
variable {ds ss : List Int} {H0 H H' : Hp} {hl rd rl sl : Addr} {ha ra : List Addr} {b e : Nat → Int}
theorem Sim.same (S : Sim ds ss H0 H hl rd rl sl ha ra b e) (s : Same H H') : Sim ds ss H0 H' hl rd rl sl ha ra b e := by
  have k : ∀ b xs, H b = some (.tup xs) → H' b = some (.tup xs) := fun b xs h => s _ _ h
  refine ⟨S.sm.trans s, s _ _ S.ohl, s _ _ S.orl, fun j a h => ?_, fun j a h => ?_, ?_, S.b0, S.e0, S.le⟩
  · obtain ⟨xs, h1, h2⟩ := S.oh j a h
    exact ⟨xs, s _ _ h1, h2.mono k⟩
  · obtain ⟨xs, h1, h2⟩ := S.orr j a h
    exact ⟨xs, s _ _ h1, h2.mono k⟩
  · obtain ⟨vs, h1, h2, h3⟩ := S.ord
    refine ⟨vs, s _ _ h1, h2, fun j hj => ?_⟩
    obtain ⟨v, a1, a2⟩ := h3 j hj
    exact ⟨v, a1, a2.mono k⟩
/-- sights are written -/
theorem Sim.sight (A : Ad H0 ds.length hl rd rl sl ha ra) (S : Sim ds ss H0 H hl rd rl sl ha ra b e) (hs : ∃ ys, H sl = some (.lst ys)) (k : ∀ x o, H x = some o → x ≠ sl → H' x = some o) : Sim ds ss H0 H' hl rd rl sl ha ra b e := by
  obtain ⟨ys, hs⟩ := hs
  have kt : ∀ b xs, H b = some (.tup xs) → H' b = some (.tup xs) := fun b xs h => k _ _ h (ne_of h hs (by intro z; cases z))
  refine ⟨fun x o h => k _ _ (S.sm _ _ h) (ne_of_none h A.f4), k _ _ S.ohl A.n3, k _ _ S.orl A.n6, fun j a h => ?_, fun j a h => ?_, ?_, S.b0, S.e0, S.le⟩
  · obtain ⟨xs, h1, h2⟩ := S.oh j a h
    exact ⟨xs, k _ _ h1 (A.nh a (List.mem_of_getElem? h)).2.2.2, h2.mono kt⟩
  · obtain ⟨xs, h1, h2⟩ := S.orr j a h
    exact ⟨xs, k _ _ h1 (A.nr a (List.mem_of_getElem? h)).2.2.2, h2.mono kt⟩
  · obtain ⟨vs, h1, h2, h3⟩ := S.ord
    refine ⟨vs, k _ _ h1 A.n5, h2, fun j hj => ?_⟩
    obtain ⟨v, a1, a2⟩ := h3 j hj
    exact ⟨v, a1, a2.mono kt⟩
/-- reader j's reading ends; the book comes to the next one -/
theorem Sim.ends {M : Int} (RR : Rm.Ring ds.length (at' ds) (at' ss) ss.sum ds.sum M) (hss : ss.length = ds.length) (A : Ad H0 ds.length hl rd rl sl ha ra) (S : Sim ds ss H0 H hl rd rl sl ha ra b e) {j : Nat} (hj : j < ds.length) (hb : b j = e j + 1)
    {a : Addr} {xs vs : List V} {t : Addr} (ga : ha[nx ds.length j]? = some a) (gx : H a = some (.lst xs)) (gv : H rd = some (.lst vs))
    (k : ∀ x o, H x = some o → x ≠ a → x ≠ rd → H' x = some o) (hx : H' a = some (.lst (xs ++ [.ref t]))) (hv : H' rd = some (.lst (vs.set j .non))) (ht : H' t = some (.tup [.int (bk ss j (e j)), .int (Rm.E (at' ds) (at' ss) j (e j))])) :
    Sim ds ss H0 H' hl rd rl sl ha ra b (fun i => if i = j then e j + 1 else e i) := by
  have kt : ∀ b xs, H b = some (.tup xs) → H' b = some (.tup xs) := fun b xs h => k _ _ h (ne_of h gx (by intro z; cases z)) (ne_of h gv (by intro z; cases z))
  have ama := List.mem_of_getElem? ga
  refine ⟨fun x o h => k _ _ (S.sm _ _ h) (ne_of_none h (A.fh a ama)) (ne_of_none h A.f2), k _ _ S.ohl (A.nh a ama).1.symm A.n1, k _ _ S.orl (A.nh a ama).2.2.1.symm A.n4.symm, fun i c h => ?_, fun i c h => ?_, ?_, S.b0, fun i hi => ?_, fun i hi => ?_⟩
  · have hi : i < ds.length := by rw [← A.lh]; exact (List.getElem?_eq_some_iff.mp h).1
    obtain ⟨ys, h1, h2⟩ := S.oh i c h
    by_cases ei : i = nx ds.length j
    · subst ei
      rw [ga] at h
      cases h
      rw [gx] at h1
      cases h1
      refine ⟨_, hx, ?_⟩
      rw [prv_nx hj] at h2 ⊢
      have hle := S.le _ hi
      rw [prv_nx hj] at hle
      show Tups H' _ (seg _ _ (_ + (if j = j then e j + 1 else e j)))
      rw [if_pos rfl, show at' ss (nx ds.length j : Nat) + (e j + 1) = at' ss (nx ds.length j : Nat) + e j + 1 by omega, seg_snoc hle, item_next RR hss hj (S.e0 j hj)]
      exact Tups.snoc ⟨t, rfl, ht⟩ (h2.mono kt)
    · have hc : c ≠ a := fun z => by
        subst z
        exact ei (nd_ix A.dh h ga)
      have hp : prv ds.length i ≠ j := fun z => ei (prv_inj hi hj z)
      refine ⟨ys, k _ _ h1 hc (A.nh c (List.mem_of_getElem? h)).2.1, ?_⟩
      show Tups H' _ (seg _ _ (_ + (if prv ds.length i = j then e j + 1 else e (prv ds.length i))))
      rw [if_neg hp]
      exact h2.mono kt
  · obtain ⟨ys, h1, h2⟩ := S.orr i c h
    have cm := List.mem_of_getElem? h
    exact ⟨ys, k _ _ h1 (A.nhr a ama c cm).symm (A.nr c cm).2.1, h2.mono kt⟩
  · obtain ⟨ws, h1, h2, h3⟩ := S.ord
    rw [gv] at h1
    cases h1
    refine ⟨_, hv, by rw [List.length_set]; exact h2, fun i hi => ?_⟩
    obtain ⟨v, a1, a2⟩ := h3 i hi
    by_cases ei : i = j
    · subst ei
      refine ⟨.non, by rw [List.getElem?_set_self (by omega)], .inl ⟨rfl, ?_⟩⟩
      show b i = if i = i then e i + 1 else e i
      rw [if_pos rfl, hb]
    · refine ⟨v, by rw [List.getElem?_set_ne (Ne.symm ei)]; exact a1, ?_⟩
      show RdOk H' ds ss v i (b i) (if i = j then e j + 1 else e i)
      rw [if_neg ei]
      exact a2.mono kt
  · show 0 ≤ if i = j then e j + 1 else e i
    have h1 := S.e0 i hi
    have h2 := S.e0 j hj
    split <;> omega
  · have h1 := S.le i hi
    show b i ≤ _ + if prv ds.length i = j then e j + 1 else e (prv ds.length i)
    split
    · rename_i z
      rw [z] at h1
      omega
    · exact h1
/-- reader j begins -/
theorem Sim.begins (A : Ad H0 ds.length hl rd rl sl ha ra) (S : Sim ds ss H0 H hl rd rl sl ha ra b e) {j : Nat} (hj : j < ds.length) (hb : b j = e j) (hlt : b j < at' ss j + e (prv ds.length j))
    {a c : Addr} {x : V} {xs vs ys : List V} {t t2 : Addr} (ga : ha[j]? = some a) (gx : H a = some (.lst (x :: xs))) (gv : H rd = some (.lst vs)) (gc : ra[j]? = some c) (gy : H c = some (.lst ys))
    (k : ∀ z o, H z = some o → z ≠ a → z ≠ rd → z ≠ c → H' z = some o) (hx : H' a = some (.lst xs)) (hv : H' rd = some (.lst (vs.set j (.ref t)))) (hy : H' c = some (.lst (ys ++ [.ref t2])))
    (ht : H' t = some (.tup [.int (Rm.E (at' ds) (at' ss) j (e j)), .int (bk ss j (e j))])) (ht2 : H' t2 = some (.tup ((rowOf ds ss j (b j)).map V.int))) :
    Sim ds ss H0 H' hl rd rl sl ha ra (fun i => if i = j then b j + 1 else b i) e := by
  have ama := List.mem_of_getElem? ga
  have cmm := List.mem_of_getElem? gc
  have kt : ∀ b xs, H b = some (.tup xs) → H' b = some (.tup xs) := fun b xs h => k _ _ h (ne_of h gx (by intro z; cases z)) (ne_of h gv (by intro z; cases z)) (ne_of h gy (by intro z; cases z))
  refine ⟨fun x o h => k _ _ (S.sm _ _ h) (ne_of_none h (A.fh a ama)) (ne_of_none h A.f2) (ne_of_none h (A.fr c cmm)), k _ _ S.ohl (A.nh a ama).1.symm A.n1 (A.nr c cmm).1.symm, k _ _ S.orl (A.nh a ama).2.2.1.symm A.n4.symm (A.nr c cmm).2.2.1.symm, fun i c' h => ?_, fun i c' h => ?_, ?_, fun i hi => ?_, S.e0, fun i hi => ?_⟩
  · have hi : i < ds.length := by rw [← A.lh]; exact (List.getElem?_eq_some_iff.mp h).1
    obtain ⟨zs, h1, h2⟩ := S.oh i c' h
    by_cases ei : i = j
    · subst ei
      rw [ga] at h
      cases h
      rw [gx] at h1
      cases h1
      refine ⟨_, hx, ?_⟩
      rw [seg_cons hlt] at h2
      show Tups H' _ (seg _ (if i = i then b i + 1 else b i) _)
      rw [if_pos rfl]
      cases h2 with
      | cons _ r => exact Tups.mono kt r
    · have hc : c' ≠ a := fun z => by
        subst z
        exact ei (nd_ix A.dh h ga)
      have m := List.mem_of_getElem? h
      refine ⟨zs, k _ _ h1 hc (A.nh c' m).2.1 (A.nhr c' m c cmm), ?_⟩
      show Tups H' _ (seg _ (if i = j then b j + 1 else b i) _)
      rw [if_neg ei]
      exact h2.mono kt
  · have hi : i < ds.length := by rw [← A.lr]; exact (List.getElem?_eq_some_iff.mp h).1
    obtain ⟨zs, h1, h2⟩ := S.orr i c' h
    by_cases ei : i = j
    · subst ei
      rw [gc] at h
      cases h
      rw [gy] at h1
      cases h1
      refine ⟨_, hy, ?_⟩
      show Tups H' _ (seg _ 0 (if i = i then b i + 1 else b i))
      rw [if_pos rfl, seg_snoc (S.b0 i hi)]
      exact Tups.snoc ⟨t2, rfl, ht2⟩ (h2.mono kt)
    · have hc : c' ≠ c := fun z => by
        subst z
        exact ei (nd_ix A.dr h gc)
      have m := List.mem_of_getElem? h
      refine ⟨zs, k _ _ h1 (A.nhr a ama c' m).symm (A.nr c' m).2.1 hc, ?_⟩
      show Tups H' _ (seg _ 0 (if i = j then b j + 1 else b i))
      rw [if_neg ei]
      exact h2.mono kt
  · obtain ⟨ws, h1, h2, h3⟩ := S.ord
    rw [gv] at h1
    cases h1
    refine ⟨_, hv, by rw [List.length_set]; exact h2, fun i hi => ?_⟩
    obtain ⟨v, a1, a2⟩ := h3 i hi
    by_cases ei : i = j
    · subst ei
      refine ⟨.ref t, by rw [List.getElem?_set_self (by omega)], .inr ⟨t, rfl, ht, ?_⟩⟩
      show (if i = i then b i + 1 else b i) = e i + 1
      rw [if_pos rfl, hb]
    · refine ⟨v, by rw [List.getElem?_set_ne (Ne.symm ei)]; exact a1, ?_⟩
      show RdOk H' ds ss v i (if i = j then b j + 1 else b i) (e i)
      rw [if_neg ei]
      exact a2.mono kt
  · show 0 ≤ if i = j then b j + 1 else b i
    have h1 := S.b0 i hi
    have h2 := S.b0 j hj
    split <;> omega
  · have h1 := S.le i hi
    show (if i = j then b j + 1 else b i) ≤ _
    split
    · rename_i z
      subst z
      omega
    · exact h1
theorem Sim.congr (S : Sim ds ss H0 H hl rd rl sl ha ra b e) {b' e' : Nat → Int} (hss : ha.length = ds.length) (hr : ra.length = ds.length) (hb : ∀ j, j < ds.length → b' j = b j) (he : ∀ j, j < ds.length → e' j = e j) : Sim ds ss H0 H hl rd rl sl ha ra b' e' := by
  have hp : ∀ j, j < ds.length → e' (prv ds.length j) = e (prv ds.length j) := fun j hj => he _ (prv_lt hj)
  refine ⟨S.sm, S.ohl, S.orl, fun j a h => ?_, fun j a h => ?_, ?_, fun j hj => by rw [hb j hj]; exact S.b0 j hj, fun j hj => by rw [he j hj]; exact S.e0 j hj, fun j hj => by rw [hb j hj, hp j hj]; exact S.le j hj⟩
  · have hj : j < ds.length := by rw [← hss]; exact (List.getElem?_eq_some_iff.mp h).1
    rw [hb j hj, hp j hj]
    exact S.oh j a h
  · have hj : j < ds.length := by rw [← hr]; exact (List.getElem?_eq_some_iff.mp h).1
    rw [hb j hj]
    exact S.orr j a h
  · obtain ⟨vs, h1, h2, h3⟩ := S.ord
    refine ⟨vs, h1, h2, fun j hj => ?_⟩
    rw [hb j hj, he j hj]
    exact h3 j hj
end
/-! ### days -/
section
variable {ds ss : List Int} {M : Int} (RR : Rm.Ring ds.length (at' ds) (at' ss) ss.sum ds.sum M)
include RR
/-- ended by D - 1; a reading ends on D or none does -/
theorem cn_day (j D : Int) : (Rm.E (at' ds) (at' ss) j (Cn (at' ds) (at' ss) j (D - 1)) = D ∧ Cn (at' ds) (at' ss) j D = Cn (at' ds) (at' ss) j (D - 1) + 1) ∨ (Rm.E (at' ds) (at' ss) j (Cn (at' ds) (at' ss) j (D - 1)) ≠ D ∧ Cn (at' ds) (at' ss) j D = Cn (at' ds) (at' ss) j (D - 1)) := by
  obtain ⟨a0, a1, a2⟩ := RR.cn j (D - 1)
  by_cases h : Rm.E (at' ds) (at' ss) j (Cn (at' ds) (at' ss) j (D - 1)) = D
  · refine .inl ⟨h, RR.cn_of ⟨by omega, .inr ?_, ?_⟩⟩
    · rw [show Cn (at' ds) (at' ss) j (D - 1) + 1 - 1 = Cn (at' ds) (at' ss) j (D - 1) by omega]
      omega
    · have := RR.next j a0
      have := RR.d1 j
      omega
  · refine .inr ⟨h, RR.cn_of ⟨a0, ?_, by omega⟩⟩
    rcases a1 with a1 | a1
    · exact .inl a1
    · exact .inr (by omega)
/-- who isn't reading and has a book begins, nobody else does -/
theorem cn_begin {j D : Int} (hD : 0 ≤ D) (h : Cn (at' ds) (at' ss) j (D - 1 + at' ds j) = Cn (at' ds) (at' ss) j D) (hlt : Cn (at' ds) (at' ss) j D < at' ss j + Cn (at' ds) (at' ss) (j - 1) D) :
    Rm.E (at' ds) (at' ss) j (Cn (at' ds) (at' ss) j D) = D + at' ds j ∧ Cn (at' ds) (at' ss) j (D + at' ds j) = Cn (at' ds) (at' ss) j D + 1 := by
  have h1 := RR.cn_reads (r := j) hD hlt
  have h2 := (RR.cn_next j D).2
  obtain ⟨a0, a1, a2⟩ := RR.cn j (D - 1 + at' ds j)
  obtain ⟨b0, b1, b2⟩ := RR.cn j (D + at' ds j)
  rw [h] at a2
  have e : Cn (at' ds) (at' ss) j (D + at' ds j) = Cn (at' ds) (at' ss) j D + 1 := by omega
  rw [e] at b1
  rcases b1 with b1 | b1
  · have := (RR.cn j D).1
    omega
  · rw [show Cn (at' ds) (at' ss) j D + 1 - 1 = Cn (at' ds) (at' ss) j D by omega] at b1
    exact ⟨by omega, e⟩
theorem cn_waits {j D : Int} (h : Cn (at' ds) (at' ss) j D = at' ss j + Cn (at' ds) (at' ss) (j - 1) D) : Cn (at' ds) (at' ss) j (D + at' ds j) = Cn (at' ds) (at' ss) j D := by
  have h1 := RR.cn_next j D
  obtain ⟨b0, b1, b2⟩ := RR.cn j (D + at' ds j)
  obtain ⟨c0, c1, c2⟩ := RR.cn (j - 1) D
  rcases b1 with b1 | b1
  · have := (RR.cn j D).1
    omega
  · rcases Int.lt_or_le (Cn (at' ds) (at' ss) j D) (Cn (at' ds) (at' ss) j (D + at' ds j)) with z | z
    · have e : Cn (at' ds) (at' ss) j (D + at' ds j) - 1 = Cn (at' ds) (at' ss) j D := by omega
      rw [e] at b1
      have h2 := RR.from j (x := Cn (at' ds) (at' ss) j D) (by omega)
      rw [show Cn (at' ds) (at' ss) j D - at' ss j = Cn (at' ds) (at' ss) (j - 1) D by omega] at h2
      omega
    · omega
/-- begun by D - 1: as many as have ended by D, or one more -/
theorem cn_busy (j D : Int) : Cn (at' ds) (at' ss) j (D - 1) ≤ Cn (at' ds) (at' ss) j (D - 1 + at' ds j) ∧ Cn (at' ds) (at' ss) j (D - 1 + at' ds j) ≤ Cn (at' ds) (at' ss) j (D - 1) + 1 := RR.cn_next j (D - 1)
end
end Rp
namespace Rp
open PySem PySem.Spec PyProof.Rows L2 Rz Rm
section
variable {K : PySem.W.Frag} {H : Hp} {Q : VK} {a b : Addr} {xs ys : List V}
theorem sl_from {k : Int} (ha : H a = some (.tup xs)) (k0 : 0 ≤ k) (k1 : k ≤ xs.length) (h : ∀ H' p, Same H H' → H' p = some (.tup (xs.drop k.toNat)) → Q (.ref p) H') : rSlA K (.ref a) (some k) none H Q := by
  have e : k = ((k.toNat : Nat) : Int) := by omega
  have e0 : HT.sIx xs.length 0 (some k) = k.toNat := by
    rw [e, HT.sIx_nat]
    omega
  have e1 : cutV xs (some k) none = xs.drop k.toNat := by
    unfold cutV
    rw [e0, HT.sIx_none, List.take_of_length_le (by rw [List.length_drop]; omega)]
  refine ⟨a, xs, rfl, .of ha, fun z => h H a (fun _ _ q => q) ?_, fun _ p hp => h _ p (same_upd hp) (by rw [upd_same, e1])⟩
  rw [e0] at z
  rw [ha, z.1]
  rfl
theorem sl_to {k : Int} (ha : H a = some (.tup xs)) (k0 : 0 ≤ k) (k1 : k ≤ xs.length) (h : ∀ H' p, Same H H' → H' p = some (.tup (xs.take k.toNat)) → Q (.ref p) H') : rSlA K (.ref a) none (some k) H Q := by
  have e : k = ((k.toNat : Nat) : Int) := by omega
  have e0 : HT.sIx xs.length xs.length (some k) = k.toNat := by
    rw [e, HT.sIx_nat]
    omega
  have e1 : cutV xs none (some k) = xs.take k.toNat := by
    unfold cutV
    rw [e0, HT.sIx_none, List.drop_zero, Nat.sub_zero]
  refine ⟨a, xs, rfl, .of ha, fun z => h H a (fun _ _ q => q) ?_, fun _ p hp => h _ p (same_upd hp) (by rw [upd_same, e1])⟩
  rw [e0] at z
  rw [ha, z.2, List.take_length]
theorem cat_any (ha : H a = some (.tup xs)) (hb : H b = some (.tup ys)) (hl : xs.length + ys.length ≤ sizeLine) (h : ∀ H' p, Same H H' → H' p = some (.tup (xs ++ ys)) → Q (.ref p) H') : rCatA K (.ref a) (.ref b) H Q := by
  refine ⟨a, b, xs, ys, rfl, rfl, .of ha, .of hb, hl, fun z => h H b (fun _ _ q => q) ?_, fun _ z => h H a (fun _ _ q => q) ?_, fun _ _ p hp => h _ p (same_upd hp) upd_same⟩
  · rw [z, hb]
    rfl
  · rw [z, ha, List.append_nil]
end
theorem noPart {σ : L2.St} {H : Hp} {Q : Option Int → Hp → Prop} (h : Q none H) : tNoPart σ H Q := h
end Rp
namespace Rp
open PySem PySem.Spec PyProof.Rows L2 Rz Rm
/-- as data, for == -/
theorem RingAt.kp {C : Addr} {K : PySem.W.Frag} {H H' : Hp} {p dx td ts row a : Addr} {ds ss ns : List Int} (R : RingAt C H p dx td ts ds ss) (RA : RowAt K H row a ns) (k : Kp row H H') : RingAt C H' p dx td ts ds ss := by
  obtain ⟨i, m, q, h, _⟩ := RA.ob
  exact ⟨k _ _ R.ob (ne_of R.ob h (by intro z; cases z)), k _ _ R.td (ne_of R.td h (by intro z; cases z)), k _ _ R.ts (ne_of R.ts h (by intro z; cases z)), R.ok⟩
theorem tup_kp {K : PySem.W.Frag} {H H' : Hp} {t row a : Addr} {xs : List V} {ns : List Int} (ht : H t = some (.tup xs)) (RA : RowAt K H row a ns) (k : Kp row H H') : H' t = some (.tup xs) := by
  obtain ⟨i, m, q, h, _⟩ := RA.ob
  exact k _ _ ht (ne_of ht h (by intro z; cases z))
theorem up {N : Nat} {d s : Int → Int} {B T M : Int} (R : Rm.Ring N d s B T M) (r : Int) {x : Int} (hx : 0 ≤ x) : Rm.E d s r x ≤ (x + 1) * T + x * M := by
  obtain ⟨k, hk, e⟩ := R.att r hx
  have hN := R.pos
  have hB := R.b1
  have hT := R.T0
  have ek : k = k % N + k / N * N := by
    have := Nat.mod_add_div k N
    rw [Nat.mul_comm] at this
    exact this.symm
  have hj := Nat.mod_lt k hN
  have hS := R.sumS r (k % N) (k / N)
  have hD := R.sumD r (k % N + 1) (k / N)
  rw [← ek] at hS
  rw [show k % N + 1 + k / N * N = k + 1 by omega] at hD
  have hm : ((k / N : Nat) : Int) ≤ x := by
    have h1 := sum_nn R.s0 r (k % N)
    have h2 : ((k / N : Nat) : Int) * 1 ≤ ((k / N : Nat) : Int) * B := Int.mul_le_mul_of_nonneg_left hB (Int.natCast_nonneg _)
    omega
  have hd0 : sumBack d r (k % N + 1) ≤ T := by
    have := sum_mono (f := d) (fun i => by have := R.d1 i; omega) r (show k % N + 1 ≤ N by omega)
    rw [R.t] at this
    exact this
  have h3 : ((k / N : Nat) : Int) * T ≤ x * T := Int.mul_le_mul_of_nonneg_right hm hT
  have h4 := max_le R.mu r k
  have h40 : 0 ≤ maxBack d r k := by
    have h1 := max_ge (f := d) r (j := 0) (k := k) (Nat.zero_le _)
    have h2 := R.d1 (r - (0 : Nat))
    omega
  have h5 : (x - sumBack s r k) * maxBack d r k ≤ x * M := by
    have a1 : (x - sumBack s r k) * maxBack d r k ≤ x * maxBack d r k := Int.mul_le_mul_of_nonneg_right (by have := sum_nn R.s0 r k; omega) h40
    have a2 : x * maxBack d r k ≤ x * M := Int.mul_le_mul_of_nonneg_left h4 hx
    omega
  unfold ch at e
  rw [Int.add_mul]
  omega
theorem and_go {c : Bool} {u : TT} {σ : L2.St} {H : Hp} {F : Bool → Hp → Prop} (G : Hp → Prop) (next : ∀ H9, G H9 → F false H9) (hH : G H) (h1 : c = true → (∀ H9, G H9 → F false H9) → u σ H F) : if c = true then u σ H F else F false H := by
  cases c with
  | true => exact iteT (h1 rfl next)
  | false => exact iteF (next H hH)
theorem dp_ints {K : PySem.W.Frag} {H : Hp} : ∀ l : List Int, DpAll K H (l.map V.int) (l.map PyData.int)
  | [] => .nil
  | x :: r => .cons (.int x) (dp_ints r)
theorem Tups.rev {H : Hp} : ∀ {xs : List V} {ls : List (List Int)}, Tups H xs ls → Tups H xs.reverse ls.reverse
  | _, _, .nil => .nil
  | _, _, .cons r t => by
    rw [List.reverse_cons, List.reverse_cons]
    exact Tups.snoc r (Tups.rev t)
theorem Tups.drop {H : Hp} : ∀ {xs : List V} {ls : List (List Int)} (k : Nat), Tups H xs ls → Tups H (xs.drop k) (ls.drop k)
  | _, _, 0, h => h
  | _, _, k + 1, .nil => .nil
  | _, _, k + 1, .cons _ t => Tups.drop k t
theorem Tups.same {H H' : Hp} (s : Same H H') {xs : List V} {ls : List (List Int)} (h : Tups H xs ls) : Tups H' xs ls := h.mono fun b xs e => s _ _ e
/-- two tuples of ints are compared -/
theorem eqv_tup (as bs : List Int) : PyData.eqv (.tuple (as.map PyData.int)) (.tuple (bs.map PyData.int)) = decide (as = bs) := PySem.W.ked_eqvAll _ _
theorem eqv_lst (as bs : List Int) : PyData.eqv (.list (as.map PyData.int)) (.list (bs.map PyData.int)) = decide (as = bs) := PySem.W.ked_eqvAll _ _
theorem shaped_tup (as : List Int) : SeqAt.shaped (.tuple (as.map PyData.int)) = true := by
  simp only [SeqAt.shaped, PyData.canLay0, PyData.depth, PySem.W.ke_canLayAll0 as, PySem.W.ke_depthAll as, Bool.true_and]
  exact decide_eq_true (by omega)
theorem shaped_lst (as : List Int) : SeqAt.shaped (.list (as.map PyData.int)) = true := by
  simp only [SeqAt.shaped, PyData.canLay0, PyData.depth, PySem.W.ke_canLayAll0 as, PySem.W.ke_depthAll as, Bool.true_and]
  exact decide_eq_true (by omega)
section
variable {K : PySem.W.Frag} {H : Hp} {a b : Addr} {as bs : List Int} {Q : VK}
theorem tup_eq (ha : H a = some (.tup (as.map V.int))) (hb : H b = some (.tup (bs.map V.int))) (q : Q (.bl (decide (as = bs))) H) : rEqD K (.ref a) (.ref b) H Q :=
  ⟨_, _, .tup (.of ha) (dp_is as), .tup (.of hb) (dp_is bs), shaped_tup as, shaped_tup bs, by rw [eqv_tup]; exact q⟩
theorem tup_ne (ha : H a = some (.tup (as.map V.int))) (hb : H b = some (.tup (bs.map V.int))) (q : Q (.bl (!decide (as = bs))) H) : rNeD K (.ref a) (.ref b) H Q :=
  ⟨_, _, .tup (.of ha) (dp_is as), .tup (.of hb) (dp_is bs), shaped_tup as, shaped_tup bs, by rw [eqv_tup]; exact q⟩
theorem lst_ne (ha : SqL K H a (as.map V.int)) (hb : SqL K H b (bs.map V.int)) (q : Q (.bl (!decide (as = bs))) H) : rNeD K (.ref a) (.ref b) H Q :=
  ⟨_, _, .lst ha (dp_is as), .lst hb (dp_is bs), shaped_lst as, shaped_lst bs, by rw [eqv_lst]; exact q⟩
theorem lst_eq (ha : SqL K H a (as.map V.int)) (hb : SqL K H b (bs.map V.int)) (q : Q (.bl (decide (as = bs))) H) : rEqD K (.ref a) (.ref b) H Q :=
  ⟨_, _, .lst ha (dp_is as), .lst hb (dp_is bs), shaped_lst as, shaped_lst bs, by rw [eqv_lst]; exact q⟩
end
end Rp
namespace Rp
open PySem PySem.Spec PyProof.Rows L2 Rz Rm
section
variable {P : Program} {w : World} {K : PySem.W.Frag} {mg : Str → Option Value} {base : Heap}
/-! ### the dice -/
def spDice (K : PySem.W.Frag) : Sp := fun vs H Q _ => ∃ (a : Addr) (ns : List Int), vs = [.ref a] ∧ SqL K H a (ns.map V.int) ∧ ∀ H' row, RowAt K H' row a ns → Same H H' → Q (.ref row) H'
theorem ok_dice (T : Tx K mg) : FnOk P w K mg base CX0 1 T.a_ldice T.d_ldice P_ldice (spDice K) := by
  refine T.F_ldice.ok sc_ldice (fun vs H Q E h => ?_) (fun cdv A outer s H vs Q E hr h => ?_)
  · obtain ⟨a, ns, rfl, _⟩ := h
    rfl
  · obtain ⟨a, ns, rfl, hS, q⟩ := h
    have nd := sc_ldice.nd
    refine ⟨_, pss_cons (ps_set (i := 1) nd rfl (.inl rfl) pe_int)
      (pss_cons (ps_for PassesOwn.never rfl (pi_list (pv 0)) (pg_name (i := 2) nd rfl (.inl rfl))
        (pss_one (ps_set (i := 1) nd rfl (.inl rfl) (pe_op op_mod (pe_callTy call_int1 (by rfl) T.z_int (by decide +kernel) (pa_cons (pe_op op_add (pe_op op_add (pe_op op_mul (pv 1) pe_int)
          (pe_op op_mul (pe_op op_mod (pe_callTy call_int1 (by rfl) T.z_int (by decide +kernel) (pa_cons (pv 2) pa_nil)) pe_int) pe_int)) pe_int) pa_nil)) pe_int))))
      (pss_one (ps_ret (pe_lst (pa_cons (pv 0) (pa_cons pe_int (pa_cons (pe_op op_mul (pv 1) (pe_callTy call_int1 (by rfl) T.z_int (by decide +kernel) (pa_cons (pe_cmpR op_gt (pe_callB call_len_seq (by rfl) T.z_len PySem.boot_len (pa_cons (pv 0) pa_nil)) pe_int (nomark _)) pa_nil))) (pa_cons pe_int pa_nil)))))))), ?_⟩
    refine ⟨_, rfl, a, rfl, ⟨_, hS⟩, for_list (K := K) (a := a) (xs := ns.map V.int) (fun i σ H' => H' = H ∧ ∃ m y2, σ = [some (.ref a), some (.int m), y2]) ⟨rfl, 0, none, rfl⟩ (fun i σ H' _ ⟨e, _⟩ => by rw [e]; exact hS) ?_ ?_⟩
    · rintro i y σ H1 hi ⟨rfl, m, y2, rfl⟩
      obtain ⟨z, _, rfl⟩ := get_int hi
      refine ⟨_, rfl, _, _, rfl, rfl, .inr ⟨by decide, by decide⟩, _, rfl, .inl ⟨_, rfl, _, _, rfl, rfl, (by show (0 : Int) < 2147483647; decide), _, _, rfl, rfl, .inr ⟨by decide, by decide⟩, _, _, rfl, rfl, _, _, rfl, rfl, .inl ⟨_, rfl, _, _, rfl, rfl, (by show (0 : Int) < 2147483647; decide), ?_⟩⟩⟩
      exact ⟨rfl, _, _, rfl⟩
    · rintro σ H1 ⟨rfl, m, y2, rfl⟩
      refine ⟨_, rfl, _, rfl, _, rfl, a, _, rfl, .inl hS, _, _, rfl, rfl, .inr ⟨_, rfl, _, _, rfl, rfl, .inr (by split <;> exact ⟨by decide, by decide⟩), (by show 4 ≤ sizeLine; decide), fun row hrow => ?_⟩⟩
      exact q _ row ⟨⟨_, _, _, upd_same, Int.le_refl _⟩, (same_upd hrow).seq hS, far_of hS hrow⟩ (same_upd hrow)
def spNext (K : PySem.W.Frag) : Sp := fun vs H Q _ => ∃ (row a : Addr) (ns : List Int) (many : Int), vs = [.ref row, .int many] ∧ RowAt K H row a ns ∧ 1 ≤ many ∧ many < 1073741824 ∧
  ∀ v H', 0 ≤ v → v < many → RowAt K H' row a ns → Kp row H H' → Q (.int v) H'
theorem ok_next (T : Tx K mg) : FnOk P w K mg base CX0 1 T.a_lnext T.d_lnext P_lnext (spNext K) := by
  refine T.F_lnext.ok sc_lnext (fun vs H Q E h => ?_) (fun cdv A outer s H vs Q E hr h => ?_)
  · obtain ⟨row, a, ns, many, rfl, _⟩ := h
    rfl
  · obtain ⟨row, a, ns, many, rfl, RA, m1, m2, q⟩ := h
    obtain ⟨i, m, c, hrow, i0⟩ := RA.ob
    have nd := sc_lnext.nd
    refine ⟨_, pss_cons (ps_if (pt_cmpR op_gt (pe_ix ix_list (pv 0) pe_int (fun _ _ => rfl)) pe_int (nomark _))
        (pss_cons (ps_set (i := 2) nd rfl (.inl rfl) (pe_op op_mod (pe_callTy call_int1 (by rfl) T.z_int (by decide +kernel) (pa_cons (pe_ix ix_list (pv 0) pe_int (fun _ _ => rfl)) pa_nil)) (pv 1)))
        (pss_cons (ps_asg (pe_op op_fdiv (pe_ix ix_list (pv 0) pe_int (fun _ _ => rfl)) (pv 1)) (pg_sub (pv 0) pe_int set_list))
        (pss_one (ps_ret (pv 2))))) pss_nil)
      (pss_cons (ps_asg (pe_op op_add (pe_ix ix_list (pv 0) pe_int (fun _ _ => rfl)) pe_int) (pg_sub (pv 0) pe_int set_list))
      (pss_cons (ps_if (pt_cmpR op_le (pe_ix ix_list (pv 0) pe_int (fun _ _ => rfl)) (pe_callB call_len_seq (by rfl) T.z_len PySem.boot_len (pa_cons (pe_ix ix_list (pv 0) pe_int (fun _ _ => rfl)) pa_nil)) (nomark _))
        (pss_cons (ps_set (i := 3) nd rfl (.inl rfl) (pe_ix ix_list (pe_ix ix_list (pv 0) pe_int (fun _ _ => rfl)) (pe_op op_sub (pe_ix ix_list (pv 0) pe_int (fun _ _ => rfl)) pe_int) (fun _ _ => rfl)))
        (pss_cons (ps_asg (pe_ifExp (pt_cmpR op_ge (pv 3) (pe_op op_pow pe_int pe_int) (nomark _)) (pe_op op_fdiv (pv 3) (pv 1)) pe_int) (pg_sub (pv 0) pe_int set_list))
        (pss_one (ps_ret (pe_op op_mod (pe_callTy call_int1 (by rfl) T.z_int (by decide +kernel) (pa_cons (pv 3) pa_nil)) (pv 1)))))) pss_nil)
      (pss_cons (ps_asg (pe_op op_mod (pe_callTy call_int1 (by rfl) T.z_int (by decide +kernel) (pa_cons (pe_op op_mul (pe_ix ix_list (pv 0) pe_int (fun _ _ => rfl)) pe_int) pa_nil)) pe_int) (pg_sub (pv 0) pe_int set_list))
      (pss_one (ps_ret (pe_op op_mod (pe_callTy call_int1 (by rfl) T.z_int (by decide +kernel) (pa_cons (pe_op op_fdiv (pe_ix ix_list (pv 0) pe_int (fun _ _ => rfl)) pe_int) pa_nil)) (pv 1))))))), ?_⟩
    have mod0 : ∀ z : Int, 0 ≤ z % many := fun z => Int.emod_nonneg _ (by omega)
    have mod1 : ∀ z : Int, z % many < many := fun z => Int.emod_lt_of_pos _ (by omega)
    refine ⟨_, rfl, row, _, 3, _, rfl, rfl, .of hrow, atI_nat (j := 3) rfl, _, _, rfl, rfl, _, rfl, ?_⟩
    by_cases hc : 0 < c
    · rw [decide_eq_true hc]
      refine iteT ?_
      refine ⟨_, rfl, row, _, 3, _, rfl, rfl, .of hrow, atI_nat (j := 3) rfl, .inl ⟨_, rfl, _, rfl, _, _, rfl, rfl, by show (0 : Int) < many; omega, ?_⟩⟩
      refine ⟨_, rfl, row, _, 3, _, rfl, rfl, .of hrow, atI_nat (j := 3) rfl, _, rfl, _, _, rfl, rfl, ⟨by omega, by omega⟩, ?_⟩
      refine ⟨_, rfl, row, _, 3, 3, rfl, rfl, hrow, rfl, ?_⟩
      exact ⟨_, rfl, q _ _ (mod0 c) (mod1 c) (RA.put i0) kp_upd⟩
    · rw [decide_eq_false hc]
      refine iteF ?_
      refine ⟨_, rfl, row, _, 1, _, rfl, rfl, .of hrow, atI_nat (j := 1) rfl, _, _, rfl, rfl, ?_⟩
      refine ⟨_, rfl, row, _, 1, 1, rfl, rfl, hrow, rfl, ?_⟩
      have RA1 : RowAt K (upd H row (.lst [.ref a, .int (i + 1), .int m, .int c])) row a ns := RA.put (by omega)
      have hrow1 : (upd H row (.lst [.ref a, .int (i + 1), .int m, .int c])) row = some (.lst [.ref a, .int (i + 1), .int m, .int c]) := upd_same
      have kp1 : Kp row H (upd H row (.lst [.ref a, .int (i + 1), .int m, .int c])) := kp_upd
      show tSeq _ _ _ _ (upd H row (.lst [.ref a, .int (i + 1), .int m, .int c]))
      generalize (upd H row (.lst [.ref a, .int (i + 1), .int m, .int c])) = H1 at RA1 hrow1 kp1
      refine ⟨_, rfl, row, _, 1, _, rfl, rfl, .of hrow1, atI_nat (j := 1) rfl, _, rfl, row, _, 0, _, rfl, rfl, .of hrow1, atI_nat (j := 0) rfl, a, _, rfl, .inl RA1.sc, _, _, rfl, rfl, _, rfl, ?_⟩
      rw [List.length_map]
      by_cases hl : i + 1 ≤ (ns.length : Int)
      · rw [decide_eq_true hl]
        refine iteT ?_
        have hi : i.toNat < ns.length := by omega
        have hg : atI (ns.map V.int) (i + 1 - 1) = some (.int ns[i.toNat]) := by
          refine at_of (j := i.toNat) (by omega) ?_
          rw [List.getElem?_map, List.getElem?_eq_getElem hi]
          rfl
        refine ⟨_, rfl, row, _, 0, _, rfl, rfl, .of hrow1, atI_nat (j := 0) rfl, _, rfl, row, _, 1, _, rfl, rfl, .of hrow1, atI_nat (j := 1) rfl, _, _, rfl, rfl, a, _, _, _, rfl, rfl, RA1.sc, hg, ?_⟩
        generalize ns[i.toNat] = cell
        refine ⟨_, rfl, _, _, rfl, rfl, ⟨by decide, by decide, by decide⟩, _, _, rfl, rfl, _, rfl, ?_⟩
        refine ite2 (fun _ => ?_) (fun _ => ?_)
        · refine ⟨_, rfl, _, rfl, _, _, rfl, rfl, ⟨by omega, by omega⟩, ?_⟩
          refine ⟨_, rfl, row, _, 3, 3, rfl, rfl, hrow1, rfl, ?_⟩
          refine ⟨_, rfl, .inl ⟨_, rfl, _, rfl, _, _, rfl, rfl, by show (0 : Int) < many; omega, ?_⟩⟩
          exact q _ _ (mod0 _) (mod1 _) (RA1.put (by omega)) (kp1.trans kp_upd)
        · refine ⟨_, rfl, row, _, 3, 3, rfl, rfl, hrow1, rfl, ?_⟩
          refine ⟨_, rfl, .inl ⟨_, rfl, _, rfl, _, _, rfl, rfl, by show (0 : Int) < many; omega, ?_⟩⟩
          exact q _ _ (mod0 _) (mod1 _) (RA1.put (by omega)) (kp1.trans kp_upd)
      · rw [decide_eq_false hl]
        refine iteF ?_
        refine ⟨_, rfl, row, _, 2, _, rfl, rfl, .of hrow1, atI_nat (j := 2) rfl, _, _, rfl, rfl, .inr ⟨by decide, by decide⟩, .inl ⟨_, rfl, _, _, rfl, rfl, (by show (0 : Int) < 2147483647; decide), ?_⟩⟩
        refine ⟨_, rfl, row, _, 2, 2, rfl, rfl, hrow1, rfl, ?_⟩
        refine ⟨_, rfl, row, _, 2, _, rfl, rfl, .of upd_same, atI_nat (j := 2) rfl, _, _, rfl, rfl, ⟨by decide, by decide⟩, .inl ⟨_, rfl, _, rfl, _, _, rfl, rfl, by show (0 : Int) < many; omega, ?_⟩⟩
        exact q _ _ (mod0 _) (mod1 _) (RA1.put (by omega)) (kp1.trans kp_upd)
/-! ### a pick of anything -/
def spPickV (K : PySem.W.Frag) : Sp := fun vs H Q _ => ∃ (row a sm : Addr) (ns : List Int) (l : List V), vs = [.ref row, .ref sm] ∧ RowAt K H row a ns ∧ H sm = some (.lst l) ∧ sm ≠ row ∧ 1 ≤ l.length ∧ l.length ≤ 1000 ∧
  ∀ v H', v ∈ l → RowAt K H' row a ns → Kp row H H' → Q v H'
theorem ok_pickV (T : Tx K mg) : FnOk P w K mg base CX0 2 T.a_lpick T.d_lpick P_lpick (spPickV K) := by
  refine T.F_lpick.ok sc_lpick (fun vs H Q E h => ?_) (fun cdv A outer s H vs Q E hr h => ?_)
  · obtain ⟨row, a, sm, ns, l, rfl, _⟩ := h
    rfl
  · obtain ⟨row, a, sm, ns, l, rfl, RA, hsm, hne, l1, l2, q⟩ := h
    refine ⟨_, pss_one (ps_ret (pe_ix ix_list (pv 1) (pe_call (ok_next T) hr (by rfl) T.g_lnext T.F_lnext.kp T.b_lnext .nil pass0 (pa_cons (pv 0) (pa_cons (pe_callB call_len_seq (by rfl) T.z_len PySem.boot_len (pa_cons (pv 1) pa_nil)) pa_nil))) (fun _ _ => rfl))), ?_⟩
    refine ⟨_, rfl, _, rfl, _, rfl, sm, _, rfl, .inl (.of hsm), row, a, ns, _, rfl, RA, by omega, by omega, fun v H' v0 v1 RA' k => ?_⟩
    have hv : v.toNat < l.length := by omega
    exact ⟨sm, _, v, l[v.toNat], rfl, rfl, .of (k _ _ hsm hne), at_of (j := v.toNat) (by omega) (List.getElem?_eq_getElem hv), q _ H' (List.getElem_mem hv) RA' k⟩
end
end Rp
namespace Rp
open PySem PySem.Spec PyProof.Rows L2 Rz Rm
theorem sum_le_len : ∀ {l : List Int}, (∀ y ∈ l, y ≤ 1) → l.sum ≤ l.length
  | [], _ => by simp
  | a :: r, h => by
    have h1 := h a List.mem_cons_self
    have ih := sum_le_len (l := r) fun y hy => h y (List.mem_cons_of_mem _ hy)
    rw [List.sum_cons, List.length_cons]
    omega
section
variable {P : Program} {w : World} {K : PySem.W.Frag} {mg : Str → Option Value} {base : Heap}
def Acc (K : PySem.W.Frag) (H0 : Hp) (row a D : Addr) (ns : List Int) (lo hi : Int) (i : Nat) (H : Hp) : Prop :=
  ∃ acc : List Int, acc.length = i ∧ (∀ y ∈ acc, lo ≤ y ∧ y ≤ hi) ∧ H D = some (.lst (acc.map V.int)) ∧ RowAt K H row a ns ∧ Kp row H0 H
theorem acc_next {H0 H H' : Hp} {row a D : Addr} {ns : List Int} {lo hi v : Int} {i : Nat} (hD : H0 D = none) (nD : D ≠ row) (f : D ≠ a ∨ Wr K a (ns.map V.int)) {acc : List Int} (hlen : acc.length = i) (hall : ∀ y ∈ acc, lo ≤ y ∧ y ≤ hi)
    (hacc : H D = some (.lst (acc.map V.int))) (k : Kp row H0 H) (RA : RowAt K H' row a ns) (k' : Kp row H H') (v0 : lo ≤ v) (v1 : v ≤ hi) : Acc K H0 row a D ns lo hi (i + 1) (upd H' D (.lst (acc.map V.int ++ [V.int v]))) := by
  refine ⟨acc ++ [v], by rw [List.length_append, hlen]; rfl, fun y hy => ?_, by rw [upd_same, map_snoc], RA.upd' nD f, kp_new (k.trans k') hD⟩
  rcases List.mem_append.mp hy with z | z
  · exact hall y z
  · have := List.mem_singleton.mp z
    omega
/-- two new tuples that make a ring -/
def spRing (K : PySem.W.Frag) : Sp := fun vs H Q _ => ∃ (row a : Addr) (ns : List Int) (size most : Int), vs = [.ref row, .int size, .int most] ∧ RowAt K H row a ns ∧ 2 ≤ size ∧ size ≤ 8 ∧ 1 ≤ most ∧ most ≤ 30 ∧
  ∀ H' t td ts ds ss, Good ds ss → (ds.length : Int) ≤ size → (∀ y ∈ ds, y ≤ most) → RowAt K H' row a ns → Kp row H H' → H' t = some (.tup [.ref td, .ref ts]) → H' td = some (.tup (ds.map V.int)) → H' ts = some (.tup (ss.map V.int)) → Q (.ref t) H'
theorem ok_ring (T : Tx K mg) : FnOk P w K mg base CX0 2 T.a_lring T.d_lring P_lring (spRing K) := by
  refine T.F_lring.ok sc_lring (fun vs H Q E h => ?_) (fun cdv A outer s H vs Q E hr h => ?_)
  · obtain ⟨row, a, ns, size, most, rfl, _⟩ := h
    rfl
  · obtain ⟨row, a, ns, size, most, rfl, RA, z2, z8, m1, m30, q⟩ := h
    have nd := sc_lring.nd
    refine ⟨_, pss_cons (ps_set (i := 3) nd rfl (.inl rfl) (pe_op op_add pe_int (pe_call (ok_next T) hr (by rfl) T.g_lnext T.F_lnext.kp T.b_lnext .nil pass0 (pa_cons (pv 0) (pa_cons (pe_op op_sub (pv 1) pe_int) pa_nil)))))
      (pss_cons (ps_setLc (i := 4) (own := [("_law_k", 6)]) rfl nd rfl rfl (sw_true rfl rfl rfl (by decide +kernel)) (pi_range1 (by rfl) T.z_range (pa_cons (pv 3) pa_nil)) (blkOk_by (N := N_lring) (sc := defScope s_lring) (by decide +kernel))
        (fun _ _ _ _ _ => pg_name (i := 6) nd rfl (.inl rfl)) (fun _ _ _ _ _ => pts_nil)
        (fun _ _ _ _ _ => pe_op op_add pe_int (pe_call (ok_next T) hr (by rfl) T.g_lnext T.F_lnext.kp T.b_lnext .nil pass0 (pa_cons (pv 0) (pa_cons (pv 2) pa_nil)))))
      (pss_cons (ps_setLc (i := 5) (own := [("_law_k", 6)]) rfl nd rfl rfl (sw_true rfl rfl rfl (by decide +kernel)) (pi_range1 (by rfl) T.z_range (pa_cons (pv 3) pa_nil)) (blkOk_by (N := N_lring) (sc := defScope s_lring) (by decide +kernel))
        (fun _ _ _ _ _ => pg_name (i := 6) nd rfl (.inl rfl)) (fun _ _ _ _ _ => pts_nil)
        (fun _ _ _ _ _ => pe_call (ok_next T) hr (by rfl) T.g_lnext T.F_lnext.kp T.b_lnext .nil pass0 (pa_cons (pv 0) (pa_cons (pe_ix (r := rIxL K) ix_list (pe_lst (pa_cons pe_int (pa_cons pe_int pa_nil))) (pe_call (ok_next T) hr (by rfl) T.g_lnext T.F_lnext.kp T.b_lnext .nil pass0 (pa_cons (pv 0) (pa_cons pe_int pa_nil))) (fun _ _ => rfl)) pa_nil))))
      (pss_cons (ps_set (i := 6) nd rfl (.inl rfl) (pe_call (ok_next T) hr (by rfl) T.g_lnext T.F_lnext.kp T.b_lnext .nil pass0 (pa_cons (pv 0) (pa_cons (pv 3) pa_nil))))
      (pss_cons (ps_asg (pe_callB (call_max2 rfl) (by rfl) T.z_max (by decide +kernel) (pa_cons pe_int (pa_cons (pe_ix ix_list (pv 5) (pv 6) (fun _ _ => rfl)) pa_nil))) (pg_sub (pv 5) (pv 6) set_list))
      (pss_cons (ps_while PassesOwn.never (pt_cmpR op_gt (pe_callB (cr_sum rfl) (by rfl) T.z_sum (by decide +kernel) (pa_cons (pv 5) pa_nil)) pe_int (nomark _))
        (pss_one (ps_asg pe_int
          (pg_sub (pv 5) (pe_bm PySem.F.plainAttrs_list PySem.F.slot_list_index PySem.F.type_list_index mt_index (pv 5) (pa_cons (pe_callB (cr_max rfl) (by rfl) T.z_max (by decide +kernel) (pa_cons (pv 5) pa_nil)) pa_nil)) set_list))))
      (pss_one (ps_ret (pe_tup (pa_cons (pe_callTy call_tuple_of (by rfl) T.z_tuple (by decide +kernel) (pa_cons (pv 4) pa_nil)) (pa_cons (pe_callTy call_tuple_of (by rfl) T.z_tuple (by decide +kernel) (pa_cons (pv 5) pa_nil)) pa_nil)))))))))), ?_⟩
    -- count
    refine ⟨_, rfl, _, rfl, _, _, rfl, rfl, row, a, ns, _, rfl, RA, by omega, by omega, fun v1 H3 v10 v11 RA3 k3 => ⟨_, _, rfl, rfl, ?_⟩⟩
    -- days
    refine ⟨_, rfl, _, rfl, by omega, by omega, fun D hD => lc_range (lo := 0) (n := (2 + v1).toNat) (Acc K H3 row a D ns 1 most) ?_ ?_ ?_⟩
    · exact ⟨[], rfl, fun y hy => absurd hy (by simp), upd_same, RA3.same (same_upd hD), Same.kp (same_upd hD)⟩
    · rintro i H4 hi ⟨acc, hlen, hall, hacc, RA4, k4⟩
      have nD := RA3.nn hD
      refine ⟨rfl, lc_keep ?_⟩
      refine ⟨_, rfl, _, rfl, row, a, ns, _, rfl, RA4, m1, by omega, fun v H5 v0 v1' RA5 k5 => ?_⟩
      exact ⟨_, _, rfl, rfl, acc.map V.int, k5 _ _ hacc nD, by rw [List.length_map]; exact small1000 (by omega), acc_next hD nD (far_of RA3.sc hD) hlen hall hacc k4 RA5 k5 (by omega) (by omega)⟩
    rintro H4 ⟨ds, dlen, dall, hds, RA4, k4⟩
    have nD := RA3.nn hD
    have k04 := k3.trans k4
    -- starts
    refine ⟨_, rfl, _, rfl, by omega, by omega, fun D2 hD2 => lc_range (lo := 0) (n := (2 + v1).toNat) (Acc K H4 row a D2 ns 0 3) ?_ ?_ ?_⟩
    · exact ⟨[], rfl, fun y hy => absurd hy (by simp), upd_same, RA4.same (same_upd hD2), Same.kp (same_upd hD2)⟩
    · rintro i H5 hi ⟨acc, hlen, hall, hacc, RA5, k5⟩
      have nD2 := RA4.nn hD2
      refine ⟨rfl, lc_keep ?_⟩
      refine ⟨_, rfl, (by show 2 ≤ sizeLine; decide), fun l3 hl3 => ?_⟩
      have s1 := same_upd (o := .lst [.int 2, .int 4]) hl3
      have nl3 := RA5.nn hl3
      refine ⟨_, rfl, row, a, ns, _, rfl, RA5.same s1, by decide, by decide, fun v2 H6 v20 v21 RA6 k6 => ?_⟩
      have hl3' : H6 l3 = some (.lst [.int 2, .int 4]) := k6 _ _ upd_same nl3
      have k56 : Kp row H5 H6 := (Same.kp s1).trans k6
      obtain ⟨far, hfar, f1, f4⟩ : ∃ far : Int, atI [V.int 2, V.int 4] v2 = some (.int far) ∧ 1 ≤ far ∧ far ≤ 4 := by
        have : v2 = 0 ∨ v2 = 1 := by omega
        rcases this with rfl | rfl
        · exact ⟨2, rfl, by omega, by omega⟩
        · exact ⟨4, rfl, by omega, by omega⟩
      refine ⟨l3, _, v2, _, rfl, rfl, .of hl3', hfar, row, a, ns, _, rfl, RA6, f1, by omega, fun v H7 v0 v1' RA7 k7 => ?_⟩
      have k57 := k56.trans k7
      exact ⟨acc.map V.int, k57 _ _ hacc nD2, by rw [List.length_map]; exact small1000 (by omega), acc_next hD2 nD2 (far_of RA4.sc hD2) hlen hall hacc k5 RA7 k57 (by omega) (by omega)⟩
    rintro H5 ⟨ss0, slen0, sall0, hss0, RA5, k5⟩
    have nD2 := RA4.nn hD2
    have nDD : D ≠ D2 := ne_of_none hds hD2
    have fD2 := far_of RA4.sc hD2
    have hds5 : H5 D = some (.lst (ds.map V.int)) := k5 _ _ hds nD
    have k05 := k04.trans k5
    have hD20 : ∀ b o, H b = some o → b ≠ row → b ≠ D2 := fun b o e n => ne_of_none (k04 b o e n) hD2
    -- k
    refine ⟨_, rfl, _, rfl, row, a, ns, _, rfl, RA5, by omega, by omega, fun kk H6 kk0 kk1 RA6 k6 => ?_⟩
    have hss6 : H6 D2 = some (.lst (ss0.map V.int)) := k6 _ _ hss0 nD2
    have hds6 : H6 D = some (.lst (ds.map V.int)) := k6 _ _ hds5 nD
    have hkk : kk.toNat < ss0.length := by omega
    have hix : atI (ss0.map V.int) kk = some (.int ss0[kk.toNat]) := by
      refine at_of (j := kk.toNat) (by omega) ?_
      rw [List.getElem?_map, List.getElem?_eq_getElem hkk]
      rfl
    have hixn : ixN (ss0.map V.int).length kk = some kk.toNat := by
      unfold ixN
      rw [List.length_map, if_pos (by omega), if_pos (by omega)]
    -- starts[k] = max(1, starts[k])
    refine ⟨_, rfl, _, rfl, D2, _, kk, _, rfl, rfl, .of hss6, hix, _, _, rfl, ?_⟩
    rw [max_if]
    refine ⟨_, rfl, _, rfl, D2, _, kk, kk.toNat, rfl, rfl, hss6, hixn, ?_⟩
    have hzz := sall0 _ (List.getElem_mem hkk)
    generalize ss0[kk.toNat] = zz at hzz
    have hmem : max 1 zz ∈ ss0.set kk.toNat (max 1 zz) := List.mem_set hkk _
    have hall1 : ∀ y ∈ ss0.set kk.toNat (max 1 zz), 0 ≤ y ∧ y ≤ 12 := fun y hy => by
      rcases mem_set hy with z | z
      · have := sall0 y z; omega
      · omega
    have hsum1 := mem_le_sum (fun y hy => (hall1 y hy).1) _ hmem
    refine ⟨fun m σ H' => σ = [some (.ref row), some (.int size), some (.int most), some (.int (2 + v1)), some (.ref D), some (.ref D2), some (.int kk)] ∧ ∃ ss : List Int, m = ss.sum.toNat ∧ ss.length = (2 + v1).toNat ∧ (∀ y ∈ ss, 0 ≤ y ∧ y ≤ 12) ∧ 1 ≤ ss.sum ∧ H' D2 = some (.lst (ss.map V.int)) ∧ H' D = some (.lst (ds.map V.int)) ∧ RowAt K H' row a ns ∧ Kp row H H',
      ⟨_, rfl, ss0.set kk.toNat (max 1 zz), rfl, by rw [List.length_set]; exact slen0, hall1, by omega, by rw [upd_same, List.map_set], by rw [upd_ne nDD]; exact hds6, RA6.upd' nD2 fD2, fun b o e n => by rw [upd_ne (hD20 b o e n)]; exact (k05.trans k6) b o e n⟩, ?_⟩
    rintro m σ H7 ⟨rfl, ss, rfl, slen, sall, ssum, hss, hdd, RA7, k7⟩
    refine ⟨_, rfl, D2, ss, rfl, .of hss, _, _, rfl, rfl, _, rfl, ?_⟩
    by_cases hc : 12 < ss.sum
    · rw [decide_eq_true hc]
      refine iteT ⟨fun σ' H' => σ' = [some (.ref row), some (.int size), some (.int most), some (.int (2 + v1)), some (.ref D), some (.ref D2), some (.int kk)] ∧ ∃ ss' : List Int, ss'.sum < ss.sum ∧ 1 ≤ ss'.sum ∧ ss'.length = (2 + v1).toNat ∧ (∀ y ∈ ss', 0 ≤ y ∧ y ≤ 12) ∧ H' D2 = some (.lst (ss'.map V.int)) ∧ H' D = some (.lst (ds.map V.int)) ∧ RowAt K H' row a ns ∧ Kp row H H',
        fun σ' H' ⟨e1, ss', e2, e20, e3, e4, e5, e6, e7, e8⟩ => ⟨ss'.sum.toNat, by omega, e1, ss', rfl, e3, e4, e20, e5, e6, e7, e8⟩, ?_⟩
      refine ⟨_, rfl, _, rfl, .inl ⟨rfl, _, .of hss⟩, _, rfl, D2, ss, rfl, .of hss, by omega, fun mm hm hmu => ?_⟩
      obtain ⟨j, hj, hno⟩ := first_ix hm
      have hjl : j < ss.length := (List.getElem?_eq_some_iff.mp hj).1
      refine ⟨D2, ss.map V.int, .int mm, j, .int mm, rfl, rfl, .of hss, rfl, flat_ints ss, by rw [List.getElem?_map, hj]; rfl, beq_self_eq_true mm, fun k z' hk hz => ?_, ?_⟩
      · obtain ⟨z, hz2, rfl⟩ := get_int hz
        exact beq_eq_false_iff_ne.mpr (hno k z hk hz2)
      · have hixn2 : ixN (ss.map V.int).length ((j : Nat) : Int) = some j := by
          unfold ixN
          rw [List.length_map, if_pos (by omega), if_pos (by omega), Int.toNat_natCast]
        have hm2 : 2 ≤ mm := by
          rcases Int.lt_or_le mm 2 with z | z
          · have := sum_le_len (l := ss) fun y hy => by have := hmu _ hy; omega
            omega
          · exact z
        have hall2 : ∀ y ∈ ss.set j 1, 0 ≤ y ∧ y ≤ 12 := fun y hy => by
          rcases mem_set hy with z | z
          · exact sall y z
          · omega
        refine ⟨D2, _, ((j : Nat) : Int), j, rfl, rfl, hss, hixn2, rfl, ss.set j 1, ?_, ?_, by rw [List.length_set]; exact slen, hall2, by rw [upd_same, List.map_set], by rw [upd_ne nDD]; exact hdd, RA7.upd' nD2 fD2, fun b o e n => by rw [upd_ne (hD20 b o e n)]; exact k7 b o e n⟩
        · rw [sum_set hj]
          omega
        · exact mem_le_sum (fun y hy => (hall2 y hy).1) 1 (List.mem_set hjl 1)
    · rw [decide_eq_false hc]
      refine iteF ?_
      refine ⟨_, rfl, D, _, rfl, .inl ⟨.of hdd, fun l1 hl1 => ?_⟩⟩
      have u1 := same_upd (o := .tup (ds.map V.int)) hl1
      refine ⟨_, rfl, D2, _, rfl, .inl ⟨.of (u1 _ _ hss), fun l2 hl2 => ⟨(by show 2 ≤ sizeLine; decide), fun t ht => ?_⟩⟩⟩
      have u2 := same_upd (o := .tup (ss.map V.int)) hl2
      have u3 := same_upd (o := .tup [.ref l1, .ref l2]) ht
      exact q _ t l1 l2 ds ss ⟨by omega, by omega, by omega, fun y hy => ⟨(dall y hy).1, by have := (dall y hy).2; omega⟩, sall, ssum, by omega⟩ (by omega) (fun y hy => (dall y hy).2) (((RA7.same u1).same u2).same u3) (((k7.trans (Same.kp u1)).trans (Same.kp u2)).trans (Same.kp u3)) upd_same (u3 _ _ (u2 _ _ upd_same)) (u3 _ _ upd_same)
end
end Rp
namespace Rp
open PySem PySem.Spec PyProof.Rows L2 Rz Rm
/-- told from another one on -/
def rot (k : Int) (l : List Int) : List Int := l.drop k.toNat ++ l.take k.toNat
theorem rot_sum (k : Int) (l : List Int) : (rot k l).sum = l.sum := by
  unfold rot
  rw [List.sum_append, Int.add_comm, ← List.sum_append, List.take_append_drop]
theorem rot_mem {k : Int} {l : List Int} {y : Int} (h : y ∈ rot k l) : y ∈ l := by
  unfold rot at h
  rcases List.mem_append.mp h with h | h
  · exact List.mem_of_mem_drop h
  · exact List.mem_of_mem_take h
theorem rot_len (k : Int) (l : List Int) : (rot k l).length = l.length := by
  unfold rot
  rw [List.length_append, List.length_drop, List.length_take]
  omega
theorem Good.rot {ds ss : List Int} (G : Good ds ss) (k : Int) : Good (rot k ds) (rot k ss) :=
  ⟨by rw [rot_len]; exact G.l2, by rw [rot_len]; exact G.l8, by rw [rot_len, rot_len]; exact G.ls, fun y h => G.d1 y (rot_mem h), fun y h => G.s0 y (rot_mem h), by rw [rot_sum]; exact G.b1, by rw [rot_sum]; exact G.b12⟩
theorem rot_map (k : Int) (l : List Int) : (l.map V.int).drop k.toNat ++ (l.map V.int).take k.toNat = (rot k l).map V.int := by
  unfold Rp.rot
  rw [List.map_append, List.map_drop, List.map_take]
section
variable {P : Program} {w : World} {K : PySem.W.Frag} {mg : Str → Option Value} {base : Heap}
def spShift (C : Addr) : Sp := fun vs H Q _ => ∃ p dx td ts ds ss, ∃ k : Int, vs = [.ref p, .int k] ∧ RingAt C H p dx td ts ds ss ∧ 0 ≤ k ∧ k < ds.length ∧
  ∀ H' p' dx' td' ts', Same H H' → RingAt C H' p' dx' td' ts' (rot k ds) (rot k ss) → Q (.ref p') H'
theorem ok_shift (T : Tx K mg) : FnOk P w K mg base CX0 6 T.a_rrshift T.d_rrshift P_rrshift (spShift T.C) := by
  refine T.F_rrshift.ok sc_rrshift (fun vs H Q E h => ?_) (fun cdv A outer s H vs Q E hr h => ?_)
  · obtain ⟨p, dx, td, ts, ds, ss, k, rfl, _⟩ := h
    rfl
  · obtain ⟨p, dx, td, ts, ds, ss, k, rfl, R, k0, k1, q⟩ := h
    have hr3 : Room 3 _ := hr.mono (by decide)
    have nd := sc_rrshift.nd
    have l2 := R.ok.l2
    have l8 := R.ok.l8
    have ls := R.ok.ls
    refine ⟨_, pss_cons (ps_expr (pe_call (ok_chk T) hr3 (by rfl) T.g_check_number T.F_check_number.kp T.b_check_number .nil pass0 (pa_cons (pv 1) (pa_cons pe_int (pa_cons (pe_op op_sub (pe_callB call_len_seq (by rfl) T.z_len PySem.boot_len (pa_cons (pe_fld (pv 0) rfl) pa_nil)) pe_int) pa_nil)))))
      (pss_cons (ps_set (i := 2) nd rfl (.inl rfl) (pe_op op_catA (pe_slice sl_tupA (pe_fld (pv 0) rfl) (po_some (pv 1)) po_none) (pe_slice sl_tupA (pe_fld (pv 0) rfl) po_none (po_some (pv 1)))))
      (pss_cons (ps_set (i := 3) nd rfl (.inl rfl) (pe_op op_catA (pe_slice sl_tupA (pe_fld (pv 0) rfl) (po_some (pv 1)) po_none) (pe_slice sl_tupA (pe_fld (pv 0) rfl) po_none (po_some (pv 1)))))
      (pss_one (ps_ret (pe_make T.mkR (ok_init T) hr (by rfl) T.gC T.b_rinit .nil pass0 (pa_cons (pv 2) (pa_cons (pv 3) pa_nil))))))), ?_⟩
    refine ⟨_, rfl, _, rfl, p, _, dx, _, _, rfl, R.ob, T.cl, T.nD, flds_days _ _, td, _, rfl, .inr (.of R.td), _, _, rfl, rfl, ?_⟩
    rw [List.length_map]
    refine ⟨k, 0, (ds.length : Int) - 1, rfl, k0, by omega, ?_⟩
    refine ⟨_, rfl, p, _, dx, _, _, rfl, R.ob, T.cl, T.nD, flds_days _ _, _, rfl, _, rfl, ?_⟩
    refine noPart ?_
    refine sl_from R.td k0 (by rw [List.length_map]; omega) fun H1 p1 s1 h1 => ?_
    have R1 := R.same s1
    refine ⟨_, rfl, p, _, dx, _, _, rfl, R1.ob, T.cl, T.nD, flds_days _ _, _, rfl, _, rfl, ?_⟩
    refine sl_to R1.td k0 (by rw [List.length_map]; omega) fun H2 p2 s2 h2 => ?_
    refine cat_any (s2 _ _ h1) h2 (by rw [List.length_drop, List.length_take, List.length_map]; have := small1000 (n := ds.length) (by omega); omega) fun H3 td' s3 h3 => ?_
    rw [rot_map] at h3
    have R3 := (R1.same s2).same s3
    refine ⟨_, rfl, p, _, dx, _, _, rfl, R3.ob, T.cl, T.nS, flds_starts _ _, _, rfl, _, rfl, ?_⟩
    refine noPart ?_
    refine sl_from R3.ts k0 (by rw [List.length_map]; omega) fun H4 p4 s4 h4 => ?_
    have R4 := R3.same s4
    refine ⟨_, rfl, p, _, dx, _, _, rfl, R4.ob, T.cl, T.nS, flds_starts _ _, _, rfl, _, rfl, ?_⟩
    refine sl_to R4.ts k0 (by rw [List.length_map]; omega) fun H5 p5 s5 h5 => ?_
    refine cat_any (s5 _ _ h4) h5 (by rw [List.length_drop, List.length_take, List.length_map]; have := small1000 (n := ss.length) (by omega); omega) fun H6 ts' s6 h6 => ?_
    rw [rot_map] at h6
    have h3' := s6 _ _ (s5 _ _ (s4 _ _ h3))
    refine ⟨_, rfl, _, rfl, fun x y nx ny ne => ?_⟩
    have s0 : Same H6 (upd (upd H6 y (.own x)) x (.ins T.C y [])) := fun b o e => by
      rw [upd_ne (ne_of_none e nx), upd_ne (ne_of_none e ny)]
      exact e
    refine ⟨x, y, td', ts', rot k ds, rot k ss, rfl, upd_same, s0 _ _ h3', s0 _ _ h6, R.ok.rot k, fun H7 R7 k7 => ⟨rfl, ?_⟩⟩
    exact q H7 x y td' ts' (((((s1.trans s2).trans s3).trans s4).trans s5).trans s6 |>.trans (Same.made nx ny k7)) R7
end
end Rp
namespace Rp
open PySem PySem.Spec PyProof.Rows L2 Rz Rm
theorem sum_turn (f : Int → Int) (k r : Int) : ∀ n : Nat, sumBack (fun i => f (i + k)) r n = sumBack f (r + k) n
  | 0 => rfl
  | n + 1 => by
    show sumBack (fun i => f (i + k)) r n + f (r - n + k) = sumBack f (r + k) n + f (r + k - n)
    rw [sum_turn f k r n, show r - (n : Int) + k = r + k - n by omega]
theorem max_turn (f : Int → Int) (k r : Int) : ∀ n : Nat, maxBack (fun i => f (i + k)) r n = maxBack f (r + k) n
  | 0 => by
    show f (r + k) = f (r + k)
    rfl
  | n + 1 => by
    rw [max_front, max_front, max_turn f k (r - 1) n, show r - 1 + k = r + k - 1 by omega]
theorem ch_turn (d s : Int → Int) (k r : Int) (n : Nat) (x : Int) : ch (fun i => d (i + k)) (fun i => s (i + k)) r n x = ch d s (r + k) n x := by
  unfold ch
  rw [sum_turn, sum_turn, max_turn]
theorem isEnd_turn (d s : Int → Int) (k r x e : Int) : IsEnd (fun i => d (i + k)) (fun i => s (i + k)) r x e ↔ IsEnd d s (r + k) x e := by
  unfold IsEnd
  simp only [sum_turn, ch_turn]
noncomputable def theE (p : Int → Prop) : Int := open Classical in if h : ∃ e, p e then Classical.choose h else 0
theorem E_turn (d s : Int → Int) (k r x : Int) : Rm.E (fun i => d (i + k)) (fun i => s (i + k)) r x = Rm.E d s (r + k) x := by
  exact congrArg theE (show IsEnd (fun i => d (i + k)) (fun i => s (i + k)) r x = IsEnd d s (r + k) x from funext fun e => propext (isEnd_turn d s k r x e))
theorem at_turn {l : List Int} (hl : 0 < l.length) {k : Int} (k0 : 0 ≤ k) (k1 : k < l.length) (i : Int) : at' (rot k l) i = at' l (i + k) := by
  have hN : (0 : Int) < l.length := by omega
  have j0 : 0 ≤ i % (l.length : Int) := Int.emod_nonneg _ (by omega)
  have j1 : i % (l.length : Int) < l.length := Int.emod_lt_of_pos _ hN
  have e1 : at' l (i + k) = at' l (i % (l.length : Int) + k) := by
    have := at_per l (i % (l.length : Int) + k) (i / (l.length : Int))
    rw [← this]
    have h := Int.emod_add_mul_ediv i (l.length : Int)
    rw [show i % (l.length : Int) + k + (l.length : Int) * (i / (l.length : Int)) = i + k by omega]
  have e2 : at' (rot k l) i = at' (rot k l) (i % (l.length : Int)) := by
    have := at_per (rot k l) (i % (l.length : Int)) (i / (l.length : Int))
    rw [rot_len] at this
    rw [← this]
    have h := Int.emod_add_mul_ediv i (l.length : Int)
    rw [h]
  rw [e1, e2]
  obtain ⟨j, hj⟩ : ∃ j : Nat, (j : Int) = i % (l.length : Int) := ⟨(i % (l.length : Int)).toNat, by omega⟩
  rw [← hj] at j1 ⊢
  have hr : (rot k l)[j]? = some (at' l ((j : Int) + k)) := by
    unfold rot
    by_cases c : j < l.length - k.toNat
    · rw [List.getElem?_append_left (by rw [List.length_drop]; omega), List.getElem?_drop]
      have hlt : k.toNat + j < l.length := by omega
      rw [List.getElem?_eq_getElem hlt]
      have := at_nat (l := l) (j := k.toNat + j) (List.getElem?_eq_getElem hlt)
      rw [← this, show ((k.toNat + j : Nat) : Int) = (j : Int) + k by omega]
    · rw [List.getElem?_append_right (by rw [List.length_drop]; omega), List.length_drop, List.getElem?_take, if_pos (by omega)]
      have hlt : j - (l.length - k.toNat) < l.length := by omega
      rw [List.getElem?_eq_getElem hlt]
      have h1 := at_nat (l := l) (j := j - (l.length - k.toNat)) (List.getElem?_eq_getElem hlt)
      have h2 := at_per l ((j - (l.length - k.toNat) : Nat) : Int) 1
      rw [← h1, ← h2, show (((j - (l.length - k.toNat) : Nat)) : Int) + (l.length : Int) * 1 = (j : Int) + k by omega]
  exact at_nat hr
/-- ends of the ring told from another reader on -/
theorem E_rot {ds ss : List Int} (hl : 0 < ds.length) (hs : ss.length = ds.length) {k : Int} (k0 : 0 ≤ k) (k1 : k < ds.length) (r x : Int) : Rm.E (at' (rot k ds)) (at' (rot k ss)) r x = Rm.E (at' ds) (at' ss) (r + k) x := by
  rw [show at' (rot k ds) = fun i => at' ds (i + k) from funext (at_turn hl k0 k1), show at' (rot k ss) = fun i => at' ss (i + k) from funext (at_turn (by omega) k0 (by omega)), E_turn]
theorem Cn_rot {ds ss : List Int} (hl : 0 < ds.length) (hs : ss.length = ds.length) {k : Int} (k0 : 0 ≤ k) (k1 : k < ds.length) (r D : Int) : Cn (at' (rot k ds)) (at' (rot k ss)) r D = Cn (at' ds) (at' ss) (r + k) D :=
  congrArg theE (show Cnt (at' (rot k ds)) (at' (rot k ss)) r D = Cnt (at' ds) (at' ss) (r + k) D from funext fun c => by
    unfold Cnt
    rw [E_rot hl hs k0 k1, E_rot hl hs k0 k1])
end Rp
/-! Lambdas as values: made and kept (in lists, in slots), with or without a default value. -/
namespace Rl
open PySem PySem.Spec PyProof.Rows L2 LamX
/-- what a lambda is -/
structure LF where
  q : Str
  params : Arguments
  body : Expr
  scope : Scope
  cl : List (Str × Addr)
  dV : Value
  c : Addr
def LamO (f : Addr) (F : LF) : HO := .ext fun h => ∃ (doc pm ctv : Value), h.get? f = some (PySem.W.kdv_obj "<lambda>" F.q F.params (.expr F.body) F.scope F.cl F.dV doc pm F.c ctv)
theorem lamO_ne {f : Addr} {F : LF} (ps : Array Value) : LamO f F ≠ .tbl ps := fun z => by
  unfold LamO at z
  cases z
section
variable {X : Cx} {pins : List (Addr × Obj)} {σ : L2.St} {H : Hp} {s : Shared}
theorem inv_lam {F : LF} {o : Obj} {t' : Nat} {doc pm ctv : Value} (I : Inv X pins σ H s) (ho : o = PySem.W.kdv_obj "<lambda>" F.q F.params (.expr F.body) F.scope F.cl F.dV doc pm F.c ctv) :
    Inv X pins σ (upd H s.heap.objs.size (LamO s.heap.objs.size F)) { s with heap := s.heap.push o, toks := t' } := by
  subst ho
  have e : (s.heap.push (PySem.W.kdv_obj "<lambda>" F.q F.params (.expr F.body) F.scope F.cl F.dV doc pm F.c ctv)).get? s.heap.objs.size = some (PySem.W.kdv_obj "<lambda>" F.q F.params (.expr F.body) F.scope F.cl F.dV doc pm F.c ctv) := Heap.get?_push_size _ rfl
  exact I.laid (a := s.heap.objs.size) (fun b u g => Heap.get?_push_of_some _ g) (Nat.le_refl _) ⟨⟨doc, pm, ctv, e⟩, ⟨_, e⟩, fun h1 h2 ⟨d1, p1, v1, z⟩ st => ⟨d1, p1, v1, st _ z⟩⟩
/-- the rest of the making, the default values evaluated -/
theorem lam_tail {T : List (Addr × Str)} {c P : Addr} {params : Arguments} {body : Expr} {scope : Scope} {pos : Pos} {dV : Value} {E : Value → Shared → Prop} {Q : Value → Shared → Prop} (I : Inv X pins σ H s) (TB : TabB X.base X.mg c P) (hcode : X.env.code = .ref c)
    (hm : (P, X.env.qual ++ "<lambda>") ∈ T) (hu : ∀ p ∈ T, p.1 = P → p.2 = X.env.qual ++ "<lambda>") (hT : Tabs T H) (hfree : ∀ y ∈ scope.names, y.2 = .free → ∃ c, X.env.cells.lookup y.1 = some c)
    (h : ∀ (f c' : Addr) (H1 : Hp) (s' : Shared), Inv X pins σ H1 s' → ExtN H H1 → Tabs T H1 → H f = none → H1 f = some (LamO f ⟨X.env.qual ++ "<lambda>", params, body, scope, cloFrom X.env.cells scope.names [], dV, c'⟩) → H1 c' = some (CodeO c' (X.env.qual ++ "<lambda>")) → Q (.ref f) s') :
    wpAny (model X.prog X.w) X.A (makeTail "<lambda>" (X.env.qual ++ "<lambda>") params (.expr body) scope X.env dV .none none pos pos.line) Q E s := by
  obtain ⟨ps, hP, ht, ha⟩ := hT _ hm
  have bP : s.heap.BuiltinsAt X.mg P := TB.bm.keeps I.bk
  have gP : s.heap.get? P = some { cls := .none, data := .fields ps } := I.hok P _ hP
  cases hc : codeAmong pos ps.toList with
  | none =>
    refine PySem.W.kdv_makeTail (mg := X.mg) (c := c) (P := P) (ps := ps) (closure_ok hfree) I.ok.glob (I.mod.glob.keeps I.bk) hcode (TB.code.keeps I.bk) gP ht hc TB.gP bP fun c' ctv doc h' tk hx hge hlt hrec htb => ?_
    obtain ⟨c2, oc, vs, t, e2, r1, r2, r3⟩ := hrec
    cases e2
    have nC := I.hok.fresh hge
    have J := inv_table (t' := tk) (more := #[rawInt pos.line, rawInt pos.col, .ref c']) (h' := h') I hP (fun b o n e => hx b o n e) htb hge ⟨oc, vs, t, r1, r2, r3⟩
    obtain ⟨H1, hH1⟩ : ∃ H1, H1 = upd (upd H P (.tbl (ps ++ #[rawInt pos.line, rawInt pos.col, .ref c']))) c' (CodeO c' (X.env.qual ++ "<lambda>")) := ⟨_, rfl⟩
    have ext1 : ExtN H H1 := fun b o e n => by
      rw [hH1, upd_ne (ne_of_none e nC), upd_ne (fun z => by subst z; rw [hP] at e; exact n ps (Option.some.inj e).symm)]
      exact e
    have atC : H1 c' = some (CodeO c' (X.env.qual ++ "<lambda>")) := by rw [hH1, upd_same]
    have tabs1 : Tabs T H1 := fun p hp => by
      by_cases hb : p.1 = P
      · rw [hu p hp hb, hb]
        refine ⟨ps ++ #[rawInt pos.line, rawInt pos.col, .ref c'], by rw [hH1, upd_ne (ne_of_none hP nC), upd_same], ?_, fun p' cv hcv => ?_⟩
        · rw [Array.toList_append]
          exact PySem.TriplesOk_snoc _ _ _ _ ht
        · rw [Array.toList_append] at hcv
          rcases among_app _ ht hcv with z | z
          · obtain ⟨c0, e1, e2⟩ := ha p' cv z
            exact ⟨c0, e1, ext1 _ _ e2 codeO_ne⟩
          · exact ⟨c', z, atC⟩
      · obtain ⟨ps', a1, a2, a3⟩ := hT p hp
        refine ⟨ps', by rw [hH1, upd_ne (ne_of_none a1 nC), upd_ne hb]; exact a1, a2, fun p' cv hcv => ?_⟩
        obtain ⟨c0, e1, e2⟩ := a3 p' cv hcv
        exact ⟨c0, e1, ext1 _ _ e2 codeO_ne⟩
    rw [← hH1] at J
    have nF := J.hok.fresh (Nat.le_refl _)
    have J2 := inv_lam (F := ⟨X.env.qual ++ "<lambda>", params, body, scope, cloFrom X.env.cells scope.names [], dV, c'⟩) (t' := tk) (doc := doc) (pm := (X.mg "__name__").getD .none) (ctv := ctv) J rfl
    have kp : ∀ {b o}, H1 b = some o → (upd H1 h'.objs.size (LamO h'.objs.size ⟨X.env.qual ++ "<lambda>", params, body, scope, cloFrom X.env.cells scope.names [], dV, c'⟩)) b = some o := fun e => (upd_ne (ne_of_none e nF)).trans e
    exact h h'.objs.size c' _ _ J2 (fun b o e n => kp (ext1 b o e n)) (tabs1.ext fun b o e => kp e) (I.hok.fresh (Nat.le_trans hge (Nat.le_of_lt hlt))) upd_same (kp atC)
  | some cv =>
    obtain ⟨c', e, hco⟩ := ha pos cv hc
    subst e
    refine PySem.W.kdv_makeTailHit (mg := X.mg) (c := c) (P := P) (ps := ps) (closure_ok hfree) I.ok.glob (I.mod.glob.keeps I.bk) hcode (TB.code.keeps I.bk) gP ht hc bP fun ctv doc h' tk hx hsz => ?_
    have J : Inv X pins σ H { s with heap := h', toks := tk } := I.kept hx
    have nF : H h'.objs.size = none := J.hok.fresh (Nat.le_refl _)
    have J2 := inv_lam (F := ⟨X.env.qual ++ "<lambda>", params, body, scope, cloFrom X.env.cells scope.names [], dV, c'⟩) (t' := tk) (doc := doc) (pm := (X.mg "__name__").getD .none) (ctv := ctv) J rfl
    have kp : ∀ {b o}, H b = some o → (upd H h'.objs.size (LamO h'.objs.size ⟨X.env.qual ++ "<lambda>", params, body, scope, cloFrom X.env.cells scope.names [], dV, c'⟩)) b = some o := fun e => (upd_ne (ne_of_none e nF)).trans e
    exact h h'.objs.size c' _ _ J2 (fun b o e n => kp e) (hT.ext fun b o e => kp e) nF upd_same (kp hco)
end
/-- the value of a lambda -/
def tLamV (T : List (Addr × Str)) (mk : Addr → LF) : TE := fun _ H Q => Tabs T H ∧ ∀ (f c' : Addr) (H1 : Hp), ExtN H H1 → Tabs T H1 → H f = none → H1 f = some (LamO f (mk c')) → H1 c' = some (CodeO c' (mk c').q) → Q (.ref f) H1
/-- the same, one int by default: the tuple of the values is told, too -/
def tLamD (T : List (Addr × Str)) (d : Int) (mk : Addr → Addr → LF) : TE := fun _ H Q => Tabs T H ∧ ∀ (f c' t : Addr) (H1 : Hp), ExtN H H1 → Tabs T H1 → H f = none → H1 t = some (.tup [.int d]) → H1 f = some (LamO f (mk t c')) → H1 c' = some (CodeO c' (mk t c').q) → Q (.ref f) H1
section
variable {X : Cx} {T : List (Addr × Str)} {c P : Addr} {params : Arguments} {body : Expr} {scope : Scope} {pos : Pos}
theorem pe_lam0 (TB : TabB X.base X.mg c P) (hcode : X.env.code = .ref c) (hm : (P, X.env.qual ++ "<lambda>") ∈ T) (hu : ∀ p ∈ T, p.1 = P → p.2 = X.env.qual ++ "<lambda>")
    (hF : ∀ y ∈ scope.names, y.2 = .free → X.env.scope.names.lookup y.1 = some .cell ∨ X.env.scope.names.lookup y.1 = some .free) (hdef : defaultsOf params X.env = ([], [])) :
    PE X (.Lambda params body scope pos) (tLamV T fun c' => ⟨X.env.qual ++ "<lambda>", params, body, scope, cloFrom X.env.cells scope.names [], .none, c'⟩) := by
  refine ⟨fun pins s σ H Q I h => ?_⟩
  obtain ⟨hT, h⟩ := h
  have hfree : ∀ y ∈ scope.names, y.2 = .free → ∃ c, X.env.cells.lookup y.1 = some c := fun y hy e => (hF y hy e).elim (fun z => I.ok.has _ (.inl z)) fun z => I.ok.has _ (.inr z)
  refine PySem.W.kla_eval hdef ?_
  simp only [makeFunction_eq, List.isEmpty_nil, List.filterMap_nil, List.zip_nil_right, pure_bind, if_true]
  exact lam_tail I TB hcode hm hu hT hfree fun f c' H1 s' I1 x1 t1 hf e1 e2 => ⟨.ref f, H1, I1, rfl, h f c' H1 x1 t1 hf e1 e2⟩
theorem pe_lam1 {d : Int} {j : Nat} {dp : Pos} (TB : TabB X.base X.mg c P) (hcode : X.env.code = .ref c) (hm : (P, X.env.qual ++ "<lambda>") ∈ T) (hu : ∀ p ∈ T, p.1 = P → p.2 = X.env.qual ++ "<lambda>")
    (hF : ∀ y ∈ scope.names, y.2 = .free → X.env.scope.names.lookup y.1 = some .cell ∨ X.env.scope.names.lookup y.1 = some .free) (hd : params.defaults = [.Constant (.int d) j dp]) (hk : params.kw_defaults = []) :
    PE X (.Lambda params body scope pos) (tLamD T d fun t c' => ⟨X.env.qual ++ "<lambda>", params, body, scope, cloFrom X.env.cells scope.names [], .ref t, c'⟩) := by
  refine ⟨fun pins s σ H Q I h => ?_⟩
  obtain ⟨hT, h⟩ := h
  have hfree : ∀ y ∈ scope.names, y.2 = .free → ∃ c, X.env.cells.lookup y.1 = some c := fun y hy e => (hF y hy e).elim (fun z => I.ok.has _ (.inl z)) fun z => I.ok.has _ (.inr z)
  refine PySem.W.kdv_lam (by rw [hd]; rfl) hk ?_
  rw [hd]
  refine PySem.W.kdv_all1 (thn ((pe_int (X := X) (i := d) (j := j) (pos := dp)).run pins s σ H (fun v H1 => v = .int d ∧ H1 = H) I ⟨rfl, rfl⟩) fun u s1 ⟨v, H1, I1, rv, e1, e2⟩ => PySem.W.kdv_all0 ?_)
  subst e1
  subst e2
  obtain ⟨tk, rfl⟩ := rv
  simp only [makeFunction_eq, List.isEmpty_nil, List.isEmpty_cons, List.filterMap_nil, List.zip_nil_right, pure_bind, if_true, Bool.false_eq_true, if_false]
  refine wpAny_bind (wpAny_newTextTuple ?_)
  have nt := I1.hok.fresh (Nat.le_refl _)
  have I2 : Inv X pins σ (upd H1 s1.heap.objs.size (.tup [.int d])) { s1 with heap := s1.heap.push { cls := .type "tuple", data := .seq [Value.int d tk].toArray } } :=
    I1.laid (t' := s1.toks) (fun b u e => Heap.get?_push_of_some _ e) (Nat.le_refl _) ⟨by show 1 ≤ sizeLine; decide, [.int d tk], .cons ⟨_, rfl⟩ .nil, ⟨_, Heap.get?_push_size _ rfl, rfl, _, rfl⟩⟩
  have kp : ∀ {b o}, H1 b = some o → (upd H1 s1.heap.objs.size (.tup [.int d])) b = some o := fun e => (upd_ne (ne_of_none e nt)).trans e
  refine lam_tail I2 TB hcode hm hu (hT.ext fun b o e => kp e) hfree fun f c' H3 s' I3 x1 t1 hf e1 e2 => ⟨.ref f, H3, I3, rfl, h f c' s1.heap.objs.size H3 (fun b o e n => x1 b o (kp e) n) t1 ?_ (x1 _ _ upd_same (by intro ps z; cases z)) e1 e2⟩
  unfold upd at hf
  split at hf
  · cases hf
  · exact hf
end
end Rl
/-! A kept lambda is called, in a def that the maker calls. -/
namespace Rl
open PySem PySem.Spec PyProof.Rows L2 LamX
/-- its names: captured ones, globals, parameters that the maker's slots don't name -/
structure LamP (N : List Str) (sc scope : Scope) : Prop where
  kind : scope.kind = .function
  co : scope.isCoroutine = false
  gen : scope.isGenerator = false
  nocell : ∀ y ∈ scope.names, y.2 ≠ .cell
  own : ∀ y ∈ scope.names, y.2 = .local → y.1 ∉ N
  free : ∀ y ∈ scope.names, y.2 = .free → sc.names.lookup y.1 = some .cell ∨ sc.names.lookup y.1 = some .free
def lamPB (N : List Str) (sc scope : Scope) : Bool :=
  decide (scope.kind = .function) && !scope.isCoroutine && !scope.isGenerator && scope.names.all fun y => !decide (y.2 = .cell) && (!decide (y.2 = .local) || !decide (y.1 ∈ N)) && (!decide (y.2 = .free) || (decide (sc.names.lookup y.1 = some .cell) || decide (sc.names.lookup y.1 = some .free)))
theorem lamP_by {N : List Str} {sc scope : Scope} (h : lamPB N sc scope = true) : LamP N sc scope := by
  unfold lamPB at h
  simp only [Bool.and_eq_true, List.all_eq_true, Bool.not_eq_true', Bool.or_eq_true, decide_eq_false_iff_not, decide_eq_true_eq] at h
  obtain ⟨⟨⟨k1, k2⟩, k3⟩, k4⟩ := h
  refine ⟨k1, k2, k3, fun y hy => (k4 y hy).1.1, fun y hy e => ?_, fun y hy e => ?_⟩
  · rcases (k4 y hy).1.2 with z | z
    · exact absurd e z
    · exact z
  · rcases (k4 y hy).2 with z | z
    · exact absurd e z
    · exact z
section
variable {X : Cx} {pins : List (Addr × Obj)} {σ : L2.St} {H HZ : Hp} {s s1 : Shared}
theorem LamP.has {scope : Scope} (L : LamP X.N X.env.scope scope) (ok : X.Ok) : ∀ y ∈ scope.names, y.2 = .free → ∃ c, X.env.cells.lookup y.1 = some c := fun y hy e => (L.free y hy e).elim (fun z => ok.has _ (.inl z)) fun z => ok.has _ (.inr z)
theorem lam_enter {ex : List Addr} {A : Around} {outer : List Env} {E : XK} {scope : Scope} {f c' : Addr} {g : Heap} {tk : Nat} {m1 : Str → Option Value} (I : Inv X pins σ H s) (L : LamP X.N X.env.scope scope) (e0 : Env0 X.prog X.w X.K X.mg X.base A outer s1 HZ) (hd : A.handled = none) (hex : ∀ y d, X.env.cells.lookup y = some d → d ∉ ex)
    (un : Un (frs X.stack) ex H HZ s.heap s1.heap) (hns : g.Ns s1.heap.objs.size m1) (kp : ∀ b o, s1.heap.get? b = some o → g.get? b = some o) :
    Inv (lamCx X A outer s1 HZ E scope f c') [] σ HZ { s1 with heap := g, toks := tk } := by
  have hfree := L.has I.ok
  have back : ∀ {y d}, (cloFrom X.env.cells scope.names []).lookup y = some d → X.env.cells.lookup y = some d := fun {y d} e => NdefX.clo_cm hfree e
  have there : ∀ {y}, scope.names.lookup y = some .free → ∃ d, (cloFrom X.env.cells scope.names []).lookup y = some d := fun {y} hl => mem_lookup (cloFrom_has (cells := X.env.cells) (acc := []) (PySem.mem_of_lookup hl))
  have cellK : ∀ {d : Addr} {v : Option Value}, H d = none → d ∉ ex → s.heap.IsCell d v → g.IsCell d v := fun {d v} n nx z => by
    obtain ⟨o, ho, hv⟩ := z
    obtain ⟨sl, q⟩ := un.any ho n nx
    exact ⟨_, kp _ _ q, hv⟩
  have none1 : ∀ b : Addr, b ∉ (lamCx X A outer s1 HZ E scope f c').ex := fun b z => absurd (show b ∈ ([] : List Addr) from z) (by simp)
  refine ⟨⟨e0.mod, L.kind, rfl, rfl, Nat.le_refl _, fun y z d e1 e2 => I.ok.inj y z d (back e1) (back e2), fun y hy => ?_, fun y d z _ => ?_, fun _ => hd, Around.frames_deeper e0.frames, .inr ⟨rfl, rfl⟩, fun b z => absurd z (none1 b), e0.bs, e0.bsz, fun b _ _ => none1 b, fun b z => absurd z (none1 b), e0.funs, e0.frf⟩,
    rfl, e0.bare, Un.kept kp, ⟨_, hns, fun i y v e1 e2 e3 => ?_⟩, fun y d e => ?_, e0.hok.fresh (Nat.le_refl _), fun y d e => ?_, fun q hq => absurd (show q ∈ ([] : List (Addr × Obj)) ++ [] from hq) (by simp), e0.hok.kept kp, I.len⟩
  · have hy : scope.names.lookup y = some .cell ∨ scope.names.lookup y = some .free := hy
    rcases hy with hy | hy
    · exact absurd rfl (L.nocell _ (PySem.mem_of_lookup hy))
    · exact there hy
  · have z : false = true := z
    cases z
  · have e3 : Vis scope y := e3
    have e1 : X.N[i]? = some y := e1
    rcases e3 with k | k | k
    · exact absurd (List.mem_of_getElem? e1) (L.own _ (PySem.mem_of_lookup k) rfl)
    · exact absurd rfl (L.nocell _ (PySem.mem_of_lookup k))
    · obtain ⟨m, hn, hl⟩ := I.loc
      have vis : Vis X.env.scope y := (L.free _ (PySem.mem_of_lookup k) rfl).elim (fun z => .inr (.inl z)) fun z => .inr (.inr z)
      obtain ⟨w', r, q⟩ := hl i y v e1 e2 vis
      obtain ⟨d, h2⟩ := there k
      refine ⟨w', r, .inr ⟨.inr k, d, h2, ?_⟩⟩
      have h3 := back h2
      rcases q with ⟨k', _⟩ | ⟨_, d3, e', z⟩
      · have k' : X.env.scope.names.lookup y = some .local := k'
        rcases L.free _ (PySem.mem_of_lookup k) rfl with k2 | k2
        · rw [show X.env.scope.names.lookup y = _ from k2] at k'
          cases k'
        · rw [show X.env.scope.names.lookup y = _ from k2] at k'
          cases k'
      · rw [h3] at e'
        cases e'
        exact cellK (I.freeC y _ h3) (hex y _ h3) z
  · obtain ⟨w', z⟩ := I.cell y d (back e)
    exact ⟨w', cellK (I.freeC y d (back e)) (hex y d (back e)) z⟩
  · obtain ⟨v, o, ho, hv⟩ := I.cell y d (back e)
    exact un.free d o ho (I.freeC y d (back e)) (hex y d (back e))
/-- a(), in the def that the maker calls and that got the lambda -/
theorem un_more {fs ex : List Addr} {H H' : Hp} {h h' : Heap} (u : Un fs [] H H' h h') : Un fs ex H H' h h' :=
  ⟨fun b o e n k _ => u.keep b o e n k (by simp), fun b o e n k _ => u.slot b o e n k (by simp), fun b o e n _ => u.free b o e n (by simp), fun b o e _ => u.there b o e (by simp), u.tups, u.frzs, u.tbls⟩
theorem pe_actVB {ex : List Addr} {sC : Shared} {HC : Hp} {CXg : CXT} {Eg : XK} {Ng : List Str} {qg : Str} {sg : Scope} {g f : Addr} {cdg : Value} {k i : Nat} {a : Str} {pn : List (Addr × Obj)} {xe : Value → Shared → Prop} {W : WX} {E : L2.St → XK} {tb : XK → TE} {p1 p2 : Pos} {F : LF} {G : Hp → Prop}
    (I : Inv X pins σ H s) (hex : ∀ y d, X.env.cells.lookup y = some d → d ∉ ex) (unB : Un (frs X.stack) ex H HC s.heap sC.heap) (L : LamP X.N X.env.scope F.scope) (hcl : F.cl = cloFrom X.env.cells F.scope.names []) (hq : F.q = X.env.qual ++ "<lambda>")
    (hbind : ∀ (doc pm ctv : Value) (sZ : Shared) (HZ : Hp), HOk X.prog X.w HZ sZ.heap → G HZ → ∃ binds, BindsTo sZ (PySem.W.kdv_fn "<lambda>" F.q F.params (.expr F.body) F.scope F.cl F.dV doc pm (.ref F.c) ctv) ⟨[], []⟩ binds ∧ ∀ y ∈ binds, F.scope.names.lookup y.1 = some .local)
    (tk : Takes ((cxOf CXg X.prog X.w X.K X.mg X.base Ng qg sg g cdg X.A X.stack sC HC Eg).tr pn xe) W) (hW : ∀ cls d σ' H', E σ' cls d H' → W cls d σ' H') (hr : Room (k + 1) (X.A.deeper (envOfC qg sg sC.heap.objs.size g cdg)))
    (hbody : ∀ (E' : XK) (A : Around) (outer : List Env) (s : Shared) (H : Hp), Room k (A.deeper (lamEnv X F.scope s.heap.objs.size f F.c)) → PE (lamCx X A outer s H E' F.scope f F.c) F.body (tb E'))
    (hN : Ng[i]? = some a) (hv : Vis sg a) (hd : (a == ("__debug__" : Str)) = false := by decide) (hcd : (a == ("__classdict__" : Str)) = false := by decide) :
    PE ((cxOf CXg X.prog X.w X.K X.mg X.base Ng qg sg g cdg X.A X.stack sC HC Eg).tr pn xe) (.Call (.Name a p1) [] [] p2)
      (fun σZ HZ Q => σZ[i]? = some (some (.ref f)) ∧ HZ f = some (LamO f F) ∧ HZ F.c = some (CodeO F.c F.q) ∧ G HZ ∧ tb (E σZ) σ HZ Q) := by
  refine ⟨fun pinsZ sZ σZ HZ Q IZ h => ?_⟩
  obtain ⟨hs, hf, hc, hg, ht⟩ := h
  refine wpAny_Call_Name_kw (thn ((pe_var (pos := p1) (i := i) hN hv hd hcd).run pinsZ sZ σZ HZ (fun v H1 => v = .ref f ∧ H1 = HZ) IZ ⟨.ref f, hs, rfl, rfl⟩) fun u s2 ⟨v, H2, I2, rv, e1, e2⟩ => ?_)
  subst e1
  rw [e2] at I2
  obtain rfl : u = Value.ref f := rv
  obtain ⟨⟨doc, pm, ctv, of1⟩, _, _⟩ := I2.hok f _ hf
  obtain ⟨⟨oc, vs, t, c1, c2, c3⟩, _, _⟩ := I2.hok F.c _ hc
  refine PySem.W.callWith_F0 ⟨_, _, _, _, of1⟩ ?_
  have un : Un (frs X.stack) ex H HZ s.heap s2.heap := unB.trans (un_more I2.base)
  obtain ⟨binds, hbi, hloc⟩ := hbind doc pm ctv s2 HZ I2.hok hg
  have rc : codeAny (model X.prog X.w) (X.A.deeper (envOfC qg sg sC.heap.objs.size g cdg)) (.call (.ref f) ⟨[], []⟩) (CR (L2.CX X.prog X.w) (envOfC qg sg sC.heap.objs.size g cdg :: X.stack) X.prog X.w HZ s2 Q (E σZ)) s2 := by
    refine PySem.W.kla_callFunE hr.depth of1 rfl L.co L.gen rfl ⟨F.c, oc, vs, t, rfl, c1, c2, c3⟩ (hbi _ _ _ _ ?_)
    refine wpAny_newFunctionEnv L.nocell hloc (fun h1 hns hsb => ⟨I2.nolimit.fresh _ hsb, ?_⟩) L.kind
    have ee : PySem.W.envX F.q F.scope s2.heap.objs.size f (.ref F.c) F.cl = lamEnv X F.scope s2.heap.objs.size f F.c := by rw [hq, hcl]
    show codeAny _ _ (.expr F.body (PySem.W.envX F.q F.scope s2.heap.objs.size f (.ref F.c) F.cl)) _ _
    rw [ee]
    have kp : ∀ b o, s2.heap.get? b = some o → h1.get? b = some o := fun b o e => hsb.extBut b o (Nat.ne_of_lt (Heap.lt_size e)) (Heap.get?_push_of_some _ e)
    have J := lam_enter (E := E σZ) (scope := F.scope) (f := f) (c' := F.c) (tk := s2.toks + binds.length) I L I2.env0 hr.hd hex un hns kp
    refine PySem.W.kla_codeExpr (wpAny_mono ((hbody (E σZ) _ _ s2 HZ (hr.deeper _)).run [] _ _ HZ Q J ht) (fun v s' hh => ?_) fun e s' hh => hh)
    obtain ⟨w', H', J', r', q'⟩ := hh
    exact ⟨w', H', J'.os, J'.bare, J'.base, J'.hok, r', q'⟩
  refine wpAny_call (codeAny_mono rc fun r s' hh => ?_)
  cases r with
  | error e => exact tk e s' (XE.of_call I2 (fun cls d H' z => hW cls d σZ H' z) hh)
  | ok fl =>
    cases fl with
    | ret u => exact I2.after hh
    | next => exact hh.elim
    | brk => exact hh.elim
    | cont => exact hh.elim
/-- a(), in the def that the maker calls and that got the lambda -/
theorem pe_actV {CXg : CXT} {Eg : XK} {Ng : List Str} {qg : Str} {sg : Scope} {g f : Addr} {cdg : Value} {k i : Nat} {a : Str} {pn : List (Addr × Obj)} {xe : Value → Shared → Prop} {W : WX} {E : L2.St → XK} {tb : XK → TE} {p1 p2 : Pos} {F : LF} {G : Hp → Prop}
    (I : Inv X pins σ H s) (L : LamP X.N X.env.scope F.scope) (hcl : F.cl = cloFrom X.env.cells F.scope.names []) (hq : F.q = X.env.qual ++ "<lambda>")
    (hbind : ∀ (doc pm ctv : Value) (sZ : Shared) (HZ : Hp), HOk X.prog X.w HZ sZ.heap → G HZ → ∃ binds, BindsTo sZ (PySem.W.kdv_fn "<lambda>" F.q F.params (.expr F.body) F.scope F.cl F.dV doc pm (.ref F.c) ctv) ⟨[], []⟩ binds ∧ ∀ y ∈ binds, F.scope.names.lookup y.1 = some .local)
    (tk : Takes ((cxOf CXg X.prog X.w X.K X.mg X.base Ng qg sg g cdg X.A X.stack s H Eg).tr pn xe) W) (hW : ∀ cls d σ' H', E σ' cls d H' → W cls d σ' H') (hr : Room (k + 1) (X.A.deeper (envOfC qg sg s.heap.objs.size g cdg)))
    (hbody : ∀ (E' : XK) (A : Around) (outer : List Env) (s : Shared) (H : Hp), Room k (A.deeper (lamEnv X F.scope s.heap.objs.size f F.c)) → PE (lamCx X A outer s H E' F.scope f F.c) F.body (tb E'))
    (hN : Ng[i]? = some a) (hv : Vis sg a) (hd : (a == ("__debug__" : Str)) = false := by decide) (hcd : (a == ("__classdict__" : Str)) = false := by decide) :
    PE ((cxOf CXg X.prog X.w X.K X.mg X.base Ng qg sg g cdg X.A X.stack s H Eg).tr pn xe) (.Call (.Name a p1) [] [] p2)
      (fun σZ HZ Q => σZ[i]? = some (some (.ref f)) ∧ HZ f = some (LamO f F) ∧ HZ F.c = some (CodeO F.c F.q) ∧ G HZ ∧ tb (E σZ) σ HZ Q) :=
  pe_actVB (ex := []) I (fun _ _ _ => by simp) Un.refl L hcl hq hbind tk hW hr hbody hN hv hd hcd
end
end Rl
/-! x(e), e a kept lambda, x a def that calls what it gets. -/
namespace Rl
open PySem PySem.Spec PyProof.Rows L2 LamX
/-- the def that calls what it got: a calls it; R: what must be true of the abstract heap at the call; TT: what the def makes of the lambda's reading -/
def GivesV (X : Cx) (Ng : List Str) (x : Str) (sg : Scope) (g : Addr) (cdg : Value) (bg : List Stmt) (a : Str) (TT : (XK → Hp → VK → Prop) → Hp → VK → Prop) : Prop :=
  ∀ (f : Addr) (R : Hp → Prop) (s : Shared) (H : Hp) (Q : VK) (tl : XK → Hp → VK → Prop),
    (∀ (W : WX) (pn : List (Addr × Obj)) (xe : Value → Shared → Prop) (p1 p2 : Pos), Takes ((cxOf C8.CX0 X.prog X.w X.K X.mg X.base Ng x sg g cdg X.A X.stack s H C8.E0).tr pn xe) W →
      PE ((cxOf C8.CX0 X.prog X.w X.K X.mg X.base Ng x sg g cdg X.A X.stack s H C8.E0).tr pn xe) (.Call (.Name a p1) [] [] p2) (fun σZ HZ Q => σZ[0]? = some (some (.ref f)) ∧ R HZ ∧ tl (fun cls d H' => W cls d σZ H') HZ Q)) →
    R H → TT tl H Q →
    ∃ t, PSs (cxOf C8.CX0 X.prog X.w X.K X.mg X.base Ng x sg g cdg X.A X.stack s H C8.E0).nox bg t ∧ t { nx := fun _ H' => Q .non H', rt := Q } (L2.start Ng [.ref f]) H
/-- one of a family of lambdas, all made where X stands -/
structure Fam (X : Cx) (ι : Type) (F : ι → LF) (G : ι → Hp → Prop) : Prop where
  nm : ∀ i, LamP X.N X.env.scope (F i).scope
  cl : ∀ i, (F i).cl = cloFrom X.env.cells (F i).scope.names []
  q : ∀ i, (F i).q = X.env.qual ++ "<lambda>"
  bind : ∀ i (doc pm ctv : Value) (sZ : Shared) (HZ : Hp), HOk X.prog X.w HZ sZ.heap → G i HZ → ∃ binds, BindsTo sZ (PySem.W.kdv_fn "<lambda>" (F i).q (F i).params (.expr (F i).body) (F i).scope (F i).cl (F i).dV doc pm (.ref (F i).c) ctv) ⟨[], []⟩ binds ∧ ∀ y ∈ binds, (F i).scope.names.lookup y.1 = some .local
def tLamC {ι : Type} (F : ι → LF) (G : ι → Hp → Prop) (TT : (XK → Hp → VK → Prop) → Hp → VK → Prop) (ta : TA) (t : ι → XK → TE) : TE := fun σ H Q => ta σ H fun vs H1 => ∃ (f : Addr) (i : ι), vs = [.ref f] ∧ H1 f = some (LamO f (F i)) ∧ H1 (F i).c = some (CodeO (F i).c (F i).q) ∧ G i H1 ∧ TT (fun E H' Q' => t i E σ H' Q') H1 Q
section
variable {X : Cx}
theorem pe_lamcallV {ι : Type} {F : ι → LF} {G : ι → Hp → Prop} {TT : (XK → Hp → VK → Prop) → Hp → VK → Prop} {x a : Str} {g : Addr} {k : Nat} {pg : Arguments} {bg : List Stmt} {sg : Scope} {dV kV doc pm cdv ct oc : Value} {an od : Option Addr} {osl : Array (Option Value)} {Ng : List Str}
    {e : Expr} {ta : TA} {t : ι → XK → TE} {p pos : Pos} (hg : Gl X x) (hm : X.mg x = some (.ref g)) (hk : PySem.W.keepIn X.K (.ref g) = true)
    (lk : X.K.lookup g = some ⟨oc, od, .func (PySem.W.fnOf x x pg bg sg dV kV doc pm an cdv ct), osl⟩) (hcg : PySem.W.codeIn X.K cdv x = true) (hb : L2.Binds X.K (PySem.W.fnOf x x pg bg sg dV kV doc pm an cdv ct) [a] []) (Sg : FnScope Ng [a] sg) (hNg : Ng[0]? = some a) (hva : Vis sg a)
    (hG : GivesV X Ng x sg g cdv bg a TT) (fam : Fam X ι F G) (ha : PA X [e] ta) (hr : Room (k + 2) X.A)
    (hbody : ∀ (i : ι) (A : Around) (outer : List Env) (s : Shared) (H : Hp) (E : XK) (f : Addr), Room k (A.deeper (lamEnv X (F i).scope s.heap.objs.size f (F i).c)) → PE (lamCx X A outer s H E (F i).scope f (F i).c) (F i).body (t i E))
    (hst : starEach [e] X.env = (false, eval e X.env) :: starEach [] X.env := by rfl) (hpl : (backTo pos (starEach ([] : List Expr) X.env)).any (·.1) = false := by rfl)
    (hdb : (x == ("__debug__" : Str)) = false := by decide) (hd : (a == ("__debug__" : Str)) = false := by decide) (hcd : (a == ("__classdict__" : Str)) = false := by decide) :
    PE X (.Call (.Name x p) [e] [] pos) (tLamC F G TT ta t) := by
  refine ⟨fun pins s σ H Q I h => ?_⟩
  refine wpAny_Call_Name_kw (ld_glob I hg hm ?_ hdb)
  refine PySem.W.callWith_K (h₀ := X.base) I.ok.mod.kin hk (thn (ha.run pos pins s σ H _ I h) fun us s1 ⟨vs, H1, I1, r, q⟩ => ⟨I1.kIn, ?_⟩) hst hpl
  obtain ⟨f, i, rfl, e1, e2, e3, q⟩ := q
  rw [Vals.ref1 r]
  have rc : codeAny (model X.prog X.w) X.A (.call (.ref g) ⟨[.ref f], []⟩) (CR C8.CX0 X.stack X.prog X.w H1 s1 Q C8.E0) s1 := by
    refine run_ofS (N := Ng) (ps := [a]) (us := [.ref f]) (vs := [.ref f]) lk hcg Sg hr I1.env0 (hb s1 [.ref f] I1.kIn rfl) (.cons rfl .nil) rfl fun hr2 => ?_
    have go := hG f (fun HZ => HZ f = some (LamO f (F i)) ∧ HZ (F i).c = some (CodeO (F i).c (F i).q) ∧ G i HZ) s1 H1 Q (fun E H' Q' => t i E σ H' Q') (fun W pn xe p1 p2 tk => by
      have act := pe_actV (i := 0) (p1 := p1) (p2 := p2) (E := fun σ' cls d H' => W cls d σ' H') (tb := t i) I1 (fam.nm i) (fam.cl i) (fam.q i) (fam.bind i) tk (fun _ _ _ _ z => z) hr2 (fun E' A outer s H hr3 => hbody i A outer s H E' f hr3) hNg hva hd hcd
      exact ⟨fun pins2 s2 σ2 H2 Q2 I2 ⟨a1, ⟨a2, a3, a4⟩, a5⟩ => act.run pins2 s2 σ2 H2 Q2 I2 ⟨a1, a2, a3, a4, a5⟩⟩) ⟨e1, e2, e3⟩ q
    obtain ⟨t', ht', hq'⟩ := go
    exact ⟨t', ht'.nox, hq'⟩
  refine wpAny_call (codeAny_mono rc fun r s2 hh => ?_)
  cases r with
  | error e => exact (show False from hh).elim
  | ok fl =>
    cases fl with
    | ret u => exact I1.after hh
    | next => exact hh.elim
    | brk => exact hh.elim
    | cont => exact hh.elim
end
end Rl
/-! A comprehension whose element may use what the def's slots held when the block began: kept lambdas are called in it. -/
namespace Rl
open PySem PySem.Spec PyProof.Rows L2 LamX
section
variable {X : Cx}
/-- the block of a comprehension that begins at z -/
abbrev bCx (X : Cx) (z : Shared) (Z : Hp) (sc : Scope) (L : Addr) (cl : List (Str × Addr)) (fp : List Addr) : Cx := X.blk z Z sc (compEnvC sc cl L X.env) fp
/-- the element is read in a block that began where the def's slots are τ -/
def ElB (X : Cx) (τ : L2.St) (sc : Scope) (e : Expr) (te : TE) : Prop :=
  ∀ (pins : List (Addr × Obj)) (z : Shared) (Z : Hp) (L : Addr) (cl : List (Str × Addr)) (fp : List Addr), Inv X pins τ Z z → (∀ b ∈ fp, FpOk X pins Z b) → PE (bCx X z Z sc L cl fp) e te
theorem lcB_loop {pins : List (Addr × Obj)} {τ : L2.St} {Q : VK} {e tg it0 : Expr} {sc : Scope} {own : List (Str × Nat)} {pos : Pos} {g : TG} {te : TE} {R : Result → Shared → Prop} {it D L : Addr} {cl : List (Str × Addr)} {fp : List Addr} {tn : Nat → Heap → Prop} {J : It} {z zs : Shared} {Z : Hp}
    (hc : X.calm = true) (T : Turn X.prog X.w X.K tg J fp it tn) (IZ : Inv X pins τ Z z) (fZ : ∀ b ∈ fp, FpOk X pins Z b) (hL : (compEnvC sc cl L X.env).locals = L) (hLz : z.heap.objs.size ≤ L)
    (pg : PG (bCx X z Z sc L cl fp) tg g) (pe : PE (bCx X z Z sc L cl fp) e te)
    (IS : Inv (bCx X z Z sc L cl fp) [] (wipe τ (own.map (·.2))) Z zs) (tS : tn 0 zs.heap)
    {W : Nat → Nat → Hp → Prop} {m₀ : Nat} (w₀ : W 0 m₀ Z)
    (turn : ∀ i m H, W i m H → (J.stop i H ∧ Q (.ref D) H) ∨ (J.go i H ∧ ∃ Nx : Hp → Prop, (∀ H', Nx H' → ∃ m', m' < m ∧ W (i + 1) m' H') ∧ ∀ x H', J.yld i H x H' → g x (wipe τ (own.map (·.2))) H' fun σ2 H2 => wipe σ2 (own.map (·.2)) = wipe τ (own.map (·.2)) ∧ tYes σ2 H2 fun b H3 =>
      if b = true then te σ2 H3 fun y H4 => ∃ acc, H4 D = some (.lst acc) ∧ acc.length < sizeLine ∧ Nx (upd H4 D (.lst (acc ++ [y]))) else Nx H3))
    (fin : ∀ s' m H', Inv X pins τ H' s' → Q (.ref D) H' → s'.heap.Ns L m → FpOk X pins H' L → R (.ok .next) s') :
    codeAny (model X.prog X.w) X.A (.compLoop (.ListComp e [⟨tg, it0, [], 0⟩] sc pos) 0 (.ref it) (.ref D) (compEnvC sc cl L X.env)) R zs := by
  have ofB : ∀ {σ' : L2.St} {H' : Hp} {s' : Shared}, Inv (bCx X z Z sc L cl fp) [] σ' H' s' → (∀ b ∈ fp, H' b = none) → ∀ b ∈ fp, FpOk (bCx X z Z sc L cl fp) [] H' b := fun {σ' H' s'} J0 nn b hb =>
    ⟨nn b hb, (J0.ok.exf b hb).1, J0.ok.exfs b hb, .inl hb, fun y d k => (J0.ok.exf b hb).2 y d k, fun p hp => by
      have hp : p ∈ ([] : List (Addr × Obj)) ++ [] := hp
      simp at hp⟩
  refine compLoop_any (fun m s' => ∃ i H', Inv (bCx X z Z sc L cl fp) [] (wipe τ (own.map (·.2))) H' s' ∧ tn i s'.heap ∧ (∀ b ∈ fp, H' b = none) ∧ W i m H') ?_ m₀ ⟨0, Z, IS, tS, fun b hb => (fZ b hb).1, w₀⟩
  intro m s1 ⟨i, H1, I1, t1, n1, w1⟩
  cases turn i m H1 w1 with
  | inl hs =>
    refine thnF (T.done (bCx X z Z sc L cl fp) rfl rfl rfl hc i [] s1 _ H1 (fun _ _ => False) I1 (ofB I1 n1) t1 hs.1) fun r s2 hr => ?_
    rw [hr.1]
    have IX : Inv X pins τ H1 s2 := IZ.call' (ch := fp) hr.2.os hr.2.base hr.2.hok hr.2.bare fun b hb => by
      obtain ⟨_, q1, _, q3, q4, q5⟩ := fZ b hb
      exact ⟨q3, q1, q4, q5⟩
    have nL : H1 L = none := by
      have q := hr.2.free
      rw [show (bCx X z Z sc L cl fp).env.locals = L from hL] at q
      exact q
    obtain ⟨mm, hmm, _⟩ := hr.2.loc
    rw [show (bCx X z Z sc L cl fp).env.locals = L from hL] at hmm
    exact fin s2 mm H1 IX hs.2 hmm (IZ.fpOk hLz nL)
  | inr hg =>
    obtain ⟨hgo, Nx, hNx, hstep⟩ := hg
    refine thnF (T.item (bCx X z Z sc L cl fp) rfl rfl rfl hc i [] s1 _ H1 (fun _ _ => False) I1 (ofB I1 n1) t1 hgo) fun r s2 ⟨u, hr, q2⟩ => ?_
    rw [hr]
    refine thnF q2 fun _ s3 ⟨x, H3, I3, r3, y3, t3, n3⟩ => ?_
    refine thnF (pg.run _ s3 _ H3 x u _ (I3.pinned (ofB I3 n3) (T.obj _ _ t3)) r3 (hstep x H3 y3)) fun _ s4 ⟨σ4, H4, I4, hw, q4⟩ => ?_
    refine thnF ((pts_nil (X := bCx X z Z sc L cl fp)).run _ s4 σ4 H4 _ I4 q4) fun b s5 ⟨H5, I5, q5⟩ => ?_
    have back : ∀ {s' : Shared} {H' : Hp}, Inv (bCx X z Z sc L cl fp) ([] ++ pinsAt fp s3.heap) σ4 H' s' → Nx H' → ∃ k, k < m ∧ ∃ i H', Inv (bCx X z Z sc L cl fp) [] (wipe τ (own.map (·.2))) H' s' ∧ tn i s'.heap ∧ (∀ b ∈ fp, H' b = none) ∧ W i k H' := fun {s' H'} JJ nx => by
      obtain ⟨k, hk, wk⟩ := hNx H' nx
      have pn : ∀ b ∈ fp, ∀ o, s3.heap.get? b = some o → s'.heap.get? b = some o ∧ H' b = none := fun b hb o ho => by
        obtain ⟨p1, p2, _⟩ := JJ.pin (b, o) (List.mem_append_right _ (List.mem_append_right _ (mem_pinsAt hb ho)))
        exact ⟨p1, p2⟩
      refine ⟨k, hk, i + 1, H', (JJ.unpinned (pins := [])).weak (by rw [← hw, wipe_length]) (fun j v hj => ?_), T.keep _ _ _ t3 fun b hb o ho => (pn b hb o ho).1, fun b hb => ?_, wk⟩
      · rw [← hw] at hj
        exact (wipe_some hj).1
      · obtain ⟨o, ho, _⟩ := T.obj _ _ t3 b hb
        exact (pn b hb o ho).2
    cases b with
    | false =>
      rw [if_neg Bool.false_ne_true] at q5
      rw [if_neg Bool.false_ne_true]
      exact back I5 q5
    | true =>
      rw [if_pos rfl] at q5
      rw [if_pos rfl]
      refine thnF (pe.run _ s5 σ4 H5 _ I5 q5) fun v s6 ⟨y, H6, I6, r6, acc, hD, hz, nx⟩ => ?_
      exact app_ok (X := bCx X z Z sc L cl fp) I6 hD hz r6 fun s7 I7 => back I7 nx
theorem lcB_core {pins : List (Addr × Obj)} {s : Shared} {τ : L2.St} {H : Hp} {Q : VK} {e tg iter : Expr} {sc : Scope} {own : List (Str × Nat)} {pos pos' : Pos} {wi : TI} {g : TG} {te : TE} {use : Option (Value → Sem Unit)} {Qf : Value → Shared → Prop}
    (hc : X.calm = true) (hN : X.N.Nodup) (I : Inv X pins τ H s) (hi : PI X tg iter wi) (ok : BlkOk X.N X.env.scope sc own)
    (hg : ∀ (z : Shared) (Z : Hp) (L : Addr) (cl : List (Str × Addr)) (fp : List Addr), PG (bCx X z Z sc L cl fp) tg g) (he : ElB X τ sc e te) (hs : ∀ x, foldedSetIterable iter X.env x = pure x)
    (h : tLc wi g tYes te (own.map (·.2)) τ H Q)
    (hR : ∀ D L s' m H', Inv X pins τ H' s' → Q (.ref D) H' → s'.heap.Ns L m → FpOk X pins H' L → compPost (model X.prog X.w) X.A X.xe use Qf (.ref D) L (.ok .next) s') :
    wpAny (model X.prog X.w) X.A (comprehension (.ListComp e [⟨tg, iter, [], 0⟩] sc pos) sc X.env pos' (newList []) false (eval iter X.env) use) Qf X.xe s := by
  have hf : ∀ y ∈ sc.names, y.2 = .free → ∃ d, X.env.cells.lookup y.1 = some d := fun y hy k => (ok.free y hy k).elim (fun q => I.ok.has _ (.inl q)) fun q => I.ok.has _ (.inr q)
  refine wpAny_comprehension_free (use := use) rfl hs (closure_ok hf) ok.kind (fun y hy k => by rw [ok.uniq y hy, k]) ?_
  refine thn (hi.run pins s τ H _ I h) fun _ s1 h1 => thn h1 fun itv s2 h2 => ?_
  obtain ⟨it, fp, tn, J, H2, rfl, I2, T, t2, f2, q⟩ := h2
  refine wpAny_newObj_type (newEnv_comp ?_) (by show 0 ≤ sizeLine; decide)
  have nD : H2 s2.heap.objs.size = none := I2.hok.fresh (Nat.le_refl _)
  obtain ⟨W, ⟨m₀, w₀⟩, turn⟩ := q _ nD
  obtain ⟨D, eD⟩ : ∃ D, D = s2.heap.objs.size := ⟨_, rfl⟩
  have push : ∀ b o, s2.heap.get? b = some o → (s2.heap.push { cls := .type "list", data := .seq ([] : List Value).toArray }).get? b = some o := fun b o k => Heap.get?_push_of_some _ k
  have I3 : Inv X pins τ (upd H2 s2.heap.objs.size (.lst [])) { s2 with heap := s2.heap.push { cls := .type "list", data := .seq ([] : List Value).toArray } } :=
    I2.laid (t' := s2.toks) push (Nat.le_refl _) ⟨Nat.zero_le _, [], 0, .nil, Heap.get?_push_size _ rfl⟩
  have f3 : ∀ b ∈ fp, FpOk X pins (upd H2 s2.heap.objs.size (.lst [])) b ∧ b < (s2.heap.push { cls := .type "list", data := .seq ([] : List Value).toArray }).objs.size := fun b hb => by
    obtain ⟨o, ho, _⟩ := T.obj _ _ t2 b hb
    have lt := Heap.lt_size ho
    refine ⟨⟨?_, (f2 b hb).2⟩, ?_⟩
    · rw [upd_ne (Nat.ne_of_lt lt)]
      exact (f2 b hb).1
    · rw [Heap.size_push]
      exact Nat.lt_succ_of_lt lt
  have IS := block_start I3 ok hN f3
  have t3 := T.keep _ _ (pushCells ((s2.heap.push { cls := .type "list", data := .seq ([] : List Value).toArray }).push { cls := .type "dict", data := .dict #[] }) sc.names) t2 fun b _ o ho => pushCells_keeps _ _ _ _ (Heap.get?_push_of_some _ (push b o ho))
  have go := lcB_loop (own := own) (e := e) (it0 := iter) (pos := pos) (Q := Q) (D := s2.heap.objs.size) (R := compPost (model X.prog X.w) X.A X.xe use Qf (.ref s2.heap.objs.size) (s2.heap.push { cls := .type "list", data := .seq ([] : List Value).toArray }).objs.size) hc T I3 (fun b hb => (f3 b hb).1) rfl (Nat.le_refl _) (hg _ _ _ _ _) (he pins _ _ _ _ _ I3 fun b hb => (f3 b hb).1) IS t3 w₀ turn
    (fun s' m H' I' q' hm hl => hR _ _ s' m H' I' q' hm hl)
  exact codeAny_compStart_list go (T.self X.A 0 _ _ _ t3 go)
/-- as a value -/
theorem pe_lcB {e tg iter : Expr} {sc : Scope} {own : List (Str × Nat)} {pos : Pos} {wi : TI} {g : TG} {te : L2.St → TE} (hc : X.calm = true) (hN : X.N.Nodup) (hi : PI X tg iter wi) (ok : BlkOk X.N X.env.scope sc own)
    (hg : ∀ (z : Shared) (Z : Hp) (L : Addr) (cl : List (Str × Addr)) (fp : List Addr), PG (bCx X z Z sc L cl fp) tg g) (he : ∀ τ, ElB X τ sc e (te τ)) (hs : ∀ x, foldedSetIterable iter X.env x = pure x := by intro _; rfl) :
    PE X (.ListComp e [⟨tg, iter, [], 0⟩] sc pos) (fun σ H Q => tLc wi g tYes (te σ) (own.map (·.2)) σ H Q) := by
  refine ⟨fun pins s σ H Q I h => ?_⟩
  rw [eval_ListComp]
  refine lcB_core hc hN I hi ok hg (he σ) hs h fun D L s' m H' I' q hn f => ⟨m, hn, fun h'' sb => ?_⟩
  obtain ⟨f0, f1, _, f3, f4, f5⟩ := f
  exact ⟨.ref D, H', I'.turned (t' := s'.toks) (fun b o hb k => (sb.2 b hb).trans k) f0 f1 f3 f4 f5, rfl, q⟩
end
end Rl
/-! Kept lambdas are called in a comprehension's block: x(e) with x a def that calls what it gets, and a(). -/
namespace Rl
open PySem PySem.Spec PyProof.Rows L2 LamX
def tLamB {ι : Type} (F : ι → LF) (G : ι → Hp → Prop) (TT : (XK → Hp → VK → Prop) → Hp → VK → Prop) (ta : TA) (t : ι → XK → TE) (τ : L2.St) : TE := fun σ H Q => ta σ H fun vs H1 => ∃ (f : Addr) (i : ι), vs = [.ref f] ∧ H1 f = some (LamO f (F i)) ∧ H1 (F i).c = some (CodeO (F i).c (F i).q) ∧ G i H1 ∧ TT (fun E H' Q' => t i E τ H' Q') H1 Q
section
variable {X : Cx}
theorem el_lamB {ι : Type} {F : ι → LF} {G : ι → Hp → Prop} {TT : (XK → Hp → VK → Prop) → Hp → VK → Prop} {x a : Str} {g : Addr} {k : Nat} {pg : Arguments} {bg : List Stmt} {sg : Scope} {dV kV doc pm cdv ct oc : Value} {an od : Option Addr} {osl : Array (Option Value)} {Ng : List Str}
    {sc : Scope} {e : Expr} {ta : TA} {t : ι → XK → TE} {p pos : Pos} (hg : ∀ (z : Shared) (Z : Hp) (L : Addr) (cl : List (Str × Addr)) (fp : List Addr), Gl (bCx X z Z sc L cl fp) x) (hm : X.mg x = some (.ref g)) (hk : PySem.W.keepIn X.K (.ref g) = true)
    (lk : X.K.lookup g = some ⟨oc, od, .func (PySem.W.fnOf x x pg bg sg dV kV doc pm an cdv ct), osl⟩) (hcg : PySem.W.codeIn X.K cdv x = true) (hb : L2.Binds X.K (PySem.W.fnOf x x pg bg sg dV kV doc pm an cdv ct) [a] []) (Sg : FnScope Ng [a] sg) (hNg : Ng[0]? = some a) (hva : Vis sg a)
    (hG : GivesV X Ng x sg g cdv bg a TT) (fam : Fam X ι F G) (ha : ∀ (z : Shared) (Z : Hp) (L : Addr) (cl : List (Str × Addr)) (fp : List Addr), PA (bCx X z Z sc L cl fp) [e] ta) (hr : Room (k + 2) X.A)
    (hbody : ∀ (i : ι) (A : Around) (outer : List Env) (s : Shared) (H : Hp) (E : XK) (f : Addr), Room k (A.deeper (lamEnv X (F i).scope s.heap.objs.size f (F i).c)) → PE (lamCx X A outer s H E (F i).scope f (F i).c) (F i).body (t i E))
    (hst : ∀ (L : Addr) (cl : List (Str × Addr)), starEach [e] (compEnvC sc cl L X.env) = (false, eval e (compEnvC sc cl L X.env)) :: starEach [] (compEnvC sc cl L X.env) := by intros; rfl)
    (hpl : ∀ (L : Addr) (cl : List (Str × Addr)), (backTo pos (starEach ([] : List Expr) (compEnvC sc cl L X.env))).any (·.1) = false := by intros; rfl)
    (hdb : (x == ("__debug__" : Str)) = false := by decide) (hd : (a == ("__debug__" : Str)) = false := by decide) (hcd : (a == ("__classdict__" : Str)) = false := by decide) (τ : L2.St) :
    ElB X τ sc (.Call (.Name x p) [e] [] pos) (tLamB F G TT ta t τ) := by
  intro pinsX z Z L cl fp IX fpo
  refine ⟨fun pins s σ H Q I h => ?_⟩
  have hex : ∀ y d, X.env.cells.lookup y = some d → d ∉ fp := fun y d hy hd => (fpo d hd).2.2.2.2.1 y d hy rfl
  refine wpAny_Call_Name_kw (ld_glob I (hg z Z L cl fp) hm ?_ hdb)
  refine PySem.W.callWith_K (h₀ := X.base) I.ok.mod.kin hk (thn ((ha z Z L cl fp).run pos pins s σ H _ I h) fun us s1 ⟨vs, H1, I1, r, q⟩ => ⟨I1.kIn, ?_⟩) (hst L cl) (hpl L cl)
  obtain ⟨f, i, rfl, e1, e2, e3, q⟩ := q
  rw [Vals.ref1 r]
  have rc : codeAny (model X.prog X.w) X.A (.call (.ref g) ⟨[.ref f], []⟩) (CR C8.CX0 X.stack X.prog X.w H1 s1 Q C8.E0) s1 := by
    refine run_ofS (N := Ng) (ps := [a]) (us := [.ref f]) (vs := [.ref f]) lk hcg Sg hr I1.env0 (hb s1 [.ref f] I1.kIn rfl) (.cons rfl .nil) rfl fun hr2 => ?_
    have go := hG f (fun HZ => HZ f = some (LamO f (F i)) ∧ HZ (F i).c = some (CodeO (F i).c (F i).q) ∧ G i HZ) s1 H1 Q (fun E H' Q' => t i E τ H' Q') (fun W pn xe p1 p2 tk => by
      have act := pe_actVB (i := 0) (p1 := p1) (p2 := p2) (E := fun σ' cls d H' => W cls d σ' H') (tb := t i) IX hex I1.base (fam.nm i) (fam.cl i) (fam.q i) (fam.bind i) tk (fun _ _ _ _ z => z) hr2 (fun E' A outer s H hr3 => hbody i A outer s H E' f hr3) hNg hva hd hcd
      exact ⟨fun pins2 s2 σ2 H2 Q2 I2 ⟨a1, ⟨a2, a3, a4⟩, a5⟩ => act.run pins2 s2 σ2 H2 Q2 I2 ⟨a1, a2, a3, a4, a5⟩⟩) ⟨e1, e2, e3⟩ q
    obtain ⟨t', ht', hq'⟩ := go
    exact ⟨t', ht'.nox, hq'⟩
  refine wpAny_call (codeAny_mono rc fun r s2 hh => ?_)
  cases r with
  | error e => exact (show False from hh).elim
  | ok fl =>
    cases fl with
    | ret u => exact I1.after hh
    | next => exact hh.elim
    | brk => exact hh.elim
    | cont => exact hh.elim
/-- a() in the block, a its own name -/
theorem el_actB {ι : Type} {F : ι → LF} {G : ι → Hp → Prop} {sc : Scope} {j k : Nat} {a : Str} {t : ι → TE} {p1 p2 : Pos} (fam : Fam X ι F G) (hr : Room (k + 1) X.A)
    (hbody : ∀ (i : ι) (A : Around) (outer : List Env) (s : Shared) (H : Hp) (f : Addr), Room k (A.deeper (lamEnv X (F i).scope s.heap.objs.size f (F i).c)) → PE (lamCx X A outer s H C8.E0 (F i).scope f (F i).c) (F i).body (t i))
    (hN : X.N[j]? = some a) (hv : ∀ (L : Addr) (cl : List (Str × Addr)), Vis (compEnvC sc cl L X.env).scope a) (hd : (a == ("__debug__" : Str)) = false := by decide) (hcd : (a == ("__classdict__" : Str)) = false := by decide) (τ : L2.St) :
    ElB X τ sc (.Call (.Name a p1) [] [] p2) (fun σ H Q => ∃ (f : Addr) (i : ι), σ[j]? = some (some (.ref f)) ∧ H f = some (LamO f (F i)) ∧ H (F i).c = some (CodeO (F i).c (F i).q) ∧ G i H ∧ t i τ H Q) := by
  intro pinsX z Z L cl fp IX fpo
  refine ⟨fun pins s σ H Q I h => ?_⟩
  have hex : ∀ y d, X.env.cells.lookup y = some d → d ∉ fp := fun y d hy hd => (fpo d hd).2.2.2.2.1 y d hy rfl
  obtain ⟨f, i, hs, hf, hc, hg, ht⟩ := h
  refine wpAny_Call_Name_kw (thn ((pe_var (X := bCx X z Z sc L cl fp) (pos := p1) (i := j) hN (hv L cl) hd hcd).run pins s σ H (fun v H1 => v = .ref f ∧ H1 = H) I ⟨.ref f, hs, rfl, rfl⟩) fun u s2 ⟨v, H2, I2, rv, e1, e2⟩ => ?_)
  subst e1
  rw [e2] at I2
  obtain rfl : u = Value.ref f := rv
  obtain ⟨⟨doc, pm, ctv, of1⟩, _, _⟩ := I2.hok f _ hf
  obtain ⟨⟨oc, vs, tt, c1, c2, c3⟩, _, _⟩ := I2.hok (F i).c _ hc
  refine PySem.W.callWith_F0 ⟨_, _, _, _, of1⟩ ?_
  have un : Un (frs X.stack) fp Z H z.heap s2.heap := I2.base
  obtain ⟨binds, hbi, hloc⟩ := fam.bind i doc pm ctv s2 H I2.hok hg
  have rc : codeAny (model X.prog X.w) X.A (.call (.ref f) ⟨[], []⟩) (CR (L2.CX X.prog X.w) X.stack X.prog X.w H s2 Q C8.E0) s2 := by
    refine PySem.W.kla_callFunE hr.depth of1 rfl (fam.nm i).co (fam.nm i).gen rfl ⟨(F i).c, oc, vs, tt, rfl, c1, c2, c3⟩ (hbi _ _ _ _ ?_)
    refine wpAny_newFunctionEnv (fam.nm i).nocell hloc (fun h1 hns hsb => ⟨I2.nolimit.fresh _ hsb, ?_⟩) (fam.nm i).kind
    have ee : PySem.W.envX (F i).q (F i).scope s2.heap.objs.size f (.ref (F i).c) (F i).cl = lamEnv X (F i).scope s2.heap.objs.size f (F i).c := by rw [fam.q i, fam.cl i]
    show codeAny _ _ (.expr (F i).body (PySem.W.envX (F i).q (F i).scope s2.heap.objs.size f (.ref (F i).c) (F i).cl)) _ _
    rw [ee]
    have kp : ∀ b o, s2.heap.get? b = some o → h1.get? b = some o := fun b o q => hsb.extBut b o (Nat.ne_of_lt (Heap.lt_size q)) (Heap.get?_push_of_some _ q)
    have J := lam_enter (E := C8.E0) (scope := (F i).scope) (f := f) (c' := (F i).c) (tk := s2.toks + binds.length) IX (fam.nm i) I2.env0 hr.hd hex un hns kp
    refine PySem.W.kla_codeExpr (wpAny_mono ((hbody i _ _ s2 H f (hr.deeper _)).run [] _ _ H Q J ht) (fun v s' hh => ?_) fun q s' hh => hh)
    obtain ⟨w', H', J', r', q'⟩ := hh
    exact ⟨w', H', J'.os, J'.bare, J'.base, J'.hok, r', q'⟩
  refine wpAny_call (codeAny_mono rc fun r s3 hh => ?_)
  cases r with
  | error q =>
    obtain ⟨_, _, _, _, _, _, _, _, _, _, _, _, z⟩ := (show L2.CX X.prog X.w X.stack H s2 C8.E0 q s3 from hh)
    exact (show False from z).elim
  | ok fl =>
    cases fl with
    | ret u => exact I2.after hh
    | next => exact hh.elim
    | brk => exact hh.elim
    | cont => exact hh.elim
/-- name = [..] on one line, the name a local -/
theorem ps_setLcB {i : Nat} {y : Str} {py : Pos} {e tg iter : Expr} {sc : Scope} {own : List (Str × Nat)} {pos spos : Pos} {wi : TI} {g : TG} {te : L2.St → TE} (hc : X.calm = true) (hN : X.N.Nodup) (hy : X.N[i]? = some y) (hyl : X.env.scope.names.lookup y = some .local)
    (hsw : swapsWith (.ListComp e [⟨tg, iter, [], 0⟩] sc pos) (some (.Name y py)) spos.line X.env = pure true) (hi : PI X tg iter wi) (ok : BlkOk X.N X.env.scope sc own)
    (hg : ∀ (z : Shared) (Z : Hp) (L : Addr) (cl : List (Str × Addr)) (fp : List Addr), PG (bCx X z Z sc L cl fp) tg g) (he : ∀ τ, ElB X τ sc e (te τ)) (hs : ∀ x, foldedSetIterable iter X.env x = pure x := by intro _; rfl) :
    PS X (.Assign [.Name y py] (.ListComp e [⟨tg, iter, [], 0⟩] sc pos) spos) (tAsg (fun σ H Q => tLc wi g tYes (te σ) (own.map (·.2)) σ H Q) (gName i)) := by
  refine ⟨fun pins s σ H D I h => ?_⟩
  rw [exec_Assign_Name_used _ _ _ _ hsw]
  refine wpAny_bind (wpAny_standAt (wpAny_bind ?_))
  have h : tLc wi g tYes (te σ) (own.map (·.2)) σ H (fun x H1 => gName i x σ H1 D.nx) := h
  refine wpAny_bind (thn (lcB_core (Qf := fun _ s' => SP X pins D .next s') (use := some (assign (.Name y py) X.env)) hc hN I hi ok hg (he σ) hs h ?_) fun _ s' hq => wpAny_pure (wpAny_pure hq))
  intro L C s' m H' I' q hn f
  obtain ⟨f0, f1, f2, f3, f4, f5⟩ := f
  refine wpAny_assign_Name (store_ok2 (v := V.ref L) I' hN hy (.inl hyl) rfl (fun s2 I2 ⟨a, sb, ha⟩ => ?_) (.inr hyl))
  have haC : C ≠ a := by
    rcases ha with z | z
    · rw [z]; exact f1
    · exact fun e => f4 y a z e.symm
  exact ⟨m, hn.sameBut sb haC, fun h3 sb3 => ⟨_, H', I2.turned (t' := s2.toks) (fun b o hb e => (sb3.2 b hb).trans e) f0 f1 f3 f4 f5, q⟩⟩
end
end Rl
/-! xs.count(y) of flat items; what a suite that knows the class of its error wants. -/
namespace Rt
open PySem PySem.Spec PyProof.Rows L2
section
variable {X : Cx}
def rCntV (K : PySem.W.Frag) : V → List V → Hp → VK → Prop := fun x xs H Q => ∃ (p : Addr) (ys : List V) (y : V), x = .ref p ∧ xs = [y] ∧ SqL K H p ys ∧ flatV y = true ∧ ys.all flatV = true ∧ Q (.int (ys.countP (fun z => eqV z y) : Nat)) H
theorem cntV_eq {y : V} : ∀ {ys : List V} {its : List Value}, Vals ys its → ys.all flatV = true → its.countP (eqU y) = ys.countP (fun z => eqV z y)
  | [], _, .nil, _ => rfl
  | z :: ys, _, .cons r rr, f => by
    simp only [List.all_cons, Bool.and_eq_true] at f
    rw [List.countP_cons, List.countP_cons, cntV_eq rr f.2, eqU_of r f.1]
theorem mt_countV : MtR X "list.count" (rCntV X.K) := by
  intro pins s σ H x xs v us Q I rx rxs h
  obtain ⟨p, ys, y, rfl, rfl, hs, fy, fys, q⟩ := h
  cases rx
  cases rxs with
  | cons ry rt =>
    rename_i uy ut
    cases rt
    obtain ⟨its, rv, ⟨⟨cls, dd, data, sl⟩, n, ho, hc, hdn, hd⟩, hlen⟩ := I.list hs
    simp only at hc hd
    subst hc hd
    refine call_meets PySem.F.slot_list_count ⟨_, ho, rfl⟩ PySem.F.entry_list_count (PySem.F.args_list_count_2 _ _)
      (SeqAt.list_countAt p its.toArray n dd sl uy (eqU y)) ⟨ho, fun u' hu' => mem_eqAt ry fy rv fys u' (by simpa using hu'), ?_⟩
    have ec : its.toArray.toList.countP (eqU y) = ys.countP (fun z => eqV z y) := cntV_eq rv fys
    rw [ec]
    exact ⟨.int _, H, I.kept (t' := s.toks + 1) fun _ _ z => z, ⟨_, rfl⟩, q⟩
/-- the classes that the suite asks for -/
structure TdS (K : PySem.W.Frag) (mg : Str → Option Value) where
  c0 : Addr
  c1 : Addr
  c2 : Addr
  c3 : Addr
  c4 : Addr
  c5 : Addr
  c6 : Addr
  cE : Addr
  g0 : mg "InvalidRing" = some (.ref c0)
  g1 : mg "InvalidChain" = some (.ref c1)
  g2 : mg "UnknownReader" = some (.ref c2)
  g3 : mg "UnknownBook" = some (.ref c3)
  g4 : mg "InvalidNumber" = some (.ref c4)
  g5 : mg "SameBook" = some (.ref c5)
  g6 : mg "OtherRing" = some (.ref c6)
  gE : mg "ReadingError" = some (.ref cE)
  zV : mg "ValueError" = none
  zI : mg "isinstance" = none
/-- the class at D is the j-th of them, without fields -/
structure TdR {K : PySem.W.Frag} {mg : Str → Option Value} (S : TdS K mg) (D : Addr) (j : Nat) : Prop where
  lo : 2 ≤ j
  hi : j ≤ 6
  ex : ExcC K D
  ee : PySem.W.exmOne K (.ref D) (.ref S.cE) = some true
  k0 : PySem.W.kitOne K (.ref D) (.ref S.c0) = some (decide (j = 0))
  k1 : PySem.W.kitOne K (.ref D) (.ref S.c1) = some (decide (j = 1))
  k2 : PySem.W.kitOne K (.ref D) (.ref S.c2) = some (decide (j = 2))
  k3 : PySem.W.kitOne K (.ref D) (.ref S.c3) = some (decide (j = 3))
  k4 : PySem.W.kitOne K (.ref D) (.ref S.c4) = some (decide (j = 4))
  k5 : PySem.W.kitOne K (.ref D) (.ref S.c5) = some (decide (j = 5))
  k6 : PySem.W.kitOne K (.ref D) (.ref S.c6) = some (decide (j = 6))
  kv : PySem.W.kitOne K (.ref D) (.type "ValueError") = some true
/-- the same class, as the program raises it by its name -/
structure TdE {K : PySem.W.Frag} {mg : Str → Option Value} (S : TdS K mg) (x : Str) (D : Addr) (j : Nat) : Prop where
  r : TdR S D j
  g : mg x = some (.ref D)
  xF : PySem.W.excIn K D [.type "ValueError", .type "Exception", .type "BaseException", .type "object"] "ValueError.__new__" = true
  bF : PySem.W.subIn K (.ref D) (.type "BaseException") = some true
  tF : PySem.W.typeIn K (.ref D) = some (.type "type")
  kF : PySem.W.keepIn K (.ref D) = true
/-- a def whose code object is known -/
structure FunC (K : PySem.W.Frag) (x qual : Str) (st : Stmt) (f : Addr) (fd : FuncData) (cd : Value) : Prop where
  ex : ∃ (oc : Value) (od : Option Addr) (kV doc pm : Value) (an : Option Addr) (ct : Value) (osl : Array (Option Value)),
    fd = PySem.W.fnOf x qual (defArgs st) (defBody st) (defScope st) .none kV doc pm an cd ct ∧ K.lookup f = some ⟨oc, od, .func fd, osl⟩ ∧ PySem.W.codeIn K cd qual = true
theorem FunC.ok {P : Program} {w : World} {K : PySem.W.Frag} {mg : Str → Option Value} {base : Heap} {x qual : Str} {st : Stmt} {f : Addr} {fd : FuncData} {cd : Value} {N ps : List Str} {k : Nat} {sp : Sp} (F : FunC K x qual st f fd cd) (S : FnScope N ps (defScope st)) (len : ∀ vs H Q E, sp vs H Q E → vs.length = ps.length)
    (hbody : ∀ (A : Around) (outer : List Env) (s : Shared) (H : Hp) (vs : List V) (Q : VK) (E : XK), Room k (A.deeper (envOfC qual (defScope st) s.heap.objs.size f cd)) → sp vs H Q E →
      ∃ t, PSs (cxOf CX0 P w K mg base N qual (defScope st) f cd A outer s H E).nox (defBody st) t ∧ t { nx := fun _ H' => Q .non H', rt := Q } (start N vs) H) : FnOk P w K mg base CX0 (k + 1) f fd ps sp := by
  obtain ⟨oc, od, kV, doc, pm, an, ct, osl, rfl, lk, hcd⟩ := F.ex
  refine fn_of lk hcd S len fun A outer s H vs Q E hr hsp => ?_
  obtain ⟨t, h, q⟩ := hbody A outer s H vs Q E hr hsp
  exact ⟨t, h.nox, q⟩
/-- what told says of the j-th -/
def tdNm (j : Nat) : Str := (["UnknownReader", "UnknownBook", "InvalidNumber", "SameBook", "OtherRing", "other"] : List Str).getD (j - 2) ""
/-- the end of told at an error: its reading -/
def TO {K : PySem.W.Frag} {mg : Str → Option Value} (S : TdS K mg) (Q : VK) : XK := fun cls d H => ∃ (D : Addr) (j : Nat), cls = .ref D ∧ d = none ∧ TdR S D j ∧
  ∀ (p : Addr) (H' : Hp), (∀ b o, H b = some o → H' b = some o) → H p = none → H' p = some (.tup [.str "error", .str (tdNm j)]) → Q (.ref p) H'
end
end Rt
/-! told: a kept lambda is called, its error is told. -/
namespace Rp
open PySem PySem.Spec PyProof.Rows L2 Rz Rm Rt Rl
section
variable {X : Cx} {g f : Addr} {cdg : Value} {s : Shared} {H : Hp} {K : PySem.W.Frag} {mg : Str → Option Value}
abbrev toldCx (X : Cx) (g : Addr) (cdg : Value) (s : Shared) (H : Hp) : Cx := (cxOf C8.CX0 X.prog X.w X.K X.mg X.base N_ltold "_law_told" (defScope s_ltold) g cdg X.A X.stack s H C8.E0).nox
/-- the suite of told's except clause -/
abbrev toldSuite : List Stmt := match (defBody s_ltold).getLast? with
  | some (.Try _ [.ExceptHandler _ _ st _] _ _ _) => st
  | _ => []
theorem told_suite (S : TdS X.K X.mg) {D : Addr} {j : Nat} (R : TdR S D j) {a : Addr} {oe : Obj} {pn : List (Addr × Obj)} (hz : Zc (.ref D) none oe) (hf : ∃ vs, oe.data = .fields vs)
    {DD : Ends} {wv y2 y3 : Option V} {H1 : Hp} {Q : VK} (hrt : DD.rt = Q)
    (q : ∀ (p : Addr) (H' : Hp), (∀ b o, H1 b = some o → H' b = some o) → H1 p = none → H' p = some (.tup [.str "error", .str (tdNm j)]) → Q (.ref p) H') :
    ∃ t, PSs ((toldCx X g cdg s H).suite a ((a, oe) :: pn)) toldSuite t ∧ t DD [wv, some (.ref a), y2, y3] H1 := by
  have nd := sc_ltold.nd
  subst hrt
  refine ⟨_, pss_cons (ps_set (i := 2) nd rfl (.inl rfl) (pe_lst (pa_cons (pe_callB (call_isE R.ex hz hf) (by rfl) S.zI (by decide +kernel) (pa_cons (pv 1) (pa_cons (pe_glob (v := .ref S.c0) (by rfl) S.g0 rfl) pa_nil))) (pa_cons (pe_callB (call_isE R.ex hz hf) (by rfl) S.zI (by decide +kernel) (pa_cons (pv 1) (pa_cons (pe_glob (v := .ref S.c1) (by rfl) S.g1 rfl) pa_nil))) (pa_cons (pe_callB (call_isE R.ex hz hf) (by rfl) S.zI (by decide +kernel) (pa_cons (pv 1) (pa_cons (pe_glob (v := .ref S.c2) (by rfl) S.g2 rfl) pa_nil))) pa_nil)))))
    (pss_cons (ps_set (i := 2) nd rfl (.inl rfl) (pe_op op_cat (pv 2) (pe_lst (pa_cons (pe_callB (call_isE R.ex hz hf) (by rfl) S.zI (by decide +kernel) (pa_cons (pv 1) (pa_cons (pe_glob (v := .ref S.c3) (by rfl) S.g3 rfl) pa_nil))) (pa_cons (pe_callB (call_isE R.ex hz hf) (by rfl) S.zI (by decide +kernel) (pa_cons (pv 1) (pa_cons (pe_glob (v := .ref S.c4) (by rfl) S.g4 rfl) pa_nil))) (pa_cons (pe_callB (call_isE R.ex hz hf) (by rfl) S.zI (by decide +kernel) (pa_cons (pv 1) (pa_cons (pe_glob (v := .ref S.c5) (by rfl) S.g5 rfl) pa_nil))) pa_nil))))))
    (pss_cons (ps_expr (pe_bm PySem.F.plainAttrs_list PySem.F.slot_list_append PySem.F.type_list_append mt_append (pv 2) (pa_cons (pe_callB (call_isE R.ex hz hf) (by rfl) S.zI (by decide +kernel) (pa_cons (pv 1) (pa_cons (pe_glob (v := .ref S.c6) (by rfl) S.g6 rfl) pa_nil))) pa_nil)))
    (pss_cons (ps_set (i := 3) nd rfl (.inl rfl) (pe_ifExp (PW.pt (pw_and (pt_cmpR op_eq (pe_bm PySem.F.plainAttrs_list PySem.F.slot_list_count PySem.F.type_list_count mt_countV (pv 2) (pa_cons pe_bl pa_nil)) pe_int (nomark _))
        (pw_and1 (pt_val (pe_callB (call_isE R.ex hz hf) (by rfl) S.zI (by decide +kernel) (pa_cons (pv 1) (pa_cons (pe_bltn (v := .ty "ValueError") (u := .type "ValueError") (by rfl) S.zV (by decide +kernel) rfl) pa_nil)))))))
      (pe_bm PySem.F.plainAttrs_list PySem.F.slot_list_index PySem.F.type_list_index mt_index (pv 2) (pa_cons pe_bl pa_nil)) pe_int))
    (pss_cons (ps_if (pt_cmpR op_eq (pv 3) pe_int (nomark _)) (pss_one ps_never) pss_nil)
    (pss_cons (ps_if (pt_cmpR op_eq (pv 3) pe_int (nomark _)) (pss_one ps_never) pss_nil)
    (pss_one (ps_ret (pe_tup (pa_cons pe_str (pa_cons (pe_ix ix_list (pe_lst (pa_cons pe_str (pa_cons pe_str (pa_cons pe_str (pa_cons pe_str (pa_cons pe_str (pa_cons pe_str pa_nil))))))) (pe_op op_sub (pv 3) pe_int) (fun _ _ => rfl)) pa_nil)))))))))), ?_⟩
  have lo := R.lo
  have hi := R.hi
  refine ⟨.ref a, rfl, .ref S.c0, .ref S.c0, _, rfl, fun u h => h, R.k0, .ref a, rfl, .ref S.c1, .ref S.c1, _, rfl, fun u h => h, R.k1, .ref a, rfl, .ref S.c2, .ref S.c2, _, rfl, fun u h => h, R.k2, (by show 3 ≤ sizeLine; decide), fun p1 hp1 => ?_⟩
  refine ⟨.ref p1, rfl, .ref a, rfl, .ref S.c3, .ref S.c3, _, rfl, fun u h => h, R.k3, .ref a, rfl, .ref S.c4, .ref S.c4, _, rfl, fun u h => h, R.k4, .ref a, rfl, .ref S.c5, .ref S.c5, _, rfl, fun u h => h, R.k5, (by show 3 ≤ sizeLine; decide), fun p2 hp2 => ⟨p1, p2, _, _, rfl, rfl, (upd_ne (ne_of_none upd_same hp2)).trans upd_same, upd_same, (by show 3 + 3 ≤ sizeLine; decide), fun p3 hp3 => ?_⟩⟩
  have s3 : ∀ b o, H1 b = some o → (upd (upd (upd H1 p1 (.lst [.bl (decide (j = 0)), .bl (decide (j = 1)), .bl (decide (j = 2))])) p2 (.lst [.bl (decide (j = 3)), .bl (decide (j = 4)), .bl (decide (j = 5))])) p3 (.lst [.bl (decide (j = 0)), .bl (decide (j = 1)), .bl (decide (j = 2)), .bl (decide (j = 3)), .bl (decide (j = 4)), .bl (decide (j = 5))])) b = some o := fun b o e => by
    have e1 : (upd H1 p1 (.lst [.bl (decide (j = 0)), .bl (decide (j = 1)), .bl (decide (j = 2))])) b = some o := (upd_ne (ne_of_none e hp1)).trans e
    exact (upd_ne (ne_of_none ((upd_ne (ne_of_none e1 hp2)).trans e1) hp3)).trans ((upd_ne (ne_of_none e1 hp2)).trans e1)
  have n3 : H1 p3 = none := by
    cases e : H1 p3 with
    | none => rfl
    | some o =>
      have e1 : (upd H1 p1 (.lst [.bl (decide (j = 0)), .bl (decide (j = 1)), .bl (decide (j = 2))])) p3 = some o := (upd_ne (ne_of_none e hp1)).trans e
      have z := hp3.symm.trans ((upd_ne (ne_of_none e1 hp2)).trans e1)
      cases z
  have g3 : (upd (upd (upd H1 p1 (.lst [.bl (decide (j = 0)), .bl (decide (j = 1)), .bl (decide (j = 2))])) p2 (.lst [.bl (decide (j = 3)), .bl (decide (j = 4)), .bl (decide (j = 5))])) p3 (.lst [.bl (decide (j = 0)), .bl (decide (j = 1)), .bl (decide (j = 2)), .bl (decide (j = 3)), .bl (decide (j = 4)), .bl (decide (j = 5))])) p3 = some (.lst [.bl (decide (j = 0)), .bl (decide (j = 1)), .bl (decide (j = 2)), .bl (decide (j = 3)), .bl (decide (j = 4)), .bl (decide (j = 5))]) := upd_same
  show tSeq _ _ _ [wv, some (.ref a), some (.ref p3), y3] (upd (upd (upd H1 p1 (.lst [.bl (decide (j = 0)), .bl (decide (j = 1)), .bl (decide (j = 2))])) p2 (.lst [.bl (decide (j = 3)), .bl (decide (j = 4)), .bl (decide (j = 5))])) p3 (.lst [.bl (decide (j = 0)), .bl (decide (j = 1)), .bl (decide (j = 2)), .bl (decide (j = 3)), .bl (decide (j = 4)), .bl (decide (j = 5))]))
  generalize (upd (upd (upd H1 p1 (.lst [.bl (decide (j = 0)), .bl (decide (j = 1)), .bl (decide (j = 2))])) p2 (.lst [.bl (decide (j = 3)), .bl (decide (j = 4)), .bl (decide (j = 5))])) p3 (.lst [.bl (decide (j = 0)), .bl (decide (j = 1)), .bl (decide (j = 2)), .bl (decide (j = 3)), .bl (decide (j = 4)), .bl (decide (j = 5))])) = H3 at s3 g3
  refine ⟨.ref p3, rfl, .inl ⟨rfl, _, SqL.of g3⟩, .ref a, rfl, .ref S.c6, .ref S.c6, _, rfl, fun u h => h, R.k6, p3, _, _, rfl, rfl, g3, (by show 6 < sizeLine; decide), ?_⟩
  have hj : j = 2 ∨ j = 3 ∨ j = 4 ∨ j = 5 ∨ j = 6 := by omega
  have s4 : ∀ b o, H1 b = some o → (upd H3 p3 (.lst ([.bl (decide (j = 0)), .bl (decide (j = 1)), .bl (decide (j = 2)), .bl (decide (j = 3)), .bl (decide (j = 4)), .bl (decide (j = 5))] ++ [.bl (decide (j = 6))]))) b = some o := fun b o e => (upd_ne (ne_of_none e n3)).trans (s3 b o e)
  have g4 : (upd H3 p3 (.lst ([.bl (decide (j = 0)), .bl (decide (j = 1)), .bl (decide (j = 2)), .bl (decide (j = 3)), .bl (decide (j = 4)), .bl (decide (j = 5))] ++ [.bl (decide (j = 6))]))) p3 = some (.lst ([.bl (decide (j = 0)), .bl (decide (j = 1)), .bl (decide (j = 2)), .bl (decide (j = 3)), .bl (decide (j = 4)), .bl (decide (j = 5))] ++ [.bl (decide (j = 6))])) := upd_same
  show tSeq _ _ _ [wv, some (.ref a), some (.ref p3), y3] (upd H3 p3 (.lst ([.bl (decide (j = 0)), .bl (decide (j = 1)), .bl (decide (j = 2)), .bl (decide (j = 3)), .bl (decide (j = 4)), .bl (decide (j = 5))] ++ [.bl (decide (j = 6))])))
  generalize (upd H3 p3 (.lst ([.bl (decide (j = 0)), .bl (decide (j = 1)), .bl (decide (j = 2)), .bl (decide (j = 3)), .bl (decide (j = 4)), .bl (decide (j = 5))] ++ [.bl (decide (j = 6))]))) = H4 at s4 g4
  have hcnt : List.countP (fun z => eqV z (.bl true)) (([.bl (decide (j = 0)), .bl (decide (j = 1)), .bl (decide (j = 2)), .bl (decide (j = 3)), .bl (decide (j = 4)), .bl (decide (j = 5))] ++ [.bl (decide (j = 6))]) : List V) = 1 := by
    rcases hj with rfl | rfl | rfl | rfl | rfl <;> rfl
  have hget : (([.bl (decide (j = 0)), .bl (decide (j = 1)), .bl (decide (j = 2)), .bl (decide (j = 3)), .bl (decide (j = 4)), .bl (decide (j = 5))] ++ [.bl (decide (j = 6))]) : List V)[j]? = some (.bl true) := by
    rcases hj with rfl | rfl | rfl | rfl | rfl <;> rfl
  have hno : ∀ (m : Nat) (z' : V), m < j → (([.bl (decide (j = 0)), .bl (decide (j = 1)), .bl (decide (j = 2)), .bl (decide (j = 3)), .bl (decide (j = 4)), .bl (decide (j = 5))] ++ [.bl (decide (j = 6))]) : List V)[m]? = some z' → eqV z' (.bl true) = false := by
    intro m z' hm e
    have hm' : m = 0 ∨ m = 1 ∨ m = 2 ∨ m = 3 ∨ m = 4 ∨ m = 5 := by omega
    have ez : z' = .bl (decide (j = m)) := by
      rcases hm' with rfl | rfl | rfl | rfl | rfl | rfl <;> (cases e; rfl)
    rw [ez, decide_eq_false (by omega)]
    rfl
  have hnm : atI ([.str "UnknownReader", .str "UnknownBook", .str "InvalidNumber", .str "SameBook", .str "OtherRing", .str "other"] : List V) ((j : Int) - 2) = some (.str (tdNm j)) := by
    rcases hj with rfl | rfl | rfl | rfl | rfl <;> rfl
  refine ⟨.ref p3, rfl, .inl ⟨rfl, _, SqL.of g4⟩, p3, _, .bl true, rfl, rfl, SqL.of g4, rfl, rfl, ?_⟩
  rw [hcnt]
  refine ⟨rfl, true, rfl, ?_⟩
  refine iteT ?_
  refine ⟨.ref a, rfl, .ty "ValueError", .type "ValueError", true, rfl, fun u h => h, R.kv, true, rfl, ?_⟩
  refine iteT ?_
  refine ⟨.ref p3, rfl, .inl ⟨rfl, _, SqL.of g4⟩, p3, _, .bl true, j, .bl true, rfl, rfl, SqL.of g4, rfl, rfl, hget, rfl, hno, ?_⟩
  show tSeq _ _ _ [wv, some (.ref a), some (.ref p3), some (.int (j : Int))] H4
  refine ⟨_, rfl, rfl, _, rfl, ?_⟩
  rw [decide_eq_false (show ¬ V.int (j : Int) = V.int 0 from fun z => by injection z with z; omega)]
  refine iteF ?_
  refine ⟨_, rfl, rfl, _, rfl, ?_⟩
  rw [decide_eq_false (show ¬ V.int (j : Int) = V.int 1 from fun z => by injection z with z; omega)]
  refine iteF ?_
  refine ⟨(by show 6 ≤ sizeLine; decide), fun p5 hp5 => ?_⟩
  refine ⟨_, rfl, _, _, rfl, rfl, ?_⟩
  refine ⟨p5, _, _, _, rfl, rfl, SqL.of upd_same, hnm, ?_⟩
  refine ⟨(by show 2 ≤ sizeLine; decide), fun p6 hp6 => ?_⟩
  have s5 : ∀ b o, H1 b = some o → (upd H4 p5 (.lst [.str "UnknownReader", .str "UnknownBook", .str "InvalidNumber", .str "SameBook", .str "OtherRing", .str "other"])) b = some o := fun b o e => (upd_ne (ne_of_none (s4 b o e) hp5)).trans (s4 b o e)
  refine q p6 _ (fun b o e => (upd_ne (ne_of_none (s5 b o e) hp6)).trans (s5 b o e)) ?_ upd_same
  cases e : H1 p6 with
  | none => rfl
  | some o =>
    have z := hp6.symm.trans (s5 _ _ e)
    cases z
/-- told's end: what the lambda gives, or what is told of its error -/
def TTold {K : PySem.W.Frag} {mg : Str → Option Value} (S : TdS K mg) : (XK → Hp → VK → Prop) → Hp → VK → Prop := fun tl H Q => ∀ E : XK, (∀ cls d H', TO S Q cls d H' → E cls d H') → tl E H Q
theorem gives_told (S : TdS X.K X.mg) : GivesV X N_ltold "_law_told" (defScope s_ltold) g cdg (defBody s_ltold) "_law_work" (TTold S) := by
  intro f R s H Q tl hact hR ht
  have nd := sc_ltold.nd
  refine ⟨_, pss_one (ps_try_as (i := 1) (c := .ref S.cE) (Wout := fun _ _ _ _ => False)
    (ts := fun a cls d DD σ1 H1 => ∀ (oe : Obj) (pn : List (Addr × Obj)), Zc cls d oe → (∃ vs, oe.data = .fields vs) → ∃ t, PSs ((toldCx X g cdg s H).suite a ((a, oe) :: pn)) toldSuite t ∧ t DD σ1 H1)
    rfl rfl nd rfl rfl ⟨rfl, by decide, Or.inl S.gE⟩ LamX.takes0
    (fun W pn xe tk _ => pss_one (ps_ret (hact W pn xe _ _ tk)))
    (fun a oe cls d pn hz hf => ⟨fun pins s1 σ1 H1 DD I h => by
      obtain ⟨t, ht, hh⟩ := h oe pn hz hf
      exact ht.run pins s1 σ1 H1 DD I hh⟩)), ?_⟩
  refine ⟨rfl, hR, ht _ fun cls d H' hto => ?_⟩
  obtain ⟨D, j, rfl, rfl, RR, q⟩ := hto
  refine ⟨true, RR.ee, fun _ a ha oe pn hz hf => ?_, fun z => Bool.noConfusion z⟩
  exact told_suite S RR hz hf rfl q
end
end Rp
/-! isinstance of a caught error of an own class that has a dict of its own. -/
namespace Rp
open PySem PySem.Spec PySem.Calls PyProof.Rows PySem.W
theorem kit_exc {K : Frag} {e D : Addr} {oe : Obj} {od : Option Obj} (C : L2.ExcC K D) : KitX K (.ref e) (.ref D) (fun h => InstAt h e oe D od) :=
  kitx_exc (by obtain ⟨cd, hcd, _⟩ := any_some C.hd; exact Option.isSome_iff_exists.mpr ⟨cd, hcd⟩) C.hg C.hk C.hs C.ha C.hn C.ht C.hm
end Rp
namespace Rp
open PySem PySem.Spec PyProof.Rows L2
/-- isinstance(e, c), e the exception that the suite holds, its dict at dd -/
theorem call_isF {X : Cx} {a D dd : Addr} {oe : Obj} {pn : List (Addr × Obj)} (C : ExcC X.K D) (hz : Zc (.ref D) (some dd) oe) (hf : ∃ vs, oe.data = .fields vs) :
    CallR (X.suite a ((a, oe) :: pn)) (.builtin "isinstance") (fun xs H Q => (∃ fs, H dd = some (.xd fs)) ∧ rIsE X.K D a xs H Q) := by
  intro pins s σ H xs us Q I r h
  obtain ⟨⟨fs, hd⟩, c, cv, b, rfl, hcv, e, q⟩ := h
  match us, r with
  | [_, _], .cons rx (.cons rt .nil) =>
    cases rx
    have ec := hcv _ rt
    subst ec
    obtain ⟨at0, _⟩ := I.pin (a, oe) (List.mem_append.mpr (.inl List.mem_cons_self))
    obtain ⟨mA, hns, _⟩ := (show ObjOk X.prog X.w H s.heap dd (.xd fs) from I.hok dd _ hd)
    obtain ⟨o2, ho2, _⟩ := lookIn_ns hns
    obtain ⟨vs, hv⟩ := hf
    have J : PySem.W.InstAt s.heap a oe D (some o2) := ⟨at0, hz.1, by unfold PySem.W.notCls; rw [hv] <;> rfl, by rw [hz.2]; exact ho2⟩
    exact PySem.W.kia_one (kit_exc C) I.kIn J e (fun z => nomatch z) fun tk => ⟨.bl b, H, I.kept (t' := tk) fun _ _ z => z, rfl, q⟩
end Rp
/-! Checks that raise: any value. -/
namespace Rp
open PySem PySem.Spec PyProof.Rows L2 Rz Rm Rt Rl
/-- v is a number or not -/
def NumV (K : PySem.W.Frag) (H : Hp) (v : V) (b : Bool) : Prop := (∃ i, v = .int i ∧ b = true) ∨ (∃ y, v = .bl y ∧ b = false) ∨ (∃ t : String, TyX K H v (.type t) ∧ kitB t "int" = some false ∧ b = false)
/-- v lies between lo and hi, or not -/
def LieV (K : PySem.W.Frag) (H : Hp) (v : V) (lo hi : Int) (b : Bool) : Prop := (∃ i, v = .int i ∧ b = (decide (lo ≤ i) && decide (i ≤ hi))) ∨ (NumV K H v false ∧ b = false)
section
variable {P : Program} {w : World} {K : PySem.W.Frag} {mg : Str → Option Value} {base : Heap}
def spIsNumV (K : PySem.W.Frag) : Sp := fun vs H Q _ => ∃ (v : V) (b : Bool), vs = [v] ∧ NumV K H v b ∧ Q (.bl b) H
theorem ok_is_numberV (T : Tx K mg) : FnOk P w K mg base CX0 1 T.a_is_number T.d_is_number P_is_number (spIsNumV K) := by
  refine T.F_is_number.ok sc_is_number (fun vs H Q E h => ?_) (fun cdv A outer s H vs Q E hr h => ?_)
  · obtain ⟨i, b, rfl, _⟩ := h
    rfl
  · obtain ⟨v, b, rfl, hv, q⟩ := h
    refine ⟨_, pss_one (ps_ret (pe_and (pe_callB call_isi (by rfl) T.z_isinstance (by decide +kernel) (pa_cons (pv 0) (pa_cons (pe_bltn (v := .ty "int") (u := .type "int") (by rfl) T.z_int (by decide +kernel) rfl) pa_nil)))
      (pe_one (pe_not (pe_callB call_isi (by rfl) T.z_isinstance (by decide +kernel) (pa_cons (pv 0) (pa_cons (pe_bltn (v := .ty "bool") (u := .type "bool") (by rfl) T.z_bool (by decide +kernel) rfl) pa_nil))))))), ?_⟩
    rcases hv with ⟨i, rfl, rfl⟩ | ⟨y, rfl, rfl⟩ | ⟨t, ht, hk, rfl⟩
    · refine ⟨.int i, rfl, .int i, .ty "int", .type "int", .type "int", true, rfl, .ty _, .base (.int i), kit_ty (by decide +kernel), true, rfl, iteT ?_⟩
      exact ⟨.int i, rfl, .int i, .ty "bool", .type "int", .type "bool", false, rfl, .ty _, .base (.int i), kit_ty (by decide +kernel), false, rfl, q⟩
    · refine ⟨.bl y, rfl, .bl y, .ty "int", .type "bool", .type "int", true, rfl, .ty _, .base (.bl y), kit_ty (by decide +kernel), true, rfl, iteT ?_⟩
      exact ⟨.bl y, rfl, .bl y, .ty "bool", .type "bool", .type "bool", true, rfl, .ty _, .base (.bl y), kit_ty (by decide +kernel), true, rfl, q⟩
    · exact ⟨v, rfl, v, .ty "int", .type t, .type "int", false, rfl, .ty _, ht, kit_ty hk, false, rfl, iteF q⟩
def spLiesV (K : PySem.W.Frag) : Sp := fun vs H Q _ => ∃ (v : V) (lo hi : Int) (b : Bool), vs = [v, .int lo, .int hi] ∧ LieV K H v lo hi b ∧ Q (.bl b) H
theorem ok_liesV (T : Tx K mg) : FnOk P w K mg base CX0 2 T.a_lies_between T.d_lies_between P_lies_between (spLiesV K) := by
  refine T.F_lies_between.ok sc_lies_between (fun vs H Q E h => ?_) (fun cdv A outer s H vs Q E hr h => ?_)
  · obtain ⟨v, lo, hi, b, rfl, _⟩ := h
    rfl
  · obtain ⟨v, lo, hi, b, rfl, hv, q⟩ := h
    refine ⟨_, pss_one (ps_ret (pe_and (pe_call (ok_is_numberV T) hr (by rfl) T.g_is_number T.F_is_number.kp T.b_is_number .nil pass0 (pa_cons (pv 0) pa_nil)) (pe_one (pe_chain op_le op_le (pv 1) (pv 0) (pv 2))))), ?_⟩
    rcases hv with ⟨i, rfl, rfl⟩ | ⟨hn, rfl⟩
    · refine ⟨.int i, rfl, .int i, true, rfl, .inl ⟨i, rfl, rfl⟩, true, rfl, iteT ?_⟩
      refine ⟨.int lo, rfl, .int i, rfl, lo, i, rfl, rfl, decide (lo ≤ i), rfl, ?_⟩
      by_cases h : lo ≤ i
      · rw [decide_eq_true h] at q ⊢
        exact iteT ⟨.int hi, rfl, i, hi, rfl, rfl, q⟩
      · rw [decide_eq_false h] at q ⊢
        exact iteF q
    · exact ⟨v, rfl, v, false, rfl, hn, false, rfl, iteF q⟩
/-- check_number: passes, or raises InvalidNumber -/
def spChkX (K : PySem.W.Frag) (CN : Addr) : Sp := fun vs H Q E => ∃ (v : V) (lo hi : Int) (b : Bool), vs = [v, .int lo, .int hi] ∧ LieV K H v lo hi b ∧ (b = true → Q .non H) ∧ (b = false → E (.ref CN) none H)
theorem ok_chkX {S : TdS K mg} {CN : Addr} (T : Tx K mg) (E4 : TdE S "InvalidNumber" CN 4) : FnOk P w K mg base (L2.CX P w) 3 T.a_check_number T.d_check_number P_check_number (spChkX K CN) := by
  refine T.F_check_number.okX sc_check_number (fun vs H Q E h => ?_) (fun cdv A outer s H vs Q E hr h => ?_)
  · obtain ⟨v, lo, hi, b, rfl, _⟩ := h
    rfl
  · obtain ⟨v, lo, hi, b, rfl, hv, q1, q2⟩ := h
    refine ⟨_, pss_one (ps_if (pt_not (pt_val (pe_call (ok_liesV T) hr (by rfl) T.g_lies_between T.F_lies_between.kp T.b_lies_between .nil pass0 (pa_cons (pv 0) (pa_cons (pv 1) (pa_cons (pv 2) pa_nil))))))
      (pss_one (ps_raise rfl (takes_of rfl rfl rfl rfl) (pmk_own PySem.F.excBase_ValueError E4.xF E4.g E4.kF (raises_own E4.bF E4.tF) (by exact rfl)))) pss_nil), ?_⟩
    refine ⟨v, rfl, .int lo, rfl, .int hi, rfl, v, lo, hi, b, rfl, hv, b, rfl, ?_⟩
    cases b with
    | true => exact iteF (q1 rfl)
    | false => exact iteT (q2 rfl)
/-- check_reader: passes, or raises UnknownReader -/
def spRdX (K : PySem.W.Frag) (C CU : Addr) : Sp := fun vs H Q E => ∃ (p dx td ts : Addr) (ds ss : List Int) (v : V) (b : Bool), vs = [.ref p, v] ∧ RingAt C H p dx td ts ds ss ∧ LieV K H v 0 ((ds.length : Int) - 1) b ∧ (b = true → Q .non H) ∧ (b = false → E (.ref CU) none H)
theorem ok_rdX {S : TdS K mg} {CU : Addr} (T : Tx K mg) (E2 : TdE S "UnknownReader" CU 2) : FnOk P w K mg base (L2.CX P w) 3 T.a_check_reader T.d_check_reader P_check_reader (spRdX K T.C CU) := by
  refine T.F_check_reader.okX sc_check_reader (fun vs H Q E h => ?_) (fun cdv A outer s H vs Q E hr h => ?_)
  · obtain ⟨p, dx, td, ts, ds, ss, v, b, rfl, _⟩ := h
    rfl
  · obtain ⟨p, dx, td, ts, ds, ss, v, b, rfl, R, hv, q1, q2⟩ := h
    have hl := R.ok.l8
    refine ⟨_, pss_one (ps_if (pt_not (pt_val (pe_call (ok_liesV T) hr (by rfl) T.g_lies_between T.F_lies_between.kp T.b_lies_between .nil pass0
      (pa_cons (pv 1) (pa_cons pe_int (pa_cons (pe_op op_sub (pe_callB (call_lenI T.lenC T.lenF ((ok_len T).raw T.b_rlen .nil) hr pass0) (by rfl) T.z_len PySem.boot_len (pa_cons (pv 0) pa_nil)) pe_int) pa_nil))))))
      (pss_one (ps_raise rfl (takes_of rfl rfl rfl rfl) (pmk_own PySem.F.excBase_ValueError E2.xF E2.g E2.kF (raises_own E2.bF E2.tF) (by exact rfl)))) pss_nil), ?_⟩
    refine ⟨v, rfl, .ref p, rfl, p, dx, _, rfl, R.ob, p, dx, td, ts, ds, ss, rfl, R, (ds.length : Int), rfl, by omega, by omega, _, _, rfl, rfl, ?_⟩
    refine ⟨v, 0, (ds.length : Int) - 1, b, rfl, hv, b, rfl, ?_⟩
    cases b with
    | true => exact iteF (q1 rfl)
    | false => exact iteT (q2 rfl)
theorem lie_int {K : PySem.W.Frag} {H : Hp} {r lo hi : Int} (h0 : lo ≤ r) (h1 : r ≤ hi) : LieV K H (.int r) lo hi true := .inl ⟨r, rfl, by rw [decide_eq_true h0, decide_eq_true h1]; rfl⟩
theorem lie_no {K : PySem.W.Frag} {H : Hp} {v : V} {lo hi : Int} (h : (∃ r, v = .int r ∧ (r < lo ∨ hi < r)) ∨ v = .non ∨ v = .bl true) : LieV K H v lo hi false := by
  rcases h with ⟨r, rfl, h⟩ | rfl | rfl
  · refine .inl ⟨r, rfl, ?_⟩
    rcases h with h | h
    · rw [decide_eq_false (by omega)]; rfl
    · rw [decide_eq_false (show ¬ r ≤ hi by omega), Bool.and_false]
  · exact .inr ⟨.inr (.inr ⟨"NoneType", .base .non, by decide +kernel, rfl⟩), rfl⟩
  · exact .inr ⟨.inr (.inl ⟨true, rfl, rfl⟩), rfl⟩
/-! ### E2: rcall book_of -/
end
end Rp
/-! InvalidRing(part, index): made, raised. -/
namespace Rp
open PySem PySem.Spec PyProof.Rows L2 Rz Rm Rt Rl LamX
/-- what ReadingError.__init__ is, and that InvalidRing has no class fields part and index -/
structure TdF {K : PySem.W.Frag} {mg : Str → Option Value} (S : TdS K mg) : Prop where
  rd : ClX.CRead K S.cE (.type "type")
  vi : PySem.W.findCls K (.ref S.cE) (.type "type") "__init__" = some (.val (.builtin "ValueError.__init__"))
  nx : PySem.W.findIn K (.ref S.c0) "index" = some none
  np : PySem.W.findIn K (.ref S.c0) "part" = some none
  xf : XfC K S.c0
  rs : PySem.W.subIn K (.ref S.c0) (.type "BaseException") = some true ∧ PySem.W.typeIn K (.ref S.c0) = some (.type "type")
  ex : ExcC K S.c0
  ee : PySem.W.exmOne K (.ref S.c0) (.ref S.cE) = some true
  k0 : PySem.W.kitOne K (.ref S.c0) (.ref S.c0) = some true
  k1 : PySem.W.kitOne K (.ref S.c0) (.ref S.c1) = some false
  k2 : PySem.W.kitOne K (.ref S.c0) (.ref S.c2) = some false
  k3 : PySem.W.kitOne K (.ref S.c0) (.ref S.c3) = some false
  k4 : PySem.W.kitOne K (.ref S.c0) (.ref S.c4) = some false
  k5 : PySem.W.kitOne K (.ref S.c0) (.ref S.c5) = some false
  k6 : PySem.W.kitOne K (.ref S.c0) (.ref S.c6) = some false
  kv : PySem.W.kitOne K (.ref S.c0) (.type "ValueError") = some true
theorem txt_len (a b : Str) : (a ++ b).length = a.length + b.length := strLen_append a b
abbrev irF (part : Str) (i : Int) : List (Str × V) := [("index", .int i), ("part", .str part)]
section
variable {P : Program} {w : World} {K : PySem.W.Frag} {mg : Str → Option Value} {base : Heap}
def spIr (c : Addr) : Sp := fun vs H Q _ => ∃ (a : Addr) (part : Str) (i : Int), vs = [.ref a, .str part, .int i] ∧ H a = some (exo a c none) ∧ part.length ≤ 100 ∧ -10 ≤ i ∧ i < 1900 ∧
  ∀ dx H2, H dx = none → dx ≠ a → H2 a = some (exo a c (some dx)) → H2 dx = some (exd dx (irF part i)) → (∀ b, b ≠ a → b ≠ dx → H2 b = H b) → Q .non H2
theorem ok_ir {S : TdS K mg} (T : Tx K mg) (B : TdF S) (eq : T.c_iInvalidRing = S.c0) : FnOk P w K mg base CX0 1 T.a_iInvalidRing T.d_iInvalidRing P_iInvalidRing (spIr S.c0) := by
  refine T.F_iInvalidRing.ok sc_iInvalidRing (fun vs H Q E h => ?_) (fun cdv A outer s H vs Q E hr h => ?_)
  · obtain ⟨a, part, i, rfl, _⟩ := h
    rfl
  · obtain ⟨a, part, i, rfl, ha, hp, i0, i1, q⟩ := h
    have OX : OexC K S.c0 := by rw [← eq]; exact oxB_ok T.io_iInvalidRing
    refine ⟨_, pss_cons (ps_expr (pe_reinit (by rfl) S.gE B.rd B.vi (pa_cons (pv 0) (pa_cons (pe_joined (.cons pe_str (.cons (pe_fmt (pv 1)) (.cons pe_str (.cons (pe_fmt (pv 2)) (.cons pe_str .nil)))))) pa_nil))))
      (pss_cons (ps_ost (pv 0) (pv 1)) (pss_one (ps_ost (pv 0) (pv 2)))), ?_⟩
    have hl : i.natAbs.log2 < 1920 := Nat.lt_of_le_of_lt (Nat.log2_le_self _) (by omega)
    have ht := PyProof.Rows.int_text_len_1921 hl
    have pl : part.length ≤ sizeLine := by rw [sizeLine_eq]; omega
    refine ⟨_, rfl, _, rfl, by decide, _, rfl, .inl ⟨part, rfl, pl, _, rfl, ?_, _, rfl, ?_, _, rfl, .inr ⟨i, rfl, hl, _, rfl, ?_, _, rfl, ?_, a, S.c0, _, rfl, by show 1 ≤ 1000; decide, OX, ha, ?_⟩⟩⟩
    · rw [txt_len]
      refine Nat.le_trans (Nat.add_le_add (by decide +kernel : _ ≤ 100) hp) (by rw [sizeLine_eq]; decide)
    · rw [txt_len, txt_len]
      refine Nat.le_trans (Nat.add_le_add (Nat.add_le_add (by decide +kernel : _ ≤ 100) hp) (by decide +kernel : _ ≤ 100)) (by rw [sizeLine_eq]; decide)
    · rw [txt_len, txt_len, txt_len]
      refine Nat.le_trans (Nat.add_le_add (Nat.add_le_add (Nat.add_le_add (by decide +kernel : _ ≤ 100) hp) (by decide +kernel : _ ≤ 100)) ht) (by rw [sizeLine_eq]; decide)
    · rw [txt_len, txt_len, txt_len, txt_len]
      refine Nat.le_trans (Nat.add_le_add (Nat.add_le_add (Nat.add_le_add (Nat.add_le_add (by decide +kernel : _ ≤ 100) hp) (by decide +kernel : _ ≤ 100)) ht) (by decide +kernel : _ ≤ 100)) (by rw [sizeLine_eq]; decide)
    · refine ⟨_, rfl, _, rfl, a, S.c0, rfl, OX, B.np, .inl ⟨ha, fun dx n ne => ?_⟩⟩
      refine ⟨_, rfl, _, rfl, a, S.c0, rfl, OX, B.nx, .inr ⟨dx, _, upd_same, (upd_ne ne).trans upd_same, by show 1 ≤ 900; decide, ?_⟩⟩
      refine q dx _ n ne ?_ upd_same fun b n1 n2 => ?_
      · rw [upd_ne (Ne.symm ne), upd_same]
      · rw [upd_ne n2, upd_ne n1, upd_ne n2]
theorem ir_go {C : Addr} {H1 : Hp} {Q : XK} {part : Str} {i : Int} (hp : part.length ≤ 100) (i0 : -10 ≤ i) (i1 : i < 1900) (q : ∀ (dd : Addr) (H2 : Hp), Same H1 H2 → H2 dd = some (.xd (irF part i)) → Q (.ref C) (some dd) H2) :
    ([V.str part, V.int i] : List V).length ≤ 1000 ∧ ∀ a, H1 a = none → spIr C (.ref a :: ([V.str part, V.int i] ++ [])) (upd H1 a (exo a C none))
      (fun v H2 => v = .non ∧ ∃ (d : Addr) (fs : List (Str × V)), H2 a = some (exo a C (some d)) ∧ H2 d = some (exd d fs) ∧ H1 d = none ∧ Q (.ref C) (some d) (upd (del H2 a) d (.xd fs))) (fun _ _ _ => False) := by
  refine ⟨by show 2 ≤ 1000; decide, fun a ha => ⟨a, part, i, rfl, upd_same, hp, i0, i1, fun dx H2 hdx ne e1 e2 rest => ?_⟩⟩
  rw [upd_ne ne] at hdx
  refine ⟨rfl, dx, _, e1, e2, hdx, q dx _ (fun b o e => ?_) upd_same⟩
  have n1 : b ≠ a := ne_of_none e ha
  have n2 : b ≠ dx := ne_of_none e hdx
  rw [upd_ne n2, del_ne n1, rest b n1 n2, upd_ne n1]
  exact e
/-- an item that check_part may be asked -/
def Iv (H : Hp) (x : V) (lo hi : Int) (b : Bool) : Prop := (∃ i, x = .int i ∧ b = (decide (lo ≤ i) && decide (i ≤ hi))) ∨ (b = false ∧ (x = .non ∨ x = .bl true ∨ (∃ s, x = .str s) ∨ ∃ t ys, x = .ref t ∧ H t = some (.tup ys)))
theorem Iv.same {H H' : Hp} (s : Same H H') {x : V} {lo hi : Int} {b : Bool} (h : Iv H x lo hi b) : Iv H' x lo hi b := by
  rcases h with h | ⟨h, h1 | h1 | h1 | ⟨t, ys, h1, h2⟩⟩
  · exact .inl h
  · exact .inr ⟨h, .inl h1⟩
  · exact .inr ⟨h, .inr (.inl h1)⟩
  · exact .inr ⟨h, .inr (.inr (.inl h1))⟩
  · exact .inr ⟨h, .inr (.inr (.inr ⟨t, ys, h1, s _ _ h2⟩))⟩
theorem Iv.lie {K : PySem.W.Frag} {H : Hp} {x : V} {lo hi : Int} {b : Bool} (h : Iv H x lo hi b) : LieV K H x lo hi b := by
  rcases h with h | ⟨h, rfl | rfl | ⟨s, rfl⟩ | ⟨t, ys, rfl, h2⟩⟩
  · exact .inl h
  · exact .inr ⟨.inr (.inr ⟨"NoneType", .base .non, by decide +kernel, rfl⟩), h⟩
  · exact .inr ⟨.inr (.inl ⟨true, rfl, rfl⟩), h⟩
  · exact .inr ⟨.inr (.inr ⟨"str", .base (.str s), by decide +kernel, rfl⟩), h⟩
  · exact .inr ⟨.inr (.inr ⟨"tuple", .base (.tup h2), by decide +kernel, rfl⟩), h⟩
/-- the first wrong item -/
def FB (H : Hp) (xs : List V) (lo hi f m : Int) (i : Nat) : Prop :=
  (i < xs.length ∧ (m ≤ i ∨ ∃ x, xs[i]? = some x ∧ Iv H x lo hi false) ∧ ∀ j : Nat, j < i → (j : Int) < m ∧ ∃ x, xs[j]? = some x ∧ Iv H x lo hi true) ∨
  (i = xs.length ∧ (xs.length : Int) < f ∧ ∀ j : Nat, j < xs.length → (j : Int) < m ∧ ∃ x, xs[j]? = some x ∧ Iv H x lo hi true)
theorem FB.same {H H' : Hp} (s : Same H H') {xs : List V} {lo hi f m : Int} {i : Nat} (h : FB H xs lo hi f m i) : FB H' xs lo hi f m i := by
  rcases h with ⟨h1, h2, h3⟩ | ⟨h1, h2, h3⟩
  · exact .inl ⟨h1, h2.imp id fun ⟨x, a, b⟩ => ⟨x, a, b.same s⟩, fun j hj => ⟨(h3 j hj).1, let ⟨x, a, b⟩ := (h3 j hj).2; ⟨x, a, b.same s⟩⟩⟩
  · exact .inr ⟨h1, h2, fun j hj => ⟨(h3 j hj).1, let ⟨x, a, b⟩ := (h3 j hj).2; ⟨x, a, b.same s⟩⟩⟩
/-- what is not a tuple -/
def NoT (H : Hp) (v : V) : Prop := v = .non ∨ (∃ i, v = .int i) ∨ ∃ l xs, v = .ref l ∧ H l = some (.lst xs)
theorem NoT.same {H H' : Hp} (s : Same H H') {v : V} (h : NoT H v) : NoT H' v := by
  rcases h with h | h | ⟨l, xs, h1, h2⟩
  · exact .inl h
  · exact .inr (.inl h)
  · exact .inr (.inr ⟨l, xs, h1, s _ _ h2⟩)
def PB (H : Hp) (v : V) (lo hi f m i : Int) : Prop := (NoT H v ∧ i = 0) ∨ ∃ (t : Addr) (xs : List V) (k : Nat), v = .ref t ∧ H t = some (.tup xs) ∧ xs.length ≤ 30 ∧ i = k ∧ FB H xs lo hi f m k
theorem PB.same {H H' : Hp} (s : Same H H') {v : V} {lo hi f m i : Int} (h : PB H v lo hi f m i) : PB H' v lo hi f m i := by
  rcases h with ⟨h, e⟩ | ⟨t, xs, k, h1, h2, h3, h4, h5⟩
  · exact .inl ⟨h.same s, e⟩
  · exact .inr ⟨t, xs, k, h1, s _ _ h2, h3, h4, h5.same s⟩
def spCpX (C0 : Addr) : Sp := fun vs H Q E => ∃ (part : Str) (v : V) (l n : Addr) (lo hi f m : Int), vs = [.str part, v, .ref l, .ref n] ∧ part.length ≤ 100 ∧ H l = some (.tup [.int lo, .int hi]) ∧ H n = some (.tup [.int f, .int m]) ∧
  ((∃ i, PB H v lo hi f m i ∧ ∀ (dd : Addr) (H' : Hp), Same H H' → H' dd = some (.xd (irF part i)) → E (.ref C0) (some dd) H') ∨
   (∃ (t : Addr) (ns : List Int), v = .ref t ∧ H t = some (.tup (ns.map V.int)) ∧ (∀ y ∈ ns, lo ≤ y ∧ y ≤ hi) ∧ f ≤ ns.length ∧ (ns.length : Int) ≤ m ∧ ∀ H', Same H H' → Q .non H'))
theorem ok_cpX {S : TdS K mg} (T : Tx K mg) (B : TdF S) : FnOk P w K mg base (L2.CX P w) 3 T.a_check_part T.d_check_part P_check_part (spCpX S.c0) := by
  refine T.F_check_part.okX sc_check_part (fun vs H Q E h => ?_) (fun cdv A outer s H vs Q E hr h => ?_)
  · obtain ⟨part, v, l, n, lo, hi, f, m, rfl, _⟩ := h
    rfl
  · obtain ⟨part, v, l, n, lo, hi, f, m, rfl, hp, hl, hn, hh⟩ := h
    have eq : T.c_iInvalidRing = S.c0 := by
      have e := T.gc_iInvalidRing.symm.trans S.g0
      injection e with e
      injection e
    have OX : OexC K S.c0 := by rw [← eq]; exact oxB_ok T.io_iInvalidRing
    have ic : PySem.W.findIn K (.ref S.c0) "__init__" = some (some (.ref T.a_iInvalidRing)) := by rw [← eq]; exact T.ic_iInvalidRing
    have hr2 : Room 2 _ := hr.mono (by decide)
    have nd := sc_check_part.nd
    refine ⟨_, pss_cons (ps_if (pt_not (pt_val (pe_callB call_isi (by rfl) T.z_isinstance (by decide +kernel) (pa_cons (pv 1) (pa_cons (pe_bltn (v := .ty "tuple") (u := .type "tuple") (by rfl) T.z_tuple (by decide +kernel) rfl) pa_nil)))))
        (pss_one (ps_raise rfl (takes_of rfl rfl rfl rfl) (pmk_oex OX ic T.it_iInvalidRing (ok_ir T B eq) hr2 T.b_iInvalidRing .nil pass0 (by rfl) S.g0 (pa_cons (pv 0) (pa_cons pe_int pa_nil))))) pss_nil)
      (pss_cons (ps_asg (pv 2) (pg_tup rfl (pgs_cons (pg_name (i := 4) nd rfl (.inl rfl)) (pgs_cons (pg_name (i := 5) nd rfl (.inl rfl)) pgs_nil))))
      (pss_cons (ps_asg (pv 3) (pg_tup rfl (pgs_cons (pg_name (i := 6) nd rfl (.inl rfl)) (pgs_cons (pg_name (i := 7) nd rfl (.inl rfl)) pgs_nil))))
      (pss_cons (ps_for (passes_of rfl) rfl (pi_enumT (by rfl) T.z_enumerate (pa_cons (pv 1) pa_nil)) (pg_tup rfl (pgs_cons (pg_name (i := 8) nd rfl (.inl rfl)) (pgs_cons (pg_name (i := 9) nd rfl (.inl rfl)) pgs_nil)))
        (pss_one (ps_if (PW.pt (pw_or (pt_cmpR op_ge (pv 8) (pv 7) (nomark _)) (pw_or1 (pt_not (pt_val (pe_call (ok_liesV T) (hr.mono (by decide)) (by rfl) T.g_lies_between T.F_lies_between.kp T.b_lies_between .nil pass0 (pa_cons (pv 9) (pa_cons (pv 4) (pa_cons (pv 5) pa_nil)))))))))
          (pss_one (ps_raise rfl (takes_of rfl rfl rfl rfl) (pmk_oex OX ic T.it_iInvalidRing (ok_ir T B eq) hr2 T.b_iInvalidRing .nil pass0 (by rfl) S.g0 (pa_cons (pv 0) (pa_cons (pv 8) pa_nil))))) pss_nil)))
      (pss_one (ps_if (pt_cmpR op_lt (pe_callB call_len_seq (by rfl) T.z_len PySem.boot_len (pa_cons (pv 1) pa_nil)) (pv 6) (nomark _))
        (pss_one (ps_raise rfl (takes_of rfl rfl rfl rfl) (pmk_oex OX ic T.it_iInvalidRing (ok_ir T B eq) hr2 T.b_iInvalidRing .nil pass0 (by rfl) S.g0 (pa_cons (pv 0) (pa_cons (pe_callB call_len_seq (by rfl) T.z_len PySem.boot_len (pa_cons (pv 1) pa_nil)) pa_nil))))) pss_nil))))), ?_⟩
    have main : (NoT H v ∧ ∀ (dd : Addr) (H' : Hp), Same H H' → H' dd = some (.xd (irF part 0)) → E (.ref S.c0) (some dd) H') ∨ ∃ (t : Addr) (xs : List V) (k : Nat), v = .ref t ∧ H t = some (.tup xs) ∧ (∀ j : Nat, j < k → j < xs.length → (j : Int) < m ∧ ∃ x, xs[j]? = some x ∧ Iv H x lo hi true) ∧
        (k < xs.length → k < 1900 ∧ (m ≤ k ∨ ∃ x, xs[k]? = some x ∧ Iv H x lo hi false) ∧ ∀ (dd : Addr) (H' : Hp), Same H H' → H' dd = some (.xd (irF part (k : Nat))) → E (.ref S.c0) (some dd) H') ∧
        (xs.length ≤ k → (xs.length : Int) < f → xs.length < 1900 ∧ ∀ (dd : Addr) (H' : Hp), Same H H' → H' dd = some (.xd (irF part (xs.length : Nat))) → E (.ref S.c0) (some dd) H') ∧
        (xs.length ≤ k → f ≤ xs.length → ∀ H', Same H H' → Q .non H') := by
      rcases hh with ⟨i, ⟨hno, rfl⟩ | ⟨t, xs, k, rfl, ht, hlen, rfl, ⟨h1, h2, h3⟩ | ⟨rfl, h2, h3⟩⟩, qe⟩ | ⟨t, ns, rfl, ht, hall, hf, hm, q⟩
      · exact .inl ⟨hno, qe⟩
      · exact .inr ⟨t, xs, k, rfl, ht, fun j hj _ => h3 j hj, fun _ => ⟨by omega, h2, qe⟩, fun z => absurd h1 (by omega), fun z => absurd h1 (by omega)⟩
      · exact .inr ⟨t, xs, xs.length, rfl, ht, fun j hj _ => h3 j hj, fun z => absurd z (by omega), fun _ _ => ⟨by omega, qe⟩, fun _ z => absurd z (by omega)⟩
      · refine .inr ⟨t, ns.map V.int, (ns.map V.int).length, rfl, ht, fun j hj _ => ?_, fun z => absurd z (by omega), fun _ z => absurd z (by rw [List.length_map]; omega), fun _ _ => q⟩
        rw [List.length_map] at hj
        refine ⟨by omega, .int ns[j], by rw [List.getElem?_map, List.getElem?_eq_getElem hj]; rfl, .inl ⟨_, rfl, ?_⟩⟩
        have := hall ns[j] (List.getElem_mem hj)
        rw [decide_eq_true this.1, decide_eq_true this.2]
        rfl
    rcases main with ⟨hno, qe⟩ | ⟨t, xs, k, rfl, ht, hok, hbad, hshort, hgood⟩
    · have go : ∀ (H1 : Hp), Same H H1 → ∀ (dd : Addr) (H2 : Hp), Same H1 H2 → H2 dd = some (.xd (irF part 0)) → E (.ref S.c0) (some dd) H2 := fun H1 s1 dd H2 s2 hd => qe dd H2 (s1.trans s2) hd
      rcases hno with rfl | ⟨i, rfl⟩ | ⟨l2, ys, rfl, hl2⟩
      · refine ⟨.non, rfl, .non, .ty "tuple", .type "NoneType", .type "tuple", false, rfl, .ty _, .base .non, kit_ty (by decide +kernel), false, rfl, iteT ⟨_, rfl, ir_go hp (by decide) (by decide) (go H (Same.refl _))⟩⟩
      · refine ⟨.int i, rfl, .int i, .ty "tuple", .type "int", .type "tuple", false, rfl, .ty _, .base (.int i), kit_ty (by decide +kernel), false, rfl, iteT ⟨_, rfl, ir_go hp (by decide) (by decide) (go H (Same.refl _))⟩⟩
      · refine ⟨.ref l2, rfl, .ref l2, .ty "tuple", .type "list", .type "tuple", false, rfl, .ty _, .base (.lst hl2), kit_ty (by decide +kernel), false, rfl, iteT ⟨_, rfl, ir_go hp (by decide) (by decide) (go H (Same.refl _))⟩⟩
    · refine ⟨.ref t, rfl, .ref t, .ty "tuple", .type "tuple", .type "tuple", true, rfl, .ty _, .base (.tup ht), kit_ty (by decide +kernel), true, rfl, iteF ?_⟩
      refine ⟨.ref l, rfl, l, _, rfl, .of hl, rfl, _, _, rfl, _, _, rfl, rfl, ?_⟩
      refine ⟨.ref n, rfl, n, _, rfl, .of hn, rfl, _, _, rfl, _, _, rfl, rfl, ?_⟩
      refine ⟨.ref t, rfl, t, _, rfl, .of ht, for_it walk_enumT (fun i σ H' => i ≤ k ∧ ∃ y8 y9, σ = [some (.str part), some (.ref t), some (.ref l), some (.ref n), some (.int lo), some (.int hi), some (.int f), some (.int m), y8, y9] ∧ Same H H')
        ⟨Nat.zero_le _, none, none, rfl, Same.refl H⟩ (fun i σ H' _ ⟨_, _, _, _, sm⟩ => sq_same sm ht) ?_ ?_⟩
      · rintro i z σ H1 H2 hi1 ⟨hik, y8, y9, rfl, sm⟩ ⟨u, a, b, rfl, nt, rfl, ha, hb⟩
        have ha' : a = .int (i : Nat) := (Option.some.inj ha).symm
        subst ha'
        have hb : xs[i]? = some b := hb
        have s2 : Same H (upd H1 u (.tup [.int (i : Nat), b])) := sm.trans (same_upd nt)
        refine ⟨u, _, rfl, .of upd_same, rfl, _, _, rfl, _, _, rfl, rfl, ?_⟩
        generalize (upd H1 u (.tup [.int (i : Nat), b])) = H3 at s2 ⊢
        refine ⟨.int (i : Nat), rfl, .int m, rfl, _, _, rfl, rfl, _, rfl, ?_⟩
        rcases Nat.lt_or_ge i k with hlt | hge
        · obtain ⟨h1, x, hx, hv⟩ := hok i hlt hi1
          rw [hb] at hx
          cases hx
          rw [decide_eq_false (show ¬ m ≤ ((i : Nat) : Int) by omega)]
          refine iteF ⟨b, rfl, .int lo, rfl, .int hi, rfl, b, lo, hi, true, rfl, (hv.same s2).lie, true, rfl, ?_⟩
          exact iteF ⟨by omega, _, _, rfl, s2⟩
        · have e : i = k := by omega
          subst e
          obtain ⟨h19, hb2, qe⟩ := hbad hi1
          have go := ir_go (C := S.c0) (H1 := H3) (Q := E) (part := part) (i := ((i : Nat) : Int)) hp (by omega) (by omega) fun dd H4 s4 hd => qe dd H4 (s2.trans s4) hd
          by_cases hm : m ≤ ((i : Nat) : Int)
          · rw [decide_eq_true hm]
            exact iteT (iteT ⟨_, rfl, _, rfl, go⟩)
          · rw [decide_eq_false hm]
            rcases hb2 with z | ⟨x, hx, hv⟩
            · exact absurd z hm
            · rw [hb] at hx
              cases hx
              refine iteF ⟨b, rfl, .int lo, rfl, .int hi, rfl, b, lo, hi, false, rfl, (hv.same s2).lie, false, rfl, ?_⟩
              exact iteT ⟨_, rfl, _, rfl, go⟩
      · rintro σ H1 ⟨hik, y8, y9, rfl, sm⟩
        refine ⟨.ref t, rfl, t, _, rfl, .inr (sq_same sm ht), .int f, rfl, _, _, rfl, rfl, _, rfl, ?_⟩
        by_cases hf : (xs.length : Int) < f
        · rw [decide_eq_true hf]
          obtain ⟨h19, qe⟩ := hshort hik hf
          exact iteT ⟨_, rfl, .ref t, rfl, t, _, rfl, .inr (sq_same sm ht), ir_go hp (by omega) (by omega) fun dd H4 s4 hd => qe dd H4 (sm.trans s4) hd⟩
        · rw [decide_eq_false hf]
          exact iteF (hgood hik (by omega) H1 sm)
/-- no ring can have these -/
def RBad (H : Hp) (v x : V) (part : Str) (i : Int) : Prop :=
  (part = "days" ∧ PB H v 1 30 2 8 i) ∨
  ∃ (t : Addr) (ds : List Int), v = .ref t ∧ H t = some (.tup (ds.map V.int)) ∧ (∀ y ∈ ds, 1 ≤ y ∧ y ≤ 30) ∧ 2 ≤ ds.length ∧ ds.length ≤ 8 ∧
    ((part = "starts" ∧ PB H x 0 12 ds.length ds.length i) ∨ ∃ (u : Addr) (ss : List Int), x = .ref u ∧ H u = some (.tup (ss.map V.int)) ∧ (∀ y ∈ ss, 0 ≤ y ∧ y ≤ 12) ∧ ss.length = ds.length ∧ ¬ (1 ≤ ss.sum ∧ ss.sum ≤ 12) ∧ part = "starts" ∧ i = -1)
theorem RBad.same {H H' : Hp} (s : Same H H') {v x : V} {part : Str} {i : Int} (h : RBad H v x part i) : RBad H' v x part i := by
  rcases h with ⟨h1, h2⟩ | ⟨t, ds, h1, h2, h3, h4, h5, ⟨h6, h7⟩ | ⟨u, ss, h6, h7, h8⟩⟩
  · exact .inl ⟨h1, h2.same s⟩
  · exact .inr ⟨t, ds, h1, s _ _ h2, h3, h4, h5, .inl ⟨h6, h7.same s⟩⟩
  · exact .inr ⟨t, ds, h1, s _ _ h2, h3, h4, h5, .inr ⟨u, ss, h6, s _ _ h7, h8⟩⟩
def spInX (C0 : Addr) : Sp := fun vs H Q E => ∃ (p : Addr) (v x : V) (part : Str) (i : Int), vs = [.ref p, v, x] ∧ RBad H v x part i ∧ ∀ (dd : Addr) (H' : Hp), Same H H' → H' dd = some (.xd (irF part i)) → E (.ref C0) (some dd) H'
theorem ok_inX {S : TdS K mg} (T : Tx K mg) (B : TdF S) : FnOk P w K mg base (L2.CX P w) 4 T.a_rinit T.d_rinit P_rinit (spInX S.c0) := by
  refine T.F_rinit.okX sc_rinit (fun vs H Q E h => ?_) (fun cdv A outer s H vs Q E hr h => ?_)
  · obtain ⟨p, v, x, part, i, rfl, _⟩ := h
    rfl
  · obtain ⟨p, v, x, part, i, rfl, hb, qe⟩ := h
    have eq : T.c_iInvalidRing = S.c0 := by
      have e := T.gc_iInvalidRing.symm.trans S.g0
      injection e with e
      injection e
    have OX : OexC K S.c0 := by rw [← eq]; exact oxB_ok T.io_iInvalidRing
    have ic : PySem.W.findIn K (.ref S.c0) "__init__" = some (some (.ref T.a_iInvalidRing)) := by rw [← eq]; exact T.ic_iInvalidRing
    have hr2 : Room 2 _ := hr.mono (by decide)
    obtain ⟨u1, c1⟩ := T.c_MOST_DAYS
    obtain ⟨u2, c2⟩ := T.c_FEWEST_READERS
    obtain ⟨u3, c3⟩ := T.c_MOST_READERS
    obtain ⟨u4, c4⟩ := T.c_MOST_BOOKS
    refine ⟨_, pss_cons (ps_expr (pe_callS (ok_cpX T B) hr (by rfl) T.g_check_part T.F_check_part.kp T.b_check_part (fun σ => passAt (takes_of rfl rfl rfl rfl) σ) (pa_cons pe_str (pa_cons (pv 1) (pa_cons (pe_tup (pa_cons pe_int (pa_cons (pe_glob (v := .int 30) (by rfl) c1 ⟨_, rfl⟩) pa_nil))) (pa_cons (pe_tup (pa_cons (pe_glob (v := .int 2) (by rfl) c2 ⟨_, rfl⟩) (pa_cons (pe_glob (v := .int 8) (by rfl) c3 ⟨_, rfl⟩) pa_nil))) pa_nil))))))
      (pss_cons (ps_expr (pe_callS (ok_cpX T B) hr (by rfl) T.g_check_part T.F_check_part.kp T.b_check_part (fun σ => passAt (takes_of rfl rfl rfl rfl) σ) (pa_cons pe_str (pa_cons (pv 2) (pa_cons (pe_tup (pa_cons pe_int (pa_cons (pe_glob (v := .int 12) (by rfl) c4 ⟨_, rfl⟩) pa_nil)))
        (pa_cons (pe_tup (pa_cons (pe_callB call_len_seq (by rfl) T.z_len PySem.boot_len (pa_cons (pv 1) pa_nil)) (pa_cons (pe_callB call_len_seq (by rfl) T.z_len PySem.boot_len (pa_cons (pv 1) pa_nil)) pa_nil))) pa_nil))))))
      (pss_cons (ps_if (pt_not (pt_chain op_le op_le pe_int (pe_callB (cr_sumT rfl) (by rfl) T.z_sum (by decide +kernel) (pa_cons (pv 2) pa_nil)) (pe_glob (v := .int 12) (by rfl) c4 ⟨_, rfl⟩)))
        (pss_one (ps_raise rfl (takes_of rfl rfl rfl rfl) (pmk_oex OX ic T.it_iInvalidRing (ok_ir T B eq) hr2 T.b_iInvalidRing .nil pass0 (by rfl) S.g0 (pa_cons pe_str (pa_cons (pe_un un_neg pe_int) pa_nil))))) pss_nil)
      pss_never)), ?_⟩
    have d4 : ("days" : Str).length ≤ 100 := by decide
    have d6 : ("starts" : Str).length ≤ 100 := by decide
    refine ⟨v, rfl, (by show 2 ≤ sizeLine; decide), fun a1 h1 => ⟨(by show 2 ≤ sizeLine; decide), fun a2 h2 => ?_⟩⟩
    have s1 := same_upd (o := .tup [.int 1, .int 30]) h1
    have s2 := same_upd (o := .tup [.int 2, .int 8]) h2
    have s12 := s1.trans s2
    refine ⟨"days", v, a1, a2, 1, 30, 2, 8, rfl, d4, s2 _ _ upd_same, upd_same, ?_⟩
    rcases hb with ⟨rfl, hb⟩ | ⟨t, ds, rfl, ht, hall, l2, l8, hx⟩
    · exact .inl ⟨i, hb.same s12, fun dd H' s3 hd => qe dd H' (s12.trans s3) hd⟩
    · refine .inr ⟨t, ds, rfl, s12 _ _ ht, hall, by omega, by omega, fun H3 s3 => ?_⟩
      have s13 := s12.trans s3
      refine ⟨x, rfl, (by show 2 ≤ sizeLine; decide), fun a3 h3 => ?_⟩
      have s4 := same_upd (o := .tup [.int 0, .int 12]) h3
      have s14 := s13.trans s4
      refine ⟨.ref t, rfl, t, _, rfl, .inr (.of (s14 _ _ ht)), .ref t, rfl, t, _, rfl, .inr (.of (s14 _ _ ht)), (by show 2 ≤ sizeLine; decide), fun a4 h4 => ?_⟩
      have s5 := same_upd (o := .tup [.int ((ds.map V.int).length : Nat), .int ((ds.map V.int).length : Nat)]) h4
      have s15 := s14.trans s5
      refine ⟨"starts", x, a3, a4, 0, 12, ((ds.map V.int).length : Nat), ((ds.map V.int).length : Nat), rfl, d6, s5 _ _ upd_same, upd_same, ?_⟩
      rw [List.length_map] at s15 ⊢
      rcases hx with ⟨rfl, hx⟩ | ⟨u, ss, rfl, hu, hsa, hsl, hsum, rfl, rfl⟩
      · exact .inl ⟨i, hx.same s15, fun dd H' s6 hd => qe dd H' (s15.trans s6) hd⟩
      · refine .inr ⟨u, ss, rfl, s15 _ _ hu, hsa, by omega, by omega, fun H6 s6 => ?_⟩
        have s16 := s15.trans s6
        have go := ir_go (C := S.c0) (H1 := H6) (Q := E) (part := "starts") (i := -1) d6 (by decide) (by decide) fun dd H' s7 hd => qe dd H' (s16.trans s7) hd
        refine ⟨.ref u, rfl, u, ss, rfl, sq_same s16 hu, _, _, rfl, rfl, _, rfl, ?_⟩
        by_cases z1 : 1 ≤ ss.sum
        · rw [decide_eq_true z1]
          refine iteT ⟨_, _, rfl, rfl, _, rfl, ?_⟩
          rw [decide_eq_false (fun z2 => hsum ⟨z1, z2⟩)]
          exact iteT ⟨_, rfl, go⟩
        · rw [decide_eq_false z1]
          refine iteF ⟨_, rfl, ?_⟩
          exact iteT ⟨_, rfl, go⟩
end
end Rp
/-! Own signs: o[i], o == x, o >> x; a class held by a local name is called. -/
namespace Rz
open PySem PySem.Spec PyProof.Rows L2
section
variable {X : Cx} {CX : CXT} {k : Nat} {f C : Addr} {sp : Sp} {E : XK} {pins : List (Addr × Obj)} {s : Shared} {σ : L2.St} {H : Hp} {Q : VK}
/-- an own def is called within one more step -/
theorem run_in1 {us : List Value} {vs : List V} (F : FnR X.prog X.w X.K X.mg X.base CX k f sp) (hr : Room (k + 1) X.A) (hx : Passes CX X E) (I : Inv X pins σ H s) (r : Vals vs us) (q : sp vs H Q E) :
    wpAny (model X.prog X.w) X.A.in1 (call (.ref f) us) (EP X pins σ Q) X.xe s := by
  have e := I.env0
  have e0 : Env0 X.prog X.w X.K X.mg X.base X.A.in1 X.stack s H := ⟨e.frames, e.mod, e.bs, e.bsz, e.funs, e.frf, e.hok, e.bare⟩
  refine wpAny_call (codeAny_mono (F X.A.in1 X.stack s H us vs _ E hr.in1 e0 r q) fun r s' hq => ?_)
  cases r with
  | error e => exact hx pins σ H s e s' I hq
  | ok fl =>
    cases fl with
    | ret u => exact I.after hq
    | next => exact False.elim hq
    | brk => exact False.elim hq
    | cont => exact False.elim hq
theorem run_here {us : List Value} {vs : List V} (F : FnR X.prog X.w X.K X.mg X.base CX k f sp) (hr : Room k X.A) (hx : Passes CX X E) (I : Inv X pins σ H s) (r : Vals vs us) (q : sp vs H Q E) :
    wpAny (model X.prog X.w) X.A (call (.ref f) us) (EP X pins σ Q) X.xe s := by
  refine wpAny_call (codeAny_mono (F X.A X.stack s H us vs _ E hr I.env0 r q) fun r s' hq => ?_)
  cases r with
  | error e => exact hx pins σ H s e s' I hq
  | ok fl =>
    cases fl with
    | ret u => exact I.after hq
    | next => exact False.elim hq
    | brk => exact False.elim hq
    | cont => exact False.elim hq
/-- o[y], o of the class at C -/
def rIxO (C : Addr) (sp : Sp) (E : XK) : R2 := fun x y H Q => ∃ (p dx : Addr) (fs : List (Str × V)), x = .ref p ∧ H p = some (.ins C dx fs) ∧ sp [.ref p, y] H Q E
theorem pe_ixO {a b : Expr} {ta tb : TE} {pos : Pos} (hs : PySem.W.findIn X.K (.ref C) "__getitem__" = some (some (.ref f))) (hf : PySem.W.fnIn X.K f = true) (hfn : PySem.W.isFn X.K (.ref f) = true)
    (F : FnR X.prog X.w X.K X.mg X.base CX k f sp) (hr : Room (k + 1) X.A) (hx : Passes CX X E) (ha : PE X a ta) (hb : PE X b tb)
    (hsl : ∀ (o : Addr) (i : Value), subscripted b true (.ref o) i = runValue (.builtin "lifetime.subscript" ⟨[.ref o, i], []⟩) := by intro _ _; with_unfolding_all rfl) : PE X (.Subscript a b pos) (tOp (rIxO C sp E) ta tb) := by
  refine ⟨fun pins s σ H Q I h => Subscript_ (binT ha hb I h fun v u s2 x y H2 I2 rx ry q => ?_)⟩
  obtain ⟨p, dx, fs, rfl, hp, q⟩ := q
  obtain rfl : v = Value.ref p := rx
  obtain ⟨mA, O, _⟩ := ins_get I2.hok hp
  obtain ⟨od, J, _⟩ := O.look
  obtain ⟨m, hns, _⟩ := I2.loc
  exact PySem.W.sub_K ⟨hns, I2.bk, Nat.le_trans I2.ok.bsz I2.ok.above⟩ I2.ok.mod.kin J hs hf hfn (run_in1 F hr hx I2 (vs := [.ref p, y]) (.cons rfl (.cons ry .nil)) q) (hsl p u)
/-- the other side of an own sign: of the same class, or of a built-in kind -/
def Oth (C : Addr) (H : Hp) (y : V) : Prop := (∃ (b dy : Addr) (gs : List (Str × V)), y = .ref b ∧ H b = some (.ins C dy gs)) ∨ ∃ (b : Addr) (xs : List V), y = .ref b ∧ H b = some (.tup xs)
def rEqO (C : Addr) (sp : Sp) (E : XK) : R2 := fun x y H Q => ∃ (a dx : Addr) (fs : List (Str × V)), x = .ref a ∧ H a = some (.ins C dx fs) ∧ Oth C H y ∧ sp [.ref a, y] H (fun v H' => (∃ k, v = .bl k) ∧ Q v H') E
theorem op_eqO (hs : PySem.W.findIn X.K (.ref C) "__eq__" = some (some (.ref f))) (hf : PySem.W.isFn X.K (.ref f) = true) (ht : PySem.W.subIn X.K (.type "tuple") (.ref C) = some false)
    (F : FnR X.prog X.w X.K X.mg X.base CX k f sp) (hr : Room k X.A) (hx : Passes CX X E) : OpR X (compareOp .Eq) (rEqO C sp E) := by
  intro pins s σ H x y v u Q I rx ry h
  obtain ⟨a, dx, fs, rfl, ha, ho, q⟩ := h
  obtain rfl : v = Value.ref a := rx
  obtain ⟨mA, O, _⟩ := ins_get I.hok ha
  obtain ⟨od, J, _⟩ := O.look
  obtain ⟨m, hF⟩ := I.fr
  have back : ∀ (w : Value) (s' : Shared), EP X pins σ (fun v H' => (∃ k, v = V.bl k) ∧ Q v H') w s' → PySem.W.CmpBack (EP X pins σ Q) w s' := fun w s' h => by
    obtain ⟨z, H', I', rz, ⟨k, rfl⟩, q'⟩ := h
    cases rz
    exact ⟨.bl k, H', I', rfl, q'⟩
  show wpAny (model X.prog X.w) X.A (richCompare .Eq (.ref a) u) (EP X pins σ Q) X.xe s
  have hu : X.A.units < cLine := hr.units0
  rcases ho with ⟨b, dy, gs, rfl, hb⟩ | ⟨b, xs, rfl, hb⟩
  · obtain rfl : u = Value.ref b := ry
    obtain ⟨mB, O', _⟩ := ins_get I.hok hb
    obtain ⟨od', J', _⟩ := O'.look
    exact PySem.W.cmp_K (op := .Eq) (tb := .ref C) hu hF I.ok.mod.kin J J'.type (by simp [PySem.W.notFirst]) hs hf (wpAny_mono (run_here F hr hx I (vs := [.ref a, .ref b]) (.cons rfl (.cons rfl .nil)) q) back fun _ _ e => e)
  · obtain rfl : u = Value.ref b := ry
    obtain ⟨its, _, p1, _⟩ := I.tuple (SqT.of (K := X.K) hb)
    have L : PySem.W.Looks (model X.prog X.w) s.heap (typeOf (.ref b)) (.type "tuple") := by
      obtain ⟨o, ho, hc, _⟩ := p1
      exact fun A Q E s k q => wpAny_typeOf_ref (k _ _ ho) (by rw [hc]; exact q)
    exact PySem.W.cmp_K (op := .Eq) (tb := .type "tuple") hu hF I.ok.mod.kin J L (by simp [PySem.W.notFirst, ht]) hs hf (wpAny_mono (run_here F hr hx I (vs := [.ref a, .ref b]) (.cons rfl (.cons rfl .nil)) q) back fun _ _ e => e)
/-- o >> y, y of the built-in kind T -/
def rShV (C : Addr) (T : String) (sp : Sp) (E : XK) : R2 := fun x y H Q => ∃ (a dx : Addr) (fs : List (Str × V)), x = .ref a ∧ H a = some (.ins C dx fs) ∧ (∀ u, RelV y u → typeOf u = pure (.type T)) ∧ sp [.ref a, y] H (fun v H' => (∃ b : Addr, v = .ref b) ∧ Q v H') E
theorem op_shV {T : String} {fo ro : Option Value} (hc : PySem.W.selfFirst X.K C = true) (hs : PySem.W.findIn X.K (.ref C) "__rshift__" = some (some (.ref f))) (hf : PySem.W.isFn X.K (.ref f) = true)
    (hn : PySem.W.findIn X.K (.ref C) "__rrshift__" = some none) (h1 : PySem.W.findIn X.K (.type T) "__rshift__" = some fo) (h2 : PySem.W.findIn X.K (.type T) "__rrshift__" = some ro) (hsub : PySem.W.subIn X.K (.type T) (.ref C) = some false)
    (F : FnR X.prog X.w X.K X.mg X.base CX k f sp) (hr : Room k X.A) (hx : Passes CX X E) : OpR X (binaryOp .RShift) (rShV C T sp E) := by
  intro pins s σ H x y v u Q I rx ry h
  obtain ⟨a, dx, fs, rfl, ea, hT, q⟩ := h
  obtain rfl : v = Value.ref a := rx
  obtain ⟨mA, O, _⟩ := ins_get I.hok ea
  obtain ⟨od, J, _⟩ := O.look
  obtain ⟨m, hns, _⟩ := I.loc
  refine PySem.W.ksp_binT (op := .RShift) (T := T) ⟨hns, I.bk, Nat.le_trans I.ok.bsz I.ok.above⟩ I.ok.mod.kin J (hT u ry) hc hs hf hn (.inl rfl) h1 h2 hsub ?_
  refine wpAny_mono (run_here F hr hx I (vs := [.ref a, y]) (.cons rfl (.cons ry .nil)) q) (fun w s' z => ?_) fun _ _ e => e
  obtain ⟨z, H', I', rz, ⟨b, rfl⟩, q'⟩ := z
  obtain rfl : w = Value.ref b := rz
  exact ⟨.ref b, H', I', rfl, q'⟩
/-- x(..), x a local name that holds the class at C -/
def tMakeL (i : Nat) (C : Addr) (sp : Sp) (E : XK) (t : TA) : TE := fun σ H Q => σ[i]? = some (some (.ref C)) ∧ StX.tMakeR C sp E t σ H Q
theorem pe_makeL {i : Nat} {x : Str} {e : Expr} {es : List Expr} {t : TA} {p pos : Pos} (M : Mk X.K C f) (F : FnR X.prog X.w X.K X.mg X.base CX k f sp) (hr : Room (k + 1) X.A) (hN : X.N[i]? = some x) (hv : Vis X.env.scope x) (hx : Passes CX X E) (ha : PA X (e :: es) t)
    (hdb : (x == ("__debug__" : Str)) = false := by decide) (hcd : (x == ("__classdict__" : Str)) = false := by decide)
    (he : starEach (e :: es) X.env = (false, eval e X.env) :: starEach es X.env := by rfl) (hpl : (backTo pos (starEach es X.env)).any (·.1) = false := by rfl) : PE X (.Call (.Name x p) (e :: es) [] pos) (tMakeL i C sp E t) := by
  refine ⟨fun pins s σ H Q I h => ?_⟩
  obtain ⟨hs, ht⟩ := h
  have look := (pe_var (pos := p) hN hv hdb hcd).run pins s σ H (fun v H1 => v = .ref C ∧ H1 = H) I ⟨.ref C, hs, rfl, rfl⟩
  refine wpAny_Call_Name_kw (thn look fun u s1 hq => ?_)
  obtain ⟨v, H1, I1, r1, rfl, rfl⟩ := hq
  cases r1
  have args := ha.run pos pins s1 σ _ _ I1 ht
  exact PySem.W.callWith_K (h₀ := X.base) I.ok.mod.kin M.kp (thn args fun us s2 hq2 => by
    obtain ⟨vs, H2, I2, r, q⟩ := hq2
    exact ⟨I2.kIn, StX.run_makeR M F hr hx I2 r q⟩) he hpl
end
end Rz
/-! tuple * 1; a tuple from its end to its start. -/
namespace Rz
open PySem PySem.Spec PyProof.Rows L2
theorem tuple_once (l : Addr) (items : Array Value) (n : Nat) (dd : Option Addr) (sl : Array (Option Value)) (u : Tok) :
    Meets (Builtin.«tuple.__mul__» ⟨[.ref l, .int 1 u], []⟩) (fun _ R s => s.heap.get? l = some { cls := .type "tuple", dict := dd, data := .seq items n, slots := sl } ∧ R (.ok (.ret (Value.ref l))) s) :=
  .of_wp fun prog w A R s h => by
    obtain ⟨hp, g, d, tk, os⟩ := s
    obtain ⟨hl, h⟩ := h
    have f1 := AutoSeq1.idx_int
    wp_walk using wpAny_loadPart' hl
    all_goals exact ⟨_, rfl, h⟩
section
variable {prog : Program} {w : World} {A : Around} {E : Value → Shared → Prop} {s : Shared}
theorem applied_rev {sl : Addr} {u : Tok} {n : Nat} {Q : Int × Int × Nat → Shared → Prop} (hs : s.heap.IsSliceOf sl .none .none (.int (-1) u)) (h : Q ((n : Int) - 1, -1, n) s) :
    wpAny (model prog w) A (Builtin.Slice.sliceApplied (.ref sl) (pure (n : Int))) Q E s := by
  obtain ⟨os, hos, hcs, hds⟩ := id hs
  unfold Builtin.Slice.sliceApplied Builtin.Slice.sliceFields
  refine wpAny_bind (wpAny_bind (wpAny_field hos hds (x := .none) rfl (wpAny_bind (wpAny_field hos hds (x := .none) rfl (wpAny_bind (wpAny_field hos hds (x := .int (-1) u) rfl (wpAny_pure ?_)))))))
  refine wpAny_bind (PyProof.Rows.slicePart_int ?_)
  show wpAny _ _ (if ((-1 : Int) == 0) = true then _ else _) _ _ s
  rw [if_neg (by decide)]
  refine wpAny_bind (PyProof.Rows.slicePart_none (wpAny_bind (PyProof.Rows.slicePart_none (wpAny_bind (wpAny_pure ?_)))))
  have ea : Builtin.Slice.sliceAdjust none none (-1) (n : Int) = ((n : Int) - 1, -1) := by
    unfold Builtin.Slice.sliceAdjust
    simp
  show wpAny _ _ (match Builtin.Slice.sliceAdjust none none (-1) (n : Int) with | (lo, hi) => pure (lo, (-1 : Int), Builtin.Slice.slicePlaces lo hi (-1))) _ _ s
  rw [ea]
  show wpAny _ _ (pure ((n : Int) - 1, (-1 : Int), Builtin.Slice.slicePlaces ((n : Int) - 1) (-1) (-1))) _ _ s
  have ep : Builtin.Slice.slicePlaces ((n : Int) - 1) (-1) (-1) = n := by
    unfold Builtin.Slice.slicePlaces
    rw [if_neg (by decide)]
    by_cases c : (n : Int) - 1 > -1
    · rw [if_pos c, show -(-1 : Int) = 1 by decide, Int.ediv_one]
      omega
    · rw [if_neg c]
      omega
  rw [ep]
  exact wpAny_pure h
theorem pick_rev (xs : Array Value) : ((List.range xs.size).filterMap fun (m : Nat) => xs[(((xs.size : Int) - 1) + (m : Int) * (-1)).toNat]?).toArray = xs.toList.reverse.toArray := by
  congr 1
  apply List.ext_getElem?
  intro i
  have e : (List.range xs.size).filterMap (fun (m : Nat) => xs[(((xs.size : Int) - 1) + (m : Int) * (-1)).toNat]?) = (List.range xs.size).map (fun (m : Nat) => xs.getD (xs.size - 1 - m) .none) := by
    have go : ∀ l : List Nat, (∀ m ∈ l, m < xs.size) → l.filterMap (fun (m : Nat) => xs[(((xs.size : Int) - 1) + (m : Int) * (-1)).toNat]?) = l.map (fun (m : Nat) => xs.getD (xs.size - 1 - m) .none) := by
      intro l
      induction l with
      | nil => intro _; rfl
      | cons m r ih =>
        intro hl
        have hm := hl m List.mem_cons_self
        have hlt : xs.size - 1 - m < xs.size := by omega
        have e1 : xs[(((xs.size : Int) - 1) + (m : Int) * (-1)).toNat]? = some (xs.getD (xs.size - 1 - m) .none) := by
          rw [show (((xs.size : Int) - 1) + (m : Int) * (-1)).toNat = xs.size - 1 - m by omega, Array.getElem?_eq_getElem hlt, Array.getD_eq_getD_getElem?, Array.getElem?_eq_getElem hlt]
          rfl
        rw [List.filterMap_cons, e1, List.map_cons, ih fun k hk => hl k (List.mem_cons_of_mem _ hk)]
    exact go _ fun m hm => List.mem_range.mp hm
  rw [e, List.getElem?_map]
  by_cases hi : i < xs.size
  · rw [List.getElem?_range hi, List.getElem?_reverse (by rw [Array.length_toList]; exact hi), Array.length_toList, Array.getElem?_toList]
    have hlt : xs.size - 1 - i < xs.size := by omega
    rw [Array.getElem?_eq_getElem hlt]
    show some (xs.getD (xs.size - 1 - i) .none) = _
    rw [Array.getD_eq_getD_getElem?, Array.getElem?_eq_getElem hlt]
    rfl
  · rw [List.getElem?_eq_none (by rw [List.length_range]; omega), List.getElem?_eq_none (by rw [List.length_reverse, Array.length_toList]; omega)]
    rfl
theorem getItem_rev {t sl : Addr} {items : Array Value} {u : Tok} {Q : Value → Shared → Prop} (ht : IsTup s.heap t items) (hs : s.heap.IsSliceOf sl .none .none (.int (-1) u))
    (h : Q (.ref s.heap.objs.size) { s with heap := s.heap.push { cls := .type "tuple", data := .seq items.toList.reverse.toArray } }) (hsz : items.size ≤ sizeLine) : wpAny (model prog w) A (getItem (.ref t) (.ref sl)) Q E s := by
  have hok : sizeOk (.seq items.toList.reverse.toArray) := by
    show items.toList.reverse.toArray.size ≤ sizeLine
    rw [List.size_toArray, List.length_reverse, Array.length_toList]
    exact hsz
  obtain ⟨ox, hox, hcx, _⟩ := id hs
  have kind : s.TypeIs (.ref sl) "slice" := ⟨ox, hox, hcx⟩
  unfold getItem
  refine wpAny_holding ?_
  first | refine wpAny_bind (wpAny_pure ?_) | skip
  refine wpAny_bind (wpAny_sequenceKey ht.typeIs (by decide) ?_)
  refine wpAny_bind (wpAny_callSpecial?_slot (name := Str.ofString "__getitem__") ht.typeIs PyProof.Rows.slot_tuple_getitem (wpAny_call_entry PyProof.Rows.slot_tuple_getitem ht.typeIs PyProof.Rows.entry_tuple_getitem ?_ (PyProof.Rows.args_tuple_getitem _ _)))
  show wpAny _ _ (Builtin.Tuple.tupleItemsOf (.ref t) >>= _) _ _ s
  refine wpAny_bind (tupleItemsOf_ ht (wpAny_bind (wpAny_typeOf kind ?_)))
  rw [if_pos (by decide)]
  refine wpAny_bind (applied_rev hs ?_)
  have no : ¬ (((items.size : Int) - 1 == 0 && (-1 : Int) == 1 && items.size == items.size) = true) := by
    intro q
    rw [Bool.and_eq_true, Bool.and_eq_true] at q
    exact absurd q.1.2 (by decide)
  show wpAny _ _ (if ((items.size : Int) - 1 == 0 && (-1 : Int) == 1 && items.size == items.size) = true then _ else _) _ _ s
  rw [if_neg no, pick_rev]
  first
    | exact wpAny_bind (m := Builtin.Tuple.tupleExact _) (wpAny_newObj_type (wpAny_pure ⟨_, rfl, wpAny_pure h⟩) hok)
    | exact wpAny_bind (wpAny_bind (m := Builtin.Tuple.tupleExact _) (wpAny_newObj_type (wpAny_pure (wpAny_pure ⟨_, rfl, wpAny_pure h⟩)) hok))
end
section
variable {X : Cx}
/-- t * 1 is t itself -/
def rRep1 (K : PySem.W.Frag) : R2 := fun x y H Q => ∃ l xs, x = .ref l ∧ y = .int 1 ∧ SqT K H l xs ∧ Q (.ref l) H
theorem op_rep1 : OpR X (binaryOp .Mult) (rRep1 X.K) := by
  intro pins s σ H x y v u Q I rx ry h
  obtain ⟨l, xs, rfl, rfl, hT, q⟩ := h
  cases rx
  obtain ⟨t, rfl⟩ := ry
  obtain ⟨ts, _, ⟨⟨kind, dv, da, so⟩, eo, ek, nn, ed⟩, _⟩ := I.tuple hT
  simp only at ek ed
  subst ek ed
  exact wpAny_binaryOp_repeat_ref (T := "tuple") (U := "int") (by decide) ⟨_, eo, rfl⟩ (fun s2 => typeIs_int s2 1 t) noFill_tuple_mul F.fills_int_mul F.slot_int_rmul repeat_tuple F.slot_int_index.lookup
    (call_meets F.slot_int_rmul (typeIs_int s 1 t) F.entry_int_rmul (F.args_int_rmul_2 _ _) (int_rmul_tuple 1 t l ts.toArray nn dv so)
      ⟨eo, rfl, ⟨_, eo, rfl⟩, call_meets PySem.F.slot_tuple_mul ⟨_, eo, rfl⟩ PySem.F.entry_tuple_mul (PySem.F.args_tuple_mul_2 _ _) (tuple_once l ts.toArray nn dv so t) ⟨eo, .ref l, H, I, rfl, q⟩⟩)
/-- t * k, k at least 1 -/
def rRepP (K : PySem.W.Frag) : R2 := fun x y H Q => ∃ l k xs, x = .ref l ∧ y = .int k ∧ SqT K H l xs ∧ xs ≠ [] ∧ 1 ≤ k ∧ k ≤ 1000 ∧ xs.length ≤ 1000 ∧ (k = 1 → Q (.ref l) H) ∧ (2 ≤ k → ∀ p, H p = none → Q (.ref p) (upd H p (.tup (List.replicate k.toNat xs).flatten)))
theorem op_repP : OpR X (binaryOp .Mult) (rRepP X.K) := by
  intro pins s σ H x y v u Q I rx ry h
  obtain ⟨l, k, xs, rfl, rfl, hT, hne, h1, h2, hz, q1, q2⟩ := h
  by_cases e : k = 1
  · subst e
    exact op_rep1 pins s σ H _ _ v u Q I rx ry ⟨l, xs, rfl, rfl, hT, q1 rfl⟩
  · exact op_repT pins s σ H _ _ v u Q I rx ry ⟨l, k, xs, rfl, rfl, hT, hne, by omega, h2, hz, q2 (by omega)⟩
/-- t[::-1] -/
def tRevT (K : PySem.W.Frag) (te : TE) : TE := fun σ H Q => te σ H fun x H1 => ∃ a xs, x = .ref a ∧ SqT K H1 a xs ∧ ∀ p, H1 p = none → Q (.ref p) (upd H1 p (.tup xs.reverse))
theorem pe_revT {e : Expr} {te : TE} {k : Nat} {p1 p2 p3 pos : Pos} (he : PE X e te) : PE X (.Subscript e (.Slice none none (some (.UnaryOp .USub (.Constant (.int 1) k p1) p2)) p3) pos) (tRevT X.K te) := by
  refine ⟨fun pins s σ H Q I h => Subscript_ (thn (he.run pins s σ H _ I h) fun v s1 hv => ?_)⟩
  obtain ⟨x, H1, I1, r1, a, xs, rfl, hx, q⟩ := hv
  cases r1
  have step : PO X (some (.UnaryOp .USub (.Constant (.int 1) k p1) p2)) (tPart (tUn (rU fun i => .int (-i)) (tC (.int 1)))) := po_some (pe_un un_neg pe_int)
  refine wpAny_Slice (thn (po_none.run pins s1 σ H1 (fun o H2 => o = none ∧ H2 = H1) I1 ⟨rfl, rfl⟩) fun vl s2 hl => ?_)
  obtain ⟨l, H2, I2, pl, rfl, rfl⟩ := hl
  refine thn (po_none.run pins s2 σ _ (fun o H3 => o = none ∧ H3 = _) I2 ⟨rfl, rfl⟩) fun vu s3 hu => ?_
  obtain ⟨u, H3, I3, pu, rfl, rfl⟩ := hu
  refine thn (step.run pins s3 σ _ (fun o H4 => o = some (-1) ∧ H4 = _) I3 ⟨1, rfl, -1, rfl, rfl, rfl⟩) fun vs s4 hs => ?_
  obtain ⟨o, H4, I4, ps, rfl, rfl⟩ := hs
  have I5 : Inv X pins σ _ { s4 with heap := s4.heap.push { cls := .type "slice", data := .fields #[vl, vu, vs] } } := I4.kept (t' := s4.toks) fun b ob q => Heap.get?_push_of_some _ q
  obtain ⟨its, r, ht, hz⟩ := I5.tuple hx
  have hlen := r.length
  cases pl
  cases pu
  obtain ⟨tk, rfl⟩ : ∃ tk, vs = .int (-1) tk := by cases ps; exact ⟨_, rfl⟩
  refine PyProof.Rows.tail_any (ops := [.ref a, .ref s4.heap.objs.size]) ht.typeIs (PyProof.Rows.slot_tuple_getitem.lookup) ?_ (by with_unfolding_all rfl)
  refine getItem_rev ht (Heap.IsSliceOf.new _ .none .none (.int (-1) tk)) ?_ (by rw [List.size_toArray]; omega)
  refine ⟨.ref _, _, I5.laid (t' := s4.toks) (o := .tup xs.reverse) (fun b ob q => Heap.get?_push_of_some _ q) (Nat.le_refl _) ?_, rfl, q _ (I5.hok.fresh (Nat.le_refl _))⟩
  exact ⟨by rw [List.length_reverse]; exact hz, _, r.reverse, IsTup.new _ _⟩
end
end Rz
namespace Rp
open PySem PySem.Spec PyProof.Rows L2 Rz Rm
theorem at_last {xs : List V} {v : V} (h : xs[xs.length - 1]? = some v) : atI xs (-1) = some v := by
  have hl := (List.getElem?_eq_some_iff.mp h).1
  unfold atI ixN
  rw [if_neg (by omega), if_pos (by omega)]
  show xs[((-1 : Int) + xs.length).toNat]? = some v
  rw [show ((-1 : Int) + xs.length).toNat = xs.length - 1 by omega]
  exact h
/-! ### lowest terms -/
/-- the common divisors up to m -/
def cmdv (a b : Int) : Nat → List Int
  | 0 => []
  | m + 1 => if a % ((m : Int) + 1) = 0 ∧ b % ((m : Int) + 1) = 0 then cmdv a b m ++ [(m : Int) + 1] else cmdv a b m
theorem cmdv_len (a b : Int) : ∀ m : Nat, (cmdv a b m).length ≤ m
  | 0 => Nat.le_refl _
  | m + 1 => by
    have := cmdv_len a b m
    show (if _ then _ else _ : List Int).length ≤ m + 1
    split
    · rw [List.length_append]
      simp
      omega
    · omega
theorem cmdv_last {ds : List Int} {b : Int} (hb : 1 ≤ b) : ∀ m : Nat, gq ds b ≤ m → ∃ pre, cmdv ds.sum b m = pre ++ [gq ds b]
  | 0, h => by
    have := (gq_facts (ds := ds) hb).1
    omega
  | m + 1, h => by
    obtain ⟨g1, g2, h1, h2⟩ := gq_facts (ds := ds) hb
    rcases Int.lt_or_le (gq ds b) ((m : Int) + 1) with z | z
    · obtain ⟨pre, e⟩ := cmdv_last (ds := ds) hb m (by omega)
      refine ⟨pre, ?_⟩
      show (if _ then _ else _ : List Int) = _
      rw [if_neg, e]
      rintro ⟨d1, d2⟩
      have k1 : ((m : Int) + 1) ∣ ds.sum := Int.dvd_of_emod_eq_zero d1
      have k2 : ((m : Int) + 1) ∣ b := Int.dvd_of_emod_eq_zero d2
      have k3 : (m + 1) ∣ Nat.gcd ds.sum.natAbs b.natAbs := Nat.dvd_gcd (by have := Int.natAbs_dvd_natAbs.mpr k1; rwa [show ((m : Int) + 1).natAbs = m + 1 by omega] at this) (by have := Int.natAbs_dvd_natAbs.mpr k2; rwa [show ((m : Int) + 1).natAbs = m + 1 by omega] at this)
      have k4 : m + 1 ≤ Nat.gcd ds.sum.natAbs b.natAbs := Nat.le_of_dvd (by unfold gq at g1; omega) k3
      unfold gq at z
      omega
    · have e : gq ds b = (m : Int) + 1 := by omega
      refine ⟨cmdv ds.sum b m, ?_⟩
      show (if _ then _ else _ : List Int) = _
      rw [if_pos ⟨Int.emod_eq_zero_of_dvd (e ▸ h1), Int.emod_eq_zero_of_dvd (e ▸ h2)⟩, e]
theorem gq_sum {ds : List Int} {b : Int} (hb : 1 ≤ b) (hs : 1 ≤ ds.sum) : gq ds b ≤ ds.sum := by
  unfold gq
  have := Nat.le_of_dvd (by omega) (Nat.gcd_dvd_left ds.sum.natAbs b.natAbs)
  omega
section
variable {P : Program} {w : World} {K : PySem.W.Frag} {mg : Str → Option Value} {base : Heap}
def spTerms : Sp := fun vs H Q _ => ∃ (ds : List Int) (b : Int), vs = [.int ds.sum, .int b] ∧ 1 ≤ ds.sum ∧ ds.sum ≤ 240 ∧ 1 ≤ b ∧ b ≤ 1000 ∧ ∀ H' t, Same H H' → H' t = some (.tup [.int (ds.sum / gq ds b), .int (b / gq ds b)]) → Q (.ref t) H'
theorem ok_terms (T : Tx K mg) : FnOk P w K mg base CX0 1 T.a_lterms T.d_lterms P_lterms spTerms := by
  refine T.F_lterms.ok sc_lterms (fun vs H Q E h => ?_) (fun cdv A outer s H vs Q E hr h => ?_)
  · obtain ⟨ds, b, rfl, _⟩ := h
    rfl
  · obtain ⟨ds, b, rfl, s1, s2, b1, b2, q⟩ := h
    have nd := sc_lterms.nd
    refine ⟨_, pss_cons (ps_set (i := 2) nd rfl (.inl rfl) (pe_ix ix_list (pe_lc (own := [("_law_k", 3)]) rfl nd (pi_range2 (by rfl) T.z_range (pa_cons pe_int (pa_cons (pe_op op_add pe_int (pe_callB (call_min2 rfl) (by rfl) T.z_min (by decide +kernel) (pa_cons (pv 0) (pa_cons (pv 1) pa_nil)))) pa_nil)))
        (blkOk_by (N := N_lterms) (sc := defScope s_lterms) (by decide +kernel))
        (fun _ _ _ _ _ => pg_name (i := 3) nd rfl (.inl rfl))
        (fun _ _ _ _ _ => pts_one (PW.pt (pw_and (pt_cmpR op_eq (pe_op op_mod (pe_callTy call_int1 (by rfl) T.z_int (by decide +kernel) (pa_cons (pv 0) pa_nil)) (pv 3)) pe_int (nomark _))
          (pw_and1 (pt_cmpR op_eq (pe_op op_mod (pe_callTy call_int1 (by rfl) T.z_int (by decide +kernel) (pa_cons (pv 1) pa_nil)) (pv 3)) pe_int (nomark _))))))
        (fun _ _ _ _ _ => pv 3)) (pe_un un_neg pe_int) (fun _ _ => rfl)))
      (pss_one (ps_ret (pe_tup (pa_cons (pe_op op_fdiv (pv 0) (pv 2)) (pa_cons (pe_op op_fdiv (pv 1) (pv 2)) pa_nil))))), ?_⟩
    have g0 := gq_facts (ds := ds) b1
    have gs := gq_sum b1 s1
    obtain ⟨m, hm⟩ : ∃ m : Nat, (m : Int) = if b < ds.sum then b else ds.sum := ⟨(if b < ds.sum then b else ds.sum).toNat, by split <;> omega⟩
    have m1 : gq ds b ≤ m := by
      rw [hm]
      split <;> omega
    have m2 : (m : Int) ≤ 1000 := by
      rw [hm]
      split <;> omega
    refine ⟨_, rfl, _, rfl, _, _, rfl, _, _, rfl, rfl, ?_⟩
    rw [← hm]
    refine ⟨_, _, rfl, ⟨by omega, by omega, by omega, by omega⟩, ?_⟩
    rw [show (1 + (m : Int) - 1).toNat = m by omega]
    refine fun D hD => lc_range (lo := 1) (n := m) (fun i H' => H' D = some (.lst ((cmdv ds.sum b i).map V.int)) ∧ Same H H') ⟨upd_same, same_upd hD⟩ ?_ ?_
    · rintro i H1 hi ⟨h1, st1⟩
      have hl := cmdv_len ds.sum b i
      have ei : (1 : Int) + (i : Int) = (i : Int) + 1 := by omega
      refine ⟨rfl, ?_⟩
      rw [ei]
      refine ⟨_, rfl, .inl ⟨_, rfl, _, rfl, _, _, rfl, rfl, by show (0 : Int) < (i : Int) + 1; omega, rfl, _, rfl, ?_⟩⟩
      by_cases d1 : ds.sum % ((i : Int) + 1) = 0
      · rw [decide_eq_true (congrArg V.int d1)]
        refine iteT ?_
        refine ⟨_, rfl, .inl ⟨_, rfl, _, rfl, _, _, rfl, rfl, by show (0 : Int) < (i : Int) + 1; omega, rfl, _, rfl, ?_⟩⟩
        by_cases d2 : b % ((i : Int) + 1) = 0
        · rw [decide_eq_true (congrArg V.int d2)]
          show if true = true then _ else _
          rw [if_pos rfl]
          refine ⟨_, rfl, _, h1, by rw [List.length_map]; exact small1000 (by omega), ?_, ?_⟩
          · rw [upd_same, map_snoc, show cmdv ds.sum b (i + 1) = cmdv ds.sum b i ++ [(i : Int) + 1] from if_pos ⟨d1, d2⟩]
          · exact fun c x e => by
              rw [upd_ne (ne_of_none e hD)]
              exact st1 c x e
        · rw [decide_eq_false fun z => d2 (V.int.inj z)]
          show if false = true then _ else _
          rw [if_neg (by decide)]
          exact ⟨by rw [h1, show cmdv ds.sum b (i + 1) = cmdv ds.sum b i from if_neg fun z => d2 z.2], st1⟩
      · rw [decide_eq_false fun z => d1 (V.int.inj z)]
        refine iteF ?_
        exact ⟨by rw [h1, show cmdv ds.sum b (i + 1) = cmdv ds.sum b i from if_neg fun z => d1 z.1], st1⟩
    · rintro H1 ⟨h1, st1⟩
      obtain ⟨pre, e⟩ := cmdv_last (ds := ds) b1 m m1
      rw [e, List.map_append] at h1
      refine ⟨_, rfl, D, _, -1, .int (gq ds b), rfl, rfl, .of h1, at_last (by rw [List.length_append, List.getElem?_append_right (by simp)]; simp), ?_⟩
      refine ⟨_, rfl, _, rfl, _, _, rfl, rfl, ⟨by omega, by omega⟩, _, rfl, _, rfl, _, _, rfl, rfl, ⟨by omega, by omega⟩, (by show 2 ≤ sizeLine; decide), fun t ht => ?_⟩
      exact q _ t (st1.trans (same_upd ht)) upd_same
end
theorem sum_lt : ∀ (ds : List Int), (∀ y ∈ ds, 1 ≤ y ∧ y ≤ 30) → (ds.length : Int) ≤ ds.sum ∧ ds.sum ≤ 30 * ds.length
  | [], _ => ⟨Int.le_refl _, Int.le_refl _⟩
  | a :: r, h => by
    have h1 := sum_lt r fun y hy => h y (List.mem_cons_of_mem _ hy)
    have h2 := h a List.mem_cons_self
    rw [List.sum_cons, List.length_cons]
    omega
theorem Good.sum240 {ds ss : List Int} (G : Good ds ss) : 1 ≤ ds.sum ∧ ds.sum ≤ 240 := by
  have := sum_lt ds G.d1
  have := G.l2
  have := G.l8
  omega
section
variable {P : Program} {w : World} {K : PySem.W.Frag} {mg : Str → Option Value} {base : Heap}
def spLP : Sp := fun vs H Q _ => ∃ (td : Addr) (ds : List Int) (b : Int), vs = [.ref td, .int b] ∧ H td = some (.tup (ds.map V.int)) ∧ Dys ds ∧ 1 ≤ ds.sum ∧ ds.sum ≤ 240 ∧ 1 ≤ b ∧ b ≤ 1000 ∧
  ∀ H' t, Same H H' → H' t = some (.tup [.int (pX ds b), .int (pY ds b)]) → Q (.ref t) H'
theorem ok_lp (T : Tx K mg) : FnOk P w K mg base CX0 2 T.a_lpace T.d_lpace P_lpace spLP := by
  refine T.F_lpace.ok sc_lpace (fun vs H Q E h => ?_) (fun cdv A outer s H vs Q E hr h => ?_)
  · obtain ⟨td, ds, b, rfl, _⟩ := h
    rfl
  · obtain ⟨td, ds, b, rfl, hd, D, s1, s2, b1, b2, q⟩ := h
    refine ⟨_, pss_cons (ps_if (pt_cmpR op_ge (pe_op op_mul (pe_callB (cr_maxT rfl) (by rfl) T.z_max (by decide +kernel) (pa_cons (pv 0) pa_nil)) (pv 1)) (pe_callB (cr_sumT rfl) (by rfl) T.z_sum (by decide +kernel) (pa_cons (pv 0) pa_nil)) (nomark _))
        (pss_one (ps_ret (pe_tup (pa_cons (pe_callB (cr_maxT rfl) (by rfl) T.z_max (by decide +kernel) (pa_cons (pv 0) pa_nil)) (pa_cons pe_int pa_nil))))) pss_nil)
      (pss_one (ps_ret (pe_call (ok_terms T) hr (by rfl) T.g_lterms T.F_lterms.kp T.b_lterms .nil pass0 (pa_cons (pe_callB (cr_sumT rfl) (by rfl) T.z_sum (by decide +kernel) (pa_cons (pv 0) pa_nil)) (pa_cons (pv 1) pa_nil))))), ?_⟩
    refine ⟨.ref td, rfl, td, ds, rfl, .of hd, D.ne, fun M hM hMu => ⟨_, rfl, _, _, rfl, rfl, ?_⟩⟩
    have e := mx_eq D hM hMu
    refine ⟨.inr ⟨by omega, by omega⟩, .ref td, rfl, td, ds, rfl, .of hd, _, _, rfl, rfl, _, rfl, ?_⟩
    by_cases hc : ds.sum ≤ mx ds * b
    · rw [← e, decide_eq_true hc]
      refine iteT ?_
      refine ⟨.ref td, rfl, td, ds, rfl, .of hd, D.ne, fun M' hM' hMu' => ⟨(by show 2 ≤ sizeLine; decide), fun t ht => ?_⟩⟩
      refine q _ t (same_upd ht) ?_
      rw [upd_same, pX, pY, if_pos hc, if_pos hc, mx_eq D hM' hMu']
    · rw [← e, decide_eq_false hc]
      refine iteF ?_
      refine ⟨.ref td, rfl, td, ds, rfl, .of hd, .int b, rfl, ds, b, rfl, s1, s2, b1, b2, fun H' t s0 ht => q H' t s0 ?_⟩
      rw [ht, pX, pY, if_neg hc, if_neg hc]
end
end Rp
namespace Rp
open PySem PySem.Spec PyProof.Rows L2 Rz Rm
theorem set_map {ds : List Int} {r d : Int} (h0 : 0 ≤ r) (h1 : r < ds.length) : ((ds.map V.int).take r.toNat ++ [V.int d]) ++ (ds.map V.int).drop (r + 1).toNat = (ds.set r.toNat d).map V.int := by
  have e : (r + 1).toNat = r.toNat + 1 := by omega
  rw [List.map_set, List.set_eq_take_append_cons_drop, if_pos (by rw [List.length_map]; omega), e]
  simp
theorem Good.set {ds ss : List Int} (G : Good ds ss) (i : Nat) {d : Int} (h : 1 ≤ d ∧ d ≤ 30) : Good (ds.set i d) ss :=
  ⟨by rw [List.length_set]; exact G.l2, by rw [List.length_set]; exact G.l8, by rw [List.length_set]; exact G.ls, fun y hy => (mem_set hy).elim (G.d1 y) (fun e => by rw [e]; exact h), G.s0, G.b1, G.b12⟩
/-! ### numbers from 0 on -/
def iot (n : Nat) : List Int := (List.range n).map fun i => ((i : Nat) : Int)
theorem rgV_iot (n : Nat) : rgV 0 (n : Int) = (iot n).map V.int := by
  unfold rgV iot
  rw [List.map_map, show ((n : Int) - 0).toNat = n by omega]
  refine List.map_congr_left fun i _ => ?_
  show V.int (0 + (i : Int)) = V.int (i : Int)
  rw [Int.zero_add]
theorem iot_len (n : Nat) : (iot n).length = n := by unfold iot; rw [List.length_map, List.length_range]
section
variable {P : Program} {w : World} {K : PySem.W.Frag} {mg : Str → Option Value} {base : Heap}
/-! ### Ring.with_days -/
def spWith (C : Addr) : Sp := fun vs H Q _ => ∃ p dx td ts ds ss, ∃ r d : Int, vs = [.ref p, .int r, .int d] ∧ RingAt C H p dx td ts ds ss ∧ 0 ≤ r ∧ r < ds.length ∧ 1 ≤ d ∧ d ≤ 30 ∧
  ∀ H' p' dx' td' ts', Same H H' → RingAt C H' p' dx' td' ts' (ds.set r.toNat d) ss → Q (.ref p') H'
theorem ok_with (T : Tx K mg) : FnOk P w K mg base CX0 6 T.a_rwith_days T.d_rwith_days P_rwith_days (spWith T.C) := by
  refine T.F_rwith_days.ok sc_rwith_days (fun vs H Q E h => ?_) (fun cdv A outer s H vs Q E hr h => ?_)
  · obtain ⟨p, dx, td, ts, ds, ss, r, d, rfl, _⟩ := h
    rfl
  · obtain ⟨p, dx, td, ts, ds, ss, r, d, rfl, R, r0, r1, d1, d2, q⟩ := h
    have hr3 : Room 3 _ := hr.mono (by decide)
    have nd := sc_rwith_days.nd
    have l8 := R.ok.l8
    have ls := R.ok.ls
    refine ⟨_, pss_cons (ps_expr (pe_call (ok_reader T) hr3 (by rfl) T.g_check_reader T.F_check_reader.kp T.b_check_reader .nil pass0 (pa_cons (pv 0) (pa_cons (pv 1) pa_nil))))
      (pss_cons (ps_set (i := 3) nd rfl (.inl rfl) (pe_op op_catA (pe_op op_catA (pe_slice sl_tupA (pe_fld (pv 0) rfl) po_none (po_some (pv 1))) (pe_tup (pa_cons (pv 2) pa_nil))) (pe_slice sl_tupA (pe_fld (pv 0) rfl) (po_some (pe_op op_add (pv 1) pe_int)) po_none)))
      (pss_one (ps_ret (pe_make T.mkR (ok_init T) hr (by rfl) T.gC T.b_rinit .nil pass0 (pa_cons (pv 3) (pa_cons (pe_fld (pv 0) rfl) pa_nil)))))), ?_⟩
    refine ⟨_, rfl, _, rfl, p, dx, td, ts, ds, ss, r, rfl, R, r0, r1, ?_⟩
    refine ⟨_, rfl, p, _, dx, _, _, rfl, R.ob, T.cl, T.nD, flds_days _ _, _, rfl, _, rfl, ?_⟩
    refine sl_to R.td r0 (by rw [List.length_map]; omega) fun H1 p1 s1 h1 => ?_
    refine ⟨_, rfl, (by show 1 ≤ sizeLine; decide), fun p2 hp2 => ?_⟩
    have s2 := same_upd (o := .tup [.int d]) hp2
    refine cat_any (s2 _ _ h1) upd_same (by rw [List.length_take, List.length_map]; have := small1000 (n := ds.length) (by omega); simp only [List.length_cons, List.length_nil]; have := small1000 (n := ds.length + 1) (by omega); omega) fun H3 p3 s3 h3 => ?_
    have R3 := ((R.same s1).same s2).same s3
    refine ⟨_, rfl, p, _, dx, _, _, rfl, R3.ob, T.cl, T.nD, flds_days _ _, _, rfl, _, _, rfl, rfl, _, rfl, ?_⟩
    refine noPart ?_
    refine sl_from R3.td (k := r + 1) (by omega) (by rw [List.length_map]; omega) fun H4 p4 s4 h4 => ?_
    refine cat_any (s4 _ _ h3) h4 (by rw [List.length_append, List.length_drop, List.length_take, List.length_map]; simp only [List.length_cons, List.length_nil]; have := small1000 (n := ds.length + ds.length + 1) (by omega); omega) fun H5 td' s5 h5 => ?_
    rw [set_map r0 r1] at h5
    have R5 := (R3.same s4).same s5
    refine ⟨_, rfl, _, rfl, p, _, dx, _, _, rfl, R5.ob, T.cl, T.nS, flds_starts _ _, fun x y nx ny ne => ?_⟩
    have s0 : Same H5 (upd (upd H5 y (.own x)) x (.ins T.C y [])) := fun b o e => by
      rw [upd_ne (ne_of_none e nx), upd_ne (ne_of_none e ny)]
      exact e
    refine ⟨x, y, td', ts, ds.set r.toNat d, ss, rfl, upd_same, s0 _ _ h5, s0 _ _ R5.ts, R.ok.set _ ⟨d1, d2⟩, fun H7 R7 k7 => ⟨rfl, ?_⟩⟩
    exact q H7 x y td' ts (((((s1.trans s2).trans s3).trans s4).trans s5).trans (Same.made nx ny k7)) R7
end
end Rp
/-! Ring's own: what it makes and raises; ring[k]; >> that raises; both answers of ==; single. -/
namespace Rp
open PySem PySem.Spec PyProof.Rows L2 Rz Rm Rt Rl LamX
/-- a promise without errors and one with them, of the same def -/
theorem fn_both {P : Program} {w : World} {K : PySem.W.Frag} {mg : Str → Option Value} {base : Heap} {CX : CXT} {k : Nat} {f : Addr} {fd : FuncData} {ps : List Str} {sp1 sp2 : Sp} (F1 : FnOk P w K mg base CX0 k f fd ps sp1) (F2 : FnOk P w K mg base CX k f fd ps sp2) :
    FnOk P w K mg base CX k f fd ps (fun vs H Q E => sp1 vs H Q E ∨ sp2 vs H Q E) := by
  refine ⟨fun vs H Q E h => h.elim (F1.len vs H Q E) (F2.len vs H Q E), fun A outer s H args us vs Q E hr e0 b r h => ?_⟩
  rcases h with h | h
  · refine codeAny_mono (F1.run A outer s H args us vs Q E hr e0 b r h) fun r s' z => ?_
    cases r with
    | ok fl => cases fl <;> exact z
    | error e => exact False.elim z
  · exact F2.run A outer s H args us vs Q E hr e0 b r h
theorem atI_int {l : List Int} {r : Nat} (h : r < l.length) : atI (l.map V.int) ((r : Nat) : Int) = some (.int (at' l r)) := by
  unfold atI ixN
  rw [if_pos (by omega), if_pos (by rw [List.length_map]; omega), at_nat (List.getElem?_eq_getElem h)]
  show (l.map V.int)[((r : Nat) : Int).toNat]? = _
  rw [show ((r : Nat) : Int).toNat = r by omega, List.getElem?_map, List.getElem?_eq_getElem h]
  rfl
section
variable {P : Program} {w : World} {K : PySem.W.Frag} {mg : Str → Option Value} {base : Heap}
def spInA (C C0 : Addr) : Sp := fun vs H Q E => spInit C vs H Q E ∨ spInX C0 vs H Q E
theorem ok_inA {S : TdS K mg} (T : Tx K mg) (B : TdF S) : FnOk P w K mg base (L2.CX P w) 4 T.a_rinit T.d_rinit P_rinit (spInA T.C S.c0) := fn_both (ok_init T) (ok_inX T B)
/-! ### with_days -/
def spWithX (K : PySem.W.Frag) (C CU C0 : Addr) : Sp := fun vs H Q E => ∃ (p dx td ts : Addr) (ds ss : List Int) (v y : V), vs = [.ref p, v, y] ∧ RingAt C H p dx td ts ds ss ∧
  ((LieV K H v 0 ((ds.length : Int) - 1) false ∧ E (.ref CU) none H) ∨ ∃ r : Nat, v = .int r ∧ r < ds.length ∧
    ((∃ d : Int, y = .int d ∧ 1 ≤ d ∧ d ≤ 30 ∧ ∀ H' p' dx' td' ts', Same H H' → RingAt C H' p' dx' td' ts' (ds.set r d) ss → Q (.ref p') H') ∨
     (Iv H y 1 30 false ∧ ∀ (dd : Addr) (H' : Hp), Same H H' → H' dd = some (.xd (irF "days" r)) → E (.ref C0) (some dd) H')))
theorem ok_withX {S : TdS K mg} {CU : Addr} (T : Tx K mg) (B : TdF S) (E2 : TdE S "UnknownReader" CU 2) : FnOk P w K mg base (L2.CX P w) 6 T.a_rwith_days T.d_rwith_days P_rwith_days (spWithX K T.C CU S.c0) := by
  refine T.F_rwith_days.okX sc_rwith_days (fun vs H Q E h => ?_) (fun cdv A outer s H vs Q E hr h => ?_)
  · obtain ⟨p, dx, td, ts, ds, ss, v, y, rfl, _⟩ := h
    rfl
  · obtain ⟨p, dx, td, ts, ds, ss, v, y, rfl, R, hh⟩ := h
    have nd := sc_rwith_days.nd
    have l2 := R.ok.l2
    have l8 := R.ok.l8
    have ls := R.ok.ls
    refine ⟨_, pss_cons (ps_expr (pe_callS (ok_rdX T E2) (hr.mono (by decide)) (by rfl) T.g_check_reader T.F_check_reader.kp T.b_check_reader (fun σ => passAt (takes_of rfl rfl rfl rfl) σ) (pa_cons (pv 0) (pa_cons (pv 1) pa_nil))))
      (pss_cons (ps_set (i := 3) nd rfl (.inl rfl) (pe_op op_catA (pe_op op_catA (pe_slice sl_tupA (pe_fld (pv 0) rfl) po_none (po_some (pv 1))) (pe_tup (pa_cons (pv 2) pa_nil))) (pe_slice sl_tupA (pe_fld (pv 0) rfl) (po_some (pe_op op_add (pv 1) pe_int)) po_none)))
      (pss_one (ps_ret (pe_make T.mkR (ok_inA T B) hr (by rfl) T.gC T.b_rinit .nil (E := E) (passes_call (takes_of rfl rfl rfl rfl) (fun _ _ _ _ z => z)) (pa_cons (pv 3) (pa_cons (pe_fld (pv 0) rfl) pa_nil)))))), ?_⟩
    rcases hh with ⟨hv, q⟩ | ⟨r, rfl, hr1, hy⟩
    · exact ⟨_, rfl, v, rfl, p, dx, td, ts, ds, ss, v, false, rfl, R, hv, fun z => Bool.noConfusion z, fun _ => q⟩
    · refine ⟨_, rfl, _, rfl, p, dx, td, ts, ds, ss, _, true, rfl, R, lie_int (by omega) (by omega), fun _ => ?_, fun z => Bool.noConfusion z⟩
      have r0 : (0 : Int) ≤ ((r : Nat) : Int) := by omega
      refine ⟨_, rfl, p, _, dx, _, _, rfl, R.ob, T.cl, T.nD, flds_days _ _, _, rfl, _, rfl, ?_⟩
      refine sl_to R.td r0 (by rw [List.length_map]; omega) fun H1 p1 s1 h1 => ?_
      refine ⟨y, rfl, (by show 1 ≤ sizeLine; decide), fun p2 hp2 => ?_⟩
      have s2 := same_upd (o := .tup [y]) hp2
      refine cat_any (s2 _ _ h1) upd_same (by rw [List.length_take, List.length_map]; have := small1000 (n := ds.length) (by omega); simp only [List.length_cons, List.length_nil]; have := small1000 (n := ds.length + 1) (by omega); omega) fun H3 p3 s3 h3 => ?_
      have R3 := ((R.same s1).same s2).same s3
      refine ⟨_, rfl, p, _, dx, _, _, rfl, R3.ob, T.cl, T.nD, flds_days _ _, _, rfl, _, _, rfl, rfl, _, rfl, ?_⟩
      refine noPart ?_
      refine sl_from R3.td (k := (r : Int) + 1) (by omega) (by rw [List.length_map]; omega) fun H4 p4 s4 h4 => ?_
      refine cat_any (s4 _ _ h3) h4 (by rw [List.length_append, List.length_drop, List.length_take, List.length_map]; simp only [List.length_cons, List.length_nil]; have := small1000 (n := ds.length + ds.length + 1) (by omega); omega) fun H5 td' s5 h5 => ?_
      have R5 := (R3.same s4).same s5
      have S5 : Same H H5 := (((s1.trans s2).trans s3).trans s4).trans s5
      refine ⟨_, rfl, _, rfl, p, _, dx, _, _, rfl, R5.ob, T.cl, T.nS, flds_starts _ _, fun x z nx nz ne => ?_⟩
      have s0 : Same H5 (upd (upd H5 z (.own x)) x (.ins T.C z [])) := fun b o e => by
        rw [upd_ne (ne_of_none e nx), upd_ne (ne_of_none e nz)]
        exact e
      rcases hy with ⟨d, rfl, d1, d2, q⟩ | ⟨hiv, q⟩
      · rw [show ([V.int d] : List V) = [V.int d] from rfl] at h5
        have h6 : H5 td' = some (.tup ((ds.set r d).map V.int)) := by
          rw [h5]
          have := set_map (ds := ds) (r := (r : Int)) (d := d) r0 (by omega)
          rw [this]
          rfl
        exact .inl ⟨x, z, td', ts, ds.set r d, ss, rfl, upd_same, s0 _ _ h6, s0 _ _ R5.ts, R.ok.set _ ⟨d1, d2⟩, fun H7 R7 k7 => ⟨rfl, q H7 x z td' ts (S5.trans (Same.made nx nz k7)) R7⟩⟩
      · refine .inr ⟨x, .ref td', .ref ts, "days", r, rfl, .inl ⟨rfl, .inr ⟨td', _, r, rfl, s0 _ _ h5, ?_, rfl, .inl ⟨?_, .inr ⟨y, ?_, ((hiv.same S5).same s0)⟩, fun j hj => ⟨by omega, .int (at' ds j), ?_, ?_⟩⟩⟩⟩, fun dd H7 s7 hd => q dd H7 ((S5.trans s0).trans s7) hd⟩
        · simp only [List.length_append, List.length_drop, List.length_take, List.length_map, List.length_cons, List.length_nil]
          omega
        · simp only [List.length_append, List.length_drop, List.length_take, List.length_map, List.length_cons, List.length_nil]
          omega
        · rw [List.append_assoc, List.getElem?_append_right (by rw [List.length_take, List.length_map]; omega), List.length_take, List.length_map, show r - min (Int.toNat (r : Int)) ds.length = 0 by omega]
          rfl
        · rw [List.append_assoc, List.getElem?_append_left (by rw [List.length_take, List.length_map]; omega), List.getElem?_take, if_pos (by omega), List.getElem?_map, List.getElem?_eq_getElem (show j < ds.length by omega)]
          have := at_nat (l := ds) (j := j) (List.getElem?_eq_getElem (by omega))
          rw [this]
          rfl
        · have e := at_nat (l := ds) (j := j) (List.getElem?_eq_getElem (by omega))
          have hm := R.ok.d1 _ (List.getElem_mem (show j < ds.length by omega))
          rw [← e] at hm
          exact .inl ⟨_, rfl, by rw [decide_eq_true hm.1, decide_eq_true hm.2]; rfl⟩
/-! ### ring[k] -/
def spGi (K : PySem.W.Frag) (C CU : Addr) : Sp := fun vs H Q E => ∃ (p dx td ts : Addr) (ds ss : List Int) (v : V), vs = [.ref p, v] ∧ RingAt C H p dx td ts ds ss ∧
  ((LieV K H v 0 ((ds.length : Int) - 1) false ∧ E (.ref CU) none H) ∨ ∃ r : Nat, v = .int r ∧ r < ds.length ∧ ∀ H' t, Same H H' → H' t = some (.tup [.int (at' ds r), .int (at' ss r)]) → Q (.ref t) H')
theorem ok_gi {S : TdS K mg} {CU : Addr} (T : Tx K mg) (E2 : TdE S "UnknownReader" CU 2) : FnOk P w K mg base (L2.CX P w) 4 T.a_rgetitem T.d_rgetitem P_rgetitem (spGi K T.C CU) := by
  refine T.F_rgetitem.okX sc_rgetitem (fun vs H Q E h => ?_) (fun cdv A outer s H vs Q E hr h => ?_)
  · obtain ⟨p, dx, td, ts, ds, ss, v, rfl, _⟩ := h
    rfl
  · obtain ⟨p, dx, td, ts, ds, ss, v, rfl, R, hh⟩ := h
    have l2 := R.ok.l2
    have l8 := R.ok.l8
    have ls := R.ok.ls
    refine ⟨_, pss_cons (ps_expr (pe_callS (ok_rdX T E2) hr (by rfl) T.g_check_reader T.F_check_reader.kp T.b_check_reader (fun σ => passAt (takes_of rfl rfl rfl rfl) σ) (pa_cons (pv 0) (pa_cons (pv 1) pa_nil))))
      (pss_one (ps_ret (pe_tup (pa_cons (pe_ix ix_tup (pe_fld (pv 0) rfl) (pv 1) (fun _ _ => rfl)) (pa_cons (pe_ix ix_tup (pe_fld (pv 0) rfl) (pv 1) (fun _ _ => rfl)) pa_nil))))), ?_⟩
    rcases hh with ⟨hv, q⟩ | ⟨r, rfl, hr1, q⟩
    · exact ⟨_, rfl, v, rfl, p, dx, td, ts, ds, ss, v, false, rfl, R, hv, fun z => Bool.noConfusion z, fun _ => q⟩
    · refine ⟨_, rfl, _, rfl, p, dx, td, ts, ds, ss, _, true, rfl, R, lie_int (by omega) (by omega), fun _ => ?_, fun z => Bool.noConfusion z⟩
      refine ⟨_, rfl, p, _, dx, _, _, rfl, R.ob, T.cl, T.nD, flds_days _ _, _, rfl, td, _, (r : Int), .int (at' ds r), rfl, rfl, .of R.td, atI_int hr1, ?_⟩
      refine ⟨_, rfl, p, _, dx, _, _, rfl, R.ob, T.cl, T.nS, flds_starts _ _, _, rfl, ts, _, (r : Int), .int (at' ss r), rfl, rfl, .of R.ts, atI_int (by omega), ?_⟩
      exact ⟨(by show 2 ≤ sizeLine; decide), fun t ht => q _ t (same_upd ht) upd_same⟩
/-! ### >> that raises -/
def spShX (K : PySem.W.Frag) (C CN : Addr) : Sp := fun vs H Q E => ∃ (p dx td ts : Addr) (ds ss : List Int) (v : V), vs = [.ref p, v] ∧ RingAt C H p dx td ts ds ss ∧ LieV K H v 0 ((ds.length : Int) - 1) false ∧ E (.ref CN) none H
theorem ok_shX {S : TdS K mg} {CN : Addr} (T : Tx K mg) (E4 : TdE S "InvalidNumber" CN 4) : FnOk P w K mg base (L2.CX P w) 4 T.a_rrshift T.d_rrshift P_rrshift (spShX K T.C CN) := by
  refine T.F_rrshift.okX sc_rrshift (fun vs H Q E h => ?_) (fun cdv A outer s H vs Q E hr h => ?_)
  · obtain ⟨p, dx, td, ts, ds, ss, v, rfl, _⟩ := h
    rfl
  · obtain ⟨p, dx, td, ts, ds, ss, v, rfl, R, hv, q⟩ := h
    refine ⟨_, pss_cons (ps_expr (pe_callS (ok_chkX T E4) hr (by rfl) T.g_check_number T.F_check_number.kp T.b_check_number (fun σ => passAt (takes_of rfl rfl rfl rfl) σ) (pa_cons (pv 1) (pa_cons pe_int (pa_cons (pe_op op_sub (pe_callB call_len_seq (by rfl) T.z_len PySem.boot_len (pa_cons (pe_fld (pv 0) rfl) pa_nil)) pe_int) pa_nil)))))
      pss_never, ?_⟩
    refine ⟨v, rfl, _, rfl, p, _, dx, _, _, rfl, R.ob, T.cl, T.nD, flds_days _ _, td, _, rfl, .inr (.of R.td), _, _, rfl, rfl, ?_⟩
    rw [List.length_map]
    exact ⟨v, 0, (ds.length : Int) - 1, false, rfl, hv, fun z => Bool.noConfusion z, fun _ => q⟩
/-! ### == -/
def spEqB (C : Addr) : Sp := fun vs H Q _ => ∃ (a dx td ts : Addr) (ds ss : List Int) (y : V), vs = [.ref a, y] ∧ RingAt C H a dx td ts ds ss ∧
  ((∃ (b dy te tt : Addr) (es us : List Int), y = .ref b ∧ RingAt C H b dy te tt es us ∧ Q (.bl (decide (ds = es) && decide (ss = us))) H) ∨ ∃ (b : Addr) (xs : List V), y = .ref b ∧ H b = some (.tup xs) ∧ Q (.bl false) H)
theorem ok_eqB (T : Tx K mg) : FnOk P w K mg base CX0 2 T.a_req T.d_req P_req (spEqB T.C) := by
  refine T.F_req.ok sc_req (fun vs H Q E h => ?_) (fun cdv A outer s H vs Q E hr h => ?_)
  · obtain ⟨a, dx, td, ts, ds, ss, y, rfl, _⟩ := h
    rfl
  · obtain ⟨a, dx, td, ts, ds, ss, y, rfl, R, hh⟩ := h
    refine ⟨_, pss_one (ps_ret (pe_and (pe_callB call_isi (by rfl) T.z_isinstance (by decide +kernel) (pa_cons (pv 1) (pa_cons (pe_glob (v := .ref T.C) (by rfl) T.gC rfl) pa_nil)))
      (pe_and (pe_cmpR (op_eqD hr.units) (pe_fld (pv 0) rfl) (pe_fld (pv 1) rfl) (nomark _)) (pe_one (pe_cmpR (op_eqD hr.units) (pe_fld (pv 0) rfl) (pe_fld (pv 1) rfl) (nomark _)))))), ?_⟩
    rcases hh with ⟨b, dy, te, tt, es, us, rfl, Rb, q⟩ | ⟨b, xs, rfl, hb, q⟩
    · refine ⟨.ref b, rfl, .ref b, .ref T.C, .ref T.C, .ref T.C, true, rfl, .own _, .base (.ins Rb.ob T.cl T.clsC T.clsG T.clsT T.clsM), if_pos (beq_self_eq_true _), true, rfl, iteT ?_⟩
      refine ⟨_, rfl, a, _, dx, _, _, rfl, R.ob, T.cl, T.nD, flds_days _ _, _, rfl, b, _, dy, _, _, rfl, Rb.ob, T.cl, T.nD, flds_days _ _, ?_⟩
      refine tup_eq R.td Rb.td ⟨_, rfl, ?_⟩
      by_cases h1 : ds = es
      · rw [decide_eq_true h1] at q ⊢
        refine iteT ⟨_, rfl, a, _, dx, _, _, rfl, R.ob, T.cl, T.nS, flds_starts _ _, _, rfl, b, _, dy, _, _, rfl, Rb.ob, T.cl, T.nS, flds_starts _ _, ?_⟩
        exact tup_eq R.ts Rb.ts q
      · rw [decide_eq_false h1] at q ⊢
        exact iteF q
    · exact ⟨.ref b, rfl, .ref b, .ref T.C, .type "tuple", .ref T.C, false, rfl, .own _, .base (.tup hb), T.kT, false, rfl, iteF q⟩
/-! ### single -/
def spSing (C : Addr) : Sp := fun vs H Q _ => ∃ (td : Addr) (ds : List Int), vs = [.ref C, .ref td] ∧ H td = some (.tup (ds.map V.int)) ∧ Good ds (List.replicate ds.length 1) ∧
  ∀ H' p' dx' td' ts', Same H H' → RingAt C H' p' dx' td' ts' ds (List.replicate ds.length 1) → Q (.ref p') H'
theorem rep_one : ∀ n : Nat, (List.replicate n [V.int 1]).flatten = (List.replicate n (1 : Int)).map V.int
  | 0 => rfl
  | n + 1 => by rw [List.replicate_succ, List.flatten_cons, rep_one n]; rfl
def spSingR (C : Addr) : Sp := fun vs H Q E => ∃ ws rest, vs = ws ++ rest ∧ ws.length = (["cls"] : List Str).length ∧ rest.length ≤ sizeLine ∧ ∀ p, H p = Option.none → spSing C (ws ++ [V.ref p]) (upd H p (.tup rest)) Q E
theorem ok_single (T : Tx K mg) : FnR P w K mg base CX0 6 T.a_rsingle (spSingR T.C) := by
  obtain ⟨oc, od, kV, doc, pm, an, cdv, ct, osl, e, lk, hcd⟩ := T.F_rsingle.ex
  rw [e] at lk
  refine StX.fn_star (ps := ["cls"]) (pv := "days") lk hcd sc_rsingle ?_ ?_ ?_
  · intro outer H s H2 s2 E e s' _ _ _ h
    exact h
  · exact StX.bind_star1 (B := fun us => bindArgs (PySem.W.fnOf "single" "Ring.single" (defArgs s_rsingle) (defBody s_rsingle) (defScope s_rsingle) .none kV doc pm an cdv ct) ⟨us, []⟩) (fun a => rfl) (fun a r rs => rfl)
  · intro A outer s H vs Q E hr h
    obtain ⟨td, ds, rfl, hd, G, q⟩ := h
    have l2 := G.l2
    have l8 := G.l8
    refine ⟨_, pss_one (ps_ret (pe_makeL (i := 0) (C := T.C) T.mkR ((ok_init T).raw T.b_rinit .nil) hr rfl (.inl rfl) pass0 (pa_cons (pv 1) (pa_cons (pe_op op_repP (pe_tup (pa_cons pe_int pa_nil)) (pe_callB call_len_seq (by rfl) T.z_len PySem.boot_len (pa_cons (pv 1) pa_nil))) pa_nil)))), ?_⟩
    refine ⟨rfl, _, rfl, (by show 1 ≤ sizeLine; decide), fun p1 h1 => ?_⟩
    have s1 := same_upd (o := .tup [.int 1]) h1
    refine ⟨_, rfl, td, _, rfl, .inr (.of (s1 _ _ hd)), ?_⟩
    rw [List.length_map]
    refine ⟨p1, (ds.length : Int), [.int 1], rfl, rfl, .of upd_same, List.cons_ne_nil _ _, by omega, by omega, by decide, fun z => by omega, fun _ p2 h2 => ?_⟩
    have s2 := same_upd (o := .tup (List.replicate ((ds.length : Int)).toNat [V.int 1]).flatten) h2
    intro x z nx nz ne
    have hts : (upd (upd H p1 (.tup [.int 1])) p2 (.tup (List.replicate ((ds.length : Int)).toNat [V.int 1]).flatten)) p2 = some (.tup ((List.replicate ds.length (1 : Int)).map V.int)) := by
      rw [upd_same, rep_one]
      rfl
    generalize (upd (upd H p1 (.tup [.int 1])) p2 (.tup (List.replicate ((ds.length : Int)).toNat [V.int 1]).flatten)) = H2 at s2 hts nx nz ⊢
    have s0 : Same H2 (upd (upd H2 z (.own x)) x (.ins T.C z [])) := fun b o e => by
      rw [upd_ne (ne_of_none e nx), upd_ne (ne_of_none e nz)]
      exact e
    refine ⟨x, z, td, p2, ds, List.replicate ds.length 1, rfl, upd_same, s0 _ _ (s2 _ _ (s1 _ _ hd)), s0 _ _ hts, G, fun H7 R7 k7 => ⟨rfl, ?_⟩⟩
    exact q H7 x z td p2 ((s1.trans s2).trans (Same.made nx nz k7)) R7
end
end Rp
/-! told: InvalidRing with its part and its index. -/
namespace Rp
open PySem PySem.Spec PyProof.Rows L2 Rz Rm Rt Rl LamX
section
variable {X : Cx} {g f : Addr} {cdg : Value} {s : Shared} {H : Hp} {K : PySem.W.Frag} {mg : Str → Option Value}
/-- what is told of InvalidRing(part, index) -/
def IcTold (Q : VK) (v x : V) (H1 : Hp) : Prop := ∀ (p l : Addr) (H' : Hp), (∀ b o, H1 b = some o → H' b = some o) → H' l = some (.lst [v, x]) → H' p = some (.tup [.str "error", .str "InvalidRing", .ref l]) → Q (.ref p) H'
theorem told_suite1 {S : TdS X.K X.mg} (B : TdF S) {a dd : Addr} {oe : Obj} {pn : List (Addr × Obj)} (hz : Zc (.ref S.c0) (some dd) oe) (hf : ∃ vs, oe.data = .fields vs)
    {DD : Ends} {wv y2 y3 : Option V} {H1 : Hp} {Q : VK} {v x : V} (hrt : DD.rt = Q) (hd : H1 dd = some (.xd [("index", x), ("part", v)])) (q : IcTold Q v x H1) :
    ∃ t, PSs ((toldCx X g cdg s H).suite a ((a, oe) :: pn)) toldSuite t ∧ t DD [wv, some (.ref a), y2, y3] H1 := by
  have nd := sc_ltold.nd
  subst hrt
  refine ⟨_, pss_cons (ps_set (i := 2) nd rfl (.inl rfl) (pe_lst (pa_cons (pe_callB (call_isF B.ex hz hf) (by rfl) S.zI (by decide +kernel) (pa_cons (pv 1) (pa_cons (pe_glob (v := .ref S.c0) (by rfl) S.g0 rfl) pa_nil))) (pa_cons (pe_callB (call_isF B.ex hz hf) (by rfl) S.zI (by decide +kernel) (pa_cons (pv 1) (pa_cons (pe_glob (v := .ref S.c1) (by rfl) S.g1 rfl) pa_nil))) (pa_cons (pe_callB (call_isF B.ex hz hf) (by rfl) S.zI (by decide +kernel) (pa_cons (pv 1) (pa_cons (pe_glob (v := .ref S.c2) (by rfl) S.g2 rfl) pa_nil))) pa_nil)))))
    (pss_cons (ps_set (i := 2) nd rfl (.inl rfl) (pe_op op_cat (pv 2) (pe_lst (pa_cons (pe_callB (call_isF B.ex hz hf) (by rfl) S.zI (by decide +kernel) (pa_cons (pv 1) (pa_cons (pe_glob (v := .ref S.c3) (by rfl) S.g3 rfl) pa_nil))) (pa_cons (pe_callB (call_isF B.ex hz hf) (by rfl) S.zI (by decide +kernel) (pa_cons (pv 1) (pa_cons (pe_glob (v := .ref S.c4) (by rfl) S.g4 rfl) pa_nil))) (pa_cons (pe_callB (call_isF B.ex hz hf) (by rfl) S.zI (by decide +kernel) (pa_cons (pv 1) (pa_cons (pe_glob (v := .ref S.c5) (by rfl) S.g5 rfl) pa_nil))) pa_nil))))))
    (pss_cons (ps_expr (pe_bm PySem.F.plainAttrs_list PySem.F.slot_list_append PySem.F.type_list_append mt_append (pv 2) (pa_cons (pe_callB (call_isF B.ex hz hf) (by rfl) S.zI (by decide +kernel) (pa_cons (pv 1) (pa_cons (pe_glob (v := .ref S.c6) (by rfl) S.g6 rfl) pa_nil))) pa_nil)))
    (pss_cons (ps_set (i := 3) nd rfl (.inl rfl) (pe_ifExp (PW.pt (pw_and (pt_cmpR op_eq (pe_bm PySem.F.plainAttrs_list PySem.F.slot_list_count PySem.F.type_list_count mt_countV (pv 2) (pa_cons pe_bl pa_nil)) pe_int (nomark _))
        (pw_and1 (pt_val (pe_callB (call_isF B.ex hz hf) (by rfl) S.zI (by decide +kernel) (pa_cons (pv 1) (pa_cons (pe_bltn (v := .ty "ValueError") (u := .type "ValueError") (by rfl) S.zV (by decide +kernel) rfl) pa_nil)))))))
      (pe_bm PySem.F.plainAttrs_list PySem.F.slot_list_index PySem.F.type_list_index mt_index (pv 2) (pa_cons pe_bl pa_nil)) pe_int))
    (pss_cons (ps_if (pt_cmpR op_eq (pv 3) pe_int (nomark _)) (pss_one (ps_ret (pe_tup (pa_cons pe_str (pa_cons pe_str (pa_cons (pe_lst (pa_cons (pe_xf B.xf B.np hz hf (pv 1)) (pa_cons (pe_xf B.xf B.nx hz hf (pv 1)) pa_nil))) pa_nil)))))) pss_nil)
    pss_never)))), ?_⟩
  refine ⟨.ref a, rfl, ⟨_, hd⟩, .ref S.c0, .ref S.c0, _, rfl, fun u h => h, B.k0, .ref a, rfl, ⟨_, hd⟩, .ref S.c1, .ref S.c1, _, rfl, fun u h => h, B.k1, .ref a, rfl, ⟨_, hd⟩, .ref S.c2, .ref S.c2, _, rfl, fun u h => h, B.k2, (by show 3 ≤ sizeLine; decide), fun p1 hp1 => ?_⟩
  have s1 : ∀ b o, H1 b = some o → (upd H1 p1 (.lst [.bl true, .bl false, .bl false])) b = some o := fun b o e => (upd_ne (ne_of_none e hp1)).trans e
  have g1 : (upd H1 p1 (.lst [.bl true, .bl false, .bl false])) p1 = some (.lst [.bl true, .bl false, .bl false]) := upd_same
  show tSeq _ _ _ [wv, some (.ref a), some (.ref p1), y3] (upd H1 p1 (.lst [.bl true, .bl false, .bl false]))
  generalize (upd H1 p1 (.lst [.bl true, .bl false, .bl false])) = H2 at s1 g1 ⊢
  refine ⟨.ref p1, rfl, .ref a, rfl, ⟨_, (s1 _ _ hd)⟩, .ref S.c3, .ref S.c3, _, rfl, fun u h => h, B.k3, .ref a, rfl, ⟨_, (s1 _ _ hd)⟩, .ref S.c4, .ref S.c4, _, rfl, fun u h => h, B.k4, .ref a, rfl, ⟨_, (s1 _ _ hd)⟩, .ref S.c5, .ref S.c5, _, rfl, fun u h => h, B.k5, (by show 3 ≤ sizeLine; decide), fun p2 hp2 => ?_⟩
  have s2 : ∀ b o, H2 b = some o → (upd H2 p2 (.lst [.bl false, .bl false, .bl false])) b = some o := fun b o e => (upd_ne (ne_of_none e hp2)).trans e
  have g2 : (upd H2 p2 (.lst [.bl false, .bl false, .bl false])) p2 = some (.lst [.bl false, .bl false, .bl false]) := upd_same
  generalize (upd H2 p2 (.lst [.bl false, .bl false, .bl false])) = H3 at s2 g2 ⊢
  refine ⟨p1, p2, _, _, rfl, rfl, s2 _ _ g1, g2, (by show 3 + 3 ≤ sizeLine; decide), fun p3 hp3 => ?_⟩
  have s3 : ∀ b o, H3 b = some o → (upd H3 p3 (.lst ([.bl true, .bl false, .bl false] ++ [.bl false, .bl false, .bl false]))) b = some o := fun b o e => (upd_ne (ne_of_none e hp3)).trans e
  have g3 : (upd H3 p3 (.lst ([.bl true, .bl false, .bl false] ++ [.bl false, .bl false, .bl false]))) p3 = some (.lst [.bl true, .bl false, .bl false, .bl false, .bl false, .bl false]) := upd_same
  have n3 : H1 p3 = none := by
    cases e : H1 p3 with
    | none => rfl
    | some o => have z := s2 _ _ (s1 _ _ e); rw [hp3] at z; cases z
  show tSeq _ _ _ [wv, some (.ref a), some (.ref p3), y3] (upd H3 p3 (.lst ([.bl true, .bl false, .bl false] ++ [.bl false, .bl false, .bl false])))
  generalize (upd H3 p3 (.lst ([.bl true, .bl false, .bl false] ++ [.bl false, .bl false, .bl false]))) = H4 at s3 g3 ⊢
  refine ⟨.ref p3, rfl, .inl ⟨rfl, _, SqL.of g3⟩, .ref a, rfl, ⟨_, (s3 _ _ (s2 _ _ (s1 _ _ hd)))⟩, .ref S.c6, .ref S.c6, _, rfl, fun u h => h, B.k6, p3, _, _, rfl, rfl, g3, (by show 6 < sizeLine; decide), ?_⟩
  have s4 : ∀ b o, H1 b = some o → (upd H4 p3 (.lst ([.bl true, .bl false, .bl false, .bl false, .bl false, .bl false] ++ [.bl false]))) b = some o := fun b o e => (upd_ne (ne_of_none e n3)).trans (s3 _ _ (s2 _ _ (s1 _ _ e)))
  have g4 : (upd H4 p3 (.lst ([.bl true, .bl false, .bl false, .bl false, .bl false, .bl false] ++ [.bl false]))) p3 = some (.lst [.bl true, .bl false, .bl false, .bl false, .bl false, .bl false, .bl false]) := upd_same
  show tSeq _ _ _ [wv, some (.ref a), some (.ref p3), y3] (upd H4 p3 (.lst ([.bl true, .bl false, .bl false, .bl false, .bl false, .bl false] ++ [.bl false])))
  generalize (upd H4 p3 (.lst ([.bl true, .bl false, .bl false, .bl false, .bl false, .bl false] ++ [.bl false]))) = H5 at s4 g4 ⊢
  refine ⟨.ref p3, rfl, .inl ⟨rfl, _, SqL.of g4⟩, p3, _, .bl true, rfl, rfl, SqL.of g4, rfl, rfl, ?_⟩
  refine ⟨rfl, true, rfl, ?_⟩
  refine iteT ?_
  refine ⟨.ref a, rfl, ⟨_, s4 _ _ hd⟩, .ty "ValueError", .type "ValueError", true, rfl, fun u h => h, B.kv, true, rfl, ?_⟩
  refine iteT ?_
  refine ⟨.ref p3, rfl, .inl ⟨rfl, _, SqL.of g4⟩, p3, _, .bl true, 0, .bl true, rfl, rfl, SqL.of g4, rfl, rfl, rfl, rfl, fun m z' hm e => absurd hm (by omega), ?_⟩
  show tSeq _ _ _ [wv, some (.ref a), some (.ref p3), some (.int ((0 : Nat) : Int))] H5
  refine ⟨_, rfl, rfl, _, rfl, ?_⟩
  refine iteT ?_
  refine ⟨.ref a, rfl, rfl, rfl, dd, _, v, rfl, s4 _ _ hd, rfl, .ref a, rfl, rfl, rfl, dd, _, x, rfl, s4 _ _ hd, rfl, (by show 2 ≤ sizeLine; decide), fun l hl => ⟨(by show 3 ≤ sizeLine; decide), fun p hp => ?_⟩⟩
  have s5 : ∀ b o, H5 b = some o → (upd H5 l (.lst [v, x])) b = some o := fun b o e => (upd_ne (ne_of_none e hl)).trans e
  exact q p l _ (fun b o e => (upd_ne (ne_of_none (s5 _ _ (s4 _ _ e)) hp)).trans (s5 _ _ (s4 _ _ e))) ((upd_ne (ne_of_none upd_same hp)).trans upd_same) upd_same
/-- told's end: what the lambda gives, or what is told of its error, with or without a field -/
def TO1 {K : PySem.W.Frag} {mg : Str → Option Value} (S : TdS K mg) (Q : VK) : XK := fun cls d H => TO S Q cls d H ∨ ∃ (dd : Addr) (v x : V), cls = .ref S.c0 ∧ d = some dd ∧ H dd = some (.xd [("index", x), ("part", v)]) ∧ IcTold Q v x H
def TTold1 {K : PySem.W.Frag} {mg : Str → Option Value} (S : TdS K mg) : (XK → Hp → VK → Prop) → Hp → VK → Prop := fun tl H Q => ∀ E : XK, (∀ cls d H', TO1 S Q cls d H' → E cls d H') → tl E H Q
theorem gives_told1 {S : TdS X.K X.mg} (B : TdF S) : GivesV X N_ltold "_law_told" (defScope s_ltold) g cdg (defBody s_ltold) "_law_work" (TTold1 S) := by
  intro f R s H Q tl hact hR ht
  have nd := sc_ltold.nd
  refine ⟨_, pss_one (ps_try_as (i := 1) (c := .ref S.cE) (Wout := fun _ _ _ _ => False)
    (ts := fun a cls d DD σ1 H1 => ∀ (oe : Obj) (pn : List (Addr × Obj)), Zc cls d oe → (∃ vs, oe.data = .fields vs) → ∃ t, PSs ((toldCx X g cdg s H).suite a ((a, oe) :: pn)) toldSuite t ∧ t DD σ1 H1)
    rfl rfl nd rfl rfl ⟨rfl, by decide, Or.inl S.gE⟩ LamX.takes0
    (fun W pn xe tk _ => pss_one (ps_ret (hact W pn xe _ _ tk)))
    (fun a oe cls d pn hz hf => ⟨fun pins s1 σ1 H1 DD I h => by
      obtain ⟨t, ht, hh⟩ := h oe pn hz hf
      exact ht.run pins s1 σ1 H1 DD I hh⟩)), ?_⟩
  refine ⟨rfl, hR, ht _ fun cls d H' hto => ?_⟩
  rcases hto with ⟨D, j, rfl, rfl, RR, q⟩ | ⟨dd, v, x, rfl, rfl, hd, q⟩
  · refine ⟨true, RR.ee, fun _ a ha oe pn hz hf => ?_, fun z => Bool.noConfusion z⟩
    exact told_suite S RR hz hf rfl q
  · refine ⟨true, B.ee, fun _ a ha oe pn hz hf => ?_, fun z => Bool.noConfusion z⟩
    exact told_suite1 B hz hf rfl hd q
end
end Rp
/-! told(lambda: ..) and told(lambda x=0: ..), an error's field told, too. -/
namespace Rp
open PySem PySem.Spec PyProof.Rows L2 Rz Rm Rt Rl LamX
def lpA : Expr → Arguments
  | .Lambda p _ _ _ => p
  | _ => ⟨[], [], none, [], [], none, []⟩
def lpB : Expr → Expr
  | .Lambda _ b _ _ => b
  | e => e
def lpS : Expr → Scope
  | .Lambda _ _ s _ => s
  | _ => ⟨.function, [], false, false, []⟩
def dfV : Option Addr → Value
  | none => .none
  | some t => .ref t
def mkF (q : Str) (cells : List (Str × Addr)) (e : Expr) (t : Option Addr) (c : Addr) : LF := ⟨q, lpA e, lpB e, lpS e, cloFrom cells (lpS e).names [], dfV t, c⟩
/-- without parameters -/
def Bd0 (e : Expr) : Prop := ∀ (q : Str) (cl : List (Str × Addr)) (c doc pm ctv : Value) (sZ : Shared), BindsTo sZ (PySem.W.kdv_fn "<lambda>" q (lpA e) (.expr (lpB e)) (lpS e) cl .none doc pm c ctv) ⟨[], []⟩ []
/-- one parameter with a default value -/
def Bd1 (e : Expr) : Prop := ∃ x : Str, (lpS e).names.lookup x = some .local ∧ ∀ (q : Str) (cl : List (Str × Addr)) (t : Addr) (c doc pm ctv : Value) (sZ : Shared) (o : Obj) (v : Value) (n : Nat), sZ.heap.get? t = some o → o.data = .seq #[v] n →
  BindsTo sZ (PySem.W.kdv_fn "<lambda>" q (lpA e) (.expr (lpB e)) (lpS e) cl (.ref t) doc pm c ctv) ⟨[], []⟩ [(x, v)]
def GD (e : Expr) (t : Option Addr) (H : Hp) : Prop := match t with
  | none => Bd0 e
  | some t => Bd1 e ∧ H t = some (.tup [.int 0])
/-- f is the lambda e, kept -/
def KLat (q : Str) (cells : List (Str × Addr)) (H : Hp) (e : Expr) (f : Addr) : Prop := ∃ (t : Option Addr) (c : Addr), H f = some (LamO f (mkF q cells e t c)) ∧ H c = some (CodeO c q) ∧ GD e t H
theorem KLat.extN {q : Str} {cells : List (Str × Addr)} {H H' : Hp} {e : Expr} {f : Addr} (k : KLat q cells H e f) (x : ExtN H H') : KLat q cells H' e f := by
  obtain ⟨t, c, h1, h2, h3⟩ := k
  refine ⟨t, c, x _ _ h1 (lamO_ne), x _ _ h2 codeO_ne, ?_⟩
  cases t with
  | none => exact h3
  | some t => exact ⟨h3.1, x _ _ h3.2 (by intro ps z; cases z)⟩
section
variable {X : Cx}
def lFam (X : Cx) (le : Nat → Expr) : Nat × Option Addr × Addr → LF := fun i => mkF (X.env.qual ++ "<lambda>") X.env.cells (le i.1) i.2.1 i.2.2
theorem fam_ok {le : Nat → Expr} (hl : ∀ j, LamP X.N X.env.scope (lpS (le j))) : Fam X (Nat × Option Addr × Addr) (lFam X le) (fun i H => GD (le i.1) i.2.1 H) where
  nm := fun i => hl i.1
  cl := fun _ => rfl
  q := fun _ => rfl
  bind := fun ⟨j, t, c⟩ doc pm ctv sZ HZ hok hg => by
    cases t with
    | none => exact ⟨[], hg _ _ _ _ _ _ _, fun y hy => by cases hy⟩
    | some t =>
      obtain ⟨⟨x, hx, hb⟩, ht⟩ := hg
      obtain ⟨_, its, rv, o, ho, _, n, hd⟩ := hok t _ ht
      cases rv with
      | cons r1 r2 =>
        rename_i v vs
        cases r2
        exact ⟨[(x, v)], hb _ _ _ _ _ _ _ _ _ _ _ ho hd, fun y hy => by
          obtain rfl := List.mem_singleton.mp hy
          exact hx⟩
/-- told(lambda: e), t being e's reading: Q at e's value, and at what is told of its error -/
def tTold1 {K : PySem.W.Frag} {mg : Str → Option Value} (S : TdS K mg) (Tb : List (Addr × Str)) (t : XK → TE) : TE := fun σ H Q => Tabs Tb H ∧ ∀ H1, ExtN H H1 → Tabs Tb H1 → ∀ E : XK, (∀ cls d H', TO1 S Q cls d H' → E cls d H') → t E σ H1 Q
theorem pe_told1 {c PT : Addr} {k : Nat} {params : Arguments} {body : Expr} {scope : Scope} {p lp pos : Pos} {t : XK → TE} (T : Tx X.K X.mg) {S : TdS X.K X.mg} (B : TdF S) (TB : TabB X.base X.mg c PT) {Tb : List (Addr × Str)} (hm : (PT, X.env.qual ++ "<lambda>") ∈ Tb) (hu : ∀ q ∈ Tb, q.1 = PT → q.2 = X.env.qual ++ "<lambda>") (hcode : X.env.code = .ref c) (hg : Gl X "_law_told")
    (L : LamP X.N X.env.scope scope) (hdef : defaultsOf params X.env = ([], [])) (hno : ∀ (q : Str) (cl : List (Str × Addr)) (c' : Addr) (doc pm ctv : Value) (sZ : Shared), BindsTo sZ (PySem.W.kdv_fn "<lambda>" q params (.expr body) scope cl .none doc pm (.ref c') ctv) ⟨[], []⟩ []) (hr : Room (k + 2) X.A)
    (hbody : ∀ (A : Around) (outer : List Env) (s : Shared) (H : Hp) (E : XK) (f c' : Addr), Room k (A.deeper (lamEnv X scope s.heap.objs.size f c')) → PE (lamCx X A outer s H E scope f c') body (t E))
    (hst : starEach [.Lambda params body scope lp] X.env = (false, eval (.Lambda params body scope lp) X.env) :: starEach [] X.env := by rfl) (hpl : (backTo pos (starEach ([] : List Expr) X.env)).any (·.1) = false := by rfl) :
    PE X (.Call (.Name "_law_told" p) [.Lambda params body scope lp] [] pos) (tTold1 S Tb t) := by
  obtain ⟨oc, od, kV, doc, pm, an, cdv, ct, osl, e, lk, hcd⟩ := T.F_ltold.ex
  have bt := T.b_ltold
  rw [e] at lk bt
  have go := pe_lamcallV (X := X) (ι := Addr) (F := fun c' => ⟨X.env.qual ++ "<lambda>", params, body, scope, cloFrom X.env.cells scope.names [], .none, c'⟩) (G := fun _ _ => True) (TT := TTold1 S) (x := "_law_told") (a := "_law_work") (k := k) (t := fun _ => t) (p := p) (pos := pos)
    hg T.g_ltold T.F_ltold.kp lk hcd bt sc_ltold rfl (.inl rfl) (gives_told1 B)
    ⟨fun _ => L, fun _ => rfl, fun _ => rfl, fun i doc pm ctv sZ HZ _ _ => ⟨[], hno _ _ _ _ _ _ _, fun y hy => by cases hy⟩⟩
    (pa_cons (pe_lam0 (pos := lp) TB hcode hm hu (fun y hy z => L.free y hy z) hdef) pa_nil) hr
    (fun i A outer s H E f hr2 => hbody A outer s H E f i hr2) hst hpl
  refine ⟨fun pins s σ H Q I h => go.run pins s σ H Q I ?_⟩
  obtain ⟨hT, h⟩ := h
  exact ⟨hT, fun f c' H1 x1 t1 hf e1 e2 => ⟨f, c', rfl, e1, e2, True.intro, fun E hE => h H1 x1 t1 E hE⟩⟩
theorem pe_toldD1 {c PT : Addr} {k : Nat} {params : Arguments} {body : Expr} {scope : Scope} {p lp pos : Pos} {t : XK → TE} {j : Nat} {dp : Pos} (T : Tx X.K X.mg) {S : TdS X.K X.mg} (B : TdF S) (TB : TabB X.base X.mg c PT) {Tb : List (Addr × Str)} (hm : (PT, X.env.qual ++ "<lambda>") ∈ Tb) (hu : ∀ q ∈ Tb, q.1 = PT → q.2 = X.env.qual ++ "<lambda>") (hcode : X.env.code = .ref c) (hg : Gl X "_law_told")
    (L : LamP X.N X.env.scope scope) (hd : params.defaults = [.Constant (.int 0) j dp]) (hk : params.kw_defaults = []) (hb : Bd1 (.Lambda params body scope lp)) (hr : Room (k + 2) X.A)
    (hbody : ∀ (A : Around) (outer : List Env) (s : Shared) (H : Hp) (E : XK) (f c' : Addr), Room k (A.deeper (lamEnv X scope s.heap.objs.size f c')) → PE (lamCx X A outer s H E scope f c') body (t E))
    (hst : starEach [.Lambda params body scope lp] X.env = (false, eval (.Lambda params body scope lp) X.env) :: starEach [] X.env := by rfl) (hpl : (backTo pos (starEach ([] : List Expr) X.env)).any (·.1) = false := by rfl) :
    PE X (.Call (.Name "_law_told" p) [.Lambda params body scope lp] [] pos) (tTold1 S Tb t) := by
  obtain ⟨oc, od, kV, doc, pm, an, cdv, ct, osl, e, lk, hcd⟩ := T.F_ltold.ex
  have bt := T.b_ltold
  rw [e] at lk bt
  have go := pe_lamcallV (X := X) (ι := Nat × Option Addr × Addr) (F := lFam X fun _ => .Lambda params body scope lp) (G := fun i H => GD (.Lambda params body scope lp) i.2.1 H) (TT := TTold1 S) (x := "_law_told") (a := "_law_work") (k := k) (t := fun _ => t) (p := p) (pos := pos)
    hg T.g_ltold T.F_ltold.kp lk hcd bt sc_ltold rfl (.inl rfl) (gives_told1 B) (fam_ok fun _ => L)
    (pa_cons (pe_lam1 (pos := lp) TB hcode hm hu (fun y hy z => L.free y hy z) hd hk) pa_nil) hr
    (fun i A outer s H E f hr2 => hbody A outer s H E f i.2.2 hr2) hst hpl
  refine ⟨fun pins s σ H Q I h => go.run pins s σ H Q I ?_⟩
  obtain ⟨hT, h⟩ := h
  exact ⟨hT, fun f c' t1 H1 x1 t1' hf et e1 e2 => ⟨f, (0, some t1, c'), rfl, e1, e2, ⟨hb, et⟩, fun E hE => h H1 x1 t1' E hE⟩⟩
end
section
variable {X : Cx}
/-- o >> y, y of any of some built-in kinds -/
def rShW (K : PySem.W.Frag) (C : Addr) (sp : Sp) (E : XK) : R2 := fun x y H Q => ∃ (a dx : Addr) (fs : List (Str × V)) (T : String) (fo ro : Option Value), PySem.W.findIn K (.type T) "__rshift__" = some fo ∧ PySem.W.findIn K (.type T) "__rrshift__" = some ro ∧ PySem.W.subIn K (.type T) (.ref C) = some false ∧
  x = .ref a ∧ H a = some (.ins C dx fs) ∧ (∀ u, RelV y u → typeOf u = pure (.type T)) ∧ sp [.ref a, y] H (fun v H' => (∃ b : Addr, v = .ref b) ∧ Q v H') E
theorem op_shW {CX : CXT} {k : Nat} {f C : Addr} {sp : Sp} {E : XK} (hc : PySem.W.selfFirst X.K C = true) (hs : PySem.W.findIn X.K (.ref C) "__rshift__" = some (some (.ref f))) (hf : PySem.W.isFn X.K (.ref f) = true)
    (hn : PySem.W.findIn X.K (.ref C) "__rrshift__" = some none) (F : FnR X.prog X.w X.K X.mg X.base CX k f sp) (hr : Room k X.A) (hx : Passes CX X E) : OpR X (binaryOp .RShift) (rShW X.K C sp E) := by
  intro pins s σ H x y v u Q I rx ry h
  obtain ⟨a, dx, fs, T, fo, ro, h1, h2, h3, ex, ea, hT, q⟩ := h
  exact op_shV (T := T) hc hs hf hn h1 h2 h3 F hr hx pins s σ H x y v u Q I rx ry ⟨a, dx, fs, ex, ea, hT, q⟩
end
end Rp
namespace Rp
open PySem PySem.Spec PyProof.Rows L2 Rz Rm Rt Rl LamX
def stBody : Stmt → List Stmt
  | .For _ _ b _ _ => b
  | _ => []
abbrev bs (j : Nat) : Stmt := (defBody s_law).getD j (.Pass ⟨0, 0, 0, 0⟩)
abbrev fl (j : Nat) : Stmt := (stBody (bs 1)).getD j (.Pass ⟨0, 0, 0, 0⟩)
abbrev bb (j : Nat) : Stmt := (defBody s_lbad_rings).getD j (.Pass ⟨0, 0, 0, 0⟩)
abbrev XL (P : Program) (w : World) (K : PySem.W.Frag) (mg : Str → Option Value) (base : Heap) (f : Addr) (cdv : Value) (A : Around) (outer : List Env) (s : Shared) (H0 : Hp) (E : XK) : Cx := (cxOf CX0 P w K mg base N_law "law" (defScope s_law) f cdv A outer s H0 E).nox
abbrev XB (P : Program) (w : World) (K : PySem.W.Frag) (mg : Str → Option Value) (base : Heap) (f : Addr) (cdv : Value) (A : Around) (outer : List Env) (s : Shared) (H0 : Hp) (E : XK) : Cx := (cxOf CX0 P w K mg base N_lbad_rings "_law_bad_rings" (defScope s_lbad_rings) f cdv A outer s H0 E).nox
/-- what a lambda of that def is called -/
abbrev lq (q : Str) : Str := q ++ ".<locals>." ++ "<lambda>"
abbrev Tb2 (PT PU : Addr) : List (Addr × Str) := [(PT, lq "law"), (PU, lq "_law_bad_rings")]
theorem hu1 {PT PU : Addr} (np : PT ≠ PU) : ∀ q ∈ Tb2 PT PU, q.1 = PT → q.2 = lq "law" := fun q hq e => by
  rcases List.mem_cons.mp hq with rfl | hq
  · rfl
  · obtain rfl := List.mem_singleton.mp hq
    exact absurd e.symm np
theorem hu2 {PT PU : Addr} (np : PT ≠ PU) : ∀ q ∈ Tb2 PT PU, q.1 = PU → q.2 = lq "_law_bad_rings" := fun q hq e => by
  rcases List.mem_cons.mp hq with rfl | hq
  · exact absurd e np
  · obtain rfl := List.mem_singleton.mp hq
    rfl
theorem Tabs_kp {K : PySem.W.Frag} {H H' : Hp} {row a : Addr} {ns : List Int} {Tb : List (Addr × Str)} (RA : RowAt K H row a ns) (k : Kp row H H') (t : Tabs Tb H) : Tabs Tb H' := fun p hp => by
  obtain ⟨_, _, _, hrow, _⟩ := RA.ob
  obtain ⟨ps, h1, h2, h3⟩ := t p hp
  refine ⟨ps, k _ _ h1 (fun e => by rw [e, hrow] at h1; cases h1), h2, fun pos cv hc => ?_⟩
  obtain ⟨c, e1, e2⟩ := h3 pos cv hc
  refine ⟨c, e1, k _ _ e2 (fun e => ?_)⟩
  rw [e, hrow] at e2
  unfold CodeO at e2
  cases e2
theorem kp_of {K : PySem.W.Frag} {H H' : Hp} {row a b : Addr} {ns : List Int} {o : HO} (RA : RowAt K H row a ns) (k : Kp row H H') (h : H b = some o) (n : ∀ i m q : Int, o ≠ .lst [.ref a, .int i, .int m, .int q]) : H' b = some o := by
  obtain ⟨i, m, q, hrow, _⟩ := RA.ob
  refine k _ _ h fun e => ?_
  rw [e, hrow] at h
  exact n i m q (Option.some.inj h).symm
theorem RowAt.extN {K : PySem.W.Frag} {H H' : Hp} {row a : Addr} {ns : List Int} (R : RowAt K H row a ns) (s : ExtN H H') : RowAt K H' row a ns := by
  obtain ⟨i, m, q, h, h0⟩ := R.ob
  refine ⟨⟨i, m, q, s _ _ h (by intro ps z; cases z), h0⟩, ?_, R.ne⟩
  rcases R.sc with (z | ⟨o, z⟩) | z
  · exact .inl (.inl (s _ _ z (by intro ps z; cases z)))
  · exact .inl (.inr ⟨o, s _ _ z (by intro ps z; cases z)⟩)
  · exact .inr z
theorem RingAt.kp8 {K : PySem.W.Frag} {C : Addr} {H H' : Hp} {row a p dx td ts : Addr} {ns ds ss : List Int} (RA : RowAt K H row a ns) (k : Kp row H H') (R : RingAt C H p dx td ts ds ss) : RingAt C H' p dx td ts ds ss :=
  ⟨kp_of RA k R.ob (fun _ _ _ z => by cases z), kp_of RA k R.td (fun _ _ _ z => by cases z), kp_of RA k R.ts (fun _ _ _ z => by cases z), R.ok⟩
theorem RingAt.extN {C : Addr} {H H' : Hp} {p dx td ts : Addr} {ds ss : List Int} (R : RingAt C H p dx td ts ds ss) (s : ExtN H H') : RingAt C H' p dx td ts ds ss :=
  ⟨s _ _ R.ob (by intro ps z; cases z), s _ _ R.td (by intro ps z; cases z), s _ _ R.ts (by intro ps z; cases z), R.ok⟩
/-- what both defs know -/
structure BA (K : PySem.W.Frag) (C : Addr) (Tb : List (Addr × Str)) (H : Hp) (row a : Addr) (ns : List Int) (p dx td ts : Addr) (ds ss : List Int) : Prop where
  RA : RowAt K H row a ns
  tb : Tabs Tb H
  R : RingAt C H p dx td ts ds ss
section
variable {K : PySem.W.Frag} {C : Addr} {Tb : List (Addr × Str)} {H H' : Hp} {row a : Addr} {ns : List Int} {p dx td ts : Addr} {ds ss : List Int}
theorem BA.hd (b : BA K C Tb H row a ns p dx td ts ds ss) : H td = some (.tup (ds.map V.int)) := b.R.td
theorem BA.hs (b : BA K C Tb H row a ns p dx td ts ds ss) : H ts = some (.tup (ss.map V.int)) := b.R.ts
theorem BA.G (b : BA K C Tb H row a ns p dx td ts ds ss) : Good ds ss := b.R.ok
theorem BA.same (b : BA K C Tb H row a ns p dx td ts ds ss) (s : Same H H') : BA K C Tb H' row a ns p dx td ts ds ss := ⟨b.RA.same s, b.tb.ext s, b.R.same s⟩
theorem BA.kp (b : BA K C Tb H row a ns p dx td ts ds ss) (k : Kp row H H') (RA' : RowAt K H' row a ns) : BA K C Tb H' row a ns p dx td ts ds ss := ⟨RA', Tabs_kp b.RA k b.tb, b.R.kp8 b.RA k⟩
theorem BA.extN (b : BA K C Tb H row a ns p dx td ts ds ss) (s : ExtN H H') (t : Tabs Tb H') : BA K C Tb H' row a ns p dx td ts ds ss := ⟨b.RA.extN s, t, b.R.extN s⟩
theorem Iv.extN (s : ExtN H H') {x : V} {lo hi : Int} {b : Bool} (h : Iv H x lo hi b) : Iv H' x lo hi b := by
  rcases h with h | ⟨h, h1 | h1 | h1 | ⟨t, ys, h1, h2⟩⟩
  · exact .inl h
  · exact .inr ⟨h, .inl h1⟩
  · exact .inr ⟨h, .inr (.inl h1)⟩
  · exact .inr ⟨h, .inr (.inr (.inl h1))⟩
  · exact .inr ⟨h, .inr (.inr (.inr ⟨t, ys, h1, s _ _ h2 (by intro ps z; cases z)⟩))⟩
theorem Iv.kp (RA : RowAt K H row a ns) (s : Kp row H H') {x : V} {lo hi : Int} {b : Bool} (h : Iv H x lo hi b) : Iv H' x lo hi b := by
  rcases h with h | ⟨h, h1 | h1 | h1 | ⟨t, ys, h1, h2⟩⟩
  · exact .inl h
  · exact .inr ⟨h, .inl h1⟩
  · exact .inr ⟨h, .inr (.inl h1)⟩
  · exact .inr ⟨h, .inr (.inr (.inl h1))⟩
  · exact .inr ⟨h, .inr (.inr (.inr ⟨t, ys, h1, kp_of RA s h2 (fun _ _ _ z => by cases z)⟩))⟩
theorem FB.extN (s : ExtN H H') {xs : List V} {lo hi f m : Int} {i : Nat} (h : FB H xs lo hi f m i) : FB H' xs lo hi f m i := by
  rcases h with ⟨h1, h2, h3⟩ | ⟨h1, h2, h3⟩
  · exact .inl ⟨h1, h2.imp id fun ⟨x, a, b⟩ => ⟨x, a, b.extN s⟩, fun j hj => ⟨(h3 j hj).1, let ⟨x, a, b⟩ := (h3 j hj).2; ⟨x, a, b.extN s⟩⟩⟩
  · exact .inr ⟨h1, h2, fun j hj => ⟨(h3 j hj).1, let ⟨x, a, b⟩ := (h3 j hj).2; ⟨x, a, b.extN s⟩⟩⟩
theorem PB.extN (s : ExtN H H') {v : V} {lo hi f m i : Int} (h : PB H v lo hi f m i) : PB H' v lo hi f m i := by
  rcases h with ⟨h | h | ⟨l, xs, h1, h2⟩, e⟩ | ⟨t, xs, k, h1, h2, h3, h4, h5⟩
  · exact .inl ⟨.inl h, e⟩
  · exact .inl ⟨.inr (.inl h), e⟩
  · exact .inl ⟨.inr (.inr ⟨l, xs, h1, s _ _ h2 (by intro ps z; cases z)⟩), e⟩
  · exact .inr ⟨t, xs, k, h1, s _ _ h2 (by intro ps z; cases z), h3, h4, h5.extN s⟩
theorem RBad.extN (s : ExtN H H') {v x : V} {part : Str} {i : Int} (h : RBad H v x part i) : RBad H' v x part i := by
  rcases h with ⟨h1, h2⟩ | ⟨t, ds, h1, h2, h3, h4, h5, ⟨h6, h7⟩ | ⟨u, ss, h6, h7, h8⟩⟩
  · exact .inl ⟨h1, h2.extN s⟩
  · exact .inr ⟨t, ds, h1, s _ _ h2 (by intro ps z; cases z), h3, h4, h5, .inl ⟨h6, h7.extN s⟩⟩
  · exact .inr ⟨t, ds, h1, s _ _ h2 (by intro ps z; cases z), h3, h4, h5, .inr ⟨u, ss, h6, s _ _ h7 (by intro ps z; cases z), h8⟩⟩
end
theorem iv_int {H : Hp} {y lo hi : Int} (h : lo ≤ y ∧ y ≤ hi) : Iv H (.int y) lo hi true := .inl ⟨y, rfl, by rw [decide_eq_true h.1, decide_eq_true h.2]; rfl⟩
theorem iv_out {H : Hp} {y lo hi : Int} (h : y < lo ∨ hi < y) : Iv H (.int y) lo hi false := .inl ⟨y, rfl, by
  rcases h with h | h
  · rw [decide_eq_false (by omega)]; rfl
  · rw [decide_eq_false (show ¬ y ≤ hi by omega), Bool.and_false]⟩
theorem pb_short {H : Hp} {t : Addr} {ns : List Int} {lo hi f m : Int} (h : H t = some (.tup (ns.map V.int))) (ha : ∀ y ∈ ns, lo ≤ y ∧ y ≤ hi) (hf : (ns.length : Int) < f) (hm : (ns.length : Int) ≤ m) (h30 : ns.length ≤ 30) : PB H (.ref t) lo hi f m ns.length := by
  refine .inr ⟨t, _, ns.length, rfl, h, by rw [List.length_map]; exact h30, rfl, .inr ⟨by rw [List.length_map], by rw [List.length_map]; exact hf, fun j hj => ?_⟩⟩
  rw [List.length_map] at hj
  exact ⟨by omega, .int ns[j], by rw [List.getElem?_map, List.getElem?_eq_getElem hj]; rfl, iv_int (ha _ (List.getElem_mem hj))⟩
theorem pb_long {H : Hp} {t : Addr} {ns : List Int} {lo hi f : Int} {m : Nat} (h : H t = some (.tup (ns.map V.int))) (ha : ∀ y ∈ ns, lo ≤ y ∧ y ≤ hi) (hm : m < ns.length) (h30 : ns.length ≤ 30) : PB H (.ref t) lo hi f m m := by
  refine .inr ⟨t, _, m, rfl, h, by rw [List.length_map]; exact h30, rfl, .inl ⟨by rw [List.length_map]; exact hm, .inl (Int.le_refl _), fun j hj => ?_⟩⟩
  have hj2 : j < ns.length := by omega
  exact ⟨by omega, .int ns[j], by rw [List.getElem?_map, List.getElem?_eq_getElem hj2]; rfl, iv_int (ha _ (List.getElem_mem hj2))⟩
/-- one wrong item among ints -/
theorem pb_one {H : Hp} {t : Addr} {pre : List Int} {v : V} {post : List V} {lo hi f m : Int} (h : H t = some (.tup (pre.map V.int ++ v :: post))) (ha : ∀ y ∈ pre, lo ≤ y ∧ y ≤ hi) (hv : Iv H v lo hi false) (hm : (pre.length : Int) ≤ m) (h30 : pre.length + post.length < 30) :
    PB H (.ref t) lo hi f m pre.length := by
  refine .inr ⟨t, _, pre.length, rfl, h, by rw [List.length_append, List.length_map, List.length_cons]; omega, rfl, .inl ⟨by rw [List.length_append, List.length_map, List.length_cons]; omega, .inr ⟨v, by rw [List.getElem?_append_right (by rw [List.length_map]; exact Nat.le_refl _), List.length_map, Nat.sub_self]; rfl, hv⟩, fun j hj => ?_⟩⟩
  exact ⟨by omega, .int pre[j], by rw [List.getElem?_append_left (by rw [List.length_map]; exact hj), List.getElem?_map, List.getElem?_eq_getElem hj]; rfl, iv_int (ha _ (List.getElem_mem hj))⟩
theorem rb_days {H : Hp} {v x : V} {i : Int} (h : PB H v 1 30 2 8 i) : RBad H v x "days" i := .inl ⟨rfl, h⟩
theorem rb_starts {H : Hp} {td : Addr} {ds ss : List Int} (G : Good ds ss) (hd : H td = some (.tup (ds.map V.int))) {x : V} {i : Int} (h : PB H x 0 12 ds.length ds.length i) : RBad H (.ref td) x "starts" i := .inr ⟨td, ds, rfl, hd, G.d1, G.l2, G.l8, .inl ⟨rfl, h⟩⟩
theorem rb_sum {H : Hp} {td u : Addr} {ds ss us : List Int} (G : Good ds ss) (hd : H td = some (.tup (ds.map V.int))) (hu : H u = some (.tup (us.map V.int))) (ha : ∀ y ∈ us, 0 ≤ y ∧ y ≤ 12) (hl : us.length = ds.length) (hs : ¬ (1 ≤ us.sum ∧ us.sum ≤ 12)) : RBad H (.ref td) (.ref u) "starts" (-1) :=
  .inr ⟨td, ds, rfl, hd, G.d1, G.l2, G.l8, .inr ⟨u, us, rfl, hu, ha, hl, hs, rfl, rfl⟩⟩
def dR (part : Str) (i : Int) : PyData := .tuple [.str "error", .str "InvalidRing", .list [.str part, .int i]]
theorem dR_shaped (part : Str) (i : Int) (h : PyData.strOk part = true) : SeqAt.shaped (dR part i) = true := by
  have e1 : PyData.strOk "error" = true := by decide +kernel
  have e2 : PyData.strOk "InvalidRing" = true := by decide +kernel
  simp [dR, SeqAt.shaped, PyData.canLay0, PyData.canLayAll0, PyData.depth, PyData.depthAll]
  exact ⟨e1, e2, h⟩
theorem RBad.strOk {H : Hp} {v x : V} {part : Str} {i : Int} (h : RBad H v x part i) : PyData.strOk part = true := by
  rcases h with ⟨rfl, _⟩ | ⟨_, _, _, _, _, _, _, ⟨rfl, _⟩ | ⟨_, _, _, _, _, _, _, rfl, _⟩⟩ <;> decide +kernel
theorem dR_eqv (part : Str) (i : Int) : (!PyData.eqv (dR part i) (dR part i)) = false := by simp [dR, PyData.eqv, PyData.eqvAll]
theorem dp_ir {K : PySem.W.Frag} {H : Hp} {t l : Addr} {part : Str} {i : Int} (h : H t = some (.tup [.str "error", .str "InvalidRing", .ref l])) (hl : H l = some (.lst [.str part, .int i])) : Dp K H (.ref t) (dR part i) :=
  .tup (.of h) (.cons (.str _) (.cons (.str _) (.cons (.lst (.of hl) (.cons (.str _) (.cons (.int _) .nil))) .nil)))
theorem rep_go {K : PySem.W.Frag} {H : Hp} {p : Addr} {c : Int} {n : Nat} {Q : VK} (hp : H p = some (.tup [.int c])) (n1 : 1 ≤ n) (n2 : n ≤ 1000) (h : ∀ H' t, Same H H' → H' t = some (.tup ((List.replicate n c).map V.int)) → Q (.ref t) H') : rRepP K (.ref p) (.int (n : Int)) H Q := by
  refine ⟨p, (n : Int), [.int c], rfl, rfl, .of hp, List.cons_ne_nil _ _, by omega, by omega, by show 1 ≤ 1000; decide, fun e => ?_, fun _ t ht => ?_⟩
  · have : n = 1 := by omega
    subst this
    exact h H p (Same.refl H) hp
  · refine h _ t (same_upd ht) ?_
    rw [upd_same, show ((n : Nat) : Int).toNat = n by omega]
    have e : ∀ k : Nat, (List.replicate k [V.int c]).flatten = (List.replicate k c).map V.int := by
      intro k
      induction k with
      | zero => rfl
      | succ k ih => rw [List.replicate_succ, List.flatten_cons, ih]; rfl
    rw [e]
theorem rep_goE {K : PySem.W.Frag} {H : Hp} {p : Addr} {c k : Int} {n : Nat} {Q : VK} (e : k = n) (hp : H p = some (.tup [.int c])) (n1 : 1 ≤ n) (n2 : n ≤ 1000) (h : ∀ H' t, Same H H' → H' t = some (.tup ((List.replicate n c).map V.int)) → Q (.ref t) H') : rRepP K (.ref p) (.int k) H Q := by
  subst e
  exact rep_go hp n1 n2 h
theorem sum_rep (c : Int) : ∀ n : Nat, (List.replicate n c).sum = c * n
  | 0 => by simp
  | n + 1 => by
    rw [List.replicate_succ, List.sum_cons, sum_rep c n, Int.natCast_add, Int.mul_add]
    omega
/-- rows of what no ring can have -/
def Rw (H : Hp) (v : V) : Prop := ∃ (t : Addr) (x y : V) (part : Str) (i : Int), v = .ref t ∧ H t = some (.tup [x, y, .str part, .int i]) ∧ RBad H x y part i
theorem Rw.same {H H' : Hp} (s : Same H H') {v : V} (h : Rw H v) : Rw H' v := by
  obtain ⟨t, x, y, part, i, e, h1, h2⟩ := h
  exact ⟨t, x, y, part, i, e, s _ _ h1, h2.same s⟩
theorem Rw.extN {H H' : Hp} (s : ExtN H H') {v : V} (h : Rw H v) : Rw H' v := by
  obtain ⟨t, x, y, part, i, e, h1, h2⟩ := h
  exact ⟨t, x, y, part, i, e, s _ _ h1 (by intro ps z; cases z), h2.extN s⟩
structure Rws (H : Hp) (l : Addr) (xs : List V) (n : Nat) : Prop where
  h : H l = some (.lst xs)
  len : xs.length = n
  all : ∀ v ∈ xs, Rw H v
theorem Rws.same {H H' : Hp} {l : Addr} {xs : List V} {n : Nat} (r : Rws H l xs n) (s : Same H H') : Rws H' l xs n := ⟨s _ _ r.h, r.len, fun v hv => (r.all v hv).same s⟩
theorem Rws.extN {H H' : Hp} {l : Addr} {xs : List V} {n : Nat} (r : Rws H l xs n) (s : ExtN H H') : Rws H' l xs n := ⟨s _ _ r.h (by intro ps z; cases z), r.len, fun v hv => (r.all v hv).extN s⟩
/-- a list is changed, all else stays -/
def Kl (l : Addr) (H H' : Hp) : Prop := (∀ b o, H b = some o → b ≠ l → H' b = some o) ∧ (∃ xs, H l = some (.lst xs)) ∧ ∃ ys, H' l = some (.lst ys)
theorem Kl.tup {l : Addr} {H H' : Hp} (k : Kl l H H') {t : Addr} {xs : List V} (h : H t = some (.tup xs)) : H' t = some (.tup xs) := k.1 _ _ h fun e => by
  obtain ⟨ys, h2⟩ := k.2.1
  rw [e, h2] at h
  cases h
theorem Iv.kl {l : Addr} {H H' : Hp} (s : Kl l H H') {x : V} {lo hi : Int} {b : Bool} (h : Iv H x lo hi b) : Iv H' x lo hi b := by
  rcases h with h | ⟨h, h1 | h1 | h1 | ⟨t, ys, h1, h2⟩⟩
  · exact .inl h
  · exact .inr ⟨h, .inl h1⟩
  · exact .inr ⟨h, .inr (.inl h1)⟩
  · exact .inr ⟨h, .inr (.inr (.inl h1))⟩
  · exact .inr ⟨h, .inr (.inr (.inr ⟨t, ys, h1, s.tup h2⟩))⟩
theorem FB.kl {l : Addr} {H H' : Hp} (s : Kl l H H') {xs : List V} {lo hi f m : Int} {i : Nat} (h : FB H xs lo hi f m i) : FB H' xs lo hi f m i := by
  rcases h with ⟨h1, h2, h3⟩ | ⟨h1, h2, h3⟩
  · exact .inl ⟨h1, h2.imp id fun ⟨x, a, b⟩ => ⟨x, a, b.kl s⟩, fun j hj => ⟨(h3 j hj).1, let ⟨x, a, b⟩ := (h3 j hj).2; ⟨x, a, b.kl s⟩⟩⟩
  · exact .inr ⟨h1, h2, fun j hj => ⟨(h3 j hj).1, let ⟨x, a, b⟩ := (h3 j hj).2; ⟨x, a, b.kl s⟩⟩⟩
theorem PB.kl {l : Addr} {H H' : Hp} (s : Kl l H H') {v : V} {lo hi f m i : Int} (h : PB H v lo hi f m i) : PB H' v lo hi f m i := by
  rcases h with ⟨h | h | ⟨c, xs, h1, h2⟩, e⟩ | ⟨t, xs, k, h1, h2, h3, h4, h5⟩
  · exact .inl ⟨.inl h, e⟩
  · exact .inl ⟨.inr (.inl h), e⟩
  · by_cases ec : c = l
    · obtain ⟨ys, h3⟩ := s.2.2
      exact .inl ⟨.inr (.inr ⟨c, ys, h1, by rw [ec]; exact h3⟩), e⟩
    · exact .inl ⟨.inr (.inr ⟨c, xs, h1, s.1 _ _ h2 ec⟩), e⟩
  · exact .inr ⟨t, xs, k, h1, s.tup h2, h3, h4, h5.kl s⟩
theorem RBad.kl {l : Addr} {H H' : Hp} (s : Kl l H H') {v x : V} {part : Str} {i : Int} (h : RBad H v x part i) : RBad H' v x part i := by
  rcases h with ⟨h1, h2⟩ | ⟨t, ds, h1, h2, h3, h4, h5, ⟨h6, h7⟩ | ⟨u, ss, h6, h7, h8⟩⟩
  · exact .inl ⟨h1, h2.kl s⟩
  · exact .inr ⟨t, ds, h1, s.tup h2, h3, h4, h5, .inl ⟨h6, h7.kl s⟩⟩
  · exact .inr ⟨t, ds, h1, s.tup h2, h3, h4, h5, .inr ⟨u, ss, h6, s.tup h7, h8⟩⟩
theorem Rw.kl {l : Addr} {H H' : Hp} (s : Kl l H H') {v : V} (h : Rw H v) : Rw H' v := by
  obtain ⟨t, x, y, part, i, e, h1, h2⟩ := h
  exact ⟨t, x, y, part, i, e, s.tup h1, h2.kl s⟩
theorem BA.kl {K : PySem.W.Frag} {C : Addr} {Tb : List (Addr × Str)} {H H' : Hp} {row a : Addr} {ns : List Int} {p dx td ts : Addr} {ds ss : List Int} {l : Addr} {xs : List V} {n : Nat} (b : BA K C Tb H row a ns p dx td ts ds ss) (R : Rws H l xs n) (n5 : 5 ≤ n) (k : Kl l H H') : BA K C Tb H' row a ns p dx td ts ds ss := by
  refine ⟨⟨?_, ?_, b.RA.ne⟩, fun p hp => ?_, ⟨k.1 _ _ b.R.ob fun e => ?_, k.tup b.hd, k.tup b.hs, b.G⟩⟩
  · obtain ⟨i, m, q, h, h0⟩ := b.RA.ob
    refine ⟨i, m, q, k.1 _ _ h fun e => ?_, h0⟩
    rw [e, R.h] at h
    injection h with h
    injection h with h
    have := R.len
    rw [h] at this
    simp at this
    omega
  · rcases b.RA.sc with (z | ⟨o, z⟩) | z
    · refine .inl (.inl (k.1 _ _ z fun e => ?_))
      rw [e, R.h] at z
      injection z with z
      injection z with z
      have hn := R.len
      match xs, hn, z, R.all with
      | [], hn, _, _ => simp at hn; omega
      | x :: r, _, z, hall =>
        obtain ⟨t, _, _, _, _, e1, _⟩ := hall x List.mem_cons_self
        subst e1
        match ns, z with
        | [], z => cases z
        | _ :: _, z => cases z
    · refine .inl (.inr ⟨o, k.1 _ _ z fun e => ?_⟩)
      rw [e, R.h] at z
      cases z
    · exact .inr z
  · obtain ⟨ps, h1, h2, h3⟩ := b.tb p hp
    refine ⟨ps, k.1 _ _ h1 (fun e => by rw [e, R.h] at h1; cases h1), h2, fun pos cv hc => ?_⟩
    obtain ⟨c, e1, e2⟩ := h3 pos cv hc
    refine ⟨c, e1, k.1 _ _ e2 (fun e => ?_)⟩
    rw [e, R.h] at e2
    unfold CodeO at e2
    cases e2
  · have z := b.R.ob
    rw [e, R.h] at z
    cases z
/-- a new ring's place -/
theorem same_new {H : Hp} {C x z : Addr} (nx : H x = none) (nz : H z = none) : Same H (upd (upd H z (.own x)) x (.ins C z [])) := fun b o e => by
  rw [upd_ne (ne_of_none e nx), upd_ne (ne_of_none e nz)]
  exact e
section
variable {P : Program} {w : World} {K : PySem.W.Frag} {mg : Str → Option Value} {base : Heap}
variable {f : Addr} {cT PT PU cU : Addr} {A : Around} {outer : List Env} {s : Shared} {H0 : Hp} {E : XK}
theorem lb_b0 (T : Tx K mg) (hr : Room 7 (XB P w K mg base f (.ref cU) A outer s H0 E).A) : ∃ tt : TS, PS (XB P w K mg base f (.ref cU) A outer s H0 E) (bb 0) tt ∧
    ∀ (D : Ends) (H : Hp) (row a : Addr) (ns : List Int) (p dx td ts : Addr) (ds ss : List Int) (y3 y4 y5 y6 y7 y8 y9 y10 y11 y12 : Option V), BA K T.C (Tb2 PT PU) H row a ns p dx td ts ds ss → (∀ H' (k : Nat), BA K T.C (Tb2 PT PU) H' row a ns p dx td ts ds ss → k ≤ ds.length → D.nx [some (.ref row), some (.ref td), some (.ref ts), some (.int (k : Int)), y4, y5, y6, y7, y8, y9, y10, y11, y12] H') → tt D [some (.ref row), some (.ref td), some (.ref ts), y3, y4, y5, y6, y7, y8, y9, y10, y11, y12] H := by
  have nd := sc_lbad_rings.nd
  refine ⟨_, ps_set (i := 3) nd rfl (.inl rfl) (pe_call (ok_next T) (hr.mono (by decide : 1 ≤ 7)) (by rfl) T.g_lnext T.F_lnext.kp T.b_lnext .nil pass0 (pa_cons (pv 0) (pa_cons (pe_op op_add (pe_callB call_len_seq (by rfl) T.z_len PySem.boot_len (pa_cons (pv 1) pa_nil)) pe_int) pa_nil))), ?_⟩
  intro D H row a ns p dx td ts ds ss y3 y4 y5 y6 y7 y8 y9 y10 y11 y12 b nx
  have l8 := b.G.l8
  refine ⟨_, rfl, _, rfl, td, _, rfl, .inr (.of b.hd), _, _, rfl, rfl, row, a, ns, _, rfl, b.RA, by rw [List.length_map]; omega, by rw [List.length_map]; omega, fun v H' v0 v1 RA' kk => ?_⟩
  rw [List.length_map] at v1
  obtain ⟨k, rfl⟩ : ∃ k : Nat, v = (k : Int) := ⟨v.toNat, by omega⟩
  exact nx H' k (b.kp kk RA') (by omega)
theorem lb_b1 (T : Tx K mg) (hr : Room 7 (XB P w K mg base f (.ref cU) A outer s H0 E).A) : ∃ tt : TS, PS (XB P w K mg base f (.ref cU) A outer s H0 E) (bb 1) tt ∧
    ∀ (D : Ends) (H : Hp) (row a : Addr) (ns : List Int) (p dx td ts : Addr) (ds ss : List Int) (y3 y4 y5 y6 y7 y8 y9 y10 y11 y12 : Option V), BA K T.C (Tb2 PT PU) H row a ns p dx td ts ds ss → (∀ H' v, BA K T.C (Tb2 PT PU) H' row a ns p dx td ts ds ss → Iv H' v 1 30 false → D.nx [some (.ref row), some (.ref td), some (.ref ts), y3, some v, y5, y6, y7, y8, y9, y10, y11, y12] H') → tt D [some (.ref row), some (.ref td), some (.ref ts), y3, y4, y5, y6, y7, y8, y9, y10, y11, y12] H := by
  have nd := sc_lbad_rings.nd
  refine ⟨_, ps_set (i := 4) nd rfl (.inl rfl) (pe_call (ok_pickV T) (hr.mono (by decide : 2 ≤ 7)) (by rfl) T.g_lpick T.F_lpick.kp T.b_lpick .nil pass0 (pa_cons (pv 0) (pa_cons (pe_lst (pa_cons pe_int (pa_cons pe_int (pa_cons (pe_un un_neg pe_int) (pa_cons pe_non (pa_cons pe_bl (pa_cons pe_str (pa_cons (pe_tup (pa_cons pe_int pa_nil)) pa_nil)))))))) pa_nil))), ?_⟩
  intro D H row a ns p dx td ts ds ss y3 y4 y5 y6 y7 y8 y9 y10 y11 y12 b nx
  refine ⟨_, rfl, _, rfl, (by show 1 ≤ sizeLine; decide), fun p hp => ⟨(by show 7 ≤ sizeLine; decide), fun sm hsm => ?_⟩⟩
  have s1 := same_upd (o := .tup [.int 1]) hp
  have s2 := same_upd (o := .lst [.int 0, .int 31, .int (-1), .non, .bl true, .str "1", .ref p]) hsm
  have B2 := (b.same s1).same s2
  refine ⟨row, a, sm, ns, _, rfl, B2.RA, upd_same, (b.same s1).RA.nn hsm, by show 1 ≤ 7; decide, by show 7 ≤ 1000; decide, fun v H3 hv RA3 k3 => ?_⟩
  have hp2 := kp_of B2.RA k3 (s2 _ _ upd_same) (fun _ _ _ z => by cases z)
  refine nx H3 v (B2.kp k3 RA3) ?_
  have hv : v = .int 0 ∨ v = .int 31 ∨ v = .int (-1) ∨ v = .non ∨ v = .bl true ∨ v = .str "1" ∨ v = .ref p := by simpa using hv
  rcases hv with rfl | rfl | rfl | rfl | rfl | rfl | rfl
  · exact iv_out (.inl (by decide))
  · exact iv_out (.inr (by decide))
  · exact iv_out (.inl (by decide))
  · exact .inr ⟨rfl, .inl rfl⟩
  · exact .inr ⟨rfl, .inr (.inl rfl)⟩
  · exact .inr ⟨rfl, .inr (.inr (.inl ⟨_, rfl⟩))⟩
  · exact .inr ⟨rfl, .inr (.inr (.inr ⟨_, _, rfl, hp2⟩))⟩
theorem lb_b2 (T : Tx K mg) (hr : Room 7 (XB P w K mg base f (.ref cU) A outer s H0 E).A) : ∃ tt : TS, PS (XB P w K mg base f (.ref cU) A outer s H0 E) (bb 2) tt ∧
    ∀ (D : Ends) (H : Hp) (row a : Addr) (ns : List Int) (p dx td ts : Addr) (ds ss : List Int) (k : Nat) (v : V) (y5 y6 y7 y8 y9 y10 y11 y12 : Option V), BA K T.C (Tb2 PT PU) H row a ns p dx td ts ds ss → k ≤ ds.length → (∀ H' u, BA K T.C (Tb2 PT PU) H' row a ns p dx td ts ds ss → Same H H' → H' u = some (.tup ((ds.take k).map V.int ++ v :: (ds.drop k).map V.int)) → D.nx [some (.ref row), some (.ref td), some (.ref ts), some (.int (k : Int)), some v, some (.ref u), y6, y7, y8, y9, y10, y11, y12] H') → tt D [some (.ref row), some (.ref td), some (.ref ts), some (.int (k : Int)), some v, y5, y6, y7, y8, y9, y10, y11, y12] H := by
  have nd := sc_lbad_rings.nd
  refine ⟨_, ps_set (i := 5) nd rfl (.inr rfl) (pe_op op_catA (pe_op op_catA (pe_slice sl_tupA (pv 1) po_none (po_some (pv 3))) (pe_tup (pa_cons (pv 4) pa_nil))) (pe_slice sl_tupA (pv 1) (po_some (pv 3)) po_none)), ?_⟩
  intro D H row a ns p dx td ts ds ss k v y5 y6 y7 y8 y9 y10 y11 y12 b hk nx
  have l8 := b.G.l8
  refine ⟨_, rfl, _, rfl, _, rfl, ?_⟩
  refine sl_to b.hd (k := (k : Int)) (by omega) (by rw [List.length_map]; omega) fun H1 p1 s1 h1 => ?_
  refine ⟨_, rfl, (by show 1 ≤ sizeLine; decide), fun p2 hp2 => ?_⟩
  have s2 := same_upd (o := .tup [v]) hp2
  refine cat_any (s2 _ _ h1) upd_same (by rw [List.length_take, List.length_map]; have := small1000 (n := ds.length + 1) (by omega); simp only [List.length_cons, List.length_nil]; omega) fun H3 p3 s3 h3 => ?_
  have b3 := ((b.same s1).same s2).same s3
  refine ⟨_, rfl, _, rfl, _, rfl, ?_⟩
  refine noPart ?_
  refine sl_from b3.hd (k := (k : Int)) (by omega) (by rw [List.length_map]; omega) fun H4 p4 s4 h4 => ?_
  refine cat_any (s4 _ _ h3) h4 (by rw [List.length_append, List.length_drop, List.length_take, List.length_map]; simp only [List.length_cons, List.length_nil]; have := small1000 (n := ds.length + ds.length + 1) (by omega); omega) fun H5 u s5 h5 => ?_
  refine nx H5 u ((b3.same s4).same s5) ((((s1.trans s2).trans s3).trans s4).trans s5) ?_
  rw [h5, show ((k : Nat) : Int).toNat = k by omega, List.append_assoc, List.map_take, List.map_drop]
  rfl
theorem lb_b3 (T : Tx K mg) {S : TdS K mg} (B : TdF S) (TB : TabB base mg cU PU) (np : PT ≠ PU) (hr : Room 7 (XB P w K mg base f (.ref cU) A outer s H0 E).A) : ∃ tt : TS, PS (XB P w K mg base f (.ref cU) A outer s H0 E) (bb 3) tt ∧
    ∀ (D : Ends) (H : Hp) (row a : Addr) (ns : List Int) (p dx td ts : Addr) (ds ss : List Int) (k : Nat) (v : V) (u : Addr) (y6 y7 y8 y9 y10 y11 y12 : Option V), BA K T.C (Tb2 PT PU) H row a ns p dx td ts ds ss → RBad H (.ref u) .non "days" (k : Int) → (∀ H', BA K T.C (Tb2 PT PU) H' row a ns p dx td ts ds ss → D.nx [some (.ref row), some (.ref td), some (.ref ts), some (.int (k : Int)), some v, some (.ref u), y6, y7, y8, y9, y10, y11, y12] H') → tt D [some (.ref row), some (.ref td), some (.ref ts), some (.int (k : Int)), some v, some (.ref u), y6, y7, y8, y9, y10, y11, y12] H := by
  have nd := sc_lbad_rings.nd
  refine ⟨_, ps_if (pt_cmpR (op_neD hr.units) (pe_told1 (k := 5) T B TB (List.mem_cons_of_mem _ List.mem_cons_self) (hu2 np) rfl (by rfl) (lamP_by (N := N_lbad_rings) (sc := defScope s_lbad_rings) (by decide +kernel)) rfl (fun _ _ _ _ _ _ _ => .of_eq rfl) (hr.mono (by decide : 7 ≤ 7)) (fun A outer s H E f c' hr2 => pe_make (E := E) T.mkR (ok_inX T B) hr2 (by rfl) T.gC T.b_rinit .nil (passes_call (takes_of rfl rfl rfl rfl) (fun _ _ _ _ z => z)) (pa_cons (pv 5) (pa_cons pe_non pa_nil)))) (pe_tup (pa_cons pe_str (pa_cons pe_str (pa_cons (pe_lst (pa_cons pe_str (pa_cons (pv 3) pa_nil))) pa_nil)))) (nomark _)) (pss_one (ps_ret pe_bl)) pss_nil, ?_⟩
  intro D H row a ns p dx td ts ds ss k v u y6 y7 y8 y9 y10 y11 y12 b g nx
  refine ⟨b.tb, fun H1 x1 t1 E' hE => ?_⟩
  have b1 := b.extN x1 t1
  have g1 := g.extN x1
  refine ⟨_, rfl, fun x z nx0 nz ne => ?_⟩
  have s0 := same_new (C := T.C) nx0 nz
  refine ⟨x, .ref u, .non, "days", (k : Int), rfl, g1.same s0, fun dd H2 s2 hd => ?_⟩
  refine hE _ _ _ (.inr ⟨dd, .str "days", .int (k : Int), rfl, rfl, hd, fun p2 l2 H3 s3 hl2 hp2 => ?_⟩)
  refine ⟨_, rfl, (by show 2 ≤ sizeLine; decide), fun l3 h3 => ⟨(by show 3 ≤ sizeLine; decide), fun t3 ht3 => ?_⟩⟩
  have s4 := same_upd (o := .lst [.str "days", .int (k : Int)]) h3
  have s5 := same_upd (o := .tup [.str "error", .str "InvalidRing", .ref l3]) ht3
  refine ⟨dR "days" (k : Int), dR "days" (k : Int), dp_ir (s5 _ _ (s4 _ _ hp2)) (s5 _ _ (s4 _ _ hl2)), dp_ir upd_same (s5 _ _ upd_same), dR_shaped _ _ g1.strOk, dR_shaped _ _ g1.strOk, _, rfl, ?_⟩
  rw [dR_eqv]
  exact iteF (nx _ (((((b1.same s0).same s2).same s3).same s4).same s5))
theorem lb_b4 (T : Tx K mg) (hr : Room 7 (XB P w K mg base f (.ref cU) A outer s H0 E).A) : ∃ tt : TS, PS (XB P w K mg base f (.ref cU) A outer s H0 E) (bb 4) tt ∧
    ∀ (D : Ends) (H : Hp) (row a : Addr) (ns : List Int) (p dx td ts : Addr) (ds ss : List Int) (y3 y4 y5 y6 y7 y8 y9 y10 y11 y12 : Option V), BA K T.C (Tb2 PT PU) H row a ns p dx td ts ds ss → (∀ H' v, BA K T.C (Tb2 PT PU) H' row a ns p dx td ts ds ss → Iv H' v 0 12 false → D.nx [some (.ref row), some (.ref td), some (.ref ts), y3, some v, y5, y6, y7, y8, y9, y10, y11, y12] H') → tt D [some (.ref row), some (.ref td), some (.ref ts), y3, y4, y5, y6, y7, y8, y9, y10, y11, y12] H := by
  have nd := sc_lbad_rings.nd
  refine ⟨_, ps_set (i := 4) nd rfl (.inl rfl) (pe_call (ok_pickV T) (hr.mono (by decide : 2 ≤ 7)) (by rfl) T.g_lpick T.F_lpick.kp T.b_lpick .nil pass0 (pa_cons (pv 0) (pa_cons (pe_lst (pa_cons pe_int (pa_cons (pe_un un_neg pe_int) (pa_cons pe_non (pa_cons pe_bl (pa_cons pe_str pa_nil)))))) pa_nil))), ?_⟩
  intro D H row a ns p dx td ts ds ss y3 y4 y5 y6 y7 y8 y9 y10 y11 y12 b nx
  refine ⟨_, rfl, _, rfl, (by show 5 ≤ sizeLine; decide), fun sm hsm => ?_⟩
  have s2 := same_upd (o := .lst [.int 13, .int (-1), .non, .bl true, .str "1"]) hsm
  have B2 := b.same s2
  refine ⟨row, a, sm, ns, _, rfl, B2.RA, upd_same, b.RA.nn hsm, by show 1 ≤ 5; decide, by show 5 ≤ 1000; decide, fun v H3 hv RA3 k3 => ?_⟩
  refine nx H3 v (B2.kp k3 RA3) ?_
  have hv : v = .int 13 ∨ v = .int (-1) ∨ v = .non ∨ v = .bl true ∨ v = .str "1" := by simpa using hv
  rcases hv with rfl | rfl | rfl | rfl | rfl
  · exact iv_out (.inr (by decide))
  · exact iv_out (.inl (by decide))
  · exact .inr ⟨rfl, .inl rfl⟩
  · exact .inr ⟨rfl, .inr (.inl rfl)⟩
  · exact .inr ⟨rfl, .inr (.inr (.inl ⟨_, rfl⟩))⟩
theorem lb_b5 (T : Tx K mg) (hr : Room 7 (XB P w K mg base f (.ref cU) A outer s H0 E).A) : ∃ tt : TS, PS (XB P w K mg base f (.ref cU) A outer s H0 E) (bb 5) tt ∧
    ∀ (D : Ends) (H : Hp) (row a : Addr) (ns : List Int) (p dx td ts : Addr) (ds ss : List Int) (v : V) (y3 y5 y6 y7 y8 y9 y10 y11 y12 : Option V), BA K T.C (Tb2 PT PU) H row a ns p dx td ts ds ss → Iv H v 0 12 false → (∀ H' (k : Nat), BA K T.C (Tb2 PT PU) H' row a ns p dx td ts ds ss → Iv H' v 0 12 false → k < ds.length → D.nx [some (.ref row), some (.ref td), some (.ref ts), some (.int (k : Int)), some v, y5, y6, y7, y8, y9, y10, y11, y12] H') → tt D [some (.ref row), some (.ref td), some (.ref ts), y3, some v, y5, y6, y7, y8, y9, y10, y11, y12] H := by
  have nd := sc_lbad_rings.nd
  refine ⟨_, ps_set (i := 3) nd rfl (.inl rfl) (pe_call (ok_next T) (hr.mono (by decide : 1 ≤ 7)) (by rfl) T.g_lnext T.F_lnext.kp T.b_lnext .nil pass0 (pa_cons (pv 0) (pa_cons (pe_callB call_len_seq (by rfl) T.z_len PySem.boot_len (pa_cons (pv 2) pa_nil)) pa_nil))), ?_⟩
  intro D H row a ns p dx td ts ds ss v y3 y5 y6 y7 y8 y9 y10 y11 y12 b hv nx
  have l8 := b.G.l8
  have l2 := b.G.l2
  have ls := b.G.ls
  refine ⟨_, rfl, _, rfl, ts, _, rfl, .inr (.of b.hs), row, a, ns, _, rfl, b.RA, by rw [List.length_map]; omega, by rw [List.length_map]; omega, fun x H' v0 v1 RA' kk => ?_⟩
  rw [List.length_map] at v1
  obtain ⟨k, rfl⟩ : ∃ k : Nat, x = (k : Int) := ⟨x.toNat, by omega⟩
  exact nx H' k (b.kp kk RA') (hv.kp b.RA kk) (by omega)
theorem lb_b6 (T : Tx K mg) (hr : Room 7 (XB P w K mg base f (.ref cU) A outer s H0 E).A) : ∃ tt : TS, PS (XB P w K mg base f (.ref cU) A outer s H0 E) (bb 6) tt ∧
    ∀ (D : Ends) (H : Hp) (row a : Addr) (ns : List Int) (p dx td ts : Addr) (ds ss : List Int) (k : Nat) (v : V) (y5 y6 y7 y8 y9 y10 y11 y12 : Option V), BA K T.C (Tb2 PT PU) H row a ns p dx td ts ds ss → k < ds.length → (∀ H' u, BA K T.C (Tb2 PT PU) H' row a ns p dx td ts ds ss → Same H H' → H' u = some (.tup ((ss.take k).map V.int ++ v :: (ss.drop (k + 1)).map V.int)) → D.nx [some (.ref row), some (.ref td), some (.ref ts), some (.int (k : Int)), some v, some (.ref u), y6, y7, y8, y9, y10, y11, y12] H') → tt D [some (.ref row), some (.ref td), some (.ref ts), some (.int (k : Int)), some v, y5, y6, y7, y8, y9, y10, y11, y12] H := by
  have nd := sc_lbad_rings.nd
  refine ⟨_, ps_set (i := 5) nd rfl (.inr rfl) (pe_op op_catA (pe_op op_catA (pe_slice sl_tupA (pv 2) po_none (po_some (pv 3))) (pe_tup (pa_cons (pv 4) pa_nil))) (pe_slice sl_tupA (pv 2) (po_some (pe_op op_add (pv 3) pe_int)) po_none)), ?_⟩
  intro D H row a ns p dx td ts ds ss k v y5 y6 y7 y8 y9 y10 y11 y12 b hk nx
  have l8 := b.G.l8
  have ls := b.G.ls
  refine ⟨_, rfl, _, rfl, _, rfl, ?_⟩
  refine sl_to b.hs (k := (k : Int)) (by omega) (by rw [List.length_map]; omega) fun H1 p1 s1 h1 => ?_
  refine ⟨_, rfl, (by show 1 ≤ sizeLine; decide), fun p2 hp2 => ?_⟩
  have s2 := same_upd (o := .tup [v]) hp2
  refine cat_any (s2 _ _ h1) upd_same (by rw [List.length_take, List.length_map]; have := small1000 (n := ss.length + 1) (by omega); simp only [List.length_cons, List.length_nil]; omega) fun H3 p3 s3 h3 => ?_
  have b3 := ((b.same s1).same s2).same s3
  refine ⟨_, rfl, _, rfl, _, _, rfl, rfl, _, rfl, ?_⟩
  refine noPart ?_
  refine sl_from b3.hs (k := (k : Int) + 1) (by omega) (by rw [List.length_map]; omega) fun H4 p4 s4 h4 => ?_
  refine cat_any (s4 _ _ h3) h4 (by rw [List.length_append, List.length_drop, List.length_take, List.length_map]; simp only [List.length_cons, List.length_nil]; have := small1000 (n := ss.length + ss.length + 1) (by omega); omega) fun H5 u s5 h5 => ?_
  refine nx H5 u ((b3.same s4).same s5) ((((s1.trans s2).trans s3).trans s4).trans s5) ?_
  rw [h5, show ((k : Nat) : Int).toNat = k by omega, show ((k : Int) + 1).toNat = k + 1 by omega, List.append_assoc, List.map_take, List.map_drop]
  rfl
theorem lb_b7 (T : Tx K mg) {S : TdS K mg} (B : TdF S) (TB : TabB base mg cU PU) (np : PT ≠ PU) (hr : Room 7 (XB P w K mg base f (.ref cU) A outer s H0 E).A) : ∃ tt : TS, PS (XB P w K mg base f (.ref cU) A outer s H0 E) (bb 7) tt ∧
    ∀ (D : Ends) (H : Hp) (row a : Addr) (ns : List Int) (p dx td ts : Addr) (ds ss : List Int) (k : Nat) (v : V) (u : Addr) (y6 y7 y8 y9 y10 y11 y12 : Option V), BA K T.C (Tb2 PT PU) H row a ns p dx td ts ds ss → RBad H (.ref td) (.ref u) "starts" (k : Int) → (∀ H', BA K T.C (Tb2 PT PU) H' row a ns p dx td ts ds ss → D.nx [some (.ref row), some (.ref td), some (.ref ts), some (.int (k : Int)), some v, some (.ref u), y6, y7, y8, y9, y10, y11, y12] H') → tt D [some (.ref row), some (.ref td), some (.ref ts), some (.int (k : Int)), some v, some (.ref u), y6, y7, y8, y9, y10, y11, y12] H := by
  have nd := sc_lbad_rings.nd
  refine ⟨_, ps_if (pt_cmpR (op_neD hr.units) (pe_told1 (k := 5) T B TB (List.mem_cons_of_mem _ List.mem_cons_self) (hu2 np) rfl (by rfl) (lamP_by (N := N_lbad_rings) (sc := defScope s_lbad_rings) (by decide +kernel)) rfl (fun _ _ _ _ _ _ _ => .of_eq rfl) (hr.mono (by decide : 7 ≤ 7)) (fun A outer s H E f c' hr2 => pe_make (E := E) T.mkR (ok_inX T B) hr2 (by rfl) T.gC T.b_rinit .nil (passes_call (takes_of rfl rfl rfl rfl) (fun _ _ _ _ z => z)) (pa_cons (pv 1) (pa_cons (pv 5) pa_nil)))) (pe_tup (pa_cons pe_str (pa_cons pe_str (pa_cons (pe_lst (pa_cons pe_str (pa_cons (pv 3) pa_nil))) pa_nil)))) (nomark _)) (pss_one (ps_ret pe_bl)) pss_nil, ?_⟩
  intro D H row a ns p dx td ts ds ss k v u y6 y7 y8 y9 y10 y11 y12 b g nx
  refine ⟨b.tb, fun H1 x1 t1 E' hE => ?_⟩
  have b1 := b.extN x1 t1
  have g1 := g.extN x1
  refine ⟨_, rfl, _, rfl, fun x z nx0 nz ne => ?_⟩
  have s0 := same_new (C := T.C) nx0 nz
  refine ⟨x, .ref td, .ref u, "starts", (k : Int), rfl, g1.same s0, fun dd H2 s2 hd => ?_⟩
  refine hE _ _ _ (.inr ⟨dd, .str "starts", .int (k : Int), rfl, rfl, hd, fun p2 l2 H3 s3 hl2 hp2 => ?_⟩)
  refine ⟨_, rfl, (by show 2 ≤ sizeLine; decide), fun l3 h3 => ⟨(by show 3 ≤ sizeLine; decide), fun t3 ht3 => ?_⟩⟩
  have s4 := same_upd (o := .lst [.str "starts", .int (k : Int)]) h3
  have s5 := same_upd (o := .tup [.str "error", .str "InvalidRing", .ref l3]) ht3
  refine ⟨dR "starts" (k : Int), dR "starts" (k : Int), dp_ir (s5 _ _ (s4 _ _ hp2)) (s5 _ _ (s4 _ _ hl2)), dp_ir upd_same (s5 _ _ upd_same), dR_shaped _ _ g1.strOk, dR_shaped _ _ g1.strOk, _, rfl, ?_⟩
  rw [dR_eqv]
  exact iteF (nx _ (((((b1.same s0).same s2).same s3).same s4).same s5))
theorem lb_b8 (T : Tx K mg) (hr : Room 7 (XB P w K mg base f (.ref cU) A outer s H0 E).A) : ∃ tt : TS, PS (XB P w K mg base f (.ref cU) A outer s H0 E) (bb 8) tt ∧
    ∀ (D : Ends) (H : Hp) (row a : Addr) (ns : List Int) (p dx td ts : Addr) (ds ss : List Int) (y3 y4 y5 y6 y7 y8 y9 y10 y11 y12 : Option V), BA K T.C (Tb2 PT PU) H row a ns p dx td ts ds ss → (∀ H' z, BA K T.C (Tb2 PT PU) H' row a ns p dx td ts ds ss → H' z = some (.tup ((List.replicate ds.length (0 : Int)).map V.int)) → D.nx [some (.ref row), some (.ref td), some (.ref ts), y3, y4, y5, some (.ref z), some (.int (ds.length : Int)), y8, y9, y10, y11, y12] H') → tt D [some (.ref row), some (.ref td), some (.ref ts), y3, y4, y5, y6, y7, y8, y9, y10, y11, y12] H := by
  have nd := sc_lbad_rings.nd
  refine ⟨_, ps_par (i := 6) (j := 7) rfl nd rfl rfl (by decide) rfl rfl (pa_cons (pe_op op_repP (pe_tup (pa_cons pe_int pa_nil)) (pe_callB call_len_seq (by rfl) T.z_len PySem.boot_len (pa_cons (pv 1) pa_nil))) (pa_cons (pe_callB call_len_seq (by rfl) T.z_len PySem.boot_len (pa_cons (pv 1) pa_nil)) pa_nil)) rfl, ?_⟩
  intro D H row a ns p dx td ts ds ss y3 y4 y5 y6 y7 y8 y9 y10 y11 y12 b nx
  have l8 := b.G.l8
  have l2 := b.G.l2
  refine ⟨(by show 1 ≤ sizeLine; decide), fun p hp => ?_⟩
  have s1 := same_upd (o := .tup [.int 0]) hp
  refine ⟨_, rfl, td, _, rfl, .inr (.of (s1 _ _ b.hd)), ?_⟩
  rw [List.length_map]
  refine rep_go upd_same (by omega) (by omega) fun H2 z s2 hz => ?_
  have b2 := (b.same s1).same s2
  refine ⟨_, rfl, td, _, rfl, .inr (.of b2.hd), _, _, rfl, ?_⟩
  rw [List.length_map]
  exact nx H2 z b2 hz
theorem lb_b9 (T : Tx K mg) (hr : Room 7 (XB P w K mg base f (.ref cU) A outer s H0 E).A) : ∃ tt : TS, PS (XB P w K mg base f (.ref cU) A outer s H0 E) (bb 9) tt ∧
    ∀ (D : Ends) (H : Hp) (row a : Addr) (ns : List Int) (p dx td ts : Addr) (ds ss : List Int) (z : Addr) (y3 y4 y5 y8 y9 y10 y11 y12 : Option V), BA K T.C (Tb2 PT PU) H row a ns p dx td ts ds ss → H z = some (.tup ((List.replicate ds.length (0 : Int)).map V.int)) → (∀ H' l xs, BA K T.C (Tb2 PT PU) H' row a ns p dx td ts ds ss → H' z = some (.tup ((List.replicate ds.length (0 : Int)).map V.int)) → Rws H' l xs 3 → D.nx [some (.ref row), some (.ref td), some (.ref ts), y3, y4, y5, some (.ref z), some (.int (ds.length : Int)), some (.ref l), y9, y10, y11, y12] H') → tt D [some (.ref row), some (.ref td), some (.ref ts), y3, y4, y5, some (.ref z), some (.int (ds.length : Int)), y8, y9, y10, y11, y12] H := by
  have nd := sc_lbad_rings.nd
  refine ⟨_, ps_set (i := 8) nd rfl (.inl rfl) (pe_lst (pa_cons (pe_tup (pa_cons (pv 1) (pa_cons (pv 6) (pa_cons pe_str (pa_cons (pe_un un_neg pe_int) pa_nil))))) (pa_cons (pe_tup (pa_cons (pv 1) (pa_cons (pe_op op_catA (pe_tup (pa_cons pe_int pa_nil)) (pe_op op_repP (pe_tup (pa_cons pe_int pa_nil)) (pe_op op_sub (pv 7) pe_int))) (pa_cons pe_str (pa_cons (pe_un un_neg pe_int) pa_nil))))) (pa_cons (pe_tup (pa_cons (pe_tup (pa_cons pe_int pa_nil)) (pa_cons (pe_tup (pa_cons pe_int pa_nil)) (pa_cons pe_str (pa_cons pe_int pa_nil))))) pa_nil)))), ?_⟩
  intro D H row a ns p dx td ts ds ss z y3 y4 y5 y8 y9 y10 y11 y12 b hz nx
  have l8 := b.G.l8
  have l2 := b.G.l2
  have ls := b.G.ls
  have zmem : ∀ y ∈ List.replicate ds.length (0 : Int), 0 ≤ y ∧ y ≤ 12 := fun y hy => by rw [(List.mem_replicate.mp hy).2]; decide
  have g1 : RBad H (.ref td) (.ref z) "starts" (-1) := rb_sum b.G b.hd hz zmem (List.length_replicate) (by rw [sum_rep]; omega)
  refine ⟨_, rfl, _, rfl, _, rfl, (by show 4 ≤ sizeLine; decide), fun t1 ht1 => ?_⟩
  have s1 := same_upd (o := .tup [.ref td, .ref z, .str "starts", .int (-1)]) ht1
  refine ⟨_, rfl, (by show 1 ≤ sizeLine; decide), fun p2 hp2 => ?_⟩
  have s2 := same_upd (o := .tup [.int 12]) hp2
  refine ⟨(by show 1 ≤ sizeLine; decide), fun p3 hp3 => ?_⟩
  have s3 := same_upd (o := .tup [.int 1]) hp3
  refine ⟨_, rfl, _, _, rfl, rfl, ?_⟩
  show rRepP K (.ref p3) (.int ((ds.length : Int) - 1)) _ _
  rw [show (ds.length : Int) - 1 = ((ds.length - 1 : Nat) : Int) by omega]
  refine rep_go upd_same (by omega) (by omega) fun H4 p4 s4 h4 => ?_
  refine cat_any (s4 _ _ (s3 _ _ upd_same)) h4 (by rw [List.length_map, List.length_replicate]; simp only [List.length_cons, List.length_nil]; have := small1000 (n := ds.length + 1) (by omega); omega) fun H5 p5 s5 h5 => ?_
  have S5 := (((s1.trans s2).trans s3).trans s4).trans s5
  have e5 : H5 p5 = some (.tup (((12 : Int) :: List.replicate (ds.length - 1) 1).map V.int)) := h5
  have b5 := b.same S5
  have g2 : RBad H5 (.ref td) (.ref p5) "starts" (-1) := rb_sum b5.G b5.hd e5 (fun y hy => by
    rcases List.mem_cons.mp hy with rfl | hy
    · decide
    · rw [(List.mem_replicate.mp hy).2]; decide) (by rw [List.length_cons, List.length_replicate]; omega) (by rw [List.sum_cons, sum_rep]; omega)
  refine ⟨_, rfl, (by show 4 ≤ sizeLine; decide), fun t2 ht2 => ?_⟩
  have s6 := same_upd (o := .tup [.ref td, .ref p5, .str "starts", .int (-1)]) ht2
  refine ⟨(by show 1 ≤ sizeLine; decide), fun p6 hp6 => ⟨(by show 1 ≤ sizeLine; decide), fun p7 hp7 => ⟨(by show 4 ≤ sizeLine; decide), fun t3 ht3 => ?_⟩⟩⟩
  have s7 := same_upd (o := .tup [.int 3]) hp6
  have s8 := same_upd (o := .tup [.int 1]) hp7
  have s9 := same_upd (o := .tup [.ref p6, .ref p7, .str "days", .int 1]) ht3
  refine ⟨(by show 3 ≤ sizeLine; decide), fun l hl => ?_⟩
  have s10 := same_upd (o := .lst [.ref t1, .ref t2, .ref t3]) hl
  have S10 := (((s6.trans s7).trans s8).trans s9).trans s10
  refine nx _ l _ (b5.same S10) (S10 _ _ (S5 _ _ hz)) ⟨upd_same, rfl, fun v hv => ?_⟩
  have hv : v = .ref t1 ∨ v = .ref t2 ∨ v = .ref t3 := by simpa using hv
  rcases hv with rfl | rfl | rfl
  · exact ⟨t1, _, _, _, _, rfl, S10 _ _ (s5 _ _ (s4 _ _ (s3 _ _ (s2 _ _ upd_same)))), (g1.same S5).same S10⟩
  · exact ⟨t2, _, _, _, _, rfl, s10 _ _ (s9 _ _ (s8 _ _ (s7 _ _ upd_same))), g2.same S10⟩
  · refine ⟨t3, _, _, _, _, rfl, s10 _ _ upd_same, rb_days ?_⟩
    have e := s10 _ _ (s9 _ _ (s8 _ _ upd_same))
    exact pb_short (ns := [3]) e (fun y hy => by obtain rfl := List.mem_singleton.mp hy; decide) (by decide) (by decide) (by decide)
theorem lb_b10 (T : Tx K mg) (hr : Room 7 (XB P w K mg base f (.ref cU) A outer s H0 E).A) : ∃ tt : TS, PS (XB P w K mg base f (.ref cU) A outer s H0 E) (bb 10) tt ∧
    ∀ (D : Ends) (H : Hp) (row a : Addr) (ns : List Int) (p dx td ts : Addr) (ds ss : List Int) (z l : Addr) (xs : List V) (y3 y4 y5 y9 y10 y11 y12 : Option V), BA K T.C (Tb2 PT PU) H row a ns p dx td ts ds ss → H z = some (.tup ((List.replicate ds.length (0 : Int)).map V.int)) → Rws H l xs 3 → (∀ H' l' xs', BA K T.C (Tb2 PT PU) H' row a ns p dx td ts ds ss → Rws H' l' xs' 6 → D.nx [some (.ref row), some (.ref td), some (.ref ts), y3, y4, y5, some (.ref z), some (.int (ds.length : Int)), some (.ref l'), y9, y10, y11, y12] H') → tt D [some (.ref row), some (.ref td), some (.ref ts), y3, y4, y5, some (.ref z), some (.int (ds.length : Int)), some (.ref l), y9, y10, y11, y12] H := by
  have nd := sc_lbad_rings.nd
  refine ⟨_, ps_set (i := 8) nd rfl (.inl rfl) (pe_op op_cat (pv 8) (pe_lst (pa_cons (pe_tup (pa_cons (pv 1) (pa_cons (pe_slice sl_tupA (pv 6) (po_some pe_int) po_none) (pa_cons pe_str (pa_cons (pe_op op_sub (pv 7) pe_int) pa_nil))))) (pa_cons (pe_tup (pa_cons (pv 1) (pa_cons (pe_op op_catA (pv 6) (pe_tup (pa_cons pe_int pa_nil))) (pa_cons pe_str (pa_cons (pv 7) pa_nil))))) (pa_cons (pe_tup (pa_cons (pe_tup pa_nil) (pa_cons (pe_tup pa_nil) (pa_cons pe_str (pa_cons pe_int pa_nil))))) pa_nil))))), ?_⟩
  intro D H row a ns p dx td ts ds ss z l xs y3 y4 y5 y9 y10 y11 y12 b hz R nx
  have l8 := b.G.l8
  have l2 := b.G.l2
  refine ⟨_, rfl, _, rfl, _, rfl, _, rfl, ?_⟩
  refine noPart ?_
  refine sl_from hz (k := 1) (by decide) (by rw [List.length_map, List.length_replicate]; omega) fun H1 p1 s1 h1 => ?_
  refine ⟨_, rfl, _, _, rfl, rfl, (by show 4 ≤ sizeLine; decide), fun t1 ht1 => ?_⟩
  have s2 := same_upd (o := .tup [.ref td, .ref p1, .str "starts", .int ((ds.length : Int) - 1)]) ht1
  refine ⟨_, rfl, _, rfl, (by show 1 ≤ sizeLine; decide), fun p3 hp3 => ?_⟩
  have s3 := same_upd (o := .tup [.int 1]) hp3
  refine cat_any (s3 _ _ (s2 _ _ (s1 _ _ hz))) upd_same (by rw [List.length_map, List.length_replicate]; simp only [List.length_cons, List.length_nil]; have := small1000 (n := ds.length + 1) (by omega); omega) fun H4 p4 s4 h4 => ?_
  refine ⟨_, rfl, (by show 4 ≤ sizeLine; decide), fun t2 ht2 => ?_⟩
  have s5 := same_upd (o := .tup [.ref td, .ref p4, .str "starts", .int (ds.length : Int)]) ht2
  refine ⟨(by show 0 ≤ sizeLine; decide), fun p6 hp6 => ⟨(by show 0 ≤ sizeLine; decide), fun p7 hp7 => ⟨(by show 4 ≤ sizeLine; decide), fun t3 ht3 => ?_⟩⟩⟩
  have s6 := same_upd (o := .tup []) hp6
  have s7 := same_upd (o := .tup []) hp7
  have s8 := same_upd (o := .tup [.ref p6, .ref p7, .str "days", .int 0]) ht3
  refine ⟨(by show 3 ≤ sizeLine; decide), fun l2' hl2 => ?_⟩
  have s9 := same_upd (o := .lst [.ref t1, .ref t2, .ref t3]) hl2
  have S14 := (s1.trans s2).trans (s3.trans s4)
  have S59 := (((s5.trans s6).trans s7).trans s8).trans s9
  have S := S14.trans S59
  refine ⟨l, l2', xs, _, rfl, rfl, S _ _ R.h, upd_same, by rw [R.len]; have := small1000 (n := 6) (by decide); simp only [List.length_cons, List.length_nil]; omega, fun l3 hl3 => ?_⟩
  have s10 := same_upd (o := .lst (xs ++ [.ref t1, .ref t2, .ref t3])) hl3
  have bb := (b.same S).same s10
  refine nx _ l3 _ bb ⟨upd_same, by rw [List.length_append, R.len]; rfl, fun v hv => ?_⟩
  rcases List.mem_append.mp hv with hv | hv
  · exact ((R.all v hv).same S).same s10
  have hv : v = .ref t1 ∨ v = .ref t2 ∨ v = .ref t3 := by simpa using hv
  rcases hv with rfl | rfl | rfl
  · refine ⟨t1, _, _, _, _, rfl, s10 _ _ (S59 _ _ (s4 _ _ (s3 _ _ upd_same))), rb_starts bb.G bb.hd ?_⟩
    have e : (upd (upd H1 t1 (.tup [.ref td, .ref p1, .str "starts", .int ((ds.length : Int) - 1)])) p3 (.tup [.int 1])) p1 = some (.tup ((List.replicate (ds.length - 1) (0 : Int)).map V.int)) := by
      refine s3 _ _ (s2 _ _ ?_)
      rw [h1, ← List.map_drop, List.drop_replicate]
      rfl
    have g := pb_short (lo := 0) (hi := 12) (f := (ds.length : Int)) (m := (ds.length : Int)) (s10 _ _ (S59 _ _ (s4 _ _ e))) (fun y hy => by rw [(List.mem_replicate.mp hy).2]; decide) (by rw [List.length_replicate]; omega) (by rw [List.length_replicate]; omega) (by rw [List.length_replicate]; omega)
    rw [List.length_replicate, show ((ds.length - 1 : Nat) : Int) = (ds.length : Int) - 1 by omega] at g
    exact g
  · refine ⟨t2, _, _, _, _, rfl, s10 _ _ (s9 _ _ (s8 _ _ (s7 _ _ (s6 _ _ upd_same)))), rb_starts bb.G bb.hd ?_⟩
    have e : H4 p4 = some (.tup ((List.replicate ds.length (0 : Int) ++ [1]).map V.int)) := by
      rw [h4, List.map_append]
      rfl
    exact pb_long (m := ds.length) (s10 _ _ (S59 _ _ e)) (fun y hy => by
      rcases List.mem_append.mp hy with hy | hy
      · rw [(List.mem_replicate.mp hy).2]; decide
      · obtain rfl := List.mem_singleton.mp hy; decide) (by rw [List.length_append, List.length_replicate]; simp) (by rw [List.length_append, List.length_replicate]; simp only [List.length_cons, List.length_nil]; omega)
  · refine ⟨t3, _, _, _, _, rfl, s10 _ _ (s9 _ _ upd_same), rb_days ?_⟩
    exact pb_short (ns := []) (s10 _ _ (s9 _ _ (s8 _ _ (s7 _ _ upd_same)))) (fun y hy => by cases hy) (by decide) (by decide) (by decide)
theorem lb_b11 (T : Tx K mg) (hr : Room 7 (XB P w K mg base f (.ref cU) A outer s H0 E).A) : ∃ tt : TS, PS (XB P w K mg base f (.ref cU) A outer s H0 E) (bb 11) tt ∧
    ∀ (D : Ends) (H : Hp) (row a : Addr) (ns : List Int) (p dx td ts : Addr) (ds ss : List Int) (z l : Addr) (xs : List V) (y3 y4 y5 y9 y10 y11 y12 : Option V), BA K T.C (Tb2 PT PU) H row a ns p dx td ts ds ss → Rws H l xs 6 → (∀ H' l' xs', BA K T.C (Tb2 PT PU) H' row a ns p dx td ts ds ss → Rws H' l' xs' 9 → D.nx [some (.ref row), some (.ref td), some (.ref ts), y3, y4, y5, some (.ref z), some (.int (ds.length : Int)), some (.ref l'), y9, y10, y11, y12] H') → tt D [some (.ref row), some (.ref td), some (.ref ts), y3, y4, y5, some (.ref z), some (.int (ds.length : Int)), some (.ref l), y9, y10, y11, y12] H := by
  have nd := sc_lbad_rings.nd
  refine ⟨_, ps_set (i := 8) nd rfl (.inl rfl) (pe_op op_cat (pv 8) (pe_lst (pa_cons (pe_tup (pa_cons (pe_callTy (T := "list") call_list_of (by rfl) T.z_list (by decide +kernel) (pa_cons (pv 1) pa_nil)) (pa_cons (pv 2) (pa_cons pe_str (pa_cons pe_int pa_nil))))) (pa_cons (pe_tup (pa_cons (pv 1) (pa_cons (pe_callTy (T := "list") call_list_of (by rfl) T.z_list (by decide +kernel) (pa_cons (pv 2) pa_nil)) (pa_cons pe_str (pa_cons pe_int pa_nil))))) (pa_cons (pe_tup (pa_cons pe_non (pa_cons pe_int (pa_cons pe_str (pa_cons pe_int pa_nil))))) pa_nil))))), ?_⟩
  intro D H row a ns p dx td ts ds ss z l xs y3 y4 y5 y9 y10 y11 y12 b R nx
  refine ⟨_, rfl, _, rfl, td, _, rfl, .inr (.of b.hd), fun p1 hp1 => ?_⟩
  have s1 := same_upd (o := .lst (ds.map V.int)) hp1
  refine ⟨_, rfl, (by show 4 ≤ sizeLine; decide), fun t1 ht1 => ?_⟩
  have s2 := same_upd (o := .tup [.ref p1, .ref ts, .str "days", .int 0]) ht1
  have b2 := (b.same s1).same s2
  refine ⟨_, rfl, _, rfl, ts, _, rfl, .inr (.of b2.hs), fun p3 hp3 => ?_⟩
  have s3 := same_upd (o := .lst (ss.map V.int)) hp3
  refine ⟨(by show 4 ≤ sizeLine; decide), fun t2 ht2 => ⟨(by show 4 ≤ sizeLine; decide), fun t3 ht3 => ⟨(by show 3 ≤ sizeLine; decide), fun l2' hl2 => ?_⟩⟩⟩
  have s4 := same_upd (o := .tup [.ref td, .ref p3, .str "starts", .int 0]) ht2
  have s5 := same_upd (o := .tup [.non, .int 5, .str "days", .int 0]) ht3
  have s6 := same_upd (o := .lst [.ref t1, .ref t2, .ref t3]) hl2
  have S := ((((s1.trans s2).trans s3).trans s4).trans s5).trans s6
  refine ⟨l, l2', xs, _, rfl, rfl, S _ _ R.h, upd_same, by rw [R.len]; have := small1000 (n := 9) (by decide); simp only [List.length_cons, List.length_nil]; omega, fun l3 hl3 => ?_⟩
  have s10 := same_upd (o := .lst (xs ++ [.ref t1, .ref t2, .ref t3])) hl3
  have bb := (b.same S).same s10
  refine nx _ l3 _ bb ⟨upd_same, by rw [List.length_append, R.len]; rfl, fun v hv => ?_⟩
  rcases List.mem_append.mp hv with hv | hv
  · exact ((R.all v hv).same S).same s10
  have hv : v = .ref t1 ∨ v = .ref t2 ∨ v = .ref t3 := by simpa using hv
  rcases hv with rfl | rfl | rfl
  · exact ⟨t1, _, _, _, _, rfl, s10 _ _ (s6 _ _ (s5 _ _ (s4 _ _ (s3 _ _ upd_same)))), rb_days (.inl ⟨.inr (.inr ⟨p1, _, rfl, s10 _ _ (s6 _ _ (s5 _ _ (s4 _ _ (s3 _ _ (s2 _ _ upd_same)))))⟩), rfl⟩)⟩
  · exact ⟨t2, _, _, _, _, rfl, s10 _ _ (s6 _ _ (s5 _ _ upd_same)), rb_starts bb.G bb.hd (.inl ⟨.inr (.inr ⟨p3, _, rfl, s10 _ _ (s6 _ _ (s5 _ _ (s4 _ _ upd_same)))⟩), rfl⟩)⟩
  · exact ⟨t3, _, _, _, _, rfl, s10 _ _ (s6 _ _ upd_same), rb_days (.inl ⟨.inl rfl, rfl⟩)⟩
theorem lb_b12 (T : Tx K mg) (hr : Room 7 (XB P w K mg base f (.ref cU) A outer s H0 E).A) : ∃ tt : TS, PS (XB P w K mg base f (.ref cU) A outer s H0 E) (bb 12) tt ∧
    ∀ (D : Ends) (H : Hp) (row a : Addr) (ns : List Int) (p dx td ts : Addr) (ds ss : List Int) (z l : Addr) (xs : List V) (y3 y4 y5 y9 y10 y11 y12 : Option V), BA K T.C (Tb2 PT PU) H row a ns p dx td ts ds ss → Rws H l xs 9 → (∀ H' xs', BA K T.C (Tb2 PT PU) H' row a ns p dx td ts ds ss → Rws H' l xs' 10 → D.nx [some (.ref row), some (.ref td), some (.ref ts), y3, y4, y5, some (.ref z), some (.int (ds.length : Int)), some (.ref l), y9, y10, y11, y12] H') → tt D [some (.ref row), some (.ref td), some (.ref ts), y3, y4, y5, some (.ref z), some (.int (ds.length : Int)), some (.ref l), y9, y10, y11, y12] H := by
  have nd := sc_lbad_rings.nd
  refine ⟨_, ps_expr (pe_bm PySem.F.plainAttrs_list PySem.F.slot_list_append PySem.F.type_list_append mt_append (pv 8) (pa_cons (pe_tup (pa_cons (pe_op op_repP (pe_tup (pa_cons pe_int pa_nil)) pe_int) (pa_cons (pe_op op_repP (pe_tup (pa_cons pe_int pa_nil)) pe_int) (pa_cons pe_str (pa_cons pe_int pa_nil))))) pa_nil)), ?_⟩
  intro D H row a ns p dx td ts ds ss z l xs y3 y4 y5 y9 y10 y11 y12 b R nx
  refine ⟨_, rfl, .inl ⟨rfl, _, SqL.of R.h⟩, (by show 1 ≤ sizeLine; decide), fun p1 hp1 => ?_⟩
  have s1 := same_upd (o := .tup [.int 1]) hp1
  dsimp only [tC]
  refine rep_goE (k := 9) (n := 9) rfl upd_same (by decide) (by decide) fun H2 p2 s2 h2 => ?_
  refine ⟨(by show 1 ≤ sizeLine; decide), fun p3 hp3 => ?_⟩
  have s3 := same_upd (o := .tup [.int 1]) hp3
  dsimp only [tC]
  refine rep_goE (k := 9) (n := 9) rfl upd_same (by decide) (by decide) fun H4 p4 s4 h4 => ?_
  refine ⟨(by show 4 ≤ sizeLine; decide), fun t1 ht1 => ?_⟩
  have s5 := same_upd (o := .tup [.ref p2, .ref p4, .str "days", .int 8]) ht1
  have S := (((s1.trans s2).trans s3).trans s4).trans s5
  have R5 := R.same S
  refine ⟨l, xs, _, rfl, rfl, R5.h, by rw [R.len]; exact small1000 (n := 9) (by decide), ?_⟩
  have b5 := b.same S
  have kl : Kl l (upd H4 t1 (.tup [.ref p2, .ref p4, .str "days", .int 8])) (upd (upd H4 t1 (.tup [.ref p2, .ref p4, .str "days", .int 8])) l (.lst (xs ++ [.ref t1]))) := ⟨fun b' o e n => (upd_ne n).trans e, ⟨_, R5.h⟩, _, upd_same⟩
  refine nx _ _ (b5.kl R5 (by decide) kl) ⟨upd_same, by rw [List.length_append, R.len]; rfl, fun v hv => ?_⟩
  rcases List.mem_append.mp hv with hv | hv
  · exact (R5.all v hv).kl kl
  · obtain rfl := List.mem_singleton.mp hv
    refine Rw.kl kl ⟨t1, _, _, _, _, rfl, upd_same, rb_days ?_⟩
    exact pb_long (m := 8) (s5 _ _ (s4 _ _ (s3 _ _ h2))) (fun y hy => by rw [(List.mem_replicate.mp hy).2]; decide) (by decide) (by decide)
theorem lb_b13 (T : Tx K mg) {S : TdS K mg} (B : TdF S) (TB : TabB base mg cU PU) (np : PT ≠ PU) (hr : Room 7 (XB P w K mg base f (.ref cU) A outer s H0 E).A) : ∃ tt : TS, PS (XB P w K mg base f (.ref cU) A outer s H0 E) (bb 13) tt ∧
    ∀ (D : Ends) (H : Hp) (row a : Addr) (ns : List Int) (p dx td ts : Addr) (ds ss : List Int) (z l : Addr) (xs : List V) (y3 y4 y5 y9 y10 y11 y12 : Option V), BA K T.C (Tb2 PT PU) H row a ns p dx td ts ds ss → Rws H l xs 10 → (∀ H' y9 y10 y11 y12, BA K T.C (Tb2 PT PU) H' row a ns p dx td ts ds ss → D.nx [some (.ref row), some (.ref td), some (.ref ts), y3, y4, y5, some (.ref z), some (.int (ds.length : Int)), some (.ref l), y9, y10, y11, y12] H') → tt D [some (.ref row), some (.ref td), some (.ref ts), y3, y4, y5, some (.ref z), some (.int (ds.length : Int)), some (.ref l), y9, y10, y11, y12] H := by
  have nd := sc_lbad_rings.nd
  refine ⟨_, ps_for PassesOwn.never rfl (pi_list (pv 8)) (pg_tup rfl (pgs_cons (pg_name (i := 9) nd rfl (.inr rfl)) (pgs_cons (pg_name (i := 10) nd rfl (.inr rfl)) (pgs_cons (pg_name (i := 11) nd rfl (.inl rfl)) (pgs_cons (pg_name (i := 12) nd rfl (.inl rfl)) pgs_nil))))) (pss_one (ps_if (pt_cmpR (op_neD hr.units) (pe_told1 (k := 5) T B TB (List.mem_cons_of_mem _ List.mem_cons_self) (hu2 np) rfl (by rfl) (lamP_by (N := N_lbad_rings) (sc := defScope s_lbad_rings) (by decide +kernel)) rfl (fun _ _ _ _ _ _ _ => .of_eq rfl) (hr.mono (by decide : 7 ≤ 7)) (fun A outer s H E f c' hr2 => pe_make (E := E) T.mkR (ok_inX T B) hr2 (by rfl) T.gC T.b_rinit .nil (passes_call (takes_of rfl rfl rfl rfl) (fun _ _ _ _ z => z)) (pa_cons (pv 9) (pa_cons (pv 10) pa_nil)))) (pe_tup (pa_cons pe_str (pa_cons pe_str (pa_cons (pe_lst (pa_cons (pv 11) (pa_cons (pv 12) pa_nil))) pa_nil)))) (nomark _)) (pss_one (ps_ret pe_bl)) pss_nil)), ?_⟩
  intro D H row a ns p dx td ts ds ss z l xs y3 y4 y5 y9 y10 y11 y12 b R nx
  refine ⟨_, rfl, l, rfl, ⟨_, .of R.h⟩, for_list (K := K) (a := l) (xs := xs) (fun i σ H' => (∃ y9 y10 y11 y12, σ = [some (.ref row), some (.ref td), some (.ref ts), y3, y4, y5, some (.ref z), some (.int (ds.length : Int)), some (.ref l), y9, y10, y11, y12]) ∧ BA K T.C (Tb2 PT PU) H' row a ns p dx td ts ds ss ∧ Rws H' l xs 10) ⟨⟨y9, y10, y11, y12, rfl⟩, b, R⟩ (fun i σ H' _ ⟨_, _, R'⟩ => .of R'.h) ?_ ?_⟩
  · rintro i v σ H0' hi ⟨⟨y9, y10, y11, y12, rfl⟩, b, R⟩
    obtain ⟨t, x0, y0, part, i0, rfl, ht, g⟩ := R.all v (List.mem_of_getElem? hi)
    refine ⟨t, _, rfl, .of ht, rfl, _, _, rfl, _, _, rfl, _, _, rfl, _, _, rfl, rfl, ?_⟩
    refine ⟨b.tb, fun H1 x1 t1 E' hE => ?_⟩
    have b1 := b.extN x1 t1
    have g1 := g.extN x1
    refine ⟨_, rfl, _, rfl, fun x z nx0 nz ne => ?_⟩
    have s0 := same_new (C := T.C) nx0 nz
    refine ⟨x, x0, y0, part, i0, rfl, g1.same s0, fun dd H2 s2 hd => ?_⟩
    refine hE _ _ _ (.inr ⟨dd, .str part, .int i0, rfl, rfl, hd, fun p2 l2 H3 s3 hl2 hp2 => ?_⟩)
    refine ⟨_, rfl, _, rfl, (by show 2 ≤ sizeLine; decide), fun l3 h3 => ⟨(by show 3 ≤ sizeLine; decide), fun t3 ht3 => ?_⟩⟩
    have s4 := same_upd (o := .lst [.str part, .int i0]) h3
    have s5 := same_upd (o := .tup [.str "error", .str "InvalidRing", .ref l3]) ht3
    refine ⟨dR part i0, dR part i0, dp_ir (s5 _ _ (s4 _ _ hp2)) (s5 _ _ (s4 _ _ hl2)), dp_ir upd_same (s5 _ _ upd_same), dR_shaped _ _ g1.strOk, dR_shaped _ _ g1.strOk, _, rfl, ?_⟩
    rw [dR_eqv]
    exact iteF ⟨⟨_, _, _, _, rfl⟩, ((((b1.same s0).same s2).same s3).same s4).same s5, (((((R.extN x1).same s0).same s2).same s3).same s4).same s5⟩
  · rintro σ H1 ⟨⟨y9, y10, y11, y12, rfl⟩, b, R⟩
    exact nx H1 _ _ _ _ b
/-! ### _law_bad_rings -/
def spBad (K : PySem.W.Frag) (C PT PU : Addr) : Sp := fun vs H Q _ => ∃ (row a : Addr) (ns : List Int) (p dx td ts : Addr) (ds ss : List Int), vs = [.ref row, .ref td, .ref ts] ∧ BA K C (Tb2 PT PU) H row a ns p dx td ts ds ss ∧ ∀ H', BA K C (Tb2 PT PU) H' row a ns p dx td ts ds ss → Q (.bl true) H'
theorem ok_lbad {S : TdS K mg} (T : Tx K mg) (B : TdF S) (TB : TabB base mg cU PU) (np : PT ≠ PU) (FU : FunC K "_law_bad_rings" "_law_bad_rings" s_lbad_rings T.a_lbad_rings T.d_lbad_rings (.ref cU)) : FnOk P w K mg base CX0 8 T.a_lbad_rings T.d_lbad_rings P_lbad_rings (spBad K T.C PT PU) := by
  refine FU.ok sc_lbad_rings (fun vs H Q E h => ?_) (fun A outer s H vs Q E hr h => ?_)
  · obtain ⟨row, a, ns, p, dx, td, ts, ds, ss, rfl, _⟩ := h
    rfl
  · obtain ⟨row, a, ns, p, dx, td, ts, ds, ss, rfl, b, q⟩ := h
    have l2 := b.G.l2
    have l8 := b.G.l8
    have ls := b.G.ls
    obtain ⟨u0, q0, v0⟩ := lb_b0 (P := P) (w := w) (K := K) (mg := mg) (base := base) (f := T.a_lbad_rings) (cU := cU) (A := A) (outer := outer) (s := s) (H0 := H) (E := E) (PT := PT) (PU := PU) T hr
    obtain ⟨u1, q1, v1⟩ := lb_b1 (P := P) (w := w) (K := K) (mg := mg) (base := base) (f := T.a_lbad_rings) (cU := cU) (A := A) (outer := outer) (s := s) (H0 := H) (E := E) (PT := PT) (PU := PU) T hr
    obtain ⟨u2, q2, v2⟩ := lb_b2 (P := P) (w := w) (K := K) (mg := mg) (base := base) (f := T.a_lbad_rings) (cU := cU) (A := A) (outer := outer) (s := s) (H0 := H) (E := E) (PT := PT) (PU := PU) T hr
    obtain ⟨u3, q3, v3⟩ := lb_b3 (P := P) (w := w) (K := K) (mg := mg) (base := base) (f := T.a_lbad_rings) (cU := cU) (A := A) (outer := outer) (s := s) (H0 := H) (E := E) (PT := PT) (PU := PU) T B TB np hr
    obtain ⟨u4, q4, v4⟩ := lb_b4 (P := P) (w := w) (K := K) (mg := mg) (base := base) (f := T.a_lbad_rings) (cU := cU) (A := A) (outer := outer) (s := s) (H0 := H) (E := E) (PT := PT) (PU := PU) T hr
    obtain ⟨u5, q5, v5⟩ := lb_b5 (P := P) (w := w) (K := K) (mg := mg) (base := base) (f := T.a_lbad_rings) (cU := cU) (A := A) (outer := outer) (s := s) (H0 := H) (E := E) (PT := PT) (PU := PU) T hr
    obtain ⟨u6, q6, v6⟩ := lb_b6 (P := P) (w := w) (K := K) (mg := mg) (base := base) (f := T.a_lbad_rings) (cU := cU) (A := A) (outer := outer) (s := s) (H0 := H) (E := E) (PT := PT) (PU := PU) T hr
    obtain ⟨u7, q7, v7⟩ := lb_b7 (P := P) (w := w) (K := K) (mg := mg) (base := base) (f := T.a_lbad_rings) (cU := cU) (A := A) (outer := outer) (s := s) (H0 := H) (E := E) (PT := PT) (PU := PU) T B TB np hr
    obtain ⟨u8, q8, v8⟩ := lb_b8 (P := P) (w := w) (K := K) (mg := mg) (base := base) (f := T.a_lbad_rings) (cU := cU) (A := A) (outer := outer) (s := s) (H0 := H) (E := E) (PT := PT) (PU := PU) T hr
    obtain ⟨u9, q9, v9⟩ := lb_b9 (P := P) (w := w) (K := K) (mg := mg) (base := base) (f := T.a_lbad_rings) (cU := cU) (A := A) (outer := outer) (s := s) (H0 := H) (E := E) (PT := PT) (PU := PU) T hr
    obtain ⟨u10, q10, v10⟩ := lb_b10 (P := P) (w := w) (K := K) (mg := mg) (base := base) (f := T.a_lbad_rings) (cU := cU) (A := A) (outer := outer) (s := s) (H0 := H) (E := E) (PT := PT) (PU := PU) T hr
    obtain ⟨u11, q11, v11⟩ := lb_b11 (P := P) (w := w) (K := K) (mg := mg) (base := base) (f := T.a_lbad_rings) (cU := cU) (A := A) (outer := outer) (s := s) (H0 := H) (E := E) (PT := PT) (PU := PU) T hr
    obtain ⟨u12, q12, v12⟩ := lb_b12 (P := P) (w := w) (K := K) (mg := mg) (base := base) (f := T.a_lbad_rings) (cU := cU) (A := A) (outer := outer) (s := s) (H0 := H) (E := E) (PT := PT) (PU := PU) T hr
    obtain ⟨u13, q13, v13⟩ := lb_b13 (P := P) (w := w) (K := K) (mg := mg) (base := base) (f := T.a_lbad_rings) (cU := cU) (A := A) (outer := outer) (s := s) (H0 := H) (E := E) (PT := PT) (PU := PU) T B TB np hr
    refine ⟨_, (pss_cons q0 (pss_cons q1 (pss_cons q2 (pss_cons q3 (pss_cons q4 (pss_cons q5 (pss_cons q6 (pss_cons q7 (pss_cons q8 (pss_cons q9 (pss_cons q10 (pss_cons q11 (pss_cons q12 (pss_cons q13 (pss_one (ps_ret pe_bl)))))))))))))))), ?_⟩
    refine v0 _ H row a ns p dx td ts ds ss _ _ _ _ _ _ _ _ _ _ b fun H0 k b k0 => ?_
    refine v1 _ H0 row a ns p dx td ts ds ss _ _ _ _ _ _ _ _ _ _ b fun H1 v b hv => ?_
    refine v2 _ H1 row a ns p dx td ts ds ss k v _ _ _ _ _ _ _ _ b k0 fun H2 u b s2 hu => ?_
    have g : RBad H2 (.ref u) .non "days" (k : Int) := rb_days (by
      rcases Nat.lt_or_ge k 8 with h8 | h8
      · have g := pb_one (lo := 1) (hi := 30) (f := 2) (m := 8) hu (fun y hy => b.G.d1 y (List.mem_of_mem_take hy)) (hv.same s2) (by rw [List.length_take]; omega) (by rw [List.length_take, List.length_map, List.length_drop]; omega)
        rw [List.length_take, show min k ds.length = k by omega] at g
        exact g
      · have e8 : k = 8 := by omega
        subst e8
        have e : ds.drop 8 = [] := List.drop_eq_nil_iff.mpr (by omega)
        refine .inr ⟨u, _, 8, rfl, hu, by rw [List.length_append, List.length_map, List.length_take, List.length_cons, List.length_map, List.length_drop]; omega, rfl, .inl ⟨by rw [List.length_append, List.length_map, List.length_take, List.length_cons]; omega, .inl (by decide), fun j hj => ⟨by omega, .int (ds.getD j 0), ?_, ?_⟩⟩⟩
        · rw [List.getElem?_append_left (by rw [List.length_map, List.length_take]; omega), List.getElem?_map, List.getElem?_take, if_pos hj, List.getElem?_eq_getElem (show j < ds.length by omega), List.getD_eq_getElem?_getD, List.getElem?_eq_getElem (show j < ds.length by omega)]
          rfl
        · rw [List.getD_eq_getElem?_getD, List.getElem?_eq_getElem (show j < ds.length by omega)]
          exact iv_int (b.G.d1 _ (List.getElem_mem _)))
    refine v3 _ H2 row a ns p dx td ts ds ss k v u _ _ _ _ _ _ _ b g fun H3 b => ?_
    refine v4 _ H3 row a ns p dx td ts ds ss _ _ _ _ _ _ _ _ _ _ b fun H4 v b hv => ?_
    refine v5 _ H4 row a ns p dx td ts ds ss v _ _ _ _ _ _ _ _ _ b hv fun H5 k b hv k0 => ?_
    refine v6 _ H5 row a ns p dx td ts ds ss k v _ _ _ _ _ _ _ _ b k0 fun H6 u b s6 hu => ?_
    have g : RBad H6 (.ref td) (.ref u) "starts" (k : Int) := rb_starts b.G b.hd (by
      have g := pb_one (lo := 0) (hi := 12) (f := (ds.length : Int)) (m := (ds.length : Int)) hu (fun y hy => b.G.s0 y (List.mem_of_mem_take hy)) (hv.same s6) (by rw [List.length_take]; omega) (by rw [List.length_take, List.length_map, List.length_drop]; omega)
      rw [List.length_take, show min k ss.length = k by omega] at g
      exact g)
    refine v7 _ H6 row a ns p dx td ts ds ss k v u _ _ _ _ _ _ _ b g fun H7 b => ?_
    refine v8 _ H7 row a ns p dx td ts ds ss _ _ _ _ _ _ _ _ _ _ b fun H8 z b hz => ?_
    refine v9 _ H8 row a ns p dx td ts ds ss z _ _ _ _ _ _ _ _ b hz fun H9 l xs b hz R => ?_
    refine v10 _ H9 row a ns p dx td ts ds ss z l xs _ _ _ _ _ _ _ b hz R fun H10 l xs b R => ?_
    refine v11 _ H10 row a ns p dx td ts ds ss z l xs _ _ _ _ _ _ _ b R fun H11 l xs b R => ?_
    refine v12 _ H11 row a ns p dx td ts ds ss z l xs _ _ _ _ _ _ _ b R fun H12 xs b R => ?_
    refine v13 _ H12 row a ns p dx td ts ds ss z l xs _ _ _ _ _ _ _ b R fun H13 y9 y10 y11 y12 b => ?_
    exact q H13 b
end
end Rp
namespace Rp
open PySem PySem.Spec PyProof.Rows L2 Rz Rm Rt Rl LamX
section
variable {P : Program} {w : World} {K : PySem.W.Frag} {mg : Str → Option Value} {base : Heap}
variable {f : Addr} {cT PT PU cU : Addr} {A : Around} {outer : List Env} {s : Shared} {H0 : Hp} {E : XK}
def spGi0 (C : Addr) : Sp := fun vs H Q _ => ∃ (p dx td ts : Addr) (ds ss : List Int) (r : Nat), vs = [.ref p, .int r] ∧ RingAt C H p dx td ts ds ss ∧ r < ds.length ∧ ∀ H' t, Same H H' → H' t = some (.tup [.int (at' ds r), .int (at' ss r)]) → Q (.ref t) H'
theorem ok_gi0 (T : Tx K mg) : FnOk P w K mg base CX0 4 T.a_rgetitem T.d_rgetitem P_rgetitem (spGi0 T.C) := by
  refine T.F_rgetitem.ok sc_rgetitem (fun vs H Q E h => ?_) (fun cdv A outer s H vs Q E hr h => ?_)
  · obtain ⟨p, dx, td, ts, ds, ss, v, rfl, _⟩ := h
    rfl
  · obtain ⟨p, dx, td, ts, ds, ss, r, rfl, R, hr1, q⟩ := h
    have l2 := R.ok.l2
    have l8 := R.ok.l8
    have ls := R.ok.ls
    refine ⟨_, pss_cons (ps_expr (pe_call (ok_reader T) hr (by rfl) T.g_check_reader T.F_check_reader.kp T.b_check_reader .nil pass0 (pa_cons (pv 0) (pa_cons (pv 1) pa_nil))))
      (pss_one (ps_ret (pe_tup (pa_cons (pe_ix ix_tup (pe_fld (pv 0) rfl) (pv 1) (fun _ _ => rfl)) (pa_cons (pe_ix ix_tup (pe_fld (pv 0) rfl) (pv 1) (fun _ _ => rfl)) pa_nil))))), ?_⟩
    refine ⟨_, rfl, _, rfl, p, dx, td, ts, ds, ss, _, rfl, R, by omega, by omega, ?_⟩
    refine ⟨_, rfl, p, _, dx, _, _, rfl, R.ob, T.cl, T.nD, flds_days _ _, _, rfl, td, _, (r : Int), .int (at' ds r), rfl, rfl, .of R.td, atI_int hr1, ?_⟩
    refine ⟨_, rfl, p, _, dx, _, _, rfl, R.ob, T.cl, T.nS, flds_starts _ _, _, rfl, ts, _, (r : Int), .int (at' ss r), rfl, rfl, .of R.ts, atI_int (by omega), ?_⟩
    exact ⟨(by show 2 ≤ sizeLine; decide), fun t ht => q _ t (same_upd ht) upd_same⟩
theorem dp_err {K : PySem.W.Frag} {H : Hp} {t : Addr} {x : Str} (h : H t = some (.tup [.str "error", .str x])) : Dp K H (.ref t) (.tuple [.str "error", .str x]) := .tup (.of h) (.cons (.str _) (.cons (.str _) .nil))
def dU : PyData := .tuple [.str "error", .str "UnknownReader"]
theorem dU_shaped : SeqAt.shaped dU = true := by decide +kernel
theorem dU_eqv : (!PyData.eqv dU dU) = false := by decide +kernel
def dI : PyData := .tuple [.str "error", .str "InvalidNumber"]
theorem dI_shaped : SeqAt.shaped dI = true := by decide +kernel
theorem dI_eqv : (!PyData.eqv dI dI) = false := by decide +kernel
/-- what is no reader -/
def Bd (v : V) (n : Nat) : Prop := v = .int (-1) ∨ v = .int (n : Int) ∨ v = .non ∨ v = .bl true ∨ v = .str "0"
theorem Bd.iv {H : Hp} {v : V} {n : Nat} (h : Bd v n) : Iv H v 0 ((n : Int) - 1) false := by
  rcases h with rfl | rfl | rfl | rfl | rfl
  · exact iv_out (.inl (by decide))
  · exact iv_out (.inr (by omega))
  · exact .inr ⟨rfl, .inl rfl⟩
  · exact .inr ⟨rfl, .inr (.inl rfl)⟩
  · exact .inr ⟨rfl, .inr (.inr (.inl ⟨_, rfl⟩))⟩
/-- the new days that are asked -/
def Nw (v : V) : Prop := (v = .int 1 ∨ v = .int 30) ∨ v = .int 0 ∨ v = .int 31 ∨ v = .non
/-- what is due of with_days -/
def Dw (H : Hp) (ds : List Int) (k : Nat) (v : V) (du : Addr) : Prop := (∃ d : Int, v = .int d ∧ 1 ≤ d ∧ d ≤ 30 ∧ H du = some (.tup ((ds.set k d).map V.int))) ∨
  ((v = .int 0 ∨ v = .int 31 ∨ v = .non) ∧ ∃ l : Addr, H du = some (.tup [.str "error", .str "InvalidRing", .ref l]) ∧ H l = some (.lst [.str "days", .int (k : Int)]))
theorem nw_iv {H : Hp} {v : V} (h : v = .int 0 ∨ v = .int 31 ∨ v = .non) : Iv H v 1 30 false := by
  rcases h with rfl | rfl | rfl
  · exact iv_out (.inl (by decide))
  · exact iv_out (.inr (by decide))
  · exact .inr ⟨rfl, .inl rfl⟩
theorem Good.revS {ds ss : List Int} (G : Good ds ss) : Good ds ss.reverse :=
  ⟨G.l2, G.l8, by rw [List.length_reverse]; exact G.ls, G.d1, fun y h => G.s0 y (List.mem_reverse.mp h), by rw [List.sum_reverse]; exact G.b1, by rw [List.sum_reverse]; exact G.b12⟩
theorem Good.revD {ds ss : List Int} (G : Good ds ss) : Good ds.reverse ss :=
  ⟨by rw [List.length_reverse]; exact G.l2, by rw [List.length_reverse]; exact G.l8, by rw [List.length_reverse]; exact G.ls, fun y h => G.d1 y (List.mem_reverse.mp h), G.s0, G.b1, G.b12⟩
theorem lx_f0 {Tb : List (Addr × Str)} (T : Tx K mg) (hr : Room 11 (XL P w K mg base f (.ref cT) A outer s H0 E).A) : ∃ tt : TS, PS (XL P w K mg base f (.ref cT) A outer s H0 E) (fl 0) tt ∧
    ∀ (D : Ends) (H : Hp) (a row : Addr) (ns : List Int) (y2 y3 y4 y5 y6 y7 y8 y9 y10 y11 y12 : Option V), RowAt K H row a ns → Tabs Tb H → (∀ H' td ts ds ss, Good ds ss → RowAt K H' row a ns → Tabs Tb H' → H' td = some (.tup (ds.map V.int)) → H' ts = some (.tup (ss.map V.int)) → D.nx [some (.ref a), some (.ref row), y2, some (.ref td), some (.ref ts), y5, y6, y7, y8, y9, y10, y11, y12] H') → tt D [some (.ref a), some (.ref row), y2, y3, y4, y5, y6, y7, y8, y9, y10, y11, y12] H := by
  have nd := sc_law.nd
  refine ⟨_, ps_asg (pe_call (ok_ring T) (hr.mono (by decide : 2 ≤ 11)) (by rfl) T.g_lring T.F_lring.kp T.b_lring .nil pass0 (pa_cons (pv 1) (pa_cons pe_int (pa_cons pe_int pa_nil)))) (pg_tup rfl (pgs_cons (pg_name (i := 3) nd rfl (.inl rfl)) (pgs_cons (pg_name (i := 4) nd rfl (.inl rfl)) pgs_nil))), ?_⟩
  intro D H a row ns y2 y3 y4 y5 y6 y7 y8 y9 y10 y11 y12 RA tb nx
  refine ⟨_, rfl, row, a, ns, _, _, rfl, RA, by decide, by decide, by decide, by decide, fun H' t td ts ds ss G _ _ RA' k ht hd hs => ?_⟩
  refine ⟨t, _, rfl, .of ht, rfl, _, _, rfl, _, _, rfl, rfl, ?_⟩
  exact nx H' td ts ds ss G RA' (Tabs_kp RA k tb) hd hs
theorem lx_f1 {Tb : List (Addr × Str)} (T : Tx K mg) (hr : Room 11 (XL P w K mg base f (.ref cT) A outer s H0 E).A) : ∃ tt : TS, PS (XL P w K mg base f (.ref cT) A outer s H0 E) (fl 1) tt ∧
    ∀ (D : Ends) (H : Hp) (a row : Addr) (ns : List Int) (td ts : Addr) (ds ss : List Int) (y2 y5 y6 y7 y8 y9 y10 y11 y12 : Option V), Good ds ss → RowAt K H row a ns → Tabs Tb H → H td = some (.tup (ds.map V.int)) → H ts = some (.tup (ss.map V.int)) → (∀ H' p dx, BA K T.C Tb H' row a ns p dx td ts ds ss → D.nx [some (.ref a), some (.ref row), y2, some (.ref td), some (.ref ts), some (.ref p), some (.int (ds.length : Int)), y7, y8, y9, y10, y11, y12] H') → tt D [some (.ref a), some (.ref row), y2, some (.ref td), some (.ref ts), y5, y6, y7, y8, y9, y10, y11, y12] H := by
  have nd := sc_law.nd
  refine ⟨_, ps_asg (pe_tup (pa_cons (pe_make T.mkR (ok_init T) (hr.mono (by decide : 5 ≤ 11)) (by rfl) T.gC T.b_rinit .nil pass0 (pa_cons (pv 3) (pa_cons (pv 4) pa_nil))) (pa_cons (pe_callB call_len_seq (by rfl) T.z_len PySem.boot_len (pa_cons (pv 3) pa_nil)) pa_nil))) (pg_tup rfl (pgs_cons (pg_name (i := 5) nd rfl (.inr rfl)) (pgs_cons (pg_name (i := 6) nd rfl (.inl rfl)) pgs_nil))), ?_⟩
  intro D H a row ns td ts ds ss y2 y5 y6 y7 y8 y9 y10 y11 y12 G RA tb hd hs nx
  refine ⟨_, rfl, _, rfl, fun x z nx0 nz ne => ?_⟩
  have s9 := same_new (C := T.C) nx0 nz
  refine ⟨x, z, td, ts, ds, ss, rfl, upd_same, s9 _ _ hd, s9 _ _ hs, G, fun H7 R7 k7 => ⟨rfl, ?_⟩⟩
  have s7 : Same H H7 := Same.made nx0 nz k7
  refine ⟨_, rfl, td, _, rfl, .inr (.of R7.td), (by show 2 ≤ sizeLine; decide), fun t ht => ?_⟩
  have s8 := same_upd (o := .tup [.ref x, .int ((ds.map V.int).length : Nat)]) ht
  refine ⟨t, _, rfl, .of upd_same, rfl, _, _, rfl, _, _, rfl, rfl, ?_⟩
  rw [List.length_map] at s8 ⊢
  exact nx _ x z ⟨(RA.same s7).same s8, (tb.ext s7).ext s8, R7.same s8⟩
theorem lx_f2 {Tb : List (Addr × Str)} (T : Tx K mg) (hr : Room 11 (XL P w K mg base f (.ref cT) A outer s H0 E).A) : ∃ tt : TS, PS (XL P w K mg base f (.ref cT) A outer s H0 E) (fl 2) tt ∧
    ∀ (D : Ends) (H : Hp) (a row : Addr) (ns : List Int) (p dx td ts : Addr) (ds ss : List Int) (y2 y7 y8 y9 y10 y11 y12 : Option V), BA K T.C Tb H row a ns p dx td ts ds ss → (∀ H', BA K T.C Tb H' row a ns p dx td ts ds ss → D.nx [some (.ref a), some (.ref row), y2, some (.ref td), some (.ref ts), some (.ref p), some (.int (ds.length : Int)), y7, y8, y9, y10, y11, y12] H') → tt D [some (.ref a), some (.ref row), y2, some (.ref td), some (.ref ts), some (.ref p), some (.int (ds.length : Int)), y7, y8, y9, y10, y11, y12] H := by
  have nd := sc_law.nd
  refine ⟨_, ps_if (pt_not (pt_val (pe_call (ok_likeD T 2) (hr.mono (by decide : 3 ≤ 11)) (by rfl) T.g_llike T.F_llike.kp T.b_llike .nil pass0 (pa_cons (pe_lst (pa_cons (pe_prop (pv 5) T.cl T.q_rdays (ok_days T) (hr.mono (by decide : 2 ≤ 11)) T.b_rdays .nil pass0 rfl) (pa_cons (pe_prop (pv 5) T.cl T.q_rstarts (ok_starts T) (hr.mono (by decide : 2 ≤ 11)) T.b_rstarts .nil pass0 rfl) (pa_cons (pe_prop (pv 5) T.cl T.q_rbooks (ok_books T) (hr.mono (by decide : 2 ≤ 11)) T.b_rbooks .nil pass0 rfl) (pa_cons (pe_callB (call_lenI T.lenC T.lenF ((ok_len T).raw T.b_rlen .nil) (hr.mono (by decide : 2 ≤ 11)) pass0) (by rfl) T.z_len PySem.boot_len (pa_cons (pv 5) pa_nil)) pa_nil))))) (pa_cons (pe_lst (pa_cons (pv 3) (pa_cons (pv 4) (pa_cons (pe_callB (cr_sumT rfl) (by rfl) T.z_sum (by decide +kernel) (pa_cons (pv 4) pa_nil)) (pa_cons (pv 6) pa_nil))))) pa_nil))))) (pss_one (ps_ret pe_bl)) pss_nil, ?_⟩
  intro D H a row ns p dx td ts ds ss y2 y7 y8 y9 y10 y11 y12 b nx
  have l2 := b.G.l2
  have l8 := b.G.l8
  have ls := b.G.ls
  refine ⟨_, rfl, p, dx, _, rfl, b.R.ob, p, dx, td, ts, ds, ss, rfl, b.R, ?_⟩
  refine ⟨_, rfl, p, dx, _, rfl, b.R.ob, p, dx, td, ts, ds, ss, rfl, b.R, ?_⟩
  refine ⟨_, rfl, p, dx, _, rfl, b.R.ob, p, dx, td, ts, ds, ss, rfl, b.R, ?_⟩
  refine ⟨_, rfl, p, dx, _, rfl, b.R.ob, p, dx, td, ts, ds, ss, rfl, b.R, (ds.length : Int), rfl, by omega, by omega, (by show 4 ≤ sizeLine; decide), fun l1 h1 => ?_⟩
  have s1 := same_upd (o := .lst [.ref td, .ref ts, .int ss.sum, .int (ds.length : Int)]) h1
  have b1 := b.same s1
  refine ⟨_, rfl, _, rfl, _, rfl, ts, ss, rfl, .of b1.hs, _, rfl, (by show 4 ≤ sizeLine; decide), fun l3 h3 => ?_⟩
  have s2 := same_upd (o := .lst [.ref td, .ref ts, .int ss.sum, .int (ds.length : Int)]) h3
  have b2 := b1.same s2
  refine ⟨.ref l1, .ref l3, rfl, .inr ⟨l1, l3, _, _, rfl, rfl, .inr ⟨s2 _ _ upd_same, upd_same⟩, rfl, by show 4 ≤ 1000000; decide, fun i x y hx hy => ?_⟩, fun H3 s3 => ⟨_, rfl, ?_⟩⟩
  · have exy : x = y := by rw [hx] at hy; exact Option.some.inj hy
    subst exy
    match i, hx with
    | 0, hx => cases hx; exact LkD.ints (.inl ⟨b2.hd, b2.hd⟩) (by omega)
    | 1, hx => cases hx; exact LkD.ints (.inl ⟨b2.hs, b2.hs⟩) (by omega)
    | 2, hx => cases hx; exact .inl (.inl ⟨_, rfl, rfl⟩)
    | 3, hx => cases hx; exact .inl (.inl ⟨_, rfl, rfl⟩)
  · exact iteF (nx _ (b2.same s3))
theorem lx_f3 {Tb : List (Addr × Str)} (T : Tx K mg) (hr : Room 11 (XL P w K mg base f (.ref cT) A outer s H0 E).A) : ∃ tt : TS, PS (XL P w K mg base f (.ref cT) A outer s H0 E) (fl 3) tt ∧
    ∀ (D : Ends) (H : Hp) (a row : Addr) (ns : List Int) (p dx td ts : Addr) (ds ss : List Int) (y2 y7 y8 y9 y10 y11 y12 : Option V), BA K T.C Tb H row a ns p dx td ts ds ss → (∀ H', BA K T.C Tb H' row a ns p dx td ts ds ss → D.nx [some (.ref a), some (.ref row), y2, some (.ref td), some (.ref ts), some (.ref p), some (.int (ds.length : Int)), y7, y8, y9, y10, y11, y12] H') → tt D [some (.ref a), some (.ref row), y2, some (.ref td), some (.ref ts), some (.ref p), some (.int (ds.length : Int)), y7, y8, y9, y10, y11, y12] H := by
  have nd := sc_law.nd
  refine ⟨_, ps_if (pt_not (pt_val (pe_call (ok_likeD T 1) (hr.mono (by decide : 2 ≤ 11)) (by rfl) T.g_llike T.F_llike.kp T.b_llike .nil pass0 (pa_cons (pe_prop (pv 5) T.cl T.q_rpace (ok_rpace T) (hr.mono (by decide : 4 ≤ 11)) T.b_rpace .nil pass0 rfl) (pa_cons (pe_call (ok_lp T) (hr.mono (by decide : 2 ≤ 11)) (by rfl) T.g_lpace T.F_lpace.kp T.b_lpace .nil pass0 (pa_cons (pv 3) (pa_cons (pe_callB (cr_sumT rfl) (by rfl) T.z_sum (by decide +kernel) (pa_cons (pv 4) pa_nil)) pa_nil))) pa_nil))))) (pss_one (ps_ret pe_bl)) pss_nil, ?_⟩
  intro D H a row ns p dx td ts ds ss y2 y7 y8 y9 y10 y11 y12 b nx
  have l2 := b.G.l2
  have l8 := b.G.l8
  have ls := b.G.ls
  have b1' := b.G.b1
  have b12 := b.G.b12
  have s240 := b.G.sum240
  refine ⟨_, rfl, p, dx, _, rfl, b.R.ob, p, dx, td, ts, ds, ss, rfl, b.R, fun H1 t1 s1 h1 => ?_⟩
  have b1 := b.same s1
  refine ⟨_, rfl, _, rfl, ts, ss, rfl, .of b1.hs, td, ds, ss.sum, rfl, b1.hd, b.G.dys, s240.1, s240.2, b1', by omega, fun H2 t2 s2 h2 => ?_⟩
  have b2 := b1.same s2
  refine ⟨.ref t1, .ref t2, rfl, LkD.ints (l := [pX ds ss.sum, pY ds ss.sum]) (.inl ⟨s2 _ _ h1, h2⟩) (by show 2 ≤ 1000; decide), fun H3 s3 => ⟨_, rfl, ?_⟩⟩
  exact iteF (nx _ (b2.same s3))
theorem lx_f4 {Tb : List (Addr × Str)} (T : Tx K mg) (hr : Room 11 (XL P w K mg base f (.ref cT) A outer s H0 E).A) : ∃ tt : TS, PS (XL P w K mg base f (.ref cT) A outer s H0 E) (fl 4) tt ∧
    ∀ (D : Ends) (H : Hp) (a row : Addr) (ns : List Int) (p dx td ts : Addr) (ds ss : List Int) (y2 y7 y8 y9 y10 y11 y12 : Option V), BA K T.C Tb H row a ns p dx td ts ds ss → (∀ H' (k : Nat), BA K T.C Tb H' row a ns p dx td ts ds ss → k < ds.length → D.nx [some (.ref a), some (.ref row), y2, some (.ref td), some (.ref ts), some (.ref p), some (.int (ds.length : Int)), some (.int (k : Int)), y8, y9, y10, y11, y12] H') → tt D [some (.ref a), some (.ref row), y2, some (.ref td), some (.ref ts), some (.ref p), some (.int (ds.length : Int)), y7, y8, y9, y10, y11, y12] H := by
  have nd := sc_law.nd
  refine ⟨_, ps_set (i := 7) nd rfl (.inr rfl) (pe_call (ok_next T) (hr.mono (by decide : 1 ≤ 11)) (by rfl) T.g_lnext T.F_lnext.kp T.b_lnext .nil pass0 (pa_cons (pv 1) (pa_cons (pv 6) pa_nil))), ?_⟩
  intro D H a row ns p dx td ts ds ss y2 y7 y8 y9 y10 y11 y12 b nx
  have l2 := b.G.l2
  have l8 := b.G.l8
  have ls := b.G.ls
  refine ⟨_, rfl, _, rfl, row, a, ns, _, rfl, b.RA, by omega, by omega, fun v H' v0 v1 RA' kk => ?_⟩
  obtain ⟨k, rfl⟩ : ∃ k : Nat, v = (k : Int) := ⟨v.toNat, by omega⟩
  exact nx H' k (b.kp kk RA') (by omega)
theorem lx_f5 {Tb : List (Addr × Str)} (T : Tx K mg) (hr : Room 11 (XL P w K mg base f (.ref cT) A outer s H0 E).A) : ∃ tt : TS, PS (XL P w K mg base f (.ref cT) A outer s H0 E) (fl 5) tt ∧
    ∀ (D : Ends) (H : Hp) (a row : Addr) (ns : List Int) (p dx td ts : Addr) (ds ss : List Int) (k : Nat) (y2 y8 y9 y10 y11 y12 : Option V), BA K T.C Tb H row a ns p dx td ts ds ss → k < ds.length → (∀ H' q dq tq sq, BA K T.C Tb H' row a ns p dx td ts ds ss → RingAt T.C H' q dq tq sq (rot k ds) (rot k ss) → D.nx [some (.ref a), some (.ref row), y2, some (.ref td), some (.ref ts), some (.ref p), some (.int (ds.length : Int)), some (.int (k : Int)), some (.ref q), y9, y10, y11, y12] H') → tt D [some (.ref a), some (.ref row), y2, some (.ref td), some (.ref ts), some (.ref p), some (.int (ds.length : Int)), some (.int (k : Int)), y8, y9, y10, y11, y12] H := by
  have nd := sc_law.nd
  refine ⟨_, ps_set (i := 8) nd rfl (.inl rfl) (pe_make T.mkR (ok_init T) (hr.mono (by decide : 5 ≤ 11)) (by rfl) T.gC T.b_rinit .nil pass0 (pa_cons (pe_op op_catA (pe_slice sl_tupA (pv 3) (po_some (pv 7)) po_none) (pe_slice sl_tupA (pv 3) po_none (po_some (pv 7)))) (pa_cons (pe_op op_catA (pe_slice sl_tupA (pv 4) (po_some (pv 7)) po_none) (pe_slice sl_tupA (pv 4) po_none (po_some (pv 7)))) pa_nil))), ?_⟩
  intro D H a row ns p dx td ts ds ss k y2 y8 y9 y10 y11 y12 b hk nx
  have l2 := b.G.l2
  have l8 := b.G.l8
  have ls := b.G.ls
  have k0 : (0 : Int) ≤ (k : Int) := by omega
  refine ⟨_, rfl, _, rfl, _, rfl, ?_⟩
  refine noPart ?_
  refine sl_from b.hd k0 (by rw [List.length_map]; omega) fun H1 p1 s1 h1 => ?_
  have b1 := b.same s1
  refine ⟨_, rfl, _, rfl, _, rfl, ?_⟩
  refine sl_to b1.hd k0 (by rw [List.length_map]; omega) fun H2 p2 s2 h2 => ?_
  refine cat_any (s2 _ _ h1) h2 (by rw [List.length_drop, List.length_take, List.length_map]; have := small1000 (n := ds.length) (by omega); omega) fun H3 tq s3 h3 => ?_
  rw [rot_map] at h3
  have b3 := (b1.same s2).same s3
  refine ⟨_, rfl, _, rfl, _, rfl, ?_⟩
  refine noPart ?_
  refine sl_from b3.hs k0 (by rw [List.length_map]; omega) fun H4 p4 s4 h4 => ?_
  have b4 := b3.same s4
  refine ⟨_, rfl, _, rfl, _, rfl, ?_⟩
  refine sl_to b4.hs k0 (by rw [List.length_map]; omega) fun H5 p5 s5 h5 => ?_
  refine cat_any (s5 _ _ h4) h5 (by rw [List.length_drop, List.length_take, List.length_map]; have := small1000 (n := ss.length) (by omega); omega) fun H6 sq s6 h6 => ?_
  rw [rot_map] at h6
  have b6 := (b4.same s5).same s6
  intro x z nx0 nz ne
  have s9 := same_new (C := T.C) nx0 nz
  refine ⟨x, z, tq, sq, rot k ds, rot k ss, rfl, upd_same, s9 _ _ (s6 _ _ (s5 _ _ (s4 _ _ h3))), s9 _ _ h6, b.G.rot k, fun H7 R7 k7 => ⟨rfl, ?_⟩⟩
  exact nx H7 x z tq sq (b6.same (Same.made nx0 nz k7)) R7
theorem lx_f6 {Tb : List (Addr × Str)} (T : Tx K mg) (hr : Room 11 (XL P w K mg base f (.ref cT) A outer s H0 E).A) : ∃ tt : TS, PS (XL P w K mg base f (.ref cT) A outer s H0 E) (fl 6) tt ∧
    ∀ (D : Ends) (H : Hp) (a row : Addr) (ns : List Int) (p dx td ts : Addr) (ds ss : List Int) (k : Nat) (q dq tq sq : Addr) (y2 y9 y10 y11 y12 : Option V), BA K T.C Tb H row a ns p dx td ts ds ss → k < ds.length → RingAt T.C H q dq tq sq (rot k ds) (rot k ss) → (∀ H', BA K T.C Tb H' row a ns p dx td ts ds ss → D.nx [some (.ref a), some (.ref row), y2, some (.ref td), some (.ref ts), some (.ref p), some (.int (ds.length : Int)), some (.int (k : Int)), some (.ref q), y9, y10, y11, y12] H') → tt D [some (.ref a), some (.ref row), y2, some (.ref td), some (.ref ts), some (.ref p), some (.int (ds.length : Int)), some (.int (k : Int)), some (.ref q), y9, y10, y11, y12] H := by
  have nd := sc_law.nd
  obtain ⟨fo, hfo⟩ := T.shI
  obtain ⟨ro, hro⟩ := T.shJ
  refine ⟨_, ps_if (PW.pt (pw_or (pt_cmpR (op_neD hr.units) (pe_ixO (E := E0) T.giC T.gFn T.giF ((ok_gi0 T).raw T.b_rgetitem .nil) (hr.mono (by decide : 5 ≤ 11)) pass0 (pv 5) (pv 7)) (pe_tup (pa_cons (pe_ix ix_tup (pv 3) (pv 7) (fun _ _ => rfl)) (pa_cons (pe_ix ix_tup (pv 4) (pv 7) (fun _ _ => rfl)) pa_nil))) (nomark _)) (pw_or1 (pt_not (pt_cmpR (op_eqO T.eqC T.eqF T.sT ((ok_eqB T).raw T.b_req .nil) (hr.mono (by decide : 2 ≤ 11)) pass0) (pe_op (op_shV (T := "int") T.sfC T.shC T.shF T.shN hfo hro T.shS ((ok_shift T).raw T.b_rrshift .nil) (hr.mono (by decide : 6 ≤ 11)) pass0) (pv 5) (pv 7)) (pv 8) (nomark _)))))) (pss_one (ps_ret pe_bl)) pss_nil, ?_⟩
  intro D H a row ns p dx td ts ds ss k q dq tq sq y2 y9 y10 y11 y12 b hk Rq nx
  have l2 := b.G.l2
  have l8 := b.G.l8
  have ls := b.G.ls
  refine ⟨_, rfl, _, rfl, p, dx, _, rfl, b.R.ob, p, dx, td, ts, ds, ss, k, rfl, b.R, hk, fun H1 t1 s1 h1 => ?_⟩
  have b1 := b.same s1
  refine ⟨_, rfl, _, rfl, td, _, (k : Int), .int (at' ds k), rfl, rfl, .of b1.hd, atI_int hk, ?_⟩
  refine ⟨_, rfl, _, rfl, ts, _, (k : Int), .int (at' ss k), rfl, rfl, .of b1.hs, atI_int (by omega), (by show 2 ≤ sizeLine; decide), fun t2 h2 => ?_⟩
  have s2 := same_upd (o := .tup [.int (at' ds k), .int (at' ss k)]) h2
  have b2 := b1.same s2
  refine tup_ne (as := [at' ds k, at' ss k]) (bs := [at' ds k, at' ss k]) (s2 _ _ h1) upd_same ⟨_, rfl, ?_⟩
  refine iteNS rfl ?_
  refine ⟨_, rfl, _, rfl, p, dx, _, rfl, b2.R.ob, (fun u hu => by obtain ⟨t, rfl⟩ := hu; rfl), p, dx, td, ts, ds, ss, (k : Int), rfl, b2.R, by omega, by omega, fun H3 p3 d3 t3 u3 s3 R3 => ⟨⟨_, rfl⟩, ?_⟩⟩
  have Rq3 := ((Rq.same s1).same s2).same s3
  refine ⟨_, rfl, p3, d3, _, rfl, R3.ob, .inl ⟨q, dq, _, rfl, Rq3.ob⟩, p3, d3, t3, u3, _, _, .ref q, rfl, R3, .inl ⟨q, dq, tq, sq, _, _, rfl, Rq3, ⟨_, rfl⟩, _, rfl, ?_⟩⟩
  rw [decide_eq_true rfl, decide_eq_true rfl]
  exact iteF (nx _ (b2.same s3))
theorem lx_f7 {Tb : List (Addr × Str)} (T : Tx K mg) (hr : Room 11 (XL P w K mg base f (.ref cT) A outer s H0 E).A) : ∃ tt : TS, PS (XL P w K mg base f (.ref cT) A outer s H0 E) (fl 7) tt ∧
    ∀ (D : Ends) (H : Hp) (a row : Addr) (ns : List Int) (p dx td ts : Addr) (ds ss : List Int) (k : Nat) (q : Addr) (y2 y9 y10 y11 y12 : Option V), BA K T.C Tb H row a ns p dx td ts ds ss → (∀ H' o dO tO sO, BA K T.C Tb H' row a ns p dx td ts ds ss → RingAt T.C H' o dO tO sO ds ss.reverse → D.nx [some (.ref a), some (.ref row), y2, some (.ref td), some (.ref ts), some (.ref p), some (.int (ds.length : Int)), some (.int (k : Int)), some (.ref q), some (.ref o), y10, y11, y12] H') → tt D [some (.ref a), some (.ref row), y2, some (.ref td), some (.ref ts), some (.ref p), some (.int (ds.length : Int)), some (.int (k : Int)), some (.ref q), y9, y10, y11, y12] H := by
  have nd := sc_law.nd
  refine ⟨_, ps_set (i := 9) nd rfl (.inl rfl) (pe_make T.mkR (ok_init T) (hr.mono (by decide : 5 ≤ 11)) (by rfl) T.gC T.b_rinit .nil pass0 (pa_cons (pv 3) (pa_cons (pe_revT (pv 4)) pa_nil))), ?_⟩
  intro D H a row ns p dx td ts ds ss k q y2 y9 y10 y11 y12 b nx
  have l2 := b.G.l2
  have l8 := b.G.l8
  have ls := b.G.ls
  refine ⟨_, rfl, _, rfl, ts, _, rfl, .of b.hs, fun p1 h1 => ?_⟩
  have s1 := same_upd (o := .tup (ss.map V.int).reverse) h1
  have b1 := b.same s1
  have e1 : (upd H p1 (.tup (ss.map V.int).reverse)) p1 = some (.tup (ss.reverse.map V.int)) := by rw [upd_same, List.map_reverse]
  intro x z nx0 nz ne
  have s9 := same_new (C := T.C) nx0 nz
  refine ⟨x, z, td, p1, ds, ss.reverse, rfl, upd_same, s9 _ _ b1.hd, s9 _ _ e1, b.G.revS, fun H7 R7 k7 => ⟨rfl, ?_⟩⟩
  exact nx H7 x z td p1 (b1.same (Same.made nx0 nz k7)) R7
theorem lx_f8 {Tb : List (Addr × Str)} (T : Tx K mg) (hr : Room 11 (XL P w K mg base f (.ref cT) A outer s H0 E).A) : ∃ tt : TS, PS (XL P w K mg base f (.ref cT) A outer s H0 E) (fl 8) tt ∧
    ∀ (D : Ends) (H : Hp) (a row : Addr) (ns : List Int) (p dx td ts : Addr) (ds ss : List Int) (k : Nat) (q o dO tO sO : Addr) (y2 y10 y11 y12 : Option V), BA K T.C Tb H row a ns p dx td ts ds ss → RingAt T.C H o dO tO sO ds ss.reverse → (∀ H', BA K T.C Tb H' row a ns p dx td ts ds ss → D.nx [some (.ref a), some (.ref row), y2, some (.ref td), some (.ref ts), some (.ref p), some (.int (ds.length : Int)), some (.int (k : Int)), some (.ref q), some (.ref o), y10, y11, y12] H') → tt D [some (.ref a), some (.ref row), y2, some (.ref td), some (.ref ts), some (.ref p), some (.int (ds.length : Int)), some (.int (k : Int)), some (.ref q), some (.ref o), y10, y11, y12] H := by
  have nd := sc_law.nd
  refine ⟨_, ps_if (pt_cmpR op_ne (pe_cmpR (op_eqO T.eqC T.eqF T.sT ((ok_eqB T).raw T.b_req .nil) (hr.mono (by decide : 2 ≤ 11)) pass0) (pv 5) (pv 9) (nomark _)) (pe_cmpR (op_eqD hr.units) (pv 4) (pe_revT (pv 4)) (nomark _)) (nomark _)) (pss_one (ps_ret pe_bl)) pss_nil, ?_⟩
  intro D H a row ns p dx td ts ds ss k q o dO tO sO y2 y10 y11 y12 b Ro nx
  have l2 := b.G.l2
  have l8 := b.G.l8
  have ls := b.G.ls
  refine ⟨_, rfl, _, rfl, p, dx, _, rfl, b.R.ob, .inl ⟨o, dO, _, rfl, Ro.ob⟩, p, dx, td, ts, _, _, .ref o, rfl, b.R, .inl ⟨o, dO, tO, sO, _, _, rfl, Ro, ⟨_, rfl⟩, ?_⟩⟩
  refine ⟨_, rfl, _, rfl, ts, _, rfl, .of b.hs, fun p1 h1 => ?_⟩
  have s1 := same_upd (o := .tup (ss.map V.int).reverse) h1
  have b1 := b.same s1
  have e1 : (upd H p1 (.tup (ss.map V.int).reverse)) p1 = some (.tup (ss.reverse.map V.int)) := by rw [upd_same, List.map_reverse]
  refine tup_eq b1.hs e1 ?_
  rw [decide_eq_true rfl, Bool.true_and]
  exact ⟨rfl, _, rfl, iteNS rfl (nx _ b1)⟩
theorem lx_f9 {Tb : List (Addr × Str)} (T : Tx K mg) (hr : Room 11 (XL P w K mg base f (.ref cT) A outer s H0 E).A) : ∃ tt : TS, PS (XL P w K mg base f (.ref cT) A outer s H0 E) (fl 9) tt ∧
    ∀ (D : Ends) (H : Hp) (a row : Addr) (ns : List Int) (p dx td ts : Addr) (ds ss : List Int) (k : Nat) (q o : Addr) (y2 y10 y11 y12 : Option V), BA K T.C Tb H row a ns p dx td ts ds ss → (∀ H' o dO tO sO, BA K T.C Tb H' row a ns p dx td ts ds ss → RingAt T.C H' o dO tO sO ds.reverse ss → D.nx [some (.ref a), some (.ref row), y2, some (.ref td), some (.ref ts), some (.ref p), some (.int (ds.length : Int)), some (.int (k : Int)), some (.ref q), some (.ref o), y10, y11, y12] H') → tt D [some (.ref a), some (.ref row), y2, some (.ref td), some (.ref ts), some (.ref p), some (.int (ds.length : Int)), some (.int (k : Int)), some (.ref q), some (.ref o), y10, y11, y12] H := by
  have nd := sc_law.nd
  refine ⟨_, ps_set (i := 9) nd rfl (.inl rfl) (pe_make T.mkR (ok_init T) (hr.mono (by decide : 5 ≤ 11)) (by rfl) T.gC T.b_rinit .nil pass0 (pa_cons (pe_revT (pv 3)) (pa_cons (pv 4) pa_nil))), ?_⟩
  intro D H a row ns p dx td ts ds ss k q o y2 y10 y11 y12 b nx
  have l2 := b.G.l2
  have l8 := b.G.l8
  have ls := b.G.ls
  refine ⟨_, rfl, td, _, rfl, .of b.hd, fun p1 h1 => ?_⟩
  have s1 := same_upd (o := .tup (ds.map V.int).reverse) h1
  have b1 := b.same s1
  have e1 : (upd H p1 (.tup (ds.map V.int).reverse)) p1 = some (.tup (ds.reverse.map V.int)) := by rw [upd_same, List.map_reverse]
  refine ⟨_, rfl, ?_⟩
  intro x z nx0 nz ne
  have s9 := same_new (C := T.C) nx0 nz
  refine ⟨x, z, p1, ts, ds.reverse, ss, rfl, upd_same, s9 _ _ e1, s9 _ _ b1.hs, b.G.revD, fun H7 R7 k7 => ⟨rfl, ?_⟩⟩
  exact nx H7 x z p1 ts (b1.same (Same.made nx0 nz k7)) R7
theorem lx_f10 {Tb : List (Addr × Str)} (T : Tx K mg) (hr : Room 11 (XL P w K mg base f (.ref cT) A outer s H0 E).A) : ∃ tt : TS, PS (XL P w K mg base f (.ref cT) A outer s H0 E) (fl 10) tt ∧
    ∀ (D : Ends) (H : Hp) (a row : Addr) (ns : List Int) (p dx td ts : Addr) (ds ss : List Int) (k : Nat) (q o dO tO sO : Addr) (y2 y10 y11 y12 : Option V), BA K T.C Tb H row a ns p dx td ts ds ss → RingAt T.C H o dO tO sO ds.reverse ss → (∀ H', BA K T.C Tb H' row a ns p dx td ts ds ss → D.nx [some (.ref a), some (.ref row), y2, some (.ref td), some (.ref ts), some (.ref p), some (.int (ds.length : Int)), some (.int (k : Int)), some (.ref q), some (.ref o), y10, y11, y12] H') → tt D [some (.ref a), some (.ref row), y2, some (.ref td), some (.ref ts), some (.ref p), some (.int (ds.length : Int)), some (.int (k : Int)), some (.ref q), some (.ref o), y10, y11, y12] H := by
  have nd := sc_law.nd
  refine ⟨_, ps_if (PW.pt (pw_or (pt_not (pt_cmpR (op_eqO T.eqC T.eqF T.sT ((ok_eqB T).raw T.b_req .nil) (hr.mono (by decide : 2 ≤ 11)) pass0) (pv 5) (pe_make T.mkR (ok_init T) (hr.mono (by decide : 5 ≤ 11)) (by rfl) T.gC T.b_rinit .nil pass0 (pa_cons (pv 3) (pa_cons (pv 4) pa_nil))) (nomark _))) (pw_or (pt_cmpR op_ne (pe_cmpR (op_eqO T.eqC T.eqF T.sT ((ok_eqB T).raw T.b_req .nil) (hr.mono (by decide : 2 ≤ 11)) pass0) (pv 5) (pv 9) (nomark _)) (pe_cmpR (op_eqD hr.units) (pv 3) (pe_revT (pv 3)) (nomark _)) (nomark _)) (pw_or1 (pt_cmpR (op_eqO T.eqC T.eqF T.sT ((ok_eqB T).raw T.b_req .nil) (hr.mono (by decide : 2 ≤ 11)) pass0) (pv 5) (pe_tup (pa_cons (pv 3) (pa_cons (pv 4) pa_nil))) (nomark _)))))) (pss_one (ps_ret pe_bl)) pss_nil, ?_⟩
  intro D H a row ns p dx td ts ds ss k q o dO tO sO y2 y10 y11 y12 b Ro nx
  have l2 := b.G.l2
  have l8 := b.G.l8
  have ls := b.G.ls
  refine ⟨_, rfl, _, rfl, _, rfl, ?_⟩
  intro x z nx0 nz ne
  have s9 := same_new (C := T.C) nx0 nz
  refine ⟨x, z, td, ts, ds, ss, rfl, upd_same, s9 _ _ b.hd, s9 _ _ b.hs, b.G, fun H7 R7 k7 => ⟨rfl, ?_⟩⟩
  have s7 : Same H H7 := Same.made nx0 nz k7
  have b := b.same s7
  have Ro := Ro.same s7
  refine ⟨p, dx, _, rfl, b.R.ob, .inl ⟨x, z, _, rfl, R7.ob⟩, p, dx, td, ts, _, _, .ref x, rfl, b.R, .inl ⟨x, z, td, ts, _, _, rfl, R7, ⟨_, rfl⟩, _, rfl, ?_⟩⟩
  rw [decide_eq_true rfl, decide_eq_true rfl]
  refine iteF ?_
  refine ⟨_, rfl, _, rfl, p, dx, _, rfl, b.R.ob, .inl ⟨o, dO, _, rfl, Ro.ob⟩, p, dx, td, ts, _, _, .ref o, rfl, b.R, .inl ⟨o, dO, tO, sO, _, _, rfl, Ro, ⟨_, rfl⟩, ?_⟩⟩
  refine ⟨_, rfl, _, rfl, td, _, rfl, .of b.hd, fun p1 h1 => ?_⟩
  have s1 := same_upd (o := .tup (ds.map V.int).reverse) h1
  have b1 := b.same s1
  have e1 : (upd H7 p1 (.tup (ds.map V.int).reverse)) p1 = some (.tup (ds.reverse.map V.int)) := by rw [upd_same, List.map_reverse]
  refine tup_eq b1.hd e1 ?_
  rw [show decide (ss = ss) = true from decide_eq_true rfl, Bool.and_true]
  refine ⟨rfl, _, rfl, iteNS rfl ?_⟩
  refine ⟨_, rfl, _, rfl, _, rfl, (by show 2 ≤ sizeLine; decide), fun t2 h2 => ?_⟩
  have s2 := same_upd (o := .tup [.ref td, .ref ts]) h2
  have b2 := b1.same s2
  refine ⟨p, dx, _, rfl, b2.R.ob, .inr ⟨t2, _, rfl, upd_same⟩, p, dx, td, ts, _, _, .ref t2, rfl, b2.R, .inr ⟨t2, _, rfl, upd_same, ⟨_, rfl⟩, _, rfl, ?_⟩⟩
  exact iteF (nx _ b2)
theorem lx_f11 {Tb : List (Addr × Str)} (T : Tx K mg) (hr : Room 11 (XL P w K mg base f (.ref cT) A outer s H0 E).A) : ∃ tt : TS, PS (XL P w K mg base f (.ref cT) A outer s H0 E) (fl 11) tt ∧
    ∀ (D : Ends) (H : Hp) (a row : Addr) (ns : List Int) (p dx td ts : Addr) (ds ss : List Int) (k : Nat) (q o : Addr) (y2 y10 y11 y12 : Option V), BA K T.C Tb H row a ns p dx td ts ds ss → (∀ H' v, BA K T.C Tb H' row a ns p dx td ts ds ss → Bd v ds.length → D.nx [some (.ref a), some (.ref row), y2, some (.ref td), some (.ref ts), some (.ref p), some (.int (ds.length : Int)), some (.int (k : Int)), some (.ref q), some (.ref o), some v, y11, y12] H') → tt D [some (.ref a), some (.ref row), y2, some (.ref td), some (.ref ts), some (.ref p), some (.int (ds.length : Int)), some (.int (k : Int)), some (.ref q), some (.ref o), y10, y11, y12] H := by
  have nd := sc_law.nd
  refine ⟨_, ps_set (i := 10) nd rfl (.inr rfl) (pe_call (ok_pickV T) (hr.mono (by decide : 2 ≤ 11)) (by rfl) T.g_lpick T.F_lpick.kp T.b_lpick .nil pass0 (pa_cons (pv 1) (pa_cons (pe_lst (pa_cons (pe_un un_neg pe_int) (pa_cons (pv 6) (pa_cons pe_non (pa_cons pe_bl (pa_cons pe_str pa_nil)))))) pa_nil))), ?_⟩
  intro D H a row ns p dx td ts ds ss k q o y2 y10 y11 y12 b nx
  have l2 := b.G.l2
  have l8 := b.G.l8
  have ls := b.G.ls
  refine ⟨_, rfl, _, rfl, _, rfl, (by show 5 ≤ sizeLine; decide), fun l hl => ?_⟩
  have s1 := same_upd (o := .lst [.int (-1), .int (ds.length : Int), .non, .bl true, .str "0"]) hl
  have b1 := b.same s1
  refine ⟨row, a, l, ns, _, rfl, b1.RA, upd_same, b.RA.nn hl, by show 1 ≤ 5; decide, by show 5 ≤ 1000; decide, fun v H2 hv RA2 k2 => ?_⟩
  have hv : v = .int (-1) ∨ v = .int (ds.length : Int) ∨ v = .non ∨ v = .bl true ∨ v = .str "0" := by simpa using hv
  exact nx H2 v (b1.kp k2 RA2) hv
theorem lx_f12 (T : Tx K mg) {S : TdS K mg} (B : TdF S) (E2 : TdE S "UnknownReader" S.c2 2) (TB : TabB base mg cT PT) (np : PT ≠ PU) (hr : Room 11 (XL P w K mg base f (.ref cT) A outer s H0 E).A) : ∃ tt : TS, PS (XL P w K mg base f (.ref cT) A outer s H0 E) (fl 12) tt ∧
    ∀ (D : Ends) (H : Hp) (a row : Addr) (ns : List Int) (p dx td ts : Addr) (ds ss : List Int) (k : Nat) (q o : Addr) (v : V) (y2 y11 y12 : Option V), BA K T.C (Tb2 PT PU) H row a ns p dx td ts ds ss → Bd v ds.length → (∀ H', BA K T.C (Tb2 PT PU) H' row a ns p dx td ts ds ss → D.nx [some (.ref a), some (.ref row), y2, some (.ref td), some (.ref ts), some (.ref p), some (.int (ds.length : Int)), some (.int (k : Int)), some (.ref q), some (.ref o), some v, y11, y12] H') → tt D [some (.ref a), some (.ref row), y2, some (.ref td), some (.ref ts), some (.ref p), some (.int (ds.length : Int)), some (.int (k : Int)), some (.ref q), some (.ref o), some v, y11, y12] H := by
  have nd := sc_law.nd
  refine ⟨_, ps_if (pt_cmpR (op_neD hr.units) (pe_told1 (k := 6) T B TB List.mem_cons_self (hu1 np) rfl (by rfl) (lamP_by (N := N_law) (sc := defScope s_law) (by decide +kernel)) rfl (fun _ _ _ _ _ _ _ => .of_eq rfl) (hr.mono (by decide : 8 ≤ 11)) (fun A outer s H E f c' hr2 => pe_ixO (E := E) T.giC T.gFn T.giF ((ok_gi T E2).raw T.b_rgetitem .nil) (hr2.mono (by decide : 5 ≤ 6)) (passes_call (takes_of rfl rfl rfl rfl) (fun _ _ _ _ z => z)) (pv 5) (pv 10))) (pe_tup (pa_cons pe_str (pa_cons pe_str pa_nil))) (nomark _)) (pss_one (ps_ret pe_bl)) pss_nil, ?_⟩
  intro D H a row ns p dx td ts ds ss k q o v y2 y11 y12 b hv nx
  have l2 := b.G.l2
  have l8 := b.G.l8
  have ls := b.G.ls
  refine ⟨b.tb, fun H1 x1 t1 E' hE => ?_⟩
  have b1 := b.extN x1 t1
  refine ⟨_, rfl, _, rfl, p, dx, _, rfl, b1.R.ob, p, dx, td, ts, ds, ss, v, rfl, b1.R, .inl ⟨hv.iv.lie, ?_⟩⟩
  refine hE _ _ _ (.inl ⟨S.c2, 2, rfl, rfl, E2.r, fun e1 H2 s2 hn hq => ?_⟩)
  have b2 : BA K T.C (Tb2 PT PU) H2 row a ns p dx td ts ds ss := b1.same s2
  refine ⟨(by show 2 ≤ sizeLine; decide), fun t ht => ?_⟩
  have s3 := same_upd (o := .tup [.str "error", .str "UnknownReader"]) ht
  refine ⟨dU, dU, dp_err (s3 _ _ hq), dp_err upd_same, dU_shaped, dU_shaped, _, rfl, ?_⟩
  rw [dU_eqv]
  exact iteF (nx _ (b2.same s3))
theorem lx_f13 (T : Tx K mg) {S : TdS K mg} (B : TdF S) (E4 : TdE S "InvalidNumber" S.c4 4) (TB : TabB base mg cT PT) (np : PT ≠ PU) (hr : Room 11 (XL P w K mg base f (.ref cT) A outer s H0 E).A) : ∃ tt : TS, PS (XL P w K mg base f (.ref cT) A outer s H0 E) (fl 13) tt ∧
    ∀ (D : Ends) (H : Hp) (a row : Addr) (ns : List Int) (p dx td ts : Addr) (ds ss : List Int) (k : Nat) (q o : Addr) (v : V) (y2 y11 y12 : Option V), BA K T.C (Tb2 PT PU) H row a ns p dx td ts ds ss → Bd v ds.length → (∀ H', BA K T.C (Tb2 PT PU) H' row a ns p dx td ts ds ss → D.nx [some (.ref a), some (.ref row), y2, some (.ref td), some (.ref ts), some (.ref p), some (.int (ds.length : Int)), some (.int (k : Int)), some (.ref q), some (.ref o), some v, y11, y12] H') → tt D [some (.ref a), some (.ref row), y2, some (.ref td), some (.ref ts), some (.ref p), some (.int (ds.length : Int)), some (.int (k : Int)), some (.ref q), some (.ref o), some v, y11, y12] H := by
  have nd := sc_law.nd
  refine ⟨_, ps_if (pt_cmpR (op_neD hr.units) (pe_toldD1 (k := 6) T B TB List.mem_cons_self (hu1 np) rfl (by rfl) (lamP_by (N := N_law) (sc := defScope s_law) (by decide +kernel)) rfl rfl ⟨"_law_a", by decide +kernel, fun _ _ _ _ _ _ _ _ _ _ _ ho hd => BindsTo.of_defaults rfl ho hd rfl rfl⟩ (hr.mono (by decide : 8 ≤ 11)) (fun A outer s H E f c' hr2 => pe_op (r := rShW K T.C (fun vs H Q E => spShX K T.C S.c4 (vs ++ []) H Q E) E) (op_shW (E := E) T.sfC T.shC T.shF T.shN ((ok_shX T E4).raw T.b_rrshift .nil) (hr2.mono (by decide : 4 ≤ 6)) (passes_call (takes_of rfl rfl rfl rfl) (fun _ _ _ _ z => z))) (pv 5) (pv 10))) (pe_tup (pa_cons pe_str (pa_cons pe_str pa_nil))) (nomark _)) (pss_one (ps_ret pe_bl)) pss_nil, ?_⟩
  intro D H a row ns p dx td ts ds ss k q o v y2 y11 y12 b hv nx
  have l2 := b.G.l2
  have l8 := b.G.l8
  have ls := b.G.ls
  refine ⟨b.tb, fun H1 x1 t1 E' hE => ?_⟩
  have b1 := b.extN x1 t1
  have facts : ∃ (Ty : String) (fo ro : Option Value), PySem.W.findIn K (.type Ty) "__rshift__" = some fo ∧ PySem.W.findIn K (.type Ty) "__rrshift__" = some ro ∧ PySem.W.subIn K (.type Ty) (.ref T.C) = some false ∧ ∀ u, RelV v u → typeOf u = pure (.type Ty) := by
    rcases hv with rfl | rfl | rfl | rfl | rfl
    · obtain ⟨fo, h1⟩ := T.shI
      obtain ⟨ro, h2⟩ := T.shJ
      exact ⟨"int", fo, ro, h1, h2, T.shS, fun u hu => by obtain ⟨t, rfl⟩ := hu; rfl⟩
    · obtain ⟨fo, h1⟩ := T.shI
      obtain ⟨ro, h2⟩ := T.shJ
      exact ⟨"int", fo, ro, h1, h2, T.shS, fun u hu => by obtain ⟨t, rfl⟩ := hu; rfl⟩
    · obtain ⟨fo, h1⟩ := T.uNoneType
      obtain ⟨ro, h2⟩ := T.vNoneType
      exact ⟨"NoneType", fo, ro, h1, h2, T.wNoneType, fun u hu => by cases hu; rfl⟩
    · obtain ⟨fo, h1⟩ := T.ubool
      obtain ⟨ro, h2⟩ := T.vbool
      exact ⟨"bool", fo, ro, h1, h2, T.wbool, fun u hu => by cases hu; rfl⟩
    · obtain ⟨fo, h1⟩ := T.ustr
      obtain ⟨ro, h2⟩ := T.vstr
      exact ⟨"str", fo, ro, h1, h2, T.wstr, fun u hu => by obtain ⟨t, rfl⟩ := hu; rfl⟩
  obtain ⟨Ty, fo, ro, h1, h2, h3, h4⟩ := facts
  refine ⟨_, rfl, _, rfl, p, dx, _, Ty, fo, ro, h1, h2, h3, rfl, b1.R.ob, h4, p, dx, td, ts, ds, ss, v, rfl, b1.R, hv.iv.lie, ?_⟩
  refine hE _ _ _ (.inl ⟨S.c4, 4, rfl, rfl, E4.r, fun e1 H2 s2 hn hq => ?_⟩)
  have b2 : BA K T.C (Tb2 PT PU) H2 row a ns p dx td ts ds ss := b1.same s2
  refine ⟨(by show 2 ≤ sizeLine; decide), fun t ht => ?_⟩
  have s3 := same_upd (o := .tup [.str "error", .str "InvalidNumber"]) ht
  refine ⟨dI, dI, dp_err (s3 _ _ hq), dp_err upd_same, dI_shaped, dI_shaped, _, rfl, ?_⟩
  rw [dI_eqv]
  exact iteF (nx _ (b2.same s3))
theorem lx_f14 {Tb : List (Addr × Str)} (T : Tx K mg) (hr : Room 11 (XL P w K mg base f (.ref cT) A outer s H0 E).A) : ∃ tt : TS, PS (XL P w K mg base f (.ref cT) A outer s H0 E) (fl 14) tt ∧
    ∀ (D : Ends) (H : Hp) (a row : Addr) (ns : List Int) (p dx td ts : Addr) (ds ss : List Int) (k : Nat) (q o : Addr) (v : V) (y2 y11 y12 : Option V), BA K T.C Tb H row a ns p dx td ts ds ss → (∀ H' x, BA K T.C Tb H' row a ns p dx td ts ds ss → Nw x → D.nx [some (.ref a), some (.ref row), y2, some (.ref td), some (.ref ts), some (.ref p), some (.int (ds.length : Int)), some (.int (k : Int)), some (.ref q), some (.ref o), some v, some x, y12] H') → tt D [some (.ref a), some (.ref row), y2, some (.ref td), some (.ref ts), some (.ref p), some (.int (ds.length : Int)), some (.int (k : Int)), some (.ref q), some (.ref o), some v, y11, y12] H := by
  have nd := sc_law.nd
  refine ⟨_, ps_set (i := 11) nd rfl (.inr rfl) (pe_call (ok_pickV T) (hr.mono (by decide : 2 ≤ 11)) (by rfl) T.g_lpick T.F_lpick.kp T.b_lpick .nil pass0 (pa_cons (pv 1) (pa_cons (pe_lst (pa_cons pe_int (pa_cons pe_int (pa_cons pe_int (pa_cons pe_int (pa_cons pe_non pa_nil)))))) pa_nil))), ?_⟩
  intro D H a row ns p dx td ts ds ss k q o v y2 y11 y12 b nx
  have l2 := b.G.l2
  have l8 := b.G.l8
  have ls := b.G.ls
  refine ⟨_, rfl, (by show 5 ≤ sizeLine; decide), fun l hl => ?_⟩
  have s1 := same_upd (o := .lst [.int 1, .int 30, .int 0, .int 31, .non]) hl
  have b1 := b.same s1
  refine ⟨row, a, l, ns, _, rfl, b1.RA, upd_same, b.RA.nn hl, by show 1 ≤ 5; decide, by show 5 ≤ 1000; decide, fun v H2 hv RA2 k2 => ?_⟩
  have hv : v = .int 1 ∨ v = .int 30 ∨ v = .int 0 ∨ v = .int 31 ∨ v = .non := by simpa using hv
  refine nx H2 v (b1.kp k2 RA2) ?_
  rcases hv with h | h | h
  · exact .inl (.inl h)
  · exact .inl (.inr h)
  · exact .inr h
theorem lx_f15 {Tb : List (Addr × Str)} (T : Tx K mg) (hr : Room 11 (XL P w K mg base f (.ref cT) A outer s H0 E).A) : ∃ tt : TS, PS (XL P w K mg base f (.ref cT) A outer s H0 E) (fl 15) tt ∧
    ∀ (D : Ends) (H : Hp) (a row : Addr) (ns : List Int) (p dx td ts : Addr) (ds ss : List Int) (k : Nat) (q o : Addr) (v x : V) (y2 y12 : Option V), BA K T.C Tb H row a ns p dx td ts ds ss → (∀ H' du l, BA K T.C Tb H' row a ns p dx td ts ds ss → H' du = some (.tup [.str "error", .str "InvalidRing", .ref l]) → H' l = some (.lst [.str "days", .int (k : Int)]) → D.nx [some (.ref a), some (.ref row), y2, some (.ref td), some (.ref ts), some (.ref p), some (.int (ds.length : Int)), some (.int (k : Int)), some (.ref q), some (.ref o), some v, some x, some (.ref du)] H') → tt D [some (.ref a), some (.ref row), y2, some (.ref td), some (.ref ts), some (.ref p), some (.int (ds.length : Int)), some (.int (k : Int)), some (.ref q), some (.ref o), some v, some x, y12] H := by
  have nd := sc_law.nd
  refine ⟨_, ps_set (i := 12) nd rfl (.inl rfl) (pe_tup (pa_cons pe_str (pa_cons pe_str (pa_cons (pe_lst (pa_cons pe_str (pa_cons (pv 7) pa_nil))) pa_nil)))), ?_⟩
  intro D H a row ns p dx td ts ds ss k q o v x y2 y12 b nx
  have l2 := b.G.l2
  have l8 := b.G.l8
  have ls := b.G.ls
  refine ⟨_, rfl, (by show 2 ≤ sizeLine; decide), fun l hl => ⟨(by show 3 ≤ sizeLine; decide), fun du hu => ?_⟩⟩
  have s1 := same_upd (o := .lst [.str "days", .int (k : Int)]) hl
  have s2 := same_upd (o := .tup [.str "error", .str "InvalidRing", .ref l]) hu
  exact nx _ du l ((b.same s1).same s2) upd_same (s2 _ _ upd_same)
theorem lx_f16 {Tb : List (Addr × Str)} (T : Tx K mg) (hr : Room 11 (XL P w K mg base f (.ref cT) A outer s H0 E).A) : ∃ tt : TS, PS (XL P w K mg base f (.ref cT) A outer s H0 E) (fl 16) tt ∧
    ∀ (D : Ends) (H : Hp) (a row : Addr) (ns : List Int) (p dx td ts : Addr) (ds ss : List Int) (k : Nat) (q o : Addr) (v x : V) (du l : Addr) (y2 : Option V), BA K T.C Tb H row a ns p dx td ts ds ss → k < ds.length → Nw x → H du = some (.tup [.str "error", .str "InvalidRing", .ref l]) → H l = some (.lst [.str "days", .int (k : Int)]) → (∀ H' du, BA K T.C Tb H' row a ns p dx td ts ds ss → Dw H' ds k x du → D.nx [some (.ref a), some (.ref row), y2, some (.ref td), some (.ref ts), some (.ref p), some (.int (ds.length : Int)), some (.int (k : Int)), some (.ref q), some (.ref o), some v, some x, some (.ref du)] H') → tt D [some (.ref a), some (.ref row), y2, some (.ref td), some (.ref ts), some (.ref p), some (.int (ds.length : Int)), some (.int (k : Int)), some (.ref q), some (.ref o), some v, some x, some (.ref du)] H := by
  have nd := sc_law.nd
  refine ⟨_, ps_if (pt_cmpR op_in_seq (pv 11) (pe_tup (pa_cons pe_int (pa_cons pe_int pa_nil))) (by with_unfolding_all rfl)) (pss_one (ps_set (i := 12) nd rfl (.inl rfl) (pe_op op_catA (pe_op op_catA (pe_slice sl_tupA (pv 3) po_none (po_some (pv 7))) (pe_tup (pa_cons (pv 11) pa_nil))) (pe_slice sl_tupA (pv 3) (po_some (pe_op op_add (pv 7) pe_int)) po_none)))) pss_nil, ?_⟩
  intro D H a row ns p dx td ts ds ss k q o v x du l y2 b hk hx hdu hl nx
  have l2 := b.G.l2
  have l8 := b.G.l8
  have ls := b.G.ls
  have k0 : (0 : Int) ≤ (k : Int) := by omega
  refine ⟨_, rfl, (by show 2 ≤ sizeLine; decide), fun t ht => ?_⟩
  have s1 := same_upd (o := .tup [.int 1, .int 30]) ht
  have b1 := b.same s1
  rcases hx with hx | hx
  · obtain ⟨d, rfl, d1, d2, hin⟩ : ∃ d : Int, x = .int d ∧ 1 ≤ d ∧ d ≤ 30 ∧ inV (.int d) [.int 1, .int 30] = true := by
      rcases hx with rfl | rfl
      · exact ⟨1, rfl, by decide, by decide, rfl⟩
      · exact ⟨30, rfl, by decide, by decide, rfl⟩
    refine ⟨t, _, rfl, .inr (.of upd_same), rfl, rfl, _, rfl, ?_⟩
    show if inV (.int d) [.int 1, .int 30] = true then _ else _
    rw [if_pos hin]
    refine ⟨_, rfl, _, rfl, _, rfl, ?_⟩
    refine sl_to b1.hd k0 (by rw [List.length_map]; omega) fun H3 p3 s3 h3 => ?_
    refine ⟨_, rfl, (by show 1 ≤ sizeLine; decide), fun p4 h4 => ?_⟩
    have s4 := same_upd (o := .tup [.int d]) h4
    refine cat_any (s4 _ _ h3) upd_same (by rw [List.length_take, List.length_map]; have := small1000 (n := ds.length + 1) (by omega); simp only [List.length_cons, List.length_nil]; omega) fun H5 p5 s5 h5 => ?_
    have b5 := ((b1.same s3).same s4).same s5
    refine ⟨_, rfl, _, rfl, _, _, rfl, rfl, _, rfl, ?_⟩
    refine noPart ?_
    refine sl_from b5.hd (k := (k : Int) + 1) (by omega) (by rw [List.length_map]; omega) fun H6 p6 s6 h6 => ?_
    refine cat_any (s6 _ _ h5) h6 (by rw [List.length_append, List.length_drop, List.length_take, List.length_map]; simp only [List.length_cons, List.length_nil]; have := small1000 (n := ds.length + ds.length + 1) (by omega); omega) fun H7 du2 s7 h7 => ?_
    refine nx H7 du2 ((b5.same s6).same s7) (.inl ⟨d, rfl, d1, d2, ?_⟩)
    rw [h7, set_map k0 (by omega)]
    rfl
  · have hin : inV x [.int 1, .int 30] = false ∧ flatV x = true := by
      rcases hx with rfl | rfl | rfl <;> exact ⟨rfl, rfl⟩
    refine ⟨t, _, rfl, .inr (.of upd_same), hin.2, rfl, _, rfl, ?_⟩
    show if inV x [.int 1, .int 30] = true then _ else _
    rw [if_neg (by rw [hin.1]; decide)]
    exact nx _ du b1 (.inr ⟨hx, l, s1 _ _ hdu, s1 _ _ hl⟩)
theorem lx_f17 (T : Tx K mg) {S : TdS K mg} (B : TdF S) (E2 : TdE S "UnknownReader" S.c2 2) (TB : TabB base mg cT PT) (np : PT ≠ PU) (TU : TabB base mg cU PU) (FU : FunC K "_law_bad_rings" "_law_bad_rings" s_lbad_rings T.a_lbad_rings T.d_lbad_rings (.ref cU)) (hr : Room 11 (XL P w K mg base f (.ref cT) A outer s H0 E).A) : ∃ tt : TS, PS (XL P w K mg base f (.ref cT) A outer s H0 E) (fl 17) tt ∧
    ∀ (D : Ends) (H : Hp) (a row : Addr) (ns : List Int) (p dx td ts : Addr) (ds ss : List Int) (k : Nat) (q o : Addr) (v x : V) (du : Addr) (y2 : Option V), BA K T.C (Tb2 PT PU) H row a ns p dx td ts ds ss → k < ds.length → Dw H ds k x du → (∀ H', BA K T.C (Tb2 PT PU) H' row a ns p dx td ts ds ss → D.nx [some (.ref a), some (.ref row), y2, some (.ref td), some (.ref ts), some (.ref p), some (.int (ds.length : Int)), some (.int (k : Int)), some (.ref q), some (.ref o), some v, some x, some (.ref du)] H') → tt D [some (.ref a), some (.ref row), y2, some (.ref td), some (.ref ts), some (.ref p), some (.int (ds.length : Int)), some (.int (k : Int)), some (.ref q), some (.ref o), some v, some x, some (.ref du)] H := by
  have nd := sc_law.nd
  refine ⟨_, ps_if (PW.pt (pw_or (pt_cmpR (op_neD hr.units) (pe_toldD1 (k := 6) T B TB List.mem_cons_self (hu1 np) rfl (by rfl) (lamP_by (N := N_law) (sc := defScope s_law) (by decide +kernel)) rfl rfl ⟨"_law_b", by decide +kernel, fun _ _ _ _ _ _ _ _ _ _ _ ho hd => BindsTo.of_defaults rfl ho hd rfl rfl⟩ (hr.mono (by decide : 8 ≤ 11)) (fun A outer s H E f c' hr2 => pe_prop (pe_meth (E := E) (pv 5) T.cl T.mW (ok_withX T B E2) hr2 T.b_rwith_days .nil (passes_call (takes_of rfl rfl rfl rfl) (fun _ _ _ _ z => z)) (pa_cons (pv 7) (pa_cons (pv 11) pa_nil))) T.cl T.q_rdays (ok_days T) (hr2.mono (by decide)) T.b_rdays .nil pass0 rfl)) (pv 12) (nomark _)) (pw_or1 (pt_not (pt_val (pe_call (ok_lbad T B TU np FU) (hr.mono (by decide : 8 ≤ 11)) (by rfl) T.g_lbad_rings T.F_lbad_rings.kp T.b_lbad_rings .nil pass0 (pa_cons (pv 1) (pa_cons (pv 3) (pa_cons (pv 4) pa_nil))))))))) (pss_one (ps_ret pe_bl)) pss_nil, ?_⟩
  intro D H a row ns p dx td ts ds ss k q o v x du y2 b hk hx nx
  have l2 := b.G.l2
  have l8 := b.G.l8
  have ls := b.G.ls
  refine ⟨b.tb, fun H1 x1 t1 E' hE => ?_⟩
  have b1 := b.extN x1 t1
  rcases hx with ⟨d, rfl, d1, d2, hdu⟩ | ⟨hx, l, hdu, hl⟩
  · have hdu := x1 _ _ hdu (by intro ps z; cases z)
    refine ⟨_, rfl, p, dx, _, rfl, b1.R.ob, rfl, _, rfl, _, rfl, p, dx, td, ts, ds, ss, _, _, rfl, b1.R, .inr ⟨k, rfl, hk, .inl ⟨d, rfl, d1, d2, fun H2 p2 dx2 t2 u2 s2 R2 => ?_⟩⟩⟩
    have b2 := b1.same s2
    refine ⟨p2, dx2, _, rfl, R2.ob, p2, dx2, t2, u2, _, _, rfl, R2, ?_⟩
    refine ⟨_, rfl, tup_ne R2.td (s2 _ _ hdu) ⟨_, rfl, iteNS rfl ?_⟩⟩
    exact ⟨_, rfl, _, rfl, _, rfl, row, a, ns, p, dx, td, ts, ds, ss, rfl, b2, fun H5 b5 => ⟨_, rfl, iteF (nx _ b5)⟩⟩
  · have hdu := x1 _ _ hdu (by intro ps z; cases z)
    have hl := x1 _ _ hl (by intro ps z; cases z)
    refine ⟨_, rfl, p, dx, _, rfl, b1.R.ob, rfl, _, rfl, _, rfl, p, dx, td, ts, ds, ss, _, _, rfl, b1.R, .inr ⟨k, rfl, hk, .inr ⟨nw_iv hx, fun dd H2 s2 hd => ?_⟩⟩⟩
    refine hE _ _ _ (.inr ⟨dd, .str "days", .int (k : Int), rfl, rfl, hd, fun p2 l2 H3 s3 hl2 hp2 => ?_⟩)
    have b3 := (b1.same s2).same s3
    have e3 : PyData.strOk "days" = true := by decide +kernel
    refine ⟨_, rfl, dR "days" k, dR "days" k, dp_ir hp2 hl2, dp_ir (s3 _ _ (s2 _ _ hdu)) (s3 _ _ (s2 _ _ hl)), dR_shaped _ _ e3, dR_shaped _ _ e3, _, rfl, ?_⟩
    rw [dR_eqv]
    refine iteF ?_
    exact ⟨_, rfl, _, rfl, _, rfl, row, a, ns, p, dx, td, ts, ds, ss, rfl, b3, fun H5 b5 => ⟨_, rfl, iteF (nx _ b5)⟩⟩
theorem lx_f18 (T : Tx K mg) {S : TdS K mg} (B : TdF S) (E2 : TdE S "UnknownReader" S.c2 2) (TB : TabB base mg cT PT) (np : PT ≠ PU) (hr : Room 11 (XL P w K mg base f (.ref cT) A outer s H0 E).A) : ∃ tt : TS, PS (XL P w K mg base f (.ref cT) A outer s H0 E) (fl 18) tt ∧
    ∀ (D : Ends) (H : Hp) (a row : Addr) (ns : List Int) (p dx td ts : Addr) (ds ss : List Int) (k : Nat) (q o : Addr) (v x : V) (du : Addr) (y2 : Option V), BA K T.C (Tb2 PT PU) H row a ns p dx td ts ds ss → Bd v ds.length → (∀ H', BA K T.C (Tb2 PT PU) H' row a ns p dx td ts ds ss → D.nx [some (.ref a), some (.ref row), y2, some (.ref td), some (.ref ts), some (.ref p), some (.int (ds.length : Int)), some (.int (k : Int)), some (.ref q), some (.ref o), some v, some x, some (.ref du)] H') → tt D [some (.ref a), some (.ref row), y2, some (.ref td), some (.ref ts), some (.ref p), some (.int (ds.length : Int)), some (.int (k : Int)), some (.ref q), some (.ref o), some v, some x, some (.ref du)] H := by
  have nd := sc_law.nd
  refine ⟨_, ps_if (pt_cmpR (op_neD hr.units) (pe_toldD1 (k := 6) T B TB List.mem_cons_self (hu1 np) rfl (by rfl) (lamP_by (N := N_law) (sc := defScope s_law) (by decide +kernel)) rfl rfl ⟨"_law_c", by decide +kernel, fun _ _ _ _ _ _ _ _ _ _ _ ho hd => BindsTo.of_defaults rfl ho hd rfl rfl⟩ (hr.mono (by decide : 8 ≤ 11)) (fun A outer s H E f c' hr2 => (pe_meth (E := E) (pv 5) T.cl T.mW (ok_withX T B E2) hr2 T.b_rwith_days .nil (passes_call (takes_of rfl rfl rfl rfl) (fun _ _ _ _ z => z)) (pa_cons (pv 10) (pa_cons pe_int pa_nil))))) (pe_tup (pa_cons pe_str (pa_cons pe_str pa_nil))) (nomark _)) (pss_one (ps_ret pe_bl)) pss_nil, ?_⟩
  intro D H a row ns p dx td ts ds ss k q o v x du y2 b hv nx
  have l2 := b.G.l2
  have l8 := b.G.l8
  have ls := b.G.ls
  refine ⟨b.tb, fun H1 x1 t1 E' hE => ?_⟩
  have b1 := b.extN x1 t1
  refine ⟨_, rfl, p, dx, _, rfl, b1.R.ob, rfl, _, rfl, p, dx, td, ts, ds, ss, _, _, rfl, b1.R, .inl ⟨hv.iv.lie, ?_⟩⟩
  refine hE _ _ _ (.inl ⟨S.c2, 2, rfl, rfl, E2.r, fun e1 H2 s2 hn hq => ?_⟩)
  have b2 : BA K T.C (Tb2 PT PU) H2 row a ns p dx td ts ds ss := b1.same s2
  refine ⟨(by show 2 ≤ sizeLine; decide), fun t ht => ?_⟩
  have s3 := same_upd (o := .tup [.str "error", .str "UnknownReader"]) ht
  refine ⟨dU, dU, dp_err (s3 _ _ hq), dp_err upd_same, dU_shaped, dU_shaped, _, rfl, ?_⟩
  rw [dU_eqv]
  exact iteF (nx _ (b2.same s3))
theorem lx_end (T : Tx K mg) (hr : Room 11 (XL P w K mg base f (.ref cT) A outer s H0 E).A) : ∃ tt : TS, PS (XL P w K mg base f (.ref cT) A outer s H0 E) (bs 2) tt ∧ ∀ (D : Ends) (H : Hp) (σ : L2.St), (∀ H', D.rt (.bl true) H') → tt D σ H := by
  have nd := sc_law.nd
  refine ⟨_, ps_ret (pe_and (pe_cmpR (op_eqO T.eqC T.eqF T.sT ((ok_eqB T).raw T.b_req .nil) (hr.mono (by decide : 2 ≤ 11)) pass0) (ClX.pe_cmeth (E := E0) (pe_glob (v := .ref T.C) (by rfl) T.gC rfl) T.crd T.cmS (ok_single T) (hr.mono (by decide : 6 ≤ 11)) pass0 (pa_cons pe_int (pa_cons pe_int pa_nil))) (pe_make T.mkR (ok_init T) (hr.mono (by decide : 5 ≤ 11)) (by rfl) T.gC T.b_rinit .nil pass0 (pa_cons (pe_tup (pa_cons pe_int (pa_cons pe_int pa_nil))) (pa_cons (pe_tup (pa_cons pe_int (pa_cons pe_int pa_nil))) pa_nil))) (nomark _)) (pe_one (pe_cmpR (op_eqD hr.units) (pe_prop (ClX.pe_cmeth (E := E0) (pe_glob (v := .ref T.C) (by rfl) T.gC rfl) T.crd T.cmS (ok_single T) (hr.mono (by decide : 6 ≤ 11)) pass0 (pa_cons pe_int (pa_cons pe_int (pa_cons pe_int pa_nil)))) T.cl T.q_rstarts (ok_starts T) (hr.mono (by decide : 2 ≤ 11)) T.b_rstarts .nil pass0 rfl) (pe_tup (pa_cons pe_int (pa_cons pe_int (pa_cons pe_int pa_nil)))) (nomark _)))), ?_⟩
  intro D H σ q
  have G34 : Good [3, 4] (List.replicate 2 1) := ⟨by decide, by decide, by decide, by decide, by decide, by decide, by decide⟩
  have G123 : Good [1, 2, 3] (List.replicate 3 1) := ⟨by decide, by decide, by decide, by decide, by decide, by decide, by decide⟩
  refine ⟨rfl, [.ref T.C], [.int 3, .int 4], rfl, rfl, (by show 2 ≤ sizeLine; decide), fun p1 h1 => ⟨p1, [3, 4], rfl, upd_same, G34, fun H2 r dr tr ur s2 R => ?_⟩⟩
  refine ⟨(by show 2 ≤ sizeLine; decide), fun p3 h3 => ⟨(by show 2 ≤ sizeLine; decide), fun p4 h4 => ?_⟩⟩
  have s3 := same_upd (o := .tup [.int 3, .int 4]) h3
  have s4 := same_upd (o := .tup [.int 1, .int 1]) h4
  intro x z nx0 nz ne
  have s9 := same_new (C := T.C) nx0 nz
  have R := (R.same s3).same s4
  refine ⟨x, z, p3, p4, [3, 4], List.replicate 2 1, rfl, upd_same, s9 _ _ (s4 _ _ upd_same), s9 _ _ upd_same, G34, fun H7 R7 k7 => ⟨rfl, ?_⟩⟩
  have R := R.same (Same.made nx0 nz k7)
  refine ⟨r, dr, _, rfl, R.ob, .inl ⟨x, z, _, rfl, R7.ob⟩, r, dr, tr, ur, _, _, .ref x, rfl, R, .inl ⟨x, z, p3, p4, _, _, rfl, R7, ⟨_, rfl⟩, _, rfl, ?_⟩⟩
  refine iteT ?_
  refine ⟨rfl, [.ref T.C], [.int 1, .int 2, .int 3], rfl, rfl, (by show 3 ≤ sizeLine; decide), fun p5 h5 => ⟨p5, [1, 2, 3], rfl, upd_same, G123, fun H8 r8 dr8 tr8 ur8 s8 R8 => ?_⟩⟩
  refine ⟨r8, dr8, _, rfl, R8.ob, r8, dr8, tr8, ur8, _, _, rfl, R8, ?_⟩
  refine ⟨(by show 3 ≤ sizeLine; decide), fun p9 h9 => ?_⟩
  have s9 := same_upd (o := .tup [.int 1, .int 1, .int 1]) h9
  refine tup_eq (bs := [1, 1, 1]) (R8.same s9).ts upd_same ?_
  exact q _
end
end Rp
/-! The end of a law where several defs hold lambdas: all their tables are empty. -/
namespace Rl
open PySem PySem.Spec PyProof.Rows L2 LamX
theorem walk_tabs {l : PySem.W.OpenLaw} {n k : Nat} {pr : Program} {loose : List Str} {XP : (Str → Option Value) → Heap → Prop} {YP : World → Heap → Prop} {dr : DefRec} {K : Params → PySem.W.Frag} {CX : World → CXT} {x : Str}
    (most : l.most = some n) (small : n ≤ sizeLine) (nodf : dr.params.defaults = []) (room : Room k callerA) (kin : ∀ (w : World) (h : Heap), YP w h → (K w.params).In h)
    (F : ∀ (w : World) (mg : Str → Option Value) (fa : Addr) (h : Heap), YP w h → (K w.params).In h → h.Ns mainGlobals mg → mg dr.name = some (.ref fa) →
      (∀ (nm : Str) (fb : Addr), ((recsOf pr).any fun r => r.name == nm) = true → mg nm = some (.ref fb) → OwnTab (K w.params) fb h) → LawAtS l w (K w.params) (CX w) k n x mg fa h)
    (quiet : ∀ (w : World) (H : Hp) (s : Shared) (e : Value) (s' : Shared), CX w [] H s (fun _ _ _ => False) e s' → False) :
    PySem.W.WalkO pr loose XP YP l.row.toRowW dr [] (fun f vs => PySem.call f vs) := by
  refine Att.attach_callB most nodf fun w st0 st1 mg mb fa ob pm cd doc a vs ns Gd Yp hob hdt hcod hmn hob2 hin hle hbt hgn => ?_
  have KK := kin w _ Yp
  have tabs : ∀ (nm : Str) (fb : Addr), ((recsOf pr).any fun r => r.name == nm) = true → mg nm = some (.ref fb) → OwnTab (K w.params) fb st1.heap := by
    intro nm fb hr hb c P o1 fd1 e dd vs1 sl q1 q2 q3 q4 q5
    obtain ⟨rc, mem, eqn⟩ := List.any_eq_true.mp hr
    obtain ⟨b1, o2, fd2, c2, P2, t1, t2, t3, t4, t5, t6⟩ := Gd.T.tab rc mem
    rw [beq_iff_eq.mp eqn, hb] at t1
    cases t1
    rw [KK _ _ q1] at t2
    cases t2
    rw [q2] at t3
    cases t3
    rw [q3] at t4
    cases t4
    obtain ⟨⟨oc, vc, w1, _, w3, w4⟩, emp⟩ := t6
    rw [KK _ _ q4] at w1
    cases w1
    cases w3
    rw [q5] at w4
    cases w4
    exact emp
  obtain ⟨fd, cs, sp, g1, g2, g3, g4, g5, g6⟩ := F w mg fa _ Yp KK Gd.T.g hmn tabs
  refine law_callTs KK Gd.T.g Gd.T.b Gd.T.builtins Gd.T.nolimit hgn g1 g2 g3 Gd.T.bmain hob2 hin (Nat.le_trans hle small) room g6 g4 (fun H hH hS => ?_) fun H e s' => quiet w H st1 e s'
  exact g5 H a ns hle hbt hH hS
end Rl
namespace Rp
open PySem PySem.Spec PyProof.Rows L2 Rz Rm Rt Rl LamX
section
variable {P : Program} {w : World} {K : PySem.W.Frag} {mg : Str → Option Value} {base : Heap}
def spLawL (K : PySem.W.Frag) (PT PU : Addr) : Sp := fun vs H Q _ => ∃ (a : Addr) (ns : List Int), vs = [.ref a] ∧ SqL K H a (ns.map V.int) ∧ ns.length ≤ 63 ∧ H PT = some (.tbl #[]) ∧ H PU = some (.tbl #[]) ∧ ∀ H', Q (.bl true) H'
theorem ok_law {cT PT cU PU : Addr} (T : Tx K mg) (S : TdS K mg) (B : TdF S) (E2 : TdE S "UnknownReader" S.c2 2) (E4 : TdE S "InvalidNumber" S.c4 4) (TB : TabB base mg cT PT) (FC : FunC K "law" "law" s_law T.a_law T.d_law (.ref cT))
    (TU : TabB base mg cU PU) (FU : FunC K "_law_bad_rings" "_law_bad_rings" s_lbad_rings T.a_lbad_rings T.d_lbad_rings (.ref cU)) (np : PT ≠ PU) : FnOk P w K mg base CX0 12 T.a_law T.d_law P_law (spLawL K PT PU) := by
  refine FC.ok sc_law (fun vs H Q E h => ?_) (fun A outer s H vs Q E hr h => ?_)
  · obtain ⟨a, ns, rfl, _⟩ := h
    rfl
  · obtain ⟨a, ns, rfl, hS, hlen, hP, hU, q⟩ := h
    have hr1 : Room 1 _ := hr.mono (by decide)
    have nd := sc_law.nd
    obtain ⟨u0, q0, v0⟩ := lx_f0 (P := P) (w := w) (K := K) (mg := mg) (base := base) (f := T.a_law) (cT := cT) (A := A) (outer := outer) (s := s) (H0 := H) (E := E) (Tb := Tb2 PT PU) T  hr
    obtain ⟨u1, q1, v1⟩ := lx_f1 (P := P) (w := w) (K := K) (mg := mg) (base := base) (f := T.a_law) (cT := cT) (A := A) (outer := outer) (s := s) (H0 := H) (E := E) (Tb := Tb2 PT PU) T  hr
    obtain ⟨u2, q2, v2⟩ := lx_f2 (P := P) (w := w) (K := K) (mg := mg) (base := base) (f := T.a_law) (cT := cT) (A := A) (outer := outer) (s := s) (H0 := H) (E := E) (Tb := Tb2 PT PU) T  hr
    obtain ⟨u3, q3, v3⟩ := lx_f3 (P := P) (w := w) (K := K) (mg := mg) (base := base) (f := T.a_law) (cT := cT) (A := A) (outer := outer) (s := s) (H0 := H) (E := E) (Tb := Tb2 PT PU) T  hr
    obtain ⟨u4, q4, v4⟩ := lx_f4 (P := P) (w := w) (K := K) (mg := mg) (base := base) (f := T.a_law) (cT := cT) (A := A) (outer := outer) (s := s) (H0 := H) (E := E) (Tb := Tb2 PT PU) T  hr
    obtain ⟨u5, q5, v5⟩ := lx_f5 (P := P) (w := w) (K := K) (mg := mg) (base := base) (f := T.a_law) (cT := cT) (A := A) (outer := outer) (s := s) (H0 := H) (E := E) (Tb := Tb2 PT PU) T  hr
    obtain ⟨u6, q6, v6⟩ := lx_f6 (P := P) (w := w) (K := K) (mg := mg) (base := base) (f := T.a_law) (cT := cT) (A := A) (outer := outer) (s := s) (H0 := H) (E := E) (Tb := Tb2 PT PU) T  hr
    obtain ⟨u7, q7, v7⟩ := lx_f7 (P := P) (w := w) (K := K) (mg := mg) (base := base) (f := T.a_law) (cT := cT) (A := A) (outer := outer) (s := s) (H0 := H) (E := E) (Tb := Tb2 PT PU) T  hr
    obtain ⟨u8, q8, v8⟩ := lx_f8 (P := P) (w := w) (K := K) (mg := mg) (base := base) (f := T.a_law) (cT := cT) (A := A) (outer := outer) (s := s) (H0 := H) (E := E) (Tb := Tb2 PT PU) T  hr
    obtain ⟨u9, q9, v9⟩ := lx_f9 (P := P) (w := w) (K := K) (mg := mg) (base := base) (f := T.a_law) (cT := cT) (A := A) (outer := outer) (s := s) (H0 := H) (E := E) (Tb := Tb2 PT PU) T  hr
    obtain ⟨u10, q10, v10⟩ := lx_f10 (P := P) (w := w) (K := K) (mg := mg) (base := base) (f := T.a_law) (cT := cT) (A := A) (outer := outer) (s := s) (H0 := H) (E := E) (Tb := Tb2 PT PU) T  hr
    obtain ⟨u11, q11, v11⟩ := lx_f11 (P := P) (w := w) (K := K) (mg := mg) (base := base) (f := T.a_law) (cT := cT) (A := A) (outer := outer) (s := s) (H0 := H) (E := E) (Tb := Tb2 PT PU) T  hr
    obtain ⟨u12, q12, v12⟩ := lx_f12 (P := P) (w := w) (K := K) (mg := mg) (base := base) (f := T.a_law) (cT := cT) (A := A) (outer := outer) (s := s) (H0 := H) (E := E) (PU := PU) T B E2 TB np hr
    obtain ⟨u13, q13, v13⟩ := lx_f13 (P := P) (w := w) (K := K) (mg := mg) (base := base) (f := T.a_law) (cT := cT) (A := A) (outer := outer) (s := s) (H0 := H) (E := E) (PU := PU) T B E4 TB np hr
    obtain ⟨u14, q14, v14⟩ := lx_f14 (P := P) (w := w) (K := K) (mg := mg) (base := base) (f := T.a_law) (cT := cT) (A := A) (outer := outer) (s := s) (H0 := H) (E := E) (Tb := Tb2 PT PU) T  hr
    obtain ⟨u15, q15, v15⟩ := lx_f15 (P := P) (w := w) (K := K) (mg := mg) (base := base) (f := T.a_law) (cT := cT) (A := A) (outer := outer) (s := s) (H0 := H) (E := E) (Tb := Tb2 PT PU) T  hr
    obtain ⟨u16, q16, v16⟩ := lx_f16 (P := P) (w := w) (K := K) (mg := mg) (base := base) (f := T.a_law) (cT := cT) (A := A) (outer := outer) (s := s) (H0 := H) (E := E) (Tb := Tb2 PT PU) T  hr
    obtain ⟨u17, q17, v17⟩ := lx_f17 (P := P) (w := w) (K := K) (mg := mg) (base := base) (f := T.a_law) (cT := cT) (A := A) (outer := outer) (s := s) (H0 := H) (E := E) T B E2 TB np TU FU hr
    obtain ⟨u18, q18, v18⟩ := lx_f18 (P := P) (w := w) (K := K) (mg := mg) (base := base) (f := T.a_law) (cT := cT) (A := A) (outer := outer) (s := s) (H0 := H) (E := E) (PU := PU) T B E2 TB np hr
    obtain ⟨ue, qe, ve⟩ := lx_end (P := P) (w := w) (K := K) (mg := mg) (base := base) (f := T.a_law) (cT := cT) (A := A) (outer := outer) (s := s) (H0 := H) (E := E) T hr
    refine ⟨_, pss_cons (ps_set (i := 1) nd rfl (.inl rfl) (pe_call (ok_dice T) hr1 (by rfl) T.g_ldice T.F_ldice.kp T.b_ldice .nil pass0 (pa_cons (pv 0) pa_nil)))
      (pss_cons (ps_for PassesOwn.never rfl (pi_range1 (by rfl) T.z_range (pa_cons pe_int pa_nil)) (pg_name (i := 2) nd rfl (.inl rfl)) (pss_cons q0 (pss_cons q1 (pss_cons q2 (pss_cons q3 (pss_cons q4 (pss_cons q5 (pss_cons q6 (pss_cons q7 (pss_cons q8 (pss_cons q9 (pss_cons q10 (pss_cons q11 (pss_cons q12 (pss_cons q13 (pss_cons q14 (pss_cons q15 (pss_cons q16 (pss_cons q17 (pss_one q18))))))))))))))))))))
      (pss_one qe)), ?_⟩
    have tb0 : Tabs (Tb2 PT PU) H := fun p hp => by
      rcases List.mem_cons.mp hp with rfl | hp
      · exact TabS.nil hP
      · cases List.mem_singleton.mp hp
        exact TabS.nil hU
    refine ⟨_, rfl, a, ns, rfl, hS, fun H1 row RA1 s1 => ?_⟩
    refine ⟨3, rfl, by decide, by decide, ?_⟩
    refine for_range (lo := 0) (n := 3) (fun i σ H' => (∃ y2 y3 y4 y5 y6 y7 y8 y9 y10 y11 y12, σ = [some (.ref a), some (.ref row), y2, y3, y4, y5, y6, y7, y8, y9, y10, y11, y12]) ∧ RowAt K H' row a ns ∧ Tabs (Tb2 PT PU) H')
      ⟨⟨none, none, none, none, none, none, none, none, none, none, none, rfl⟩, RA1, tb0.ext s1⟩ ?_ ?_
    · rintro i σ H2 hi ⟨⟨y2, y3, y4, y5, y6, y7, y8, y9, y10, y11, y12, rfl⟩, RA2, tb2⟩
      show tSeq _ _ _ [some (.ref a), some (.ref row), some (.int (0 + (i : Int))), y3, y4, y5, y6, y7, y8, y9, y10, y11, y12] H2
      refine v0 _ H2 a row ns _ _ _ _ _ _ _ _ _ _ _ RA2 tb2 fun H3 td ts ds ss G RA3 tb3 hd hs => ?_
      refine v1 _ H3 a row ns td ts ds ss _ _ _ _ _ _ _ _ _ G RA3 tb3 hd hs fun H4 p dx b => ?_
      refine v2 _ H4 a row ns p dx td ts ds ss _ _ _ _ _ _ _ b fun H5 b => ?_
      refine v3 _ H5 a row ns p dx td ts ds ss _ _ _ _ _ _ _ b fun H6 b => ?_
      refine v4 _ H6 a row ns p dx td ts ds ss _ _ _ _ _ _ _ b fun H7 k b hk => ?_
      refine v5 _ H7 a row ns p dx td ts ds ss k _ _ _ _ _ _ b hk fun H8 q dq tq sq b Rq => ?_
      refine v6 _ H8 a row ns p dx td ts ds ss k q dq tq sq _ _ _ _ _ b hk Rq fun H9 b => ?_
      refine v7 _ H9 a row ns p dx td ts ds ss k q _ _ _ _ _ b fun H10 o dO tO sO b Ro => ?_
      refine v8 _ H10 a row ns p dx td ts ds ss k q o dO tO sO _ _ _ _ b Ro fun H11 b => ?_
      refine v9 _ H11 a row ns p dx td ts ds ss k q o _ _ _ _ b fun H12 o dO tO sO b Ro => ?_
      refine v10 _ H12 a row ns p dx td ts ds ss k q o dO tO sO _ _ _ _ b Ro fun H13 b => ?_
      refine v11 _ H13 a row ns p dx td ts ds ss k q o _ _ _ _ b fun H14 v b hv => ?_
      refine v12 _ H14 a row ns p dx td ts ds ss k q o v _ _ _ b hv fun H15 b => ?_
      refine v13 _ H15 a row ns p dx td ts ds ss k q o v _ _ _ b hv fun H16 b => ?_
      refine v14 _ H16 a row ns p dx td ts ds ss k q o v _ _ _ b fun H17 x b hx => ?_
      refine v15 _ H17 a row ns p dx td ts ds ss k q o v x _ _ b fun H18 du l b hdu hl => ?_
      refine v16 _ H18 a row ns p dx td ts ds ss k q o v x du l _ b hk hx hdu hl fun H19 du b hD => ?_
      refine v17 _ H19 a row ns p dx td ts ds ss k q o v x du _ b hk hD fun H20 b => ?_
      refine v18 _ H20 a row ns p dx td ts ds ss k q o v x du _ b hv fun H21 b => ?_
      exact ⟨⟨_, _, _, _, _, _, _, _, _, _, _, rfl⟩, b.RA, b.tb⟩
    · rintro σ H2 ⟨_, _⟩
      exact ve _ H2 σ q
end
end Rp
namespace Rp
open PySem PySem.Spec PyProof.Rows L2 Rz Rm Rt Rl LamX
theorem all_mk {l : PySem.W.OpenLaw} {w : World} {K : PySem.W.Frag} {h : Heap} {mg : Str → Option Value} {fa C : Addr} (X : K.In h) (G : h.Ns mainGlobals mg) (hfa : mg "law" = some (.ref fa))
    {f_iInvalidRing : Addr} {od_iInvalidRing an_iInvalidRing : Option Addr} {sl_iInvalidRing : Array (Option Value)} {oc_iInvalidRing kV_iInvalidRing dc_iInvalidRing pm_iInvalidRing cd_iInvalidRing ct_iInvalidRing : Value}
    {ec_iInvalidRing : Addr}
    {f_is_number : Addr} {od_is_number an_is_number : Option Addr} {sl_is_number : Array (Option Value)} {oc_is_number kV_is_number dc_is_number pm_is_number cd_is_number ct_is_number : Value}
    {f_lies_between : Addr} {od_lies_between an_lies_between : Option Addr} {sl_lies_between : Array (Option Value)} {oc_lies_between kV_lies_between dc_lies_between pm_lies_between cd_lies_between ct_lies_between : Value}
    {f_check_number : Addr} {od_check_number an_check_number : Option Addr} {sl_check_number : Array (Option Value)} {oc_check_number kV_check_number dc_check_number pm_check_number cd_check_number ct_check_number : Value}
    {f_check_reader : Addr} {od_check_reader an_check_reader : Option Addr} {sl_check_reader : Array (Option Value)} {oc_check_reader kV_check_reader dc_check_reader pm_check_reader cd_check_reader ct_check_reader : Value}
    {f_rinit : Addr} {od_rinit an_rinit : Option Addr} {sl_rinit : Array (Option Value)} {oc_rinit kV_rinit dc_rinit pm_rinit cd_rinit ct_rinit : Value}
    {f_rsingle : Addr} {od_rsingle an_rsingle : Option Addr} {sl_rsingle : Array (Option Value)} {oc_rsingle kV_rsingle dc_rsingle pm_rsingle cd_rsingle ct_rsingle : Value}
    {p_single : Addr} {rest_single : List Value}
    {f_rdays : Addr} {od_rdays an_rdays : Option Addr} {sl_rdays : Array (Option Value)} {oc_rdays kV_rdays dc_rdays pm_rdays cd_rdays ct_rdays : Value}
    {pp_rdays : Addr} {re_rdays : List Value}
    {f_rstarts : Addr} {od_rstarts an_rstarts : Option Addr} {sl_rstarts : Array (Option Value)} {oc_rstarts kV_rstarts dc_rstarts pm_rstarts cd_rstarts ct_rstarts : Value}
    {pp_rstarts : Addr} {re_rstarts : List Value}
    {f_rbooks : Addr} {od_rbooks an_rbooks : Option Addr} {sl_rbooks : Array (Option Value)} {oc_rbooks kV_rbooks dc_rbooks pm_rbooks cd_rbooks ct_rbooks : Value}
    {pp_rbooks : Addr} {re_rbooks : List Value}
    {f_rpace : Addr} {od_rpace an_rpace : Option Addr} {sl_rpace : Array (Option Value)} {oc_rpace kV_rpace dc_rpace pm_rpace cd_rpace ct_rpace : Value}
    {pp_rpace : Addr} {re_rpace : List Value}
    {f_rwith_days : Addr} {od_rwith_days an_rwith_days : Option Addr} {sl_rwith_days : Array (Option Value)} {oc_rwith_days kV_rwith_days dc_rwith_days pm_rwith_days cd_rwith_days ct_rwith_days : Value}
    {f_rlen : Addr} {od_rlen an_rlen : Option Addr} {sl_rlen : Array (Option Value)} {oc_rlen kV_rlen dc_rlen pm_rlen cd_rlen ct_rlen : Value}
    {f_rgetitem : Addr} {od_rgetitem an_rgetitem : Option Addr} {sl_rgetitem : Array (Option Value)} {oc_rgetitem kV_rgetitem dc_rgetitem pm_rgetitem cd_rgetitem ct_rgetitem : Value}
    {f_rcall : Addr} {od_rcall an_rcall : Option Addr} {sl_rcall : Array (Option Value)} {oc_rcall kV_rcall dc_rcall pm_rcall cd_rcall ct_rcall : Value}
    {f_rrshift : Addr} {od_rrshift an_rrshift : Option Addr} {sl_rrshift : Array (Option Value)} {oc_rrshift kV_rrshift dc_rrshift pm_rrshift cd_rrshift ct_rrshift : Value}
    {f_req : Addr} {od_req an_req : Option Addr} {sl_req : Array (Option Value)} {oc_req kV_req dc_req pm_req cd_req ct_req : Value}
    {f_check_part : Addr} {od_check_part an_check_part : Option Addr} {sl_check_part : Array (Option Value)} {oc_check_part kV_check_part dc_check_part pm_check_part cd_check_part ct_check_part : Value}
    {f_slowest_decides : Addr} {od_slowest_decides an_slowest_decides : Option Addr} {sl_slowest_decides : Array (Option Value)} {oc_slowest_decides kV_slowest_decides dc_slowest_decides pm_slowest_decides cd_slowest_decides ct_slowest_decides : Value}
    {f_pace_of : Addr} {od_pace_of an_pace_of : Option Addr} {sl_pace_of : Array (Option Value)} {oc_pace_of kV_pace_of dc_pace_of pm_pace_of cd_pace_of ct_pace_of : Value}
    {f_round_pace : Addr} {od_round_pace an_round_pace : Option Addr} {sl_round_pace : Array (Option Value)} {oc_round_pace kV_round_pace dc_round_pace pm_round_pace cd_round_pace ct_round_pace : Value}
    {f_end_day : Addr} {od_end_day an_end_day : Option Addr} {sl_end_day : Array (Option Value)} {oc_end_day kV_end_day dc_end_day pm_end_day cd_end_day ct_end_day : Value}
    {f_ldice : Addr} {od_ldice an_ldice : Option Addr} {sl_ldice : Array (Option Value)} {oc_ldice kV_ldice dc_ldice pm_ldice cd_ldice ct_ldice : Value}
    {f_lnext : Addr} {od_lnext an_lnext : Option Addr} {sl_lnext : Array (Option Value)} {oc_lnext kV_lnext dc_lnext pm_lnext cd_lnext ct_lnext : Value}
    {f_llike : Addr} {od_llike an_llike : Option Addr} {sl_llike : Array (Option Value)} {oc_llike kV_llike dc_llike pm_llike cd_llike ct_llike : Value}
    {f_lpick : Addr} {od_lpick an_lpick : Option Addr} {sl_lpick : Array (Option Value)} {oc_lpick kV_lpick dc_lpick pm_lpick cd_lpick ct_lpick : Value}
    {f_ltold : Addr} {od_ltold an_ltold : Option Addr} {sl_ltold : Array (Option Value)} {oc_ltold kV_ltold dc_ltold pm_ltold cd_ltold ct_ltold : Value}
    {f_lring : Addr} {od_lring an_lring : Option Addr} {sl_lring : Array (Option Value)} {oc_lring kV_lring dc_lring pm_lring cd_lring ct_lring : Value}
    {f_lterms : Addr} {od_lterms an_lterms : Option Addr} {sl_lterms : Array (Option Value)} {oc_lterms kV_lterms dc_lterms pm_lterms cd_lterms ct_lterms : Value}
    {f_lpace : Addr} {od_lpace an_lpace : Option Addr} {sl_lpace : Array (Option Value)} {oc_lpace kV_lpace dc_lpace pm_lpace cd_lpace ct_lpace : Value}
    {f_lbad_rings : Addr} {od_lbad_rings an_lbad_rings : Option Addr} {sl_lbad_rings : Array (Option Value)} {oc_lbad_rings kV_lbad_rings dc_lbad_rings pm_lbad_rings cd_lbad_rings ct_lbad_rings : Value}
    {f_law : Addr} {od_law an_law : Option Addr} {sl_law : Array (Option Value)} {oc_law kV_law dc_law pm_law cd_law ct_law : Value}
    {sh_fo sh_ro : Option Value}
    {u_NoneType v_NoneType : Option Value}
    {u_bool v_bool : Option Value}
    {u_str v_str : Option Value}
    {t_LATEST : Tok}
    {t_FEWEST_READERS : Tok}
    {t_MOST_READERS : Tok}
    {t_MOST_DAYS : Tok}
    {t_MOST_BOOKS : Tok}
    (aC : PySem.W.nsIn K mainGlobals "Ring" = some (some (.ref C)))
    (xc_iInvalidRing : PySem.W.nsIn K mainGlobals "InvalidRing" = some (some (.ref ec_iInvalidRing)))
    (x_iInvalidRing : PySem.W.findIn K (.ref ec_iInvalidRing) "__init__" = some (some (.ref f_iInvalidRing)))
    (xt_iInvalidRing : PySem.W.typeIn K (.ref f_iInvalidRing) = some (.type "function"))
    (xo_iInvalidRing : oxB K ec_iInvalidRing = true)
    (l_iInvalidRing : K.lookup f_iInvalidRing = some ⟨oc_iInvalidRing, od_iInvalidRing, .func (PySem.W.fnOf "__init__" "InvalidRing.__init__" (defArgs s_iInvalidRing) (defBody s_iInvalidRing) (defScope s_iInvalidRing) .none kV_iInvalidRing dc_iInvalidRing pm_iInvalidRing an_iInvalidRing cd_iInvalidRing ct_iInvalidRing), sl_iInvalidRing⟩)
    (c_iInvalidRing : PySem.W.codeIn K cd_iInvalidRing "InvalidRing.__init__" = true)
    (k_iInvalidRing : PySem.W.keepIn K (.ref f_iInvalidRing) = true)
    (x_is_number : PySem.W.nsIn K mainGlobals "is_number" = some (some (.ref f_is_number)))
    (l_is_number : K.lookup f_is_number = some ⟨oc_is_number, od_is_number, .func (PySem.W.fnOf "is_number" "is_number" (defArgs s_is_number) (defBody s_is_number) (defScope s_is_number) .none kV_is_number dc_is_number pm_is_number an_is_number cd_is_number ct_is_number), sl_is_number⟩)
    (c_is_number : PySem.W.codeIn K cd_is_number "is_number" = true)
    (k_is_number : PySem.W.keepIn K (.ref f_is_number) = true)
    (x_lies_between : PySem.W.nsIn K mainGlobals "lies_between" = some (some (.ref f_lies_between)))
    (l_lies_between : K.lookup f_lies_between = some ⟨oc_lies_between, od_lies_between, .func (PySem.W.fnOf "lies_between" "lies_between" (defArgs s_lies_between) (defBody s_lies_between) (defScope s_lies_between) .none kV_lies_between dc_lies_between pm_lies_between an_lies_between cd_lies_between ct_lies_between), sl_lies_between⟩)
    (c_lies_between : PySem.W.codeIn K cd_lies_between "lies_between" = true)
    (k_lies_between : PySem.W.keepIn K (.ref f_lies_between) = true)
    (x_check_number : PySem.W.nsIn K mainGlobals "check_number" = some (some (.ref f_check_number)))
    (l_check_number : K.lookup f_check_number = some ⟨oc_check_number, od_check_number, .func (PySem.W.fnOf "check_number" "check_number" (defArgs s_check_number) (defBody s_check_number) (defScope s_check_number) .none kV_check_number dc_check_number pm_check_number an_check_number cd_check_number ct_check_number), sl_check_number⟩)
    (c_check_number : PySem.W.codeIn K cd_check_number "check_number" = true)
    (k_check_number : PySem.W.keepIn K (.ref f_check_number) = true)
    (x_check_reader : PySem.W.nsIn K mainGlobals "check_reader" = some (some (.ref f_check_reader)))
    (l_check_reader : K.lookup f_check_reader = some ⟨oc_check_reader, od_check_reader, .func (PySem.W.fnOf "check_reader" "check_reader" (defArgs s_check_reader) (defBody s_check_reader) (defScope s_check_reader) .none kV_check_reader dc_check_reader pm_check_reader an_check_reader cd_check_reader ct_check_reader), sl_check_reader⟩)
    (c_check_reader : PySem.W.codeIn K cd_check_reader "check_reader" = true)
    (k_check_reader : PySem.W.keepIn K (.ref f_check_reader) = true)
    (x_rinit : PySem.W.findIn K (.ref C) "__init__" = some (some (.ref f_rinit)))
    (i_rinit : PySem.W.isFn K (.ref f_rinit) = true)
    (l_rinit : K.lookup f_rinit = some ⟨oc_rinit, od_rinit, .func (PySem.W.fnOf "__init__" "Ring.__init__" (defArgs s_rinit) (defBody s_rinit) (defScope s_rinit) .none kV_rinit dc_rinit pm_rinit an_rinit cd_rinit ct_rinit), sl_rinit⟩)
    (c_rinit : PySem.W.codeIn K cd_rinit "Ring.__init__" = true)
    (k_rinit : PySem.W.keepIn K (.ref f_rinit) = true)
    (cm_at : PySem.W.findCls K (.ref C) (.type "type") "single" = some (.get (.builtin "classmethod.__get__") (.ref p_single) .none (.ref C)))
    (cm_rc : PySem.W.recIn K p_single "classmethod" = some (.ref f_rsingle :: rest_single))
    (cm_fi : PySem.W.fnIn K f_rsingle = true)
    (cr_rd : PySem.W.readsIn K C (.type "type") = true)
    (cr_ga : PySem.W.specialIn K (.ref C) "__getattribute__" = some (some (.builtin "type.__getattribute__")))
    (l_rsingle : K.lookup f_rsingle = some ⟨oc_rsingle, od_rsingle, .func (PySem.W.fnOf "single" "Ring.single" (defArgs s_rsingle) (defBody s_rsingle) (defScope s_rsingle) .none kV_rsingle dc_rsingle pm_rsingle an_rsingle cd_rsingle ct_rsingle), sl_rsingle⟩)
    (c_rsingle : PySem.W.codeIn K cd_rsingle "Ring.single" = true)
    (k_rsingle : PySem.W.keepIn K (.ref f_rsingle) = true)
    (pa_rdays : PySem.W.findIn K (.ref C) "days" = some (some (.ref pp_rdays)))
    (pg_rdays : PySem.W.specialIn K (.ref pp_rdays) "__get__" = some (some (.builtin "property.__get__")))
    (pt_rdays : PySem.W.takesIn K (.ref pp_rdays) = some true)
    (pr_rdays : PySem.W.recIn K pp_rdays "property" = some (.ref f_rdays :: re_rdays))
    (l_rdays : K.lookup f_rdays = some ⟨oc_rdays, od_rdays, .func (PySem.W.fnOf "days" "Ring.days" (defArgs s_rdays) (defBody s_rdays) (defScope s_rdays) .none kV_rdays dc_rdays pm_rdays an_rdays cd_rdays ct_rdays), sl_rdays⟩)
    (c_rdays : PySem.W.codeIn K cd_rdays "Ring.days" = true)
    (k_rdays : PySem.W.keepIn K (.ref f_rdays) = true)
    (pa_rstarts : PySem.W.findIn K (.ref C) "starts" = some (some (.ref pp_rstarts)))
    (pg_rstarts : PySem.W.specialIn K (.ref pp_rstarts) "__get__" = some (some (.builtin "property.__get__")))
    (pt_rstarts : PySem.W.takesIn K (.ref pp_rstarts) = some true)
    (pr_rstarts : PySem.W.recIn K pp_rstarts "property" = some (.ref f_rstarts :: re_rstarts))
    (l_rstarts : K.lookup f_rstarts = some ⟨oc_rstarts, od_rstarts, .func (PySem.W.fnOf "starts" "Ring.starts" (defArgs s_rstarts) (defBody s_rstarts) (defScope s_rstarts) .none kV_rstarts dc_rstarts pm_rstarts an_rstarts cd_rstarts ct_rstarts), sl_rstarts⟩)
    (c_rstarts : PySem.W.codeIn K cd_rstarts "Ring.starts" = true)
    (k_rstarts : PySem.W.keepIn K (.ref f_rstarts) = true)
    (pa_rbooks : PySem.W.findIn K (.ref C) "books" = some (some (.ref pp_rbooks)))
    (pg_rbooks : PySem.W.specialIn K (.ref pp_rbooks) "__get__" = some (some (.builtin "property.__get__")))
    (pt_rbooks : PySem.W.takesIn K (.ref pp_rbooks) = some true)
    (pr_rbooks : PySem.W.recIn K pp_rbooks "property" = some (.ref f_rbooks :: re_rbooks))
    (l_rbooks : K.lookup f_rbooks = some ⟨oc_rbooks, od_rbooks, .func (PySem.W.fnOf "books" "Ring.books" (defArgs s_rbooks) (defBody s_rbooks) (defScope s_rbooks) .none kV_rbooks dc_rbooks pm_rbooks an_rbooks cd_rbooks ct_rbooks), sl_rbooks⟩)
    (c_rbooks : PySem.W.codeIn K cd_rbooks "Ring.books" = true)
    (k_rbooks : PySem.W.keepIn K (.ref f_rbooks) = true)
    (pa_rpace : PySem.W.findIn K (.ref C) "pace" = some (some (.ref pp_rpace)))
    (pg_rpace : PySem.W.specialIn K (.ref pp_rpace) "__get__" = some (some (.builtin "property.__get__")))
    (pt_rpace : PySem.W.takesIn K (.ref pp_rpace) = some true)
    (pr_rpace : PySem.W.recIn K pp_rpace "property" = some (.ref f_rpace :: re_rpace))
    (l_rpace : K.lookup f_rpace = some ⟨oc_rpace, od_rpace, .func (PySem.W.fnOf "pace" "Ring.pace" (defArgs s_rpace) (defBody s_rpace) (defScope s_rpace) .none kV_rpace dc_rpace pm_rpace an_rpace cd_rpace ct_rpace), sl_rpace⟩)
    (c_rpace : PySem.W.codeIn K cd_rpace "Ring.pace" = true)
    (k_rpace : PySem.W.keepIn K (.ref f_rpace) = true)
    (x_rwith_days : PySem.W.findIn K (.ref C) "with_days" = some (some (.ref f_rwith_days)))
    (i_rwith_days : PySem.W.isFn K (.ref f_rwith_days) = true)
    (l_rwith_days : K.lookup f_rwith_days = some ⟨oc_rwith_days, od_rwith_days, .func (PySem.W.fnOf "with_days" "Ring.with_days" (defArgs s_rwith_days) (defBody s_rwith_days) (defScope s_rwith_days) .none kV_rwith_days dc_rwith_days pm_rwith_days an_rwith_days cd_rwith_days ct_rwith_days), sl_rwith_days⟩)
    (c_rwith_days : PySem.W.codeIn K cd_rwith_days "Ring.with_days" = true)
    (k_rwith_days : PySem.W.keepIn K (.ref f_rwith_days) = true)
    (x_rlen : PySem.W.findIn K (.ref C) "__len__" = some (some (.ref f_rlen)))
    (i_rlen : PySem.W.isFn K (.ref f_rlen) = true)
    (l_rlen : K.lookup f_rlen = some ⟨oc_rlen, od_rlen, .func (PySem.W.fnOf "__len__" "Ring.__len__" (defArgs s_rlen) (defBody s_rlen) (defScope s_rlen) .none kV_rlen dc_rlen pm_rlen an_rlen cd_rlen ct_rlen), sl_rlen⟩)
    (c_rlen : PySem.W.codeIn K cd_rlen "Ring.__len__" = true)
    (k_rlen : PySem.W.keepIn K (.ref f_rlen) = true)
    (x_rgetitem : PySem.W.findIn K (.ref C) "__getitem__" = some (some (.ref f_rgetitem)))
    (i_rgetitem : PySem.W.isFn K (.ref f_rgetitem) = true)
    (l_rgetitem : K.lookup f_rgetitem = some ⟨oc_rgetitem, od_rgetitem, .func (PySem.W.fnOf "__getitem__" "Ring.__getitem__" (defArgs s_rgetitem) (defBody s_rgetitem) (defScope s_rgetitem) .none kV_rgetitem dc_rgetitem pm_rgetitem an_rgetitem cd_rgetitem ct_rgetitem), sl_rgetitem⟩)
    (c_rgetitem : PySem.W.codeIn K cd_rgetitem "Ring.__getitem__" = true)
    (k_rgetitem : PySem.W.keepIn K (.ref f_rgetitem) = true)
    (x_rcall : PySem.W.findIn K (.ref C) "__call__" = some (some (.ref f_rcall)))
    (i_rcall : PySem.W.isFn K (.ref f_rcall) = true)
    (j_rcall : PySem.W.fnIn K f_rcall = true)
    (l_rcall : K.lookup f_rcall = some ⟨oc_rcall, od_rcall, .func (PySem.W.fnOf "__call__" "Ring.__call__" (defArgs s_rcall) (defBody s_rcall) (defScope s_rcall) .none kV_rcall dc_rcall pm_rcall an_rcall cd_rcall ct_rcall), sl_rcall⟩)
    (c_rcall : PySem.W.codeIn K cd_rcall "Ring.__call__" = true)
    (k_rcall : PySem.W.keepIn K (.ref f_rcall) = true)
    (x_rrshift : PySem.W.findIn K (.ref C) "__rshift__" = some (some (.ref f_rrshift)))
    (i_rrshift : PySem.W.isFn K (.ref f_rrshift) = true)
    (l_rrshift : K.lookup f_rrshift = some ⟨oc_rrshift, od_rrshift, .func (PySem.W.fnOf "__rshift__" "Ring.__rshift__" (defArgs s_rrshift) (defBody s_rrshift) (defScope s_rrshift) .none kV_rrshift dc_rrshift pm_rrshift an_rrshift cd_rrshift ct_rrshift), sl_rrshift⟩)
    (c_rrshift : PySem.W.codeIn K cd_rrshift "Ring.__rshift__" = true)
    (k_rrshift : PySem.W.keepIn K (.ref f_rrshift) = true)
    (x_req : PySem.W.findIn K (.ref C) "__eq__" = some (some (.ref f_req)))
    (i_req : PySem.W.isFn K (.ref f_req) = true)
    (l_req : K.lookup f_req = some ⟨oc_req, od_req, .func (PySem.W.fnOf "__eq__" "Ring.__eq__" (defArgs s_req) (defBody s_req) (defScope s_req) .none kV_req dc_req pm_req an_req cd_req ct_req), sl_req⟩)
    (c_req : PySem.W.codeIn K cd_req "Ring.__eq__" = true)
    (k_req : PySem.W.keepIn K (.ref f_req) = true)
    (x_check_part : PySem.W.nsIn K mainGlobals "check_part" = some (some (.ref f_check_part)))
    (l_check_part : K.lookup f_check_part = some ⟨oc_check_part, od_check_part, .func (PySem.W.fnOf "check_part" "check_part" (defArgs s_check_part) (defBody s_check_part) (defScope s_check_part) .none kV_check_part dc_check_part pm_check_part an_check_part cd_check_part ct_check_part), sl_check_part⟩)
    (c_check_part : PySem.W.codeIn K cd_check_part "check_part" = true)
    (k_check_part : PySem.W.keepIn K (.ref f_check_part) = true)
    (x_slowest_decides : PySem.W.nsIn K mainGlobals "slowest_decides" = some (some (.ref f_slowest_decides)))
    (l_slowest_decides : K.lookup f_slowest_decides = some ⟨oc_slowest_decides, od_slowest_decides, .func (PySem.W.fnOf "slowest_decides" "slowest_decides" (defArgs s_slowest_decides) (defBody s_slowest_decides) (defScope s_slowest_decides) .none kV_slowest_decides dc_slowest_decides pm_slowest_decides an_slowest_decides cd_slowest_decides ct_slowest_decides), sl_slowest_decides⟩)
    (c_slowest_decides : PySem.W.codeIn K cd_slowest_decides "slowest_decides" = true)
    (k_slowest_decides : PySem.W.keepIn K (.ref f_slowest_decides) = true)
    (x_pace_of : PySem.W.nsIn K mainGlobals "pace_of" = some (some (.ref f_pace_of)))
    (l_pace_of : K.lookup f_pace_of = some ⟨oc_pace_of, od_pace_of, .func (PySem.W.fnOf "pace_of" "pace_of" (defArgs s_pace_of) (defBody s_pace_of) (defScope s_pace_of) .none kV_pace_of dc_pace_of pm_pace_of an_pace_of cd_pace_of ct_pace_of), sl_pace_of⟩)
    (c_pace_of : PySem.W.codeIn K cd_pace_of "pace_of" = true)
    (k_pace_of : PySem.W.keepIn K (.ref f_pace_of) = true)
    (x_round_pace : PySem.W.nsIn K mainGlobals "round_pace" = some (some (.ref f_round_pace)))
    (l_round_pace : K.lookup f_round_pace = some ⟨oc_round_pace, od_round_pace, .func (PySem.W.fnOf "round_pace" "round_pace" (defArgs s_round_pace) (defBody s_round_pace) (defScope s_round_pace) .none kV_round_pace dc_round_pace pm_round_pace an_round_pace cd_round_pace ct_round_pace), sl_round_pace⟩)
    (c_round_pace : PySem.W.codeIn K cd_round_pace "round_pace" = true)
    (k_round_pace : PySem.W.keepIn K (.ref f_round_pace) = true)
    (x_end_day : PySem.W.nsIn K mainGlobals "end_day" = some (some (.ref f_end_day)))
    (l_end_day : K.lookup f_end_day = some ⟨oc_end_day, od_end_day, .func (PySem.W.fnOf "end_day" "end_day" (defArgs s_end_day) (defBody s_end_day) (defScope s_end_day) .none kV_end_day dc_end_day pm_end_day an_end_day cd_end_day ct_end_day), sl_end_day⟩)
    (c_end_day : PySem.W.codeIn K cd_end_day "end_day" = true)
    (k_end_day : PySem.W.keepIn K (.ref f_end_day) = true)
    (x_ldice : PySem.W.nsIn K mainGlobals "_law_dice" = some (some (.ref f_ldice)))
    (l_ldice : K.lookup f_ldice = some ⟨oc_ldice, od_ldice, .func (PySem.W.fnOf "_law_dice" "_law_dice" (defArgs s_ldice) (defBody s_ldice) (defScope s_ldice) .none kV_ldice dc_ldice pm_ldice an_ldice cd_ldice ct_ldice), sl_ldice⟩)
    (c_ldice : PySem.W.codeIn K cd_ldice "_law_dice" = true)
    (k_ldice : PySem.W.keepIn K (.ref f_ldice) = true)
    (x_lnext : PySem.W.nsIn K mainGlobals "_law_next" = some (some (.ref f_lnext)))
    (l_lnext : K.lookup f_lnext = some ⟨oc_lnext, od_lnext, .func (PySem.W.fnOf "_law_next" "_law_next" (defArgs s_lnext) (defBody s_lnext) (defScope s_lnext) .none kV_lnext dc_lnext pm_lnext an_lnext cd_lnext ct_lnext), sl_lnext⟩)
    (c_lnext : PySem.W.codeIn K cd_lnext "_law_next" = true)
    (k_lnext : PySem.W.keepIn K (.ref f_lnext) = true)
    (x_llike : PySem.W.nsIn K mainGlobals "_law_like" = some (some (.ref f_llike)))
    (l_llike : K.lookup f_llike = some ⟨oc_llike, od_llike, .func (PySem.W.fnOf "_law_like" "_law_like" (defArgs s_llike) (defBody s_llike) (defScope s_llike) .none kV_llike dc_llike pm_llike an_llike cd_llike ct_llike), sl_llike⟩)
    (c_llike : PySem.W.codeIn K cd_llike "_law_like" = true)
    (k_llike : PySem.W.keepIn K (.ref f_llike) = true)
    (x_lpick : PySem.W.nsIn K mainGlobals "_law_pick" = some (some (.ref f_lpick)))
    (l_lpick : K.lookup f_lpick = some ⟨oc_lpick, od_lpick, .func (PySem.W.fnOf "_law_pick" "_law_pick" (defArgs s_lpick) (defBody s_lpick) (defScope s_lpick) .none kV_lpick dc_lpick pm_lpick an_lpick cd_lpick ct_lpick), sl_lpick⟩)
    (c_lpick : PySem.W.codeIn K cd_lpick "_law_pick" = true)
    (k_lpick : PySem.W.keepIn K (.ref f_lpick) = true)
    (x_ltold : PySem.W.nsIn K mainGlobals "_law_told" = some (some (.ref f_ltold)))
    (l_ltold : K.lookup f_ltold = some ⟨oc_ltold, od_ltold, .func (PySem.W.fnOf "_law_told" "_law_told" (defArgs s_ltold) (defBody s_ltold) (defScope s_ltold) .none kV_ltold dc_ltold pm_ltold an_ltold cd_ltold ct_ltold), sl_ltold⟩)
    (c_ltold : PySem.W.codeIn K cd_ltold "_law_told" = true)
    (k_ltold : PySem.W.keepIn K (.ref f_ltold) = true)
    (x_lring : PySem.W.nsIn K mainGlobals "_law_ring" = some (some (.ref f_lring)))
    (l_lring : K.lookup f_lring = some ⟨oc_lring, od_lring, .func (PySem.W.fnOf "_law_ring" "_law_ring" (defArgs s_lring) (defBody s_lring) (defScope s_lring) .none kV_lring dc_lring pm_lring an_lring cd_lring ct_lring), sl_lring⟩)
    (c_lring : PySem.W.codeIn K cd_lring "_law_ring" = true)
    (k_lring : PySem.W.keepIn K (.ref f_lring) = true)
    (x_lterms : PySem.W.nsIn K mainGlobals "_law_terms" = some (some (.ref f_lterms)))
    (l_lterms : K.lookup f_lterms = some ⟨oc_lterms, od_lterms, .func (PySem.W.fnOf "_law_terms" "_law_terms" (defArgs s_lterms) (defBody s_lterms) (defScope s_lterms) .none kV_lterms dc_lterms pm_lterms an_lterms cd_lterms ct_lterms), sl_lterms⟩)
    (c_lterms : PySem.W.codeIn K cd_lterms "_law_terms" = true)
    (k_lterms : PySem.W.keepIn K (.ref f_lterms) = true)
    (x_lpace : PySem.W.nsIn K mainGlobals "_law_pace" = some (some (.ref f_lpace)))
    (l_lpace : K.lookup f_lpace = some ⟨oc_lpace, od_lpace, .func (PySem.W.fnOf "_law_pace" "_law_pace" (defArgs s_lpace) (defBody s_lpace) (defScope s_lpace) .none kV_lpace dc_lpace pm_lpace an_lpace cd_lpace ct_lpace), sl_lpace⟩)
    (c_lpace : PySem.W.codeIn K cd_lpace "_law_pace" = true)
    (k_lpace : PySem.W.keepIn K (.ref f_lpace) = true)
    (x_lbad_rings : PySem.W.nsIn K mainGlobals "_law_bad_rings" = some (some (.ref f_lbad_rings)))
    (l_lbad_rings : K.lookup f_lbad_rings = some ⟨oc_lbad_rings, od_lbad_rings, .func (PySem.W.fnOf "_law_bad_rings" "_law_bad_rings" (defArgs s_lbad_rings) (defBody s_lbad_rings) (defScope s_lbad_rings) .none kV_lbad_rings dc_lbad_rings pm_lbad_rings an_lbad_rings cd_lbad_rings ct_lbad_rings), sl_lbad_rings⟩)
    (c_lbad_rings : PySem.W.codeIn K cd_lbad_rings "_law_bad_rings" = true)
    (k_lbad_rings : PySem.W.keepIn K (.ref f_lbad_rings) = true)
    (x_law : PySem.W.nsIn K mainGlobals "law" = some (some (.ref f_law)))
    (l_law : K.lookup f_law = some ⟨oc_law, od_law, .func (PySem.W.fnOf "law" "law" (defArgs s_law) (defBody s_law) (defScope s_law) .none kV_law dc_law pm_law an_law cd_law ct_law), sl_law⟩)
    (c_law : PySem.W.codeIn K cd_law "law" = true)
    (k_law : PySem.W.keepIn K (.ref f_law) = true)
    (pgC : PySem.W.plainGet K C Str.empty = true)
    (hdC : PySem.W.hasDictIn K C = true)
    (poC : PySem.W.plainOver K C = true)
    (saC : PySem.W.findIn K (.ref C) "__setattr__" = some (some (.builtin "object.__setattr__")))
    (mkC : PySem.W.makesIn K C = true)
    (kC : PySem.W.keepIn K (.ref C) = true)
    (shN : PySem.W.findIn K (.ref C) "__rrshift__" = some none)
    (shI : PySem.W.findIn K (.type "int") "__rshift__" = some sh_fo)
    (shJ : PySem.W.findIn K (.type "int") "__rrshift__" = some sh_ro)
    (shS : PySem.W.subIn K (.type "int") (.ref C) = some false)
    (sfC : PySem.W.selfFirst K C = true)
    (clsC : PySem.W.findIn K (.ref C) "__class__" = some (some (.builtin "object.__class__")))
    (clsG : PySem.W.specialIn K (.builtin "object.__class__") "__get__" = some (some (.builtin "getset_descriptor.__get__")))
    (clsT : PySem.W.takesIn K (.builtin "object.__class__") = some true)
    (clsM : PySem.W.mroIn K C (.type "object") = some true)
    (kT1 : PySem.W.kitOne K (.type "tuple") (.ref C) = some false)
    (sT1 : PySem.W.subIn K (.type "tuple") (.ref C) = some false)
    (gFn1 : PySem.W.fnIn K f_rgetitem = true)
    (u1_NoneType : PySem.W.findIn K (.type "NoneType") "__rshift__" = some u_NoneType)
    (u2_NoneType : PySem.W.findIn K (.type "NoneType") "__rrshift__" = some v_NoneType)
    (u3_NoneType : PySem.W.subIn K (.type "NoneType") (.ref C) = some false)
    (u1_bool : PySem.W.findIn K (.type "bool") "__rshift__" = some u_bool)
    (u2_bool : PySem.W.findIn K (.type "bool") "__rrshift__" = some v_bool)
    (u3_bool : PySem.W.subIn K (.type "bool") (.ref C) = some false)
    (u1_str : PySem.W.findIn K (.type "str") "__rshift__" = some u_str)
    (u2_str : PySem.W.findIn K (.type "str") "__rrshift__" = some v_str)
    (u3_str : PySem.W.subIn K (.type "str") (.ref C) = some false)
    (nsqC : PySem.W.noSeq K C = true)
    (nD : PySem.W.findIn K (.ref C) "_days" = some none)
    (nS : PySem.W.findIn K (.ref C) "_starts" = some none)
    (v_LATEST : PySem.W.nsIn K mainGlobals "LATEST" = some (some (.int 1000000000000000000 t_LATEST)))
    (v_FEWEST_READERS : PySem.W.nsIn K mainGlobals "FEWEST_READERS" = some (some (.int 2 t_FEWEST_READERS)))
    (v_MOST_READERS : PySem.W.nsIn K mainGlobals "MOST_READERS" = some (some (.int 8 t_MOST_READERS)))
    (v_MOST_DAYS : PySem.W.nsIn K mainGlobals "MOST_DAYS" = some (some (.int 30 t_MOST_DAYS)))
    (v_MOST_BOOKS : PySem.W.nsIn K mainGlobals "MOST_BOOKS" = some (some (.int 12 t_MOST_BOOKS)))
    (v_gcd : PySem.W.nsIn K mainGlobals "gcd" = some (some (.builtin "math.gcd")))
    (z_len : PySem.W.nsIn K mainGlobals "len" = some none)
    (z_sum : PySem.W.nsIn K mainGlobals "sum" = some none)
    (z_max : PySem.W.nsIn K mainGlobals "max" = some none)
    (z_min : PySem.W.nsIn K mainGlobals "min" = some none)
    (z_range : PySem.W.nsIn K mainGlobals "range" = some none)
    (z_int : PySem.W.nsIn K mainGlobals "int" = some none)
    (z_bool : PySem.W.nsIn K mainGlobals "bool" = some none)
    (z_isinstance : PySem.W.nsIn K mainGlobals "isinstance" = some none)
    (z_tuple : PySem.W.nsIn K mainGlobals "tuple" = some none)
    (z_enumerate : PySem.W.nsIn K mainGlobals "enumerate" = some none)
    (z_list : PySem.W.nsIn K mainGlobals "list" = some none)
    (z_str : PySem.W.nsIn K mainGlobals "str" = some none)
    (z_sorted : PySem.W.nsIn K mainGlobals "sorted" = some none)
    (own : LamX.OwnTab K fa h) (own2 : ∀ fb : Addr, mg "_law_bad_rings" = some (.ref fb) → LamX.OwnTab K fb h)
    {c_tb P_tb : Addr} {e_tb : Value} {dd_tb : Option Addr} {vs_tb : Array Value} {sl_tb : Array (Option Value)}
    {c_tc P_tc : Addr} {e_tc : Value} {dd_tc : Option Addr} {vs_tc : Array Value} {sl_tc : Array (Option Value)}
    {e0 e1 e2 e3 e4 e5 e6 eE : Addr}
    (tb_c : cd_law = .ref c_tb)
    (tb_l : K.lookup c_tb = some ⟨e_tb, dd_tb, .fields vs_tb, sl_tb⟩)
    (tb_p : vs_tb[11]? = some (.ref P_tb))
    (tb_h : PySem.W.codeHdIn K c_tb P_tb = true)
    (tb_n : K.lookup P_tb = none)
    (x_e0 : PySem.W.nsIn K mainGlobals "InvalidRing" = some (some (.ref e0)))
    (x_e1 : PySem.W.nsIn K mainGlobals "InvalidChain" = some (some (.ref e1)))
    (x_e2 : PySem.W.nsIn K mainGlobals "UnknownReader" = some (some (.ref e2)))
    (x_e3 : PySem.W.nsIn K mainGlobals "UnknownBook" = some (some (.ref e3)))
    (x_e4 : PySem.W.nsIn K mainGlobals "InvalidNumber" = some (some (.ref e4)))
    (x_e5 : PySem.W.nsIn K mainGlobals "SameBook" = some (some (.ref e5)))
    (x_e6 : PySem.W.nsIn K mainGlobals "OtherRing" = some (some (.ref e6)))
    (x_eE : PySem.W.nsIn K mainGlobals "ReadingError" = some (some (.ref eE)))
    (z_VE : PySem.W.nsIn K mainGlobals "ValueError" = some none)
    (xc_n : PySem.W.specialIn K (.builtin "object.__class__") "__get__" = some (some (.builtin "getset_descriptor.__get__")))
    (xc_t : PySem.W.takesIn K (.builtin "object.__class__") = some true)
    (xg2 : PySem.W.findIn K (.ref e2) "__getattribute__" = some (some (.builtin "BaseException.__getattribute__")))
    (xk2 : PySem.W.findIn K (.ref e2) "__getattr__" = some none)
    (xs2 : PySem.W.subIn K (.ref e2) (.type "BaseException") = some true)
    (xd2 : PySem.W.hasDictIn K e2 = true)
    (xa2 : PySem.W.findIn K (.ref e2) "__class__" = some (some (.builtin "object.__class__")))
    (xm2 : PySem.W.mroIn K e2 (.type "object") = some true)
    (xx2 : PySem.W.exmOne K (.ref e2) (.ref eE) = some true)
    (xq2_0 : PySem.W.kitOne K (.ref e2) (.ref e0) = some false)
    (xq2_1 : PySem.W.kitOne K (.ref e2) (.ref e1) = some false)
    (xq2_2 : PySem.W.kitOne K (.ref e2) (.ref e2) = some true)
    (xq2_3 : PySem.W.kitOne K (.ref e2) (.ref e3) = some false)
    (xq2_4 : PySem.W.kitOne K (.ref e2) (.ref e4) = some false)
    (xq2_5 : PySem.W.kitOne K (.ref e2) (.ref e5) = some false)
    (xq2_6 : PySem.W.kitOne K (.ref e2) (.ref e6) = some false)
    (xv2 : PySem.W.kitOne K (.ref e2) (.type "ValueError") = some true)
    (xi2 : PySem.W.excIn K e2 [.type "ValueError", .type "Exception", .type "BaseException", .type "object"] "ValueError.__new__" = true)
    (xt2 : PySem.W.typeIn K (.ref e2) = some (.type "type"))
    (xp2 : PySem.W.keepIn K (.ref e2) = true)
    (xg4 : PySem.W.findIn K (.ref e4) "__getattribute__" = some (some (.builtin "BaseException.__getattribute__")))
    (xk4 : PySem.W.findIn K (.ref e4) "__getattr__" = some none)
    (xs4 : PySem.W.subIn K (.ref e4) (.type "BaseException") = some true)
    (xd4 : PySem.W.hasDictIn K e4 = true)
    (xa4 : PySem.W.findIn K (.ref e4) "__class__" = some (some (.builtin "object.__class__")))
    (xm4 : PySem.W.mroIn K e4 (.type "object") = some true)
    (xx4 : PySem.W.exmOne K (.ref e4) (.ref eE) = some true)
    (xq4_0 : PySem.W.kitOne K (.ref e4) (.ref e0) = some false)
    (xq4_1 : PySem.W.kitOne K (.ref e4) (.ref e1) = some false)
    (xq4_2 : PySem.W.kitOne K (.ref e4) (.ref e2) = some false)
    (xq4_3 : PySem.W.kitOne K (.ref e4) (.ref e3) = some false)
    (xq4_4 : PySem.W.kitOne K (.ref e4) (.ref e4) = some true)
    (xq4_5 : PySem.W.kitOne K (.ref e4) (.ref e5) = some false)
    (xq4_6 : PySem.W.kitOne K (.ref e4) (.ref e6) = some false)
    (xv4 : PySem.W.kitOne K (.ref e4) (.type "ValueError") = some true)
    (xi4 : PySem.W.excIn K e4 [.type "ValueError", .type "Exception", .type "BaseException", .type "object"] "ValueError.__new__" = true)
    (xt4 : PySem.W.typeIn K (.ref e4) = some (.type "type"))
    (xp4 : PySem.W.keepIn K (.ref e4) = true)
    (xg0 : PySem.W.findIn K (.ref e0) "__getattribute__" = some (some (.builtin "BaseException.__getattribute__")))
    (xk0 : PySem.W.findIn K (.ref e0) "__getattr__" = some none)
    (xs0 : PySem.W.subIn K (.ref e0) (.type "BaseException") = some true)
    (xd0 : PySem.W.hasDictIn K e0 = true)
    (xa0 : PySem.W.findIn K (.ref e0) "__class__" = some (some (.builtin "object.__class__")))
    (xm0 : PySem.W.mroIn K e0 (.type "object") = some true)
    (xx0 : PySem.W.exmOne K (.ref e0) (.ref eE) = some true)
    (xq0_0 : PySem.W.kitOne K (.ref e0) (.ref e0) = some true)
    (xq0_1 : PySem.W.kitOne K (.ref e0) (.ref e1) = some false)
    (xq0_2 : PySem.W.kitOne K (.ref e0) (.ref e2) = some false)
    (xq0_3 : PySem.W.kitOne K (.ref e0) (.ref e3) = some false)
    (xq0_4 : PySem.W.kitOne K (.ref e0) (.ref e4) = some false)
    (xq0_5 : PySem.W.kitOne K (.ref e0) (.ref e5) = some false)
    (xq0_6 : PySem.W.kitOne K (.ref e0) (.ref e6) = some false)
    (xv0 : PySem.W.kitOne K (.ref e0) (.type "ValueError") = some true)
    (xt0 : PySem.W.typeIn K (.ref e0) = some (.type "type"))
    (xn0 : PySem.W.findIn K (.ref e0) "index" = some none)
    (xnp0 : PySem.W.findIn K (.ref e0) "part" = some none)
    (xr1 : PySem.W.readsIn K eE (.type "type") = true)
    (xr2 : PySem.W.specialIn K (.ref eE) "__getattribute__" = some (some (.builtin "type.__getattribute__")))
    (xr3 : PySem.W.findCls K (.ref eE) (.type "type") "__init__" = some (.val (.builtin "ValueError.__init__")))
    (tc_c : cd_lbad_rings = .ref c_tc)
    (tc_l : K.lookup c_tc = some ⟨e_tc, dd_tc, .fields vs_tc, sl_tc⟩)
    (tc_p : vs_tc[11]? = some (.ref P_tc))
    (tc_h : PySem.W.codeHdIn K c_tc P_tc = true)
    (tc_n : K.lookup P_tc = none)
    (t_ne : P_tb ≠ P_tc)
    : LamX.LawAtS l w K CX0 12 63 "_law_script" mg fa h := by
  have e := hfa.symm.trans (PySem.W.mg_of X G x_law)
  cases e
  have F_iInvalidRing := fun_mk (st := s_iInvalidRing) l_iInvalidRing c_iInvalidRing k_iInvalidRing
  have b_iInvalidRing := F_iInvalidRing.binds (ps := P_iInvalidRing) fun _ _ _ _ _ _ us hl => match us, hl with | [_, _, _], _ => rfl
  have F_is_number := fun_mk (st := s_is_number) l_is_number c_is_number k_is_number
  have b_is_number := F_is_number.binds (ps := P_is_number) fun _ _ _ _ _ _ us hl => match us, hl with | [_], _ => rfl
  have F_lies_between := fun_mk (st := s_lies_between) l_lies_between c_lies_between k_lies_between
  have b_lies_between := F_lies_between.binds (ps := P_lies_between) fun _ _ _ _ _ _ us hl => match us, hl with | [_, _, _], _ => rfl
  have F_check_number := fun_mk (st := s_check_number) l_check_number c_check_number k_check_number
  have b_check_number := F_check_number.binds (ps := P_check_number) fun _ _ _ _ _ _ us hl => match us, hl with | [_, _, _], _ => rfl
  have F_check_reader := fun_mk (st := s_check_reader) l_check_reader c_check_reader k_check_reader
  have b_check_reader := F_check_reader.binds (ps := P_check_reader) fun _ _ _ _ _ _ us hl => match us, hl with | [_, _], _ => rfl
  have F_rinit := fun_mk (st := s_rinit) l_rinit c_rinit k_rinit
  have b_rinit := F_rinit.binds (ps := P_rinit) fun _ _ _ _ _ _ us hl => match us, hl with | [_, _, _], _ => rfl
  have F_rsingle := fun_mk (st := s_rsingle) l_rsingle c_rsingle k_rsingle
  have F_rdays := fun_mk (st := s_rdays) l_rdays c_rdays k_rdays
  have b_rdays := F_rdays.binds (ps := P_rdays) fun _ _ _ _ _ _ us hl => match us, hl with | [_], _ => rfl
  have F_rstarts := fun_mk (st := s_rstarts) l_rstarts c_rstarts k_rstarts
  have b_rstarts := F_rstarts.binds (ps := P_rstarts) fun _ _ _ _ _ _ us hl => match us, hl with | [_], _ => rfl
  have F_rbooks := fun_mk (st := s_rbooks) l_rbooks c_rbooks k_rbooks
  have b_rbooks := F_rbooks.binds (ps := P_rbooks) fun _ _ _ _ _ _ us hl => match us, hl with | [_], _ => rfl
  have F_rpace := fun_mk (st := s_rpace) l_rpace c_rpace k_rpace
  have b_rpace := F_rpace.binds (ps := P_rpace) fun _ _ _ _ _ _ us hl => match us, hl with | [_], _ => rfl
  have F_rwith_days := fun_mk (st := s_rwith_days) l_rwith_days c_rwith_days k_rwith_days
  have b_rwith_days := F_rwith_days.binds (ps := P_rwith_days) fun _ _ _ _ _ _ us hl => match us, hl with | [_, _, _], _ => rfl
  have F_rlen := fun_mk (st := s_rlen) l_rlen c_rlen k_rlen
  have b_rlen := F_rlen.binds (ps := P_rlen) fun _ _ _ _ _ _ us hl => match us, hl with | [_], _ => rfl
  have F_rgetitem := fun_mk (st := s_rgetitem) l_rgetitem c_rgetitem k_rgetitem
  have b_rgetitem := F_rgetitem.binds (ps := P_rgetitem) fun _ _ _ _ _ _ us hl => match us, hl with | [_, _], _ => rfl
  have F_rcall := fun_mk (st := s_rcall) l_rcall c_rcall k_rcall
  have b_rcall := F_rcall.binds (ps := P_rcall) fun _ _ _ _ _ _ us hl => match us, hl with | [_, _, _], _ => rfl
  have F_rrshift := fun_mk (st := s_rrshift) l_rrshift c_rrshift k_rrshift
  have b_rrshift := F_rrshift.binds (ps := P_rrshift) fun _ _ _ _ _ _ us hl => match us, hl with | [_, _], _ => rfl
  have F_req := fun_mk (st := s_req) l_req c_req k_req
  have b_req := F_req.binds (ps := P_req) fun _ _ _ _ _ _ us hl => match us, hl with | [_, _], _ => rfl
  have F_check_part := fun_mk (st := s_check_part) l_check_part c_check_part k_check_part
  have b_check_part := F_check_part.binds (ps := P_check_part) fun _ _ _ _ _ _ us hl => match us, hl with | [_, _, _, _], _ => rfl
  have F_slowest_decides := fun_mk (st := s_slowest_decides) l_slowest_decides c_slowest_decides k_slowest_decides
  have b_slowest_decides := F_slowest_decides.binds (ps := P_slowest_decides) fun _ _ _ _ _ _ us hl => match us, hl with | [_, _], _ => rfl
  have F_pace_of := fun_mk (st := s_pace_of) l_pace_of c_pace_of k_pace_of
  have b_pace_of := F_pace_of.binds (ps := P_pace_of) fun _ _ _ _ _ _ us hl => match us, hl with | [_, _], _ => rfl
  have F_round_pace := fun_mk (st := s_round_pace) l_round_pace c_round_pace k_round_pace
  have b_round_pace := F_round_pace.binds (ps := P_round_pace) fun _ _ _ _ _ _ us hl => match us, hl with | [_, _], _ => rfl
  have F_end_day := fun_mk (st := s_end_day) l_end_day c_end_day k_end_day
  have b_end_day := F_end_day.binds (ps := P_end_day) fun _ _ _ _ _ _ us hl => match us, hl with | [_, _, _], _ => rfl
  have F_ldice := fun_mk (st := s_ldice) l_ldice c_ldice k_ldice
  have b_ldice := F_ldice.binds (ps := P_ldice) fun _ _ _ _ _ _ us hl => match us, hl with | [_], _ => rfl
  have F_lnext := fun_mk (st := s_lnext) l_lnext c_lnext k_lnext
  have b_lnext := F_lnext.binds (ps := P_lnext) fun _ _ _ _ _ _ us hl => match us, hl with | [_, _], _ => rfl
  have F_llike := fun_mk (st := s_llike) l_llike c_llike k_llike
  have b_llike := F_llike.binds (ps := P_llike) fun _ _ _ _ _ _ us hl => match us, hl with | [_, _], _ => rfl
  have F_lpick := fun_mk (st := s_lpick) l_lpick c_lpick k_lpick
  have b_lpick := F_lpick.binds (ps := P_lpick) fun _ _ _ _ _ _ us hl => match us, hl with | [_, _], _ => rfl
  have F_ltold := fun_mk (st := s_ltold) l_ltold c_ltold k_ltold
  have b_ltold := F_ltold.binds (ps := P_ltold) fun _ _ _ _ _ _ us hl => match us, hl with | [_], _ => rfl
  have F_lring := fun_mk (st := s_lring) l_lring c_lring k_lring
  have b_lring := F_lring.binds (ps := P_lring) fun _ _ _ _ _ _ us hl => match us, hl with | [_, _, _], _ => rfl
  have F_lterms := fun_mk (st := s_lterms) l_lterms c_lterms k_lterms
  have b_lterms := F_lterms.binds (ps := P_lterms) fun _ _ _ _ _ _ us hl => match us, hl with | [_, _], _ => rfl
  have F_lpace := fun_mk (st := s_lpace) l_lpace c_lpace k_lpace
  have b_lpace := F_lpace.binds (ps := P_lpace) fun _ _ _ _ _ _ us hl => match us, hl with | [_, _], _ => rfl
  have F_lbad_rings := fun_mk (st := s_lbad_rings) l_lbad_rings c_lbad_rings k_lbad_rings
  have b_lbad_rings := F_lbad_rings.binds (ps := P_lbad_rings) fun _ _ _ _ _ _ us hl => match us, hl with | [_, _, _], _ => rfl
  have F_law := fun_mk (st := s_law) l_law c_law k_law
  have b_law := F_law.binds (ps := P_law) fun _ _ _ _ _ _ us hl => match us, hl with | [_], _ => rfl
  cases tb_c
  cases tc_c
  refine ⟨PySem.W.fnOf "law" "law" (defArgs s_law) (defBody s_law) (defScope s_law) .none kV_law dc_law pm_law an_law (.ref c_tb) ct_law, [(c_tb, P_tb), (c_tc, P_tc)], spLawL K P_tb P_tc, fun p hp => ?_, fun p hp => ?_, fun p hp => ?_, fun s v => .of_eq rfl, fun H a ns hl hb ht hS => ?_, fun base _ _ hTB => ?_⟩
  · rcases List.mem_cons.mp hp with rfl | hp
    · exact own _ _ _ _ _ _ _ _ l_law rfl rfl tb_l tb_p
    · cases List.mem_singleton.mp hp
      exact own2 _ (PySem.W.mg_of X G x_lbad_rings) _ _ _ _ _ _ _ _ l_lbad_rings rfl rfl tc_l tc_p
  · rcases List.mem_cons.mp hp with rfl | hp
    · exact tb_n
    · cases List.mem_singleton.mp hp
      exact tc_n
  · rcases List.mem_cons.mp hp with rfl | hp
    · exact PySem.W.codeHd_of_K X tb_h
    · cases List.mem_singleton.mp hp
      exact PySem.W.codeHd_of_K X tc_h
  · exact ⟨a, ns, rfl, hS, hl, ht _ List.mem_cons_self, ht _ (List.mem_cons_of_mem _ List.mem_cons_self), fun _ => rfl⟩
  · exact ok_law (mg := mg) (cT := c_tb) (PT := P_tb) (cU := c_tc) (PU := P_tc)
     {
    C := C,
    a_iInvalidRing := f_iInvalidRing, d_iInvalidRing := _, F_iInvalidRing := F_iInvalidRing, b_iInvalidRing := b_iInvalidRing,
    c_iInvalidRing := ec_iInvalidRing, gc_iInvalidRing := PySem.W.mg_of X G xc_iInvalidRing, ic_iInvalidRing := x_iInvalidRing, it_iInvalidRing := xt_iInvalidRing, io_iInvalidRing := xo_iInvalidRing,
    a_is_number := f_is_number, d_is_number := _, F_is_number := F_is_number, b_is_number := b_is_number,
    g_is_number := PySem.W.mg_of X G x_is_number,
    a_lies_between := f_lies_between, d_lies_between := _, F_lies_between := F_lies_between, b_lies_between := b_lies_between,
    g_lies_between := PySem.W.mg_of X G x_lies_between,
    a_check_number := f_check_number, d_check_number := _, F_check_number := F_check_number, b_check_number := b_check_number,
    g_check_number := PySem.W.mg_of X G x_check_number,
    a_check_reader := f_check_reader, d_check_reader := _, F_check_reader := F_check_reader, b_check_reader := b_check_reader,
    g_check_reader := PySem.W.mg_of X G x_check_reader,
    a_rinit := f_rinit, d_rinit := _, F_rinit := F_rinit, b_rinit := b_rinit,
    a_rsingle := f_rsingle, d_rsingle := _, F_rsingle := F_rsingle, p_rsingle := p_single, crd := ⟨cr_rd, cr_ga⟩, cmS := ⟨cm_at, ⟨_, cm_rc⟩, cm_fi⟩,
    a_rdays := f_rdays, d_rdays := _, F_rdays := F_rdays, b_rdays := b_rdays,
    a_rstarts := f_rstarts, d_rstarts := _, F_rstarts := F_rstarts, b_rstarts := b_rstarts,
    a_rbooks := f_rbooks, d_rbooks := _, F_rbooks := F_rbooks, b_rbooks := b_rbooks,
    a_rpace := f_rpace, d_rpace := _, F_rpace := F_rpace, b_rpace := b_rpace,
    a_rwith_days := f_rwith_days, d_rwith_days := _, F_rwith_days := F_rwith_days, b_rwith_days := b_rwith_days,
    a_rlen := f_rlen, d_rlen := _, F_rlen := F_rlen, b_rlen := b_rlen,
    a_rgetitem := f_rgetitem, d_rgetitem := _, F_rgetitem := F_rgetitem, b_rgetitem := b_rgetitem,
    a_rcall := f_rcall, d_rcall := _, F_rcall := F_rcall, b_rcall := b_rcall,
    a_rrshift := f_rrshift, d_rrshift := _, F_rrshift := F_rrshift, b_rrshift := b_rrshift,
    a_req := f_req, d_req := _, F_req := F_req, b_req := b_req,
    a_check_part := f_check_part, d_check_part := _, F_check_part := F_check_part, b_check_part := b_check_part,
    g_check_part := PySem.W.mg_of X G x_check_part,
    a_slowest_decides := f_slowest_decides, d_slowest_decides := _, F_slowest_decides := F_slowest_decides, b_slowest_decides := b_slowest_decides,
    g_slowest_decides := PySem.W.mg_of X G x_slowest_decides,
    a_pace_of := f_pace_of, d_pace_of := _, F_pace_of := F_pace_of, b_pace_of := b_pace_of,
    g_pace_of := PySem.W.mg_of X G x_pace_of,
    a_round_pace := f_round_pace, d_round_pace := _, F_round_pace := F_round_pace, b_round_pace := b_round_pace,
    g_round_pace := PySem.W.mg_of X G x_round_pace,
    a_end_day := f_end_day, d_end_day := _, F_end_day := F_end_day, b_end_day := b_end_day,
    g_end_day := PySem.W.mg_of X G x_end_day,
    a_ldice := f_ldice, d_ldice := _, F_ldice := F_ldice, b_ldice := b_ldice,
    g_ldice := PySem.W.mg_of X G x_ldice,
    a_lnext := f_lnext, d_lnext := _, F_lnext := F_lnext, b_lnext := b_lnext,
    g_lnext := PySem.W.mg_of X G x_lnext,
    a_llike := f_llike, d_llike := _, F_llike := F_llike, b_llike := b_llike,
    g_llike := PySem.W.mg_of X G x_llike,
    a_lpick := f_lpick, d_lpick := _, F_lpick := F_lpick, b_lpick := b_lpick,
    g_lpick := PySem.W.mg_of X G x_lpick,
    a_ltold := f_ltold, d_ltold := _, F_ltold := F_ltold, b_ltold := b_ltold,
    g_ltold := PySem.W.mg_of X G x_ltold,
    a_lring := f_lring, d_lring := _, F_lring := F_lring, b_lring := b_lring,
    g_lring := PySem.W.mg_of X G x_lring,
    a_lterms := f_lterms, d_lterms := _, F_lterms := F_lterms, b_lterms := b_lterms,
    g_lterms := PySem.W.mg_of X G x_lterms,
    a_lpace := f_lpace, d_lpace := _, F_lpace := F_lpace, b_lpace := b_lpace,
    g_lpace := PySem.W.mg_of X G x_lpace,
    a_lbad_rings := f_lbad_rings, d_lbad_rings := _, F_lbad_rings := F_lbad_rings, b_lbad_rings := b_lbad_rings,
    g_lbad_rings := PySem.W.mg_of X G x_lbad_rings,
    a_law := _, d_law := _, F_law := F_law, b_law := b_law,
    g_law := PySem.W.mg_of X G x_law,
    cl := ⟨pgC, hdC, poC, saC⟩, nD := nD, nS := nS, mkR := ⟨mkC, x_rinit, i_rinit, kC⟩, gC := PySem.W.mg_of X G aC,
    p_rdays := pp_rdays, q_rdays := ⟨pa_rdays, pg_rdays, pt_rdays, ⟨_, pr_rdays⟩⟩,
    p_rstarts := pp_rstarts, q_rstarts := ⟨pa_rstarts, pg_rstarts, pt_rstarts, ⟨_, pr_rstarts⟩⟩,
    p_rbooks := pp_rbooks, q_rbooks := ⟨pa_rbooks, pg_rbooks, pt_rbooks, ⟨_, pr_rbooks⟩⟩,
    p_rpace := pp_rpace, q_rpace := ⟨pa_rpace, pg_rpace, pt_rpace, ⟨_, pr_rpace⟩⟩,
    shC := x_rrshift, shF := i_rrshift, shN := shN, shI := ⟨_, shI⟩, shJ := ⟨_, shJ⟩, shS := shS, sfC := sfC,
    clsC := clsC, clsG := clsG, clsT := clsT, clsM := clsM, eqC := x_req, eqF := i_req, kC := kC,
    giC := x_rgetitem, giF := i_rgetitem, noSq := nsqC,
    gFn := gFn1, kT := kT1, sT := sT1,
    uNoneType := ⟨_, u1_NoneType⟩, vNoneType := ⟨_, u2_NoneType⟩, wNoneType := u3_NoneType,
    ubool := ⟨_, u1_bool⟩, vbool := ⟨_, u2_bool⟩, wbool := u3_bool,
    ustr := ⟨_, u1_str⟩, vstr := ⟨_, u2_str⟩, wstr := u3_str,
    mW := ⟨x_rwith_days, i_rwith_days, k_rwith_days⟩,
    lenC := x_rlen, lenF := i_rlen, callC := ⟨x_rcall, i_rcall, j_rcall⟩,
    c_LATEST := ⟨_, PySem.W.mg_of X G v_LATEST⟩,
    c_FEWEST_READERS := ⟨_, PySem.W.mg_of X G v_FEWEST_READERS⟩,
    c_MOST_READERS := ⟨_, PySem.W.mg_of X G v_MOST_READERS⟩,
    c_MOST_DAYS := ⟨_, PySem.W.mg_of X G v_MOST_DAYS⟩,
    c_MOST_BOOKS := ⟨_, PySem.W.mg_of X G v_MOST_BOOKS⟩,
    g_gcd := PySem.W.mg_of X G v_gcd,
    z_len := PySem.W.mg_none_of X G z_len,
    z_sum := PySem.W.mg_none_of X G z_sum,
    z_max := PySem.W.mg_none_of X G z_max,
    z_min := PySem.W.mg_none_of X G z_min,
    z_range := PySem.W.mg_none_of X G z_range,
    z_int := PySem.W.mg_none_of X G z_int,
    z_bool := PySem.W.mg_none_of X G z_bool,
    z_isinstance := PySem.W.mg_none_of X G z_isinstance,
    z_tuple := PySem.W.mg_none_of X G z_tuple,
    z_enumerate := PySem.W.mg_none_of X G z_enumerate,
    z_list := PySem.W.mg_none_of X G z_list,
    z_str := PySem.W.mg_none_of X G z_str,
    z_sorted := PySem.W.mg_none_of X G z_sorted }
     { c0 := e0, c1 := e1, c2 := e2, c3 := e3, c4 := e4, c5 := e5, c6 := e6, cE := eE, g0 := PySem.W.mg_of X G x_e0, g1 := PySem.W.mg_of X G x_e1, g2 := PySem.W.mg_of X G x_e2, g3 := PySem.W.mg_of X G x_e3, g4 := PySem.W.mg_of X G x_e4, g5 := PySem.W.mg_of X G x_e5, g6 := PySem.W.mg_of X G x_e6, gE := PySem.W.mg_of X G x_eE, zV := PySem.W.mg_none_of X G z_VE, zI := PySem.W.mg_none_of X G z_isinstance }
     ⟨⟨xr1, xr2⟩, xr3, xn0, xnp0, ⟨xg0, xk0, xs0, xd0⟩, ⟨xs0, xt0⟩, ⟨xg0, xk0, xs0, xd0, xa0, xc_n, xc_t, xm0⟩, xx0, xq0_0, xq0_1, xq0_2, xq0_3, xq0_4, xq0_5, xq0_6, xv0⟩
     ⟨⟨by decide, by decide, ⟨xg2, xk2, xs2, xd2, xa2, xc_n, xc_t, xm2⟩, xx2, xq2_0, xq2_1, xq2_2, xq2_3, xq2_4, xq2_5, xq2_6, xv2⟩, PySem.W.mg_of X G x_e2, xi2, xs2, xt2, xp2⟩
     ⟨⟨by decide, by decide, ⟨xg4, xk4, xs4, xd4, xa4, xc_n, xc_t, xm4⟩, xx4, xq4_0, xq4_1, xq4_2, xq4_3, xq4_4, xq4_5, xq4_6, xv4⟩, PySem.W.mg_of X G x_e4, xi4, xs4, xt4, xp4⟩
     (hTB _ List.mem_cons_self)
     ⟨⟨_, _, _, _, _, _, _, _, rfl, l_law, c_law⟩⟩
     (hTB _ (List.mem_cons_of_mem _ List.mem_cons_self))
     ⟨⟨_, _, _, _, _, _, _, _, rfl, l_lbad_rings, c_lbad_rings⟩⟩ t_ne

end Rp
open PySem PySem.W PyProof.Rows
set_option maxRecDepth 100000 in
set_option maxHeartbeats 0 in
theorem PySem.Challenge.cw_readingring_k01_rings_and_their_signs_holds : PySem.Challenge.rw_readingring_k01_rings_and_their_signs.Holds := by
  w_on; o_law; k_head; (case hw => w_witness2)
  k_fill
  refine Rl.walk_tabs (l := PySem.Challenge.rw_readingring_k01_rings_and_their_signs) (n := 63) (k := 12) (x := "_law_script") (CX := fun _ => L2.CX0) rfl (by decide) rfl ⟨rfl, by decide, by decide⟩ (fun w h Y => PySem.W.km_in_of Y) ?F (fun _ _ _ _ _ h => h)
  case F =>
    intro w mg fa h Y KX G hmg own
    refine' Rp.all_mk KX G hmg ?aC ?xc_iInvalidRing ?x_iInvalidRing ?xt_iInvalidRing ?xo_iInvalidRing ?l_iInvalidRing ?c_iInvalidRing ?k_iInvalidRing ?x_is_number ?l_is_number ?c_is_number ?k_is_number ?x_lies_between ?l_lies_between ?c_lies_between ?k_lies_between ?x_check_number ?l_check_number ?c_check_number ?k_check_number ?x_check_reader ?l_check_reader ?c_check_reader ?k_check_reader ?x_rinit ?i_rinit ?l_rinit ?c_rinit ?k_rinit ?cm_at ?cm_rc ?cm_fi ?cr_rd ?cr_ga ?l_rsingle ?c_rsingle ?k_rsingle ?pa_rdays ?pg_rdays ?pt_rdays ?pr_rdays ?l_rdays ?c_rdays ?k_rdays ?pa_rstarts ?pg_rstarts ?pt_rstarts ?pr_rstarts ?l_rstarts ?c_rstarts ?k_rstarts ?pa_rbooks ?pg_rbooks ?pt_rbooks ?pr_rbooks ?l_rbooks ?c_rbooks ?k_rbooks ?pa_rpace ?pg_rpace ?pt_rpace ?pr_rpace ?l_rpace ?c_rpace ?k_rpace ?x_rwith_days ?i_rwith_days ?l_rwith_days ?c_rwith_days ?k_rwith_days ?x_rlen ?i_rlen ?l_rlen ?c_rlen ?k_rlen ?x_rgetitem ?i_rgetitem ?l_rgetitem ?c_rgetitem ?k_rgetitem ?x_rcall ?i_rcall ?j_rcall ?l_rcall ?c_rcall ?k_rcall ?x_rrshift ?i_rrshift ?l_rrshift ?c_rrshift ?k_rrshift ?x_req ?i_req ?l_req ?c_req ?k_req ?x_check_part ?l_check_part ?c_check_part ?k_check_part ?x_slowest_decides ?l_slowest_decides ?c_slowest_decides ?k_slowest_decides ?x_pace_of ?l_pace_of ?c_pace_of ?k_pace_of ?x_round_pace ?l_round_pace ?c_round_pace ?k_round_pace ?x_end_day ?l_end_day ?c_end_day ?k_end_day ?x_ldice ?l_ldice ?c_ldice ?k_ldice ?x_lnext ?l_lnext ?c_lnext ?k_lnext ?x_llike ?l_llike ?c_llike ?k_llike ?x_lpick ?l_lpick ?c_lpick ?k_lpick ?x_ltold ?l_ltold ?c_ltold ?k_ltold ?x_lring ?l_lring ?c_lring ?k_lring ?x_lterms ?l_lterms ?c_lterms ?k_lterms ?x_lpace ?l_lpace ?c_lpace ?k_lpace ?x_lbad_rings ?l_lbad_rings ?c_lbad_rings ?k_lbad_rings ?x_law ?l_law ?c_law ?k_law ?pgC ?hdC ?poC ?saC ?mkC ?kC ?shN ?shI ?shJ ?shS ?sfC ?clsC ?clsG ?clsT ?clsM ?kT1 ?sT1 ?gFn1 ?u1_NoneType ?u2_NoneType ?u3_NoneType ?u1_bool ?u2_bool ?u3_bool ?u1_str ?u2_str ?u3_str ?nsqC ?nD ?nS ?v_LATEST ?v_FEWEST_READERS ?v_MOST_READERS ?v_MOST_DAYS ?v_MOST_BOOKS ?v_gcd ?z_len ?z_sum ?z_max ?z_min ?z_range ?z_int ?z_bool ?z_isinstance ?z_tuple ?z_enumerate ?z_list ?z_str ?z_sorted (own _ _ (by decide +kernel) hmg) (fun fb hb => own "_law_bad_rings" fb (by decide +kernel) hb) ?tb_c ?tb_l ?tb_p ?tb_h ?tb_n ?x_e0 ?x_e1 ?x_e2 ?x_e3 ?x_e4 ?x_e5 ?x_e6 ?x_eE ?z_VE ?xc_n ?xc_t ?xg2 ?xk2 ?xs2 ?xd2 ?xa2 ?xm2 ?xx2 ?xq2_0 ?xq2_1 ?xq2_2 ?xq2_3 ?xq2_4 ?xq2_5 ?xq2_6 ?xv2 ?xi2 ?xt2 ?xp2 ?xg4 ?xk4 ?xs4 ?xd4 ?xa4 ?xm4 ?xx4 ?xq4_0 ?xq4_1 ?xq4_2 ?xq4_3 ?xq4_4 ?xq4_5 ?xq4_6 ?xv4 ?xi4 ?xt4 ?xp4 ?xg0 ?xk0 ?xs0 ?xd0 ?xa0 ?xm0 ?xx0 ?xq0_0 ?xq0_1 ?xq0_2 ?xq0_3 ?xq0_4 ?xq0_5 ?xq0_6 ?xv0 ?xt0 ?xn0 ?xnp0 ?xr1 ?xr2 ?xr3 ?tc_c ?tc_l ?tc_p ?tc_h ?tc_n ?t_ne
    (case aC => k_is); (case xc_iInvalidRing => k_is); (case x_iInvalidRing => k_is); (case xt_iInvalidRing => k_is); (case xo_iInvalidRing => first | exact rfl | decide +kernel); (case l_iInvalidRing => k_is); (case c_iInvalidRing => k_is); (case k_iInvalidRing => k_is)
    (case x_is_number => k_is); (case l_is_number => k_is); (case c_is_number => k_is); (case k_is_number => k_is); (case x_lies_between => k_is); (case l_lies_between => k_is); (case c_lies_between => k_is); (case k_lies_between => k_is)
    (case x_check_number => k_is); (case l_check_number => k_is); (case c_check_number => k_is); (case k_check_number => k_is); (case x_check_reader => k_is); (case l_check_reader => k_is); (case c_check_reader => k_is); (case k_check_reader => k_is)
    (case x_rinit => k_is); (case i_rinit => k_is); (case l_rinit => k_is); (case c_rinit => k_is); (case k_rinit => k_is); (case cm_at => first | k_is | exact rfl | k_exc | decide +kernel); (case cm_rc => first | k_is | exact rfl | k_exc | decide +kernel); (case cm_fi => first | k_is | exact rfl | k_exc | decide +kernel)
    (case cr_rd => first | k_is | exact rfl | k_exc | decide +kernel); (case cr_ga => first | k_is | exact rfl | k_exc | decide +kernel); (case l_rsingle => k_is); (case c_rsingle => k_is); (case k_rsingle => k_is); (case pa_rdays => k_is); (case pg_rdays => k_is); (case pt_rdays => k_is)
    (case pr_rdays => k_is); (case l_rdays => k_is); (case c_rdays => k_is); (case k_rdays => k_is); (case pa_rstarts => k_is); (case pg_rstarts => k_is); (case pt_rstarts => k_is); (case pr_rstarts => k_is)
    (case l_rstarts => k_is); (case c_rstarts => k_is); (case k_rstarts => k_is); (case pa_rbooks => k_is); (case pg_rbooks => k_is); (case pt_rbooks => k_is); (case pr_rbooks => k_is); (case l_rbooks => k_is)
    (case c_rbooks => k_is); (case k_rbooks => k_is); (case pa_rpace => k_is); (case pg_rpace => k_is); (case pt_rpace => k_is); (case pr_rpace => k_is); (case l_rpace => k_is); (case c_rpace => k_is)
    (case k_rpace => k_is); (case x_rwith_days => k_is); (case i_rwith_days => k_is); (case l_rwith_days => k_is); (case c_rwith_days => k_is); (case k_rwith_days => k_is); (case x_rlen => k_is); (case i_rlen => k_is)
    (case l_rlen => k_is); (case c_rlen => k_is); (case k_rlen => k_is); (case x_rgetitem => k_is); (case i_rgetitem => k_is); (case l_rgetitem => k_is); (case c_rgetitem => k_is); (case k_rgetitem => k_is)
    (case x_rcall => k_is); (case i_rcall => k_is); (case j_rcall => k_is); (case l_rcall => k_is); (case c_rcall => k_is); (case k_rcall => k_is); (case x_rrshift => k_is); (case i_rrshift => k_is)
    (case l_rrshift => k_is); (case c_rrshift => k_is); (case k_rrshift => k_is); (case x_req => k_is); (case i_req => k_is); (case l_req => k_is); (case c_req => k_is); (case k_req => k_is)
    (case x_check_part => k_is); (case l_check_part => k_is); (case c_check_part => k_is); (case k_check_part => k_is); (case x_slowest_decides => k_is); (case l_slowest_decides => k_is); (case c_slowest_decides => k_is); (case k_slowest_decides => k_is)
    (case x_pace_of => k_is); (case l_pace_of => k_is); (case c_pace_of => k_is); (case k_pace_of => k_is); (case x_round_pace => k_is); (case l_round_pace => k_is); (case c_round_pace => k_is); (case k_round_pace => k_is)
    (case x_end_day => k_is); (case l_end_day => k_is); (case c_end_day => k_is); (case k_end_day => k_is); (case x_ldice => k_is); (case l_ldice => k_is); (case c_ldice => k_is); (case k_ldice => k_is)
    (case x_lnext => k_is); (case l_lnext => k_is); (case c_lnext => k_is); (case k_lnext => k_is); (case x_llike => k_is); (case l_llike => k_is); (case c_llike => k_is); (case k_llike => k_is)
    (case x_lpick => k_is); (case l_lpick => k_is); (case c_lpick => k_is); (case k_lpick => k_is); (case x_ltold => k_is); (case l_ltold => k_is); (case c_ltold => k_is); (case k_ltold => k_is)
    (case x_lring => k_is); (case l_lring => k_is); (case c_lring => k_is); (case k_lring => k_is); (case x_lterms => k_is); (case l_lterms => k_is); (case c_lterms => k_is); (case k_lterms => k_is)
    (case x_lpace => k_is); (case l_lpace => k_is); (case c_lpace => k_is); (case k_lpace => k_is); (case x_lbad_rings => k_is); (case l_lbad_rings => k_is); (case c_lbad_rings => k_is); (case k_lbad_rings => k_is)
    (case x_law => k_is); (case l_law => k_is); (case c_law => k_is); (case k_law => k_is); (case pgC => k_is); (case hdC => k_is); (case poC => k_is); (case saC => k_is)
    (case mkC => k_is); (case kC => k_is); (case shN => k_is); (case shI => k_is); (case shJ => k_is); (case shS => k_is); (case sfC => k_is); (case clsC => k_is)
    (case clsG => k_is); (case clsT => k_is); (case clsM => k_is); (case kT1 => first | k_is | exact rfl | k_exc | decide +kernel); (case sT1 => first | k_is | exact rfl | k_exc | decide +kernel); (case gFn1 => first | k_is | exact rfl | k_exc | decide +kernel); (case u1_NoneType => first | k_is | exact rfl | k_exc | decide +kernel); (case u2_NoneType => first | k_is | exact rfl | k_exc | decide +kernel)
    (case u3_NoneType => first | k_is | exact rfl | k_exc | decide +kernel); (case u1_bool => first | k_is | exact rfl | k_exc | decide +kernel); (case u2_bool => first | k_is | exact rfl | k_exc | decide +kernel); (case u3_bool => first | k_is | exact rfl | k_exc | decide +kernel); (case u1_str => first | k_is | exact rfl | k_exc | decide +kernel); (case u2_str => first | k_is | exact rfl | k_exc | decide +kernel); (case u3_str => first | k_is | exact rfl | k_exc | decide +kernel); (case nsqC => k_is)
    (case nD => k_is); (case nS => k_is); (case v_LATEST => k_is); (case v_FEWEST_READERS => k_is); (case v_MOST_READERS => k_is); (case v_MOST_DAYS => k_is); (case v_MOST_BOOKS => k_is); (case v_gcd => k_is)
    (case z_len => k_is); (case z_sum => k_is); (case z_max => k_is); (case z_min => k_is); (case z_range => k_is); (case z_int => k_is); (case z_bool => k_is); (case z_isinstance => k_is)
    (case z_tuple => k_is); (case z_enumerate => k_is); (case z_list => k_is); (case z_str => k_is); (case z_sorted => k_is)
    (case tb_c => first | exact rfl | k_is | k_exc | decide +kernel)
    (case tb_l => first | exact rfl | k_is | k_exc | decide +kernel)
    (case tb_p => first | exact rfl | k_is | k_exc | decide +kernel)
    (case tb_h => first | exact rfl | k_is | k_exc | decide +kernel)
    (case tb_n => first | exact rfl | k_is | k_exc | decide +kernel)
    (case x_e0 => first | exact rfl | k_is | k_exc | decide +kernel)
    (case x_e1 => first | exact rfl | k_is | k_exc | decide +kernel)
    (case x_e2 => first | exact rfl | k_is | k_exc | decide +kernel)
    (case x_e3 => first | exact rfl | k_is | k_exc | decide +kernel)
    (case x_e4 => first | exact rfl | k_is | k_exc | decide +kernel)
    (case x_e5 => first | exact rfl | k_is | k_exc | decide +kernel)
    (case x_e6 => first | exact rfl | k_is | k_exc | decide +kernel)
    (case x_eE => first | exact rfl | k_is | k_exc | decide +kernel)
    (case z_VE => first | exact rfl | k_is | k_exc | decide +kernel)
    (case xc_n => first | exact rfl | k_is | k_exc | decide +kernel)
    (case xc_t => first | exact rfl | k_is | k_exc | decide +kernel)
    (case xg2 => first | exact rfl | k_is | k_exc | decide +kernel)
    (case xk2 => first | exact rfl | k_is | k_exc | decide +kernel)
    (case xs2 => first | exact rfl | k_is | k_exc | decide +kernel)
    (case xd2 => first | exact rfl | k_is | k_exc | decide +kernel)
    (case xa2 => first | exact rfl | k_is | k_exc | decide +kernel)
    (case xm2 => first | exact rfl | k_is | k_exc | decide +kernel)
    (case xx2 => first | exact rfl | k_is | k_exc | decide +kernel)
    (case xq2_0 => first | exact rfl | k_is | k_exc | decide +kernel)
    (case xq2_1 => first | exact rfl | k_is | k_exc | decide +kernel)
    (case xq2_2 => first | exact rfl | k_is | k_exc | decide +kernel)
    (case xq2_3 => first | exact rfl | k_is | k_exc | decide +kernel)
    (case xq2_4 => first | exact rfl | k_is | k_exc | decide +kernel)
    (case xq2_5 => first | exact rfl | k_is | k_exc | decide +kernel)
    (case xq2_6 => first | exact rfl | k_is | k_exc | decide +kernel)
    (case xv2 => first | exact rfl | k_is | k_exc | decide +kernel)
    (case xi2 => first | exact rfl | k_is | k_exc | decide +kernel)
    (case xt2 => first | exact rfl | k_is | k_exc | decide +kernel)
    (case xp2 => first | exact rfl | k_is | k_exc | decide +kernel)
    (case xg4 => first | exact rfl | k_is | k_exc | decide +kernel)
    (case xk4 => first | exact rfl | k_is | k_exc | decide +kernel)
    (case xs4 => first | exact rfl | k_is | k_exc | decide +kernel)
    (case xd4 => first | exact rfl | k_is | k_exc | decide +kernel)
    (case xa4 => first | exact rfl | k_is | k_exc | decide +kernel)
    (case xm4 => first | exact rfl | k_is | k_exc | decide +kernel)
    (case xx4 => first | exact rfl | k_is | k_exc | decide +kernel)
    (case xq4_0 => first | exact rfl | k_is | k_exc | decide +kernel)
    (case xq4_1 => first | exact rfl | k_is | k_exc | decide +kernel)
    (case xq4_2 => first | exact rfl | k_is | k_exc | decide +kernel)
    (case xq4_3 => first | exact rfl | k_is | k_exc | decide +kernel)
    (case xq4_4 => first | exact rfl | k_is | k_exc | decide +kernel)
    (case xq4_5 => first | exact rfl | k_is | k_exc | decide +kernel)
    (case xq4_6 => first | exact rfl | k_is | k_exc | decide +kernel)
    (case xv4 => first | exact rfl | k_is | k_exc | decide +kernel)
    (case xi4 => first | exact rfl | k_is | k_exc | decide +kernel)
    (case xt4 => first | exact rfl | k_is | k_exc | decide +kernel)
    (case xp4 => first | exact rfl | k_is | k_exc | decide +kernel)
    (case xg0 => first | exact rfl | k_is | k_exc | decide +kernel)
    (case xk0 => first | exact rfl | k_is | k_exc | decide +kernel)
    (case xs0 => first | exact rfl | k_is | k_exc | decide +kernel)
    (case xd0 => first | exact rfl | k_is | k_exc | decide +kernel)
    (case xa0 => first | exact rfl | k_is | k_exc | decide +kernel)
    (case xm0 => first | exact rfl | k_is | k_exc | decide +kernel)
    (case xx0 => first | exact rfl | k_is | k_exc | decide +kernel)
    (case xq0_0 => first | exact rfl | k_is | k_exc | decide +kernel)
    (case xq0_1 => first | exact rfl | k_is | k_exc | decide +kernel)
    (case xq0_2 => first | exact rfl | k_is | k_exc | decide +kernel)
    (case xq0_3 => first | exact rfl | k_is | k_exc | decide +kernel)
    (case xq0_4 => first | exact rfl | k_is | k_exc | decide +kernel)
    (case xq0_5 => first | exact rfl | k_is | k_exc | decide +kernel)
    (case xq0_6 => first | exact rfl | k_is | k_exc | decide +kernel)
    (case xv0 => first | exact rfl | k_is | k_exc | decide +kernel)
    (case xt0 => first | exact rfl | k_is | k_exc | decide +kernel)
    (case xn0 => first | exact rfl | k_is | k_exc | decide +kernel)
    (case xnp0 => first | exact rfl | k_is | k_exc | decide +kernel)
    (case xr1 => first | exact rfl | k_is | k_exc | decide +kernel)
    (case xr2 => first | exact rfl | k_is | k_exc | decide +kernel)
    (case xr3 => first | exact rfl | k_is | k_exc | decide +kernel)
    (case tc_c => first | exact rfl | k_is | k_exc | decide +kernel)
    (case tc_l => first | exact rfl | k_is | k_exc | decide +kernel)
    (case tc_p => first | exact rfl | k_is | k_exc | decide +kernel)
    (case tc_h => first | exact rfl | k_is | k_exc | decide +kernel)
    (case tc_n => first | exact rfl | k_is | k_exc | decide +kernel)
    (case t_ne => first | exact rfl | k_is | k_exc | decide +kernel)
