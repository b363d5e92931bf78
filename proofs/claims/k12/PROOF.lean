import PyProof.Rows.All
import Wide.All
import OpenK.AllK
import Wide.FinOn
import PyProof.EqAt
import PyProof.EqKinds
import PyProof.TupleCall
import HandS.ForMost
import HandS.Walk
import HandS.Property
import HandS.Star
import HandS.IsInst
import HandS.Gcd
import HandS.Flow
import KE.KTupSum
import KE.GoesEnum
import HandS.Strs
import HandS.Conv
import HandS.Sort
import HandS.TupAny
import KE.KEqDeep
import HandS.Style
import HandS.OwnEq
import HandS.Nested
import HandS.Lambda
import KE.KDflt
import HandS.EndOwn
import PySem.Challenge.RW_readingring_k12_whole_repeated_calls
set_option Elab.async false
set_option linter.all false
set_option maxRecDepth 100000
set_option maxHeartbeats 8000000
/-! Rules beside the layer's: len of an own instance, enumerate over a tuple, sum and max of a tuple. -/
namespace Rz
open PySem PySem.Spec PyProof.Rows L2

section
variable {X : Cx}
/-! ### len(o), o an instance whose class defines it -/
def rLenI (C : Addr) (sp : Sp) (E : XK) : List V → Hp → VK → Prop := fun xs H Q => ∃ a dx fs, xs = [.ref a] ∧ H a = some (.ins C dx fs) ∧
  sp [.ref a] H (fun v H' => ∃ n : Int, v = .int n ∧ 0 ≤ n ∧ n < 2 ^ 63 ∧ Q (.int n) H') E
theorem call_lenI {CX : CXT} {k : Nat} {f C : Addr} {sp : Sp} {E : XK} (hs : PySem.W.findIn X.K (.ref C) "__len__" = some (some (.ref f))) (hf : PySem.W.isFn X.K (.ref f) = true)
    (F : FnR X.prog X.w X.K X.mg X.base CX k f sp) (hr : Room (k + 1) X.A) (hx : Passes CX X E) : CallR X (.builtin "len") (rLenI C sp E) := by
  intro pins s σ H xs us Q I r h
  obtain ⟨a, dx, fs, rfl, ea, q⟩ := h
  rw [Vals.ref1 r]
  obtain ⟨mA, O, _⟩ := ins_get I.hok ea
  obtain ⟨od, J, _⟩ := O.look
  have hc : wpAny (model X.prog X.w) X.A.in1 (call (.ref f) [.ref a]) (EP X pins σ (fun v H' => ∃ n : Int, v = .int n ∧ 0 ≤ n ∧ n < 2 ^ 63 ∧ Q (.int n) H')) X.xe s := by
    refine wpAny_call (codeAny_mono (F X.A.in1 X.stack s H [.ref a] [.ref a] _ E hr.in1 I.env0.in1 (.cons rfl .nil) q) fun r s' hq => ?_)
    cases r with
    | error e => exact hx pins σ H s e s' I hq
    | ok fl =>
      cases fl with
      | ret u => exact I.after hq
      | next => exact False.elim hq
      | brk => exact False.elim hq
      | cont => exact False.elim hq
  refine Calls.call_function_entry kind_len plain_len entry_len (args_len1 _) ?_
  unfold Builtin.«len»
  refine wpAny_bind (m := oneArg "len" _) (wpAny_pure ?_)
  refine wpAny_bind (m := callSpecial? (.ref a) (Str.ofString "__len__")) (PySem.W.special_fn I.kIn J hs (beq_iff_eq.mp hf) (wpAny_mono hc (fun r s' hr => ?_) fun _ _ y => y))
  obtain ⟨v, H', I', rv, n, rfl, h0, h1, hq⟩ := hr
  obtain ⟨t, rfl⟩ := rv
  refine wpAny_bind (wpAny_holding (wpAny_pure ?_))
  refine wpAny_bind (wpAny_letGo ?_)
  show wpAny _ _ (if n < 0 then _ else _) _ _ _
  rw [if_neg (by omega)]
  show wpAny _ _ (if n ≥ 2 ^ 63 then _ else _) _ _ _
  rw [if_neg (by omega)]
  exact wpAny_bind (wpAny_mkInt (wpAny_pure ⟨_, rfl, ⟨.int n, H', I'.tok _, ⟨_, rfl⟩, hq⟩⟩))

/-! ### sum, max of a tuple of ints -/
def rSumT (K : PySem.W.Frag) : List V → Hp → VK → Prop := fun vs H Q => ∃ (a : Addr) (ns : List Int), vs = [V.ref a] ∧ SqT K H a (ns.map V.int) ∧ Q (.int ns.sum) H
def rMaxT (K : PySem.W.Frag) : List V → Hp → VK → Prop := fun vs H Q => ∃ (a : Addr) (ns : List Int), vs = [V.ref a] ∧ SqT K H a (ns.map V.int) ∧ 0 < ns.length ∧
  ∀ m, m ∈ ns → (∀ y, y ∈ ns → y ≤ m) → Q (.int m) H
theorem cr_sumT (hc : X.calm = true) : CallR X (.builtin "sum") (rSumT X.K) := by
  intro pins s σ H vs us Q I r h
  obtain ⟨a, ns, rfl, hs, q⟩ := h
  obtain ⟨its, rv, hl, _⟩ := I.tuple hs
  rw [Vals.ref1 r]
  have hi := rv.ints
  have hl' : s.heap.IsTuple a its.toArray := hl
  obtain ⟨xs, e⟩ := hi.allInts.items
  have hn : numsOf (intItems xs).toList = ns := by rw [← e]; exact hi.numsOf
  rw [nums_intItems] at hn
  rw [e] at hl'
  refine PySem.W.ktm_sumG (I.ok.hd hc) hl' fun h' tk t' hk => ?_
  have J : Inv X pins σ H { s with heap := h', toks := tk } := I.kept hk
  refine ⟨.int ns.sum, H, J, ⟨t', ?_⟩, q⟩
  rw [preSum_eq, List.take_of_length_le (by simp), hn]
theorem max_tup {prog : Program} {w : World} {A : Around} {E : Value → Shared → Prop} {s : Shared} {l : Addr} {xs : Array (Int × Tok)} {Q : Value → Shared → Prop} (hh : A.handled = none) (ht : s.heap.IsTuple l (intItems xs)) (hne : 0 < xs.size)
    (h : ∀ v h' tk, (intItems xs)[argBest (fun i j => decide (numAt xs i > numAt xs j)) (xs.size - 1)]? = some v → (∀ b o, s.heap.get? b = some o → h'.get? b = some o) → Q v { s with heap := h', toks := tk }) :
    wpAny (model prog w) A (call (.builtin "max") [.ref l]) Q E s := by
  obtain ⟨o, ho, hc, n, hd⟩ := id ht
  have hlt : l < s.heap.objs.size := Heap.lt_size ho
  refine call_max_walk (wpAny_pyIter_tuple ht ?_)
  refine ⟨s.heap.objs.size, _, _, _, _, _, _, rfl, Walks.tuple (A := A.in1) hh _ l (Nat.ne_of_lt hlt) (intItems xs), ⟨⟨_, Heap.get?_push_size _ rfl, rfl, rfl⟩, ht.at fun o e => Heap.get?_push_of_some _ e⟩, fun b hb => ?_, by simpa [intItems] using hne,
    CmpOf.ints_gt (numAt xs) (fun _ _ => intItems_at), fun v h' tk hP hk => ?_⟩
  · rcases List.mem_cons.mp hb with rfl | hb
    · exact Heap.lt_size (Heap.get?_push_size _ rfl)
    · obtain rfl := List.mem_singleton.mp hb
      exact Heap.lt_size (Heap.get?_push_of_some _ ho)
  · refine h v h' tk (by simpa [intItems] using hP) fun b o e => ?_
    refine hk b o (fun hm => ?_) (Heap.get?_push_of_some _ e)
    have := List.mem_singleton.mp hm
    exact absurd (this ▸ Heap.lt_size e) (Nat.lt_irrefl _)
theorem cr_maxT (hc : X.calm = true) : CallR X (.builtin "max") (rMaxT X.K) := by
  intro pins s σ H vs us Q I r h
  obtain ⟨a, ns, rfl, hs, hne, q⟩ := h
  obtain ⟨its, rv, hl, _⟩ := I.tuple hs
  rw [Vals.ref1 r]
  have hi := rv.ints
  have hl' : s.heap.IsTuple a its.toArray := hl
  obtain ⟨xs, e⟩ := hi.allInts.items
  have hn : numsOf (intItems xs).toList = ns := by rw [← e]; exact hi.numsOf
  rw [nums_intItems] at hn
  subst hn
  rw [e] at hl'
  have hsz : 0 < xs.size := by simpa using hne
  refine max_tup (I.ok.hd hc) hl' hsz fun v h' tk hv hk => ?_
  obtain ⟨t, rfl⟩ := intItems_at hv
  obtain ⟨h1, h2⟩ := argBest_gt (numAt xs) (xs.size - 1)
  refine ⟨.int _, H, I.kept hk, ⟨t, rfl⟩, q _ ?_ fun a ha => ?_⟩
  · rw [numAt_eq]; exact PySem.getD_mem (by rw [List.length_map, Array.length_toList]; omega)
  · obtain ⟨j, hj, rfl⟩ := mem_getD ha
    rw [List.length_map, Array.length_toList] at hj
    rw [← numAt_eq]; exact h2 j (by omega)
end

/-! ### enumerate(t), t a tuple -/
theorem meets_enumerate_newT (l : Addr) (items : Array Value) (n : Nat) (dct : Option Addr) (sl : Array (Option Value)) :
    Meets (Builtin.«enumerate.__new__» ⟨[.type "enumerate", .ref l], []⟩) (fun _ R s => s.heap.get? l = some { cls := .type "tuple", dict := dct, data := .seq items n, slots := sl } ∧
      R (.ok (.ret (.ref (s.heap.push { cls := .type "tuple_iterator", data := .fields #[.ref l, .int 0 0] }).objs.size)))
        { s with heap := (s.heap.push { cls := .type "tuple_iterator", data := .fields #[.ref l, .int 0 0] }).push { cls := .type "enumerate", data := .fields #[.none, .bool false, .ref s.heap.objs.size, rawInt 0, .none, .none] } }) :=
  .of_wp fun prog w A R s h => by
    obtain ⟨hp, g, d, tk, os⟩ := s; obtain ⟨hl, h⟩ := h
    have hsub := sub_enumerate
    have hL : Heap.IsTuple (Shared.heap ⟨hp, g, d, tk, os⟩) l items := ⟨_, hl, rfl, n, rfl⟩
    wp_walk using AutoSeq1.wpAny_loadPart' hl
    refine wpAny_stack_any fun st => wpAny_pure ?_
    split
    · rename_i c _ _ _ _ _
      cases (c == Value.type "enumerate")
      · wp_walk using AutoSeq1.wpAny_loadPart' hl, wpAny_pyIter_tuple hL
        exact ⟨_, rfl, h⟩
      · wp_walk using AutoSeq1.wpAny_loadPart' hl, wpAny_pyIter_tuple hL
        exact ⟨_, rfl, h⟩
    · wp_walk using AutoSeq1.wpAny_loadPart' hl, wpAny_pyIter_tuple hL
      exact ⟨_, rfl, h⟩
theorem call_enumerate_tuple {prog : Program} {w : World} {A : Around} {E : Value → Shared → Prop} {s : Shared} {l : Addr} {items : Array Value} {Q : Value → Shared → Prop} (hL : s.heap.IsTuple l items)
    (h : ∀ h', IsEnum h' (s.heap.objs.size + 1) s.heap.objs.size 0 .none → h'.IsTupleIter s.heap.objs.size l 0 → h'.objs.size = s.heap.objs.size + 2 →
      (∀ b o, s.heap.get? b = some o → h'.get? b = some o) → Q (.ref (s.heap.objs.size + 1)) { s with heap := h' }) :
    wpAny (model prog w) A (call (.type "enumerate") [.ref l]) Q E s := by
  obtain ⟨⟨c, dct, dt, sl⟩, hl, hc, n, hd⟩ := hL
  replace hc : c = .type "tuple" := hc
  replace hd : dt = .seq items n := hd
  subst hc hd
  refine callType_new F.called_enumerate (by decide) (F.typeCall_enumerate_1 _) (F.newCall_enumerate_1 _) (fun obj => F.args_object_init_2 obj _) F.entry_enumerate_new
    (meets_enumerate_newT l items n dct sl) ⟨hl, ?_⟩
  have hz : (s.heap.push { cls := .type "tuple_iterator", data := .fields #[.ref l, .int 0 0] }).objs.size = s.heap.objs.size + 1 := Heap.size_push ..
  show _ ∧ _
  rw [hz]
  have he : IsEnum ((s.heap.push { cls := .type "tuple_iterator", data := .fields #[.ref l, .int 0 0] }).push
      { cls := .type "enumerate", data := .fields #[.none, .bool false, .ref s.heap.objs.size, rawInt 0, .none, .none] }) (s.heap.objs.size + 1) s.heap.objs.size 0 .none := by
    have := Heap.get?_push_size (s.heap.push { cls := .type "tuple_iterator", data := .fields #[.ref l, .int 0 0] })
      (o := { cls := .type "enumerate", data := .fields #[.none, .bool false, .ref s.heap.objs.size, rawInt 0, .none, .none] }) rfl
    rw [hz] at this; exact this
  refine ⟨⟨_, he, rfl⟩, h _ he ⟨_, Heap.get?_push_of_some _ (Heap.get?_push_size _ rfl), rfl, rfl⟩ (by rw [Heap.size_push, hz]) fun b o x => Heap.get?_push_of_some _ (Heap.get?_push_of_some _ x)⟩

/-- the tuple at a, each item in a new pair with its number -/
def IteT (K : PySem.W.Frag) (a : Addr) : It :=
  ⟨fun i H => ∃ (xs : List V) (x : V), SqT K H a xs ∧ xs[i]? = some x, fun i H v H' => ∃ T x, v = .ref T ∧ H T = none ∧ H' = upd H T (.tup [.int (i : Nat), x]) ∧ ∀ xs, SqT K H a xs → xs[i]? = some x, fun i H => ∃ xs : List V, SqT K H a xs ∧ xs.length = i⟩
theorem turn_enumT {P : Program} {w : World} {K : PySem.W.Frag} {elts : List Expr} {kk : Nat} {tpos : Pos} (a e it : Addr) :
    Turn P w K (.Tuple elts kk tpos) (IteT K a) [e, it] e (fun i h => (∃ old, IsEnum h e it ((i : Nat) : Int) old) ∧ h.IsTupleIter it a i ∧ e ≠ it ∧ e ≠ a ∧ it ≠ a) where
  mem := by simp
  obj := fun i h st b hb => by
    obtain ⟨⟨old, he⟩, ⟨o, ho, hc, hd⟩, _⟩ := st
    have e' : b = e ∨ b = it := by simpa using hb
    rcases e' with z | z
    · rw [z]; exact ⟨_, he, fun v q => nomatch q⟩
    · rw [z]; exact ⟨o, ho, fun v q => by rw [hd] at q; cases q⟩
  keep := fun i h h' st k => let ⟨⟨old, he⟩, hi, hne⟩ := st; ⟨⟨old, k e (by simp) _ he⟩, hi.at fun o q => k it (by simp) o q, hne⟩
  item := by
    intro X hP hw hK hc i pins s σ H E I hf st hg
    subst hP hw hK
    obtain ⟨⟨old, he⟩, hit, hne, hea, hia⟩ := st
    obtain ⟨xs, x, hq, hx⟩ := hg
    obtain ⟨its, rv, p, hz⟩ := I.tuple hq
    obtain ⟨u, hu, ru⟩ := rv.get hx
    have hel : e < s.heap.objs.size := Heap.lt_size he
    have hil : it < s.heap.objs.size := by obtain ⟨_, q, _⟩ := hit; exact Heap.lt_size q
    have hlt : i < its.toArray.size := by
      have := (List.getElem?_eq_some_iff.mp hu).1
      simpa using this
    refine wpAny_pyNext_enum_itemC (Draws.tuple (prog := X.prog) (w := X.w) (A := X.A.in1) (I.ok.hd hc) it a (Ne.symm hia) its.toArray) he ⟨hit, p⟩ hlt hne (by simp [hne, hea]) fun x' h' tk hPx ho hst' hT hsz hk => ?_
    have ex : x' = u := by
      have h1 : its.toArray[i]? = some u := by simpa using hu
      exact Option.some.inj (hPx.symm.trans h1)
    subst ex
    obtain ⟨hit', _⟩ := hst'
    refine ⟨_, rfl, wpAny_letOwnedTupleGo_enum (s := { s with heap := h', toks := tk + 1 }) ho fun h'' he' sb => ?_⟩
    have hT2 : h''.get? s.heap.objs.size = some { cls := .type "tuple", data := .seq #[.int i tk, x'] } := (sb.2 _ (Nat.ne_of_gt hel)).trans hT
    have new : ObjOk X.prog X.w (upd H s.heap.objs.size (.tup [.int (i : Nat), x])) h'' s.heap.objs.size (.tup [.int (i : Nat), x]) :=
      ⟨by show 2 ≤ sizeLine; decide, [.int i tk, x'], .cons ⟨_, rfl⟩ (.cons ru .nil), ⟨_, hT2, rfl, _, rfl⟩⟩
    have I1 : Inv X pins σ (upd H s.heap.objs.size (.tup [.int (i : Nat), x])) { s with heap := h'', toks := tk + 1 } :=
      I.turnedNew (ch := [e, it]) (fun b ob hb q => (sb.2 b (fun z => hb (by simp [z]))).trans (hk b ob (fun z => hb (by simp [z])) (fun z => hb (by simp [z])) q)) hf (Nat.le_refl _) new
    refine ⟨.ref s.heap.objs.size, _, I1, rfl, ⟨_, x, rfl, I.hok.fresh (Nat.le_refl _), rfl, fun ys hy => by rw [I.tuple_inj hy hq]; exact hx⟩, ⟨⟨x', ?_⟩, hit'.at fun o q => (sb.2 it (Ne.symm hne)).trans q, hne, hea, hia⟩, fun b hb => ?_⟩
    · have e1 : ((i + 1 : Nat) : Int) = (i : Int) + 1 := by omega
      rw [e1]; exact he'
    · have hb' : b < s.heap.objs.size := by
        have e' : b = e ∨ b = it := by simpa using hb
        rcases e' with z | z
        · rw [z]; exact hel
        · rw [z]; exact hil
      rw [upd_ne (Nat.ne_of_lt hb')]
      exact (hf b hb).1
  done := by
    intro X hP hw hK hc i pins s σ H E I hf st hg
    subst hP hw hK
    obtain ⟨⟨old, he⟩, hit, hne, hea, hia⟩ := st
    obtain ⟨xs, hq, hx⟩ := hg
    obtain ⟨its, rv, p, hz⟩ := I.tuple hq
    obtain ⟨f0, f1, f2, f3, f4, f5⟩ := hf it (by simp)
    have hl := rv.length
    have hn : i = its.toArray.size := by simp; omega
    subst hn
    exact wpAny_pyNext_enum_endD (Draws.tuple (prog := X.prog) (w := X.w) (A := X.A.in1) (I.ok.hd hc) it a (Ne.symm hia) its.toArray) he ⟨hit, p⟩ fun h' eb => ⟨rfl, I.turned (t' := s.toks) (fun b o hb q => eb b o hb q) f0 f1 f3 f4 f5⟩
  self := fun A i s Q E st h => let ⟨⟨_, he⟩, _⟩ := st; wpAny_pyIter_enum he h
def iEnumT (K : PySem.W.Frag) (ta : TA) : TI := fun σ H R => ta σ H fun vs H1 => ∃ a xs, vs = [.ref a] ∧ SqT K H1 a xs ∧ R (IteT K a) H1
theorem pi_enumT {X : Cx} {e : Expr} {ta : TA} {p pos tpos : Pos} {elts : List Expr} {kk : Nat} (hg : Gl X "enumerate") (hm : X.mg "enumerate" = none) (ha : PA X [e] ta) (hs : starEach [e] X.env = [(false, eval e X.env)] := by rfl) :
    PI X (.Tuple elts kk tpos) (.Call (.Name "enumerate" p) [e] [] pos) (iEnumT X.K ta) := by
  refine ⟨fun pins s σ H R I h => ?_⟩
  refine Call_ (ld_blt I hg hm boot_enumerate (PyProof.Rows.callWith_type1 (thn (ha.run pos pins s σ H _ I h) fun us s1 ⟨vs, H1, I1, r1, q1⟩ => ?_) hs rfl))
  obtain ⟨a, xs, ex, hq, q⟩ := q1
  subst ex
  cases r1 with
  | cons r rr =>
    cases rr
    cases r
    obtain ⟨its, rv, p', hz⟩ := I1.tuple hq
    have la : a < s1.heap.objs.size := by obtain ⟨_, y, _⟩ := p'; exact Heap.lt_size y
    refine call_enumerate_tuple (show s1.heap.IsTuple a its.toArray from p') fun h' he hit hsz hk => wpAny_pyIter_enum he ?_
    have I2 : Inv X pins σ H1 { s1 with heap := h' } := I1.kept (t' := s1.toks) hk
    refine ⟨s1.heap.objs.size + 1, [s1.heap.objs.size + 1, s1.heap.objs.size], _, _, H1, rfl, I2, turn_enumT a (s1.heap.objs.size + 1) s1.heap.objs.size, ⟨⟨.none, he⟩, hit, Nat.succ_ne_self _, Nat.ne_of_gt (Nat.lt_succ_of_lt la), Nat.ne_of_gt la⟩, fun b hb => ?_, q⟩
    have e' : b = s1.heap.objs.size + 1 ∨ b = s1.heap.objs.size := by simpa using hb
    have hle : s1.heap.objs.size ≤ b := by
      rcases e' with z | z
      · rw [z]; exact Nat.le_add_right _ _
      · rw [z]; exact Nat.le_refl _
    exact I1.fpOk hle (I1.hok.fresh hle)
theorem walk_enumT {K : PySem.W.Frag} {a : Addr} {xs : List V} : Walk (IteT K a) xs.length (fun H => SqT K H a xs) (YPair (fun i => some (.int (i : Nat))) (fun i => xs[i]?)) := by
  refine ⟨fun i _ hi q => ⟨xs, xs[i], q, by simp [hi]⟩, fun _ q => ⟨xs, q, rfl⟩, fun i H v H' _ q y => ?_⟩
  obtain ⟨T, x, h1, h2, h3, h4⟩ := y
  exact ⟨T, .int (i : Nat), x, h1, h2, h3, rfl, h4 xs q⟩
/-! ### f(e, ..), f an instance: a reading that speaks of no context -/
def tCallI (C : Addr) (sp : Sp) (E : XK) (tf : TE) (t : TA) : TE := fun σ H Q => tf σ H fun y H1 => ∃ a, y = V.ref a ∧ t σ H1 fun vs H2 => (∃ dx fs, H2 a = some (.ins C dx fs)) ∧ sp (V.ref a :: vs) H2 Q E
theorem pe_callI {X : Cx} {CX : CXT} {k : Nat} {C g : Addr} {sp : Sp} {E : XK} {fe e : Expr} {es : List Expr} {tf : TE} {t : TA} {pos : Pos} (hf : PE X fe tf) (c : StX.CallO X.K C g) (F : FnR X.prog X.w X.K X.mg X.base CX k g sp) (hr : Room k X.A) (hx : Passes CX X E) (ha : PA X (e :: es) t)
    (ht : eval (.Call fe (e :: es) [] pos) X.env = (do callWith pos (← eval fe X.env) [] (backTo pos (starEach (e :: es) X.env)) (backToKw pos (keywordEach [] X.env))) := by rfl)
    (he : starEach (e :: es) X.env = (false, eval e X.env) :: starEach es X.env := by rfl) (hpl : (backTo pos (starEach es X.env)).any (·.1) = false := by rfl) : PE X (.Call fe (e :: es) [] pos) (tCallI C sp E tf t) := by
  refine ⟨fun pins s σ H Q I h => ?_⟩
  refine Call_ (thn (hf.run pins s σ H _ I h) fun u s1 ⟨y, H1, I1, ry, a, ey, q⟩ => ?_) ht
  subst ey
  obtain rfl : u = Value.ref a := ry
  refine StX.callO_with (thn (ha.run pos pins s1 σ H1 _ I1 q) fun us s2 ⟨vs, H2, I2, r, hi, q2⟩ => ?_) he hpl
  have hi' : StX.InsC X H2 a C := .inr hi
  obtain ⟨ox, od, J, hd⟩ := StX.insC_at I2 hi'
  exact ⟨⟨C, ox, od, J, hd⟩, StX.run_callO c F hr hx I2 hi' r q2⟩
end Rz
/-! More rules beside the layer's: a range that stands in a slot, walked; a tuple's index of an int. -/
namespace Rz
open PySem PySem.Spec PyProof.Rows L2
section
variable {X : Cx}
def iRngV (te : TE) : TI := fun σ H R => te σ H fun x H1 => ∃ a lo hi, x = .ref a ∧ H1 a = some (.rng lo hi) ∧ (-(2 ^ 62) ≤ lo ∧ lo < 2 ^ 62 ∧ -(2 ^ 62) ≤ hi ∧ hi < 2 ^ 62) ∧ R (Itr lo (hi - lo).toNat) H1
theorem pi_rngV {tg e : Expr} {te : TE} (he : PE X e te) : PI X tg e (iRngV te) := by
  refine ⟨fun pins s σ H R I h => ?_⟩
  refine thn (he.run pins s σ H _ I h) fun v s1 ⟨x, H1, I1, r1, q1⟩ => ?_
  obtain ⟨a, lo, hi, ex, ha, ⟨h1, h2, h3, h4⟩, q⟩ := q1
  subst ex
  cases r1
  obtain ⟨t, u, v, ho⟩ := (show ObjOk X.prog X.w H1 s1.heap a (.rng lo hi) from I1.hok a _ ha)
  refine wpAny_pyIter_range (show IsRange s1.heap a lo hi 1 t u v from ho) (small_one h1 h2 h3 h4) ?_
  refine ⟨s1.heap.objs.size, [s1.heap.objs.size], _, _, H1, rfl, I1.kept (t' := s1.toks) fun b o e => Heap.get?_push_of_some _ e, turn_range _ lo (hi - lo).toNat, ?_, fun b hb => ?_, q⟩
  · have e1 : lo + ((0 : Nat) : Int) * 1 = lo := by simp
    have e2 : (((hi - lo).toNat : Nat) : Int) - ((0 : Nat) : Int) = Builtin.Range.rangeSize lo hi 1 := by rw [rangeSize_one]; split <;> omega
    show IsRangeIter _ _ (lo + ((0 : Nat) : Int) * 1) ((((hi - lo).toNat : Nat) : Int) - ((0 : Nat) : Int)) 1
    rw [e1, e2]
    exact Heap.get?_push_size _ rfl
  · have e : b = s1.heap.objs.size := by simpa using hb
    subst e
    exact I1.fpOk (Nat.le_refl _) (I1.hok.fresh (Nat.le_refl _))
/-- t.index(i), the first place -/
theorem mt_tup_indexI : MtR X "tuple.index" (fun x xs H Q => ∃ p, ∃ ys : List Int, ∃ z j, x = .ref p ∧ xs = [.int z] ∧ SqT X.K H p (ys.map V.int) ∧ ys[j]? = some z ∧ (∀ m y, m < j → ys[m]? = some y → y ≠ z) ∧ Q (.int (j : Nat)) H) := by
  intro pins s σ H x xs v us Q I rx rs h
  obtain ⟨p, ys, z, j, rfl, rfl, hq, hy, hno, q⟩ := h
  cases rx
  obtain ⟨u, rfl, t, rfl⟩ := vals1 rs
  obtain ⟨its, r, pl, hz⟩ := I.tuple hq
  obtain ⟨⟨cls, dd, dt, sl⟩, ho, hc, n, hd⟩ := pl
  simp only at hc hd
  subst hc
  subst hd
  have fl : (ys.map V.int).all flatV = true := by
    rw [List.all_eq_true]
    intro x hx
    obtain ⟨i, _, rfl⟩ := List.mem_map.mp hx
    rfl
  have hl : its.toArray.size = ys.length := by rw [List.size_toArray, ← r.length, List.length_map]
  have hj : j < its.toArray.size := by rw [hl]; exact (List.getElem?_eq_some_iff.mp hy).1
  have at' : ∀ (m : Nat) (hm : m < its.toArray.size), ∃ y t', ys[m]? = some y ∧ its.toArray[m] = Value.int y t' := fun m hm => by
    have hm' : m < ys.length := by rw [← hl]; exact hm
    obtain ⟨w, hw, t', hw'⟩ := r.get (i := m) (x := .int ys[m]) (by simp [hm'])
    refine ⟨ys[m], t', List.getElem?_eq_getElem hm', ?_⟩
    have e := (List.getElem?_eq_some_iff.mp hw).2
    rw [← hw', ← e]
    simp
  refine call_meets PySem.F.slot_tuple_index ⟨_, ho, rfl⟩ PySem.F.entry_tuple_index (PySem.F.args_tuple_index_2 _ _) (TI.tuple_indexAt p its.toArray n dd sl (.int z t) (eqU (.int z)) j hj ?_ ?_)
    ⟨ho, fun w hw => mem_eqAt (x := .int z) ⟨t, rfl⟩ rfl r fl w (by simpa using hw), ⟨.int (j : Nat), H, I.tok _, ⟨_, rfl⟩, q⟩⟩
  · obtain ⟨y, t', h1, h2⟩ := at' j hj
    rw [hy] at h1
    cases h1
    rw [h2]
    show (z == z) = true
    exact beq_self_eq_true z
  · intro m hm hmj
    obtain ⟨y, t', h1, h2⟩ := at' m hm
    rw [h2]
    show (y == z) = false
    exact beq_eq_false_iff_ne.mpr (hno m y hmj h1)
/-- tuple(l): a new one whose object is known -/
def rTupF (K : PySem.W.Frag) : List V → Hp → VK → Prop := fun xs H Q => ∃ p ys, xs = [.ref p] ∧ SqL K H p ys ∧ ∀ (l : Addr) (o : Obj), H l = none → o.dict = none → Q (.ref l) (upd H l (.frz o (.tup ys)))
theorem call_tuple_frz : CallR X (.type "tuple") (rTupF X.K) := by
  intro pins s σ H xs us Q I r h
  obtain ⟨p, ys, rfl, hq, q⟩ := h
  obtain ⟨u, rfl, rx⟩ := vals1 r
  cases rx
  obtain ⟨its, r', pl, hz⟩ := I.list hq
  have hlen := r'.length
  refine call_tuple_list pl.isList (fun h' kp => ?_) (by simp only [List.size_toArray] <;> omega)
  have I1 : Inv X pins σ H { s with heap := h' } := I.kept (t' := s.toks) kp
  have ho : (h'.push { cls := .type "tuple", data := .seq its.toArray }).get? h'.objs.size = some { cls := .type "tuple", data := .seq its.toArray } := Heap.get?_push_size _ rfl
  have I2 : Inv X pins σ (upd H h'.objs.size (.frz { cls := .type "tuple", data := .seq its.toArray } (.tup ys))) { s with heap := h'.push { cls := .type "tuple", data := .seq its.toArray } } :=
    I1.laid (t' := s.toks) (fun b o e => Heap.get?_push_of_some _ e) (Nat.le_refl _) (show ObjOk X.prog X.w _ _ _ (.frz _ (.tup ys)) from ⟨ho, hz, its, r', IsTup.new _ _⟩)
  exact ⟨.ref h'.objs.size, _, I2, rfl, q _ _ (I1.hok.fresh (Nat.le_refl _)) rfl⟩
/-- t.m(e, ..), t a tuple whose object is known -/
def tBMF (r : V → List V → Hp → VK → Prop) (to : TE) (t : TA) : TE := fun σ H Q => to σ H fun x H1 => ∃ (a : Addr) (xs : List V), x = .ref a ∧ (∃ o : Obj, o.dict = none ∧ H1 a = some (.frz o (.tup xs))) ∧ t σ H1 fun vs H2 => r x vs H2 Q
theorem pe_bmF {o e : Expr} {es : List Expr} {to : TE} {t : TA} {name : Str} {apos cpos : Pos} {id : String} {r : V → List V → Hp → VK → Prop} (pa : PlainAttrs "tuple") (slot : Slot "tuple" name id) (hty : typeOf (.builtin id) = pure (.type "method_descriptor")) (hm : MtR X id r) (ho : PE X o to) (ha : PA X (e :: es) t)
    (hbase : attributeBase o name X.env (eval o X.env) = eval o X.env := by rfl)
    (hfew : ((backTo cpos (starEach (e :: es) X.env)).all (fun x => !x.1) && (backToKw cpos (keywordEach [] X.env)).all (fun x => x.1.isSome)
      && decide ((e :: es).length + ([] : List Keyword).length + (if ([] : List Keyword).isEmpty then 0 else 1) < 30)) = true := by rfl)
    (hline : (apos.endLine == cpos.line) = true := by rfl) (hs : starEach (e :: es) X.env = (false, eval e X.env) :: starEach es X.env := by rfl) (hplain : (backTo cpos (starEach es X.env)).any (·.1) = false := by rfl) :
    PE X (.Call (.Attribute o name apos) (e :: es) [] cpos) (tBMF r to t) := by
  refine ⟨fun pins s σ H Q I h => ?_⟩
  refine wpAny_Call_method_late hbase hfew hline rfl (thn (ho.run pins s σ H _ I h) fun v s1 ⟨x, H1, I1, r1, a, xs, ex, ⟨ob, hd, hf⟩, q1⟩ => ?_)
  subst ex
  obtain rfl : v = Value.ref a := r1
  obtain ⟨hob, hz, its, rv, pt⟩ := (show ObjOk X.prog X.w H1 s1.heap a (.frz ob (.tup xs)) from I1.hok a _ hf)
  have pt2 := pt
  obtain ⟨ob2, h1, h2, _⟩ := pt2
  refine ⟨"tuple", id, pa, slot, hty, ⟨ob2, h1, h2⟩, fun b e => ?_, ?_⟩
  · cases e
    exact ⟨ob, hob, hd⟩
  have hA := ha.run cpos pins s1 σ H1 _ I1 q1
  rw [hs] at hA ⊢
  refine Calls.callWith_builtin (by show (false || (backTo cpos (starEach es X.env)).any (·.1)) = false; rw [hplain] <;> rfl) (Calls.evalArgs_plain ?_)
  exact thn hA fun us s2 ⟨vs, H2, I2, r2, q2⟩ => hm pins s2 σ H2 (.ref a) vs (.ref a) us Q I2 rfl r2 q2
end
end Rz
/-! The mathematics of a ring: the ends as the greatest sum over chains, Bellman's equation, where ends repeat. -/
namespace Rm
/-- f r + f (r - 1) + .. , k terms -/
def sumBack (f : Int → Int) (r : Int) : Nat → Int
  | 0 => 0
  | k + 1 => sumBack f r k + f (r - k)
/-- the greatest of f r .. f (r - k) -/
def maxBack (f : Int → Int) (r : Int) : Nat → Int
  | 0 => f r
  | k + 1 => max (maxBack f r k) (f (r - (k + 1 : Nat)))
theorem sum_front (f : Int → Int) : ∀ (k : Nat) (r : Int), sumBack f r (k + 1) = f r + sumBack f (r - 1) k
  | 0, r => by simp [sumBack]
  | k + 1, r => by
    show sumBack f r (k + 1) + f (r - (k + 1 : Nat)) = f r + (sumBack f (r - 1) k + f (r - 1 - k))
    rw [sum_front f k r, show r - ((k + 1 : Nat) : Int) = r - 1 - k by omega]
    omega
theorem max_front (f : Int → Int) : ∀ (k : Nat) (r : Int), maxBack f r (k + 1) = max (f r) (maxBack f (r - 1) k)
  | 0, r => by simp [maxBack]
  | k + 1, r => by
    show max (maxBack f r (k + 1)) (f (r - (k + 1 + 1 : Nat))) = max (f r) (max (maxBack f (r - 1) k) (f (r - 1 - (k + 1 : Nat))))
    rw [max_front f k r, show r - ((k + 1 + 1 : Nat) : Int) = r - 1 - (k + 1 : Nat) by omega]
    omega
theorem sum_add (f : Int → Int) (r : Int) (k : Nat) : ∀ n : Nat, sumBack f r (k + n) = sumBack f r k + sumBack f (r - k) n
  | 0 => by simp [sumBack]
  | n + 1 => by
    show sumBack f r (k + n) + f (r - (k + n : Nat)) = sumBack f r k + (sumBack f (r - k) n + f (r - k - n))
    rw [sum_add f r k n, show r - ((k + n : Nat) : Int) = r - k - n by omega]
    omega
theorem sum_mono {f : Int → Int} (h : ∀ i, 0 ≤ f i) (r : Int) {j k : Nat} (hjk : j ≤ k) : sumBack f r j ≤ sumBack f r k := by
  induction k with
  | zero =>
    have : j = 0 := by omega
    subst this
    exact Int.le_refl _
  | succ k ih =>
    by_cases e : j = k + 1
    · subst e
      exact Int.le_refl _
    · have := ih (by omega)
      have h2 := h (r - k)
      show sumBack f r j ≤ sumBack f r k + f (r - k)
      omega
theorem sum_nn {f : Int → Int} (h : ∀ i, 0 ≤ f i) (r : Int) (k : Nat) : 0 ≤ sumBack f r k := sum_mono h r (Nat.zero_le k)
theorem max_ge {f : Int → Int} (r : Int) : ∀ {j k : Nat}, j ≤ k → f (r - j) ≤ maxBack f r k
  | j, 0, h => by
    have : j = 0 := by omega
    subst this
    simp [maxBack]
  | j, k + 1, h => by
    show f (r - j) ≤ max (maxBack f r k) (f (r - (k + 1 : Nat)))
    by_cases e : j = k + 1
    · subst e
      omega
    · have := max_ge (f := f) r (j := j) (k := k) (by omega)
      omega
theorem max_le {f : Int → Int} {M : Int} (h : ∀ i, f i ≤ M) (r : Int) : ∀ k : Nat, maxBack f r k ≤ M
  | 0 => h r
  | k + 1 => by
    have h1 := max_le h r k
    have h2 := h (r - (k + 1 : Nat))
    show max (maxBack f r k) (f (r - (k + 1 : Nat))) ≤ M
    omega
theorem max_mono {f : Int → Int} (r : Int) {j k : Nat} (h : j ≤ k) : maxBack f r j ≤ maxBack f r k := by
  induction k with
  | zero =>
    have : j = 0 := by omega
    subst this
    exact Int.le_refl _
  | succ k ih =>
    by_cases e : j = k + 1
    · subst e
      exact Int.le_refl _
    · have := ih (by omega)
      show maxBack f r j ≤ max (maxBack f r k) (f (r - (k + 1 : Nat)))
      omega

/-- readers in a ring: days, books at first, all books, all days, the slowest -/
structure Ring (N : Nat) (d s : Int → Int) (B T M : Int) : Prop where
  pos : 0 < N
  dper : ∀ i t : Int, d (i + N * t) = d i
  sper : ∀ i t : Int, s (i + N * t) = s i
  d1 : ∀ i, 1 ≤ d i
  s0 : ∀ i, 0 ≤ s i
  b : ∀ r, sumBack s r N = B
  b1 : 1 ≤ B
  t : ∀ r, sumBack d r N = T
  mu : ∀ i, d i ≤ M
  ma : ∃ i, d i = M

/-- the sum of the chain from reading x of reader r that goes k readers back -/
def ch (d s : Int → Int) (r : Int) (k : Nat) (x : Int) : Int := sumBack d r (k + 1) + (x - sumBack s r k) * maxBack d r k
/-- e is the greatest of them -/
def IsEnd (d s : Int → Int) (r x e : Int) : Prop := (∀ k, sumBack s r k ≤ x → ch d s r k x ≤ e) ∧ ∃ k, sumBack s r k ≤ x ∧ ch d s r k x = e
theorem IsEnd.inj {d s : Int → Int} {r x e e' : Int} (h : IsEnd d s r x e) (h' : IsEnd d s r x e') : e = e' := by
  obtain ⟨k, h1, h2⟩ := h.2
  obtain ⟨k', h1', h2'⟩ := h'.2
  have := h.1 k' h1'
  have := h'.1 k h1
  omega

section
variable {N : Nat} {d s : Int → Int} {B T M : Int} (R : Ring N d s B T M)
include R
theorem Ring.sumS (r : Int) (k : Nat) : ∀ m : Nat, sumBack s r (k + m * N) = sumBack s r k + m * B
  | 0 => by simp
  | m + 1 => by
    rw [show k + (m + 1) * N = k + m * N + N by rw [Nat.add_mul, Nat.one_mul, Nat.add_assoc], sum_add, Ring.sumS r k m, R.b, show ((m + 1 : Nat) : Int) = (m : Int) + 1 by omega, Int.add_mul]
    omega
theorem Ring.sumD (r : Int) (k : Nat) : ∀ m : Nat, sumBack d r (k + m * N) = sumBack d r k + m * T
  | 0 => by simp
  | m + 1 => by
    rw [show k + (m + 1) * N = k + m * N + N by rw [Nat.add_mul, Nat.one_mul, Nat.add_assoc], sum_add, Ring.sumD r k m, R.t, show ((m + 1 : Nat) : Int) = (m : Int) + 1 by omega, Int.add_mul]
    omega
theorem Ring.maxM (r : Int) {k : Nat} (h : N ≤ k + 1) : maxBack d r k = M := by
  obtain ⟨i, hi⟩ := R.ma
  have hN := R.pos
  have h0 : 0 ≤ (r - i) % (N : Int) := Int.emod_nonneg _ (by omega)
  have h1 : (r - i) % (N : Int) < N := Int.emod_lt_of_pos _ (by omega)
  have e : r - (((r - i) % (N : Int)).toNat : Nat) = i + N * ((r - i) / (N : Int)) := by
    have := Int.emod_add_mul_ediv (r - i) (N : Int)
    omega
  have h2 := max_ge (f := d) r (j := ((r - i) % (N : Int)).toNat) (k := k) (by omega)
  rw [e, R.dper, hi] at h2
  have h3 := max_le R.mu r k
  omega
theorem Ring.M1 : 1 ≤ M := by
  obtain ⟨i, hi⟩ := R.ma
  have := R.d1 i
  omega
theorem Ring.round (r x : Int) (k : Nat) {m : Nat} (hm : 1 ≤ m) : ch d s r (k + m * N) x = sumBack d r (k + 1) + (x - sumBack s r k) * M + m * (T - B * M) := by
  unfold ch
  have e1 : sumBack d r (k + m * N + 1) = sumBack d r (k + 1) + m * T := by
    rw [show k + m * N + 1 = k + 1 + m * N by omega, R.sumD]
  have e2 : N ≤ k + m * N + 1 := by
    have : 1 * N ≤ m * N := Nat.mul_le_mul_right N hm
    omega
  rw [e1, R.sumS, R.maxM r e2]
  have e3 : (x - (sumBack s r k + m * B)) * M = (x - sumBack s r k) * M - m * (B * M) := by
    rw [show x - (sumBack s r k + m * B) = (x - sumBack s r k) - m * B by omega, Int.sub_mul, Int.mul_assoc]
  rw [e3, Int.mul_sub]
  omega
end

/-- what the loop over the first i readers back has found -/
def Sofar (N : Nat) (d s : Int → Int) (r x : Int) (i : Nat) (L : Int) : Prop :=
  (∀ j m : Nat, j < i → sumBack s r (j + m * N) ≤ x → ch d s r (j + m * N) x ≤ L) ∧ ((i = 0 ∧ L = 0) ∨ ∃ k, sumBack s r k ≤ x ∧ ch d s r k x = L)
section
variable {N : Nat} {d s : Int → Int} {B T M : Int} (R : Ring N d s B T M)
include R
theorem Ring.ch_pos (r x : Int) (k : Nat) (h : sumBack s r k ≤ x) : 1 ≤ ch d s r k x := by
  unfold ch
  have h1 : d (r - k) ≤ sumBack d r (k + 1) := by
    have := sum_nn (f := d) (fun i => by have := R.d1 i; omega) r k
    show d (r - k) ≤ sumBack d r k + d (r - k)
    omega
  have h2 := R.d1 (r - k)
  have h3 : 0 ≤ maxBack d r k := by
    have := max_ge (f := d) r (j := 0) (k := k) (Nat.zero_le _)
    have := R.d1 (r - (0 : Nat))
    omega
  have h4 := Int.mul_nonneg (show 0 ≤ x - sumBack s r k by omega) h3
  omega
theorem Ring.step {r x L : Int} {i : Nat} (P : Sofar N d s r x i L) (hl : sumBack s r i ≤ x) {L2 : Int}
    (h2 : L2 = if B ≤ x - sumBack s r i then max (max L (ch d s r i x)) (sumBack d r (i + 1) + (x - sumBack s r i) * M + (if 0 < T - B * M then (x - sumBack s r i) / B else 1) * (T - B * M)) else max L (ch d s r i x)) :
    Sofar N d s r x (i + 1) L2 := by
  have P1 := P.1
  have hB := R.b1
  have hge : max L (ch d s r i x) ≤ L2 := by
    rw [h2]
    split <;> omega
  have key : ∀ m : Nat, 1 ≤ m → sumBack s r (i + m * N) ≤ x → ch d s r (i + m * N) x ≤ L2 := by
    intro m hm hv
    rw [R.round r x i hm]
    rw [R.sumS] at hv
    have hmB : (1 : Int) * B ≤ m * B := Int.mul_le_mul_of_nonneg_right (by omega) (by omega)
    have hBl : B ≤ x - sumBack s r i := by omega
    rw [if_pos hBl] at h2
    have hc : (m : Int) * (T - B * M) ≤ (if 0 < T - B * M then (x - sumBack s r i) / B else 1) * (T - B * M) := by
      split
      · rename_i hg
        refine Int.mul_le_mul_of_nonneg_right ?_ (by omega)
        exact (Int.le_ediv_iff_mul_le (by omega)).mpr (by omega)
      · rename_i hg
        have h5 : (0 : Int) ≤ ((m : Int) - 1) * (-(T - B * M)) := Int.mul_nonneg (by omega) (by omega)
        rw [Int.sub_mul, Int.mul_neg] at h5
        omega
    omega
  refine ⟨fun j m hj hv => ?_, ?_⟩
  · by_cases e : j = i
    · subst e
      cases m with
      | zero =>
        have e0 : j + 0 * N = j := by omega
        rw [e0]
        omega
      | succ m => exact key (m + 1) (by omega) hv
    · have := P1 j m (by omega) hv
      omega
  · right
    have hcp := R.ch_pos r x i hl
    have hL : ∃ k, sumBack s r k ≤ x ∧ ch d s r k x = max L (ch d s r i x) := by
      rcases P.2 with ⟨h0, hL0⟩ | ⟨k, hk, hk2⟩
      · exact ⟨i, hl, by omega⟩
      · by_cases hh : ch d s r i x ≤ L
        · exact ⟨k, hk, by omega⟩
        · exact ⟨i, hl, by omega⟩
    by_cases hBl : B ≤ x - sumBack s r i
    · rw [if_pos hBl] at h2
      -- the candidate of whole rounds is a chain too
      have hcand : ∃ k, sumBack s r k ≤ x ∧ ch d s r k x = sumBack d r (i + 1) + (x - sumBack s r i) * M + (if 0 < T - B * M then (x - sumBack s r i) / B else 1) * (T - B * M) := by
        by_cases hg : 0 < T - B * M
        · rw [if_pos hg]
          have hq1 : 1 ≤ (x - sumBack s r i) / B := (Int.le_ediv_iff_mul_le (by omega)).mpr (by omega)
          have hq2 : (x - sumBack s r i) / B * B ≤ x - sumBack s r i := Int.ediv_mul_le _ (by omega)
          have hqn : ((((x - sumBack s r i) / B).toNat : Nat) : Int) = (x - sumBack s r i) / B := by omega
          refine ⟨i + ((x - sumBack s r i) / B).toNat * N, ?_, ?_⟩
          · rw [R.sumS, hqn]
            omega
          · rw [R.round r x i (by omega), hqn]
        · rw [if_neg hg]
          refine ⟨i + 1 * N, ?_, ?_⟩
          · rw [R.sumS]
            omega
          · rw [R.round r x i (by omega)]
            simp
      obtain ⟨k1, a1, a2⟩ := hL
      obtain ⟨k2, c1, c2⟩ := hcand
      by_cases hh : max L (ch d s r i x) ≤ sumBack d r (i + 1) + (x - sumBack s r i) * M + (if 0 < T - B * M then (x - sumBack s r i) / B else 1) * (T - B * M)
      · exact ⟨k2, c1, by rw [c2, h2]; omega⟩
      · exact ⟨k1, a1, by rw [a2, h2]; omega⟩
    · rw [if_neg hBl] at h2
      rw [h2]
      exact hL
theorem Ring.fin {r x L : Int} {i : Nat} (P : Sofar N d s r x i L) (hi : i = N ∨ (0 < i ∧ x < sumBack s r i)) : IsEnd d s r x L := by
  have P1 := P.1
  have hN := R.pos
  refine ⟨fun k hk => ?_, ?_⟩
  · have ek : k = k % N + k / N * N := by
      have := Nat.mod_add_div k N
      rw [Nat.mul_comm] at this
      exact this.symm
    rw [ek] at hk ⊢
    refine P1 _ _ ?_ hk
    rcases hi with hi | ⟨_, hi⟩
    · rw [hi]
      exact Nat.mod_lt _ hN
    · rcases Nat.lt_or_ge (k % N) i with h | h
      · exact h
      · have := sum_mono R.s0 r h
        have h2 := R.sumS r (k % N) (k / N)
        have h3 : (0 : Int) ≤ ((k / N : Nat) : Int) * B := Int.mul_nonneg (Int.natCast_nonneg _) (by have := R.b1; omega)
        omega
  · rcases P.2 with ⟨h0, _⟩ | h
    · rcases hi with hi | ⟨hi, _⟩ <;> omega
    · exact h
theorem Ring.sofar0 (r x : Int) : Sofar N d s r x 0 0 := ⟨fun _ _ h => absurd h (Nat.not_lt_zero _), .inl ⟨rfl, rfl⟩⟩
theorem Ring.ends (r : Int) {x : Int} (hx : 0 ≤ x) : ∃ e, IsEnd d s r x e := by
  have go : ∀ n i L, i + n = N → sumBack s r i ≤ x → Sofar N d s r x i L → ∃ e, IsEnd d s r x e := by
    intro n
    induction n with
    | zero =>
      intro i L hi _ P
      exact ⟨L, R.fin P (.inl (by omega))⟩
    | succ n ih =>
      intro i L hi hl P
      have P' := R.step P hl rfl
      by_cases h : sumBack s r (i + 1) ≤ x
      · exact ih (i + 1) _ (by omega) h P'
      · exact ⟨_, R.fin P' (.inr ⟨by omega, by omega⟩)⟩
  exact go N 0 0 (by omega) (by show (0 : Int) ≤ x; exact hx) (R.sofar0 r x)
end
/-- the day on which reading x of reader r ends -/
noncomputable def E (d s : Int → Int) (r x : Int) : Int := open Classical in if h : ∃ e, IsEnd d s r x e then Classical.choose h else 0
section
variable {N : Nat} {d s : Int → Int} {B T M : Int} (R : Ring N d s B T M)
include R
theorem Ring.isE (r : Int) {x : Int} (hx : 0 ≤ x) : IsEnd d s r x (E d s r x) := by
  have h := R.ends r hx
  unfold E
  rw [dif_pos h]
  exact Classical.choose_spec h
theorem Ring.E_of {r x e : Int} (h : IsEnd d s r x e) : E d s r x = e := by
  have h' : ∃ e, IsEnd d s r x e := ⟨e, h⟩
  unfold E
  rw [dif_pos h']
  exact (Classical.choose_spec h').inj h
theorem Ring.E_per (r x t : Int) : E d s (r + N * t) x = E d s r x := by
  have hs : ∀ k, sumBack s (r + N * t) k = sumBack s r k := by
    intro k
    induction k with
    | zero => rfl
    | succ k ih =>
      show sumBack s (r + N * t) k + s (r + N * t - k) = sumBack s r k + s (r - k)
      rw [ih, show r + N * t - k = (r - k) + N * t by omega, R.sper]
  have hd : ∀ k, sumBack d (r + N * t) k = sumBack d r k := by
    intro k
    induction k with
    | zero => rfl
    | succ k ih =>
      show sumBack d (r + N * t) k + d (r + N * t - k) = sumBack d r k + d (r - k)
      rw [ih, show r + N * t - k = (r - k) + N * t by omega, R.dper]
  have hm : ∀ k, maxBack d (r + N * t) k = maxBack d r k := by
    intro k
    induction k with
    | zero => exact R.dper r t
    | succ k ih =>
      show max (maxBack d (r + N * t) k) (d (r + N * t - (k + 1 : Nat))) = max (maxBack d r k) (d (r - (k + 1 : Nat)))
      rw [ih, show r + N * t - ((k + 1 : Nat) : Int) = (r - (k + 1 : Nat)) + N * t by omega, R.dper]
  have he : IsEnd d s (r + N * t) x = IsEnd d s r x := by
    funext e
    unfold IsEnd ch
    simp only [hs, hd, hm]
  unfold E
  rw [he]
theorem Ring.E_mod (r x : Int) : E d s (r % N) x = E d s r x := by
  have h := R.E_per (r % N) x (r / N)
  rw [Int.emod_add_mul_ediv] at h
  exact h.symm
theorem Ring.ub (r : Int) {x : Int} (hx : 0 ≤ x) (k : Nat) (h : sumBack s r k ≤ x) : ch d s r k x ≤ E d s r x := (R.isE r hx).1 k h
theorem Ring.att (r : Int) {x : Int} (hx : 0 ≤ x) : ∃ k, sumBack s r k ≤ x ∧ ch d s r k x = E d s r x := (R.isE r hx).2
theorem Ring.low (r : Int) {x : Int} (hx : 0 ≤ x) : (x + 1) * d r ≤ E d s r x := by
  have h := R.ub r hx 0 hx
  have e : ch d s r 0 x = (x + 1) * d r := by
    unfold ch
    show 0 + d (r - (0 : Nat)) + (x - 0) * d r = _
    rw [show r - ((0 : Nat) : Int) = r by omega, Int.add_mul]
    simp
    omega
  omega
theorem Ring.E1 (r : Int) {x : Int} (hx : 0 ≤ x) : d r ≤ E d s r x := by
  have h := R.low r hx
  have h2 : (0 : Int) ≤ x * d r := Int.mul_nonneg hx (by have := R.d1 r; omega)
  rw [Int.add_mul] at h
  omega
/-- Bellman, from below -/
theorem Ring.next (r : Int) {x : Int} (hx : 0 ≤ x) : E d s r x + d r ≤ E d s r (x + 1) := by
  obtain ⟨k, hk, e⟩ := R.att r hx
  have h := R.ub r (x := x + 1) (by omega) k (by omega)
  have h2 := max_ge (f := d) r (j := 0) (k := k) (Nat.zero_le _)
  rw [show r - ((0 : Nat) : Int) = r by omega] at h2
  unfold ch at h e
  have e3 : (x + 1 - sumBack s r k) * maxBack d r k = (x - sumBack s r k) * maxBack d r k + maxBack d r k := by
    rw [show x + 1 - sumBack s r k = (x - sumBack s r k) + 1 by omega, Int.add_mul]
    omega
  omega
theorem Ring.from (r : Int) {x : Int} (hs : s r ≤ x) : E d s (r - 1) (x - s r) + d r ≤ E d s r x := by
  have hx : 0 ≤ x - s r := by omega
  have hx0 : 0 ≤ x := by have := R.s0 r; omega
  obtain ⟨k, hk, e⟩ := R.att (r - 1) hx
  have hS : sumBack s r (k + 1) = s r + sumBack s (r - 1) k := sum_front s k r
  have h := R.ub r hx0 (k + 1) (by omega)
  unfold ch at h e
  rw [sum_front d (k + 1) r, hS, max_front d k r] at h
  have e2 : x - (s r + sumBack s (r - 1) k) = x - s r - sumBack s (r - 1) k := by omega
  rw [e2] at h
  have h4 : (x - s r - sumBack s (r - 1) k) * maxBack d (r - 1) k ≤ (x - s r - sumBack s (r - 1) k) * max (d r) (maxBack d (r - 1) k) :=
    Int.mul_le_mul_of_nonneg_left (by omega) (by omega)
  omega
/-- .. from above -/
theorem Ring.bell (r : Int) {x : Int} (hx : 0 ≤ x) : E d s r x = d r ∨ (1 ≤ x ∧ E d s r x = E d s r (x - 1) + d r) ∨ (s r ≤ x ∧ E d s r x = E d s (r - 1) (x - s r) + d r) := by
  obtain ⟨k, hk, e⟩ := R.att r hx
  cases k with
  | zero =>
    have e0 : ch d s r 0 x = d r + x * d r := by
      unfold ch
      show 0 + d (r - (0 : Nat)) + (x - 0) * d r = _
      rw [show r - ((0 : Nat) : Int) = r by omega]
      simp
    by_cases h0 : x = 0
    · left
      subst h0
      simp at e0
      omega
    · right; left
      refine ⟨by omega, ?_⟩
      have h1 := R.ub r (x := x - 1) (by omega) 0 (by show (0 : Int) ≤ x - 1; omega)
      have e1 : ch d s r 0 (x - 1) = x * d r := by
        unfold ch
        show 0 + d (r - (0 : Nat)) + (x - 1 - 0) * d r = _
        rw [show r - ((0 : Nat) : Int) = r by omega, show x - 1 - 0 = x - 1 by omega, Int.sub_mul]
        omega
      have h2 := R.next r (x := x - 1) (by omega)
      rw [show x - 1 + 1 = x by omega] at h2
      omega
  | succ k =>
    have hS : sumBack s r (k + 1) = s r + sumBack s (r - 1) k := sum_front s k r
    have hnn := sum_nn R.s0 (r - 1) k
    have hsr : s r ≤ x := by omega
    have h1 := R.ub (r - 1) (x := x - s r) (by omega) k (by omega)
    have h3 := R.from r hsr
    have e' := e
    unfold ch at e' h1
    rw [sum_front d (k + 1) r, hS, max_front d k r, show x - (s r + sumBack s (r - 1) k) = x - s r - sumBack s (r - 1) k by omega] at e'
    by_cases hm : d r ≤ maxBack d (r - 1) k
    · right; right
      refine ⟨hsr, ?_⟩
      rw [show max (d r) (maxBack d (r - 1) k) = maxBack d (r - 1) k by omega] at e'
      omega
    · rw [show max (d r) (maxBack d (r - 1) k) = d r by omega] at e'
      by_cases hl : x - s r - sumBack s (r - 1) k = 0
      · right; right
        refine ⟨hsr, ?_⟩
        rw [hl] at e' h1
        simp at e' h1
        omega
      · right; left
        have hx1 : 1 ≤ x := by have := R.s0 r; omega
        refine ⟨hx1, ?_⟩
        have h5 := R.ub r (x := x - 1) (by omega) (k + 1) (by omega)
        unfold ch at h5
        rw [sum_front d (k + 1) r, hS, max_front d k r, show max (d r) (maxBack d (r - 1) k) = d r by omega,
          show x - 1 - (s r + sumBack s (r - 1) k) = (x - s r - sumBack s (r - 1) k) - 1 by omega, Int.sub_mul] at h5
        have h2 := R.next r (x := x - 1) (by omega)
        rw [show x - 1 + 1 = x by omega] at h2
        omega
end
end Rm
/-! Where ends repeat; counts by a day; heaps. -/
namespace Rm
def Rep (d s : Int → Int) (p q x : Int) : Prop := ∀ r, E d s r (x + p) = E d s r x + q
section
variable {N : Nat} {d s : Int → Int} {B T M : Int} (R : Ring N d s B T M)
include R
theorem Ring.T0 : 0 ≤ T := by
  have h := sum_nn (f := d) (fun i => by have := R.d1 i; omega) 0 N
  rw [R.t] at h
  exact h
theorem Ring.BM0 : 0 ≤ B * M := Int.mul_nonneg (by have := R.b1; omega) (by have := R.M1; omega)
theorem Ring.S_le (r : Int) {k m : Nat} (h : k ≤ m * N) : sumBack s r k ≤ m * B := by
  have h1 := sum_mono R.s0 r h
  have h2 := R.sumS r 0 m
  rw [Nat.zero_add] at h2
  rw [h2] at h1
  show sumBack s r k ≤ m * B
  have : sumBack s r 0 = 0 := rfl
  omega
/-- one more unit of x -/
theorem ch_succ (d s : Int → Int) (r : Int) (k : Nat) (x y : Int) : ch d s r k (x + y) = ch d s r k x + y * maxBack d r k := by
  unfold ch
  rw [show x + y - sumBack s r k = (x - sumBack s r k) + y by omega, Int.add_mul]
  omega
theorem Ring.rep_slow (hg : T ≤ B * M) {x : Int} (hx : 4 * B + B * M ≤ x) : Rep d s 1 M x := by
  intro r
  have hB := R.b1
  have hT := R.T0
  have hBM := R.BM0
  have hM := R.M1
  have hx0 : 0 ≤ x := by omega
  apply Int.le_antisymm
  · obtain ⟨k, hk, e⟩ := R.att r (x := x + 1) (by omega)
    by_cases hv : sumBack s r k ≤ x
    · have h1 := R.ub r hx0 k hv
      rw [ch_succ R d s r k x 1] at e
      have h2 := max_le R.mu r k
      omega
    · have hkN : 2 * N ≤ k := by
        rcases Nat.lt_or_ge k (2 * N) with h | h
        · have := R.S_le r (k := k) (m := 2) (by omega)
          omega
        · exact h
      obtain ⟨k', rfl⟩ : ∃ k', k = k' + 1 * N := ⟨k - 1 * N, by omega⟩
      rw [R.round r (x + 1) k' (by omega)] at e
      rw [R.sumS] at hk hv
      have h1 := R.ub r hx0 k' (by omega)
      unfold ch at h1
      rw [R.maxM r (k := k') (by omega)] at h1
      rw [show x + 1 - sumBack s r k' = (x - sumBack s r k') + 1 by omega, Int.add_mul] at e
      omega
  · obtain ⟨k, hk, e⟩ := R.att r hx0
    by_cases hm : maxBack d r k = M
    · have h1 := R.ub r (x := x + 1) (by omega) k (by omega)
      rw [ch_succ R d s r k x 1, hm] at h1
      omega
    · have hkN : k + 1 < N := by
        rcases Nat.lt_or_ge (k + 1) N with h | h
        · exact h
        · exact absurd (R.maxM r h) hm
      have hS := R.S_le r (k := k) (m := 1) (by omega)
      have h1 := R.ub r (x := x + 1) (by omega) (k + 1 * N) (by rw [R.sumS]; omega)
      rw [R.round r (x + 1) k (by omega)] at h1
      have h2 := max_le R.mu r k
      unfold ch at e
      have h3 : (x - sumBack s r k) * (maxBack d r k + 1) ≤ (x - sumBack s r k) * M := Int.mul_le_mul_of_nonneg_left (by omega) (by omega)
      rw [Int.mul_add] at h3
      rw [show x + 1 - sumBack s r k = (x - sumBack s r k) + 1 by omega, Int.add_mul] at h1
      omega
theorem Ring.rep_fast (hg : B * M < T) {x : Int} (hx : 4 * B + B * M ≤ x) : Rep d s B T x := by
  intro r
  have hB := R.b1
  have hBM := R.BM0
  have hx0 : 0 ≤ x := by omega
  apply Int.le_antisymm
  · obtain ⟨k, hk, e⟩ := R.att r (x := x + B) (by omega)
    by_cases hkN : 2 * N ≤ k + 1
    · obtain ⟨k', rfl⟩ : ∃ k', k = k' + 1 * N := ⟨k - 1 * N, by have := R.pos; omega⟩
      rw [R.round r (x + B) k' (by omega)] at e
      rw [R.sumS] at hk
      have h1 := R.ub r hx0 k' (by omega)
      unfold ch at h1
      rw [R.maxM r (k := k') (by omega)] at h1
      rw [show x + B - sumBack s r k' = (x - sumBack s r k') + B by omega, Int.add_mul] at e
      omega
    · have hS := R.S_le r (k := k) (m := 2) (by omega)
      have h1 := R.ub r hx0 (k + 1 * N) (by rw [R.sumS]; omega)
      rw [R.round r x k (by omega)] at h1
      unfold ch at e
      have h2 := max_le R.mu r k
      have h3 : (x + B - sumBack s r k) * maxBack d r k ≤ (x + B - sumBack s r k) * M := Int.mul_le_mul_of_nonneg_left h2 (by omega)
      rw [show x + B - sumBack s r k = (x - sumBack s r k) + B by omega, Int.add_mul, Int.add_mul] at h3
      rw [show x + B - sumBack s r k = (x - sumBack s r k) + B by omega, Int.add_mul] at e
      omega
  · obtain ⟨k, hk, e⟩ := R.att r hx0
    have h1 := R.ub r (x := x + B) (by omega) (k + 1 * N) (by rw [R.sumS]; omega)
    rw [R.round r (x + B) k (by omega)] at h1
    have h2 := max_le R.mu r k
    unfold ch at e
    have h3 : (x - sumBack s r k) * maxBack d r k ≤ (x - sumBack s r k) * M := Int.mul_le_mul_of_nonneg_left h2 (by omega)
    rw [show x + B - sumBack s r k = (x - sumBack s r k) + B by omega, Int.add_mul] at h1
    omega
theorem Ring.claim {p q m r : Int} (hp : 1 ≤ p) (hm : 1 ≤ m) (hsm : s r ≤ m) (h1 : E d s r (m - 1 + p) = E d s r (m - 1) + q) (h2 : E d s (r - 1) (m - s r + p) = E d s (r - 1) (m - s r) + q) : E d s r (m + p) = E d s r m + q := by
  have n1 := R.next r (x := m - 1) (by omega)
  have n2 := R.next r (x := m - 1 + p) (by omega)
  have f1 := R.from r (x := m) hsm
  have f2 := R.from r (x := m + p) (by omega)
  have b1 := R.bell r (x := m) (by omega)
  have b2 := R.bell r (x := m + p) (by omega)
  have e1 := R.E1 r (x := m - 1) (by omega)
  have e2 := R.E1 r (x := m - 1 + p) (by omega)
  have d1 := R.d1 r
  rw [show m - 1 + 1 = m by omega] at n1
  rw [show m - 1 + p + 1 = m + p by omega] at n2
  rw [show m + p - s r = m - s r + p by omega] at f2 b2
  rw [show m + p - 1 = m - 1 + p by omega] at b2
  rcases b1 with b1 | ⟨_, b1⟩ | ⟨_, b1⟩ <;> rcases b2 with b2 | ⟨_, b2⟩ | ⟨_, b2⟩ <;> omega
/-- as many in a row as the greatest number of books at first: then all later ones -/
theorem Ring.later {w p q n : Int} (hw : ∀ i, s i ≤ w) (hw1 : ∃ i, s i = w) (w1 : 1 ≤ w) (hp : 1 ≤ p) (hn : 0 ≤ n) (h : ∀ j, 0 ≤ j → j < w → Rep d s p q (n + j)) : ∀ m, n ≤ m → Rep d s p q m := by
  have go : ∀ k : Nat, ∀ m, n ≤ m → m - n < k → Rep d s p q m := by
    intro k
    induction k with
    | zero => intro m h1 h2; omega
    | succ k ih =>
      intro m h1 h2
      by_cases hmw : m < n + w
      · have := h (m - n) (by omega) (by omega)
        rw [show n + (m - n) = m by omega] at this
        exact this
      · obtain ⟨r0, hr0⟩ := hw1
        -- around the ring from r0
        have around : ∀ j : Nat, E d s (r0 + j) (m + p) = E d s (r0 + j) m + q := by
          intro j
          induction j with
          | zero =>
            have hs := hw r0
            refine R.claim hp (by omega) (by rw [show r0 + ((0 : Nat) : Int) = r0 by omega]; omega) (ih (m - 1) (by omega) (by omega) _) ?_
            rw [show r0 + ((0 : Nat) : Int) = r0 by omega]
            exact ih (m - s r0) (by omega) (by omega) _
          | succ j ihj =>
            have hs := hw (r0 + (j + 1 : Nat))
            have hs0 := R.s0 (r0 + (j + 1 : Nat))
            refine R.claim hp (by omega) (by omega) (ih (m - 1) (by omega) (by omega) _) ?_
            rw [show r0 + ((j + 1 : Nat) : Int) - 1 = r0 + j by omega]
            by_cases hz : s (r0 + (j + 1 : Nat)) = 0
            · rw [hz, show m - 0 = m by omega]
              exact ihj
            · exact ih (m - s (r0 + (j + 1 : Nat))) (by omega) (by omega) _
        intro r
        have hN := R.pos
        have a0 : 0 ≤ (r - r0) % (N : Int) := Int.emod_nonneg _ (by omega)
        have h3 := around ((r - r0) % (N : Int)).toNat
        have e3 : r0 + ((((r - r0) % (N : Int)).toNat : Nat) : Int) = r + N * (-((r - r0) / (N : Int))) := by
          have := Int.emod_add_mul_ediv (r - r0) (N : Int)
          rw [Int.mul_neg]
          omega
        rw [e3, R.E_per, R.E_per] at h3
        exact h3
  intro m hm
  exact go ((m - n).toNat + 1) m hm (by omega)
theorem Ring.rounds {p q n : Int} (hp : 1 ≤ p) (h : ∀ m, n ≤ m → Rep d s p q m) (r : Int) {x : Int} (hx : n ≤ x) : ∀ k : Nat, E d s r (x + k * p) = E d s r x + k * q
  | 0 => by simp
  | k + 1 => by
    have ih := Ring.rounds hp h r hx k
    have h0 : (0 : Int) ≤ (k : Int) * p := Int.mul_nonneg (Int.natCast_nonneg _) (by omega)
    have h1 := h (x + k * p) (by omega) r
    rw [show ((k + 1 : Nat) : Int) = (k : Int) + 1 by omega, Int.add_mul, Int.add_mul, Int.one_mul, Int.one_mul, ← Int.add_assoc, h1, ih]
    omega
theorem Ring.mono (r : Int) {x : Int} (hx : 0 ≤ x) : ∀ k : Nat, E d s r x + (k + 1) * d r ≤ E d s r (x + (k + 1))
  | 0 => by
    have := R.next r hx
    simpa using this
  | k + 1 => by
    have ih := Ring.mono r hx k
    have h1 := R.next r (x := x + (k + 1)) (by omega)
    rw [show ((k + 1 : Nat) : Int) = (k : Int) + 1 by omega, show x + ((k : Int) + 1 + 1) = x + ((k : Int) + 1) + 1 by omega, Int.add_mul ((k : Int) + 1) 1]
    omega
theorem Ring.lt (r : Int) {x y : Int} (hx : 0 ≤ x) (h : x < y) : E d s r x + d r ≤ E d s r y := by
  have h1 := R.mono r hx (y - x - 1).toNat
  rw [show ((((y - x - 1).toNat : Nat) : Int) + 1) = y - x by omega, show x + (y - x) = y by omega] at h1
  have h2 : (1 : Int) * d r ≤ (y - x) * d r := Int.mul_le_mul_of_nonneg_right (by omega) (by have := R.d1 r; omega)
  omega
theorem Ring.le (r : Int) {x y : Int} (hx : 0 ≤ x) (h : x ≤ y) : E d s r x ≤ E d s r y := by
  by_cases e : x = y
  · subst e
    exact Int.le_refl _
  · have := R.lt r hx (show x < y by omega)
    have := R.d1 r
    omega
end

/-- c readings of reader r have ended by day D -/
def Cnt (d s : Int → Int) (r D c : Int) : Prop := 0 ≤ c ∧ (c = 0 ∨ E d s r (c - 1) ≤ D) ∧ D < E d s r c
noncomputable def Cn (d s : Int → Int) (r D : Int) : Int := open Classical in if h : ∃ c, Cnt d s r D c then Classical.choose h else 0
section
variable {N : Nat} {d s : Int → Int} {B T M : Int} (R : Ring N d s B T M)
include R
theorem Ring.cnt_inj {r D c c' : Int} (h : Cnt d s r D c) (h' : Cnt d s r D c') : c = c' := by
  obtain ⟨a0, a1, a2⟩ := h
  obtain ⟨b0, b1, b2⟩ := h'
  rcases Int.lt_trichotomy c c' with z | z | z
  · have := R.le r (x := c) (y := c' - 1) a0 (by omega)
    omega
  · exact z
  · have := R.le r (x := c') (y := c - 1) b0 (by omega)
    omega
theorem Ring.cnt_ex (r D : Int) : ∃ c, Cnt d s r D c := by
  have go : ∀ n : Nat, D < E d s r n → ∃ c, Cnt d s r D c := by
    intro n
    induction n with
    | zero => intro h; exact ⟨0, by omega, .inl rfl, h⟩
    | succ n ih =>
      intro h
      by_cases hh : E d s r n ≤ D
      · exact ⟨((n + 1 : Nat) : Int), by omega, .inr (by rw [show ((n + 1 : Nat) : Int) - 1 = n by omega]; exact hh), h⟩
      · exact ih (by omega)
  refine go D.toNat ?_
  have h := R.low r (x := (D.toNat : Nat)) (by omega)
  have h2 : (((D.toNat : Nat) : Int) + 1) * 1 ≤ (((D.toNat : Nat) : Int) + 1) * d r := Int.mul_le_mul_of_nonneg_left (R.d1 r) (by omega)
  omega
theorem Ring.cn (r D : Int) : Cnt d s r D (Cn d s r D) := by
  have h := R.cnt_ex r D
  unfold Cn
  rw [dif_pos h]
  exact Classical.choose_spec h
theorem Ring.cn_of {r D c : Int} (h : Cnt d s r D c) : Cn d s r D = c := R.cnt_inj (R.cn r D) h
theorem Ring.cn_per (r D t : Int) : Cn d s (r + N * t) D = Cn d s r D := by
  refine R.cn_of ?_
  have h := R.cn r D
  unfold Cnt at h ⊢
  rw [R.E_per, R.E_per]
  exact h
theorem Ring.cn_mod (r D : Int) : Cn d s (r % N) D = Cn d s r D := by
  have h := R.cn_per (r % N) D (r / N)
  rw [Int.emod_add_mul_ediv] at h
  exact h.symm
theorem Ring.cn_end (r : Int) {x : Int} (hx : 0 ≤ x) : Cn d s r (E d s r x) = x + 1 := by
  refine R.cn_of ⟨by omega, .inr (by rw [show x + 1 - 1 = x by omega]; exact Int.le_refl _), ?_⟩
  have := R.lt r hx (show x < x + 1 by omega)
  have := R.d1 r
  omega
theorem Ring.cn_before (r : Int) {x : Int} (hx : 0 ≤ x) : Cn d s r (E d s r x - 1) = x := by
  refine R.cn_of ⟨hx, ?_, by omega⟩
  by_cases h : x = 0
  · exact .inl h
  · right
    have := R.lt r (x := x - 1) (y := x) (by omega) (by omega)
    have := R.d1 r
    omega
theorem Ring.cn_next (r D : Int) : Cn d s r D ≤ Cn d s r (D + d r) ∧ Cn d s r (D + d r) ≤ Cn d s r D + 1 := by
  obtain ⟨a0, a1, a2⟩ := R.cn r D
  obtain ⟨b0, b1, b2⟩ := R.cn r (D + d r)
  have d1 := R.d1 r
  constructor
  · rcases Int.lt_or_le (Cn d s r (D + d r)) (Cn d s r D) with z | z
    · rcases a1 with a1 | a1
      · omega
      · have := R.le r (x := Cn d s r (D + d r)) (y := Cn d s r D - 1) b0 (by omega)
        omega
    · exact z
  · rcases Int.lt_or_le (Cn d s r D + 1) (Cn d s r (D + d r)) with z | z
    · rcases b1 with b1 | b1
      · omega
      · have := R.lt r (x := Cn d s r D) (y := Cn d s r (D + d r) - 1) a0 (by omega)
        omega
    · exact z
/-- a reader who has a book and is not reading begins -/
theorem Ring.cn_reads {r D : Int} (hD : 0 ≤ D) (h : Cn d s r D < s r + Cn d s (r - 1) D) : Cn d s r D + 1 ≤ Cn d s r (D + d r) := by
  obtain ⟨a0, a1, a2⟩ := R.cn r D
  obtain ⟨b0, b1, b2⟩ := R.cn r (D + d r)
  obtain ⟨c0, c1, c2⟩ := R.cn (r - 1) D
  have hs := R.s0 r
  rcases Int.lt_or_le (Cn d s r (D + d r)) (Cn d s r D + 1) with z | z
  · have h1 := R.le r (x := Cn d s r (D + d r)) (y := Cn d s r D) b0 (by omega)
    have b := R.bell r (x := Cn d s r D) a0
    rcases b with b | ⟨h2, b⟩ | ⟨h2, b⟩
    · omega
    · rcases a1 with a1 | a1 <;> omega
    · rcases c1 with c1 | c1
      · omega
      · have h3 := R.le (r - 1) (x := Cn d s r D - s r) (y := Cn d s (r - 1) D - 1) (by omega) (by omega)
        omega
  · exact z
end
theorem sum_lin (f g h : Int → Int) (r : Int) : ∀ n : Nat, sumBack (fun j => f j + g (j - 1) - h j) r n = sumBack f r n + sumBack g (r - 1) n - sumBack h r n
  | 0 => by simp [sumBack]
  | n + 1 => by
    show sumBack (fun j => f j + g (j - 1) - h j) r n + (f (r - n) + g (r - n - 1) - h (r - n)) = sumBack f r n + f (r - n) + (sumBack g (r - 1) n + g (r - 1 - n)) - (sumBack h r n + h (r - n))
    rw [sum_lin f g h r n, show r - 1 - (n : Int) = r - n - 1 by omega]
    omega
theorem sum_win {f : Int → Int} {N : Nat} (hp : ∀ i t : Int, f (i + N * t) = f i) (r : Int) : sumBack f (r - 1) N = sumBack f r N := by
  have h1 := sum_front f N r
  have h2 : sumBack f r (N + 1) = sumBack f r N + f (r - N) := rfl
  have h3 := hp (r - N) 1
  rw [show r - (N : Int) + N * 1 = r by omega] at h3
  omega
theorem sum_le {f g : Int → Int} (h : ∀ i, f i ≤ g i) (r : Int) : ∀ n : Nat, sumBack f r n ≤ sumBack g r n
  | 0 => Int.le_refl _
  | n + 1 => by
    have h1 := sum_le h r n
    have h2 := h (r - n)
    show sumBack f r n + f (r - n) ≤ sumBack g r n + g (r - n)
    omega
theorem sum_lt {f g : Int → Int} (h : ∀ i, f i ≤ g i) (r : Int) : ∀ {n j : Nat}, j < n → f (r - j) < g (r - j) → sumBack f r n < sumBack g r n
  | 0, j, hj, _ => absurd hj (Nat.not_lt_zero _)
  | n + 1, j, hj, hh => by
    show sumBack f r n + f (r - n) < sumBack g r n + g (r - n)
    by_cases e : j = n
    · subst e
      have := sum_le h r j
      omega
    · have h1 := sum_lt h r (n := n) (j := j) (by omega) hh
      have h2 := h (r - n)
      omega
theorem sum_shift (f : Int → Int) (r c : Int) : ∀ n : Nat, sumBack (fun i => f i + c) r n = sumBack f r n + n * c
  | 0 => by simp [sumBack]
  | n + 1 => by
    show sumBack (fun i => f i + c) r n + (f (r - n) + c) = sumBack f r n + f (r - n) + ((n + 1 : Nat) : Int) * c
    rw [sum_shift f r c n, show ((n + 1 : Nat) : Int) = (n : Int) + 1 by omega, Int.add_mul]
    omega
section
variable {N : Nat} {d s : Int → Int} {B T M : Int} (R : Ring N d s B T M)
include R
/-- the heaps of a day, all together: fewer than all books, as at least one is being read; at most one a reader is -/
theorem Ring.heaps {D : Int} (hD : 0 ≤ D) (r : Int) : B - N ≤ sumBack (fun j => s j + Cn d s (j - 1) D - Cn d s j (D + d j)) r N ∧ sumBack (fun j => s j + Cn d s (j - 1) D - Cn d s j (D + d j)) r N < B := by
  rw [sum_lin s (fun j => Cn d s j D) (fun j => Cn d s j (D + d j)) r N, R.b, sum_win (f := fun j => Cn d s j D) (N := N) (fun i t => R.cn_per i D t)]
  have h1 := sum_le (f := fun j => Cn d s j D) (g := fun j => Cn d s j (D + d j)) (fun i => (R.cn_next i D).1) r N
  have h2 := sum_le (f := fun j => Cn d s j (D + d j)) (g := fun j => Cn d s j D + 1) (fun i => (R.cn_next i D).2) r N
  rw [sum_shift (fun j => Cn d s j D) r 1 N] at h2
  refine ⟨by omega, ?_⟩
  -- someone reads
  have some_reads : ∃ j : Nat, j < N ∧ Cn d s (r - j) D < Cn d s (r - j) (D + d (r - j)) := by
    apply Classical.byContradiction
    intro hno
    have hall : ∀ j : Nat, j < N → s (r - j) + Cn d s (r - j - 1) D ≤ Cn d s (r - j) D := by
      intro j hj
      apply Classical.byContradiction
      intro hh
      have := R.cn_reads (r := r - j) hD (by omega)
      exact hno ⟨j, hj, by omega⟩
    have go : ∀ n : Nat, n ≤ N → sumBack s r n + sumBack (fun j => Cn d s j D) (r - 1) n ≤ sumBack (fun j => Cn d s j D) r n := by
      intro n
      induction n with
      | zero => intro _; show (0 : Int) + 0 ≤ 0; omega
      | succ n ih =>
        intro hn
        have h3 := ih (by omega)
        have h4 := hall n (by omega)
        show sumBack s r n + s (r - n) + (sumBack (fun j => Cn d s j D) (r - 1) n + Cn d s (r - 1 - n) D) ≤ sumBack (fun j => Cn d s j D) r n + Cn d s (r - n) D
        rw [show r - 1 - (n : Int) = r - n - 1 by omega]
        omega
    have h5 := go N (Nat.le_refl _)
    rw [R.b, sum_win (f := fun j => Cn d s j D) (N := N) (fun i t => R.cn_per i D t)] at h5
    have := R.b1
    omega
  obtain ⟨j, hj, hjr⟩ := some_reads
  have h6 := sum_lt (f := fun j => Cn d s j D) (g := fun j => Cn d s j (D + d j)) (fun i => (R.cn_next i D).1) r hj hjr
  omega
end

/-! ### from lists -/
/-- round the list, from any index -/
def at' (l : List Int) (i : Int) : Int := l.getD (i % (l.length : Int)).toNat 0
theorem at_per (l : List Int) (i t : Int) : at' l (i + (l.length : Int) * t) = at' l i := by
  unfold at'
  rw [Int.add_mul_emod_self_left]
theorem at_nat {l : List Int} {j : Nat} {v : Int} (h : l[j]? = some v) : at' l (j : Int) = v := by
  have hj := (List.getElem?_eq_some_iff.mp h).1
  unfold at'
  rw [Int.emod_eq_of_lt (by omega) (by omega), List.getD_eq_getElem?_getD, Int.toNat_natCast, h]
  rfl
theorem at_mem {l : List Int} (hl : 0 < l.length) (i : Int) : at' l i ∈ l := by
  unfold at'
  have h0 : 0 ≤ i % (l.length : Int) := Int.emod_nonneg _ (by omega)
  have h1 : i % (l.length : Int) < l.length := Int.emod_lt_of_pos _ (by omega)
  rw [List.getD_eq_getElem?_getD, List.getElem?_eq_getElem (show (i % (l.length : Int)).toNat < l.length by omega)]
  exact List.getElem_mem _
theorem mem_at {l : List Int} {v : Int} (h : v ∈ l) : ∃ i, at' l i = v := by
  obtain ⟨j, hj, e⟩ := List.getElem_of_mem h
  exact ⟨j, at_nat (by rw [List.getElem?_eq_getElem hj, e])⟩
theorem sum_list (l : List Int) : sumBack (at' l) ((l.length : Int) - 1) l.length = l.sum := by
  have go : ∀ n : Nat, n ≤ l.length → sumBack (at' l) ((n : Int) - 1) n = (l.take n).sum := by
    intro n
    induction n with
    | zero => intro _; simp [sumBack]
    | succ n ih =>
      intro hn
      rw [show ((n + 1 : Nat) : Int) - 1 = n by omega, sum_front, ih (by omega), List.take_add_one, List.sum_append, at_nat (List.getElem?_eq_getElem (show n < l.length by omega)), List.getElem?_eq_getElem (show n < l.length by omega)]
      simp
      omega
  have h := go l.length (Nat.le_refl _)
  rw [List.take_length] at h
  exact h
theorem sum_any {f : Int → Int} {N : Nat} (hp : ∀ i t : Int, f (i + N * t) = f i) (p q : Int) : sumBack f p N = sumBack f q N := by
  have go : ∀ (n : Nat) (r : Int), sumBack f (r - n) N = sumBack f r N := by
    intro n
    induction n with
    | zero => intro r; rw [show r - ((0 : Nat) : Int) = r by omega]
    | succ n ih =>
      intro r
      rw [show r - ((n + 1 : Nat) : Int) = r - n - 1 by omega, sum_win hp, ih]
  rcases Int.le_total p q with h | h
  · have := go (q - p).toNat q
    rw [show q - ((q - p).toNat : Int) = p by omega] at this
    exact this
  · have := go (p - q).toNat p
    rw [show p - ((p - q).toNat : Int) = q by omega] at this
    exact this.symm
theorem ring_of {ds ss : List Int} {M : Int} (hl : 0 < ds.length) (hls : ss.length = ds.length) (h1 : ∀ y ∈ ds, 1 ≤ y) (h2 : ∀ y ∈ ss, 0 ≤ y) (hB : 1 ≤ ss.sum) (hM : M ∈ ds) (hMu : ∀ y ∈ ds, y ≤ M) :
    Ring ds.length (at' ds) (at' ss) ss.sum ds.sum M where
  pos := hl
  dper := at_per ds
  sper := by rw [← hls]; exact at_per ss
  d1 := fun i => h1 _ (at_mem hl i)
  s0 := fun i => h2 _ (at_mem (by omega) i)
  b := fun r => by
    rw [sum_any (f := at' ss) (N := ds.length) (by rw [← hls]; exact at_per ss) r ((ss.length : Int) - 1), ← hls]
    exact sum_list ss
  b1 := hB
  t := fun r => by
    rw [sum_any (f := at' ds) (N := ds.length) (at_per ds) r ((ds.length : Int) - 1)]
    exact sum_list ds
  mu := fun i => hMu _ (at_mem hl i)
  ma := mem_at hM
end Rm
namespace Rp
open PySem PySem.Spec PyProof.Rows L2
def topS (i : Nat) : Stmt := PySem.Challenge.pw_readingring_k12_whole_repeated_calls.main.body.getD i (.Pass ⟨0, 0, 0, 0⟩)
abbrev s_is_number : Stmt := topS 9
abbrev s_lies_between : Stmt := topS 10
abbrev s_check_number : Stmt := topS 11
abbrev s_check_reader : Stmt := topS 12
abbrev s_rinit : Stmt := inClass (topS 18) 0
abbrev s_rdays : Stmt := inClass (topS 18) 2
abbrev s_rstarts : Stmt := inClass (topS 18) 3
abbrev s_rbooks : Stmt := inClass (topS 18) 4
abbrev s_rpace : Stmt := inClass (topS 18) 5
abbrev s_rwith_days : Stmt := inClass (topS 18) 6
abbrev s_rlen : Stmt := inClass (topS 18) 7
abbrev s_rcall : Stmt := inClass (topS 18) 10
abbrev s_req : Stmt := inClass (topS 18) 12
abbrev s_check_part : Stmt := topS 19
abbrev s_slowest_decides : Stmt := topS 20
abbrev s_pace_of : Stmt := topS 21
abbrev s_round_pace : Stmt := topS 22
abbrev s_end_day : Stmt := topS 23
abbrev s_begin_day : Stmt := topS 25
abbrev s_book_of : Stmt := topS 26
abbrev s_heap_on : Stmt := topS 27
abbrev s_longest_heap : Stmt := topS 28
abbrev s_settled : Stmt := topS 29
abbrev s_reader_before : Stmt := topS 30
abbrev s_ended_by : Stmt := topS 31
abbrev s_begun_by : Stmt := topS 32
abbrev s_repetition : Stmt := topS 33
abbrev s_row_repeats : Stmt := topS 34
abbrev s_chain_of_waits : Stmt := topS 37
abbrev s_pace_readers : Stmt := topS 38
abbrev s_awaited_reading : Stmt := topS 39
abbrev s_same_book_before : Stmt := topS 40
abbrev s_helpful_readers : Stmt := topS 42
abbrev s_is_helpful : Stmt := topS 43
abbrev s_is_smaller : Stmt := topS 44
abbrev s_ldice : Stmt := topS 46
abbrev s_lnext : Stmt := topS 47
abbrev s_llike : Stmt := topS 48
abbrev s_lring : Stmt := topS 49
abbrev s_law : Stmt := topS 50
abbrev N_is_number : List Str := ["value"]
abbrev P_is_number : List Str := ["value"]
theorem sc_is_number : FnScope N_is_number P_is_number (defScope s_is_number) := ⟨rfl, rfl, rfl, by decide +kernel, rfl, by decide +kernel, by decide +kernel⟩
abbrev N_lies_between : List Str := ["value", "low", "high"]
abbrev P_lies_between : List Str := ["value", "low", "high"]
theorem sc_lies_between : FnScope N_lies_between P_lies_between (defScope s_lies_between) := ⟨rfl, rfl, rfl, by decide +kernel, rfl, by decide +kernel, by decide +kernel⟩
abbrev N_check_number : List Str := ["value", "low", "high"]
abbrev P_check_number : List Str := ["value", "low", "high"]
theorem sc_check_number : FnScope N_check_number P_check_number (defScope s_check_number) := ⟨rfl, rfl, rfl, by decide +kernel, rfl, by decide +kernel, by decide +kernel⟩
abbrev N_check_reader : List Str := ["ring", "reader"]
abbrev P_check_reader : List Str := ["ring", "reader"]
theorem sc_check_reader : FnScope N_check_reader P_check_reader (defScope s_check_reader) := ⟨rfl, rfl, rfl, by decide +kernel, rfl, by decide +kernel, by decide +kernel⟩
abbrev N_rinit : List Str := ["self", "days", "starts"]
abbrev P_rinit : List Str := ["self", "days", "starts"]
theorem sc_rinit : FnScope N_rinit P_rinit (defScope s_rinit) := ⟨rfl, rfl, rfl, by decide +kernel, rfl, by decide +kernel, by decide +kernel⟩
abbrev N_rdays : List Str := ["self"]
abbrev P_rdays : List Str := ["self"]
theorem sc_rdays : FnScope N_rdays P_rdays (defScope s_rdays) := ⟨rfl, rfl, rfl, by decide +kernel, rfl, by decide +kernel, by decide +kernel⟩
abbrev N_rstarts : List Str := ["self"]
abbrev P_rstarts : List Str := ["self"]
theorem sc_rstarts : FnScope N_rstarts P_rstarts (defScope s_rstarts) := ⟨rfl, rfl, rfl, by decide +kernel, rfl, by decide +kernel, by decide +kernel⟩
abbrev N_rbooks : List Str := ["self"]
abbrev P_rbooks : List Str := ["self"]
theorem sc_rbooks : FnScope N_rbooks P_rbooks (defScope s_rbooks) := ⟨rfl, rfl, rfl, by decide +kernel, rfl, by decide +kernel, by decide +kernel⟩
abbrev N_rpace : List Str := ["self"]
abbrev P_rpace : List Str := ["self"]
theorem sc_rpace : FnScope N_rpace P_rpace (defScope s_rpace) := ⟨rfl, rfl, rfl, by decide +kernel, rfl, by decide +kernel, by decide +kernel⟩
abbrev N_rwith_days : List Str := ["self", "reader", "days", "changed"]
abbrev P_rwith_days : List Str := ["self", "reader", "days"]
theorem sc_rwith_days : FnScope N_rwith_days P_rwith_days (defScope s_rwith_days) := ⟨rfl, rfl, rfl, by decide +kernel, rfl, by decide +kernel, by decide +kernel⟩
abbrev N_rlen : List Str := ["self"]
abbrev P_rlen : List Str := ["self"]
theorem sc_rlen : FnScope N_rlen P_rlen (defScope s_rlen) := ⟨rfl, rfl, rfl, by decide +kernel, rfl, by decide +kernel, by decide +kernel⟩
abbrev N_rcall : List Str := ["self", "reader", "number"]
abbrev P_rcall : List Str := ["self", "reader", "number"]
theorem sc_rcall : FnScope N_rcall P_rcall (defScope s_rcall) := ⟨rfl, rfl, rfl, by decide +kernel, rfl, by decide +kernel, by decide +kernel⟩
abbrev N_req : List Str := ["self", "other"]
abbrev P_req : List Str := ["self", "other"]
theorem sc_req : FnScope N_req P_req (defScope s_req) := ⟨rfl, rfl, rfl, by decide +kernel, rfl, by decide +kernel, by decide +kernel⟩
abbrev N_check_part : List Str := ["part", "values", "limits", "lengths", "low", "high", "fewest", "most", "index", "value"]
abbrev P_check_part : List Str := ["part", "values", "limits", "lengths"]
theorem sc_check_part : FnScope N_check_part P_check_part (defScope s_check_part) := ⟨rfl, rfl, rfl, by decide +kernel, rfl, by decide +kernel, by decide +kernel⟩
abbrev N_slowest_decides : List Str := ["days", "books"]
abbrev P_slowest_decides : List Str := ["days", "books"]
theorem sc_slowest_decides : FnScope N_slowest_decides P_slowest_decides (defScope s_slowest_decides) := ⟨rfl, rfl, rfl, by decide +kernel, rfl, by decide +kernel, by decide +kernel⟩
abbrev N_pace_of : List Str := ["days", "books"]
abbrev P_pace_of : List Str := ["days", "books"]
theorem sc_pace_of : FnScope N_pace_of P_pace_of (defScope s_pace_of) := ⟨rfl, rfl, rfl, by decide +kernel, rfl, by decide +kernel, by decide +kernel⟩
abbrev N_round_pace : List Str := ["days", "books", "common"]
abbrev P_round_pace : List Str := ["days", "books"]
theorem sc_round_pace : FnScope N_round_pace P_round_pace (defScope s_round_pace) := ⟨rfl, rfl, rfl, by decide +kernel, rfl, by decide +kernel, by decide +kernel⟩
abbrev N_end_day : List Str := ["ring", "reader", "number", "books", "slowest", "gain", "latest", "total", "slowest_met", "left", "step", "rounds"]
abbrev P_end_day : List Str := ["ring", "reader", "number"]
theorem sc_end_day : FnScope N_end_day P_end_day (defScope s_end_day) := ⟨rfl, rfl, rfl, by decide +kernel, rfl, by decide +kernel, by decide +kernel⟩
abbrev N_begin_day : List Str := ["ring", "reader", "number"]
abbrev P_begin_day : List Str := ["ring", "reader", "number"]
theorem sc_begin_day : FnScope N_begin_day P_begin_day (defScope s_begin_day) := ⟨rfl, rfl, rfl, by decide +kernel, rfl, by decide +kernel, by decide +kernel⟩
abbrev N_book_of : List Str := ["ring", "reader", "number", "place"]
abbrev P_book_of : List Str := ["ring", "reader", "number"]
theorem sc_book_of : FnScope N_book_of P_book_of (defScope s_book_of) := ⟨rfl, rfl, rfl, by decide +kernel, rfl, by decide +kernel, by decide +kernel⟩
abbrev N_heap_on : List Str := ["ring", "reader", "day", "came"]
abbrev P_heap_on : List Str := ["ring", "reader", "day"]
theorem sc_heap_on : FnScope N_heap_on P_heap_on (defScope s_heap_on) := ⟨rfl, rfl, rfl, by decide +kernel, rfl, by decide +kernel, by decide +kernel⟩
abbrev N_longest_heap : List Str := ["ring", "reader", "before", "came", "begun", "longest", "number", "day"]
abbrev P_longest_heap : List Str := ["ring", "reader"]
theorem sc_longest_heap : FnScope N_longest_heap P_longest_heap (defScope s_longest_heap) := ⟨rfl, rfl, rfl, by decide +kernel, rfl, by decide +kernel, by decide +kernel⟩
abbrev N_settled : List Str := ["ring", "readings", "days", "needed", "number", "found"]
abbrev P_settled : List Str := ["ring"]
theorem sc_settled : FnScope N_settled P_settled (defScope s_settled) := ⟨rfl, rfl, rfl, by decide +kernel, rfl, by decide +kernel, by decide +kernel⟩
abbrev N_reader_before : List Str := ["ring", "reader"]
abbrev P_reader_before : List Str := ["ring", "reader"]
theorem sc_reader_before : FnScope N_reader_before P_reader_before (defScope s_reader_before) := ⟨rfl, rfl, rfl, by decide +kernel, rfl, by decide +kernel, by decide +kernel⟩
abbrev N_ended_by : List Str := ["ring", "reader", "day", "low", "high", "middle"]
abbrev P_ended_by : List Str := ["ring", "reader", "day"]
theorem sc_ended_by : FnScope N_ended_by P_ended_by (defScope s_ended_by) := ⟨rfl, rfl, rfl, by decide +kernel, rfl, by decide +kernel, by decide +kernel⟩
abbrev N_begun_by : List Str := ["ring", "reader", "day"]
abbrev P_begun_by : List Str := ["ring", "reader", "day"]
theorem sc_begun_by : FnScope N_begun_by P_begun_by (defScope s_begun_by) := ⟨rfl, rfl, rfl, by decide +kernel, rfl, by decide +kernel, by decide +kernel⟩
abbrev N_repetition : List Str := ["ring"]
abbrev P_repetition : List Str := ["ring"]
theorem sc_repetition : FnScope N_repetition P_repetition (defScope s_repetition) := ⟨rfl, rfl, rfl, by decide +kernel, rfl, by decide +kernel, by decide +kernel⟩
abbrev N_row_repeats : List Str := ["ring", "number", "readings", "days", "reader"]
abbrev P_row_repeats : List Str := ["ring", "number", "readings", "days"]
theorem sc_row_repeats : FnScope N_row_repeats P_row_repeats (defScope s_row_repeats) := ⟨rfl, rfl, rfl, by decide +kernel, rfl, by decide +kernel, by decide +kernel⟩
abbrev N_chain_of_waits : List Str := ["ring", "reader", "number", "reading", "backwards", "day"]
abbrev P_chain_of_waits : List Str := ["ring", "reader", "number"]
theorem sc_chain_of_waits : FnScope N_chain_of_waits P_chain_of_waits (defScope s_chain_of_waits) := ⟨rfl, rfl, rfl, by decide +kernel, rfl, by decide +kernel, by decide +kernel⟩
abbrev N_pace_readers : List Str := ["ring"]
abbrev P_pace_readers : List Str := ["ring"]
theorem sc_pace_readers : FnScope N_pace_readers P_pace_readers (defScope s_pace_readers) := ⟨rfl, rfl, rfl, by decide +kernel, rfl, by decide +kernel, by decide +kernel⟩
abbrev N_awaited_reading : List Str := ["ring", "reading", "day", "reader", "number"]
abbrev P_awaited_reading : List Str := ["ring", "reading", "day"]
theorem sc_awaited_reading : FnScope N_awaited_reading P_awaited_reading (defScope s_awaited_reading) := ⟨rfl, rfl, rfl, by decide +kernel, rfl, by decide +kernel, by decide +kernel⟩
abbrev N_same_book_before : List Str := ["ring", "reading", "reader", "number"]
abbrev P_same_book_before : List Str := ["ring", "reading"]
theorem sc_same_book_before : FnScope N_same_book_before P_same_book_before (defScope s_same_book_before) := ⟨rfl, rfl, rfl, by decide +kernel, rfl, by decide +kernel, by decide +kernel⟩
abbrev N_helpful_readers : List Str := ["ring", "reader"]
abbrev P_helpful_readers : List Str := ["ring"]
theorem sc_helpful_readers : FnScope N_helpful_readers P_helpful_readers (defScope s_helpful_readers) := ⟨rfl, rfl, rfl, by decide +kernel, rfl, by decide +kernel, by decide +kernel⟩
abbrev N_is_helpful : List Str := ["ring", "reader"]
abbrev P_is_helpful : List Str := ["ring", "reader"]
theorem sc_is_helpful : FnScope N_is_helpful P_is_helpful (defScope s_is_helpful) := ⟨rfl, rfl, rfl, by decide +kernel, rfl, by decide +kernel, by decide +kernel⟩
abbrev N_is_smaller : List Str := ["one", "other"]
abbrev P_is_smaller : List Str := ["one", "other"]
theorem sc_is_smaller : FnScope N_is_smaller P_is_smaller (defScope s_is_smaller) := ⟨rfl, rfl, rfl, by decide +kernel, rfl, by decide +kernel, by decide +kernel⟩
abbrev N_ldice : List Str := ["_law_script", "_law_mixed", "_law_cell"]
abbrev P_ldice : List Str := ["_law_script"]
theorem sc_ldice : FnScope N_ldice P_ldice (defScope s_ldice) := ⟨rfl, rfl, rfl, by decide +kernel, rfl, by decide +kernel, by decide +kernel⟩
abbrev N_lnext : List Str := ["_law_dice_here", "_law_many", "_law_found", "_law_cell"]
abbrev P_lnext : List Str := ["_law_dice_here", "_law_many"]
theorem sc_lnext : FnScope N_lnext P_lnext (defScope s_lnext) := ⟨rfl, rfl, rfl, by decide +kernel, rfl, by decide +kernel, by decide +kernel⟩
abbrev N_llike : List Str := ["_law_found", "_law_due", "_law_k"]
abbrev P_llike : List Str := ["_law_found", "_law_due"]
theorem sc_llike : FnScope N_llike P_llike (defScope s_llike) := ⟨rfl, rfl, rfl, by decide +kernel, rfl, by decide +kernel, by decide +kernel⟩
abbrev N_lring : List Str := ["_law_d", "_law_size", "_law_most", "_law_count", "_law_days", "_law_starts", "_law_k"]
abbrev P_lring : List Str := ["_law_d", "_law_size", "_law_most"]
theorem sc_lring : FnScope N_lring P_lring (defScope s_lring) := ⟨rfl, rfl, rfl, by decide +kernel, rfl, by decide +kernel, by decide +kernel⟩
abbrev N_law : List Str := ["_law_script", "_law_d", "_law_days", "_law_starts", "_law_ring_here", "_law_work", "_law_found", "_law_kept", "_law_one", "_law_rows", "_law_again"]
abbrev P_law : List Str := ["_law_script"]
theorem sc_law : FnScope N_law P_law (defScope s_law) := ⟨rfl, rfl, rfl, by decide +kernel, rfl, by decide +kernel, by decide +kernel⟩
/-- what the top has written: the defs where they stand, the class, constants, built-ins that are still so -/
structure Tx (K : PySem.W.Frag) (mg : Str → Option Value) where
  C : Addr
  a_is_number : Addr
  d_is_number : FuncData
  F_is_number : Fun K "is_number" "is_number" s_is_number a_is_number d_is_number
  b_is_number : Binds K d_is_number P_is_number []
  g_is_number : mg "is_number" = some (.ref a_is_number)
  a_lies_between : Addr
  d_lies_between : FuncData
  F_lies_between : Fun K "lies_between" "lies_between" s_lies_between a_lies_between d_lies_between
  b_lies_between : Binds K d_lies_between P_lies_between []
  g_lies_between : mg "lies_between" = some (.ref a_lies_between)
  a_check_number : Addr
  d_check_number : FuncData
  F_check_number : Fun K "check_number" "check_number" s_check_number a_check_number d_check_number
  b_check_number : Binds K d_check_number P_check_number []
  g_check_number : mg "check_number" = some (.ref a_check_number)
  a_check_reader : Addr
  d_check_reader : FuncData
  F_check_reader : Fun K "check_reader" "check_reader" s_check_reader a_check_reader d_check_reader
  b_check_reader : Binds K d_check_reader P_check_reader []
  g_check_reader : mg "check_reader" = some (.ref a_check_reader)
  a_rinit : Addr
  d_rinit : FuncData
  F_rinit : Fun K "__init__" "Ring.__init__" s_rinit a_rinit d_rinit
  b_rinit : Binds K d_rinit P_rinit []
  a_rdays : Addr
  d_rdays : FuncData
  F_rdays : Fun K "days" "Ring.days" s_rdays a_rdays d_rdays
  b_rdays : Binds K d_rdays P_rdays []
  a_rstarts : Addr
  d_rstarts : FuncData
  F_rstarts : Fun K "starts" "Ring.starts" s_rstarts a_rstarts d_rstarts
  b_rstarts : Binds K d_rstarts P_rstarts []
  a_rbooks : Addr
  d_rbooks : FuncData
  F_rbooks : Fun K "books" "Ring.books" s_rbooks a_rbooks d_rbooks
  b_rbooks : Binds K d_rbooks P_rbooks []
  a_rpace : Addr
  d_rpace : FuncData
  F_rpace : Fun K "pace" "Ring.pace" s_rpace a_rpace d_rpace
  b_rpace : Binds K d_rpace P_rpace []
  a_rwith_days : Addr
  d_rwith_days : FuncData
  F_rwith_days : Fun K "with_days" "Ring.with_days" s_rwith_days a_rwith_days d_rwith_days
  b_rwith_days : Binds K d_rwith_days P_rwith_days []
  a_rlen : Addr
  d_rlen : FuncData
  F_rlen : Fun K "__len__" "Ring.__len__" s_rlen a_rlen d_rlen
  b_rlen : Binds K d_rlen P_rlen []
  a_rcall : Addr
  d_rcall : FuncData
  F_rcall : Fun K "__call__" "Ring.__call__" s_rcall a_rcall d_rcall
  b_rcall : Binds K d_rcall P_rcall []
  a_req : Addr
  d_req : FuncData
  F_req : Fun K "__eq__" "Ring.__eq__" s_req a_req d_req
  b_req : Binds K d_req P_req []
  a_check_part : Addr
  d_check_part : FuncData
  F_check_part : Fun K "check_part" "check_part" s_check_part a_check_part d_check_part
  b_check_part : Binds K d_check_part P_check_part []
  g_check_part : mg "check_part" = some (.ref a_check_part)
  a_slowest_decides : Addr
  d_slowest_decides : FuncData
  F_slowest_decides : Fun K "slowest_decides" "slowest_decides" s_slowest_decides a_slowest_decides d_slowest_decides
  b_slowest_decides : Binds K d_slowest_decides P_slowest_decides []
  g_slowest_decides : mg "slowest_decides" = some (.ref a_slowest_decides)
  a_pace_of : Addr
  d_pace_of : FuncData
  F_pace_of : Fun K "pace_of" "pace_of" s_pace_of a_pace_of d_pace_of
  b_pace_of : Binds K d_pace_of P_pace_of []
  g_pace_of : mg "pace_of" = some (.ref a_pace_of)
  a_round_pace : Addr
  d_round_pace : FuncData
  F_round_pace : Fun K "round_pace" "round_pace" s_round_pace a_round_pace d_round_pace
  b_round_pace : Binds K d_round_pace P_round_pace []
  g_round_pace : mg "round_pace" = some (.ref a_round_pace)
  a_end_day : Addr
  d_end_day : FuncData
  F_end_day : Fun K "end_day" "end_day" s_end_day a_end_day d_end_day
  b_end_day : Binds K d_end_day P_end_day []
  g_end_day : mg "end_day" = some (.ref a_end_day)
  a_begin_day : Addr
  d_begin_day : FuncData
  F_begin_day : Fun K "begin_day" "begin_day" s_begin_day a_begin_day d_begin_day
  b_begin_day : Binds K d_begin_day P_begin_day []
  g_begin_day : mg "begin_day" = some (.ref a_begin_day)
  a_book_of : Addr
  d_book_of : FuncData
  F_book_of : Fun K "book_of" "book_of" s_book_of a_book_of d_book_of
  b_book_of : Binds K d_book_of P_book_of []
  g_book_of : mg "book_of" = some (.ref a_book_of)
  a_heap_on : Addr
  d_heap_on : FuncData
  F_heap_on : Fun K "heap_on" "heap_on" s_heap_on a_heap_on d_heap_on
  b_heap_on : Binds K d_heap_on P_heap_on []
  g_heap_on : mg "heap_on" = some (.ref a_heap_on)
  a_longest_heap : Addr
  d_longest_heap : FuncData
  F_longest_heap : Fun K "longest_heap" "longest_heap" s_longest_heap a_longest_heap d_longest_heap
  b_longest_heap : Binds K d_longest_heap P_longest_heap []
  g_longest_heap : mg "longest_heap" = some (.ref a_longest_heap)
  a_settled : Addr
  d_settled : FuncData
  F_settled : Fun K "settled" "settled" s_settled a_settled d_settled
  b_settled : Binds K d_settled P_settled []
  g_settled : mg "settled" = some (.ref a_settled)
  a_reader_before : Addr
  d_reader_before : FuncData
  F_reader_before : Fun K "reader_before" "reader_before" s_reader_before a_reader_before d_reader_before
  b_reader_before : Binds K d_reader_before P_reader_before []
  g_reader_before : mg "reader_before" = some (.ref a_reader_before)
  a_ended_by : Addr
  d_ended_by : FuncData
  F_ended_by : Fun K "ended_by" "ended_by" s_ended_by a_ended_by d_ended_by
  b_ended_by : Binds K d_ended_by P_ended_by []
  g_ended_by : mg "ended_by" = some (.ref a_ended_by)
  a_begun_by : Addr
  d_begun_by : FuncData
  F_begun_by : Fun K "begun_by" "begun_by" s_begun_by a_begun_by d_begun_by
  b_begun_by : Binds K d_begun_by P_begun_by []
  g_begun_by : mg "begun_by" = some (.ref a_begun_by)
  a_repetition : Addr
  d_repetition : FuncData
  F_repetition : Fun K "repetition" "repetition" s_repetition a_repetition d_repetition
  b_repetition : Binds K d_repetition P_repetition []
  g_repetition : mg "repetition" = some (.ref a_repetition)
  a_row_repeats : Addr
  d_row_repeats : FuncData
  F_row_repeats : Fun K "row_repeats" "row_repeats" s_row_repeats a_row_repeats d_row_repeats
  b_row_repeats : Binds K d_row_repeats P_row_repeats []
  g_row_repeats : mg "row_repeats" = some (.ref a_row_repeats)
  a_chain_of_waits : Addr
  d_chain_of_waits : FuncData
  F_chain_of_waits : Fun K "chain_of_waits" "chain_of_waits" s_chain_of_waits a_chain_of_waits d_chain_of_waits
  b_chain_of_waits : Binds K d_chain_of_waits P_chain_of_waits []
  g_chain_of_waits : mg "chain_of_waits" = some (.ref a_chain_of_waits)
  a_pace_readers : Addr
  d_pace_readers : FuncData
  F_pace_readers : Fun K "pace_readers" "pace_readers" s_pace_readers a_pace_readers d_pace_readers
  b_pace_readers : Binds K d_pace_readers P_pace_readers []
  g_pace_readers : mg "pace_readers" = some (.ref a_pace_readers)
  a_awaited_reading : Addr
  d_awaited_reading : FuncData
  F_awaited_reading : Fun K "awaited_reading" "awaited_reading" s_awaited_reading a_awaited_reading d_awaited_reading
  b_awaited_reading : Binds K d_awaited_reading P_awaited_reading []
  g_awaited_reading : mg "awaited_reading" = some (.ref a_awaited_reading)
  a_same_book_before : Addr
  d_same_book_before : FuncData
  F_same_book_before : Fun K "same_book_before" "same_book_before" s_same_book_before a_same_book_before d_same_book_before
  b_same_book_before : Binds K d_same_book_before P_same_book_before []
  g_same_book_before : mg "same_book_before" = some (.ref a_same_book_before)
  a_helpful_readers : Addr
  d_helpful_readers : FuncData
  F_helpful_readers : Fun K "helpful_readers" "helpful_readers" s_helpful_readers a_helpful_readers d_helpful_readers
  b_helpful_readers : Binds K d_helpful_readers P_helpful_readers []
  g_helpful_readers : mg "helpful_readers" = some (.ref a_helpful_readers)
  a_is_helpful : Addr
  d_is_helpful : FuncData
  F_is_helpful : Fun K "is_helpful" "is_helpful" s_is_helpful a_is_helpful d_is_helpful
  b_is_helpful : Binds K d_is_helpful P_is_helpful []
  g_is_helpful : mg "is_helpful" = some (.ref a_is_helpful)
  a_is_smaller : Addr
  d_is_smaller : FuncData
  F_is_smaller : Fun K "is_smaller" "is_smaller" s_is_smaller a_is_smaller d_is_smaller
  b_is_smaller : Binds K d_is_smaller P_is_smaller []
  g_is_smaller : mg "is_smaller" = some (.ref a_is_smaller)
  a_ldice : Addr
  d_ldice : FuncData
  F_ldice : Fun K "_law_dice" "_law_dice" s_ldice a_ldice d_ldice
  b_ldice : Binds K d_ldice P_ldice []
  g_ldice : mg "_law_dice" = some (.ref a_ldice)
  a_lnext : Addr
  d_lnext : FuncData
  F_lnext : Fun K "_law_next" "_law_next" s_lnext a_lnext d_lnext
  b_lnext : Binds K d_lnext P_lnext []
  g_lnext : mg "_law_next" = some (.ref a_lnext)
  a_llike : Addr
  d_llike : FuncData
  F_llike : Fun K "_law_like" "_law_like" s_llike a_llike d_llike
  b_llike : Binds K d_llike P_llike []
  g_llike : mg "_law_like" = some (.ref a_llike)
  a_lring : Addr
  d_lring : FuncData
  F_lring : Fun K "_law_ring" "_law_ring" s_lring a_lring d_lring
  b_lring : Binds K d_lring P_lring []
  g_lring : mg "_law_ring" = some (.ref a_lring)
  a_law : Addr
  d_law : FuncData
  F_law : Fun K "law" "law" s_law a_law d_law
  b_law : Binds K d_law P_law []
  g_law : mg "law" = some (.ref a_law)
  cl : Cls K C
  nD : NoAttr K C "_days"
  nS : NoAttr K C "_starts"
  mkR : Mk K C a_rinit
  gC : mg "Ring" = some (.ref C)
  p_rdays : Addr
  q_rdays : PropOf K C "days" p_rdays a_rdays
  p_rstarts : Addr
  q_rstarts : PropOf K C "starts" p_rstarts a_rstarts
  p_rbooks : Addr
  q_rbooks : PropOf K C "books" p_rbooks a_rbooks
  p_rpace : Addr
  q_rpace : PropOf K C "pace" p_rpace a_rpace
  lenC : PySem.W.findIn K (.ref C) "__len__" = some (some (.ref a_rlen))
  lenF : PySem.W.isFn K (.ref a_rlen) = true
  callC : StX.CallO K C a_rcall
  clsC : PySem.W.findIn K (.ref C) "__class__" = some (some (.builtin "object.__class__"))
  clsG : PySem.W.specialIn K (.builtin "object.__class__") "__get__" = some (some (.builtin "getset_descriptor.__get__"))
  clsT : PySem.W.takesIn K (.builtin "object.__class__") = some true
  clsM : PySem.W.mroIn K C (.type "object") = some true
  eqC : PySem.W.findIn K (.ref C) "__eq__" = some (some (.ref a_req))
  eqF : PySem.W.isFn K (.ref a_req) = true
  kC : PySem.W.keepIn K (.ref C) = true
  mW : Meth K C "with_days" a_rwith_days
  c_LATEST : ∃ t, mg "LATEST" = some (.int 1000000000000000000 t)
  c_FEWEST_READERS : ∃ t, mg "FEWEST_READERS" = some (.int 2 t)
  c_MOST_READERS : ∃ t, mg "MOST_READERS" = some (.int 8 t)
  c_MOST_DAYS : ∃ t, mg "MOST_DAYS" = some (.int 30 t)
  c_MOST_BOOKS : ∃ t, mg "MOST_BOOKS" = some (.int 12 t)
  c_LAST_NUMBER : ∃ t, mg "LAST_NUMBER" = some (.int 500 t)
  g_gcd : mg "gcd" = some (.builtin "math.gcd")
  z_len : mg "len" = none
  z_sum : mg "sum" = none
  z_max : mg "max" = none
  z_min : mg "min" = none
  z_range : mg "range" = none
  z_int : mg "int" = none
  z_bool : mg "bool" = none
  z_isinstance : mg "isinstance" = none
  z_tuple : mg "tuple" = none
  z_enumerate : mg "enumerate" = none
  z_list : mg "list" = none
  z_str : mg "str" = none
  z_sorted : mg "sorted" = none
end Rp
namespace Rp
open PySem PySem.Spec PyProof.Rows L2 Rz Rm
/-! ### a ring as it stands -/
theorem ds_ne : ¬ (("_days" : Str) = "_starts") := by decide +kernel
def flds (td ts : Addr) : List (Str × V) := putF "_starts" (.ref ts) (putF "_days" (.ref td) [])
theorem flds_days (td ts : Addr) : (flds td ts).lookup ("_days" : Str) = some (.ref td) := by
  unfold flds
  rw [lookup_putF, if_neg ds_ne, lookup_putF, if_pos rfl]
theorem flds_starts (td ts : Addr) : (flds td ts).lookup ("_starts" : Str) = some (.ref ts) := by
  unfold flds
  rw [lookup_putF, if_pos rfl]
/-- days and books at first that make a ring -/
structure Good (ds ss : List Int) : Prop where
  l2 : 2 ≤ ds.length
  l8 : ds.length ≤ 8
  ls : ss.length = ds.length
  d1 : ∀ y ∈ ds, 1 ≤ y ∧ y ≤ 30
  s0 : ∀ y ∈ ss, 0 ≤ y ∧ y ≤ 12
  b1 : 1 ≤ ss.sum
  b12 : ss.sum ≤ 12
/-- a tuple that stands in H, its object known or not -/
def Tq (H : Hp) (a : Addr) (xs : List V) : Prop := H a = some (.tup xs) ∨ ∃ o : Obj, o.dict = none ∧ H a = some (.frz o (.tup xs))
def Tf (H : Hp) (a : Addr) (xs : List V) : Prop := ∃ o : Obj, o.dict = none ∧ H a = some (.frz o (.tup xs))
theorem Tf.tq {H : Hp} {a : Addr} {xs : List V} (h : Tf H a xs) : Tq H a xs := .inr h
theorem Tf.same {H H' : Hp} {a : Addr} {xs : List V} (h : Tf H a xs) (s : Same H H') : Tf H' a xs := let ⟨o, d, e⟩ := h; ⟨o, d, s _ _ e⟩
theorem Tq.rd {H : Hp} {a : Addr} {xs : List V} (h : Tq H a xs) : Rd H a (.tup xs) := h.elim .inl fun ⟨o, _, e⟩ => .inr ⟨o, e⟩
theorem Tq.same {H H' : Hp} {a : Addr} {xs : List V} (h : Tq H a xs) (s : Same H H') : Tq H' a xs := h.elim (fun e => .inl (s _ _ e)) fun ⟨o, d, e⟩ => .inr ⟨o, d, s _ _ e⟩
theorem Tq.ne {H : Hp} {a p C dx : Addr} {xs : List V} {fs : List (Str × V)} (h : Tq H a xs) (e : H p = some (.ins C dx fs)) : a ≠ p := by
  rcases h with h | ⟨o, _, h⟩
  · exact ne_of h e (by intro z; cases z)
  · exact ne_of h e (by intro z; cases z)
theorem Tq.put {H : Hp} {a p : Addr} {xs : List V} {o : HO} (h : Tq H a xs) (n : a ≠ p) : Tq (upd H p o) a xs := by
  rcases h with h | ⟨u, d, h⟩
  · exact .inl (by rw [upd_ne n]; exact h)
  · exact .inr ⟨u, d, by rw [upd_ne n]; exact h⟩
theorem Tq.ty {K : PySem.W.Frag} {H : Hp} {a : Addr} {xs : List V} (h : Tq H a xs) : TyX K H (.ref a) (.type "tuple") := by
  rcases h with h | ⟨u, _, h⟩
  · exact .base (.tup h)
  · exact .fTuple h
structure RingAt (C : Addr) (H : Hp) (p dx td ts : Addr) (ds ss : List Int) : Prop where
  ob : H p = some (.ins C dx (flds td ts))
  td : Tq H td (ds.map V.int)
  ts : Tq H ts (ss.map V.int)
  ok : Good ds ss
theorem RingAt.same {C : Addr} {H H' : Hp} {p dx td ts : Addr} {ds ss : List Int} (R : RingAt C H p dx td ts ds ss) (s : Same H H') : RingAt C H' p dx td ts ds ss :=
  ⟨s _ _ R.ob, R.td.same s, R.ts.same s, R.ok⟩
theorem sq_same {K : PySem.W.Frag} {H H' : Hp} {a : Addr} {xs : List V} (e : Same H H') (h : H a = some (.tup xs)) : SqT K H' a xs := .of (e _ _ h)
theorem same_upd {H : Hp} {p : Addr} {o : HO} (h : H p = none) : Same H (upd H p o) := fun b x e => by
  rw [upd_ne (ne_of_none e h)]
  exact e
section
variable {P : Program} {w : World} {K : PySem.W.Frag} {mg : Str → Option Value} {base : Heap}
/-! ### checks -/
/-- a number is one -/
def spIsNum : Sp := fun vs H Q _ => ∃ i : Int, vs = [.int i] ∧ Q (.bl true) H
theorem ok_is_number (T : Tx K mg) : FnOk P w K mg base CX0 1 T.a_is_number T.d_is_number P_is_number spIsNum := by
  refine T.F_is_number.ok sc_is_number (fun vs H Q E h => ?_) (fun cdv A outer s H vs Q E hr h => ?_)
  · obtain ⟨i, rfl, _⟩ := h
    rfl
  · obtain ⟨i, rfl, q⟩ := h
    refine ⟨_, pss_one (ps_ret (pe_and (pe_callB call_isi (by rfl) T.z_isinstance (by decide +kernel) (pa_cons (pv 0) (pa_cons (pe_bltn (v := .ty "int") (u := .type "int") (by rfl) T.z_int (by decide +kernel) rfl) pa_nil)))
      (pe_one (pe_not (pe_callB call_isi (by rfl) T.z_isinstance (by decide +kernel) (pa_cons (pv 0) (pa_cons (pe_bltn (v := .ty "bool") (u := .type "bool") (by rfl) T.z_bool (by decide +kernel) rfl) pa_nil))))))), ?_⟩
    refine ⟨.int i, rfl, .int i, .ty "int", .type "int", .type "int", true, rfl, .ty _, .base (.int i), kit_ty (by decide +kernel), true, rfl, iteT ?_⟩
    exact ⟨.int i, rfl, .int i, .ty "bool", .type "int", .type "bool", false, rfl, .ty _, .base (.int i), kit_ty (by decide +kernel), false, rfl, q⟩
def spLies : Sp := fun vs H Q _ => ∃ v lo hi : Int, vs = [.int v, .int lo, .int hi] ∧ Q (.bl (decide (lo ≤ v) && decide (v ≤ hi))) H
theorem ok_lies (T : Tx K mg) : FnOk P w K mg base CX0 2 T.a_lies_between T.d_lies_between P_lies_between spLies := by
  refine T.F_lies_between.ok sc_lies_between (fun vs H Q E h => ?_) (fun cdv A outer s H vs Q E hr h => ?_)
  · obtain ⟨v, lo, hi, rfl, _⟩ := h
    rfl
  · obtain ⟨v, lo, hi, rfl, q⟩ := h
    refine ⟨_, pss_one (ps_ret (pe_and (pe_call (ok_is_number T) hr (by rfl) T.g_is_number T.F_is_number.kp T.b_is_number .nil pass0 (pa_cons (pv 0) pa_nil)) (pe_one (pe_chain op_le op_le (pv 1) (pv 0) (pv 2))))), ?_⟩
    refine ⟨.int v, rfl, v, rfl, true, rfl, iteT ?_⟩
    refine ⟨.int lo, rfl, .int v, rfl, lo, v, rfl, rfl, decide (lo ≤ v), rfl, ?_⟩
    by_cases h : lo ≤ v
    · rw [decide_eq_true h] at q ⊢
      exact iteT ⟨.int hi, rfl, v, hi, rfl, rfl, q⟩
    · rw [decide_eq_false h] at q ⊢
      exact iteF q
theorem in_lim {v lo hi : Int} (h1 : lo ≤ v) (h2 : v ≤ hi) : (decide (lo ≤ v) && decide (v ≤ hi)) = true := by
  rw [decide_eq_true h1, decide_eq_true h2] <;> rfl
def spChk : Sp := fun vs H Q _ => ∃ v lo hi : Int, vs = [.int v, .int lo, .int hi] ∧ lo ≤ v ∧ v ≤ hi ∧ Q .non H
theorem ok_chk (T : Tx K mg) : FnOk P w K mg base CX0 3 T.a_check_number T.d_check_number P_check_number spChk := by
  refine T.F_check_number.ok sc_check_number (fun vs H Q E h => ?_) (fun cdv A outer s H vs Q E hr h => ?_)
  · obtain ⟨v, lo, hi, rfl, _⟩ := h
    rfl
  · obtain ⟨v, lo, hi, rfl, h1, h2, q⟩ := h
    refine ⟨_, pss_one (ps_if (pt_not (pt_val (pe_call (ok_lies T) hr (by rfl) T.g_lies_between T.F_lies_between.kp T.b_lies_between .nil pass0 (pa_cons (pv 0) (pa_cons (pv 1) (pa_cons (pv 2) pa_nil)))))) (pss_one ps_never) pss_nil), ?_⟩
    refine ⟨.int v, rfl, .int lo, rfl, .int hi, rfl, v, lo, hi, rfl, _, rfl, ?_⟩
    rw [in_lim h1 h2]
    exact iteF q
/-! ### the ring's own -/
def spLen (C : Addr) : Sp := fun vs H Q _ => ∃ p dx td ts ds ss, vs = [.ref p] ∧ RingAt C H p dx td ts ds ss ∧ Q (.int ds.length) H
theorem ok_len (T : Tx K mg) : FnOk P w K mg base CX0 1 T.a_rlen T.d_rlen P_rlen (spLen T.C) := by
  refine T.F_rlen.ok sc_rlen (fun vs H Q E h => ?_) (fun cdv A outer s H vs Q E hr h => ?_)
  · obtain ⟨p, dx, td, ts, ds, ss, rfl, _⟩ := h
    rfl
  · obtain ⟨p, dx, td, ts, ds, ss, rfl, R, q⟩ := h
    refine ⟨_, pss_one (ps_ret (pe_callB call_len_seq (by rfl) T.z_len PySem.boot_len (pa_cons (pe_fld (pv 0) rfl) pa_nil))), ?_⟩
    refine ⟨_, rfl, p, _, dx, _, _, rfl, R.ob, T.cl, T.nD, flds_days _ _, td, _, rfl, .inr (.inl R.td.rd), ?_⟩
    rw [List.length_map]
    exact q
def spDays (C : Addr) : Sp := fun vs H Q _ => ∃ p dx td ts ds ss, vs = [.ref p] ∧ RingAt C H p dx td ts ds ss ∧ Q (.ref td) H
def spStarts (C : Addr) : Sp := fun vs H Q _ => ∃ p dx td ts ds ss, vs = [.ref p] ∧ RingAt C H p dx td ts ds ss ∧ Q (.ref ts) H
def spBooks (C : Addr) : Sp := fun vs H Q _ => ∃ p dx td ts ds ss, vs = [.ref p] ∧ RingAt C H p dx td ts ds ss ∧ Q (.int ss.sum) H
theorem ok_days (T : Tx K mg) : FnOk P w K mg base CX0 1 T.a_rdays T.d_rdays P_rdays (spDays T.C) := by
  refine T.F_rdays.ok sc_rdays (fun vs H Q E h => ?_) (fun cdv A outer s H vs Q E hr h => ?_)
  · obtain ⟨p, dx, td, ts, ds, ss, rfl, _⟩ := h
    rfl
  · obtain ⟨p, dx, td, ts, ds, ss, rfl, R, q⟩ := h
    refine ⟨_, pss_one (ps_ret (pe_fld (pv 0) rfl)), ?_⟩
    exact ⟨_, rfl, p, _, dx, _, _, rfl, R.ob, T.cl, T.nD, flds_days _ _, q⟩
theorem ok_starts (T : Tx K mg) : FnOk P w K mg base CX0 1 T.a_rstarts T.d_rstarts P_rstarts (spStarts T.C) := by
  refine T.F_rstarts.ok sc_rstarts (fun vs H Q E h => ?_) (fun cdv A outer s H vs Q E hr h => ?_)
  · obtain ⟨p, dx, td, ts, ds, ss, rfl, _⟩ := h
    rfl
  · obtain ⟨p, dx, td, ts, ds, ss, rfl, R, q⟩ := h
    refine ⟨_, pss_one (ps_ret (pe_fld (pv 0) rfl)), ?_⟩
    exact ⟨_, rfl, p, _, dx, _, _, rfl, R.ob, T.cl, T.nS, flds_starts _ _, q⟩
theorem ok_books (T : Tx K mg) : FnOk P w K mg base CX0 1 T.a_rbooks T.d_rbooks P_rbooks (spBooks T.C) := by
  refine T.F_rbooks.ok sc_rbooks (fun vs H Q E h => ?_) (fun cdv A outer s H vs Q E hr h => ?_)
  · obtain ⟨p, dx, td, ts, ds, ss, rfl, _⟩ := h
    rfl
  · obtain ⟨p, dx, td, ts, ds, ss, rfl, R, q⟩ := h
    refine ⟨_, pss_one (ps_ret (pe_callB (cr_sumT rfl) (by rfl) T.z_sum (by decide +kernel) (pa_cons (pe_fld (pv 0) rfl) pa_nil))), ?_⟩
    exact ⟨_, rfl, p, _, dx, _, _, rfl, R.ob, T.cl, T.nS, flds_starts _ _, ts, ss, rfl, .inl R.ts.rd, q⟩
/-! ### check_reader -/
def spReader (C : Addr) : Sp := fun vs H Q _ => ∃ p dx td ts ds ss, ∃ r : Int, vs = [.ref p, .int r] ∧ RingAt C H p dx td ts ds ss ∧ 0 ≤ r ∧ r < ds.length ∧ Q .non H
theorem ok_reader (T : Tx K mg) : FnOk P w K mg base CX0 3 T.a_check_reader T.d_check_reader P_check_reader (spReader T.C) := by
  refine T.F_check_reader.ok sc_check_reader (fun vs H Q E h => ?_) (fun cdv A outer s H vs Q E hr h => ?_)
  · obtain ⟨p, dx, td, ts, ds, ss, r, rfl, _⟩ := h
    rfl
  · obtain ⟨p, dx, td, ts, ds, ss, r, rfl, R, h1, h2, q⟩ := h
    refine ⟨_, pss_one (ps_if (pt_not (pt_val (pe_call (ok_lies T) hr (by rfl) T.g_lies_between T.F_lies_between.kp T.b_lies_between .nil pass0
      (pa_cons (pv 1) (pa_cons pe_int (pa_cons (pe_op op_sub (pe_callB (call_lenI T.lenC T.lenF ((ok_len T).raw T.b_rlen .nil) hr pass0) (by rfl) T.z_len PySem.boot_len (pa_cons (pv 0) pa_nil)) pe_int) pa_nil)))))) (pss_one ps_never) pss_nil), ?_⟩
    have hl := R.ok.l8
    refine ⟨.int r, rfl, .ref p, rfl, p, dx, _, rfl, R.ob, p, dx, td, ts, ds, ss, rfl, R, (ds.length : Int), rfl, by omega, by omega, _, _, rfl, rfl, ?_⟩
    refine ⟨r, 0, (ds.length : Int) - 1, rfl, _, rfl, ?_⟩
    rw [in_lim h1 (show r ≤ (ds.length : Int) - 1 by omega)]
    exact iteF q
end
end Rp
namespace Rp
open PySem PySem.Spec PyProof.Rows L2 Rz Rm
/-! ### the pace -/
/-- days that readers need -/
structure Dys (ds : List Int) : Prop where
  ne : 0 < ds.length
  d1 : ∀ y ∈ ds, 1 ≤ y
theorem Good.dys {ds ss : List Int} (G : Good ds ss) : Dys ds := ⟨by have := G.l2; omega, fun y h => (G.d1 y h).1⟩
def mx (ds : List Int) : Int := ds.foldr max 0
theorem mx_nn : ∀ ds : List Int, 0 ≤ mx ds
  | [] => Int.le_refl _
  | a :: r => by
    have := mx_nn r
    show 0 ≤ max a (mx r)
    omega
theorem le_mx : ∀ {ds : List Int} {y : Int}, y ∈ ds → y ≤ mx ds
  | a :: r, y, h => by
    show y ≤ max a (mx r)
    rcases List.mem_cons.mp h with e | e
    · omega
    · have := le_mx e
      omega
theorem mx_le : ∀ {ds : List Int} {M : Int}, 0 ≤ M → (∀ y ∈ ds, y ≤ M) → mx ds ≤ M
  | [], _, h, _ => h
  | a :: r, M, h, hu => by
    have h1 := hu a List.mem_cons_self
    have h2 := mx_le (ds := r) h fun y hy => hu y (List.mem_cons_of_mem _ hy)
    show max a (mx r) ≤ M
    omega
theorem mx_eq {ds : List Int} {M : Int} (D : Dys ds) (hM : M ∈ ds) (hMu : ∀ y ∈ ds, y ≤ M) : mx ds = M :=
  Int.le_antisymm (mx_le (by have := D.d1 M hM; omega) hMu) (le_mx hM)
theorem mx_mem : ∀ {ds : List Int}, ds ≠ [] → (∀ y ∈ ds, 0 ≤ y) → mx ds ∈ ds
  | [], h, _ => absurd rfl h
  | [a], _, h => by
    have h1 := h a (by simp)
    show max a 0 ∈ [a]
    rw [show max a 0 = a by omega]
    simp
  | a :: b :: r, _, h => by
    have ih := mx_mem (ds := b :: r) (by simp) fun y hy => h y (List.mem_cons_of_mem _ hy)
    show max a (mx (b :: r)) ∈ a :: b :: r
    by_cases c : a ≤ mx (b :: r)
    · rw [show max a (mx (b :: r)) = mx (b :: r) by omega]
      exact List.mem_cons_of_mem _ ih
    · rw [show max a (mx (b :: r)) = a by omega]
      exact List.mem_cons_self
theorem Dys.mem {ds : List Int} (D : Dys ds) : mx ds ∈ ds := mx_mem (fun e => by
  have := D.ne
  rw [e] at this
  exact absurd this (Nat.lt_irrefl _)) fun y h => by have := D.d1 y h; omega
def gq (ds : List Int) (b : Int) : Int := ((Nat.gcd ds.sum.natAbs b.natAbs : Nat) : Int)
/-- the pace's two numbers -/
def pX (ds : List Int) (b : Int) : Int := if ds.sum ≤ mx ds * b then mx ds else ds.sum / gq ds b
def pY (ds : List Int) (b : Int) : Int := if ds.sum ≤ mx ds * b then 1 else b / gq ds b
theorem gq_facts {ds : List Int} {b : Int} (h : 1 ≤ b) : 1 ≤ gq ds b ∧ gq ds b ≤ b ∧ gq ds b ∣ ds.sum ∧ gq ds b ∣ b := by
  have g0 : 0 < Nat.gcd ds.sum.natAbs b.natAbs := Nat.gcd_pos_of_pos_right _ (by omega)
  have gle : Nat.gcd ds.sum.natAbs b.natAbs ≤ b.natAbs := Nat.le_of_dvd (by omega) (Nat.gcd_dvd_right _ _)
  unfold gq
  exact ⟨by omega, by omega, Int.ofNat_dvd_left.mpr (Nat.gcd_dvd_left _ _), Int.ofNat_dvd_left.mpr (Nat.gcd_dvd_right _ _)⟩
section
variable {P : Program} {w : World} {K : PySem.W.Frag} {mg : Str → Option Value} {base : Heap}
/-! ### check_part -/
def spPart : Sp := fun vs H Q _ => ∃ (part : Str) (v l n : Addr) (ns : List Int) (lo hi f m : Int), vs = [.str part, .ref v, .ref l, .ref n] ∧ Tq H v (ns.map V.int) ∧ H l = some (.tup [.int lo, .int hi]) ∧ H n = some (.tup [.int f, .int m]) ∧
  (∀ y ∈ ns, lo ≤ y ∧ y ≤ hi) ∧ f ≤ ns.length ∧ (ns.length : Int) ≤ m ∧ ∀ H', Same H H' → Q .non H'
theorem get_int {ns : List Int} {i : Nat} {y : V} (h : (ns.map V.int)[i]? = some y) : ∃ z, ns[i]? = some z ∧ y = .int z := by
  rw [List.getElem?_map] at h
  cases e : ns[i]? with
  | none =>
    rw [e] at h
    cases h
  | some z =>
    rw [e] at h
    exact ⟨z, rfl, (Option.some.inj h).symm⟩
theorem ok_part (T : Tx K mg) : FnOk P w K mg base CX0 3 T.a_check_part T.d_check_part P_check_part spPart := by
  refine T.F_check_part.ok sc_check_part (fun vs H Q E h => ?_) (fun cdv A outer s H vs Q E hr h => ?_)
  · obtain ⟨part, v, l, n, ns, lo, hi, f, m, rfl, _⟩ := h
    rfl
  · obtain ⟨part, v, l, n, ns, lo, hi, f, m, rfl, hv, hl, hn, hall, hf, hm, q⟩ := h
    have nd := sc_check_part.nd
    refine ⟨_, pss_cons (ps_if (pt_not (pt_val (pe_callB call_isi (by rfl) T.z_isinstance (by decide +kernel) (pa_cons (pv 1) (pa_cons (pe_bltn (v := .ty "tuple") (u := .type "tuple") (by rfl) T.z_tuple (by decide +kernel) rfl) pa_nil))))) (pss_one ps_never) pss_nil)
      (pss_cons (ps_asg (pv 2) (pg_tup rfl (pgs_cons (pg_name (i := 4) nd rfl (.inl rfl)) (pgs_cons (pg_name (i := 5) nd rfl (.inl rfl)) pgs_nil))))
      (pss_cons (ps_asg (pv 3) (pg_tup rfl (pgs_cons (pg_name (i := 6) nd rfl (.inl rfl)) (pgs_cons (pg_name (i := 7) nd rfl (.inl rfl)) pgs_nil))))
      (pss_cons (ps_for PassesOwn.never rfl (pi_enumT (by rfl) T.z_enumerate (pa_cons (pv 1) pa_nil)) (pg_tup rfl (pgs_cons (pg_name (i := 8) nd rfl (.inl rfl)) (pgs_cons (pg_name (i := 9) nd rfl (.inl rfl)) pgs_nil)))
        (pss_one (ps_if (PW.pt (pw_or (pt_cmpR op_ge (pv 8) (pv 7) (nomark _)) (pw_or1 (pt_not (pt_val (pe_call (ok_lies T) hr (by rfl) T.g_lies_between T.F_lies_between.kp T.b_lies_between .nil pass0 (pa_cons (pv 9) (pa_cons (pv 4) (pa_cons (pv 5) pa_nil)))))))))
          (pss_one ps_never) pss_nil)))
      (pss_one (ps_if (pt_cmpR op_lt (pe_callB call_len_seq (by rfl) T.z_len PySem.boot_len (pa_cons (pv 1) pa_nil)) (pv 6) (nomark _)) (pss_one ps_never) pss_nil))))), ?_⟩
    -- isinstance(values, tuple)
    refine ⟨.ref v, rfl, .ref v, .ty "tuple", .type "tuple", .type "tuple", true, rfl, .ty _, hv.ty, kit_ty (by decide +kernel), true, rfl, iteF ?_⟩
    -- low, high = limits; fewest, most = lengths
    refine ⟨.ref l, rfl, l, _, rfl, .of hl, rfl, _, _, rfl, _, _, rfl, rfl, ?_⟩
    refine ⟨.ref n, rfl, n, _, rfl, .of hn, rfl, _, _, rfl, _, _, rfl, rfl, ?_⟩
    -- for index, value in enumerate(values)
    refine ⟨.ref v, rfl, v, _, rfl, .inl hv.rd, for_it walk_enumT (fun i σ H' => ∃ y8 y9, σ = [some (.str part), some (.ref v), some (.ref l), some (.ref n), some (.int lo), some (.int hi), some (.int f), some (.int m), y8, y9] ∧ Same H H')
      ⟨none, none, rfl, Same.refl H⟩ (fun i σ H' _ ⟨_, _, _, sm⟩ => .inl (hv.same sm).rd) ?_ ?_⟩
    · rintro i x σ H1 H2 hi1 ⟨y8, y9, rfl, sm⟩ ⟨t, a, b, rfl, nt, rfl, ha, hb⟩
      have ha' : a = .int (i : Nat) := (Option.some.inj ha).symm
      subst ha'
      obtain ⟨z, hz, rfl⟩ := get_int hb
      rw [List.length_map] at hi1
      have hz2 := hall z (List.mem_of_getElem? hz)
      refine ⟨t, _, rfl, .of upd_same, rfl, _, _, rfl, _, _, rfl, rfl, ?_⟩
      refine ⟨.int (i : Nat), rfl, .int m, rfl, _, _, rfl, rfl, _, rfl, ?_⟩
      rw [decide_eq_false (show ¬ m ≤ ((i : Nat) : Int) by omega)]
      refine iteF ?_
      refine ⟨.int z, rfl, .int lo, rfl, .int hi, rfl, z, lo, hi, rfl, _, rfl, ?_⟩
      rw [in_lim hz2.1 hz2.2]
      exact iteF ⟨_, _, rfl, sm.trans (same_upd nt)⟩
    · rintro σ H1 ⟨y8, y9, rfl, sm⟩
      refine ⟨.ref v, rfl, v, _, rfl, .inr ((.inl (hv.same sm).rd)), .int f, rfl, _, _, rfl, rfl, _, rfl, ?_⟩
      rw [List.length_map, decide_eq_false (show ¬ (ns.length : Int) < f by omega)]
      exact iteF (q H1 sm)
/-! ### Ring.__init__ -/
def spInit (C : Addr) : Sp := fun vs H Q _ => ∃ (p dx td ts : Addr) (ds ss : List Int), vs = [.ref p, .ref td, .ref ts] ∧ H p = some (.ins C dx []) ∧ Tq H td (ds.map V.int) ∧ Tq H ts (ss.map V.int) ∧ Good ds ss ∧
  ∀ H', RingAt C H' p dx td ts ds ss → (∀ b o, H b = some o → b ≠ p → H' b = some o) → Q .non H'
theorem ok_init (T : Tx K mg) : FnOk P w K mg base CX0 4 T.a_rinit T.d_rinit P_rinit (spInit T.C) := by
  refine T.F_rinit.ok sc_rinit (fun vs H Q E h => ?_) (fun cdv A outer s H vs Q E hr h => ?_)
  · obtain ⟨p, dx, td, ts, ds, ss, rfl, _⟩ := h
    rfl
  · obtain ⟨p, dx, td, ts, ds, ss, rfl, hp, hd, hs, G, q⟩ := h
    obtain ⟨u1, c1⟩ := T.c_MOST_DAYS
    obtain ⟨u2, c2⟩ := T.c_FEWEST_READERS
    obtain ⟨u3, c3⟩ := T.c_MOST_READERS
    obtain ⟨u4, c4⟩ := T.c_MOST_BOOKS
    have l2 := G.l2
    have l8 := G.l8
    have ls := G.ls
    refine ⟨_, pss_cons (ps_expr (pe_call (ok_part T) hr (by rfl) T.g_check_part T.F_check_part.kp T.b_check_part .nil pass0 (pa_cons pe_str (pa_cons (pv 1) (pa_cons (pe_tup (pa_cons pe_int (pa_cons (pe_glob (v := .int 30) (by rfl) c1 ⟨_, rfl⟩) pa_nil))) (pa_cons (pe_tup (pa_cons (pe_glob (v := .int 2) (by rfl) c2 ⟨_, rfl⟩) (pa_cons (pe_glob (v := .int 8) (by rfl) c3 ⟨_, rfl⟩) pa_nil))) pa_nil))))))
      (pss_cons (ps_expr (pe_call (ok_part T) hr (by rfl) T.g_check_part T.F_check_part.kp T.b_check_part .nil pass0 (pa_cons pe_str (pa_cons (pv 2) (pa_cons (pe_tup (pa_cons pe_int (pa_cons (pe_glob (v := .int 12) (by rfl) c4 ⟨_, rfl⟩) pa_nil)))
        (pa_cons (pe_tup (pa_cons (pe_callB call_len_seq (by rfl) T.z_len PySem.boot_len (pa_cons (pv 1) pa_nil)) (pa_cons (pe_callB call_len_seq (by rfl) T.z_len PySem.boot_len (pa_cons (pv 1) pa_nil)) pa_nil))) pa_nil))))))
      (pss_cons (ps_if (pt_not (pt_chain op_le op_le pe_int (pe_callB (cr_sumT rfl) (by rfl) T.z_sum (by decide +kernel) (pa_cons (pv 2) pa_nil)) (pe_glob (v := .int 12) (by rfl) c4 ⟨_, rfl⟩))) (pss_one ps_never) pss_nil)
      (pss_cons (ps_fld (pv 0) (pe_callTy call_tupleT (by rfl) T.z_tuple (by decide +kernel) (pa_cons (pv 1) pa_nil)) rfl)
      (pss_one (ps_fld (pv 0) (pe_callTy call_tupleT (by rfl) T.z_tuple (by decide +kernel) (pa_cons (pv 2) pa_nil)) rfl))))), ?_⟩
    -- check_part("days", ..)
    refine ⟨.ref td, rfl, (by show 2 ≤ sizeLine; decide), fun a1 h1 => ⟨(by show 2 ≤ sizeLine; decide), fun a2 h2 => ?_⟩⟩
    have s1 := same_upd (o := .tup [.int 1, .int 30]) h1
    have s2 := same_upd (o := .tup [.int 2, .int 8]) h2
    refine ⟨_, td, a1, a2, ds, 1, 30, 2, 8, rfl, (hd.same s1).same s2, s2 _ _ upd_same, upd_same, G.d1, by omega, by omega, fun H1 s3 => ?_⟩
    have t1 : Same H H1 := (s1.trans s2).trans s3
    -- check_part("starts", ..)
    refine ⟨.ref ts, rfl, (by show 2 ≤ sizeLine; decide), fun a3 h3 => ?_⟩
    have s4 := same_upd (o := .tup [.int 0, .int 12]) h3
    refine ⟨.ref td, rfl, td, _, rfl, .inr (.inl (hd.same (t1.trans s4)).rd), .ref td, rfl, td, _, rfl, .inr (.inl (hd.same (t1.trans s4)).rd), (by show 2 ≤ sizeLine; decide), fun a4 h4 => ?_⟩
    have s5 := same_upd (o := .tup [.int ((ds.map V.int).length : Nat), .int ((ds.map V.int).length : Nat)]) h4
    refine ⟨_, ts, a3, a4, ss, 0, 12, ((ds.map V.int).length : Nat), ((ds.map V.int).length : Nat), rfl, ((hs.same t1).same s4).same s5, s5 _ _ upd_same, upd_same, G.s0, by rw [List.length_map]; omega, by rw [List.length_map]; omega, fun H2 s6 => ?_⟩
    have t2 : Same H H2 := ((t1.trans s4).trans s5).trans s6
    -- not 1 <= sum(starts) <= MOST_BOOKS
    refine ⟨.ref ts, rfl, ts, ss, rfl, .inl (hs.same t2).rd, _, _, rfl, rfl, _, rfl, ?_⟩
    rw [decide_eq_true G.b1]
    refine iteT ⟨_, _, rfl, rfl, _, rfl, ?_⟩
    rw [decide_eq_true G.b12]
    refine iteF ?_
    -- the two attributes
    refine ⟨.ref td, rfl, td, _, rfl, .inl (hd.same t2).rd, _, rfl, p, T.C, dx, [], rfl, t2 _ _ hp, T.cl, T.nD, (by show 0 < 1000; decide), ?_⟩
    have npt : ts ≠ p := hs.ne hp
    have npd : td ≠ p := hd.ne hp
    refine ⟨.ref ts, rfl, ts, ss.map V.int, rfl, .inl ((hs.same t2).put npt).rd, _, rfl, p, T.C, dx, _, rfl, upd_same, T.cl, T.nS, (by show 1 < 1000; decide), ?_⟩
    refine q _ ⟨upd_same, ((hd.same t2).put npd).put npd, ((hs.same t2).put npt).put npt, G⟩ fun b o e hb => ?_
    rw [upd_ne hb, upd_ne hb]
    exact t2 _ _ e
end
end Rp
namespace Rp
open PySem PySem.Spec PyProof.Rows L2 Rz Rm
section
variable {P : Program} {w : World} {K : PySem.W.Frag} {mg : Str → Option Value} {base : Heap}
def spSlow : Sp := fun vs H Q _ => ∃ (td : Addr) (ds : List Int) (b : Int), vs = [.ref td, .int b] ∧ Tq H td (ds.map V.int) ∧ Dys ds ∧ 0 ≤ b ∧ b < 2 ^ 64 ∧ Q (.bl (decide (ds.sum ≤ mx ds * b))) H
theorem ok_slow (T : Tx K mg) : FnOk P w K mg base CX0 1 T.a_slowest_decides T.d_slowest_decides P_slowest_decides spSlow := by
  refine T.F_slowest_decides.ok sc_slowest_decides (fun vs H Q E h => ?_) (fun cdv A outer s H vs Q E hr h => ?_)
  · obtain ⟨td, ds, b, rfl, _⟩ := h
    rfl
  · obtain ⟨td, ds, b, rfl, hd, D, b0, b1, q⟩ := h
    refine ⟨_, pss_one (ps_ret (pe_cmpR op_ge (pe_op op_mul (pe_callB (cr_maxT rfl) (by rfl) T.z_max (by decide +kernel) (pa_cons (pv 0) pa_nil)) (pv 1)) (pe_callB (cr_sumT rfl) (by rfl) T.z_sum (by decide +kernel) (pa_cons (pv 0) pa_nil)) (nomark _))), ?_⟩
    refine ⟨.ref td, rfl, td, ds, rfl, .inl hd.rd, D.ne, fun M hM hMu => ⟨.int b, rfl, M, b, rfl, rfl, .inr ⟨by omega, b1⟩, .ref td, rfl, td, ds, rfl, .inl hd.rd, _, _, rfl, rfl, ?_⟩⟩
    rw [mx_eq D hM hMu] at q
    exact q
def spRound : Sp := fun vs H Q _ => ∃ (td : Addr) (ds : List Int) (b : Int), vs = [.ref td, .int b] ∧ Tq H td (ds.map V.int) ∧ 1 ≤ b ∧ b ≤ 1000 ∧ ∀ H' t, Same H H' → H' t = some (.tup [.int (ds.sum / gq ds b), .int (b / gq ds b)]) → Q (.ref t) H'
theorem ok_round (T : Tx K mg) : FnOk P w K mg base CX0 1 T.a_round_pace T.d_round_pace P_round_pace spRound := by
  refine T.F_round_pace.ok sc_round_pace (fun vs H Q E h => ?_) (fun cdv A outer s H vs Q E hr h => ?_)
  · obtain ⟨td, ds, b, rfl, _⟩ := h
    rfl
  · obtain ⟨td, ds, b, rfl, hd, b1, b2, q⟩ := h
    have nd := sc_round_pace.nd
    refine ⟨_, pss_cons (ps_set (i := 2) nd rfl (.inl rfl) (pe_callBfun cr_gcd (by rfl) T.g_gcd (pa_cons (pe_callB (cr_sumT rfl) (by rfl) T.z_sum (by decide +kernel) (pa_cons (pv 0) pa_nil)) (pa_cons (pv 1) pa_nil))))
      (pss_one (ps_ret (pe_tup (pa_cons (pe_op op_fdiv (pe_callB (cr_sumT rfl) (by rfl) T.z_sum (by decide +kernel) (pa_cons (pv 0) pa_nil)) (pv 2)) (pa_cons (pe_op op_fdiv (pv 1) (pv 2)) pa_nil))))), ?_⟩
    refine ⟨.ref td, rfl, td, ds, rfl, .inl hd.rd, .int b, rfl, ds.sum, b, rfl, ?_⟩
    obtain ⟨g0, gle, _, _⟩ := gq_facts (ds := ds) b1
    unfold gq at g0 gle q
    generalize ((Nat.gcd ds.sum.natAbs b.natAbs : Nat) : Int) = g at g0 gle q ⊢
    refine ⟨.ref td, rfl, td, ds, rfl, .inl hd.rd, .int g, rfl, _, _, rfl, rfl, ⟨by omega, by omega⟩, .int b, rfl, .int g, rfl, _, _, rfl, rfl, ⟨by omega, by omega⟩, (by show 2 ≤ sizeLine; decide), fun t ht => ?_⟩
    exact q _ t (same_upd ht) upd_same
def spPace : Sp := fun vs H Q _ => ∃ (td : Addr) (ds : List Int) (b : Int), vs = [.ref td, .int b] ∧ Tq H td (ds.map V.int) ∧ Dys ds ∧ 1 ≤ b ∧ b ≤ 1000 ∧
  ∀ H' t, Same H H' → H' t = some (.tup [.int (pX ds b), .int (pY ds b)]) → Q (.ref t) H'
theorem ok_pace_of (T : Tx K mg) : FnOk P w K mg base CX0 2 T.a_pace_of T.d_pace_of P_pace_of spPace := by
  refine T.F_pace_of.ok sc_pace_of (fun vs H Q E h => ?_) (fun cdv A outer s H vs Q E hr h => ?_)
  · obtain ⟨td, ds, b, rfl, _⟩ := h
    rfl
  · obtain ⟨td, ds, b, rfl, hd, D, b1, b12, q⟩ := h
    have nd := sc_pace_of.nd
    refine ⟨_, pss_cons (ps_if (pt_val (pe_call (ok_slow T) hr (by rfl) T.g_slowest_decides T.F_slowest_decides.kp T.b_slowest_decides .nil pass0 (pa_cons (pv 0) (pa_cons (pv 1) pa_nil))))
        (pss_one (ps_ret (pe_tup (pa_cons (pe_callB (cr_maxT rfl) (by rfl) T.z_max (by decide +kernel) (pa_cons (pv 0) pa_nil)) (pa_cons pe_int pa_nil))))) pss_nil)
      (pss_one (ps_ret (pe_call (ok_round T) hr (by rfl) T.g_round_pace T.F_round_pace.kp T.b_round_pace .nil pass0 (pa_cons (pv 0) (pa_cons (pv 1) pa_nil))))), ?_⟩
    refine ⟨.ref td, rfl, .int b, rfl, td, ds, b, rfl, hd, D, by omega, by omega, _, rfl, ?_⟩
    by_cases hc : ds.sum ≤ mx ds * b
    · rw [decide_eq_true hc]
      refine iteT ?_
      refine ⟨.ref td, rfl, td, ds, rfl, .inl hd.rd, D.ne, fun M' hM' hMu' => ⟨(by show 2 ≤ sizeLine; decide), fun t ht => ?_⟩⟩
      refine q _ t (same_upd ht) ?_
      rw [upd_same, pX, pY, if_pos hc, if_pos hc, mx_eq D hM' hMu']
    · rw [decide_eq_false hc]
      refine iteF ?_
      refine ⟨.ref td, rfl, .int b, rfl, td, ds, b, rfl, hd, b1, b12, fun H' t s0 ht => q H' t s0 ?_⟩
      rw [ht, pX, pY, if_neg hc, if_neg hc]
def spRPace (C : Addr) : Sp := fun vs H Q _ => ∃ p dx td ts ds ss, vs = [.ref p] ∧ RingAt C H p dx td ts ds ss ∧ ∀ H' t, Same H H' → H' t = some (.tup [.int (pX ds ss.sum), .int (pY ds ss.sum)]) → Q (.ref t) H'
theorem ok_rpace (T : Tx K mg) : FnOk P w K mg base CX0 3 T.a_rpace T.d_rpace P_rpace (spRPace T.C) := by
  refine T.F_rpace.ok sc_rpace (fun vs H Q E h => ?_) (fun cdv A outer s H vs Q E hr h => ?_)
  · obtain ⟨p, dx, td, ts, ds, ss, rfl, _⟩ := h
    rfl
  · obtain ⟨p, dx, td, ts, ds, ss, rfl, R, q⟩ := h
    have b12 := R.ok.b12
    refine ⟨_, pss_one (ps_ret (pe_call (ok_pace_of T) hr (by rfl) T.g_pace_of T.F_pace_of.kp T.b_pace_of .nil pass0 (pa_cons (pe_fld (pv 0) rfl) (pa_cons (pe_callB (cr_sumT rfl) (by rfl) T.z_sum (by decide +kernel) (pa_cons (pe_fld (pv 0) rfl) pa_nil)) pa_nil)))), ?_⟩
    exact ⟨_, rfl, p, _, dx, _, _, rfl, R.ob, T.cl, T.nD, flds_days _ _, _, rfl, p, _, dx, _, _, rfl, R.ob, T.cl, T.nS, flds_starts _ _, ts, ss, rfl, .inl R.ts.rd, td, ds, ss.sum, rfl, R.td, R.ok.dys, R.ok.b1, by omega, q⟩
end
end Rp
namespace Rp
open PySem PySem.Spec PyProof.Rows L2 Rz Rm
theorem at_ix {ds : List Int} {z : Int} (h1 : -(ds.length : Int) ≤ z) (h2 : z < ds.length) : atI (ds.map V.int) z = some (.int (at' ds z)) := by
  have hl : 0 < ds.length := by omega
  have h0 := Int.emod_nonneg z (show (ds.length : Int) ≠ 0 by omega)
  have hlt := Int.emod_lt_of_pos z (show (0 : Int) < ds.length by omega)
  have e : ixN (ds.map V.int).length z = some (z % (ds.length : Int)).toNat := by
    unfold ixN
    rw [List.length_map]
    by_cases h : 0 ≤ z
    · rw [if_pos h, if_pos h2, Int.emod_eq_of_lt h h2]
    · rw [if_neg h, if_pos h1]
      have e2 := Int.add_mul_emod_self_left z (ds.length : Int) 1
      rw [Int.mul_one, Int.emod_eq_of_lt (a := z + ds.length) (by omega) (by omega)] at e2
      rw [e2]
  unfold atI
  rw [e]
  show (ds.map V.int)[(z % (ds.length : Int)).toNat]? = _
  rw [List.getElem?_map]
  unfold at'
  rw [List.getD_eq_getElem?_getD, List.getElem?_eq_getElem (show (z % (ds.length : Int)).toNat < ds.length by omega)]
  rfl
theorem Good.ring {ds ss : List Int} (G : Good ds ss) {M : Int} (hM : M ∈ ds) (hMu : ∀ y ∈ ds, y ≤ M) : Rm.Ring ds.length (at' ds) (at' ss) ss.sum ds.sum M :=
  ring_of (by have := G.l2; omega) G.ls (fun y h => (G.d1 y h).1) (fun y h => (G.s0 y h).1) G.b1 hM hMu
theorem exists_max : ∀ {ds : List Int}, ds ≠ [] → ∃ M, M ∈ ds ∧ ∀ y ∈ ds, y ≤ M
  | [], h => absurd rfl h
  | [a], _ => ⟨a, by simp, by simp⟩
  | a :: b :: r, _ => by
    obtain ⟨M, h1, h2⟩ := exists_max (ds := b :: r) (by simp)
    by_cases h : a ≤ M
    · exact ⟨M, List.mem_cons_of_mem _ h1, fun y hy => by
        rcases List.mem_cons.mp hy with e | e
        · omega
        · exact h2 y e⟩
    · exact ⟨a, List.mem_cons_self, fun y hy => by
        rcases List.mem_cons.mp hy with e | e
        · omega
        · have := h2 y e; omega⟩
theorem Good.max {ds ss : List Int} (G : Good ds ss) : ∃ M, M ∈ ds ∧ ∀ y ∈ ds, y ≤ M := exists_max (by
  intro e
  have := G.l2
  rw [e] at this
  simp at this)
theorem sum_bounds : ∀ {ds : List Int}, (∀ y ∈ ds, 1 ≤ y ∧ y ≤ 30) → (ds.length : Int) ≤ ds.sum ∧ ds.sum ≤ 30 * ds.length
  | [], _ => by simp
  | a :: r, h => by
    have h1 := h a List.mem_cons_self
    have ih := sum_bounds (ds := r) fun y hy => h y (List.mem_cons_of_mem _ hy)
    rw [List.sum_cons, List.length_cons]
    omega
theorem max_if (i j : Int) : (if j > i then j else i) = max i j := by
  by_cases h : j > i
  · rw [if_pos h]
    omega
  · rw [if_neg h]
    omega
section
variable {P : Program} {w : World} {K : PySem.W.Frag} {mg : Str → Option Value} {base : Heap}
/-! ### end_day -/
def spEnd (C : Addr) : Sp := fun vs H Q _ => ∃ p dx td ts ds ss, ∃ r x : Int, vs = [.ref p, .int r, .int x] ∧ RingAt C H p dx td ts ds ss ∧ 0 ≤ r ∧ r < ds.length ∧ 0 ≤ x ∧ Q (.int (Rm.E (at' ds) (at' ss) r x)) H
/-- the loop's slots ahead of step i -/
def edS (p : Addr) (r x B M g L : Int) (ds ss : List Int) (i : Nat) (y10 y11 : Option V) : L2.St :=
  [some (.ref p), some (.int r), some (.int x), some (.int B), some (.int M), some (.int g), some (.int L), some (.int (sumBack (at' ds) r i)), some (.int (if i = 0 then 0 else maxBack (at' ds) r (i - 1))), some (.int (x - sumBack (at' ss) r i)), y10, y11]
theorem met_next {ds : List Int} (h1 : ∀ i, 1 ≤ at' ds i) (r : Int) (i : Nat) : (if at' ds (r - i) > (if i = 0 then 0 else maxBack (at' ds) r (i - 1)) then at' ds (r - i) else (if i = 0 then 0 else maxBack (at' ds) r (i - 1))) = maxBack (at' ds) r i := by
  rw [max_if]
  cases i with
  | zero =>
    have := h1 (r - (0 : Nat))
    show max 0 (at' ds (r - (0 : Nat))) = at' ds r
    rw [show r - ((0 : Nat) : Int) = r by omega] at this ⊢
    omega
  | succ i =>
    rw [if_neg (Nat.succ_ne_zero i)]
    show max (maxBack (at' ds) r i) (at' ds (r - (i + 1 : Nat))) = max (maxBack (at' ds) r i) (at' ds (r - (i + 1 : Nat)))
    rfl
theorem ok_end (T : Tx K mg) : FnOk P w K mg base CX0 3 T.a_end_day T.d_end_day P_end_day (spEnd T.C) := by
  refine T.F_end_day.ok sc_end_day (fun vs H Q E h => ?_) (fun cdv A outer s H vs Q E hr h => ?_)
  · obtain ⟨p, dx, td, ts, ds, ss, r, x, rfl, _⟩ := h
    rfl
  · obtain ⟨p, dx, td, ts, ds, ss, r, x, rfl, R, r0, r1, x0, q⟩ := h
    have nd := sc_end_day.nd
    have G := R.ok
    have l2 := G.l2
    have l8 := G.l8
    have ls := G.ls
    have rdD : ∀ {Q' : VK} {E' : XK}, Q' (.ref td) H → spDays T.C [.ref p] H Q' E' := fun z => ⟨p, dx, td, ts, ds, ss, rfl, R, z⟩
    have rdS : ∀ {Q' : VK} {E' : XK}, Q' (.ref ts) H → spStarts T.C [.ref p] H Q' E' := fun z => ⟨p, dx, td, ts, ds, ss, rfl, R, z⟩
    refine ⟨_, pss_cons (ps_set (i := 3) nd rfl (.inl rfl) (pe_prop (pv 0) T.cl T.q_rbooks (ok_books T) hr T.b_rbooks .nil pass0 rfl))
      (pss_cons (ps_set (i := 4) nd rfl (.inl rfl) (pe_callB (cr_maxT rfl) (by rfl) T.z_max (by decide +kernel) (pa_cons (pe_prop (pv 0) T.cl T.q_rdays (ok_days T) hr T.b_rdays .nil pass0 rfl) pa_nil)))
      (pss_cons (ps_set (i := 5) nd rfl (.inl rfl) (pe_op op_sub (pe_callB (cr_sumT rfl) (by rfl) T.z_sum (by decide +kernel) (pa_cons (pe_prop (pv 0) T.cl T.q_rdays (ok_days T) hr T.b_rdays .nil pass0 rfl) pa_nil)) (pe_op op_mul (pv 3) (pv 4))))
      (pss_cons (ps_asg3 pe_int (pg_name (i := 6) nd rfl (.inl rfl)) (pg_name (i := 7) nd rfl (.inl rfl)) (pg_name (i := 8) nd rfl (.inl rfl)))
      (pss_cons (ps_set (i := 9) nd rfl (.inl rfl) (pv 2))
      (pss_cons (ps_for PassesOwn.never rfl (pi_range1 (by rfl) T.z_range (pa_cons (pe_callB (call_lenI T.lenC T.lenF ((ok_len T).raw T.b_rlen .nil) hr pass0) (by rfl) T.z_len PySem.boot_len (pa_cons (pv 0) pa_nil)) pa_nil)) (pg_name (i := 10) nd rfl (.inl rfl))
        (pss_cons (ps_aug (i := 7) nd rfl (.inl rfl) (pe_ix ix_tup (pe_prop (pv 0) T.cl T.q_rdays (ok_days T) hr T.b_rdays .nil pass0 rfl) (pe_op op_sub (pv 1) (pv 10)) (fun _ _ => rfl)) ip_add)
        (pss_cons (ps_set (i := 8) nd rfl (.inl rfl) (pe_callB (call_max2 rfl) (by rfl) T.z_max (by decide +kernel) (pa_cons (pv 8) (pa_cons (pe_ix ix_tup (pe_prop (pv 0) T.cl T.q_rdays (ok_days T) hr T.b_rdays .nil pass0 rfl) (pe_op op_sub (pv 1) (pv 10)) (fun _ _ => rfl)) pa_nil))))
        (pss_cons (ps_set (i := 6) nd rfl (.inl rfl) (pe_callB (call_max2 rfl) (by rfl) T.z_max (by decide +kernel) (pa_cons (pv 6) (pa_cons (pe_op op_add (pv 7) (pe_op op_mul (pv 9) (pv 8))) pa_nil))))
        (pss_cons (ps_if (pt_cmpR op_ge (pv 9) (pv 3) (nomark _))
          (pss_cons (ps_set (i := 11) nd rfl (.inl rfl) (pe_ifExp (pt_cmpR op_gt (pv 5) pe_int (nomark _)) (pe_op op_fdiv (pv 9) (pv 3)) pe_int))
          (pss_one (ps_set (i := 6) nd rfl (.inl rfl) (pe_callB (call_max2 rfl) (by rfl) T.z_max (by decide +kernel) (pa_cons (pv 6) (pa_cons (pe_op op_add (pe_op op_add (pv 7) (pe_op op_mul (pv 9) (pv 4))) (pe_op op_mul (pv 11) (pv 5))) pa_nil)))))) pss_nil)
        (pss_cons (ps_aug (i := 9) nd rfl (.inl rfl) (pe_ix ix_tup (pe_prop (pv 0) T.cl T.q_rstarts (ok_starts T) hr T.b_rstarts .nil pass0 rfl) (pe_op op_sub (pv 1) (pv 10)) (fun _ _ => rfl)) ip_sub)
        (pss_one (ps_if (pt_cmpR op_lt (pv 9) pe_int (nomark _)) (pss_one ps_break) pss_nil))))))))
      (pss_one (ps_ret (pv 6)))))))), ?_⟩
    -- books, slowest, gain
    refine ⟨.ref p, rfl, p, dx, _, rfl, R.ob, p, dx, td, ts, ds, ss, rfl, R, ?_⟩
    refine ⟨.ref p, rfl, p, dx, _, rfl, R.ob, rdD ⟨td, ds, rfl, .inl R.td.rd, by omega, fun M hM hMu => ?_⟩⟩
    have RR := G.ring hM hMu
    have b1 := G.b1
    have b12 := G.b12
    have hM30 := G.d1 M hM
    have hT := sum_bounds G.d1
    have hBM : 0 ≤ ss.sum * M ∧ ss.sum * M ≤ 360 := by
      constructor
      · exact Int.mul_nonneg (by omega) (by omega)
      · have := Int.mul_le_mul_of_nonneg_right b12 (show 0 ≤ M by omega)
        omega
    refine ⟨.ref p, rfl, p, dx, _, rfl, R.ob, rdD ⟨td, ds, rfl, .inl R.td.rd, .int ss.sum, rfl, .int M, rfl, _, _, rfl, rfl, .inl ⟨by omega, by omega⟩, _, _, rfl, rfl, ?_⟩⟩
    -- latest = total = slowest_met = 0; left = number
    refine ⟨.int x, rfl, ?_⟩
    -- for step in range(len(ring))
    refine ⟨.ref p, rfl, p, dx, _, rfl, R.ob, p, dx, td, ts, ds, ss, rfl, R, (ds.length : Int), rfl, by omega, by omega, (ds.length : Int), rfl, by omega, by omega, for_range (lo := 0) (n := ((ds.length : Int) - 0).toNat)
      (fun i σ H' => H' = H ∧ ∃ L y10 y11, σ = edS p r x ss.sum M (ds.sum - ss.sum * M) L ds ss i y10 y11 ∧ sumBack (at' ss) r i ≤ x ∧ Sofar ds.length (at' ds) (at' ss) r x i L)
      ⟨rfl, 0, none, none, ?_, ?_, RR.sofar0 r x⟩ ?_ ?_⟩
    · show _ = ([some (.ref p), some (.int r), some (.int x), some (.int ss.sum), some (.int M), some (.int (ds.sum - ss.sum * M)), some (.int 0), some (.int 0), some (.int 0), some (.int (x - 0)), none, none] : L2.St)
      rw [show x - 0 = x by omega]
      rfl
    · show (0 : Int) ≤ x
      exact x0
    · rintro i σ H1 hi ⟨rfl, L, y10, y11, rfl, hle, SF⟩
      have hin : i < ds.length := by omega
      have e0 : (0 : Int) + (i : Int) = i := by omega
      have hix : atI (ds.map V.int) (r - (0 + (i : Int))) = some (.int (at' ds (r - i))) := by
        rw [e0]
        exact at_ix (by omega) (by omega)
      have hix2 : atI (ss.map V.int) (r - (0 + (i : Int))) = some (.int (at' ss (r - i))) := by
        rw [e0]
        exact at_ix (by omega) (by omega)
      -- total
      refine ⟨.int (sumBack (at' ds) r i), rfl, .ref p, rfl, p, dx, _, rfl, R.ob, rdD ⟨.int r, rfl, _, rfl, _, _, rfl, rfl, td, _, _, _, rfl, rfl, .inl R.td.rd, hix, _, _, rfl, rfl, ?_⟩⟩
      -- slowest_met
      refine ⟨_, rfl, .ref p, rfl, p, dx, _, rfl, R.ob, rdD ⟨.int r, rfl, _, rfl, _, _, rfl, rfl, td, _, _, _, rfl, rfl, .inl R.td.rd, hix, _, _, rfl, ?_⟩⟩
      rw [met_next RR.d1 r i]
      have hm1 : maxBack (at' ds) r i ≤ M := max_le RR.mu r i
      have hm0 : 1 ≤ maxBack (at' ds) r i := by
        have h1 := max_ge (f := at' ds) r (j := 0) (k := i) (Nat.zero_le _)
        have h2 := RR.d1 (r - (0 : Nat))
        omega
      -- latest
      refine ⟨.int L, rfl, .int (sumBack (at' ds) r (i + 1)), rfl, .int (x - sumBack (at' ss) r i), rfl, .int (maxBack (at' ds) r i), rfl, _, _, rfl, rfl, .inr ⟨by omega, by omega⟩, _, _, rfl, rfl, _, _, rfl, ?_⟩
      rw [max_if]
      have hch : sumBack (at' ds) r (i + 1) + (x - sumBack (at' ss) r i) * maxBack (at' ds) r i = ch (at' ds) (at' ss) r i x := rfl
      rw [hch]
      have hs : sumBack (at' ss) r (i + 1) = sumBack (at' ss) r i + at' ss (r - i) := rfl
      -- the end of a turn
      have fin : ∀ (L2 : Int) (y11' : Option V), Sofar ds.length (at' ds) (at' ss) r x (i + 1) L2 → tSeq (tAug 9 (tOp (rIxT K) (tProp T.C (spStarts T.C) [] E0 (tVar 0)) (tOp (rI0 fun i j => .int (i - j)) (tVar 1) (tVar 10))) (ipI fun i j => i - j)) (tIfS (tTest (tOp (rI0 fun i j => .bl (decide (i < j))) (tVar 9) (tC (.int 0)))) tBreak tNext)
          { nx := fun σ H' => H' = H1 ∧ ∃ L y10 y11, σ = edS p r x ss.sum M (ds.sum - ss.sum * M) L ds ss (i + 1) y10 y11 ∧ sumBack (at' ss) r (i + 1) ≤ x ∧ Sofar ds.length (at' ds) (at' ss) r x (i + 1) L,
            ct := fun σ H' => H' = H1 ∧ ∃ L y10 y11, σ = edS p r x ss.sum M (ds.sum - ss.sum * M) L ds ss (i + 1) y10 y11 ∧ sumBack (at' ss) r (i + 1) ≤ x ∧ Sofar ds.length (at' ds) (at' ss) r x (i + 1) L,
            rt := Q, bk := fun σ H' => tRet (tVar 6) { nx := fun _ H' => Q .non H', rt := Q } σ H' }
          [some (.ref p), some (.int r), some (.int x), some (.int ss.sum), some (.int M), some (.int (ds.sum - ss.sum * M)), some (.int L2), some (.int (sumBack (at' ds) r (i + 1))), some (.int (maxBack (at' ds) r i)), some (.int (x - sumBack (at' ss) r i)), some (.int (0 + (i : Int))), y11'] H1 := by
        intro L2 y11' SF2
        refine ⟨_, rfl, .ref p, rfl, p, dx, _, rfl, R.ob, rdS ⟨.int r, rfl, _, rfl, _, _, rfl, rfl, ts, _, _, _, rfl, rfl, .inl R.ts.rd, hix2, _, _, rfl, rfl, ?_⟩⟩
        have el : x - sumBack (at' ss) r i - at' ss (r - i) = x - sumBack (at' ss) r (i + 1) := by omega
        refine ⟨.int (x - sumBack (at' ss) r i - at' ss (r - i)), rfl, _, _, rfl, rfl, _, rfl, ?_⟩
        by_cases hb : x - sumBack (at' ss) r i - at' ss (r - i) < 0
        · rw [decide_eq_true hb]
          refine iteT ⟨.int L2, rfl, ?_⟩
          have := RR.E_of (RR.fin SF2 (.inr ⟨by omega, by omega⟩))
          rw [this] at q
          exact q
        · rw [decide_eq_false hb]
          refine iteF ⟨rfl, L2, some (.int (0 + (i : Int))), y11', ?_, by omega, SF2⟩
          unfold edS
          rw [← el]
          rfl
      -- if left >= books
      refine ⟨.int (x - sumBack (at' ss) r i), rfl, .int ss.sum, rfl, _, _, rfl, rfl, _, rfl, ?_⟩
      by_cases hb : ss.sum ≤ x - sumBack (at' ss) r i
      · rw [decide_eq_true hb]
        refine iteT ?_
        have go : ∀ rounds : Int, rounds = (if 0 < ds.sum - ss.sum * M then (x - sumBack (at' ss) r i) / ss.sum else 1) → _ := fun rounds hrd =>
          fin (max (max L (ch (at' ds) (at' ss) r i x)) (sumBack (at' ds) r (i + 1) + (x - sumBack (at' ss) r i) * M + rounds * (ds.sum - ss.sum * M))) (some (.int rounds)) (RR.step SF hle (by rw [if_pos hb, hrd]))
        -- rounds
        refine ⟨.int (ds.sum - ss.sum * M), rfl, _, _, rfl, rfl, _, rfl, ?_⟩
        by_cases hg : 0 < ds.sum - ss.sum * M
        · rw [decide_eq_true hg]
          refine iteT ⟨.int (x - sumBack (at' ss) r i), rfl, .int ss.sum, rfl, _, _, rfl, rfl, ⟨by omega, by omega⟩, ?_⟩
          refine ⟨_, rfl, .int (sumBack (at' ds) r (i + 1)), rfl, .int (x - sumBack (at' ss) r i), rfl, .int M, rfl, _, _, rfl, rfl, .inr ⟨by omega, by omega⟩, _, _, rfl, rfl, _, rfl, .int (ds.sum - ss.sum * M), rfl, _, _, rfl, rfl, .inr ⟨by omega, by omega⟩, _, _, rfl, rfl, _, _, rfl, ?_⟩
          rw [max_if]
          exact go _ (by rw [if_pos hg])
        · rw [decide_eq_false hg]
          refine iteF ?_
          refine ⟨_, rfl, .int (sumBack (at' ds) r (i + 1)), rfl, .int (x - sumBack (at' ss) r i), rfl, .int M, rfl, _, _, rfl, rfl, .inr ⟨by omega, by omega⟩, _, _, rfl, rfl, _, rfl, .int (ds.sum - ss.sum * M), rfl, _, _, rfl, rfl, .inr ⟨by omega, by omega⟩, _, _, rfl, rfl, _, _, rfl, ?_⟩
          rw [max_if]
          exact go _ (by rw [if_neg hg])
      · rw [decide_eq_false hb]
        refine iteF ?_
        exact fin _ y11 (RR.step SF hle (by rw [if_neg hb]))
    · rintro σ H1 ⟨rfl, L, y10, y11, rfl, hle, SF⟩
      have := RR.E_of (RR.fin SF (.inl (by omega)))
      rw [this] at q
      exact ⟨.int L, rfl, q⟩
end
end Rp
namespace Rp
open PySem PySem.Spec PyProof.Rows L2 Rz Rm
/-- readings and days of a repetition -/
def RepIs (T B M p q : Int) : Prop := (T ≤ M * B ∧ p = 1 ∧ q = M) ∨ (¬ T ≤ M * B ∧ p = B ∧ q = T)
theorem at_emod {ss : List Int} (i : Int) : at' ss (i % (ss.length : Int)) = at' ss i := by
  unfold at'
  rw [Int.emod_emod_of_dvd _ (Int.dvd_refl _)]
theorem emod_pred (z n : Int) : (z % n - 1) % n = (z - 1) % n := by
  have h := Int.emod_add_mul_ediv z n
  have e : z - 1 = (z % n - 1) + n * (z / n) := by omega
  rw [e, Int.add_mul_emod_self_left]
/-- the book of place q at reader r -/
def Bk (ss : List Int) (r q v : Int) : Prop := ∃ i : Nat, i < ss.length ∧ sumBack (at' ss) r i ≤ q ∧ q < sumBack (at' ss) r (i + 1) ∧ v = (ss.take ((r - i) % (ss.length : Int)).toNat).sum + (q - sumBack (at' ss) r i)
theorem Bk.inj {ss : List Int} (h0 : ∀ i, 0 ≤ at' ss i) {r q v v' : Int} (h : Bk ss r q v) (h' : Bk ss r q v') : v = v' := by
  obtain ⟨i, _, a1, a2, rfl⟩ := h
  obtain ⟨j, _, b1, b2, rfl⟩ := h'
  have e : i = j := by
    rcases Nat.lt_trichotomy i j with z | z | z
    · have := sum_mono h0 r (show i + 1 ≤ j by omega)
      omega
    · exact z
    · have := sum_mono h0 r (show j + 1 ≤ i by omega)
      omega
  rw [e]
section
variable {P : Program} {w : World} {K : PySem.W.Frag} {mg : Str → Option Value} {base : Heap}
/-! ### ring(reader, number) -/
def spCall (C : Addr) : Sp := fun vs H Q _ => ∃ p dx td ts ds ss, ∃ r x : Int, vs = [.ref p, .int r, .int x] ∧ RingAt C H p dx td ts ds ss ∧ 0 ≤ r ∧ r < ds.length ∧ 0 ≤ x ∧ x ≤ 1000000000000000000 ∧ Q (.int (Rm.E (at' ds) (at' ss) r x)) H
theorem ok_call (T : Tx K mg) : FnOk P w K mg base CX0 4 T.a_rcall T.d_rcall P_rcall (spCall T.C) := by
  refine T.F_rcall.ok sc_rcall (fun vs H Q E h => ?_) (fun cdv A outer s H vs Q E hr h => ?_)
  · obtain ⟨p, dx, td, ts, ds, ss, r, x, rfl, _⟩ := h
    rfl
  · obtain ⟨p, dx, td, ts, ds, ss, r, x, rfl, R, r0, r1, x0, x1, q⟩ := h
    obtain ⟨u1, c1⟩ := T.c_LATEST
    refine ⟨_, pss_cons (ps_expr (pe_call (ok_reader T) hr (by rfl) T.g_check_reader T.F_check_reader.kp T.b_check_reader .nil pass0 (pa_cons (pv 0) (pa_cons (pv 1) pa_nil))))
      (pss_cons (ps_expr (pe_call (ok_chk T) hr (by rfl) T.g_check_number T.F_check_number.kp T.b_check_number .nil pass0 (pa_cons (pv 2) (pa_cons pe_int (pa_cons (pe_glob (v := .int 1000000000000000000) (by rfl) c1 ⟨_, rfl⟩) pa_nil)))))
      (pss_one (ps_ret (pe_call (ok_end T) hr (by rfl) T.g_end_day T.F_end_day.kp T.b_end_day .nil pass0 (pa_cons (pv 0) (pa_cons (pv 1) (pa_cons (pv 2) pa_nil))))))), ?_⟩
    refine ⟨_, rfl, _, rfl, p, dx, td, ts, ds, ss, r, rfl, R, r0, r1, ?_⟩
    refine ⟨_, rfl, x, 0, 1000000000000000000, rfl, x0, x1, ?_⟩
    exact ⟨_, rfl, _, rfl, _, rfl, p, dx, td, ts, ds, ss, r, x, rfl, R, r0, r1, x0, q⟩
/-! ### begin_day -/
def spBegin (C : Addr) : Sp := fun vs H Q _ => ∃ p dx td ts ds ss, ∃ r x : Int, vs = [.ref p, .int r, .int x] ∧ RingAt C H p dx td ts ds ss ∧ 0 ≤ r ∧ r < ds.length ∧ 0 ≤ x ∧ x ≤ 1000000000000000000 ∧ Q (.int (Rm.E (at' ds) (at' ss) r x - at' ds r)) H
theorem ok_begin (T : Tx K mg) : FnOk P w K mg base CX0 5 T.a_begin_day T.d_begin_day P_begin_day (spBegin T.C) := by
  refine T.F_begin_day.ok sc_begin_day (fun vs H Q E h => ?_) (fun cdv A outer s H vs Q E hr h => ?_)
  · obtain ⟨p, dx, td, ts, ds, ss, r, x, rfl, _⟩ := h
    rfl
  · obtain ⟨p, dx, td, ts, ds, ss, r, x, rfl, R, r0, r1, x0, x1, q⟩ := h
    refine ⟨_, pss_one (ps_ret (pe_op op_sub (pe_callI (pv 0) T.callC ((ok_call T).raw T.b_rcall .nil) hr pass0 (pa_cons (pv 1) (pa_cons (pv 2) pa_nil)))
      (pe_ix ix_tup (pe_prop (pv 0) T.cl T.q_rdays (ok_days T) (hr.mono (by decide : 2 ≤ 4)) T.b_rdays .nil pass0 rfl) (pv 1) (fun _ _ => rfl)))), ?_⟩
    refine ⟨_, rfl, p, rfl, _, rfl, _, rfl, ⟨dx, _, R.ob⟩, p, dx, td, ts, ds, ss, r, x, rfl, R, r0, r1, x0, x1, ?_⟩
    exact ⟨_, rfl, p, dx, _, rfl, R.ob, p, dx, td, ts, ds, ss, rfl, R, _, rfl, td, _, _, _, rfl, rfl, .inl R.td.rd, at_ix (by omega) r1, _, _, rfl, rfl, q⟩
/-! ### reader_before -/
def spBefore (C : Addr) : Sp := fun vs H Q _ => ∃ p dx td ts ds ss, ∃ r : Int, vs = [.ref p, .int r] ∧ RingAt C H p dx td ts ds ss ∧ Q (.int ((r - 1) % (ds.length : Int))) H
theorem ok_before (T : Tx K mg) : FnOk P w K mg base CX0 3 T.a_reader_before T.d_reader_before P_reader_before (spBefore T.C) := by
  refine T.F_reader_before.ok sc_reader_before (fun vs H Q E h => ?_) (fun cdv A outer s H vs Q E hr h => ?_)
  · obtain ⟨p, dx, td, ts, ds, ss, r, rfl, _⟩ := h
    rfl
  · obtain ⟨p, dx, td, ts, ds, ss, r, rfl, R, q⟩ := h
    have l2 := R.ok.l2
    have l8 := R.ok.l8
    refine ⟨_, pss_one (ps_ret (pe_op op_mod (pe_callTy call_int1 (by rfl) T.z_int (by decide +kernel) (pa_cons (pe_op op_sub (pv 1) pe_int) pa_nil))
      (pe_callB (call_lenI T.lenC T.lenF ((ok_len T).raw T.b_rlen .nil) hr pass0) (by rfl) T.z_len PySem.boot_len (pa_cons (pv 0) pa_nil)))), ?_⟩
    exact ⟨_, rfl, _, _, rfl, rfl, .inl ⟨_, rfl, _, rfl, p, dx, _, rfl, R.ob, p, dx, td, ts, ds, ss, rfl, R, _, rfl, by omega, by omega, _, _, rfl, rfl, by show (0 : Int) < ds.length; omega, q⟩⟩
/-! ### ended_by -/
def spEnded (C : Addr) : Sp := fun vs H Q _ => ∃ p dx td ts ds ss, ∃ r D : Int, vs = [.ref p, .int r, .int D] ∧ RingAt C H p dx td ts ds ss ∧ 0 ≤ r ∧ r < ds.length ∧ 0 ≤ D ∧ Q (.int (Cn (at' ds) (at' ss) r D)) H
theorem ok_ended (T : Tx K mg) : FnOk P w K mg base CX0 4 T.a_ended_by T.d_ended_by P_ended_by (spEnded T.C) := by
  refine T.F_ended_by.ok sc_ended_by (fun vs H Q E h => ?_) (fun cdv A outer s H vs Q E hr h => ?_)
  · obtain ⟨p, dx, td, ts, ds, ss, r, D, rfl, _⟩ := h
    rfl
  · obtain ⟨p, dx, td, ts, ds, ss, r, D, rfl, R, r0, r1, D0, q⟩ := h
    have nd := sc_ended_by.nd
    obtain ⟨M, hM, hMu⟩ := R.ok.max
    have RR := R.ok.ring hM hMu
    refine ⟨_, pss_cons (ps_set (i := 3) nd rfl (.inl rfl) pe_int)
      (pss_cons (ps_set (i := 4) nd rfl (.inl rfl) (pe_op op_fdiv (pv 2) (pe_ix ix_tup (pe_prop (pv 0) T.cl T.q_rdays (ok_days T) (hr.mono (by decide : 2 ≤ 3)) T.b_rdays .nil pass0 rfl) (pv 1) (fun _ _ => rfl))))
      (pss_cons (ps_while PassesOwn.never (pt_cmpR op_lt (pv 3) (pv 4) (nomark _))
        (pss_cons (ps_set (i := 5) nd rfl (.inl rfl) (pe_op op_fdiv (pe_op op_add (pv 3) (pv 4)) pe_int))
        (pss_one (ps_if (pt_cmpR op_le (pe_call (ok_end T) hr (by rfl) T.g_end_day T.F_end_day.kp T.b_end_day .nil pass0 (pa_cons (pv 0) (pa_cons (pv 1) (pa_cons (pv 5) pa_nil)))) (pv 2) (nomark _))
          (pss_one (ps_set (i := 3) nd rfl (.inl rfl) (pe_op op_add (pv 5) pe_int))) (pss_one (ps_set (i := 4) nd rfl (.inl rfl) (pv 5)))))))
      (pss_one (ps_ret (pv 3))))), ?_⟩
    have hd := RR.d1 r
    have hd30 : at' ds r ≤ 30 := (R.ok.d1 _ (at_mem (by have := R.ok.l2; omega) r)).2
    refine ⟨.int D, rfl, _, rfl, p, dx, _, rfl, R.ob, p, dx, td, ts, ds, ss, rfl, R, _, rfl, td, _, _, _, rfl, rfl, .inl R.td.rd, at_ix (by omega) r1, _, _, rfl, rfl, ⟨by omega, by omega⟩, ?_⟩
    refine while_by (fun σ H' => H' = H ∧ ∃ lo hi : Int, ∃ y5, σ = [some (.ref p), some (.int r), some (.int D), some (.int lo), some (.int hi), y5] ∧ 0 ≤ lo ∧ lo ≤ hi ∧ (lo = 0 ∨ Rm.E (at' ds) (at' ss) r (lo - 1) ≤ D) ∧ D < Rm.E (at' ds) (at' ss) r hi)
      (fun (σ : L2.St) (_ : Hp) => match σ[3]?, σ[4]? with | some (some (V.int lo)), some (some (V.int hi)) => (hi - lo).toNat | _, _ => 0) ?_ ?_ ?_
    · have h1 : 0 ≤ D / at' ds r := Int.ediv_nonneg D0 (by omega)
      refine ⟨rfl, 0, D / at' ds r, none, rfl, by omega, h1, .inl rfl, ?_⟩
      have h2 := RR.low r h1
      have h3 := Int.lt_ediv_add_one_mul_self D (show 0 < at' ds r by omega)
      omega
    · rintro σ H1 ⟨rfl, lo, hi, y5, rfl, l0, lh, hlo, hhi⟩
      refine ⟨.int lo, rfl, .int hi, rfl, _, _, rfl, rfl, _, rfl, ?_⟩
      by_cases hc : lo < hi
      · rw [decide_eq_true hc]
        refine iteT ?_
        refine ⟨.int lo, rfl, .int hi, rfl, _, _, rfl, rfl, _, _, rfl, rfl, ⟨by omega, by omega⟩, ?_⟩
        refine ⟨_, rfl, _, rfl, .int ((lo + hi) / 2), rfl, p, dx, td, ts, ds, ss, r, (lo + hi) / 2, rfl, R, r0, r1, by omega, .int D, rfl, _, _, rfl, rfl, _, rfl, ?_⟩
        by_cases he : Rm.E (at' ds) (at' ss) r ((lo + hi) / 2) ≤ D
        · rw [decide_eq_true he]
          refine iteT ⟨_, rfl, _, _, rfl, rfl, ⟨rfl, (lo + hi) / 2 + 1, hi, _, rfl, by omega, by omega, .inr (by rw [show (lo + hi) / 2 + 1 - 1 = (lo + hi) / 2 by omega]; exact he), hhi⟩, ?_⟩
          show (hi - ((lo + hi) / 2 + 1)).toNat < (hi - lo).toNat
          omega
        · rw [decide_eq_false he]
          refine iteF ⟨_, rfl, ⟨rfl, lo, (lo + hi) / 2, _, rfl, by omega, by omega, hlo, by omega⟩, ?_⟩
          show ((lo + hi) / 2 - lo).toNat < (hi - lo).toNat
          omega
      · rw [decide_eq_false hc]
        refine iteF ⟨.int lo, rfl, ?_⟩
        have e : lo = hi := by omega
        subst e
        have := RR.cn_of (r := r) (D := D) (c := lo) ⟨l0, hlo, hhi⟩
        rw [this] at q
        exact q
    · rintro σ H1 Q1 Q2 i ⟨v, e, v', e', a, b, r1, r2, k, ek, z⟩
      exact ⟨v, e, v', e', a, b, r1, r2, k, ek, i _ _ z⟩
/-! ### begun_by -/
def spBegun (C : Addr) : Sp := fun vs H Q _ => ∃ p dx td ts ds ss, ∃ r D : Int, vs = [.ref p, .int r, .int D] ∧ RingAt C H p dx td ts ds ss ∧ 0 ≤ r ∧ r < ds.length ∧ 0 ≤ D ∧
  Q (.int (Cn (at' ds) (at' ss) r (D + at' ds r))) H
theorem ok_begun (T : Tx K mg) : FnOk P w K mg base CX0 5 T.a_begun_by T.d_begun_by P_begun_by (spBegun T.C) := by
  refine T.F_begun_by.ok sc_begun_by (fun vs H Q E h => ?_) (fun cdv A outer s H vs Q E hr h => ?_)
  · obtain ⟨p, dx, td, ts, ds, ss, r, x, rfl, _⟩ := h
    rfl
  · obtain ⟨p, dx, td, ts, ds, ss, r, x, rfl, R, r0, r1, x0, q⟩ := h
    have hr2 : Room 2 _ := hr.mono (by decide)
    have nd := sc_begun_by.nd
    obtain ⟨M, hM, hMu⟩ := R.ok.max
    have RR := R.ok.ring hM hMu
    have l2 := R.ok.l2
    have hd := RR.d1 r
    refine ⟨_, pss_one (ps_ret (pe_call (ok_ended T) hr (by rfl) T.g_ended_by T.F_ended_by.kp T.b_ended_by .nil pass0 (pa_cons (pv 0) (pa_cons (pv 1) (pa_cons (pe_op op_add (pv 2) (pe_ix ix_tup (pe_prop (pv 0) T.cl T.q_rdays (ok_days T) hr2 T.b_rdays .nil pass0 rfl) (pv 1) (fun _ _ => rfl))) pa_nil))))), ?_⟩
    refine ⟨_, rfl, _, rfl, _, rfl, _, rfl, p, dx, _, rfl, R.ob, p, dx, td, ts, ds, ss, rfl, R, _, rfl, td, _, _, _, rfl, rfl, .inl R.td.rd, at_ix (by omega) r1, _, _, rfl, rfl, ?_⟩
    exact ⟨p, dx, td, ts, ds, ss, r, x + at' ds r, rfl, R, r0, r1, by omega, q⟩
/-! ### heap_on -/
def spHeap (C : Addr) : Sp := fun vs H Q _ => ∃ p dx td ts ds ss, ∃ r D : Int, vs = [.ref p, .int r, .int D] ∧ RingAt C H p dx td ts ds ss ∧ 0 ≤ r ∧ r < ds.length ∧ 0 ≤ D ∧ D ≤ 1000000000000000000 ∧
  Q (.int (at' ss r + Cn (at' ds) (at' ss) (r - 1) D - Cn (at' ds) (at' ss) r (D + at' ds r))) H
theorem ok_heap (T : Tx K mg) : FnOk P w K mg base CX0 6 T.a_heap_on T.d_heap_on P_heap_on (spHeap T.C) := by
  refine T.F_heap_on.ok sc_heap_on (fun vs H Q E h => ?_) (fun cdv A outer s H vs Q E hr h => ?_)
  · obtain ⟨p, dx, td, ts, ds, ss, r, x, rfl, _⟩ := h
    rfl
  · obtain ⟨p, dx, td, ts, ds, ss, r, x, rfl, R, r0, r1, x0, x1, q⟩ := h
    obtain ⟨u1, c1⟩ := T.c_LATEST
    have hr3 : Room 3 _ := hr.mono (by decide)
    have hr2 : Room 2 _ := hr.mono (by decide)
    have nd := sc_heap_on.nd
    obtain ⟨M, hM, hMu⟩ := R.ok.max
    have RR := R.ok.ring hM hMu
    have l2 := R.ok.l2
    have ls := R.ok.ls
    have hd := RR.d1 r
    refine ⟨_, pss_cons (ps_expr (pe_call (ok_reader T) hr3 (by rfl) T.g_check_reader T.F_check_reader.kp T.b_check_reader .nil pass0 (pa_cons (pv 0) (pa_cons (pv 1) pa_nil))))
      (pss_cons (ps_expr (pe_call (ok_chk T) hr3 (by rfl) T.g_check_number T.F_check_number.kp T.b_check_number .nil pass0 (pa_cons (pv 2) (pa_cons pe_int (pa_cons (pe_glob (v := .int 1000000000000000000) (by rfl) c1 ⟨_, rfl⟩) pa_nil)))))
      (pss_cons (ps_set (i := 3) nd rfl (.inl rfl) (pe_op op_add (pe_ix ix_tup (pe_prop (pv 0) T.cl T.q_rstarts (ok_starts T) hr2 T.b_rstarts .nil pass0 rfl) (pv 1) (fun _ _ => rfl))
        (pe_call (ok_ended T) (hr.mono (by decide)) (by rfl) T.g_ended_by T.F_ended_by.kp T.b_ended_by .nil pass0 (pa_cons (pv 0) (pa_cons (pe_call (ok_before T) hr3 (by rfl) T.g_reader_before T.F_reader_before.kp T.b_reader_before .nil pass0 (pa_cons (pv 0) (pa_cons (pv 1) pa_nil))) (pa_cons (pv 2) pa_nil))))))
      (pss_one (ps_ret (pe_op op_sub (pv 3) (pe_call (ok_begun T) hr (by rfl) T.g_begun_by T.F_begun_by.kp T.b_begun_by .nil pass0 (pa_cons (pv 0) (pa_cons (pv 1) (pa_cons (pv 2) pa_nil))))))))), ?_⟩
    refine ⟨_, rfl, _, rfl, p, dx, td, ts, ds, ss, r, rfl, R, r0, r1, ?_⟩
    refine ⟨_, rfl, x, 0, 1000000000000000000, rfl, x0, x1, ?_⟩
    have e1 : (r - 1) % (ds.length : Int) < ds.length := Int.emod_lt_of_pos _ (by omega)
    have e0 : 0 ≤ (r - 1) % (ds.length : Int) := Int.emod_nonneg _ (by omega)
    refine ⟨_, rfl, p, dx, _, rfl, R.ob, p, dx, td, ts, ds, ss, rfl, R, _, rfl, ts, _, _, _, rfl, rfl, .inl R.ts.rd, at_ix (by omega) (by omega), ?_⟩
    refine ⟨_, rfl, _, rfl, _, rfl, p, dx, td, ts, ds, ss, r, rfl, R, _, rfl, p, dx, td, ts, ds, ss, (r - 1) % (ds.length : Int), x, rfl, R, e0, e1, x0, _, _, rfl, rfl, ?_⟩
    rw [RR.cn_mod]
    refine ⟨_, rfl, _, rfl, _, rfl, _, rfl, p, dx, td, ts, ds, ss, r, x, rfl, R, r0, r1, x0, ?_⟩
    exact ⟨_, _, rfl, rfl, q⟩
/-! ### repetition -/
def spRepn (C : Addr) : Sp := fun vs H Q _ => ∃ p dx td ts ds ss, vs = [.ref p] ∧ RingAt C H p dx td ts ds ss ∧ ∀ M, M ∈ ds → (∀ y ∈ ds, y ≤ M) → ∀ H' t x y, Same H H' → H' t = some (.tup [.int x, .int y]) → RepIs ds.sum ss.sum M x y → Q (.ref t) H'
theorem ok_repn (T : Tx K mg) : FnOk P w K mg base CX0 3 T.a_repetition T.d_repetition P_repetition (spRepn T.C) := by
  refine T.F_repetition.ok sc_repetition (fun vs H Q E h => ?_) (fun cdv A outer s H vs Q E hr h => ?_)
  · obtain ⟨p, dx, td, ts, ds, ss, rfl, _⟩ := h
    rfl
  · obtain ⟨p, dx, td, ts, ds, ss, rfl, R, q⟩ := h
    have hr1 : Room 1 _ := hr.mono (by decide)
    have l2 := R.ok.l2
    have b1 := R.ok.b1
    have b12 := R.ok.b12
    have rdD : ∀ {Q' : VK} {E' : XK}, Q' (.ref td) H → spDays T.C [.ref p] H Q' E' := fun z => ⟨p, dx, td, ts, ds, ss, rfl, R, z⟩
    have rdB : ∀ {Q' : VK} {E' : XK}, Q' (.int ss.sum) H → spBooks T.C [.ref p] H Q' E' := fun z => ⟨p, dx, td, ts, ds, ss, rfl, R, z⟩
    refine ⟨_, pss_cons (ps_if (pt_val (pe_call (ok_slow T) hr1 (by rfl) T.g_slowest_decides T.F_slowest_decides.kp T.b_slowest_decides .nil pass0 (pa_cons (pe_prop (pv 0) T.cl T.q_rdays (ok_days T) hr T.b_rdays .nil pass0 rfl) (pa_cons (pe_prop (pv 0) T.cl T.q_rbooks (ok_books T) hr T.b_rbooks .nil pass0 rfl) pa_nil))))
        (pss_one (ps_ret (pe_tup (pa_cons pe_int (pa_cons (pe_callB (cr_maxT rfl) (by rfl) T.z_max (by decide +kernel) (pa_cons (pe_prop (pv 0) T.cl T.q_rdays (ok_days T) hr T.b_rdays .nil pass0 rfl) pa_nil)) pa_nil))))) pss_nil)
      (pss_one (ps_ret (pe_tup (pa_cons (pe_prop (pv 0) T.cl T.q_rbooks (ok_books T) hr T.b_rbooks .nil pass0 rfl) (pa_cons (pe_callB (cr_sumT rfl) (by rfl) T.z_sum (by decide +kernel) (pa_cons (pe_prop (pv 0) T.cl T.q_rdays (ok_days T) hr T.b_rdays .nil pass0 rfl) pa_nil)) pa_nil))))), ?_⟩
    refine ⟨_, rfl, p, dx, _, rfl, R.ob, rdD ⟨_, rfl, p, dx, _, rfl, R.ob, rdB ⟨td, ds, ss.sum, rfl, R.td, R.ok.dys, by omega, by omega, _, rfl, ?_⟩⟩⟩
    obtain ⟨M, hM, hMu, eM⟩ : ∃ M, M ∈ ds ∧ (∀ y ∈ ds, y ≤ M) ∧ mx ds = M := ⟨mx ds, R.ok.dys.mem, fun y h => le_mx h, rfl⟩
    rw [eM]
    by_cases hc : ds.sum ≤ M * ss.sum
    · rw [decide_eq_true hc]
      refine iteT ⟨_, rfl, p, dx, _, rfl, R.ob, rdD ⟨td, ds, rfl, .inl R.td.rd, by omega, fun M' hM' hMu' => ⟨(by show 2 ≤ sizeLine; decide), fun t ht => ?_⟩⟩⟩
      have e : M' = M := Int.le_antisymm (hMu M' hM') (hMu' M hM)
      subst e
      exact q M' hM hMu _ t _ _ (same_upd ht) upd_same (.inl ⟨hc, rfl, rfl⟩)
    · rw [decide_eq_false hc]
      refine iteF ⟨_, rfl, p, dx, _, rfl, R.ob, rdB ⟨_, rfl, p, dx, _, rfl, R.ob, rdD ⟨td, ds, rfl, .inl R.td.rd, (by show 2 ≤ sizeLine; decide), fun t ht => ?_⟩⟩⟩
      exact q M hM hMu _ t _ _ (same_upd ht) upd_same (.inr ⟨hc, rfl, rfl⟩)
/-! ### row_repeats -/
def RepAt (ds ss : List Int) (p q n : Int) : Prop := ∀ r : Int, 0 ≤ r → r < ds.length → Rm.E (at' ds) (at' ss) r (n + p) = Rm.E (at' ds) (at' ss) r n + q
def spRow (C : Addr) : Sp := fun vs H Q _ => ∃ o dx td ts ds ss, ∃ n p q : Int, vs = [.ref o, .int n, .int p, .int q] ∧ RingAt C H o dx td ts ds ss ∧ 0 ≤ n ∧ 0 ≤ p ∧
  (RepAt ds ss p q n → Q (.bl true) H) ∧ ((∃ r : Int, 0 ≤ r ∧ r < ds.length ∧ Rm.E (at' ds) (at' ss) r (n + p) ≠ Rm.E (at' ds) (at' ss) r n + q) → Q (.bl false) H)
theorem ok_row (T : Tx K mg) : FnOk P w K mg base CX0 4 T.a_row_repeats T.d_row_repeats P_row_repeats (spRow T.C) := by
  refine T.F_row_repeats.ok sc_row_repeats (fun vs H Q E h => ?_) (fun cdv A outer s H vs Q E hr h => ?_)
  · obtain ⟨p, dx, td, ts, ds, ss, _, _, _, rfl, _⟩ := h
    rfl
  · obtain ⟨o, dx, td, ts, ds, ss, n, p, q, rfl, R, n0, p0, k1, k2⟩ := h
    have hr2 : Room 2 _ := hr.mono (by decide)
    have l8 := R.ok.l8
    have nd := sc_row_repeats.nd
    refine ⟨_, pss_cons (ps_for PassesOwn.never rfl (pi_range1 (by rfl) T.z_range (pa_cons (pe_callB (call_lenI T.lenC T.lenF ((ok_len T).raw T.b_rlen .nil) hr2 pass0) (by rfl) T.z_len PySem.boot_len (pa_cons (pv 0) pa_nil)) pa_nil)) (pg_name (i := 4) nd rfl (.inl rfl))
        (pss_one (ps_if (pt_cmpR op_ne (pe_call (ok_end T) hr (by rfl) T.g_end_day T.F_end_day.kp T.b_end_day .nil pass0 (pa_cons (pv 0) (pa_cons (pv 4) (pa_cons (pe_op op_add (pv 1) (pv 2)) pa_nil))))
          (pe_op op_add (pe_call (ok_end T) hr (by rfl) T.g_end_day T.F_end_day.kp T.b_end_day .nil pass0 (pa_cons (pv 0) (pa_cons (pv 4) (pa_cons (pv 1) pa_nil)))) (pv 3)) (nomark _)) (pss_one (ps_ret pe_bl)) pss_nil)))
      (pss_one (ps_ret pe_bl)), ?_⟩
    refine ⟨_, rfl, o, dx, _, rfl, R.ob, o, dx, td, ts, ds, ss, rfl, R, (ds.length : Int), rfl, by omega, by omega, (ds.length : Int), rfl, by omega, by omega, ?_⟩
    refine for_range (lo := 0) (n := ((ds.length : Int) - 0).toNat) (g := gName 4) (D := { ({ nx := fun _ H' => Q .non H', rt := Q } : Ends) with nx := tRet (tC (.bl true)) { nx := fun _ H' => Q .non H', rt := Q } })
      (fun i σ H' => H' = H ∧ ∃ y4, σ = [some (.ref o), some (.int n), some (.int p), some (.int q), y4] ∧ ∀ r : Int, 0 ≤ r → r < i → Rm.E (at' ds) (at' ss) r (n + p) = Rm.E (at' ds) (at' ss) r n + q)
      ⟨rfl, none, rfl, fun r h1 h2 => by omega⟩ ?_ ?_
    · rintro i σ H1 hi ⟨rfl, y4, rfl, hall⟩
      have e0 : (0 : Int) + (i : Int) = i := by omega
      refine ⟨_, rfl, _, rfl, _, rfl, _, rfl, _, _, rfl, rfl, o, dx, td, ts, ds, ss, 0 + (i : Int), n + p, rfl, R, by omega, by omega, by omega, ?_⟩
      refine ⟨_, rfl, _, rfl, _, rfl, o, dx, td, ts, ds, ss, 0 + (i : Int), n, rfl, R, by omega, by omega, by omega, _, rfl, _, _, rfl, rfl, rfl, _, rfl, ?_⟩
      rw [e0]
      by_cases hc : Rm.E (at' ds) (at' ss) i (n + p) = Rm.E (at' ds) (at' ss) i n + q
      · rw [hc]
        refine iteNS rfl ⟨rfl, _, rfl, fun r h1 h2 => ?_⟩
        by_cases e : r = i
        · subst e
          exact hc
        · exact hall r h1 (by omega)
      · rw [decide_eq_false (show ¬ V.int (Rm.E (at' ds) (at' ss) i (n + p)) = V.int (Rm.E (at' ds) (at' ss) i n + q) from fun z => hc (V.int.inj z))]
        exact iteT (k2 ⟨i, by omega, by omega, hc⟩)
    · rintro σ H1 ⟨rfl, y4, rfl, hall⟩
      exact k1 fun r h1 h2 => hall r h1 (by omega)
end
end Rp
namespace Rp
open PySem PySem.Spec PyProof.Rows L2 Rz Rm
theorem cut_front {xs : List V} {r : Int} (h0 : 0 ≤ r) (h1 : r < xs.length) : cutV xs none (some r) = xs.take r.toNat ∧ ¬ (HT.sIx xs.length 0 none = 0 ∧ HT.sIx xs.length xs.length (some r) = xs.length) := by
  have e : r = ((r.toNat : Nat) : Int) := by omega
  have e1 : HT.sIx xs.length xs.length (some r) = r.toNat := by
    rw [e, HT.sIx_nat]
    omega
  constructor
  · unfold cutV
    rw [HT.sIx_none, e1]
    simp
  · rw [e1]
    omega
theorem sum_le_zero : ∀ {l : List Int}, (∀ y ∈ l, y ≤ 0) → l.sum ≤ 0
  | [], _ => by simp
  | a :: r, h => by
    have h1 := h a List.mem_cons_self
    have ih := sum_le_zero (l := r) fun y hy => h y (List.mem_cons_of_mem _ hy)
    rw [List.sum_cons]
    omega
section
variable {N : Nat} {d s : Int → Int} {B T M : Int} (R : Rm.Ring N d s B T M)
include R
theorem _root_.Rm.Ring.rep_big {p q x : Int} (h : RepIs T B M p q) (hx : 4 * B + B * M ≤ x) : Rep d s p q x := by
  rw [RepIs, Int.mul_comm M B] at h
  rcases h with ⟨h1, rfl, rfl⟩ | ⟨h1, rfl, rfl⟩
  · exact R.rep_slow h1 hx
  · exact R.rep_fast (by omega) hx
theorem _root_.Rm.Ring.p1 {p q : Int} (h : RepIs T B M p q) : 1 ≤ p := by
  have := R.b1
  rcases h with ⟨_, rfl, _⟩ | ⟨_, rfl, _⟩ <;> omega
end
theorem rep_all {ds ss : List Int} {M : Int} (RR : Rm.Ring ds.length (at' ds) (at' ss) ss.sum ds.sum M) {p q n : Int} (h : RepAt ds ss p q n) : Rep (at' ds) (at' ss) p q n := by
  intro r
  have hN := RR.pos
  have h1 := h (r % (ds.length : Int)) (Int.emod_nonneg _ (by omega)) (Int.emod_lt_of_pos _ (by omega))
  rw [RR.E_mod, RR.E_mod] at h1
  exact h1
/-- from n on ends repeat, and not sooner -/
structure SettledIs (ds ss : List Int) (n p q : Int) : Prop where
  n0 : 0 ≤ n
  n1 : n ≤ 1000
  all : ∀ m, n ≤ m → Rep (at' ds) (at' ss) p q m
  least : n = 0 ∨ ∃ r : Int, 0 ≤ r ∧ r < ds.length ∧ Rm.E (at' ds) (at' ss) r (n - 1 + p) ≠ Rm.E (at' ds) (at' ss) r (n - 1) + q
section
variable {P : Program} {w : World} {K : PySem.W.Frag} {mg : Str → Option Value} {base : Heap}
/-! ### book_of -/
def spBook (C : Addr) : Sp := fun vs H Q _ => ∃ p dx td ts ds ss, ∃ r x : Int, vs = [.ref p, .int r, .int x] ∧ RingAt C H p dx td ts ds ss ∧ 0 ≤ r ∧ r < ds.length ∧ 0 ≤ x ∧ x ≤ 1000000000000000000 ∧ ∀ v H', Same H H' → Bk ss r (x % ss.sum) v → Q (.int v) H'
theorem ok_book (T : Tx K mg) : FnOk P w K mg base CX0 5 T.a_book_of T.d_book_of P_book_of (spBook T.C) := by
  refine T.F_book_of.ok sc_book_of (fun vs H Q E h => ?_) (fun cdv A outer s H vs Q E hr h => ?_)
  · obtain ⟨p, dx, td, ts, ds, ss, r, x, rfl, _⟩ := h
    rfl
  · obtain ⟨p, dx, td, ts, ds, ss, r, x, rfl, R, r0, r1, x0, x1, q⟩ := h
    obtain ⟨u1, c1⟩ := T.c_LATEST
    have hr3 : Room 3 _ := hr.mono (by decide)
    have hr2 : Room 2 _ := hr.mono (by decide)
    have nd := sc_book_of.nd
    have ls := R.ok.ls
    have b1 := R.ok.b1
    obtain ⟨M, hM, hMu⟩ := R.ok.max
    have RR := R.ok.ring hM hMu
    have rdS : ∀ {Q' : VK} {E' : XK}, Q' (.ref ts) H → spStarts T.C [.ref p] H Q' E' := fun z => ⟨p, dx, td, ts, ds, ss, rfl, R, z⟩
    refine ⟨_, pss_cons (ps_expr (pe_call (ok_reader T) hr3 (by rfl) T.g_check_reader T.F_check_reader.kp T.b_check_reader .nil pass0 (pa_cons (pv 0) (pa_cons (pv 1) pa_nil))))
      (pss_cons (ps_expr (pe_call (ok_chk T) hr3 (by rfl) T.g_check_number T.F_check_number.kp T.b_check_number .nil pass0 (pa_cons (pv 2) (pa_cons pe_int (pa_cons (pe_glob (v := .int 1000000000000000000) (by rfl) c1 ⟨_, rfl⟩) pa_nil)))))
      (pss_cons (ps_set (i := 3) nd rfl (.inl rfl) (pe_op op_mod (pe_callTy call_int1 (by rfl) T.z_int (by decide +kernel) (pa_cons (pv 2) pa_nil)) (pe_prop (pv 0) T.cl T.q_rbooks (ok_books T) hr2 T.b_rbooks .nil pass0 rfl)))
      (pss_cons (ps_while PassesOwn.never (pt_cmpR op_ge (pv 3) (pe_ix ix_tup (pe_prop (pv 0) T.cl T.q_rstarts (ok_starts T) hr2 T.b_rstarts .nil pass0 rfl) (pv 1) (fun _ _ => rfl)) (nomark _))
        (pss_cons (ps_aug (i := 3) nd rfl (.inl rfl) (pe_ix ix_tup (pe_prop (pv 0) T.cl T.q_rstarts (ok_starts T) hr2 T.b_rstarts .nil pass0 rfl) (pv 1) (fun _ _ => rfl)) ip_sub)
        (pss_one (ps_set (i := 1) nd rfl (.inl rfl) (pe_call (ok_before T) hr3 (by rfl) T.g_reader_before T.F_reader_before.kp T.b_reader_before .nil pass0 (pa_cons (pv 0) (pa_cons (pv 1) pa_nil)))))))
      (pss_one (ps_ret (pe_op op_add (pe_callB (cr_sumT rfl) (by rfl) T.z_sum (by decide +kernel) (pa_cons (pe_slice sl_tup (pe_prop (pv 0) T.cl T.q_rstarts (ok_starts T) hr2 T.b_rstarts .nil pass0 rfl) po_none (po_some (pv 1))) pa_nil)) (pv 3))))))), ?_⟩
    refine ⟨_, rfl, _, rfl, p, dx, td, ts, ds, ss, r, rfl, R, r0, r1, ?_⟩
    refine ⟨_, rfl, x, 0, 1000000000000000000, rfl, x0, x1, ?_⟩
    refine ⟨_, rfl, .inl ⟨x, rfl, _, rfl, p, dx, _, rfl, R.ob, p, dx, td, ts, ds, ss, rfl, R, _, _, rfl, rfl, by show (0 : Int) < ss.sum; omega, ?_⟩⟩
    have q0 : 0 ≤ x % ss.sum := Int.emod_nonneg _ (by omega)
    have q1 : x % ss.sum < ss.sum := Int.emod_lt_of_pos _ (by omega)
    obtain ⟨y, hy⟩ : ∃ y, y = x % ss.sum := ⟨_, rfl⟩
    rw [← hy] at q q0 q1
    have rj : ∀ i : Nat, 0 ≤ (r - i) % (ss.length : Int) ∧ (r - i) % (ss.length : Int) < ss.length := fun i => ⟨Int.emod_nonneg _ (by omega), Int.emod_lt_of_pos _ (by omega)⟩
    refine ⟨fun m σ H' => H' = H ∧ ∃ i : Nat, m = ss.length - i ∧ i < ss.length ∧ σ = [some (.ref p), some (.int ((r - i) % (ss.length : Int))), some (.int x), some (.int (y - sumBack (at' ss) r i))] ∧ sumBack (at' ss) r i ≤ y, ⟨ss.length, rfl, 0, rfl, by omega, ?_, q0⟩, ?_⟩
    · show ([some (.ref p), some (.int r), some (.int x), some (.int (x % ss.sum))] : L2.St) = [some (.ref p), some (.int ((r - (0 : Nat)) % (ss.length : Int))), some (.int x), some (.int (y - 0))]
      rw [← hy, show r - ((0 : Nat) : Int) = r by omega, Int.emod_eq_of_lt r0 (by omega), show y - 0 = y by omega]
    · rintro m σ H1 ⟨rfl, i, rfl, hi, rfl, hS⟩
      have hix : atI (ss.map V.int) ((r - i) % (ss.length : Int)) = some (.int (at' ss (r - i))) := by
        rw [at_ix (by have := (rj i).1; omega) (rj i).2, at_emod]
      refine ⟨_, rfl, _, rfl, p, dx, _, rfl, R.ob, rdS ⟨_, rfl, ts, _, _, _, rfl, rfl, .inl R.ts.rd, hix, _, _, rfl, rfl, _, rfl, ?_⟩⟩
      have hs : sumBack (at' ss) r (i + 1) = sumBack (at' ss) r i + at' ss (r - i) := rfl
      by_cases hc : at' ss (r - i) ≤ y - sumBack (at' ss) r i
      · rw [decide_eq_true hc]
        have hi2 : i + 1 < ss.length := by
          have hb := RR.b r
          rw [← ls] at hb
          rcases Nat.lt_or_ge (i + 1) ss.length with z | z
          · exact z
          · have e : i + 1 = ss.length := by omega
            rw [e] at hs
            omega
        refine iteT ⟨fun σ' H' => H' = H1 ∧ σ' = [some (.ref p), some (.int ((r - (i + 1 : Nat)) % (ss.length : Int))), some (.int x), some (.int (y - sumBack (at' ss) r (i + 1)))], fun σ' H' ⟨e1, e2⟩ => ⟨ss.length - (i + 1), by omega, e1, i + 1, rfl, hi2, e2, by omega⟩, ?_⟩
        refine ⟨_, rfl, _, rfl, p, dx, _, rfl, R.ob, rdS ⟨_, rfl, ts, _, _, _, rfl, rfl, .inl R.ts.rd, hix, _, _, rfl, rfl, ?_⟩⟩
        refine ⟨_, rfl, _, rfl, p, dx, td, ts, ds, ss, _, rfl, R, rfl, ?_⟩
        show ([some (.ref p), some (.int (((r - i) % (ss.length : Int) - 1) % (ds.length : Int))), some (.int x), some (.int (y - sumBack (at' ss) r i - at' ss (r - i)))] : L2.St) = _
        rw [← ls, emod_pred, show r - (i : Int) - 1 = r - (i + 1 : Nat) by omega, show y - sumBack (at' ss) r i - at' ss (r - i) = y - sumBack (at' ss) r (i + 1) by omega]
      · rw [decide_eq_false hc]
        refine iteF ?_
        obtain ⟨hcut, hnot⟩ := cut_front (xs := ss.map V.int) (r := (r - i) % (ss.length : Int)) (rj i).1 (by rw [List.length_map]; exact (rj i).2)
        refine ⟨_, rfl, p, dx, _, rfl, R.ob, rdS ⟨_, rfl, _, rfl, ts, _, rfl, .inl R.ts.rd, hnot, fun pn np => ?_⟩⟩
        refine ⟨pn, ss.take ((r - i) % (ss.length : Int)).toNat, rfl, .of (by rw [upd_same, hcut, List.map_take]), _, rfl, _, _, rfl, rfl, ?_⟩
        exact q _ _ (same_upd np) ⟨i, hi, hS, by omega, rfl⟩
/-! ### settled -/
def spSettled (C : Addr) : Sp := fun vs H Q _ => ∃ o dx td ts ds ss, vs = [.ref o] ∧ RingAt C H o dx td ts ds ss ∧ ∀ M, M ∈ ds → (∀ y ∈ ds, y ≤ M) → ∀ H' t n p q, Same H H' → H' t = some (.tup [.int n, .int p, .int q]) → RepIs ds.sum ss.sum M p q → SettledIs ds ss n p q → Q (.ref t) H'
theorem ok_settled (T : Tx K mg) : FnOk P w K mg base CX0 5 T.a_settled T.d_settled P_settled (spSettled T.C) := by
  refine T.F_settled.ok sc_settled (fun vs H Q E h => ?_) (fun cdv A outer s H vs Q E hr h => ?_)
  · obtain ⟨o, dx, td, ts, ds, ss, rfl, _⟩ := h
    rfl
  · obtain ⟨o, dx, td, ts, ds, ss, rfl, R, k⟩ := h
    have hr3 : Room 3 _ := hr.mono (by decide)
    have hr2 : Room 2 _ := hr.mono (by decide)
    have nd := sc_settled.nd
    have l2 := R.ok.l2
    have ls := R.ok.ls
    have b1 := R.ok.b1
    have b12 := R.ok.b12
    refine ⟨_, pss_cons (ps_asg (pe_call (ok_repn T) hr3 (by rfl) T.g_repetition T.F_repetition.kp T.b_repetition .nil pass0 (pa_cons (pv 0) pa_nil)) (pg_tup rfl (pgs_cons (pg_name (i := 1) nd rfl (.inl rfl)) (pgs_cons (pg_name (i := 2) nd rfl (.inl rfl)) pgs_nil))))
      (pss_cons (ps_set (i := 3) nd rfl (.inl rfl) (pe_callB (cr_maxT rfl) (by rfl) T.z_max (by decide +kernel) (pa_cons (pe_prop (pv 0) T.cl T.q_rstarts (ok_starts T) hr2 T.b_rstarts .nil pass0 rfl) pa_nil)))
      (pss_cons (ps_set (i := 4) nd rfl (.inl rfl) pe_int)
      (pss_cons (ps_set (i := 5) nd rfl (.inl rfl) pe_int)
      (pss_cons (ps_while PassesOwn.never (pt_cmpR op_lt (pv 5) (pv 3) (nomark _))
        (pss_one (ps_if (pt_val (pe_call (ok_row T) hr (by rfl) T.g_row_repeats T.F_row_repeats.kp T.b_row_repeats .nil pass0 (pa_cons (pv 0) (pa_cons (pe_op op_add (pv 4) (pv 5)) (pa_cons (pv 1) (pa_cons (pv 2) pa_nil))))))
          (pss_one (ps_aug (i := 5) nd rfl (.inl rfl) pe_int ip_add))
          (pss_cons (ps_aug (i := 4) nd rfl (.inl rfl) (pe_op op_add (pv 5) pe_int) ip_add) (pss_one (ps_set (i := 5) nd rfl (.inl rfl) pe_int))))))
      (pss_one (ps_ret (pe_tup (pa_cons (pv 4) (pa_cons (pv 1) (pa_cons (pv 2) pa_nil)))))))))), ?_⟩
    refine ⟨_, rfl, o, dx, td, ts, ds, ss, rfl, R, fun M hM hMu H1 t p q sm ht hrep => ⟨t, _, rfl, .of ht, rfl, _, _, rfl, _, _, rfl, rfl, ?_⟩⟩
    have RR := R.ok.ring hM hMu
    have R1 := R.same sm
    have hM30 := R.ok.d1 M hM
    have hBM : ss.sum * M ≤ 360 := by
      have := Int.mul_le_mul_of_nonneg_right b12 (show 0 ≤ M by omega)
      omega
    have p1 := RR.p1 hrep
    refine ⟨_, rfl, o, dx, _, rfl, R1.ob, o, dx, td, ts, ds, ss, rfl, R1, ts, ss, rfl, .inl R1.ts.rd, by omega, fun wm hw hwu => ?_⟩
    have w12 := (R.ok.s0 wm hw).2
    have w1 : 1 ≤ wm := by
      rcases Int.lt_or_le wm 1 with z | z
      · have := sum_le_zero (l := ss) fun y hy => by have := hwu y hy; omega
        omega
      · exact z
    -- how far the number goes
    have bound : ∀ n : Int, 0 ≤ n → (n = 0 ∨ ∃ r : Int, 0 ≤ r ∧ r < ds.length ∧ Rm.E (at' ds) (at' ss) r (n - 1 + p) ≠ Rm.E (at' ds) (at' ss) r (n - 1) + q) → n ≤ 408 := by
      intro n n0 hn
      rcases hn with hn | ⟨r, _, _, hr'⟩
      · omega
      · rcases Int.lt_or_le 408 n with z | z
        · exact absurd (RR.rep_big hrep (x := n - 1) (by omega) r) hr'
        · exact z
    refine while_by (fun σ H' => H' = H1 ∧ ∃ n f : Int, σ = [some (.ref o), some (.int p), some (.int q), some (.int wm), some (.int n), some (.int f)] ∧ 0 ≤ n ∧ 0 ≤ f ∧ f ≤ wm ∧ (∀ j, 0 ≤ j → j < f → Rep (at' ds) (at' ss) p q (n + j)) ∧
        (n = 0 ∨ ∃ r : Int, 0 ≤ r ∧ r < ds.length ∧ Rm.E (at' ds) (at' ss) r (n - 1 + p) ≠ Rm.E (at' ds) (at' ss) r (n - 1) + q))
      (fun (σ : L2.St) (_ : Hp) => match σ[4]?, σ[5]? with | some (some (V.int n)), some (some (V.int f)) => (1000 - (n + f)).toNat | _, _ => 0) ?_ ?_ ?_
    · exact ⟨rfl, 0, 0, rfl, by omega, by omega, by omega, fun j h1 h2 => by omega, .inl rfl⟩
    · rintro σ H2 ⟨rfl, n, f, rfl, n0, f0, fw, hall, hlast⟩
      have hb := bound n n0 hlast
      refine ⟨_, rfl, _, rfl, _, _, rfl, rfl, _, rfl, ?_⟩
      by_cases hc : f < wm
      · rw [decide_eq_true hc]
        refine iteT ?_
        refine ⟨_, rfl, _, rfl, _, rfl, _, _, rfl, rfl, _, rfl, _, rfl, o, dx, td, ts, ds, ss, n + f, p, q, rfl, R1, by omega, by omega, fun hrow => ⟨_, rfl, iteT ?_⟩, fun hbad => ⟨_, rfl, iteF ?_⟩⟩
        · refine ⟨_, rfl, _, _, rfl, rfl, ⟨rfl, n, f + 1, rfl, n0, by omega, by omega, fun j h1 h2 => ?_, hlast⟩, ?_⟩
          · by_cases e : j = f
            · subst e
              exact rep_all RR hrow
            · exact hall j h1 (by omega)
          · show (1000 - (n + (f + 1))).toNat < (1000 - (n + f)).toNat
            omega
        · refine ⟨_, rfl, _, rfl, _, _, rfl, rfl, _, _, rfl, rfl, ⟨rfl, n + (f + 1), 0, rfl, by omega, by omega, by omega, fun j h1 h2 => by omega, .inr ?_⟩, ?_⟩
          · rw [show n + (f + 1) - 1 = n + f by omega]
            exact hbad
          · show (1000 - (n + (f + 1) + 0)).toNat < (1000 - (n + f)).toNat
            omega
      · rw [decide_eq_false hc]
        have e : f = wm := by omega
        subst e
        refine iteF ⟨_, rfl, _, rfl, _, rfl, (by show 3 ≤ sizeLine; decide), fun t2 ht2 => ?_⟩
        refine k M hM hMu _ t2 n p q (sm.trans (same_upd ht2)) upd_same hrep ⟨n0, by omega, ?_, hlast⟩
        exact RR.later (w := f) (fun i => hwu _ (at_mem (by omega) i)) (mem_at hw) w1 p1 n0 hall
    · rintro σ H2 Q1 Q2 i ⟨v, e, v', e', a, b, r1, r2, k', ek, z⟩
      exact ⟨v, e, v', e', a, b, r1, r2, k', ek, i _ _ z⟩
end
end Rp
namespace Rp
open PySem PySem.Spec PyProof.Rows L2 Rz Rm
/-! ### the drawn row -/
/-- all that was tracked but the row is as it was -/
def Kp (row : Addr) (H H' : Hp) : Prop := ∀ b o, H b = some o → b ≠ row → H' b = some o
theorem Kp.refl (row : Addr) (H : Hp) : Kp row H H := fun _ _ h _ => h
theorem Kp.trans {row : Addr} {H H1 H2 : Hp} (a : Kp row H H1) (b : Kp row H1 H2) : Kp row H H2 := fun c o h n => b c o (a c o h n) n
theorem Same.kp {row : Addr} {H H' : Hp} (s : Same H H') : Kp row H H' := fun b o h _ => s b o h
/-- the script stands in the written part -/
def Wr (K : PySem.W.Frag) (a : Addr) (xs : List V) : Prop := ∃ (o : Obj) (its : Array Value) (n : Nat), K.lookup a = some o ∧ o.cls = .type "list" ∧ o.dict = none ∧ o.data = .seq its n ∧ its.size ≤ sizeLine ∧ Vals xs its.toList
theorem far_of {K : PySem.W.Frag} {H : Hp} {D a : Addr} {xs : List V} (h : SqL K H a xs) (hD : H D = none) : D ≠ a ∨ Wr K a xs := by
  rcases h with (h | ⟨o, h⟩) | h
  · exact .inl fun e => by rw [e, h] at hD; cases hD
  · exact .inl fun e => by rw [e, h] at hD; cases hD
  · exact .inr h
theorem sq_upd {K : PySem.W.Frag} {H : Hp} {D a : Addr} {xs : List V} {o : HO} (h : SqL K H a xs) (f : D ≠ a ∨ Wr K a xs) : SqL K (upd H D o) a xs := by
  rcases f with f | f
  · rcases h with (h | ⟨u, h⟩) | h
    · exact .inl (.inl (by rw [upd_ne f.symm]; exact h))
    · exact .inl (.inr ⟨u, by rw [upd_ne f.symm]; exact h⟩)
    · exact .inr h
  · exact .inr f
structure RowAt (K : PySem.W.Frag) (H : Hp) (row a : Addr) (ns : List Int) : Prop where
  ob : ∃ i m q : Int, H row = some (.lst [.ref a, .int i, .int m, .int q]) ∧ 0 ≤ i
  sc : SqL K H a (ns.map V.int)
  ne : row ≠ a ∨ Wr K a (ns.map V.int)
theorem RowAt.same {K : PySem.W.Frag} {H H' : Hp} {row a : Addr} {ns : List Int} (R : RowAt K H row a ns) (s : Same H H') : RowAt K H' row a ns := by
  obtain ⟨i, m, q, h, h0⟩ := R.ob
  exact ⟨⟨i, m, q, s _ _ h, h0⟩, s.seq R.sc, R.ne⟩
theorem kp_upd {row : Addr} {H : Hp} {o : HO} : Kp row H (upd H row o) := fun b z h n => by
  rw [upd_ne n]
  exact h
/-- the row is written -/
theorem RowAt.put {K : PySem.W.Frag} {H : Hp} {row a : Addr} {ns : List Int} (R : RowAt K H row a ns) {i m q : Int} (h : 0 ≤ i) : RowAt K (upd H row (.lst [.ref a, .int i, .int m, .int q])) row a ns :=
  ⟨⟨i, m, q, upd_same, h⟩, sq_upd R.sc R.ne, R.ne⟩
theorem first_ix : ∀ {l : List Int} {m : Int}, m ∈ l → ∃ j : Nat, l[j]? = some m ∧ ∀ k z, k < j → l[k]? = some z → z ≠ m
  | a :: r, m, h => by
    by_cases e : a = m
    · exact ⟨0, by simp [e], fun k z hk => absurd hk (Nat.not_lt_zero _)⟩
    · obtain ⟨j, h1, h2⟩ := first_ix (l := r) (m := m) (by
        rcases List.mem_cons.mp h with q | q
        · exact absurd q.symm e
        · exact q)
      refine ⟨j + 1, by simpa using h1, fun k z hk hz => ?_⟩
      cases k with
      | zero =>
        simp at hz
        rw [← hz]
        exact e
      | succ k => exact h2 k z (by omega) (by simpa using hz)
theorem mem_le_sum : ∀ {l : List Int}, (∀ y ∈ l, 0 ≤ y) → ∀ x ∈ l, x ≤ l.sum
  | a :: r, h, x, hx => by
    have ha := h a List.mem_cons_self
    have hr : ∀ y ∈ r, 0 ≤ y := fun y hy => h y (List.mem_cons_of_mem _ hy)
    have hs : 0 ≤ r.sum := sum_nonneg' hr
    rw [List.sum_cons]
    rcases List.mem_cons.mp hx with e | e
    · omega
    · have := mem_le_sum hr x e
      omega
where sum_nonneg' : ∀ {l : List Int}, (∀ y ∈ l, 0 ≤ y) → 0 ≤ l.sum
  | [], _ => by simp
  | a :: r, h => by
    have h1 := h a List.mem_cons_self
    have h2 := sum_nonneg' (l := r) fun y hy => h y (List.mem_cons_of_mem _ hy)
    rw [List.sum_cons]
    omega
theorem mem_set {l : List Int} {j : Nat} {v y : Int} (h : y ∈ l.set j v) : y ∈ l ∨ y = v := List.mem_or_eq_of_mem_set h
theorem flat_ints (l : List Int) : (l.map V.int).all flatV = true := by
  rw [List.all_eq_true]
  intro x hx
  obtain ⟨i, _, rfl⟩ := List.mem_map.mp hx
  rfl
theorem lc_keep {σ : L2.St} {H : Hp} {F G : Hp → Prop} (h : F H) : tYes σ H (fun b H3 => if b = true then F H3 else G H3) := by
  show if true = true then F H else G H
  rw [if_pos rfl]
  exact h
theorem map_snoc (l : List Int) (v : Int) : l.map V.int ++ [V.int v] = (l ++ [v]).map V.int := by
  rw [List.map_append]
  rfl
theorem RowAt.upd' {K : PySem.W.Frag} {H : Hp} {D row a : Addr} {ns : List Int} {o : HO} (R : RowAt K H row a ns) (n : D ≠ row) (f : D ≠ a ∨ Wr K a (ns.map V.int)) : RowAt K (upd H D o) row a ns := by
  obtain ⟨i, m, q, h, h0⟩ := R.ob
  exact ⟨⟨i, m, q, by rw [upd_ne n.symm]; exact h, h0⟩, sq_upd R.sc f, R.ne⟩
theorem RowAt.nn {K : PySem.W.Frag} {H : Hp} {D row a : Addr} {ns : List Int} (R : RowAt K H row a ns) (h : H D = none) : D ≠ row := fun e => by
  obtain ⟨i, m, q, h2, _⟩ := R.ob
  rw [e, h2] at h
  cases h
theorem kp_new {row D : Addr} {H0 H : Hp} {o : HO} (k : Kp row H0 H) (h : H0 D = none) : Kp row H0 (upd H D o) := fun b z e n => by
  rw [upd_ne (ne_of_none e h)]
  exact k b z e n
end Rp
/-! Equal values are alike, whatever their depth. -/
namespace Rp
open PySem PySem.Spec PyProof.Rows L2 Rz Rm
/-- equal values: ints, None; tuples and lists of such -/
def LkD : Nat → Hp → V → V → Prop
  | 0, _, v, w => (∃ x, v = .int x ∧ w = .int x) ∨ (v = .non ∧ w = .non)
  | n + 1, H, v, w => LkD n H v w ∨ ∃ (f g : Addr) (xs ys : List V), v = .ref f ∧ w = .ref g ∧ ((H f = some (.tup xs) ∧ H g = some (.tup ys)) ∨ (H f = some (.lst xs) ∧ H g = some (.lst ys))) ∧ ys.length = xs.length ∧ xs.length ≤ 1000000 ∧
      ∀ (i : Nat) (x y : V), xs[i]? = some x → ys[i]? = some y → LkD n H x y
theorem LkD.same {H H' : Hp} (s : Same H H') : ∀ {n : Nat} {v w : V}, LkD n H v w → LkD n H' v w
  | 0, _, _, h => h
  | n + 1, _, _, h => by
    rcases h with h | ⟨f, g, xs, ys, e1, e2, ho, hl, h1, ht⟩
    · exact .inl (LkD.same s h)
    · refine .inr ⟨f, g, xs, ys, e1, e2, ?_, hl, h1, fun i x y hx hy => LkD.same s (ht i x y hx hy)⟩
      rcases ho with ⟨a, b⟩ | ⟨a, b⟩
      · exact .inl ⟨s _ _ a, s _ _ b⟩
      · exact .inr ⟨s _ _ a, s _ _ b⟩
theorem LkD.ints {H : Hp} {f g : Addr} {l : List Int} (h : (H f = some (.tup (l.map V.int)) ∧ H g = some (.tup (l.map V.int))) ∨ (H f = some (.lst (l.map V.int)) ∧ H g = some (.lst (l.map V.int)))) (hl : l.length ≤ 1000) : LkD 1 H (.ref f) (.ref g) := by
  refine .inr ⟨f, g, _, _, rfl, rfl, h, rfl, by rw [List.length_map]; omega, fun i x y hx hy => ?_⟩
  rw [hx] at hy
  cases hy
  rw [List.getElem?_map] at hx
  cases e : l[i]? with
  | none => rw [e] at hx; cases hx
  | some z => rw [e] at hx; cases hx; exact .inl ⟨z, rfl, rfl⟩
section
variable {P : Program} {w : World} {K : PySem.W.Frag} {mg : Str → Option Value} {base : Heap}
def spLikeD (n : Nat) : Sp := fun vs H Q _ => ∃ v y : V, vs = [v, y] ∧ LkD n H v y ∧ ∀ H', Same H H' → Q (.bl true) H'
theorem ok_like0 (T : Tx K mg) : FnOk P w K mg base CX0 1 T.a_llike T.d_llike P_llike (spLikeD 0) := by
  refine T.F_llike.ok sc_llike (fun vs H Q E h => ?_) (fun cdv A outer s H vs Q E hr h => ?_)
  · obtain ⟨x, y, rfl, _⟩ := h
    rfl
  · obtain ⟨v, y, rfl, hv, q⟩ := h
    have q := q H (fun _ _ z => z)
    refine ⟨_, pss_cons (ps_if (PW.pt (pw_or (pt_val (pe_callB call_isi (by rfl) T.z_isinstance (by decide +kernel) (pa_cons (pv 1) (pa_cons (pe_bltn (v := .ty "tuple") (u := .type "tuple") (by rfl) T.z_tuple (by decide +kernel) rfl) pa_nil))))
        (pw_or1 (pt_val (pe_callB call_isi (by rfl) T.z_isinstance (by decide +kernel) (pa_cons (pv 1) (pa_cons (pe_bltn (v := .ty "list") (u := .type "list") (by rfl) T.z_list (by decide +kernel) rfl) pa_nil))))))) pss_never pss_nil)
      (pss_cons (ps_if (pt_cmpR op_ne (pe_callB call_isi (by rfl) T.z_isinstance (by decide +kernel) (pa_cons (pv 0) (pa_cons (pe_bltn (v := .ty "bool") (u := .type "bool") (by rfl) T.z_bool (by decide +kernel) rfl) pa_nil)))
        (pe_callB call_isi (by rfl) T.z_isinstance (by decide +kernel) (pa_cons (pv 1) (pa_cons (pe_bltn (v := .ty "bool") (u := .type "bool") (by rfl) T.z_bool (by decide +kernel) rfl) pa_nil))) (nomark _)) (pss_one (ps_ret pe_bl)) pss_nil)
      (pss_cons (ps_if (PW.pt (pw_or (pt_cmpR op_ne (pe_callB call_isi (by rfl) T.z_isinstance (by decide +kernel) (pa_cons (pv 0) (pa_cons (pe_bltn (v := .ty "int") (u := .type "int") (by rfl) T.z_int (by decide +kernel) rfl) pa_nil)))
        (pe_callB call_isi (by rfl) T.z_isinstance (by decide +kernel) (pa_cons (pv 1) (pa_cons (pe_bltn (v := .ty "int") (u := .type "int") (by rfl) T.z_int (by decide +kernel) rfl) pa_nil))) (nomark _))
        (pw_or1 (pt_cmpR op_ne (pe_callB call_isi (by rfl) T.z_isinstance (by decide +kernel) (pa_cons (pv 0) (pa_cons (pe_bltn (v := .ty "str") (u := .type "str") (by rfl) T.z_str (by decide +kernel) rfl) pa_nil)))
        (pe_callB call_isi (by rfl) T.z_isinstance (by decide +kernel) (pa_cons (pv 1) (pa_cons (pe_bltn (v := .ty "str") (u := .type "str") (by rfl) T.z_str (by decide +kernel) rfl) pa_nil))) (nomark _))))) (pss_one (ps_ret pe_bl)) pss_nil)
      (pss_one (ps_ret (pe_cmpR op_eq (pv 0) (pv 1) (nomark _)))))), ?_⟩
    rcases hv with ⟨x, rfl, rfl⟩ | ⟨rfl, rfl⟩
    · refine ⟨_, rfl, .int x, .ty "tuple", .type "int", .type "tuple", false, rfl, .ty _, .base (.int x), kit_ty (by decide +kernel), _, rfl, iteF ?_⟩
      refine ⟨_, rfl, .int x, .ty "list", .type "int", .type "list", false, rfl, .ty _, .base (.int x), kit_ty (by decide +kernel), _, rfl, iteF ?_⟩
      refine ⟨_, rfl, .int x, .ty "bool", .type "int", .type "bool", false, rfl, .ty _, .base (.int x), kit_ty (by decide +kernel), _, rfl, .int x, .ty "bool", .type "int", .type "bool", false, rfl, .ty _, .base (.int x), kit_ty (by decide +kernel), rfl, _, rfl, iteNS rfl ?_⟩
      refine ⟨_, rfl, .int x, .ty "int", .type "int", .type "int", true, rfl, .ty _, .base (.int x), kit_ty (by decide +kernel), _, rfl, .int x, .ty "int", .type "int", .type "int", true, rfl, .ty _, .base (.int x), kit_ty (by decide +kernel), rfl, _, rfl, iteNS rfl ?_⟩
      refine ⟨_, rfl, .int x, .ty "str", .type "int", .type "str", false, rfl, .ty _, .base (.int x), kit_ty (by decide +kernel), _, rfl, .int x, .ty "str", .type "int", .type "str", false, rfl, .ty _, .base (.int x), kit_ty (by decide +kernel), rfl, _, rfl, iteNS rfl ?_⟩
      exact ⟨_, rfl, _, rfl, rfl, by rw [decide_eq_true rfl]; exact q⟩
    · refine ⟨_, rfl, .non, .ty "tuple", .type "NoneType", .type "tuple", false, rfl, .ty _, .base (.non), kit_ty (by decide +kernel), _, rfl, iteF ?_⟩
      refine ⟨_, rfl, .non, .ty "list", .type "NoneType", .type "list", false, rfl, .ty _, .base (.non), kit_ty (by decide +kernel), _, rfl, iteF ?_⟩
      refine ⟨_, rfl, .non, .ty "bool", .type "NoneType", .type "bool", false, rfl, .ty _, .base (.non), kit_ty (by decide +kernel), _, rfl, .non, .ty "bool", .type "NoneType", .type "bool", false, rfl, .ty _, .base (.non), kit_ty (by decide +kernel), rfl, _, rfl, iteNS rfl ?_⟩
      refine ⟨_, rfl, .non, .ty "int", .type "NoneType", .type "int", false, rfl, .ty _, .base (.non), kit_ty (by decide +kernel), _, rfl, .non, .ty "int", .type "NoneType", .type "int", false, rfl, .ty _, .base (.non), kit_ty (by decide +kernel), rfl, _, rfl, iteNS rfl ?_⟩
      refine ⟨_, rfl, .non, .ty "str", .type "NoneType", .type "str", false, rfl, .ty _, .base (.non), kit_ty (by decide +kernel), _, rfl, .non, .ty "str", .type "NoneType", .type "str", false, rfl, .ty _, .base (.non), kit_ty (by decide +kernel), rfl, _, rfl, iteNS rfl ?_⟩
      exact ⟨_, rfl, _, rfl, rfl, q⟩
theorem ok_likeS {n : Nat} (T : Tx K mg) (IH : FnOk P w K mg base CX0 (n + 1) T.a_llike T.d_llike P_llike (spLikeD n)) : FnOk P w K mg base CX0 (n + 2) T.a_llike T.d_llike P_llike (fun vs H Q _ => ∃ (f g : Addr) (xs ys : List V), vs = [.ref f, .ref g] ∧ (H f = some (.tup xs) ∧ H g = some (.tup ys)) ∧ ys.length = xs.length ∧ xs.length ≤ 1000000 ∧
      (∀ (i : Nat) (x y : V), xs[i]? = some x → ys[i]? = some y → LkD n H x y) ∧ ∀ H', Same H H' → Q (.bl true) H') := by
  refine T.F_llike.ok sc_llike (fun vs H Q E h => ?_) (fun cdv A outer s H vs Q E hr h => ?_)
  · obtain ⟨f, g, xs, ys, rfl, _⟩ := h
    rfl
  · obtain ⟨f, g, xs, ys, rfl, ⟨hf, hg⟩, hl, h1000, ht, q⟩ := h
    have nd := sc_llike.nd
    refine ⟨_, pss_cons (ps_if (PW.pt (pw_or (pt_val (pe_callB call_isi (by rfl) T.z_isinstance (by decide +kernel) (pa_cons (pv 1) (pa_cons (pe_bltn (v := .ty "tuple") (u := .type "tuple") (by rfl) T.z_tuple (by decide +kernel) rfl) pa_nil))))
        (pw_or1 (pt_val (pe_callB call_isi (by rfl) T.z_isinstance (by decide +kernel) (pa_cons (pv 1) (pa_cons (pe_bltn (v := .ty "list") (u := .type "list") (by rfl) T.z_list (by decide +kernel) rfl) pa_nil)))))))
        (pss_cons (ps_if (pt_cmpR op_ne (pe_callB call_isi (by rfl) T.z_isinstance (by decide +kernel) (pa_cons (pv 0) (pa_cons (pe_bltn (v := .ty "tuple") (u := .type "tuple") (by rfl) T.z_tuple (by decide +kernel) rfl) pa_nil)))
          (pe_callB call_isi (by rfl) T.z_isinstance (by decide +kernel) (pa_cons (pv 1) (pa_cons (pe_bltn (v := .ty "tuple") (u := .type "tuple") (by rfl) T.z_tuple (by decide +kernel) rfl) pa_nil))) (nomark _)) (pss_one (ps_ret pe_bl)) pss_nil)
        (pss_cons (ps_if (PW.pt (pw_or (pt_cmpR op_ne (pe_callB call_isi (by rfl) T.z_isinstance (by decide +kernel) (pa_cons (pv 0) (pa_cons (pe_bltn (v := .ty "list") (u := .type "list") (by rfl) T.z_list (by decide +kernel) rfl) pa_nil)))
          (pe_callB call_isi (by rfl) T.z_isinstance (by decide +kernel) (pa_cons (pv 1) (pa_cons (pe_bltn (v := .ty "list") (u := .type "list") (by rfl) T.z_list (by decide +kernel) rfl) pa_nil))) (nomark _))
          (pw_or1 (pt_cmpR op_ne (pe_callB call_len_seq (by rfl) T.z_len PySem.boot_len (pa_cons (pv 0) pa_nil)) (pe_callB call_len_seq (by rfl) T.z_len PySem.boot_len (pa_cons (pv 1) pa_nil)) (nomark _))))) (pss_one (ps_ret pe_bl)) pss_nil)
        (pss_one (ps_ret (pe_cmpR (op_eqD hr.units) (pe_lc (own := [("_law_k", 2)]) rfl nd (pi_range1 (by rfl) T.z_range (pa_cons (pe_callB call_len_seq (by rfl) T.z_len PySem.boot_len (pa_cons (pv 1) pa_nil)) pa_nil)) (blkOk_by (N := N_llike) (sc := defScope s_llike) (by decide +kernel))
          (fun _ _ _ _ _ => pg_name (i := 2) nd rfl (.inl rfl))
          (fun _ _ _ _ _ => pts_one (pt_not (pt_val (pe_call (IH) hr (by rfl) T.g_llike T.F_llike.kp T.b_llike .nil pass0 (pa_cons (pe_ix (r := rIxT K) ix_tup (pv 0) (pv 2) (fun _ _ => rfl)) (pa_cons (pe_ix (r := rIxT K) ix_tup (pv 1) (pv 2) (fun _ _ => rfl)) pa_nil))))))
          (fun _ _ _ _ _ => pv 2)) (pe_lst pa_nil) (nomark _)))))) pss_nil) pss_never, ?_⟩
    refine ⟨_, rfl, .ref g, .ty "tuple", .type "tuple", .type "tuple", true, rfl, .ty _, .base (.tup hg), kit_ty (by decide +kernel), _, rfl, iteT ?_⟩
    refine ⟨_, rfl, .ref f, .ty "tuple", .type "tuple", .type "tuple", true, rfl, .ty _, .base (.tup hf), kit_ty (by decide +kernel), _, rfl, .ref g, .ty "tuple", .type "tuple", .type "tuple", true, rfl, .ty _, .base (.tup hg), kit_ty (by decide +kernel), rfl, _, rfl, iteNS rfl ?_⟩
    refine ⟨_, rfl, .ref f, .ty "list", .type "tuple", .type "list", false, rfl, .ty _, .base (.tup hf), kit_ty (by decide +kernel), _, rfl, .ref g, .ty "list", .type "tuple", .type "list", false, rfl, .ty _, .base (.tup hg), kit_ty (by decide +kernel), rfl, _, rfl, iteNS rfl ?_⟩
    refine ⟨_, rfl, f, _, rfl, .inr (.of hf), _, rfl, g, _, rfl, .inr (.of hg), rfl, _, rfl, iteNS (by rw [hl]) ?_⟩
    refine ⟨_, rfl, g, _, rfl, .inr (.of hg), _, rfl, by omega, by omega, fun D hD => lc_range (lo := 0) (n := (((ys.length : Nat) : Int)).toNat) (fun i H' => H' D = some (.lst []) ∧ Same H H') ⟨upd_same, same_upd hD⟩ ?_ ?_⟩
    · rintro i H1 hi ⟨h1, s1⟩
      have hi' : i < xs.length := by omega
      have hi2 : i < ys.length := by omega
      refine ⟨rfl, ?_⟩
      refine ⟨_, rfl, _, rfl, f, _, _, _, rfl, rfl, sq_same s1 hf, at_of (j := i) (by omega) (List.getElem?_eq_getElem hi'), _, rfl, _, rfl, g, _, _, _, rfl, rfl, sq_same s1 hg, at_of (j := i) (by omega) (List.getElem?_eq_getElem hi2), _, _, rfl, (ht i _ _ (List.getElem?_eq_getElem hi') (List.getElem?_eq_getElem hi2)).same s1, fun H2 s2 => ⟨_, rfl, ?_⟩⟩
      exact iteF ⟨s2 _ _ h1, s1.trans s2⟩
    · rintro H1 ⟨h1, s1⟩
      refine ⟨Nat.zero_le _, fun e he => ?_⟩
      have s2 := same_upd (o := .lst []) he
      exact ⟨.list [], .list [], .lst (.of (s2 _ _ h1)) .nil, .lst (.of upd_same) .nil, rfl, rfl, q _ (s1.trans s2)⟩
theorem ok_likeSL {n : Nat} (T : Tx K mg) (IH : FnOk P w K mg base CX0 (n + 1) T.a_llike T.d_llike P_llike (spLikeD n)) : FnOk P w K mg base CX0 (n + 2) T.a_llike T.d_llike P_llike (fun vs H Q _ => ∃ (f g : Addr) (xs ys : List V), vs = [.ref f, .ref g] ∧ (H f = some (.lst xs) ∧ H g = some (.lst ys)) ∧ ys.length = xs.length ∧ xs.length ≤ 1000000 ∧
      (∀ (i : Nat) (x y : V), xs[i]? = some x → ys[i]? = some y → LkD n H x y) ∧ ∀ H', Same H H' → Q (.bl true) H') := by
  refine T.F_llike.ok sc_llike (fun vs H Q E h => ?_) (fun cdv A outer s H vs Q E hr h => ?_)
  · obtain ⟨f, g, xs, ys, rfl, _⟩ := h
    rfl
  · obtain ⟨f, g, xs, ys, rfl, ⟨hf, hg⟩, hl, h1000, ht, q⟩ := h
    have nd := sc_llike.nd
    refine ⟨_, pss_cons (ps_if (PW.pt (pw_or (pt_val (pe_callB call_isi (by rfl) T.z_isinstance (by decide +kernel) (pa_cons (pv 1) (pa_cons (pe_bltn (v := .ty "tuple") (u := .type "tuple") (by rfl) T.z_tuple (by decide +kernel) rfl) pa_nil))))
        (pw_or1 (pt_val (pe_callB call_isi (by rfl) T.z_isinstance (by decide +kernel) (pa_cons (pv 1) (pa_cons (pe_bltn (v := .ty "list") (u := .type "list") (by rfl) T.z_list (by decide +kernel) rfl) pa_nil)))))))
        (pss_cons (ps_if (pt_cmpR op_ne (pe_callB call_isi (by rfl) T.z_isinstance (by decide +kernel) (pa_cons (pv 0) (pa_cons (pe_bltn (v := .ty "tuple") (u := .type "tuple") (by rfl) T.z_tuple (by decide +kernel) rfl) pa_nil)))
          (pe_callB call_isi (by rfl) T.z_isinstance (by decide +kernel) (pa_cons (pv 1) (pa_cons (pe_bltn (v := .ty "tuple") (u := .type "tuple") (by rfl) T.z_tuple (by decide +kernel) rfl) pa_nil))) (nomark _)) (pss_one (ps_ret pe_bl)) pss_nil)
        (pss_cons (ps_if (PW.pt (pw_or (pt_cmpR op_ne (pe_callB call_isi (by rfl) T.z_isinstance (by decide +kernel) (pa_cons (pv 0) (pa_cons (pe_bltn (v := .ty "list") (u := .type "list") (by rfl) T.z_list (by decide +kernel) rfl) pa_nil)))
          (pe_callB call_isi (by rfl) T.z_isinstance (by decide +kernel) (pa_cons (pv 1) (pa_cons (pe_bltn (v := .ty "list") (u := .type "list") (by rfl) T.z_list (by decide +kernel) rfl) pa_nil))) (nomark _))
          (pw_or1 (pt_cmpR op_ne (pe_callB call_len_seq (by rfl) T.z_len PySem.boot_len (pa_cons (pv 0) pa_nil)) (pe_callB call_len_seq (by rfl) T.z_len PySem.boot_len (pa_cons (pv 1) pa_nil)) (nomark _))))) (pss_one (ps_ret pe_bl)) pss_nil)
        (pss_one (ps_ret (pe_cmpR (op_eqD hr.units) (pe_lc (own := [("_law_k", 2)]) rfl nd (pi_range1 (by rfl) T.z_range (pa_cons (pe_callB call_len_seq (by rfl) T.z_len PySem.boot_len (pa_cons (pv 1) pa_nil)) pa_nil)) (blkOk_by (N := N_llike) (sc := defScope s_llike) (by decide +kernel))
          (fun _ _ _ _ _ => pg_name (i := 2) nd rfl (.inl rfl))
          (fun _ _ _ _ _ => pts_one (pt_not (pt_val (pe_call (IH) hr (by rfl) T.g_llike T.F_llike.kp T.b_llike .nil pass0 (pa_cons (pe_ix (r := rIxL K) ix_list (pv 0) (pv 2) (fun _ _ => rfl)) (pa_cons (pe_ix (r := rIxL K) ix_list (pv 1) (pv 2) (fun _ _ => rfl)) pa_nil))))))
          (fun _ _ _ _ _ => pv 2)) (pe_lst pa_nil) (nomark _)))))) pss_nil) pss_never, ?_⟩
    refine ⟨_, rfl, .ref g, .ty "tuple", .type "list", .type "tuple", false, rfl, .ty _, .base (.lst hg), kit_ty (by decide +kernel), _, rfl, iteF ?_⟩
    refine ⟨_, rfl, .ref g, .ty "list", .type "list", .type "list", true, rfl, .ty _, .base (.lst hg), kit_ty (by decide +kernel), _, rfl, iteT ?_⟩
    refine ⟨_, rfl, .ref f, .ty "tuple", .type "list", .type "tuple", false, rfl, .ty _, .base (.lst hf), kit_ty (by decide +kernel), _, rfl, .ref g, .ty "tuple", .type "list", .type "tuple", false, rfl, .ty _, .base (.lst hg), kit_ty (by decide +kernel), rfl, _, rfl, iteNS rfl ?_⟩
    refine ⟨_, rfl, .ref f, .ty "list", .type "list", .type "list", true, rfl, .ty _, .base (.lst hf), kit_ty (by decide +kernel), _, rfl, .ref g, .ty "list", .type "list", .type "list", true, rfl, .ty _, .base (.lst hg), kit_ty (by decide +kernel), rfl, _, rfl, iteNS rfl ?_⟩
    refine ⟨_, rfl, f, _, rfl, .inl (.of hf), _, rfl, g, _, rfl, .inl (.of hg), rfl, _, rfl, iteNS (by rw [hl]) ?_⟩
    refine ⟨_, rfl, g, _, rfl, .inl (.of hg), _, rfl, by omega, by omega, fun D hD => lc_range (lo := 0) (n := (((ys.length : Nat) : Int)).toNat) (fun i H' => H' D = some (.lst []) ∧ Same H H') ⟨upd_same, same_upd hD⟩ ?_ ?_⟩
    · rintro i H1 hi ⟨h1, s1⟩
      have hi' : i < xs.length := by omega
      have hi2 : i < ys.length := by omega
      refine ⟨rfl, ?_⟩
      refine ⟨_, rfl, _, rfl, f, _, _, _, rfl, rfl, .of (s1 _ _ hf), at_of (j := i) (by omega) (List.getElem?_eq_getElem hi'), _, rfl, _, rfl, g, _, _, _, rfl, rfl, .of (s1 _ _ hg), at_of (j := i) (by omega) (List.getElem?_eq_getElem hi2), _, _, rfl, (ht i _ _ (List.getElem?_eq_getElem hi') (List.getElem?_eq_getElem hi2)).same s1, fun H2 s2 => ⟨_, rfl, ?_⟩⟩
      exact iteF ⟨s2 _ _ h1, s1.trans s2⟩
    · rintro H1 ⟨h1, s1⟩
      refine ⟨Nat.zero_le _, fun e he => ?_⟩
      have s2 := same_upd (o := .lst []) he
      exact ⟨.list [], .list [], .lst (.of (s2 _ _ h1)) .nil, .lst (.of upd_same) .nil, rfl, rfl, q _ (s1.trans s2)⟩
theorem ok_likeD (T : Tx K mg) : ∀ n : Nat, FnOk P w K mg base CX0 (n + 1) T.a_llike T.d_llike P_llike (spLikeD n)
  | 0 => ok_like0 T
  | n + 1 => by
    have IH := ok_likeD T n
    have h0 := IH.mono (show n + 1 ≤ n + 2 by omega)
    have hT := ok_likeS T IH
    have hL := ok_likeSL T IH
    refine ⟨fun vs H Q E h => ?_, fun A outer s H args us vs Q E hr e b r h => ?_⟩
    · obtain ⟨v, y, rfl, _⟩ := h
      rfl
    · obtain ⟨v, y, rfl, hv, q⟩ := h
      rcases hv with hv | ⟨f, g, xs, ys, rfl, rfl, ho | ho, hl, h1, ht⟩
      · exact h0.run A outer s H args us _ Q E hr e b r ⟨v, y, rfl, hv, q⟩
      · exact hT.run A outer s H args us _ Q E hr e b r ⟨f, g, xs, ys, rfl, ho, hl, h1, ht, q⟩
      · exact hL.run A outer s H args us _ Q E hr e b r ⟨f, g, xs, ys, rfl, ho, hl, h1, ht, q⟩
end
end Rp
namespace Rp
open PySem PySem.Spec PyProof.Rows L2 Rz Rm
section
variable {K : PySem.W.Frag} {H : Hp} {Q : VK} {a b : Addr} {xs ys : List V}
theorem sl_from {k : Int} (ha : Tq H a xs) (k0 : 0 ≤ k) (k1 : k ≤ xs.length) (h : ∀ H' p, Same H H' → Tq H' p (xs.drop k.toNat) → Q (.ref p) H') : rSlA K (.ref a) (some k) none H Q := by
  have e : k = ((k.toNat : Nat) : Int) := by omega
  have e0 : HT.sIx xs.length 0 (some k) = k.toNat := by
    rw [e, HT.sIx_nat]
    omega
  have e1 : cutV xs (some k) none = xs.drop k.toNat := by
    unfold cutV
    rw [e0, HT.sIx_none, List.take_of_length_le (by rw [List.length_drop]; omega)]
  refine ⟨a, xs, rfl, .inl ha.rd, fun z => h H a (fun _ _ q => q) ?_, fun _ p hp => h _ p (same_upd hp) (.inl (by rw [upd_same, e1]))⟩
  rw [e0] at z
  rw [z.1]
  exact ha
theorem sl_to {k : Int} (ha : Tq H a xs) (k0 : 0 ≤ k) (k1 : k ≤ xs.length) (h : ∀ H' p, Same H H' → Tq H' p (xs.take k.toNat) → Q (.ref p) H') : rSlA K (.ref a) none (some k) H Q := by
  have e : k = ((k.toNat : Nat) : Int) := by omega
  have e0 : HT.sIx xs.length xs.length (some k) = k.toNat := by
    rw [e, HT.sIx_nat]
    omega
  have e1 : cutV xs none (some k) = xs.take k.toNat := by
    unfold cutV
    rw [e0, HT.sIx_none, List.drop_zero, Nat.sub_zero]
  refine ⟨a, xs, rfl, .inl ha.rd, fun z => h H a (fun _ _ q => q) ?_, fun _ p hp => h _ p (same_upd hp) (.inl (by rw [upd_same, e1]))⟩
  rw [e0] at z
  rw [z.2, List.take_length]
  exact ha
theorem cat_any (ha : Tq H a xs) (hb : Tq H b ys) (hl : xs.length + ys.length ≤ sizeLine) (h : ∀ H' p, Same H H' → Tq H' p (xs ++ ys) → Q (.ref p) H') : rCatA K (.ref a) (.ref b) H Q := by
  refine ⟨a, b, xs, ys, rfl, rfl, .inl ha.rd, .inl hb.rd, hl, fun z => h H b (fun _ _ q => q) ?_, fun _ z => h H a (fun _ _ q => q) ?_, fun _ _ p hp => h _ p (same_upd hp) (.inl upd_same)⟩
  · rw [z]
    exact hb
  · rw [z, List.append_nil]
    exact ha
end
theorem noPart {σ : L2.St} {H : Hp} {Q : Option Int → Hp → Prop} (h : Q none H) : tNoPart σ H Q := h
end Rp
namespace Rp
open PySem PySem.Spec PyProof.Rows L2 Rz Rm
/-- tuples of ints at addresses -/
def Tups (H : Hp) : List V → List (List Int) → Prop := Paired fun v l => ∃ t, v = V.ref t ∧ H t = some (.tup (l.map V.int))
theorem Tups.snoc {H : Hp} {v : V} {l : List Int} (h2 : ∃ t, v = V.ref t ∧ H t = some (.tup (l.map V.int))) : ∀ {xs : List V} {ls : List (List Int)}, Tups H xs ls → Tups H (xs ++ [v]) (ls ++ [l])
  | _, _, .nil => .cons h2 .nil
  | _, _, .cons r t => .cons r (Tups.snoc h2 t)
theorem Tups.mono {H H' : Hp} (k : ∀ b xs, H b = some (.tup xs) → H' b = some (.tup xs)) : ∀ {xs : List V} {ls : List (List Int)}, Tups H xs ls → Tups H' xs ls
  | _, _, .nil => .nil
  | _, _, .cons ⟨t, e, h⟩ r => .cons ⟨t, e, k _ _ h⟩ (Tups.mono k r)
theorem Tups.length {H : Hp} {xs : List V} {ls : List (List Int)} (h : Tups H xs ls) : xs.length = ls.length := Paired.length h
theorem Tups.get {H : Hp} : ∀ {xs : List V} {ls : List (List Int)} {i : Nat} {l : List Int}, Tups H xs ls → ls[i]? = some l → ∃ t, xs[i]? = some (.ref t) ∧ H t = some (.tup (l.map V.int))
  | _, _, i, l, .nil, h => by simp at h
  | _, _, 0, l, .cons ⟨t, e, h2⟩ r, h => by
    simp at h
    subst h
    exact ⟨t, by rw [e]; rfl, h2⟩
  | _, _, i + 1, l, .cons _ r, h => by
    obtain ⟨t, h1, h2⟩ := Tups.get (i := i) (l := l) r (by simpa using h)
    exact ⟨t, by simpa using h1, h2⟩
/-- as data, for == -/
theorem dp_is {K : PySem.W.Frag} {H : Hp} : ∀ l : List Int, DpAll K H (l.map V.int) (l.map PyData.int)
  | [] => .nil
  | x :: r => .cons (.int x) (dp_is r)
theorem Tups.data {K : PySem.W.Frag} {H : Hp} : ∀ {xs : List V} {ls : List (List Int)}, Tups H xs ls → DpAll K H xs (ls.map fun l => PyData.tuple (l.map PyData.int))
  | _, _, .nil => .nil
  | _, _, .cons ⟨t, e, h⟩ r => .cons (by subst e; exact .tup (.of h) (dp_is _)) (Tups.data r)
theorem lay_tups : ∀ ls : List (List Int), PyData.canLayAll0 (ls.map fun l => PyData.tuple (l.map PyData.int)) = true ∧ PyData.depthAll (ls.map fun l => PyData.tuple (l.map PyData.int)) ≤ 1
  | [] => ⟨rfl, Nat.zero_le _⟩
  | l :: r => by
    obtain ⟨h1, h2⟩ := lay_tups r
    constructor
    · simp [PyData.canLayAll0, PyData.canLay0, PySem.W.ke_canLayAll0 l, h1]
    · simp only [List.map_cons, PyData.depthAll, PyData.depth, PySem.W.ke_depthAll l]
      omega
theorem shaped_tups (ls : List (List Int)) : SeqAt.shaped (.list (ls.map fun l => PyData.tuple (l.map PyData.int))) = true := by
  obtain ⟨h1, h2⟩ := lay_tups ls
  simp only [SeqAt.shaped, PyData.canLay0, PyData.depth, h1, Bool.true_and]
  exact decide_eq_true (by omega)
theorem tup_kp {K : PySem.W.Frag} {H H' : Hp} {t row a : Addr} {xs : List V} {ns : List Int} (ht : H t = some (.tup xs)) (RA : RowAt K H row a ns) (k : Kp row H H') : H' t = some (.tup xs) := by
  obtain ⟨i, m, q, h, _⟩ := RA.ob
  exact k _ _ ht (ne_of ht h (by intro z; cases z))
theorem up {N : Nat} {d s : Int → Int} {B T M : Int} (R : Rm.Ring N d s B T M) (r : Int) {x : Int} (hx : 0 ≤ x) : Rm.E d s r x ≤ (x + 1) * T + x * M := by
  obtain ⟨k, hk, e⟩ := R.att r hx
  have hN := R.pos
  have hB := R.b1
  have hT := R.T0
  have ek : k = k % N + k / N * N := by
    have := Nat.mod_add_div k N
    rw [Nat.mul_comm] at this
    exact this.symm
  have hj := Nat.mod_lt k hN
  have hS := R.sumS r (k % N) (k / N)
  have hD := R.sumD r (k % N + 1) (k / N)
  rw [← ek] at hS
  rw [show k % N + 1 + k / N * N = k + 1 by omega] at hD
  have hm : ((k / N : Nat) : Int) ≤ x := by
    have h1 := sum_nn R.s0 r (k % N)
    have h2 : ((k / N : Nat) : Int) * 1 ≤ ((k / N : Nat) : Int) * B := Int.mul_le_mul_of_nonneg_left hB (Int.natCast_nonneg _)
    omega
  have hd0 : sumBack d r (k % N + 1) ≤ T := by
    have := sum_mono (f := d) (fun i => by have := R.d1 i; omega) r (show k % N + 1 ≤ N by omega)
    rw [R.t] at this
    exact this
  have h3 : ((k / N : Nat) : Int) * T ≤ x * T := Int.mul_le_mul_of_nonneg_right hm hT
  have h4 := max_le R.mu r k
  have h40 : 0 ≤ maxBack d r k := by
    have h1 := max_ge (f := d) r (j := 0) (k := k) (Nat.zero_le _)
    have h2 := R.d1 (r - (0 : Nat))
    omega
  have h5 : (x - sumBack s r k) * maxBack d r k ≤ x * M := by
    have a1 : (x - sumBack s r k) * maxBack d r k ≤ x * maxBack d r k := Int.mul_le_mul_of_nonneg_right (by have := sum_nn R.s0 r k; omega) h40
    have a2 : x * maxBack d r k ≤ x * M := Int.mul_le_mul_of_nonneg_left h4 hx
    omega
  unfold ch at e
  rw [Int.add_mul]
  omega
theorem and_go {c : Bool} {u : TT} {σ : L2.St} {H : Hp} {F : Bool → Hp → Prop} (G : Hp → Prop) (next : ∀ H9, G H9 → F false H9) (hH : G H) (h1 : c = true → (∀ H9, G H9 → F false H9) → u σ H F) : if c = true then u σ H F else F false H := by
  cases c with
  | true => exact iteT (h1 rfl next)
  | false => exact iteF (next H hH)
theorem dp_ints {K : PySem.W.Frag} {H : Hp} : ∀ l : List Int, DpAll K H (l.map V.int) (l.map PyData.int)
  | [] => .nil
  | x :: r => .cons (.int x) (dp_ints r)
theorem Tups.rev {H : Hp} : ∀ {xs : List V} {ls : List (List Int)}, Tups H xs ls → Tups H xs.reverse ls.reverse
  | _, _, .nil => .nil
  | _, _, .cons r t => by
    rw [List.reverse_cons, List.reverse_cons]
    exact Tups.snoc r (Tups.rev t)
theorem Tups.drop {H : Hp} : ∀ {xs : List V} {ls : List (List Int)} (k : Nat), Tups H xs ls → Tups H (xs.drop k) (ls.drop k)
  | _, _, 0, h => h
  | _, _, k + 1, .nil => .nil
  | _, _, k + 1, .cons _ t => Tups.drop k t
theorem Tups.same {H H' : Hp} (s : Same H H') {xs : List V} {ls : List (List Int)} (h : Tups H xs ls) : Tups H' xs ls := h.mono fun b xs e => s _ _ e
/-- two tuples of ints are compared -/
theorem eqv_tup (as bs : List Int) : PyData.eqv (.tuple (as.map PyData.int)) (.tuple (bs.map PyData.int)) = decide (as = bs) := PySem.W.ked_eqvAll _ _
theorem eqv_lst (as bs : List Int) : PyData.eqv (.list (as.map PyData.int)) (.list (bs.map PyData.int)) = decide (as = bs) := PySem.W.ked_eqvAll _ _
theorem shaped_tup (as : List Int) : SeqAt.shaped (.tuple (as.map PyData.int)) = true := by
  simp only [SeqAt.shaped, PyData.canLay0, PyData.depth, PySem.W.ke_canLayAll0 as, PySem.W.ke_depthAll as, Bool.true_and]
  exact decide_eq_true (by omega)
theorem shaped_lst (as : List Int) : SeqAt.shaped (.list (as.map PyData.int)) = true := by
  simp only [SeqAt.shaped, PyData.canLay0, PyData.depth, PySem.W.ke_canLayAll0 as, PySem.W.ke_depthAll as, Bool.true_and]
  exact decide_eq_true (by omega)
section
variable {K : PySem.W.Frag} {H : Hp} {a b : Addr} {as bs : List Int} {Q : VK}
theorem tup_eq (ha : H a = some (.tup (as.map V.int))) (hb : H b = some (.tup (bs.map V.int))) (q : Q (.bl (decide (as = bs))) H) : rEqD K (.ref a) (.ref b) H Q :=
  ⟨_, _, .tup (.of ha) (dp_is as), .tup (.of hb) (dp_is bs), shaped_tup as, shaped_tup bs, by rw [eqv_tup]; exact q⟩
theorem tup_ne (ha : H a = some (.tup (as.map V.int))) (hb : H b = some (.tup (bs.map V.int))) (q : Q (.bl (!decide (as = bs))) H) : rNeD K (.ref a) (.ref b) H Q :=
  ⟨_, _, .tup (.of ha) (dp_is as), .tup (.of hb) (dp_is bs), shaped_tup as, shaped_tup bs, by rw [eqv_tup]; exact q⟩
theorem lst_ne (ha : SqL K H a (as.map V.int)) (hb : SqL K H b (bs.map V.int)) (q : Q (.bl (!decide (as = bs))) H) : rNeD K (.ref a) (.ref b) H Q :=
  ⟨_, _, .lst ha (dp_is as), .lst hb (dp_is bs), shaped_lst as, shaped_lst bs, by rw [eqv_lst]; exact q⟩
theorem lst_eq (ha : SqL K H a (as.map V.int)) (hb : SqL K H b (bs.map V.int)) (q : Q (.bl (decide (as = bs))) H) : rEqD K (.ref a) (.ref b) H Q :=
  ⟨_, _, .lst ha (dp_is as), .lst hb (dp_is bs), shaped_lst as, shaped_lst bs, by rw [eqv_lst]; exact q⟩
end
end Rp
namespace Rp
open PySem PySem.Spec PyProof.Rows L2 Rz Rm
/-! ### the longest heap -/
noncomputable def hpo (ds ss : List Int) (r D : Int) : Int := at' ss r + Cn (at' ds) (at' ss) (r - 1) D - Cn (at' ds) (at' ss) r (D + at' ds r)
noncomputable def gx (ds ss : List Int) (r x : Int) : Int := at' ss r + x + 1 - Cn (at' ds) (at' ss) r (Rm.E (at' ds) (at' ss) (r - 1) x + at' ds r)
section
variable {ds ss : List Int} {M : Int} (RR : Rm.Ring ds.length (at' ds) (at' ss) ss.sum ds.sum M)
include RR
theorem cn_le {j D : Int} (h : 0 ≤ D) : Cn (at' ds) (at' ss) j D ≤ D := by
  obtain ⟨a0, a1, a2⟩ := RR.cn j D
  rcases a1 with a1 | a1
  · omega
  · rcases Int.lt_or_le (Cn (at' ds) (at' ss) j D) 1 with z | z
    · omega
    · have h1 := RR.low j (x := Cn (at' ds) (at' ss) j D - 1) (by omega)
      have h2 := RR.d1 j
      have h3 : (Cn (at' ds) (at' ss) j D - 1 + 1) * 1 ≤ (Cn (at' ds) (at' ss) j D - 1 + 1) * at' ds j := Int.mul_le_mul_of_nonneg_left h2 (by omega)
      omega
theorem cn_mono (j : Int) {D D' : Int} (h : D ≤ D') : Cn (at' ds) (at' ss) j D ≤ Cn (at' ds) (at' ss) j D' := by
  obtain ⟨a0, a1, a2⟩ := RR.cn j D
  obtain ⟨b0, b1, b2⟩ := RR.cn j D'
  rcases Int.lt_or_le (Cn (at' ds) (at' ss) j D') (Cn (at' ds) (at' ss) j D) with z | z
  · rcases a1 with a1 | a1
    · omega
    · have := RR.le j b0 (show Cn (at' ds) (at' ss) j D' ≤ Cn (at' ds) (at' ss) j D - 1 by omega)
      omega
  · exact z
theorem cn_zero {j D : Int} (h : D < at' ds j) : Cn (at' ds) (at' ss) j D = 0 := by
  refine RR.cn_of ⟨Int.le_refl _, .inl rfl, ?_⟩
  have := RR.E1 j (x := 0) (Int.le_refl _)
  omega
theorem cn_cap (r D : Int) : Cn (at' ds) (at' ss) r (D + at' ds r) ≤ at' ss r + Cn (at' ds) (at' ss) (r - 1) D := by
  obtain ⟨a0, a1, a2⟩ := RR.cn r (D + at' ds r)
  obtain ⟨b0, b1, b2⟩ := RR.cn (r - 1) D
  have hs := RR.s0 r
  rcases Int.lt_or_le (at' ss r + Cn (at' ds) (at' ss) (r - 1) D) (Cn (at' ds) (at' ss) r (D + at' ds r)) with z | z
  · rcases a1 with a1 | a1
    · omega
    · have h1 := RR.from r (x := Cn (at' ds) (at' ss) r (D + at' ds r) - 1) (by omega)
      have h2 := RR.le (r - 1) b0 (show Cn (at' ds) (at' ss) (r - 1) D ≤ Cn (at' ds) (at' ss) r (D + at' ds r) - 1 - at' ss r by omega)
      omega
  · exact z
theorem hpo_bounds (r : Int) {D : Int} (h : 0 ≤ D) : 0 ≤ hpo ds ss r D ∧ hpo ds ss r D ≤ ss.sum := by
  have h0 : ∀ j, 0 ≤ at' ss j + Cn (at' ds) (at' ss) (j - 1) D - Cn (at' ds) (at' ss) j (D + at' ds j) := fun j => by
    have := cn_cap RR j D
    omega
  have h1 := (RR.heaps h r).2
  have hN := RR.pos
  have h2 := sum_mono (f := fun j => at' ss j + Cn (at' ds) (at' ss) (j - 1) D - Cn (at' ds) (at' ss) j (D + at' ds j)) h0 r (show 1 ≤ ds.length by omega)
  have h3 : sumBack (fun j => at' ss j + Cn (at' ds) (at' ss) (j - 1) D - Cn (at' ds) (at' ss) j (D + at' ds j)) r 1 = hpo ds ss r D := by
    show 0 + (at' ss (r - (0 : Nat)) + Cn (at' ds) (at' ss) (r - (0 : Nat) - 1) D - Cn (at' ds) (at' ss) (r - (0 : Nat)) (D + at' ds (r - (0 : Nat)))) = _
    rw [show r - ((0 : Nat) : Int) = r by omega]
    unfold hpo
    omega
  refine ⟨by have := h0 r; unfold hpo; omega, by omega⟩
theorem gx_hpo (r : Int) {x : Int} (h : 0 ≤ x) : gx ds ss r x = hpo ds ss r (Rm.E (at' ds) (at' ss) (r - 1) x) := by
  unfold gx hpo
  rw [RR.cn_end (r - 1) h]
  omega
theorem gx_per (r : Int) {p q n x : Int} (p1 : 1 ≤ p) (hall : ∀ m, n ≤ m → Rep (at' ds) (at' ss) p q m) (n0 : 0 ≤ n) (hx : n + ss.sum ≤ x) : gx ds ss r (x + p) = gx ds ss r x := by
  have hB := RR.b1
  have hs := RR.s0 r
  have h1 := hall x (by omega) (r - 1)
  have hb := (hpo_bounds RR r (D := Rm.E (at' ds) (at' ss) (r - 1) x) (by have := RR.E1 (r - 1) (x := x) (by omega); have := RR.d1 (r - 1); omega)).2
  rw [← gx_hpo RR r (by omega)] at hb
  unfold gx at hb ⊢
  rw [h1]
  obtain ⟨c, hc⟩ : ∃ c, c = Cn (at' ds) (at' ss) r (Rm.E (at' ds) (at' ss) (r - 1) x + at' ds r) := ⟨_, rfl⟩
  obtain ⟨a0, a1, a2⟩ := RR.cn r (Rm.E (at' ds) (at' ss) (r - 1) x + at' ds r)
  rw [← hc] at hb a0 a1 a2 ⊢
  have h2 := hall (c - 1) (by omega) r
  have h3 := hall c (by omega) r
  have : Cn (at' ds) (at' ss) r (Rm.E (at' ds) (at' ss) (r - 1) x + q + at' ds r) = c + p := by
    refine RR.cn_of ⟨by omega, .inr ?_, by omega⟩
    rw [show c + p - 1 = c - 1 + p by omega, h2]
    rcases a1 with a1 | a1
    · omega
    · omega
  rw [this]
  omega
theorem gx_all (r : Int) {p q n L : Int} (p1 : 1 ≤ p) (pB : p ≤ ss.sum) (hall : ∀ m, n ≤ m → Rep (at' ds) (at' ss) p q m) (n0 : 0 ≤ n) (h : ∀ x, 0 ≤ x → x ≤ n + 2 * ss.sum → gx ds ss r x ≤ L) : ∀ k : Nat, gx ds ss r k ≤ L := by
  intro k
  induction k using Nat.strongRecOn with
  | _ k ih =>
    by_cases hk : (k : Int) ≤ n + 2 * ss.sum
    · exact h k (by omega) hk
    · have h1 := gx_per RR r p1 hall n0 (x := (k : Int) - p) (by omega)
      have h2 := ih (k - p.toNat) (by omega)
      rw [show ((k - p.toNat : Nat) : Int) = (k : Int) - p by omega] at h2
      rw [show (k : Int) - p + p = k by omega] at h1
      omega
theorem hpo_all (r : Int) {p q n L : Int} (p1 : 1 ≤ p) (pB : p ≤ ss.sum) (hall : ∀ m, n ≤ m → Rep (at' ds) (at' ss) p q m) (n0 : 0 ≤ n) (h0 : at' ss r - min (at' ss r) 1 ≤ L) (h : ∀ x, 0 ≤ x → x ≤ n + 2 * ss.sum → gx ds ss r x ≤ L) {D : Int} (hD : 0 ≤ D) : hpo ds ss r D ≤ L := by
  obtain ⟨a0, a1, a2⟩ := RR.cn (r - 1) D
  have hs := RR.s0 r
  have hd := RR.d1 r
  by_cases c0 : Cn (at' ds) (at' ss) (r - 1) D = 0
  · unfold hpo
    rw [c0]
    obtain ⟨b0, b1, b2⟩ := RR.cn r (D + at' ds r)
    rcases Int.lt_or_le (at' ss r) 1 with z | z
    · omega
    · have hE : Rm.E (at' ds) (at' ss) r 0 = at' ds r := by
        rcases RR.bell r (x := 0) (Int.le_refl _) with e | ⟨e, _⟩ | ⟨e, _⟩
        · exact e
        · omega
        · omega
      have : Cn (at' ds) (at' ss) r (D + at' ds r) ≠ 0 := fun z => by
        rw [z, hE] at b2
        omega
      omega
  · have h1 : Rm.E (at' ds) (at' ss) (r - 1) (Cn (at' ds) (at' ss) (r - 1) D - 1) ≤ D := by
      rcases a1 with a1 | a1
      · exact absurd a1 c0
      · exact a1
    have h2 := gx_all RR r p1 pB hall n0 h (Cn (at' ds) (at' ss) (r - 1) D - 1).toNat
    rw [show (((Cn (at' ds) (at' ss) (r - 1) D - 1).toNat : Nat) : Int) = Cn (at' ds) (at' ss) (r - 1) D - 1 by omega] at h2
    have h3 := cn_mono RR r (show Rm.E (at' ds) (at' ss) (r - 1) (Cn (at' ds) (at' ss) (r - 1) D - 1) + at' ds r ≤ D + at' ds r by omega)
    unfold gx at h2
    unfold hpo
    omega
end
end Rp
namespace Rp
open PySem PySem.Spec PyProof.Rows L2 Rz Rm
theorem hpo_zero {ds ss : List Int} {M : Int} (RR : Rm.Ring ds.length (at' ds) (at' ss) ss.sum ds.sum M) (r : Int) : hpo ds ss r 0 = at' ss r - min (at' ss r) 1 := by
  have hs := RR.s0 r
  have hd := RR.d1 r
  have z1 : Cn (at' ds) (at' ss) (r - 1) 0 = 0 := cn_zero RR (by have := RR.d1 (r - 1); omega)
  have z0 : Cn (at' ds) (at' ss) r 0 = 0 := cn_zero RR (by omega)
  have h1 := cn_cap RR r 0
  have h2 := RR.cn_next r 0
  rw [z1] at h1
  rw [z0] at h2
  unfold hpo
  rw [z1]
  rcases Int.lt_or_le (at' ss r) 1 with z | z
  · omega
  · obtain ⟨b0, b1, b2⟩ := RR.cn r (0 + at' ds r)
    have hE : Rm.E (at' ds) (at' ss) r 0 = at' ds r := by
      rcases RR.bell r (x := 0) (Int.le_refl _) with e | ⟨e, _⟩ | ⟨e, _⟩
      · exact e
      · omega
      · omega
    have : Cn (at' ds) (at' ss) r (0 + at' ds r) ≠ 0 := fun z => by
      rw [z, hE] at b2
      omega
    omega
section
variable {P : Program} {w : World} {K : PySem.W.Frag} {mg : Str → Option Value} {base : Heap}
def spLongest (C : Addr) : Sp := fun vs H Q _ => ∃ p dx td ts ds ss, ∃ r : Int, vs = [.ref p, .int r] ∧ RingAt C H p dx td ts ds ss ∧ 0 ≤ r ∧ r < ds.length ∧ ∀ H' L, Same H H' → (∀ D, 0 ≤ D → hpo ds ss r D ≤ L) → (∃ D, 0 ≤ D ∧ hpo ds ss r D = L) → Q (.int L) H'
theorem ok_longest (T : Tx K mg) : FnOk P w K mg base CX0 6 T.a_longest_heap T.d_longest_heap P_longest_heap (spLongest T.C) := by
  refine T.F_longest_heap.ok sc_longest_heap (fun vs H Q E h => ?_) (fun cdv A outer s H vs Q E hr h => ?_)
  · obtain ⟨p, dx, td, ts, ds, ss, r, rfl, _⟩ := h
    rfl
  · obtain ⟨p, dx, td, ts, ds, ss, r, rfl, R, r0, r1, q⟩ := h
    have hr5 : Room 5 _ := hr.mono (by decide)
    have hr3 : Room 3 _ := hr.mono (by decide)
    have hr2 : Room 2 _ := hr.mono (by decide)
    have nd := sc_longest_heap.nd
    have l2 := R.ok.l2
    have ls := R.ok.ls
    have b1 := R.ok.b1
    have b12 := R.ok.b12
    obtain ⟨M, hM, hMu⟩ := R.ok.max
    have RR := R.ok.ring hM hMu
    refine ⟨_, pss_cons (ps_expr (pe_call (ok_reader T) hr3 (by rfl) T.g_check_reader T.F_check_reader.kp T.b_check_reader .nil pass0 (pa_cons (pv 0) (pa_cons (pv 1) pa_nil))))
      (pss_cons (ps_set (i := 2) nd rfl (.inl rfl) (pe_call (ok_before T) hr3 (by rfl) T.g_reader_before T.F_reader_before.kp T.b_reader_before .nil pass0 (pa_cons (pv 0) (pa_cons (pv 1) pa_nil))))
      (pss_cons (ps_set (i := 3) nd rfl (.inl rfl) (pe_ix ix_tup (pe_prop (pv 0) T.cl T.q_rstarts (ok_starts T) hr2 T.b_rstarts .nil pass0 rfl) (pv 1) (fun _ _ => rfl)))
      (pss_cons (ps_set (i := 4) nd rfl (.inl rfl) (pe_callB (call_min2 rfl) (by rfl) T.z_min (by decide +kernel) (pa_cons (pv 3) (pa_cons pe_int pa_nil))))
      (pss_cons (ps_set (i := 5) nd rfl (.inl rfl) (pe_op op_sub (pv 3) (pv 4)))
      (pss_cons (ps_for PassesOwn.never rfl (pi_range1 (by rfl) T.z_range (pa_cons (pe_op op_add (pe_op op_add (pe_ix ix_tup (pe_call (ok_settled T) hr5 (by rfl) T.g_settled T.F_settled.kp T.b_settled .nil pass0 (pa_cons (pv 0) pa_nil)) pe_int (fun _ _ => rfl))
            (pe_op op_mul pe_int (pe_prop (pv 0) T.cl T.q_rbooks (ok_books T) hr2 T.b_rbooks .nil pass0 rfl))) pe_int) pa_nil)) (pg_name (i := 6) nd rfl (.inl rfl))
        (pss_cons (ps_set (i := 7) nd rfl (.inl rfl) (pe_call (ok_end T) hr3 (by rfl) T.g_end_day T.F_end_day.kp T.b_end_day .nil pass0 (pa_cons (pv 0) (pa_cons (pv 2) (pa_cons (pv 6) pa_nil)))))
        (pss_cons (ps_aug (i := 3) nd rfl (.inl rfl) pe_int ip_add)
        (pss_cons (ps_while PassesOwn.never (PW.pt (pw_and (pt_cmpR op_lt (pv 4) (pv 3) (nomark _)) (pw_and1 (pt_cmpR op_le (pe_op op_sub (pe_call (ok_end T) hr3 (by rfl) T.g_end_day T.F_end_day.kp T.b_end_day .nil pass0 (pa_cons (pv 0) (pa_cons (pv 1) (pa_cons (pv 4) pa_nil))))
            (pe_ix ix_tup (pe_prop (pv 0) T.cl T.q_rdays (ok_days T) hr2 T.b_rdays .nil pass0 rfl) (pv 1) (fun _ _ => rfl))) (pv 7) (nomark _)))))
          (pss_one (ps_aug (i := 4) nd rfl (.inl rfl) pe_int ip_add)))
        (pss_one (ps_set (i := 5) nd rfl (.inl rfl) (pe_callB (call_max2 rfl) (by rfl) T.z_max (by decide +kernel) (pa_cons (pv 5) (pa_cons (pe_op op_sub (pv 3) (pv 4)) pa_nil)))))))))
      (pss_one (ps_ret (pv 5)))))))), ?_⟩
    have hat : atI (ss.map V.int) r = some (.int (at' ss r)) := at_ix (by omega) (by omega)
    have hatD : atI (ds.map V.int) r = some (.int (at' ds r)) := at_ix (by omega) (by omega)
    have s0 := RR.s0 r
    have s12 := (R.ok.s0 _ (at_mem (l := ss) (by omega) r)).2
    have pr0 : 0 ≤ (r - 1) % (ds.length : Int) := Int.emod_nonneg _ (by omega)
    have pr1 : (r - 1) % (ds.length : Int) < ds.length := Int.emod_lt_of_pos _ (by omega)
    refine ⟨_, rfl, _, rfl, p, dx, td, ts, ds, ss, r, rfl, R, r0, r1, ?_⟩
    refine ⟨_, rfl, _, rfl, p, dx, td, ts, ds, ss, r, rfl, R, ?_⟩
    refine ⟨_, rfl, p, dx, _, rfl, R.ob, p, dx, td, ts, ds, ss, rfl, R, _, rfl, ts, _, _, _, rfl, rfl, .inl R.ts.rd, hat, ?_⟩
    refine ⟨_, rfl, _, _, rfl, ?_⟩
    obtain ⟨b0, hb0⟩ : ∃ b0, b0 = (if (1 : Int) < at' ss r then 1 else at' ss r) := ⟨_, rfl⟩
    have hb0' : b0 = min (at' ss r) 1 := by
      rw [hb0]
      split <;> omega
    rw [← hb0]
    refine ⟨_, rfl, _, rfl, _, _, rfl, rfl, ?_⟩
    refine ⟨_, rfl, p, dx, td, ts, ds, ss, rfl, R, fun M1 hM1 hMu1 H1 t n pp qq s1 ht hrep hset => ?_⟩
    have n0 := hset.n0
    have n1 := hset.n1
    have R1 := R.same s1
    have pq : 1 ≤ pp ∧ pp ≤ ss.sum := by
      rcases hrep with ⟨_, rfl, rfl⟩ | ⟨_, rfl, rfl⟩ <;> omega
    refine ⟨t, _, 0, _, rfl, rfl, .of ht, atI_nat (j := 0) rfl, _, rfl, p, dx, _, rfl, R1.ob, p, dx, td, ts, ds, ss, rfl, R1, _, _, rfl, rfl, .inl ⟨by decide, by decide⟩, _, _, rfl, rfl, _, _, rfl, rfl, _, rfl, by omega, by omega, ?_⟩
    have hE0 : Cn (at' ds) (at' ss) r (at' ds r) = Cn (at' ds) (at' ss) r (at' ds r) := rfl
    refine for_range (lo := 0) (n := (n + 2 * ss.sum + 1).toNat) (fun i σ H' => H' = H1 ∧ ∃ b L y6 y7, σ = [some (.ref p), some (.int r), some (.int ((r - 1) % (ds.length : Int))), some (.int (at' ss r + i)), some (.int b), some (.int L), y6, y7] ∧ 0 ≤ b ∧ b ≤ Cn (at' ds) (at' ss) r (Rm.E (at' ds) (at' ss) (r - 1) i + at' ds r) ∧ at' ss r - min (at' ss r) 1 ≤ L ∧ (∃ D, 0 ≤ D ∧ hpo ds ss r D = L) ∧ ∀ x : Nat, x < i → gx ds ss r x ≤ L) ⟨rfl, b0, at' ss r - b0, none, none, ?_, ?_, ?_, ?_, ⟨0, Int.le_refl _, by rw [hpo_zero RR r, hb0']⟩, fun x hx => absurd hx (Nat.not_lt_zero _)⟩ ?_ ?_
    · show ([_, _, _, some (V.int (at' ss r)), _, _, _, _] : L2.St) = [_, _, _, some (V.int (at' ss r + ((0 : Nat) : Int))), _, _, _, _]
      rw [show at' ss r + ((0 : Nat) : Int) = at' ss r by omega]
    · omega
    · have hEr := RR.E1 (r - 1) (x := 0) (Int.le_refl _)
      have hd1 := RR.d1 (r - 1)
      obtain ⟨c0, c1, c2⟩ := RR.cn r (Rm.E (at' ds) (at' ss) (r - 1) ((0 : Nat) : Int) + at' ds r)
      rcases Int.lt_or_le (at' ss r) 1 with z | z
      · omega
      · have hE : Rm.E (at' ds) (at' ss) r 0 = at' ds r := by
          rcases RR.bell r (x := 0) (Int.le_refl _) with e | ⟨e, _⟩ | ⟨e, _⟩
          · exact e
          · omega
          · omega
        have hne : Cn (at' ds) (at' ss) r (Rm.E (at' ds) (at' ss) (r - 1) ((0 : Nat) : Int) + at' ds r) ≠ 0 := fun z => by
          rw [z, hE] at c2
          have hEr' : at' ds (r - 1) ≤ Rm.E (at' ds) (at' ss) (r - 1) ((0 : Nat) : Int) := hEr
          omega
        omega
    · rw [hb0']
      exact Int.le_refl _
    · rintro i σ H2 hi ⟨rfl, b, L, y6, y7, rfl, b0', bc, hL, hat0, hg⟩
      have ei : (0 : Int) + (i : Int) = i := by omega
      have hEi := RR.E1 (r - 1) (x := (i : Int)) (by omega)
      have hd1 := RR.d1 (r - 1)
      have hdr := RR.d1 r
      show tSeq _ _ _ [some (.ref p), some (.int r), some (.int ((r - 1) % (ds.length : Int))), some (.int (at' ss r + i)), some (.int b), some (.int L), some (.int (0 + (i : Int))), y7] H2
      rw [ei]
      refine ⟨_, rfl, _, rfl, _, rfl, p, dx, td, ts, ds, ss, (r - 1) % (ds.length : Int), i, rfl, R1, pr0, pr1, by omega, ?_⟩
      rw [RR.E_mod]
      obtain ⟨day, hday⟩ : ∃ day, day = Rm.E (at' ds) (at' ss) (r - 1) i := ⟨_, rfl⟩
      obtain ⟨c, hc⟩ : ∃ c, c = Cn (at' ds) (at' ss) r (day + at' ds r) := ⟨_, rfl⟩
      rw [← hday] at bc hEi ⊢
      obtain ⟨c0, c1, c2⟩ := RR.cn r (day + at' ds r)
      have cap := cn_cap RR r day
      have hce : Cn (at' ds) (at' ss) (r - 1) day = i + 1 := by
        rw [hday]
        exact RR.cn_end (r - 1) (by omega)
      rw [hce] at cap
      rw [← hc] at bc c0 c1 c2 cap
      refine ⟨_, rfl, _, _, rfl, rfl, ?_⟩
      refine ⟨fun m σ H' => H' = H2 ∧ ∃ b' : Int, m = (c - b').toNat ∧ σ = [some (.ref p), some (.int r), some (.int ((r - 1) % (ds.length : Int))), some (.int (at' ss r + i + 1)), some (.int b'), some (.int L), some (.int i), some (.int day)] ∧ 0 ≤ b' ∧ b' ≤ c, ⟨_, rfl, b, rfl, rfl, b0', bc⟩, ?_⟩
      rintro m σ H3 ⟨rfl, b', rfl, rfl, b1', bc'⟩
      refine ⟨_, rfl, _, rfl, _, _, rfl, rfl, _, rfl, ?_⟩
      by_cases hb : b' < c
      · rw [decide_eq_true (show b' < at' ss r + i + 1 by omega)]
        have h1 : Rm.E (at' ds) (at' ss) r b' ≤ day + at' ds r := by
          have h2 := RR.le r b1' (show b' ≤ c - 1 by omega)
          omega
        refine iteT ⟨_, rfl, _, rfl, _, rfl, p, dx, td, ts, ds, ss, r, b', rfl, R1, r0, r1, b1', _, rfl, p, dx, _, rfl, R1.ob, p, dx, td, ts, ds, ss, rfl, R1, _, rfl, td, _, _, _, rfl, rfl, .inl R1.td.rd, hatD, _, _, rfl, rfl, _, rfl, _, _, rfl, rfl, _, rfl, ?_⟩
        rw [decide_eq_true (show Rm.E (at' ds) (at' ss) r b' - at' ds r ≤ day by omega)]
        refine iteT ⟨fun σ' H' => H' = H3 ∧ σ' = [some (.ref p), some (.int r), some (.int ((r - 1) % (ds.length : Int))), some (.int (at' ss r + i + 1)), some (.int (b' + 1)), some (.int L), some (.int i), some (.int day)], fun σ' H' ⟨e1, e2⟩ => ⟨(c - (b' + 1)).toNat, by omega, e1, b' + 1, rfl, e2, by omega, by omega⟩, ?_⟩
        exact ⟨_, rfl, _, _, rfl, rfl, rfl, rfl⟩
      · have e : b' = c := by omega
        subst e
        refine and_go (c := decide (b' < at' ss r + i + 1)) (H := H3) (fun H9 => H9 = H3) ?_ rfl ?_
        · rintro H9 rfl
          refine iteF ?_
          refine ⟨_, rfl, _, rfl, _, rfl, _, _, rfl, rfl, _, _, rfl, ?_⟩
          rw [max_if]
          have hgi : gx ds ss r i = at' ss r + i + 1 - b' := by
            unfold gx
            rw [← hday, ← hc]
          refine ⟨rfl, b', max L (at' ss r + i + 1 - b'), some (.int i), some (.int day), ?_, b1', ?_, by omega, ?_, fun x hx => ?_⟩
          · show ([_, _, _, some (V.int (at' ss r + i + 1)), _, _, _, _] : L2.St) = [_, _, _, some (V.int (at' ss r + ((i + 1 : Nat) : Int))), _, _, _, _]
            rw [show at' ss r + ((i + 1 : Nat) : Int) = at' ss r + i + 1 by omega]
          · rw [hc]
            refine cn_mono RR r ?_
            have h2 := RR.le (r - 1) (x := (i : Int)) (y := ((i + 1 : Nat) : Int)) (by omega) (by omega)
            omega
          · rcases Int.lt_or_le L (at' ss r + i + 1 - b') with z | z
            · refine ⟨Rm.E (at' ds) (at' ss) (r - 1) i, by rw [← hday]; omega, ?_⟩
              rw [← gx_hpo RR r (by omega), hgi]
              omega
            · obtain ⟨D, D0, hD⟩ := hat0
              exact ⟨D, D0, by omega⟩
          · by_cases ex : x = i
            · subst ex
              omega
            · have := hg x (by omega)
              omega
        · intro _ nx9
          refine ⟨_, rfl, _, rfl, _, rfl, p, dx, td, ts, ds, ss, r, b', rfl, R1, r0, r1, b1', _, rfl, p, dx, _, rfl, R1.ob, p, dx, td, ts, ds, ss, rfl, R1, _, rfl, td, _, _, _, rfl, rfl, .inl R1.td.rd, hatD, _, _, rfl, rfl, _, rfl, _, _, rfl, rfl, _, rfl, ?_⟩
          rw [decide_eq_false (show ¬ Rm.E (at' ds) (at' ss) r b' - at' ds r ≤ day by omega)]
          exact nx9 H3 rfl
    · rintro σ H2 ⟨rfl, b, L, y6, y7, rfl, _, _, hL, hat0, hg⟩
      refine ⟨_, rfl, q _ L s1 (fun D hD => ?_) hat0⟩
      refine hpo_all RR r pq.1 pq.2 hset.all n0 hL (fun x x0 x1 => ?_) hD
      have := hg x.toNat (by omega)
      rw [show ((x.toNat : Nat) : Int) = x by omega] at this
      exact this
end
end Rp
namespace Rp
open PySem PySem.Spec PyProof.Rows L2 Rz Rm
/-! ### chains of readings, their mathematics -/
def toL (p : Int × Int) : List Int := [p.1, p.2]
theorem toL_inj {a b : Int × Int} (h : toL a = toL b) : a = b := by
  obtain ⟨x, y⟩ := a
  obtain ⟨z, w⟩ := b
  unfold toL at h
  simp at h
  rw [h.1, h.2]
/-- a comes before b: the same reader's, or the same book's -/
def Fol (ss : List Int) (a b : Int × Int) : Prop := a = (b.1, b.2 - 1) ∨ a = ((b.1 - 1) % (ss.length : Int), b.2 - at' ss b.1)
structure Rdg (ds : List Int) (a : Int × Int) : Prop where
  r0 : 0 ≤ a.1
  r1 : a.1 < ds.length
  x0 : 0 ≤ a.2
  x1 : a.2 ≤ 500
/-- the reading that is waited for -/
noncomputable def wt (ds ss : List Int) (b : Int × Int) : Int × Int := open Classical in if 0 < b.2 ∧ Rm.E (at' ds) (at' ss) b.1 (b.2 - 1) = Rm.E (at' ds) (at' ss) b.1 b.2 - at' ds b.1 then (b.1, b.2 - 1) else ((b.1 - 1) % (ds.length : Int), b.2 - at' ss b.1)
/-- from the last reading back -/
structure Bck (ds ss : List Int) (z c : Int × Int) (bs : List (Int × Int)) : Prop where
  ok : ∀ a ∈ bs, Rdg ds a
  z : bs[0]? = some z
  c : bs[bs.length - 1]? = some c
  fol : ∀ i a b, bs[i]? = some b → bs[i + 1]? = some a → Fol ss a b ∧ Rm.E (at' ds) (at' ss) a.1 a.2 = Rm.E (at' ds) (at' ss) b.1 b.2 - at' ds b.1 ∧ a = wt ds ss b
theorem Bck.ne {ds ss : List Int} {z c : Int × Int} {bs : List (Int × Int)} (h : Bck ds ss z c bs) : 0 < bs.length := (List.getElem?_eq_some_iff.mp h.z).1
theorem Bck.one {ds ss : List Int} {z : Int × Int} (h : Rdg ds z) : Bck ds ss z z [z] :=
  ⟨fun a m => by rw [List.mem_singleton.mp m]; exact h, rfl, rfl, fun i a b h1 h2 => by
    cases i <;> simp at h2⟩
theorem Bck.more {ds ss : List Int} {z c a : Int × Int} {bs : List (Int × Int)} (h : Bck ds ss z c bs) (ha : Rdg ds a) (hf : Fol ss a c) (he : Rm.E (at' ds) (at' ss) a.1 a.2 = Rm.E (at' ds) (at' ss) c.1 c.2 - at' ds c.1) (hw : a = wt ds ss c) : Bck ds ss z a (bs ++ [a]) := by
  have hn := h.ne
  refine ⟨fun y m => ?_, ?_, ?_, fun i y b h1 h2 => ?_⟩
  · rcases List.mem_append.mp m with q | q
    · exact h.ok y q
    · rw [List.mem_singleton.mp q]; exact ha
  · rw [List.getElem?_append_left hn]; exact h.z
  · rw [List.length_append, List.length_singleton, Nat.add_sub_cancel, List.getElem?_append_right (Nat.le_refl _), Nat.sub_self]
    rfl
  · by_cases hi : i + 1 < bs.length
    · rw [List.getElem?_append_left (by omega)] at h1
      rw [List.getElem?_append_left hi] at h2
      exact h.fol i y b h1 h2
    · have hl := (List.getElem?_eq_some_iff.mp h2).1
      rw [List.length_append, List.length_singleton] at hl
      have ei : i = bs.length - 1 := by omega
      subst ei
      rw [List.getElem?_append_left (by omega), h.c] at h1
      rw [show bs.length - 1 + 1 = bs.length by omega, List.getElem?_append_right (Nat.le_refl _), Nat.sub_self] at h2
      cases h1
      cases h2
      exact ⟨hf, he, hw⟩
/-- in order: each one begins when the one before it ends, the first on day 0 -/
structure Chn (ds ss : List Int) (z : Int × Int) (ps : List (Int × Int)) : Prop where
  ok : ∀ a ∈ ps, Rdg ds a
  ne : 0 < ps.length
  z : ps[ps.length - 1]? = some z
  c : ∀ a, ps[0]? = some a → Rm.E (at' ds) (at' ss) a.1 a.2 = at' ds a.1
  fol : ∀ i a b, ps[i]? = some a → ps[i + 1]? = some b → Fol ss a b ∧ Rm.E (at' ds) (at' ss) a.1 a.2 = Rm.E (at' ds) (at' ss) b.1 b.2 - at' ds b.1 ∧ a = wt ds ss b
theorem Bck.chn {ds ss : List Int} {z c : Int × Int} {bs : List (Int × Int)} (h : Bck ds ss z c bs) (h0 : Rm.E (at' ds) (at' ss) c.1 c.2 = at' ds c.1) : Chn ds ss z bs.reverse := by
  have hn := h.ne
  refine ⟨fun a m => h.ok a (List.mem_reverse.mp m), by rw [List.length_reverse]; exact hn, ?_, fun a e => ?_, fun i a b h1 h2 => ?_⟩
  · rw [List.length_reverse, List.getElem?_reverse (by omega), show bs.length - 1 - (bs.length - 1) = 0 by omega]
    exact h.z
  · rw [List.getElem?_reverse hn, Nat.sub_zero, h.c] at e
    cases e
    exact h0
  · have hl := (List.getElem?_eq_some_iff.mp h2).1
    rw [List.length_reverse] at hl
    rw [List.getElem?_reverse (by omega)] at h1 h2
    refine h.fol (bs.length - 1 - (i + 1)) a b h2 ?_
    rw [show bs.length - 1 - (i + 1) + 1 = bs.length - 1 - i by omega]
    exact h1
/-- the sum of its days -/
theorem chn_at {ds ss : List Int} {z : Int × Int} {ps qs : List (Int × Int)} (h : Chn ds ss z ps) (g : Chn ds ss z qs) : ∀ i : Nat, i < ps.length → i < qs.length → ps[ps.length - 1 - i]? = qs[qs.length - 1 - i]?
  | 0, _, _ => by
    rw [Nat.sub_zero, Nat.sub_zero, h.z, g.z]
  | i + 1, h1, h2 => by
    have ih := chn_at h g i (by omega) (by omega)
    have p1 : ps.length - 1 - (i + 1) < ps.length := by omega
    have p2 : ps.length - 1 - i < ps.length := by omega
    have q1 : qs.length - 1 - (i + 1) < qs.length := by omega
    have q2 : qs.length - 1 - i < qs.length := by omega
    rw [List.getElem?_eq_getElem p2, List.getElem?_eq_getElem q2] at ih
    have ih := Option.some.inj ih
    have w1 := (h.fol (ps.length - 1 - (i + 1)) _ _ (List.getElem?_eq_getElem p1) (by rw [show ps.length - 1 - (i + 1) + 1 = ps.length - 1 - i by omega]; exact List.getElem?_eq_getElem p2)).2.2
    have w2 := (g.fol (qs.length - 1 - (i + 1)) _ _ (List.getElem?_eq_getElem q1) (by rw [show qs.length - 1 - (i + 1) + 1 = qs.length - 1 - i by omega]; exact List.getElem?_eq_getElem q2)).2.2
    rw [List.getElem?_eq_getElem p1, List.getElem?_eq_getElem q1, w1, w2, ih]
theorem chn_len {ds ss : List Int} {M : Int} (RR : Rm.Ring ds.length (at' ds) (at' ss) ss.sum ds.sum M) {z : Int × Int} {ps qs : List (Int × Int)} (h : Chn ds ss z ps) (g : Chn ds ss z qs) : qs.length ≤ ps.length := by
  rcases Nat.lt_or_ge ps.length qs.length with hl | hl
  · have hn := h.ne
    have e := chn_at h g (ps.length - 1) (by omega) (by omega)
    rw [show ps.length - 1 - (ps.length - 1) = 0 by omega, List.getElem?_eq_getElem hn, List.getElem?_eq_getElem (show qs.length - 1 - (ps.length - 1) < qs.length by omega)] at e
    have e := Option.some.inj e
    have q1 : qs.length - 1 - (ps.length - 1) - 1 < qs.length := by omega
    have w := (g.fol (qs.length - 1 - (ps.length - 1) - 1) _ _ (List.getElem?_eq_getElem q1) (by rw [show qs.length - 1 - (ps.length - 1) - 1 + 1 = qs.length - 1 - (ps.length - 1) by omega]; exact List.getElem?_eq_getElem (by omega))).2.1
    have c := h.c _ (List.getElem?_eq_getElem hn)
    rw [← e, c] at w
    have k := g.ok _ (List.getElem_mem q1)
    have e1 := RR.E1 (qs[qs.length - 1 - (ps.length - 1) - 1]).1 k.x0
    have d1 := RR.d1 (qs[qs.length - 1 - (ps.length - 1) - 1]).1
    omega
  · exact hl
/-- there is one such chain -/
theorem chn_one {ds ss : List Int} {M : Int} (RR : Rm.Ring ds.length (at' ds) (at' ss) ss.sum ds.sum M) {z : Int × Int} {ps qs : List (Int × Int)} (h : Chn ds ss z ps) (g : Chn ds ss z qs) : ps = qs := by
  have l : ps.length = qs.length := Nat.le_antisymm (chn_len RR g h) (chn_len RR h g)
  refine List.ext_getElem? fun i => ?_
  by_cases hi : i < ps.length
  · have e := chn_at h g (ps.length - 1 - i) (by omega) (by omega)
    rw [show ps.length - 1 - (ps.length - 1 - i) = i by omega, show qs.length - 1 - (ps.length - 1 - i) = i by omega] at e
    exact e
  · rw [List.getElem?_eq_none (by omega), List.getElem?_eq_none (by omega)]
def dsum (ds : List Int) (ps : List (Int × Int)) : Int := (ps.map fun a => at' ds a.1).sum
theorem dsum_snoc (ds : List Int) (ps : List (Int × Int)) (a : Int × Int) : dsum ds (ps ++ [a]) = dsum ds ps + at' ds a.1 := by
  unfold dsum
  rw [List.map_append, List.sum_append]
  simp
theorem take_snoc {α : Type} {l : List α} {i : Nat} {a : α} (h : l[i]? = some a) : l.take (i + 1) = l.take i ++ [a] := by
  rw [List.take_add_one, h]
  rfl
theorem Chn.sum_to {ds ss : List Int} {z : Int × Int} {ps : List (Int × Int)} (h : Chn ds ss z ps) : ∀ i a, ps[i]? = some a → dsum ds (ps.take (i + 1)) = Rm.E (at' ds) (at' ss) a.1 a.2
  | 0, a, e => by
    rw [take_snoc e, dsum_snoc, h.c a e]
    simp [dsum]
  | i + 1, b, e => by
    have hl := (List.getElem?_eq_some_iff.mp e).1
    obtain ⟨a, ea⟩ : ∃ a, ps[i]? = some a := ⟨_, List.getElem?_eq_getElem (by omega)⟩
    rw [take_snoc e, dsum_snoc, Chn.sum_to h i a ea, (h.fol i a b ea e).2.1]
    omega
theorem Chn.sum {ds ss : List Int} {z : Int × Int} {ps : List (Int × Int)} (h : Chn ds ss z ps) : dsum ds ps = Rm.E (at' ds) (at' ss) z.1 z.2 := by
  have hn := h.ne
  have := h.sum_to _ _ h.z
  rw [show ps.length - 1 + 1 = ps.length by omega, List.take_length] at this
  exact this
theorem dsum_drop {ds : List Int} {ps : List (Int × Int)} {a : Int × Int} (h : ps[0]? = some a) : dsum ds (ps.drop 1) = dsum ds ps - at' ds a.1 := by
  cases ps with
  | nil => cases h
  | cons b r =>
    cases h
    unfold dsum
    rw [List.map_cons, List.sum_cons, List.drop_one, List.tail_cons]
    omega
/-- books go on -/
theorem bk_fol {ds ss : List Int} (G : Good ds ss) {r x v v' : Int} (r0 : 0 ≤ r) (r1 : r < ds.length) (hx : at' ss r ≤ x) (h : Bk ss r (x % ss.sum) v) (h' : Bk ss ((r - 1) % (ss.length : Int)) ((x - at' ss r) % ss.sum) v') : v = v' := by
  obtain ⟨M, hM, hMu⟩ := G.max
  have RR := G.ring hM hMu
  have l2 := G.l2
  have ls := G.ls
  have b1 := G.b1
  have s0 : ∀ i, 0 ≤ at' ss i := RR.s0
  have hq0 := Int.emod_nonneg x (show ss.sum ≠ 0 by omega)
  have hq1 := Int.emod_lt_of_pos x (show (0 : Int) < ss.sum by omega)
  have hS : ∀ i, sumBack (at' ss) ((r - 1) % (ss.length : Int)) i = sumBack (at' ss) (r - 1) i := by
    intro i
    induction i with
    | zero => rfl
    | succ i ih =>
      show sumBack (at' ss) ((r - 1) % (ss.length : Int)) i + at' ss ((r - 1) % (ss.length : Int) - i) = sumBack (at' ss) (r - 1) i + at' ss (r - 1 - i)
      have e1 : (r - 1) % (ss.length : Int) - (i : Int) = (r - 1 - i) + (ss.length : Int) * (-((r - 1) / (ss.length : Int))) := by
        have := Int.emod_add_mul_ediv (r - 1) (ss.length : Int)
        rw [Int.mul_neg]
        omega
      rw [ih, e1, at_per]
  have hsb : sumBack (at' ss) r 1 = at' ss r := by
    show (0 : Int) + at' ss (r - (0 : Nat)) = at' ss r
    rw [show r - ((0 : Nat) : Int) = r by omega]
    omega
  have hsr : at' ss r ≤ ss.sum := by
    have := sum_mono s0 r (show 1 ≤ ds.length by omega)
    rw [RR.b, hsb] at this
    exact this
  obtain ⟨i, hi, a1, a2, rfl⟩ := h
  obtain ⟨j, hj, c1, c2, rfl⟩ := h'
  rw [hS] at c1 c2 ⊢
  have front : ∀ k : Nat, sumBack (at' ss) r (k + 1) = at' ss r + sumBack (at' ss) (r - 1) k := fun k => sum_front (at' ss) k r
  have eix : ∀ k : Nat, ((r - 1) % (ss.length : Int) - (k : Int)) % (ss.length : Int) = (r - ((k + 1 : Nat) : Int)) % (ss.length : Int) := fun k => by
    have e1 : (r - 1) % (ss.length : Int) - (k : Int) = (r - ((k + 1 : Nat) : Int)) + (ss.length : Int) * (-((r - 1) / (ss.length : Int))) := by
      have := Int.emod_add_mul_ediv (r - 1) (ss.length : Int)
      rw [Int.mul_neg]
      omega
    rw [e1, Int.add_mul_emod_self_left]
  rw [eix]
  have ex := Int.emod_add_mul_ediv x ss.sum
  by_cases hc : at' ss r ≤ x % ss.sum
  · have em : (x - at' ss r) % ss.sum = x % ss.sum - at' ss r := by
      rw [show x - at' ss r = (x % ss.sum - at' ss r) + ss.sum * (x / ss.sum) by omega, Int.add_mul_emod_self_left, Int.emod_eq_of_lt (by omega) (by have := s0 r; omega)]
    rw [em] at c1 c2 ⊢
    have eij : i = j + 1 := by
      rcases Nat.lt_trichotomy i (j + 1) with z | z | z
      · have h1 := sum_mono s0 r (show i + 1 ≤ j + 1 by omega)
        rw [front j] at h1
        omega
      · exact z
      · have h1 := sum_mono s0 r (show j + 1 + 1 ≤ i by omega)
        rw [front (j + 1)] at h1
        omega
    subst eij
    rw [front j]
    omega
  · have em : (x - at' ss r) % ss.sum = x % ss.sum - at' ss r + ss.sum := by
      rw [show x - at' ss r = (x % ss.sum - at' ss r + ss.sum) + ss.sum * (x / ss.sum - 1) by rw [Int.mul_sub]; omega, Int.add_mul_emod_self_left, Int.emod_eq_of_lt (by omega) (by omega)]
    rw [em] at c1 c2 ⊢
    have i0 : i = 0 := by
      cases i with
      | zero => rfl
      | succ i =>
        have h1 := sum_mono s0 r (show 1 ≤ i + 1 by omega)
        rw [hsb] at h1
        omega
    subst i0
    have hB : sumBack (at' ss) r ds.length = ss.sum := RR.b r
    have hN : at' ss r + sumBack (at' ss) (r - 1) (ds.length - 1) = ss.sum := by
      rw [← front (ds.length - 1), show ds.length - 1 + 1 = ds.length by omega]
      exact hB
    have ej : j = ds.length - 1 := by
      rcases Nat.lt_trichotomy j (ds.length - 1) with z | z | z
      · have h1 := sum_mono s0 (r - 1) (show j + 1 ≤ ds.length - 1 by omega)
        omega
      · exact z
      · omega
    subst ej
    rw [show r - ((0 : Nat) : Int) = r by omega, show r - ((ds.length - 1 + 1 : Nat) : Int) = r + (ss.length : Int) * (-1) by rw [Int.mul_neg]; omega, Int.add_mul_emod_self_left]
    show _ + (x % ss.sum - 0) = _
    omega
end Rp
namespace Rp
open PySem PySem.Spec PyProof.Rows L2 Rz Rm
theorem Same.put {H H' : Hp} {D : Addr} {o : HO} (s : Same H H') (h : H D = none) : Same H (upd H' D o) := fun b x e => by
  rw [upd_ne (ne_of_none e h)]
  exact s b x e
theorem Tups.put {H : Hp} {D : Addr} {l : List V} {o : HO} {xs : List V} {ls : List (List Int)} (T : Tups H xs ls) (h : H D = some (.lst l)) : Tups (upd H D o) xs ls := T.mono fun b ys e => by
  rw [upd_ne (ne_of e h (by intro z; cases z))]
  exact e
theorem dec_eqI {a b : Int} : decide (V.int a = V.int b) = decide (a = b) := by
  by_cases h : a = b
  · rw [decide_eq_true h, decide_eq_true (congrArg V.int h)]
  · rw [decide_eq_false h, decide_eq_false fun z => h (V.int.inj z)]
theorem E_pred {ds ss : List Int} (G : Good ds ss) (r x : Int) : Rm.E (at' ds) (at' ss) ((r - 1) % (ds.length : Int)) x = Rm.E (at' ds) (at' ss) (r - 1) x := by
  obtain ⟨M, hM, hMu⟩ := G.max
  exact (G.ring hM hMu).E_mod _ _
section
variable {P : Program} {w : World} {K : PySem.W.Frag} {mg : Str → Option Value} {base : Heap}
/-! ### same_book_before -/
def spSame (C : Addr) : Sp := fun vs H Q _ => ∃ p dx td ts ds ss, ∃ (a : Addr) (r x : Int), vs = [.ref p, .ref a] ∧ RingAt C H p dx td ts ds ss ∧ H a = some (.tup [.int r, .int x]) ∧ 0 ≤ r ∧ r < ds.length ∧
  ∀ H' b, Same H H' → H' b = some (.tup [.int ((r - 1) % (ds.length : Int)), .int (x - at' ss r)]) → Q (.ref b) H'
theorem ok_same (T : Tx K mg) : FnOk P w K mg base CX0 4 T.a_same_book_before T.d_same_book_before P_same_book_before (spSame T.C) := by
  refine T.F_same_book_before.ok sc_same_book_before (fun vs H Q E h => ?_) (fun cdv A outer s H vs Q E hr h => ?_)
  · obtain ⟨p, dx, td, ts, ds, ss, a, r, x, rfl, _⟩ := h
    rfl
  · obtain ⟨p, dx, td, ts, ds, ss, a, r, x, rfl, R, ha, r0, r1, q⟩ := h
    have hr2 : Room 2 _ := hr.mono (by decide)
    have nd := sc_same_book_before.nd
    have ls := R.ok.ls
    refine ⟨_, pss_cons (ps_asg (pv 1) (pg_tup rfl (pgs_cons (pg_name (i := 2) nd rfl (.inl rfl)) (pgs_cons (pg_name (i := 3) nd rfl (.inl rfl)) pgs_nil))))
      (pss_one (ps_ret (pe_tup (pa_cons (pe_call (ok_before T) hr (by rfl) T.g_reader_before T.F_reader_before.kp T.b_reader_before .nil pass0 (pa_cons (pv 0) (pa_cons (pv 2) pa_nil)))
        (pa_cons (pe_op op_sub (pv 3) (pe_ix ix_tup (pe_prop (pv 0) T.cl T.q_rstarts (ok_starts T) hr2 T.b_rstarts .nil pass0 rfl) (pv 2) (fun _ _ => rfl))) pa_nil))))), ?_⟩
    refine ⟨.ref a, rfl, a, _, rfl, .of ha, rfl, _, _, rfl, _, _, rfl, rfl, ?_⟩
    refine ⟨.ref p, rfl, .int r, rfl, p, dx, td, ts, ds, ss, r, rfl, R, ?_⟩
    refine ⟨.int x, rfl, .ref p, rfl, p, dx, _, rfl, R.ob, p, dx, td, ts, ds, ss, rfl, R, .int r, rfl, ts, _, _, _, rfl, rfl, .inl R.ts.rd, at_ix (by omega) (by omega), _, _, rfl, rfl, (by show 2 ≤ sizeLine; decide), fun b hb => ?_⟩
    exact q _ b (same_upd hb) upd_same
/-! ### awaited_reading -/
def spAwait (C : Addr) : Sp := fun vs H Q _ => ∃ p dx td ts ds ss, ∃ (a : Addr) (c : Int × Int), vs = [.ref p, .ref a, .int (Rm.E (at' ds) (at' ss) c.1 c.2 - at' ds c.1)] ∧ RingAt C H p dx td ts ds ss ∧ H a = some (.tup [.int c.1, .int c.2]) ∧ Rdg ds c ∧ 0 < Rm.E (at' ds) (at' ss) c.1 c.2 - at' ds c.1 ∧
  ∀ H' b (c' : Int × Int), Same H H' → H' b = some (.tup [.int c'.1, .int c'.2]) → Rdg ds c' → Fol ss c' c → Rm.E (at' ds) (at' ss) c'.1 c'.2 = Rm.E (at' ds) (at' ss) c.1 c.2 - at' ds c.1 → c' = wt ds ss c → Q (.ref b) H'
theorem ok_await (T : Tx K mg) : FnOk P w K mg base CX0 5 T.a_awaited_reading T.d_awaited_reading P_awaited_reading (spAwait T.C) := by
  refine T.F_awaited_reading.ok sc_awaited_reading (fun vs H Q E h => ?_) (fun cdv A outer s H vs Q E hr h => ?_)
  · obtain ⟨p, dx, td, ts, ds, ss, a, c, rfl, _⟩ := h
    rfl
  · obtain ⟨p, dx, td, ts, ds, ss, a, ⟨r, x⟩, rfl, R, ha, V, hpos, q⟩ := h
    simp only at ha hpos q
    obtain ⟨r0, r1, x0, x1⟩ := V
    simp only at r0 r1 x0 x1
    have hr3 : Room 3 _ := hr.mono (by decide)
    have nd := sc_awaited_reading.nd
    have ls := R.ok.ls
    have l2 := R.ok.l2
    obtain ⟨M, hM, hMu⟩ := R.ok.max
    have RR := R.ok.ring hM hMu
    refine ⟨_, pss_cons (ps_asg (pv 1) (pg_tup rfl (pgs_cons (pg_name (i := 3) nd rfl (.inl rfl)) (pgs_cons (pg_name (i := 4) nd rfl (.inl rfl)) pgs_nil))))
      (pss_cons (ps_if (PW.pt (pw_and (pt_cmpR op_gt (pv 4) pe_int (nomark _)) (pw_and1 (pt_cmpR op_eq (pe_call (ok_end T) hr3 (by rfl) T.g_end_day T.F_end_day.kp T.b_end_day .nil pass0 (pa_cons (pv 0) (pa_cons (pv 3) (pa_cons (pe_op op_sub (pv 4) pe_int) pa_nil)))) (pv 2) (nomark _)))))
        (pss_one (ps_ret (pe_tup (pa_cons (pv 3) (pa_cons (pe_op op_sub (pv 4) pe_int) pa_nil))))) pss_nil)
      (pss_one (ps_ret (pe_call (ok_same T) hr (by rfl) T.g_same_book_before T.F_same_book_before.kp T.b_same_book_before .nil pass0 (pa_cons (pv 0) (pa_cons (pv 1) pa_nil)))))), ?_⟩
    refine ⟨.ref a, rfl, a, _, rfl, .of ha, rfl, _, _, rfl, _, _, rfl, rfl, ?_⟩
    have other : (¬ 0 < x ∨ Rm.E (at' ds) (at' ss) r (x - 1) ≠ Rm.E (at' ds) (at' ss) r x - at' ds r) → spSame T.C ([.ref p, .ref a] ++ []) H Q (fun _ _ _ => False) := fun hno => by
      refine ⟨p, dx, td, ts, ds, ss, a, r, x, rfl, R, ha, r0, r1, fun H' b s1 hb => ?_⟩
      have hb2 : at' ss r ≤ x ∧ Rm.E (at' ds) (at' ss) r x = Rm.E (at' ds) (at' ss) (r - 1) (x - at' ss r) + at' ds r := by
        rcases RR.bell r x0 with h1 | ⟨h1, h2⟩ | h1
        · omega
        · rcases hno with h | h
          · omega
          · exact absurd (by omega) h
        · exact h1
      have s0 := RR.s0 r
      refine q H' b ((r - 1) % (ds.length : Int), x - at' ss r) s1 hb ⟨Int.emod_nonneg _ (by omega), Int.emod_lt_of_pos _ (by omega), by simp only; omega, by simp only; omega⟩ (.inr (by rw [ls])) ?_ ?_
      · simp only
        rw [E_pred R.ok]
        omega
      · unfold wt
        rw [if_neg]
        rintro ⟨z1, z2⟩
        rcases hno with z | z
        · exact z z1
        · exact z z2
    refine ⟨.int x, rfl, _, _, rfl, rfl, _, rfl, ?_⟩
    by_cases hx : 0 < x
    · rw [decide_eq_true hx]
      refine iteT ⟨.ref p, rfl, .int r, rfl, .int x, rfl, _, _, rfl, rfl, p, dx, td, ts, ds, ss, r, x - 1, rfl, R, r0, r1, by omega, ?_⟩
      refine ⟨_, rfl, rfl, _, rfl, ?_⟩
      rw [dec_eqI]
      by_cases he : Rm.E (at' ds) (at' ss) r (x - 1) = Rm.E (at' ds) (at' ss) r x - at' ds r
      · rw [decide_eq_true he]
        refine iteT ⟨.int r, rfl, .int x, rfl, _, _, rfl, rfl, (by show 2 ≤ sizeLine; decide), fun b hb => ?_⟩
        exact q _ b (r, x - 1) (same_upd hb) upd_same ⟨r0, r1, by simp only; omega, by simp only; omega⟩ (.inl rfl) he (by unfold wt; rw [if_pos ⟨hx, he⟩])
      · rw [decide_eq_false he]
        exact iteF ⟨.ref p, rfl, .ref a, rfl, other (.inr he)⟩
    · rw [decide_eq_false hx]
      refine iteF ?_
      exact iteF ⟨.ref p, rfl, .ref a, rfl, other (.inl hx)⟩
/-! ### chain_of_waits -/
def spChain (C : Addr) : Sp := fun vs H Q _ => ∃ p dx td ts ds ss, ∃ r x : Int, vs = [.ref p, .int r, .int x] ∧ RingAt C H p dx td ts ds ss ∧ 0 ≤ r ∧ r < ds.length ∧ 0 ≤ x ∧ x ≤ 500 ∧
  ∀ H' l xs ps, Same H H' → H l = none → H' l = some (.lst xs) → Tups H' xs (ps.map toL) → Chn ds ss (r, x) ps → ps.length ≤ 200000 → Q (.ref l) H'
theorem E_small {ds ss : List Int} (G : Good ds ss) (r : Int) {x : Int} (x0 : 0 ≤ x) (x1 : x ≤ 500) : Rm.E (at' ds) (at' ss) r x ≤ 140000 := by
  obtain ⟨M, hM, hMu⟩ := G.max
  have RR := G.ring hM hMu
  have h := up RR r x0
  have hM30 := G.d1 M hM
  have hT := sum_bounds G.d1
  have l8 := G.l8
  have h1 : (x + 1) * ds.sum ≤ 501 * 240 := Int.le_trans (Int.mul_le_mul_of_nonneg_right (show x + 1 ≤ 501 by omega) (by omega)) (Int.mul_le_mul_of_nonneg_left (by omega) (by omega))
  have h2 : x * M ≤ 500 * 30 := Int.le_trans (Int.mul_le_mul_of_nonneg_right (show x ≤ 500 by omega) (by omega)) (Int.mul_le_mul_of_nonneg_left (by omega) (by omega))
  omega
theorem ok_chain (T : Tx K mg) : FnOk P w K mg base CX0 6 T.a_chain_of_waits T.d_chain_of_waits P_chain_of_waits (spChain T.C) := by
  refine T.F_chain_of_waits.ok sc_chain_of_waits (fun vs H Q E h => ?_) (fun cdv A outer s H vs Q E hr h => ?_)
  · obtain ⟨p, dx, td, ts, ds, ss, r, x, rfl, _⟩ := h
    rfl
  · obtain ⟨p, dx, td, ts, ds, ss, r, x, rfl, R, r0, r1, x0, x1, q⟩ := h
    have hr3 : Room 3 _ := hr.mono (by decide)
    have hr2 : Room 2 _ := hr.mono (by decide)
    have nd := sc_chain_of_waits.nd
    obtain ⟨u1, c1⟩ := T.c_LAST_NUMBER
    obtain ⟨M, hM, hMu⟩ := R.ok.max
    have RR := R.ok.ring hM hMu
    refine ⟨_, pss_cons (ps_expr (pe_call (ok_reader T) hr3 (by rfl) T.g_check_reader T.F_check_reader.kp T.b_check_reader .nil pass0 (pa_cons (pv 0) (pa_cons (pv 1) pa_nil))))
      (pss_cons (ps_expr (pe_call (ok_chk T) hr3 (by rfl) T.g_check_number T.F_check_number.kp T.b_check_number .nil pass0 (pa_cons (pv 2) (pa_cons pe_int (pa_cons (pe_glob (v := .int 500) (by rfl) c1 ⟨_, rfl⟩) pa_nil)))))
      (pss_cons (ps_set (i := 3) nd rfl (.inl rfl) (pe_tup (pa_cons (pv 1) (pa_cons (pv 2) pa_nil))))
      (pss_cons (ps_set (i := 4) nd rfl (.inl rfl) (pe_lst (pa_cons (pv 3) pa_nil)))
      (pss_cons (ps_set (i := 5) nd rfl (.inl rfl) (pe_call (ok_begin T) hr (by rfl) T.g_begin_day T.F_begin_day.kp T.b_begin_day .nil pass0 (pa_cons (pv 0) (pa_cons (pv 1) (pa_cons (pv 2) pa_nil)))))
      (pss_cons (ps_while PassesOwn.never (pt_cmpR op_gt (pv 5) pe_int (nomark _))
        (pss_cons (ps_set (i := 3) nd rfl (.inl rfl) (pe_call (ok_await T) hr (by rfl) T.g_awaited_reading T.F_awaited_reading.kp T.b_awaited_reading .nil pass0 (pa_cons (pv 0) (pa_cons (pv 3) (pa_cons (pv 5) pa_nil)))))
        (pss_cons (ps_expr (pe_bm PySem.F.plainAttrs_list PySem.F.slot_list_append PySem.F.type_list_append mt_append (pv 4) (pa_cons (pv 3) pa_nil)))
        (pss_one (ps_aug (i := 5) nd rfl (.inl rfl) (pe_ix ix_tup (pe_prop (pv 0) T.cl T.q_rdays (ok_days T) hr2 T.b_rdays .nil pass0 rfl) (pe_ix ix_tup (pv 3) pe_int (fun _ _ => rfl)) (fun _ _ => rfl)) ip_sub)))))
      (pss_one (ps_ret (pe_revL (pv 4))))))))), ?_⟩
    refine ⟨.ref p, rfl, .int r, rfl, p, dx, td, ts, ds, ss, r, rfl, R, r0, r1, ?_⟩
    refine ⟨.int x, rfl, x, 0, 500, rfl, x0, x1, ?_⟩
    refine ⟨.int r, rfl, .int x, rfl, (by show 2 ≤ sizeLine; decide), fun a0 ha0 => ?_⟩
    have s1 := same_upd (o := .tup [.int r, .int x]) ha0
    refine ⟨.ref a0, rfl, (by show 1 ≤ sizeLine; decide), fun D hD => ?_⟩
    have s2 := same_upd (o := .lst [.ref a0]) hD
    have hDH : H D = none := by
      cases e : H D with
      | none => rfl
      | some o => rw [s1 _ _ e] at hD; cases hD
    have s12 := s1.trans s2
    have R2 := R.same s12
    have haD : a0 ≠ D := fun e => by rw [← e, upd_same] at hD; cases hD
    refine ⟨.ref p, rfl, .int r, rfl, .int x, rfl, p, dx, td, ts, ds, ss, r, x, rfl, R2, r0, r1, x0, by omega, ?_⟩
    have e0 := RR.E1 r x0
    have es := E_small R.ok r x0 x1
    have d0 := RR.d1 r
    refine ⟨fun m σ H' => ∃ (a : Addr) (c : Int × Int) (bs : List (Int × Int)) (xs : List V), σ = [some (.ref p), some (.int r), some (.int x), some (.ref a), some (.ref D), some (.int (Rm.E (at' ds) (at' ss) c.1 c.2 - at' ds c.1))] ∧ m = (Rm.E (at' ds) (at' ss) c.1 c.2 - at' ds c.1).toNat ∧
      Same H H' ∧ H' a = some (.tup [.int c.1, .int c.2]) ∧ H' D = some (.lst xs) ∧ Tups H' xs (bs.map toL) ∧ Bck ds ss (r, x) c bs ∧ Rdg ds c ∧ (bs.length : Int) + (Rm.E (at' ds) (at' ss) c.1 c.2 - at' ds c.1) ≤ 150000,
      ⟨(Rm.E (at' ds) (at' ss) r x - at' ds r).toNat, a0, (r, x), [(r, x)], [.ref a0], rfl, rfl, s12, s2 _ _ upd_same, upd_same, .cons ⟨a0, rfl, s2 _ _ upd_same⟩ .nil, .one ⟨r0, r1, x0, x1⟩, ⟨r0, r1, x0, x1⟩, by simp only [List.length_cons, List.length_nil]; omega⟩, ?_⟩
    rintro m σ H7 ⟨a, c, bs, xs, rfl, rfl, s7, ha7, hD7, T7, B7, V7, hl7⟩
    have R7 := R.same s7
    have lx := T7.length
    rw [List.length_map] at lx
    have hE1 := RR.E1 c.1 V7.x0
    refine ⟨_, rfl, _, _, rfl, rfl, _, rfl, ?_⟩
    by_cases hc : 0 < Rm.E (at' ds) (at' ss) c.1 c.2 - at' ds c.1
    · rw [decide_eq_true hc]
      refine iteT ⟨fun σ' H' => ∃ (a' : Addr) (c' : Int × Int) (bs' : List (Int × Int)) (xs' : List V), σ' = [some (.ref p), some (.int r), some (.int x), some (.ref a'), some (.ref D), some (.int (Rm.E (at' ds) (at' ss) c'.1 c'.2 - at' ds c'.1))] ∧ (Rm.E (at' ds) (at' ss) c'.1 c'.2 - at' ds c'.1).toNat < (Rm.E (at' ds) (at' ss) c.1 c.2 - at' ds c.1).toNat ∧
        Same H H' ∧ H' a' = some (.tup [.int c'.1, .int c'.2]) ∧ H' D = some (.lst xs') ∧ Tups H' xs' (bs'.map toL) ∧ Bck ds ss (r, x) c' bs' ∧ Rdg ds c' ∧ (bs'.length : Int) + (Rm.E (at' ds) (at' ss) c'.1 c'.2 - at' ds c'.1) ≤ 150000,
        fun σ' H' ⟨a', c', bs', xs', e1, e2, e3, e4, e5, e6, e7, e8, e9⟩ => ⟨_, e2, a', c', bs', xs', e1, rfl, e3, e4, e5, e6, e7, e8, e9⟩, ?_⟩
      refine ⟨.ref p, rfl, .ref a, rfl, _, rfl, p, dx, td, ts, ds, ss, a, c, rfl, R7, ha7, V7, hc, fun H8 a8 c8 s8 ha8 V8 F8 E8 W8 => ?_⟩
      have hD8 := s8 _ _ hD7
      have T8 := T7.same s8
      have hbl := B7.ne
      refine ⟨_, rfl, .inl ⟨rfl, _, .of hD8⟩, _, rfl, D, xs, _, rfl, rfl, hD8, ?_, ?_⟩
      · rw [sizeLine_eq]
        omega
      have s9 : Same H (upd H8 D (.lst (xs ++ [.ref a8]))) := Same.put (s7.trans s8) hDH
      have R9 := R.same s9
      have ha9 : (upd H8 D (.lst (xs ++ [.ref a8]))) a8 = some (.tup [.int c8.1, .int c8.2]) := by
        rw [upd_ne (ne_of ha8 hD8 (by intro z; cases z))]
        exact ha8
      have d8 := RR.d1 c8.1
      refine ⟨_, rfl, _, rfl, p, dx, _, rfl, R9.ob, p, dx, td, ts, ds, ss, rfl, R9, _, rfl, a8, _, 0, _, rfl, rfl, .of ha9, atI_nat (j := 0) rfl, td, _, _, _, rfl, rfl, .inl R9.td.rd, at_ix (by have := V8.r0; omega) V8.r1, _, _, rfl, rfl, ?_⟩
      refine ⟨a8, c8, bs ++ [c8], xs ++ [.ref a8], by rw [E8]; rfl, by rw [E8]; omega, s9, ha9, upd_same, ?_, B7.more V8 F8 E8 W8, V8, ?_⟩
      · rw [List.map_append]
        exact Tups.snoc ⟨a8, rfl, ha9⟩ (T8.put hD8)
      · rw [List.length_append, E8]
        simp only [List.length_cons, List.length_nil]
        omega
    · rw [decide_eq_false hc]
      refine iteF ⟨_, rfl, D, xs, rfl, .of hD7, fun l hl => ?_⟩
      have e1 : Rm.E (at' ds) (at' ss) c.1 c.2 = at' ds c.1 := by omega
      have hlH : H l = none := by
        cases e : H l with
        | none => rfl
        | some o => rw [s7 _ _ e] at hl; cases hl
      have sl := same_upd (o := .lst xs.reverse) hl
      refine q _ l xs.reverse bs.reverse (s7.trans sl) hlH upd_same ?_ (B7.chn e1) (by rw [List.length_reverse]; omega)
      rw [List.map_reverse]
      exact (T7.rev).same sl
end
end Rp
namespace Rp
open PySem PySem.Spec PyProof.Rows L2 Rz Rm
theorem set_map {ds : List Int} {r d : Int} (h0 : 0 ≤ r) (h1 : r < ds.length) : ((ds.map V.int).take r.toNat ++ [V.int d]) ++ (ds.map V.int).drop (r + 1).toNat = (ds.set r.toNat d).map V.int := by
  have e : (r + 1).toNat = r.toNat + 1 := by omega
  rw [List.map_set, List.set_eq_take_append_cons_drop, if_pos (by rw [List.length_map]; omega), e]
  simp
theorem Good.set {ds ss : List Int} (G : Good ds ss) (i : Nat) {d : Int} (h : 1 ≤ d ∧ d ≤ 30) : Good (ds.set i d) ss :=
  ⟨by rw [List.length_set]; exact G.l2, by rw [List.length_set]; exact G.l8, by rw [List.length_set]; exact G.ls, fun y hy => (mem_set hy).elim (G.d1 y) (fun e => by rw [e]; exact h), G.s0, G.b1, G.b12⟩
/-! ### numbers from 0 on -/
def iot (n : Nat) : List Int := (List.range n).map fun i => ((i : Nat) : Int)
theorem rgV_iot (n : Nat) : rgV 0 (n : Int) = (iot n).map V.int := by
  unfold rgV iot
  rw [List.map_map, show ((n : Int) - 0).toNat = n by omega]
  refine List.map_congr_left fun i _ => ?_
  show V.int (0 + (i : Int)) = V.int (i : Int)
  rw [Int.zero_add]
theorem iot_len (n : Nat) : (iot n).length = n := by unfold iot; rw [List.length_map, List.length_range]
section
variable {P : Program} {w : World} {K : PySem.W.Frag} {mg : Str → Option Value} {base : Heap}
/-! ### Ring.with_days -/
def spWith (C : Addr) : Sp := fun vs H Q _ => ∃ p dx td ts ds ss, ∃ r d : Int, vs = [.ref p, .int r, .int d] ∧ RingAt C H p dx td ts ds ss ∧ 0 ≤ r ∧ r < ds.length ∧ 1 ≤ d ∧ d ≤ 30 ∧
  ∀ H' p' dx' td' ts', Same H H' → RingAt C H' p' dx' td' ts' (ds.set r.toNat d) ss → Q (.ref p') H'
theorem ok_with (T : Tx K mg) : FnOk P w K mg base CX0 6 T.a_rwith_days T.d_rwith_days P_rwith_days (spWith T.C) := by
  refine T.F_rwith_days.ok sc_rwith_days (fun vs H Q E h => ?_) (fun cdv A outer s H vs Q E hr h => ?_)
  · obtain ⟨p, dx, td, ts, ds, ss, r, d, rfl, _⟩ := h
    rfl
  · obtain ⟨p, dx, td, ts, ds, ss, r, d, rfl, R, r0, r1, d1, d2, q⟩ := h
    have hr3 : Room 3 _ := hr.mono (by decide)
    have nd := sc_rwith_days.nd
    have l8 := R.ok.l8
    have ls := R.ok.ls
    refine ⟨_, pss_cons (ps_expr (pe_call (ok_reader T) hr3 (by rfl) T.g_check_reader T.F_check_reader.kp T.b_check_reader .nil pass0 (pa_cons (pv 0) (pa_cons (pv 1) pa_nil))))
      (pss_cons (ps_set (i := 3) nd rfl (.inl rfl) (pe_op op_catA (pe_op op_catA (pe_slice sl_tupA (pe_fld (pv 0) rfl) po_none (po_some (pv 1))) (pe_tup (pa_cons (pv 2) pa_nil))) (pe_slice sl_tupA (pe_fld (pv 0) rfl) (po_some (pe_op op_add (pv 1) pe_int)) po_none)))
      (pss_one (ps_ret (pe_make T.mkR (ok_init T) hr (by rfl) T.gC T.b_rinit .nil pass0 (pa_cons (pv 3) (pa_cons (pe_fld (pv 0) rfl) pa_nil)))))), ?_⟩
    refine ⟨_, rfl, _, rfl, p, dx, td, ts, ds, ss, r, rfl, R, r0, r1, ?_⟩
    refine ⟨_, rfl, p, _, dx, _, _, rfl, R.ob, T.cl, T.nD, flds_days _ _, _, rfl, _, rfl, ?_⟩
    refine sl_to R.td r0 (by rw [List.length_map]; omega) fun H1 p1 s1 h1 => ?_
    refine ⟨_, rfl, (by show 1 ≤ sizeLine; decide), fun p2 hp2 => ?_⟩
    have s2 := same_upd (o := .tup [.int d]) hp2
    refine cat_any (h1.same s2) (.inl upd_same) (by rw [List.length_take, List.length_map]; have := small1000 (n := ds.length) (by omega); simp only [List.length_cons, List.length_nil]; have := small1000 (n := ds.length + 1) (by omega); omega) fun H3 p3 s3 h3 => ?_
    have R3 := ((R.same s1).same s2).same s3
    refine ⟨_, rfl, p, _, dx, _, _, rfl, R3.ob, T.cl, T.nD, flds_days _ _, _, rfl, _, _, rfl, rfl, _, rfl, ?_⟩
    refine noPart ?_
    refine sl_from R3.td (k := r + 1) (by omega) (by rw [List.length_map]; omega) fun H4 p4 s4 h4 => ?_
    refine cat_any (h3.same s4) h4 (by rw [List.length_append, List.length_drop, List.length_take, List.length_map]; simp only [List.length_cons, List.length_nil]; have := small1000 (n := ds.length + ds.length + 1) (by omega); omega) fun H5 td' s5 h5 => ?_
    rw [set_map r0 r1] at h5
    have R5 := (R3.same s4).same s5
    refine ⟨_, rfl, _, rfl, p, _, dx, _, _, rfl, R5.ob, T.cl, T.nS, flds_starts _ _, fun x y nx ny ne => ?_⟩
    have s0 : Same H5 (upd (upd H5 y (.own x)) x (.ins T.C y [])) := fun b o e => by
      rw [upd_ne (ne_of_none e nx), upd_ne (ne_of_none e ny)]
      exact e
    refine ⟨x, y, td', ts, ds.set r.toNat d, ss, rfl, upd_same, h5.same s0, R5.ts.same s0, R.ok.set _ ⟨d1, d2⟩, fun H7 R7 k7 => ⟨rfl, ?_⟩⟩
    exact q H7 x y td' ts (((((s1.trans s2).trans s3).trans s4).trans s5).trans (Same.made nx ny k7)) R7
end
end Rp
namespace Rp
open PySem PySem.Spec PyProof.Rows L2 Rz Rm
section
variable {P : Program} {w : World} {K : PySem.W.Frag} {mg : Str → Option Value} {base : Heap}
def spPR (C : Addr) : Sp := fun vs H Q _ => ∃ p dx td ts ds ss, vs = [.ref p] ∧ RingAt C H p dx td ts ds ss ∧ Tf H td (ds.map V.int) ∧
  ∀ H' l rs, Same H H' → H' l = some (.lst (rs.map V.int)) → H l = none → ((ds.sum ≤ mx ds * ss.sum ∧ ∃ j : Nat, rs = [(j : Int)] ∧ ds[j]? = some (mx ds) ∧ ∀ k z, k < j → ds[k]? = some z → z ≠ mx ds) ∨ (¬ ds.sum ≤ mx ds * ss.sum ∧ rs = iot ds.length)) → Q (.ref l) H'
theorem ok_paceR (T : Tx K mg) : FnOk P w K mg base CX0 3 T.a_pace_readers T.d_pace_readers P_pace_readers (spPR T.C) := by
  refine T.F_pace_readers.ok sc_pace_readers (fun vs H Q E h => ?_) (fun cdv A outer s H vs Q E hr h => ?_)
  · obtain ⟨p, dx, td, ts, ds, ss, rfl, _⟩ := h
    rfl
  · obtain ⟨p, dx, td, ts, ds, ss, rfl, R, hf, q⟩ := h
    have hr1 : Room 1 _ := hr.mono (by decide)
    have nd := sc_pace_readers.nd
    have b1 := R.ok.b1
    have b12 := R.ok.b12
    have l8 := R.ok.l8
    have rdD : ∀ {Q' : VK} {E' : XK}, Q' (.ref td) H → spDays T.C [.ref p] H Q' E' := fun z => ⟨p, dx, td, ts, ds, ss, rfl, R, z⟩
    refine ⟨_, pss_cons (ps_if (pt_val (pe_call (ok_slow T) hr1 (by rfl) T.g_slowest_decides T.F_slowest_decides.kp T.b_slowest_decides .nil pass0 (pa_cons (pe_prop (pv 0) T.cl T.q_rdays (ok_days T) hr T.b_rdays .nil pass0 rfl) (pa_cons (pe_prop (pv 0) T.cl T.q_rbooks (ok_books T) hr T.b_rbooks .nil pass0 rfl) pa_nil))))
        (pss_one (ps_ret (pe_lst (pa_cons (pe_bmF PySem.F.plainAttrs_tuple PySem.F.slot_tuple_index PySem.F.type_tuple_index mt_tup_indexI (pe_prop (pv 0) T.cl T.q_rdays (ok_days T) hr T.b_rdays .nil pass0 rfl) (pa_cons (pe_callB (cr_maxT rfl) (by rfl) T.z_max (by decide +kernel) (pa_cons (pe_prop (pv 0) T.cl T.q_rdays (ok_days T) hr T.b_rdays .nil pass0 rfl) pa_nil)) pa_nil)) pa_nil)))) pss_nil)
      (pss_one (ps_ret (pe_listRg rfl (by rfl) T.z_list (prg_1 (by rfl) T.z_range (pe_callB (call_lenI T.lenC T.lenF ((ok_len T).raw T.b_rlen .nil) hr pass0) (by rfl) T.z_len PySem.boot_len (pa_cons (pv 0) pa_nil)))))), ?_⟩
    refine ⟨_, rfl, p, dx, _, rfl, R.ob, rdD ⟨_, rfl, p, dx, _, rfl, R.ob, p, dx, td, ts, ds, ss, rfl, R, td, ds, ss.sum, rfl, R.td, R.ok.dys, by omega, by omega, _, rfl, ?_⟩⟩
    by_cases hc : ds.sum ≤ mx ds * ss.sum
    · rw [decide_eq_true hc]
      refine iteT ⟨_, rfl, p, dx, _, rfl, R.ob, rdD ⟨td, _, rfl, hf, _, rfl, p, dx, _, rfl, R.ob, rdD ⟨td, ds, rfl, .inl R.td.rd, R.ok.dys.ne, fun M hM hMu => ?_⟩⟩⟩
      obtain ⟨j, hj, hno⟩ := first_ix hM
      refine ⟨td, ds, M, j, rfl, rfl, .inl R.td.rd, hj, hno, (by show 1 ≤ sizeLine; decide), fun l hl => ?_⟩
      have eM := mx_eq R.ok.dys hM hMu
      exact q _ l [(j : Int)] (same_upd hl) upd_same hl (.inl ⟨hc, j, rfl, by rw [eM]; exact hj, by rw [eM]; exact hno⟩)
    · rw [decide_eq_false hc]
      refine iteF ⟨_, rfl, p, dx, _, rfl, R.ob, p, dx, td, ts, ds, ss, rfl, R, (ds.length : Int), rfl, by omega, by omega, (ds.length : Int), rfl, .of_le (by omega) (by omega) (by omega) (by omega), fun l hl => ?_⟩
      exact q _ l (iot ds.length) (same_upd hl) (by rw [upd_same, rgV_iot]) hl (.inr ⟨hc, rfl⟩)
end
end Rp
namespace Rp
open PySem PySem.Spec PyProof.Rows L2 Rz Rm
section
variable {P : Program} {w : World} {K : PySem.W.Frag} {mg : Str → Option Value} {base : Heap}
/-! ### the dice -/
def spDice (K : PySem.W.Frag) : Sp := fun vs H Q _ => ∃ (a : Addr) (ns : List Int), vs = [.ref a] ∧ SqL K H a (ns.map V.int) ∧ ∀ H' row, RowAt K H' row a ns → Same H H' → Q (.ref row) H'
theorem ok_dice (T : Tx K mg) : FnOk P w K mg base CX0 1 T.a_ldice T.d_ldice P_ldice (spDice K) := by
  refine T.F_ldice.ok sc_ldice (fun vs H Q E h => ?_) (fun cdv A outer s H vs Q E hr h => ?_)
  · obtain ⟨a, ns, rfl, _⟩ := h
    rfl
  · obtain ⟨a, ns, rfl, hS, q⟩ := h
    have nd := sc_ldice.nd
    refine ⟨_, pss_cons (ps_set (i := 1) nd rfl (.inl rfl) pe_int)
      (pss_cons (ps_for PassesOwn.never rfl (pi_list (pv 0)) (pg_name (i := 2) nd rfl (.inl rfl))
        (pss_one (ps_set (i := 1) nd rfl (.inl rfl) (pe_op op_mod (pe_callTy call_int1 (by rfl) T.z_int (by decide +kernel) (pa_cons (pe_op op_add (pe_op op_add (pe_op op_mul (pv 1) pe_int)
          (pe_op op_mul (pe_op op_mod (pe_callTy call_int1 (by rfl) T.z_int (by decide +kernel) (pa_cons (pv 2) pa_nil)) pe_int) pe_int)) pe_int) pa_nil)) pe_int))))
      (pss_one (ps_ret (pe_lst (pa_cons (pv 0) (pa_cons pe_int (pa_cons (pe_op op_mul (pv 1) (pe_callTy call_int1 (by rfl) T.z_int (by decide +kernel) (pa_cons (pe_cmpR op_gt (pe_callB call_len_seq (by rfl) T.z_len PySem.boot_len (pa_cons (pv 0) pa_nil)) pe_int (nomark _)) pa_nil))) (pa_cons pe_int pa_nil)))))))), ?_⟩
    refine ⟨_, rfl, a, rfl, ⟨_, hS⟩, for_list (K := K) (a := a) (xs := ns.map V.int) (fun i σ H' => H' = H ∧ ∃ m y2, σ = [some (.ref a), some (.int m), y2]) ⟨rfl, 0, none, rfl⟩ (fun i σ H' _ ⟨e, _⟩ => by rw [e]; exact hS) ?_ ?_⟩
    · rintro i y σ H1 hi ⟨rfl, m, y2, rfl⟩
      obtain ⟨z, _, rfl⟩ := get_int hi
      refine ⟨_, rfl, _, _, rfl, rfl, .inr ⟨by decide, by decide⟩, _, rfl, .inl ⟨_, rfl, _, _, rfl, rfl, (by show (0 : Int) < 2147483647; decide), _, _, rfl, rfl, .inr ⟨by decide, by decide⟩, _, _, rfl, rfl, _, _, rfl, rfl, .inl ⟨_, rfl, _, _, rfl, rfl, (by show (0 : Int) < 2147483647; decide), ?_⟩⟩⟩
      exact ⟨rfl, _, _, rfl⟩
    · rintro σ H1 ⟨rfl, m, y2, rfl⟩
      refine ⟨_, rfl, _, rfl, _, rfl, a, _, rfl, .inl hS, _, _, rfl, rfl, .inr ⟨_, rfl, _, _, rfl, rfl, .inr (by split <;> exact ⟨by decide, by decide⟩), (by show 4 ≤ sizeLine; decide), fun row hrow => ?_⟩⟩
      exact q _ row ⟨⟨_, _, _, upd_same, Int.le_refl _⟩, (same_upd hrow).seq hS, far_of hS hrow⟩ (same_upd hrow)
def spNext (K : PySem.W.Frag) : Sp := fun vs H Q _ => ∃ (row a : Addr) (ns : List Int) (many : Int), vs = [.ref row, .int many] ∧ RowAt K H row a ns ∧ 1 ≤ many ∧ many < 1073741824 ∧
  ∀ v H', 0 ≤ v → v < many → RowAt K H' row a ns → Kp row H H' → Q (.int v) H'
theorem ok_next (T : Tx K mg) : FnOk P w K mg base CX0 1 T.a_lnext T.d_lnext P_lnext (spNext K) := by
  refine T.F_lnext.ok sc_lnext (fun vs H Q E h => ?_) (fun cdv A outer s H vs Q E hr h => ?_)
  · obtain ⟨row, a, ns, many, rfl, _⟩ := h
    rfl
  · obtain ⟨row, a, ns, many, rfl, RA, m1, m2, q⟩ := h
    obtain ⟨i, m, c, hrow, i0⟩ := RA.ob
    have nd := sc_lnext.nd
    refine ⟨_, pss_cons (ps_if (pt_cmpR op_gt (pe_ix ix_list (pv 0) pe_int (fun _ _ => rfl)) pe_int (nomark _))
        (pss_cons (ps_set (i := 2) nd rfl (.inl rfl) (pe_op op_mod (pe_callTy call_int1 (by rfl) T.z_int (by decide +kernel) (pa_cons (pe_ix ix_list (pv 0) pe_int (fun _ _ => rfl)) pa_nil)) (pv 1)))
        (pss_cons (ps_asg (pe_op op_fdiv (pe_ix ix_list (pv 0) pe_int (fun _ _ => rfl)) (pv 1)) (pg_sub (pv 0) pe_int set_list))
        (pss_one (ps_ret (pv 2))))) pss_nil)
      (pss_cons (ps_asg (pe_op op_add (pe_ix ix_list (pv 0) pe_int (fun _ _ => rfl)) pe_int) (pg_sub (pv 0) pe_int set_list))
      (pss_cons (ps_if (pt_cmpR op_le (pe_ix ix_list (pv 0) pe_int (fun _ _ => rfl)) (pe_callB call_len_seq (by rfl) T.z_len PySem.boot_len (pa_cons (pe_ix ix_list (pv 0) pe_int (fun _ _ => rfl)) pa_nil)) (nomark _))
        (pss_cons (ps_set (i := 3) nd rfl (.inl rfl) (pe_ix ix_list (pe_ix ix_list (pv 0) pe_int (fun _ _ => rfl)) (pe_op op_sub (pe_ix ix_list (pv 0) pe_int (fun _ _ => rfl)) pe_int) (fun _ _ => rfl)))
        (pss_cons (ps_asg (pe_ifExp (pt_cmpR op_ge (pv 3) (pe_op op_pow pe_int pe_int) (nomark _)) (pe_op op_fdiv (pv 3) (pv 1)) pe_int) (pg_sub (pv 0) pe_int set_list))
        (pss_one (ps_ret (pe_op op_mod (pe_callTy call_int1 (by rfl) T.z_int (by decide +kernel) (pa_cons (pv 3) pa_nil)) (pv 1)))))) pss_nil)
      (pss_cons (ps_asg (pe_op op_mod (pe_callTy call_int1 (by rfl) T.z_int (by decide +kernel) (pa_cons (pe_op op_mul (pe_ix ix_list (pv 0) pe_int (fun _ _ => rfl)) pe_int) pa_nil)) pe_int) (pg_sub (pv 0) pe_int set_list))
      (pss_one (ps_ret (pe_op op_mod (pe_callTy call_int1 (by rfl) T.z_int (by decide +kernel) (pa_cons (pe_op op_fdiv (pe_ix ix_list (pv 0) pe_int (fun _ _ => rfl)) pe_int) pa_nil)) (pv 1))))))), ?_⟩
    have mod0 : ∀ z : Int, 0 ≤ z % many := fun z => Int.emod_nonneg _ (by omega)
    have mod1 : ∀ z : Int, z % many < many := fun z => Int.emod_lt_of_pos _ (by omega)
    refine ⟨_, rfl, row, _, 3, _, rfl, rfl, .of hrow, atI_nat (j := 3) rfl, _, _, rfl, rfl, _, rfl, ?_⟩
    by_cases hc : 0 < c
    · rw [decide_eq_true hc]
      refine iteT ?_
      refine ⟨_, rfl, row, _, 3, _, rfl, rfl, .of hrow, atI_nat (j := 3) rfl, .inl ⟨_, rfl, _, rfl, _, _, rfl, rfl, by show (0 : Int) < many; omega, ?_⟩⟩
      refine ⟨_, rfl, row, _, 3, _, rfl, rfl, .of hrow, atI_nat (j := 3) rfl, _, rfl, _, _, rfl, rfl, ⟨by omega, by omega⟩, ?_⟩
      refine ⟨_, rfl, row, _, 3, 3, rfl, rfl, hrow, rfl, ?_⟩
      exact ⟨_, rfl, q _ _ (mod0 c) (mod1 c) (RA.put i0) kp_upd⟩
    · rw [decide_eq_false hc]
      refine iteF ?_
      refine ⟨_, rfl, row, _, 1, _, rfl, rfl, .of hrow, atI_nat (j := 1) rfl, _, _, rfl, rfl, ?_⟩
      refine ⟨_, rfl, row, _, 1, 1, rfl, rfl, hrow, rfl, ?_⟩
      have RA1 : RowAt K (upd H row (.lst [.ref a, .int (i + 1), .int m, .int c])) row a ns := RA.put (by omega)
      have hrow1 : (upd H row (.lst [.ref a, .int (i + 1), .int m, .int c])) row = some (.lst [.ref a, .int (i + 1), .int m, .int c]) := upd_same
      have kp1 : Kp row H (upd H row (.lst [.ref a, .int (i + 1), .int m, .int c])) := kp_upd
      show tSeq _ _ _ _ (upd H row (.lst [.ref a, .int (i + 1), .int m, .int c]))
      generalize (upd H row (.lst [.ref a, .int (i + 1), .int m, .int c])) = H1 at RA1 hrow1 kp1
      refine ⟨_, rfl, row, _, 1, _, rfl, rfl, .of hrow1, atI_nat (j := 1) rfl, _, rfl, row, _, 0, _, rfl, rfl, .of hrow1, atI_nat (j := 0) rfl, a, _, rfl, .inl RA1.sc, _, _, rfl, rfl, _, rfl, ?_⟩
      rw [List.length_map]
      by_cases hl : i + 1 ≤ (ns.length : Int)
      · rw [decide_eq_true hl]
        refine iteT ?_
        have hi : i.toNat < ns.length := by omega
        have hg : atI (ns.map V.int) (i + 1 - 1) = some (.int ns[i.toNat]) := by
          refine at_of (j := i.toNat) (by omega) ?_
          rw [List.getElem?_map, List.getElem?_eq_getElem hi]
          rfl
        refine ⟨_, rfl, row, _, 0, _, rfl, rfl, .of hrow1, atI_nat (j := 0) rfl, _, rfl, row, _, 1, _, rfl, rfl, .of hrow1, atI_nat (j := 1) rfl, _, _, rfl, rfl, a, _, _, _, rfl, rfl, RA1.sc, hg, ?_⟩
        generalize ns[i.toNat] = cell
        refine ⟨_, rfl, _, _, rfl, rfl, ⟨by decide, by decide, by decide⟩, _, _, rfl, rfl, _, rfl, ?_⟩
        refine ite2 (fun _ => ?_) (fun _ => ?_)
        · refine ⟨_, rfl, _, rfl, _, _, rfl, rfl, ⟨by omega, by omega⟩, ?_⟩
          refine ⟨_, rfl, row, _, 3, 3, rfl, rfl, hrow1, rfl, ?_⟩
          refine ⟨_, rfl, .inl ⟨_, rfl, _, rfl, _, _, rfl, rfl, by show (0 : Int) < many; omega, ?_⟩⟩
          exact q _ _ (mod0 _) (mod1 _) (RA1.put (by omega)) (kp1.trans kp_upd)
        · refine ⟨_, rfl, row, _, 3, 3, rfl, rfl, hrow1, rfl, ?_⟩
          refine ⟨_, rfl, .inl ⟨_, rfl, _, rfl, _, _, rfl, rfl, by show (0 : Int) < many; omega, ?_⟩⟩
          exact q _ _ (mod0 _) (mod1 _) (RA1.put (by omega)) (kp1.trans kp_upd)
      · rw [decide_eq_false hl]
        refine iteF ?_
        refine ⟨_, rfl, row, _, 2, _, rfl, rfl, .of hrow1, atI_nat (j := 2) rfl, _, _, rfl, rfl, .inr ⟨by decide, by decide⟩, .inl ⟨_, rfl, _, _, rfl, rfl, (by show (0 : Int) < 2147483647; decide), ?_⟩⟩
        refine ⟨_, rfl, row, _, 2, 2, rfl, rfl, hrow1, rfl, ?_⟩
        refine ⟨_, rfl, row, _, 2, _, rfl, rfl, .of upd_same, atI_nat (j := 2) rfl, _, _, rfl, rfl, ⟨by decide, by decide⟩, .inl ⟨_, rfl, _, rfl, _, _, rfl, rfl, by show (0 : Int) < many; omega, ?_⟩⟩
        exact q _ _ (mod0 _) (mod1 _) (RA1.put (by omega)) (kp1.trans kp_upd)
end
theorem sum_le_len : ∀ {l : List Int}, (∀ y ∈ l, y ≤ 1) → l.sum ≤ l.length
  | [], _ => by simp
  | a :: r, h => by
    have h1 := h a List.mem_cons_self
    have ih := sum_le_len (l := r) fun y hy => h y (List.mem_cons_of_mem _ hy)
    rw [List.sum_cons, List.length_cons]
    omega
section
variable {P : Program} {w : World} {K : PySem.W.Frag} {mg : Str → Option Value} {base : Heap}
def Acc (K : PySem.W.Frag) (H0 : Hp) (row a D : Addr) (ns : List Int) (lo hi : Int) (i : Nat) (H : Hp) : Prop :=
  ∃ acc : List Int, acc.length = i ∧ (∀ y ∈ acc, lo ≤ y ∧ y ≤ hi) ∧ H D = some (.lst (acc.map V.int)) ∧ RowAt K H row a ns ∧ Kp row H0 H
theorem acc_next {H0 H H' : Hp} {row a D : Addr} {ns : List Int} {lo hi v : Int} {i : Nat} (hD : H0 D = none) (nD : D ≠ row) (f : D ≠ a ∨ Wr K a (ns.map V.int)) {acc : List Int} (hlen : acc.length = i) (hall : ∀ y ∈ acc, lo ≤ y ∧ y ≤ hi)
    (hacc : H D = some (.lst (acc.map V.int))) (k : Kp row H0 H) (RA : RowAt K H' row a ns) (k' : Kp row H H') (v0 : lo ≤ v) (v1 : v ≤ hi) : Acc K H0 row a D ns lo hi (i + 1) (upd H' D (.lst (acc.map V.int ++ [V.int v]))) := by
  refine ⟨acc ++ [v], by rw [List.length_append, hlen]; rfl, fun y hy => ?_, by rw [upd_same, map_snoc], RA.upd' nD f, kp_new (k.trans k') hD⟩
  rcases List.mem_append.mp hy with z | z
  · exact hall y z
  · have := List.mem_singleton.mp z
    omega
/-- two new tuples that make a ring -/
def spRing (K : PySem.W.Frag) : Sp := fun vs H Q _ => ∃ (row a : Addr) (ns : List Int) (size most : Int), vs = [.ref row, .int size, .int most] ∧ RowAt K H row a ns ∧ 2 ≤ size ∧ size ≤ 8 ∧ 1 ≤ most ∧ most ≤ 30 ∧
  ∀ H' t td ts ds ss, Good ds ss → RowAt K H' row a ns → Kp row H H' → H' t = some (.tup [.ref td, .ref ts]) → Tf H' td (ds.map V.int) → Tf H' ts (ss.map V.int) → Q (.ref t) H'
theorem ok_ring (T : Tx K mg) : FnOk P w K mg base CX0 2 T.a_lring T.d_lring P_lring (spRing K) := by
  refine T.F_lring.ok sc_lring (fun vs H Q E h => ?_) (fun cdv A outer s H vs Q E hr h => ?_)
  · obtain ⟨row, a, ns, size, most, rfl, _⟩ := h
    rfl
  · obtain ⟨row, a, ns, size, most, rfl, RA, z2, z8, m1, m30, q⟩ := h
    have nd := sc_lring.nd
    refine ⟨_, pss_cons (ps_set (i := 3) nd rfl (.inl rfl) (pe_op op_add pe_int (pe_call (ok_next T) hr (by rfl) T.g_lnext T.F_lnext.kp T.b_lnext .nil pass0 (pa_cons (pv 0) (pa_cons (pe_op op_sub (pv 1) pe_int) pa_nil)))))
      (pss_cons (ps_setLc (i := 4) (own := [("_law_k", 6)]) rfl nd rfl rfl (sw_true rfl rfl rfl (by decide +kernel)) (pi_range1 (by rfl) T.z_range (pa_cons (pv 3) pa_nil)) (blkOk_by (N := N_lring) (sc := defScope s_lring) (by decide +kernel))
        (fun _ _ _ _ _ => pg_name (i := 6) nd rfl (.inl rfl)) (fun _ _ _ _ _ => pts_nil)
        (fun _ _ _ _ _ => pe_op op_add pe_int (pe_call (ok_next T) hr (by rfl) T.g_lnext T.F_lnext.kp T.b_lnext .nil pass0 (pa_cons (pv 0) (pa_cons (pv 2) pa_nil)))))
      (pss_cons (ps_setLc (i := 5) (own := [("_law_k", 6)]) rfl nd rfl rfl (sw_true rfl rfl rfl (by decide +kernel)) (pi_range1 (by rfl) T.z_range (pa_cons (pv 3) pa_nil)) (blkOk_by (N := N_lring) (sc := defScope s_lring) (by decide +kernel))
        (fun _ _ _ _ _ => pg_name (i := 6) nd rfl (.inl rfl)) (fun _ _ _ _ _ => pts_nil)
        (fun _ _ _ _ _ => pe_call (ok_next T) hr (by rfl) T.g_lnext T.F_lnext.kp T.b_lnext .nil pass0 (pa_cons (pv 0) (pa_cons (pe_ix (r := rIxL K) ix_list (pe_lst (pa_cons pe_int (pa_cons pe_int pa_nil))) (pe_call (ok_next T) hr (by rfl) T.g_lnext T.F_lnext.kp T.b_lnext .nil pass0 (pa_cons (pv 0) (pa_cons pe_int pa_nil))) (fun _ _ => rfl)) pa_nil))))
      (pss_cons (ps_set (i := 6) nd rfl (.inl rfl) (pe_call (ok_next T) hr (by rfl) T.g_lnext T.F_lnext.kp T.b_lnext .nil pass0 (pa_cons (pv 0) (pa_cons (pv 3) pa_nil))))
      (pss_cons (ps_asg (pe_callB (call_max2 rfl) (by rfl) T.z_max (by decide +kernel) (pa_cons pe_int (pa_cons (pe_ix ix_list (pv 5) (pv 6) (fun _ _ => rfl)) pa_nil))) (pg_sub (pv 5) (pv 6) set_list))
      (pss_cons (ps_while PassesOwn.never (pt_cmpR op_gt (pe_callB (cr_sum rfl) (by rfl) T.z_sum (by decide +kernel) (pa_cons (pv 5) pa_nil)) pe_int (nomark _))
        (pss_one (ps_asg pe_int
          (pg_sub (pv 5) (pe_bm PySem.F.plainAttrs_list PySem.F.slot_list_index PySem.F.type_list_index mt_index (pv 5) (pa_cons (pe_callB (cr_max rfl) (by rfl) T.z_max (by decide +kernel) (pa_cons (pv 5) pa_nil)) pa_nil)) set_list))))
      (pss_one (ps_ret (pe_tup (pa_cons (pe_callTy call_tuple_frz (by rfl) T.z_tuple (by decide +kernel) (pa_cons (pv 4) pa_nil)) (pa_cons (pe_callTy call_tuple_frz (by rfl) T.z_tuple (by decide +kernel) (pa_cons (pv 5) pa_nil)) pa_nil)))))))))), ?_⟩
    -- count
    refine ⟨_, rfl, _, rfl, _, _, rfl, rfl, row, a, ns, _, rfl, RA, by omega, by omega, fun v1 H3 v10 v11 RA3 k3 => ⟨_, _, rfl, rfl, ?_⟩⟩
    -- days
    refine ⟨_, rfl, _, rfl, by omega, by omega, fun D hD => lc_range (lo := 0) (n := (2 + v1).toNat) (Acc K H3 row a D ns 1 30) ?_ ?_ ?_⟩
    · exact ⟨[], rfl, fun y hy => absurd hy (by simp), upd_same, RA3.same (same_upd hD), Same.kp (same_upd hD)⟩
    · rintro i H4 hi ⟨acc, hlen, hall, hacc, RA4, k4⟩
      have nD := RA3.nn hD
      refine ⟨rfl, lc_keep ?_⟩
      refine ⟨_, rfl, _, rfl, row, a, ns, _, rfl, RA4, m1, by omega, fun v H5 v0 v1' RA5 k5 => ?_⟩
      exact ⟨_, _, rfl, rfl, acc.map V.int, k5 _ _ hacc nD, by rw [List.length_map]; exact small1000 (by omega), acc_next hD nD (far_of RA3.sc hD) hlen hall hacc k4 RA5 k5 (by omega) (by omega)⟩
    rintro H4 ⟨ds, dlen, dall, hds, RA4, k4⟩
    have nD := RA3.nn hD
    have k04 := k3.trans k4
    -- starts
    refine ⟨_, rfl, _, rfl, by omega, by omega, fun D2 hD2 => lc_range (lo := 0) (n := (2 + v1).toNat) (Acc K H4 row a D2 ns 0 3) ?_ ?_ ?_⟩
    · exact ⟨[], rfl, fun y hy => absurd hy (by simp), upd_same, RA4.same (same_upd hD2), Same.kp (same_upd hD2)⟩
    · rintro i H5 hi ⟨acc, hlen, hall, hacc, RA5, k5⟩
      have nD2 := RA4.nn hD2
      refine ⟨rfl, lc_keep ?_⟩
      refine ⟨_, rfl, (by show 2 ≤ sizeLine; decide), fun l3 hl3 => ?_⟩
      have s1 := same_upd (o := .lst [.int 2, .int 4]) hl3
      have nl3 := RA5.nn hl3
      refine ⟨_, rfl, row, a, ns, _, rfl, RA5.same s1, by decide, by decide, fun v2 H6 v20 v21 RA6 k6 => ?_⟩
      have hl3' : H6 l3 = some (.lst [.int 2, .int 4]) := k6 _ _ upd_same nl3
      have k56 : Kp row H5 H6 := (Same.kp s1).trans k6
      obtain ⟨far, hfar, f1, f4⟩ : ∃ far : Int, atI [V.int 2, V.int 4] v2 = some (.int far) ∧ 1 ≤ far ∧ far ≤ 4 := by
        have : v2 = 0 ∨ v2 = 1 := by omega
        rcases this with rfl | rfl
        · exact ⟨2, rfl, by omega, by omega⟩
        · exact ⟨4, rfl, by omega, by omega⟩
      refine ⟨l3, _, v2, _, rfl, rfl, .of hl3', hfar, row, a, ns, _, rfl, RA6, f1, by omega, fun v H7 v0 v1' RA7 k7 => ?_⟩
      have k57 := k56.trans k7
      exact ⟨acc.map V.int, k57 _ _ hacc nD2, by rw [List.length_map]; exact small1000 (by omega), acc_next hD2 nD2 (far_of RA4.sc hD2) hlen hall hacc k5 RA7 k57 (by omega) (by omega)⟩
    rintro H5 ⟨ss0, slen0, sall0, hss0, RA5, k5⟩
    have nD2 := RA4.nn hD2
    have nDD : D ≠ D2 := ne_of_none hds hD2
    have fD2 := far_of RA4.sc hD2
    have hds5 : H5 D = some (.lst (ds.map V.int)) := k5 _ _ hds nD
    have k05 := k04.trans k5
    have hD20 : ∀ b o, H b = some o → b ≠ row → b ≠ D2 := fun b o e n => ne_of_none (k04 b o e n) hD2
    -- k
    refine ⟨_, rfl, _, rfl, row, a, ns, _, rfl, RA5, by omega, by omega, fun kk H6 kk0 kk1 RA6 k6 => ?_⟩
    have hss6 : H6 D2 = some (.lst (ss0.map V.int)) := k6 _ _ hss0 nD2
    have hds6 : H6 D = some (.lst (ds.map V.int)) := k6 _ _ hds5 nD
    have hkk : kk.toNat < ss0.length := by omega
    have hix : atI (ss0.map V.int) kk = some (.int ss0[kk.toNat]) := by
      refine at_of (j := kk.toNat) (by omega) ?_
      rw [List.getElem?_map, List.getElem?_eq_getElem hkk]
      rfl
    have hixn : ixN (ss0.map V.int).length kk = some kk.toNat := by
      unfold ixN
      rw [List.length_map, if_pos (by omega), if_pos (by omega)]
    -- starts[k] = max(1, starts[k])
    refine ⟨_, rfl, _, rfl, D2, _, kk, _, rfl, rfl, .of hss6, hix, _, _, rfl, ?_⟩
    rw [max_if]
    refine ⟨_, rfl, _, rfl, D2, _, kk, kk.toNat, rfl, rfl, hss6, hixn, ?_⟩
    have hzz := sall0 _ (List.getElem_mem hkk)
    generalize ss0[kk.toNat] = zz at hzz
    have hmem : max 1 zz ∈ ss0.set kk.toNat (max 1 zz) := List.mem_set hkk _
    have hall1 : ∀ y ∈ ss0.set kk.toNat (max 1 zz), 0 ≤ y ∧ y ≤ 12 := fun y hy => by
      rcases mem_set hy with z | z
      · have := sall0 y z; omega
      · omega
    have hsum1 := mem_le_sum (fun y hy => (hall1 y hy).1) _ hmem
    refine ⟨fun m σ H' => σ = [some (.ref row), some (.int size), some (.int most), some (.int (2 + v1)), some (.ref D), some (.ref D2), some (.int kk)] ∧ ∃ ss : List Int, m = ss.sum.toNat ∧ ss.length = (2 + v1).toNat ∧ (∀ y ∈ ss, 0 ≤ y ∧ y ≤ 12) ∧ 1 ≤ ss.sum ∧ H' D2 = some (.lst (ss.map V.int)) ∧ H' D = some (.lst (ds.map V.int)) ∧ RowAt K H' row a ns ∧ Kp row H H',
      ⟨_, rfl, ss0.set kk.toNat (max 1 zz), rfl, by rw [List.length_set]; exact slen0, hall1, by omega, by rw [upd_same, List.map_set], by rw [upd_ne nDD]; exact hds6, RA6.upd' nD2 fD2, fun b o e n => by rw [upd_ne (hD20 b o e n)]; exact (k05.trans k6) b o e n⟩, ?_⟩
    rintro m σ H7 ⟨rfl, ss, rfl, slen, sall, ssum, hss, hdd, RA7, k7⟩
    refine ⟨_, rfl, D2, ss, rfl, .of hss, _, _, rfl, rfl, _, rfl, ?_⟩
    by_cases hc : 12 < ss.sum
    · rw [decide_eq_true hc]
      refine iteT ⟨fun σ' H' => σ' = [some (.ref row), some (.int size), some (.int most), some (.int (2 + v1)), some (.ref D), some (.ref D2), some (.int kk)] ∧ ∃ ss' : List Int, ss'.sum < ss.sum ∧ 1 ≤ ss'.sum ∧ ss'.length = (2 + v1).toNat ∧ (∀ y ∈ ss', 0 ≤ y ∧ y ≤ 12) ∧ H' D2 = some (.lst (ss'.map V.int)) ∧ H' D = some (.lst (ds.map V.int)) ∧ RowAt K H' row a ns ∧ Kp row H H',
        fun σ' H' ⟨e1, ss', e2, e20, e3, e4, e5, e6, e7, e8⟩ => ⟨ss'.sum.toNat, by omega, e1, ss', rfl, e3, e4, e20, e5, e6, e7, e8⟩, ?_⟩
      refine ⟨_, rfl, _, rfl, .inl ⟨rfl, _, .of hss⟩, _, rfl, D2, ss, rfl, .of hss, by omega, fun mm hm hmu => ?_⟩
      obtain ⟨j, hj, hno⟩ := first_ix hm
      have hjl : j < ss.length := (List.getElem?_eq_some_iff.mp hj).1
      refine ⟨D2, ss.map V.int, .int mm, j, .int mm, rfl, rfl, .of hss, rfl, flat_ints ss, by rw [List.getElem?_map, hj]; rfl, beq_self_eq_true mm, fun k z' hk hz => ?_, ?_⟩
      · obtain ⟨z, hz2, rfl⟩ := get_int hz
        exact beq_eq_false_iff_ne.mpr (hno k z hk hz2)
      · have hixn2 : ixN (ss.map V.int).length ((j : Nat) : Int) = some j := by
          unfold ixN
          rw [List.length_map, if_pos (by omega), if_pos (by omega), Int.toNat_natCast]
        have hm2 : 2 ≤ mm := by
          rcases Int.lt_or_le mm 2 with z | z
          · have := sum_le_len (l := ss) fun y hy => by have := hmu _ hy; omega
            omega
          · exact z
        have hall2 : ∀ y ∈ ss.set j 1, 0 ≤ y ∧ y ≤ 12 := fun y hy => by
          rcases mem_set hy with z | z
          · exact sall y z
          · omega
        refine ⟨D2, _, ((j : Nat) : Int), j, rfl, rfl, hss, hixn2, rfl, ss.set j 1, ?_, ?_, by rw [List.length_set]; exact slen, hall2, by rw [upd_same, List.map_set], by rw [upd_ne nDD]; exact hdd, RA7.upd' nD2 fD2, fun b o e n => by rw [upd_ne (hD20 b o e n)]; exact k7 b o e n⟩
        · rw [sum_set hj]
          omega
        · exact mem_le_sum (fun y hy => (hall2 y hy).1) 1 (List.mem_set hjl 1)
    · rw [decide_eq_false hc]
      refine iteF ?_
      refine ⟨_, rfl, D, _, rfl, .of hdd, fun l1 o1 hl1 hd1 => ?_⟩
      have u1 := same_upd (o := .frz o1 (.tup (ds.map V.int))) hl1
      refine ⟨_, rfl, D2, _, rfl, .of (u1 _ _ hss), fun l2 o2 hl2 hd2 => ⟨(by show 2 ≤ sizeLine; decide), fun t ht => ?_⟩⟩
      have u2 := same_upd (o := .frz o2 (.tup (ss.map V.int))) hl2
      have u3 := same_upd (o := .tup [.ref l1, .ref l2]) ht
      exact q _ t l1 l2 ds ss ⟨by omega, by omega, by omega, dall, sall, ssum, by omega⟩ (((RA7.same u1).same u2).same u3) (((k7.trans (Same.kp u1)).trans (Same.kp u2)).trans (Same.kp u3)) upd_same ⟨o1, hd1, u3 _ _ (u2 _ _ upd_same)⟩ ⟨o2, hd2, u3 _ _ upd_same⟩
end
end Rp
namespace Rp
open PySem PySem.Spec PyProof.Rows L2 Rz Rm
theorem flds_other {td ts : Addr} {m : Str} (h1 : ¬ m = "_days") (h2 : ¬ m = "_starts") : (flds td ts).lookup m = none := by
  unfold flds
  rw [lookup_putF, if_neg h2, lookup_putF, if_neg h1]
  rfl
theorem pX_slow {ds : List Int} {b : Int} (h : ds.sum ≤ mx ds * b) : pX ds b = mx ds ∧ pY ds b = 1 := by
  unfold pX pY
  rw [if_pos h, if_pos h]
  exact ⟨rfl, rfl⟩
theorem Good.mx1 {ds ss : List Int} (G : Good ds ss) : 1 ≤ mx ds ∧ mx ds ≤ 30 := ⟨(G.d1 _ G.dys.mem).1, (G.d1 _ G.dys.mem).2⟩
theorem less_ok {ds ss : List Int} (G : Good ds ss) : 1 ≤ pX ds ss.sum ∧ pX ds ss.sum ≤ 1000 ∧ 1 ≤ pY ds ss.sum ∧ pY ds ss.sum ≤ 1000 ∧ (∀ d ∈ ds, d ≤ pX ds ss.sum / pY ds ss.sum) ∧ ds.sum ≤ pX ds ss.sum * ss.sum / pY ds ss.sum := by
  have m1 := G.mx1
  have hT := sum_bounds G.d1
  have l2 := G.l2
  have l8 := G.l8
  have b1 := G.b1
  have b12 := G.b12
  by_cases hc : ds.sum ≤ mx ds * ss.sum
  · obtain ⟨e1, e2⟩ := pX_slow hc
    rw [e1, e2, Int.ediv_one, Int.ediv_one]
    exact ⟨by omega, by omega, by omega, by omega, fun d hd => le_mx hd, hc⟩
  · have e1 : pX ds ss.sum = ds.sum / gq ds ss.sum := by unfold pX; rw [if_neg hc]
    have e2 : pY ds ss.sum = ss.sum / gq ds ss.sum := by unfold pY; rw [if_neg hc]
    obtain ⟨g0, gle, gd1, gd2⟩ := gq_facts (ds := ds) b1
    rw [e1, e2]
    generalize gq ds ss.sum = g at *
    obtain ⟨x, hx⟩ := gd1
    obtain ⟨y, hy⟩ := gd2
    have ex : ds.sum / g = x := by rw [hx, Int.mul_ediv_cancel_left x (by omega)]
    have ey : ss.sum / g = y := by rw [hy, Int.mul_ediv_cancel_left y (by omega)]
    rw [ex, ey]
    have x1 : 1 ≤ x := by
      rcases Int.lt_or_le x 1 with z | z
      · have : g * x ≤ g * 0 := Int.mul_le_mul_of_nonneg_left (by omega) (by omega)
        omega
      · exact z
    have y1 : 1 ≤ y := by
      rcases Int.lt_or_le y 1 with z | z
      · have : g * y ≤ g * 0 := Int.mul_le_mul_of_nonneg_left (by omega) (by omega)
        omega
      · exact z
    have x2 : 1 * x ≤ g * x := Int.mul_le_mul_of_nonneg_right (by omega) (by omega)
    have y2 : 1 * y ≤ g * y := Int.mul_le_mul_of_nonneg_right (by omega) (by omega)
    refine ⟨x1, by omega, y1, by omega, fun d hd => ?_, ?_⟩
    · have hd2 := le_mx hd
      refine (Int.le_ediv_iff_mul_le (by omega)).mpr ?_
      have h1 : d * y ≤ mx ds * y := Int.mul_le_mul_of_nonneg_right hd2 (by omega)
      have h2 : g * (mx ds * y) < g * x := by
        rw [← hx, Int.mul_left_comm, ← hy]
        omega
      have h3 : mx ds * y < x := Int.lt_of_mul_lt_mul_left h2 (by omega)
      omega
    · refine (Int.le_ediv_iff_mul_le (by omega)).mpr ?_
      rw [hx, hy, Int.mul_comm g x, Int.mul_assoc]
      exact Int.le_refl _
theorem dec_eqI' {a b : Int} : decide (V.int a = V.int b) = decide (a = b) := by
  by_cases h : a = b
  · rw [decide_eq_true h, decide_eq_true (congrArg V.int h)]
  · rw [decide_eq_false h, decide_eq_false fun z => h (V.int.inj z)]
/-- is the pace smaller when k needs one day less? -/
def hlpb (ds ss : List Int) (k : Nat) : Bool := decide (1 < at' ds k) && decide (pX (ds.set k (at' ds k - 1)) ss.sum * pY ds ss.sum < pX ds ss.sum * pY (ds.set k (at' ds k - 1)) ss.sum)
def hl (ds ss : List Int) : Nat → List Int
  | 0 => []
  | i + 1 => if hlpb ds ss i = true then hl ds ss i ++ [(i : Int)] else hl ds ss i
theorem hl_len (ds ss : List Int) : ∀ i, (hl ds ss i).length ≤ i
  | 0 => Nat.le_refl _
  | i + 1 => by
    have := hl_len ds ss i
    unfold hl
    split
    · rw [List.length_append, List.length_singleton]
      omega
    · omega
section
variable {P : Program} {w : World} {K : PySem.W.Frag} {mg : Str → Option Value} {base : Heap}
def spSm : Sp := fun vs H Q _ => ∃ (u v : Addr) (a b c d : Int), vs = [.ref u, .ref v] ∧ H u = some (.tup [.int a, .int b]) ∧ H v = some (.tup [.int c, .int d]) ∧ 0 ≤ b ∧ b < 2 ^ 64 ∧ 0 ≤ d ∧ d < 2 ^ 64 ∧ Q (.bl (decide (a * d < c * b))) H
theorem ok_smaller (T : Tx K mg) : FnOk P w K mg base CX0 1 T.a_is_smaller T.d_is_smaller P_is_smaller spSm := by
  refine T.F_is_smaller.ok sc_is_smaller (fun vs H Q E h => ?_) (fun cdv A outer s H vs Q E hr h => ?_)
  · obtain ⟨u, v, a, b, c, d, rfl, _⟩ := h
    rfl
  · obtain ⟨u, v, a, b, c, d, rfl, hu, hv, b0, b1, d0, d1, q⟩ := h
    refine ⟨_, pss_one (ps_ret (pe_cmpR op_lt (pe_op op_mul (pe_ix ix_tup (pv 0) pe_int (fun _ _ => rfl)) (pe_ix ix_tup (pv 1) pe_int (fun _ _ => rfl))) (pe_op op_mul (pe_ix ix_tup (pv 1) pe_int (fun _ _ => rfl)) (pe_ix ix_tup (pv 0) pe_int (fun _ _ => rfl))) (nomark _))), ?_⟩
    exact ⟨_, rfl, u, _, 0, _, rfl, rfl, .of hu, atI_nat (j := 0) rfl, _, rfl, v, _, 1, _, rfl, rfl, .of hv, atI_nat (j := 1) rfl, _, _, rfl, rfl, .inr ⟨by omega, d1⟩, _, rfl, v, _, 0, _, rfl, rfl, .of hv, atI_nat (j := 0) rfl, _, rfl, u, _, 1, _, rfl, rfl, .of hu, atI_nat (j := 1) rfl, _, _, rfl, rfl, .inr ⟨by omega, b1⟩, _, _, rfl, rfl, q⟩
def spHlp (C : Addr) : Sp := fun vs H Q _ => ∃ p dx td ts ds ss, ∃ k : Nat, vs = [.ref p, .int (k : Int)] ∧ RingAt C H p dx td ts ds ss ∧ k < ds.length ∧ ∀ H', Same H H' → Q (.bl (hlpb ds ss k)) H'
theorem ok_hlp (T : Tx K mg) : FnOk P w K mg base CX0 7 T.a_is_helpful T.d_is_helpful P_is_helpful (spHlp T.C) := by
  refine T.F_is_helpful.ok sc_is_helpful (fun vs H Q E h => ?_) (fun cdv A outer s H vs Q E hr h => ?_)
  · obtain ⟨p, dx, td, ts, ds, ss, k, rfl, _⟩ := h
    rfl
  · obtain ⟨p, dx, td, ts, ds, ss, k, rfl, R, k1, q⟩ := h
    have hr4 : Room 4 _ := hr.mono (by decide)
    have hr2 : Room 2 _ := hr.mono (by decide)
    have hr1 : Room 1 _ := hr.mono (by decide)
    refine ⟨_, pss_cons (ps_if (pt_cmpR op_eq (pe_ix ix_tup (pe_prop (pv 0) T.cl T.q_rdays (ok_days T) hr2 T.b_rdays .nil pass0 rfl) (pv 1) (fun _ _ => rfl)) pe_int (nomark _)) (pss_one (ps_ret pe_bl)) pss_nil)
      (pss_one (ps_ret (pe_call (ok_smaller T) hr1 (by rfl) T.g_is_smaller T.F_is_smaller.kp T.b_is_smaller .nil pass0 (pa_cons (pe_prop (pe_meth (pv 0) T.cl T.mW (ok_with T) hr T.b_rwith_days .nil pass0 (pa_cons (pv 1) (pa_cons (pe_op op_sub (pe_ix ix_tup (pe_prop (pv 0) T.cl T.q_rdays (ok_days T) hr2 T.b_rdays .nil pass0 rfl) (pv 1) (fun _ _ => rfl)) pe_int) pa_nil))) T.cl T.q_rpace (ok_rpace T) hr4 T.b_rpace .nil pass0 rfl)
        (pa_cons (pe_prop (pv 0) T.cl T.q_rpace (ok_rpace T) hr4 T.b_rpace .nil pass0 rfl) pa_nil))))), ?_⟩
    have rdD : ∀ {Q' : VK} {E' : XK}, Q' (.ref td) H → spDays T.C [.ref p] H Q' E' := fun z => ⟨p, dx, td, ts, ds, ss, rfl, R, z⟩
    have d0 := R.ok.d1 _ (at_mem (l := ds) (by omega) (k : Int))
    refine ⟨_, rfl, p, dx, _, rfl, R.ob, rdD ⟨_, rfl, td, _, _, _, rfl, rfl, .inl R.td.rd, at_ix (by omega) (by omega), rfl, _, rfl, ?_⟩⟩
    rw [dec_eqI']
    by_cases h1 : at' ds (k : Int) = 1
    · rw [decide_eq_true h1]
      refine iteT ?_
      have := q H (Same.refl H)
      unfold hlpb at this
      rw [h1, decide_eq_false (show ¬ (1 : Int) < 1 by omega)] at this
      exact this
    · rw [decide_eq_false h1]
      have G2 := R.ok.set k (d := at' ds (k : Int) - 1) ⟨by omega, by omega⟩
      refine iteF ⟨_, rfl, p, dx, _, rfl, R.ob, flds_other (by decide +kernel) (by decide +kernel), _, rfl, _, rfl, p, dx, _, rfl, R.ob, rdD ⟨_, rfl, td, _, _, _, rfl, rfl, .inl R.td.rd, at_ix (by omega) (by omega), _, _, rfl, rfl, p, dx, td, ts, ds, ss, (k : Int), _, rfl, R, by omega, by omega, by omega, by omega, fun H2 p2 dx2 td2 ts2 s2 R2 => ?_⟩⟩
      rw [Int.toNat_natCast] at R2
      refine ⟨p2, dx2, _, rfl, R2.ob, p2, dx2, td2, ts2, _, ss, rfl, R2, fun H3 t3 s3 ht3 => ?_⟩
      have R3 := (R.same s2).same s3
      refine ⟨_, rfl, p, dx, _, rfl, R3.ob, p, dx, td, ts, ds, ss, rfl, R3, fun H4 t4 s4 ht4 => ?_⟩
      obtain ⟨_, _, a3, a4, _, _⟩ := less_ok R.ok
      obtain ⟨_, _, c3, c4, _, _⟩ := less_ok G2
      refine ⟨t3, t4, _, _, _, _, rfl, s4 _ _ ht3, ht4, by omega, by omega, by omega, by omega, ?_⟩
      have := q H4 ((s2.trans s3).trans s4)
      unfold hlpb at this
      rw [decide_eq_true (show (1 : Int) < at' ds (k : Int) by omega), Bool.true_and] at this
      exact this
def spHR (C : Addr) : Sp := fun vs H Q _ => ∃ p dx td ts ds ss, vs = [.ref p] ∧ RingAt C H p dx td ts ds ss ∧ ∀ H' l, Same H H' → H l = none → H' l = some (.lst ((hl ds ss ds.length).map V.int)) → Q (.ref l) H'
theorem ok_hr (T : Tx K mg) : FnOk P w K mg base CX0 8 T.a_helpful_readers T.d_helpful_readers P_helpful_readers (spHR T.C) := by
  refine T.F_helpful_readers.ok sc_helpful_readers (fun vs H Q E h => ?_) (fun cdv A outer s H vs Q E hr h => ?_)
  · obtain ⟨p, dx, td, ts, ds, ss, rfl, _⟩ := h
    rfl
  · obtain ⟨p, dx, td, ts, ds, ss, rfl, R, q⟩ := h
    have hr2 : Room 2 _ := hr.mono (by decide)
    have nd := sc_helpful_readers.nd
    have l8 := R.ok.l8
    refine ⟨_, pss_one (ps_ret (pe_lc (own := [("reader", 1)]) rfl nd (pi_range1 (by rfl) T.z_range (pa_cons (pe_callB (call_lenI T.lenC T.lenF ((ok_len T).raw T.b_rlen .nil) hr2 pass0) (by rfl) T.z_len PySem.boot_len (pa_cons (pv 0) pa_nil)) pa_nil)) (blkOk_by (N := N_helpful_readers) (sc := defScope s_helpful_readers) (by decide +kernel))
      (fun _ _ _ _ _ => pg_name (i := 1) nd rfl (.inl rfl))
      (fun _ _ _ _ _ => pts_one (pt_val (pe_call (ok_hlp T) hr (by rfl) T.g_is_helpful T.F_is_helpful.kp T.b_is_helpful .nil pass0 (pa_cons (pv 0) (pa_cons (pv 1) pa_nil)))))
      (fun _ _ _ _ _ => pv 1))), ?_⟩
    refine ⟨_, rfl, p, dx, _, rfl, R.ob, p, dx, td, ts, ds, ss, rfl, R, (ds.length : Int), rfl, by omega, by omega, (ds.length : Int), rfl, by omega, by omega, fun L hL => lc_range (lo := 0) (n := ((ds.length : Int)).toNat) (fun i H' => H' L = some (.lst ((hl ds ss i).map V.int)) ∧ Same H H') ?_ ?_ ?_⟩
    · exact ⟨upd_same, same_upd hL⟩
    · rintro i H2 hi ⟨hacc, s2⟩
      have R2 := R.same s2
      refine ⟨rfl, ?_⟩
      refine ⟨_, rfl, _, rfl, p, dx, td, ts, ds, ss, i, ?_, R2, by omega, fun H3 s3 => ⟨_, rfl, ?_⟩⟩
      · show [V.ref p, V.int (0 + (i : Int))] ++ [] = _
        rw [show (0 : Int) + (i : Int) = i by omega]
        rfl
      have hacc3 := s3 _ _ hacc
      have hln := hl_len ds ss i
      cases hb : hlpb ds ss i with
      | true =>
        show if true = true then _ else _
        rw [if_pos rfl]
        refine ⟨_, rfl, _, hacc3, by rw [List.length_map]; exact small1000 (by omega), ?_, ?_⟩
        · rw [upd_same, map_snoc, show (0 : Int) + (i : Int) = i by omega, show hl ds ss (i + 1) = hl ds ss i ++ [(i : Int)] from if_pos hb]
        · exact fun b x e => by
            rw [upd_ne (ne_of_none e hL)]
            exact s3 _ _ (s2 b x e)
      | false =>
        show if false = true then _ else _
        rw [if_neg (by decide)]
        refine ⟨?_, s2.trans s3⟩
        rw [hacc3, show hl ds ss (i + 1) = hl ds ss i from if_neg (by rw [hb]; decide)]
    · rintro H2 ⟨hacc, s2⟩
      rw [Int.toNat_natCast] at hacc
      exact q H2 L s2 hL hacc
end
end Rp
namespace Rp
open PySem PySem.Spec PyProof.Rows L2 Rz Rm
def Alk (C : Addr) (a b : Addr) (H : Hp) : Prop := ∃ dx td ts dy te tt ds ss, RingAt C H a dx td ts ds ss ∧ RingAt C H b dy te tt ds ss
theorem tupq_eq {K : PySem.W.Frag} {H : Hp} {Q : VK} {a b : Addr} {l : List Int} (ha : Tq H a (l.map V.int)) (hb : Tq H b (l.map V.int)) (q : Q (.bl (decide (l = l))) H) : rEqD K (.ref a) (.ref b) H Q :=
  ⟨_, _, .tup (.inl ha.rd) (dp_is l), .tup (.inl hb.rd) (dp_is l), shaped_tup l, shaped_tup l, by rw [eqv_tup]; exact q⟩
section
variable {P : Program} {w : World} {K : PySem.W.Frag} {mg : Str → Option Value} {base : Heap}
/-! ### Ring.__eq__ -/
theorem ok_eq (T : Tx K mg) : FnOk P w K mg base CX0 2 T.a_req T.d_req P_req (spEq (Alk T.C)) := by
  refine T.F_req.ok sc_req (fun vs H Q E h => ?_) (fun cdv A outer s H vs Q E hr h => ?_)
  · obtain ⟨a, b, rfl, _⟩ := h
    rfl
  · obtain ⟨a, b, rfl, ⟨dx, td, ts, dy, te, tt, ds, ss, Ra, Rb⟩, q⟩ := h
    refine ⟨_, pss_one (ps_ret (pe_and (pe_callB call_isi (by rfl) T.z_isinstance (by decide +kernel) (pa_cons (pv 1) (pa_cons (pe_glob (v := .ref T.C) (by rfl) T.gC rfl) pa_nil)))
      (pe_and (pe_cmpR (op_eqD hr.units) (pe_fld (pv 0) rfl) (pe_fld (pv 1) rfl) (nomark _)) (pe_one (pe_cmpR (op_eqD hr.units) (pe_fld (pv 0) rfl) (pe_fld (pv 1) rfl) (nomark _)))))), ?_⟩
    refine ⟨.ref b, rfl, .ref b, .ref T.C, .ref T.C, .ref T.C, true, rfl, .own _, .base (.ins Rb.ob T.cl T.clsC T.clsG T.clsT T.clsM), if_pos (beq_self_eq_true _), true, rfl, iteT ?_⟩
    refine ⟨_, rfl, a, _, dx, _, _, rfl, Ra.ob, T.cl, T.nD, flds_days _ _, _, rfl, b, _, dy, _, _, rfl, Rb.ob, T.cl, T.nD, flds_days _ _, ?_⟩
    refine tupq_eq Ra.td Rb.td ⟨_, rfl, ?_⟩
    rw [decide_eq_true rfl]
    refine iteT ⟨_, rfl, a, _, dx, _, _, rfl, Ra.ob, T.cl, T.nS, flds_starts _ _, _, rfl, b, _, dy, _, _, rfl, Rb.ob, T.cl, T.nS, flds_starts _ _, ?_⟩
    refine tupq_eq Ra.ts Rb.ts ?_
    rw [decide_eq_true rfl]
    exact q H (fun _ _ h => h)
end
end Rp
/-! Lambdas as values: made and kept (in lists, in slots), with or without a default value. -/
namespace Rl
open PySem PySem.Spec PyProof.Rows L2 LamX
/-- what a lambda is -/
structure LF where
  q : Str
  params : Arguments
  body : Expr
  scope : Scope
  cl : List (Str × Addr)
  dV : Value
  c : Addr
def LamO (f : Addr) (F : LF) : HO := .ext fun h => ∃ (doc pm ctv : Value), h.get? f = some (PySem.W.kdv_obj "<lambda>" F.q F.params (.expr F.body) F.scope F.cl F.dV doc pm F.c ctv)
theorem lamO_ne {f : Addr} {F : LF} (ps : Array Value) : LamO f F ≠ .tbl ps := fun z => by
  unfold LamO at z
  cases z
section
variable {X : Cx} {pins : List (Addr × Obj)} {σ : L2.St} {H : Hp} {s : Shared}
theorem inv_lam {F : LF} {o : Obj} {t' : Nat} {doc pm ctv : Value} (I : Inv X pins σ H s) (ho : o = PySem.W.kdv_obj "<lambda>" F.q F.params (.expr F.body) F.scope F.cl F.dV doc pm F.c ctv) :
    Inv X pins σ (upd H s.heap.objs.size (LamO s.heap.objs.size F)) { s with heap := s.heap.push o, toks := t' } := by
  subst ho
  have e : (s.heap.push (PySem.W.kdv_obj "<lambda>" F.q F.params (.expr F.body) F.scope F.cl F.dV doc pm F.c ctv)).get? s.heap.objs.size = some (PySem.W.kdv_obj "<lambda>" F.q F.params (.expr F.body) F.scope F.cl F.dV doc pm F.c ctv) := Heap.get?_push_size _ rfl
  exact I.laid (a := s.heap.objs.size) (fun b u g => Heap.get?_push_of_some _ g) (Nat.le_refl _) ⟨⟨doc, pm, ctv, e⟩, ⟨_, e⟩, fun h1 h2 ⟨d1, p1, v1, z⟩ st => ⟨d1, p1, v1, st _ z⟩⟩
/-- the rest of the making, the default values evaluated -/
theorem lam_tail {T : List (Addr × Str)} {c P : Addr} {params : Arguments} {body : Expr} {scope : Scope} {pos : Pos} {dV : Value} {E : Value → Shared → Prop} {Q : Value → Shared → Prop} (I : Inv X pins σ H s) (TB : TabB X.base X.mg c P) (hcode : X.env.code = .ref c)
    (hm : (P, X.env.qual ++ "<lambda>") ∈ T) (hu : ∀ p ∈ T, p.1 = P → p.2 = X.env.qual ++ "<lambda>") (hT : Tabs T H) (hfree : ∀ y ∈ scope.names, y.2 = .free → ∃ c, X.env.cells.lookup y.1 = some c)
    (h : ∀ (f c' : Addr) (H1 : Hp) (s' : Shared), Inv X pins σ H1 s' → ExtN H H1 → Tabs T H1 → H f = none → H1 f = some (LamO f ⟨X.env.qual ++ "<lambda>", params, body, scope, cloFrom X.env.cells scope.names [], dV, c'⟩) → H1 c' = some (CodeO c' (X.env.qual ++ "<lambda>")) → Q (.ref f) s') :
    wpAny (model X.prog X.w) X.A (makeTail "<lambda>" (X.env.qual ++ "<lambda>") params (.expr body) scope X.env dV .none none pos pos.line) Q E s := by
  obtain ⟨ps, hP, ht, ha⟩ := hT _ hm
  have bP : s.heap.BuiltinsAt X.mg P := TB.bm.keeps I.bk
  have gP : s.heap.get? P = some { cls := .none, data := .fields ps } := I.hok P _ hP
  cases hc : codeAmong pos ps.toList with
  | none =>
    refine PySem.W.kdv_makeTail (mg := X.mg) (c := c) (P := P) (ps := ps) (closure_ok hfree) I.ok.glob (I.mod.glob.keeps I.bk) hcode (TB.code.keeps I.bk) gP ht hc TB.gP bP fun c' ctv doc h' tk hx hge hlt hrec htb => ?_
    obtain ⟨c2, oc, vs, t, e2, r1, r2, r3⟩ := hrec
    cases e2
    have nC := I.hok.fresh hge
    have J := inv_table (t' := tk) (more := #[rawInt pos.line, rawInt pos.col, .ref c']) (h' := h') I hP (fun b o n e => hx b o n e) htb hge ⟨oc, vs, t, r1, r2, r3⟩
    obtain ⟨H1, hH1⟩ : ∃ H1, H1 = upd (upd H P (.tbl (ps ++ #[rawInt pos.line, rawInt pos.col, .ref c']))) c' (CodeO c' (X.env.qual ++ "<lambda>")) := ⟨_, rfl⟩
    have ext1 : ExtN H H1 := fun b o e n => by
      rw [hH1, upd_ne (ne_of_none e nC), upd_ne (fun z => by subst z; rw [hP] at e; exact n ps (Option.some.inj e).symm)]
      exact e
    have atC : H1 c' = some (CodeO c' (X.env.qual ++ "<lambda>")) := by rw [hH1, upd_same]
    have tabs1 : Tabs T H1 := fun p hp => by
      by_cases hb : p.1 = P
      · rw [hu p hp hb, hb]
        refine ⟨ps ++ #[rawInt pos.line, rawInt pos.col, .ref c'], by rw [hH1, upd_ne (ne_of_none hP nC), upd_same], ?_, fun p' cv hcv => ?_⟩
        · rw [Array.toList_append]
          exact PySem.TriplesOk_snoc _ _ _ _ ht
        · rw [Array.toList_append] at hcv
          rcases among_app _ ht hcv with z | z
          · obtain ⟨c0, e1, e2⟩ := ha p' cv z
            exact ⟨c0, e1, ext1 _ _ e2 codeO_ne⟩
          · exact ⟨c', z, atC⟩
      · obtain ⟨ps', a1, a2, a3⟩ := hT p hp
        refine ⟨ps', by rw [hH1, upd_ne (ne_of_none a1 nC), upd_ne hb]; exact a1, a2, fun p' cv hcv => ?_⟩
        obtain ⟨c0, e1, e2⟩ := a3 p' cv hcv
        exact ⟨c0, e1, ext1 _ _ e2 codeO_ne⟩
    rw [← hH1] at J
    have nF := J.hok.fresh (Nat.le_refl _)
    have J2 := inv_lam (F := ⟨X.env.qual ++ "<lambda>", params, body, scope, cloFrom X.env.cells scope.names [], dV, c'⟩) (t' := tk) (doc := doc) (pm := (X.mg "__name__").getD .none) (ctv := ctv) J rfl
    have kp : ∀ {b o}, H1 b = some o → (upd H1 h'.objs.size (LamO h'.objs.size ⟨X.env.qual ++ "<lambda>", params, body, scope, cloFrom X.env.cells scope.names [], dV, c'⟩)) b = some o := fun e => (upd_ne (ne_of_none e nF)).trans e
    exact h h'.objs.size c' _ _ J2 (fun b o e n => kp (ext1 b o e n)) (tabs1.ext fun b o e => kp e) (I.hok.fresh (Nat.le_trans hge (Nat.le_of_lt hlt))) upd_same (kp atC)
  | some cv =>
    obtain ⟨c', e, hco⟩ := ha pos cv hc
    subst e
    refine PySem.W.kdv_makeTailHit (mg := X.mg) (c := c) (P := P) (ps := ps) (closure_ok hfree) I.ok.glob (I.mod.glob.keeps I.bk) hcode (TB.code.keeps I.bk) gP ht hc bP fun ctv doc h' tk hx hsz => ?_
    have J : Inv X pins σ H { s with heap := h', toks := tk } := I.kept hx
    have nF : H h'.objs.size = none := J.hok.fresh (Nat.le_refl _)
    have J2 := inv_lam (F := ⟨X.env.qual ++ "<lambda>", params, body, scope, cloFrom X.env.cells scope.names [], dV, c'⟩) (t' := tk) (doc := doc) (pm := (X.mg "__name__").getD .none) (ctv := ctv) J rfl
    have kp : ∀ {b o}, H b = some o → (upd H h'.objs.size (LamO h'.objs.size ⟨X.env.qual ++ "<lambda>", params, body, scope, cloFrom X.env.cells scope.names [], dV, c'⟩)) b = some o := fun e => (upd_ne (ne_of_none e nF)).trans e
    exact h h'.objs.size c' _ _ J2 (fun b o e n => kp e) (hT.ext fun b o e => kp e) nF upd_same (kp hco)
end
/-- the value of a lambda -/
def tLamV (T : List (Addr × Str)) (mk : Addr → LF) : TE := fun _ H Q => Tabs T H ∧ ∀ (f c' : Addr) (H1 : Hp), ExtN H H1 → Tabs T H1 → H f = none → H1 f = some (LamO f (mk c')) → H1 c' = some (CodeO c' (mk c').q) → Q (.ref f) H1
/-- the same, one int by default: the tuple of the values is told, too -/
def tLamD (T : List (Addr × Str)) (d : Int) (mk : Addr → Addr → LF) : TE := fun _ H Q => Tabs T H ∧ ∀ (f c' t : Addr) (H1 : Hp), ExtN H H1 → Tabs T H1 → H f = none → H1 t = some (.tup [.int d]) → H1 f = some (LamO f (mk t c')) → H1 c' = some (CodeO c' (mk t c').q) → Q (.ref f) H1
section
variable {X : Cx} {T : List (Addr × Str)} {c P : Addr} {params : Arguments} {body : Expr} {scope : Scope} {pos : Pos}
theorem pe_lam0 (TB : TabB X.base X.mg c P) (hcode : X.env.code = .ref c) (hm : (P, X.env.qual ++ "<lambda>") ∈ T) (hu : ∀ p ∈ T, p.1 = P → p.2 = X.env.qual ++ "<lambda>")
    (hF : ∀ y ∈ scope.names, y.2 = .free → X.env.scope.names.lookup y.1 = some .cell ∨ X.env.scope.names.lookup y.1 = some .free) (hdef : defaultsOf params X.env = ([], [])) :
    PE X (.Lambda params body scope pos) (tLamV T fun c' => ⟨X.env.qual ++ "<lambda>", params, body, scope, cloFrom X.env.cells scope.names [], .none, c'⟩) := by
  refine ⟨fun pins s σ H Q I h => ?_⟩
  obtain ⟨hT, h⟩ := h
  have hfree : ∀ y ∈ scope.names, y.2 = .free → ∃ c, X.env.cells.lookup y.1 = some c := fun y hy e => (hF y hy e).elim (fun z => I.ok.has _ (.inl z)) fun z => I.ok.has _ (.inr z)
  refine PySem.W.kla_eval hdef ?_
  simp only [makeFunction_eq, List.isEmpty_nil, List.filterMap_nil, List.zip_nil_right, pure_bind, if_true]
  exact lam_tail I TB hcode hm hu hT hfree fun f c' H1 s' I1 x1 t1 hf e1 e2 => ⟨.ref f, H1, I1, rfl, h f c' H1 x1 t1 hf e1 e2⟩
theorem pe_lam1 {d : Int} {j : Nat} {dp : Pos} (TB : TabB X.base X.mg c P) (hcode : X.env.code = .ref c) (hm : (P, X.env.qual ++ "<lambda>") ∈ T) (hu : ∀ p ∈ T, p.1 = P → p.2 = X.env.qual ++ "<lambda>")
    (hF : ∀ y ∈ scope.names, y.2 = .free → X.env.scope.names.lookup y.1 = some .cell ∨ X.env.scope.names.lookup y.1 = some .free) (hd : params.defaults = [.Constant (.int d) j dp]) (hk : params.kw_defaults = []) :
    PE X (.Lambda params body scope pos) (tLamD T d fun t c' => ⟨X.env.qual ++ "<lambda>", params, body, scope, cloFrom X.env.cells scope.names [], .ref t, c'⟩) := by
  refine ⟨fun pins s σ H Q I h => ?_⟩
  obtain ⟨hT, h⟩ := h
  have hfree : ∀ y ∈ scope.names, y.2 = .free → ∃ c, X.env.cells.lookup y.1 = some c := fun y hy e => (hF y hy e).elim (fun z => I.ok.has _ (.inl z)) fun z => I.ok.has _ (.inr z)
  refine PySem.W.kdv_lam (by rw [hd]; rfl) hk ?_
  rw [hd]
  refine PySem.W.kdv_all1 (thn ((pe_int (X := X) (i := d) (j := j) (pos := dp)).run pins s σ H (fun v H1 => v = .int d ∧ H1 = H) I ⟨rfl, rfl⟩) fun u s1 ⟨v, H1, I1, rv, e1, e2⟩ => PySem.W.kdv_all0 ?_)
  subst e1
  subst e2
  obtain ⟨tk, rfl⟩ := rv
  simp only [makeFunction_eq, List.isEmpty_nil, List.isEmpty_cons, List.filterMap_nil, List.zip_nil_right, pure_bind, if_true, Bool.false_eq_true, if_false]
  refine wpAny_bind (wpAny_newTextTuple ?_)
  have nt := I1.hok.fresh (Nat.le_refl _)
  have I2 : Inv X pins σ (upd H1 s1.heap.objs.size (.tup [.int d])) { s1 with heap := s1.heap.push { cls := .type "tuple", data := .seq [Value.int d tk].toArray } } :=
    I1.laid (t' := s1.toks) (fun b u e => Heap.get?_push_of_some _ e) (Nat.le_refl _) ⟨by show 1 ≤ sizeLine; decide, [.int d tk], .cons ⟨_, rfl⟩ .nil, ⟨_, Heap.get?_push_size _ rfl, rfl, _, rfl⟩⟩
  have kp : ∀ {b o}, H1 b = some o → (upd H1 s1.heap.objs.size (.tup [.int d])) b = some o := fun e => (upd_ne (ne_of_none e nt)).trans e
  refine lam_tail I2 TB hcode hm hu (hT.ext fun b o e => kp e) hfree fun f c' H3 s' I3 x1 t1 hf e1 e2 => ⟨.ref f, H3, I3, rfl, h f c' s1.heap.objs.size H3 (fun b o e n => x1 b o (kp e) n) t1 ?_ (x1 _ _ upd_same (by intro ps z; cases z)) e1 e2⟩
  unfold upd at hf
  split at hf
  · cases hf
  · exact hf
end
end Rl
/-! A kept lambda is called, in a def that the maker calls. -/
namespace Rl
open PySem PySem.Spec PyProof.Rows L2 LamX
/-- its names: captured ones, globals, parameters that the maker's slots don't name -/
structure LamP (N : List Str) (sc scope : Scope) : Prop where
  kind : scope.kind = .function
  co : scope.isCoroutine = false
  gen : scope.isGenerator = false
  nocell : ∀ y ∈ scope.names, y.2 ≠ .cell
  own : ∀ y ∈ scope.names, y.2 = .local → y.1 ∉ N
  free : ∀ y ∈ scope.names, y.2 = .free → sc.names.lookup y.1 = some .cell ∨ sc.names.lookup y.1 = some .free
def lamPB (N : List Str) (sc scope : Scope) : Bool :=
  decide (scope.kind = .function) && !scope.isCoroutine && !scope.isGenerator && scope.names.all fun y => !decide (y.2 = .cell) && (!decide (y.2 = .local) || !decide (y.1 ∈ N)) && (!decide (y.2 = .free) || (decide (sc.names.lookup y.1 = some .cell) || decide (sc.names.lookup y.1 = some .free)))
theorem lamP_by {N : List Str} {sc scope : Scope} (h : lamPB N sc scope = true) : LamP N sc scope := by
  unfold lamPB at h
  simp only [Bool.and_eq_true, List.all_eq_true, Bool.not_eq_true', Bool.or_eq_true, decide_eq_false_iff_not, decide_eq_true_eq] at h
  obtain ⟨⟨⟨k1, k2⟩, k3⟩, k4⟩ := h
  refine ⟨k1, k2, k3, fun y hy => (k4 y hy).1.1, fun y hy e => ?_, fun y hy e => ?_⟩
  · rcases (k4 y hy).1.2 with z | z
    · exact absurd e z
    · exact z
  · rcases (k4 y hy).2 with z | z
    · exact absurd e z
    · exact z
section
variable {X : Cx} {pins : List (Addr × Obj)} {σ : L2.St} {H HZ : Hp} {s s1 : Shared}
theorem LamP.has {scope : Scope} (L : LamP X.N X.env.scope scope) (ok : X.Ok) : ∀ y ∈ scope.names, y.2 = .free → ∃ c, X.env.cells.lookup y.1 = some c := fun y hy e => (L.free y hy e).elim (fun z => ok.has _ (.inl z)) fun z => ok.has _ (.inr z)
theorem lam_enter {ex : List Addr} {A : Around} {outer : List Env} {E : XK} {scope : Scope} {f c' : Addr} {g : Heap} {tk : Nat} {m1 : Str → Option Value} (I : Inv X pins σ H s) (L : LamP X.N X.env.scope scope) (e0 : Env0 X.prog X.w X.K X.mg X.base A outer s1 HZ) (hd : A.handled = none) (hex : ∀ y d, X.env.cells.lookup y = some d → d ∉ ex)
    (un : Un (frs X.stack) ex H HZ s.heap s1.heap) (hns : g.Ns s1.heap.objs.size m1) (kp : ∀ b o, s1.heap.get? b = some o → g.get? b = some o) :
    Inv (lamCx X A outer s1 HZ E scope f c') [] σ HZ { s1 with heap := g, toks := tk } := by
  have hfree := L.has I.ok
  have back : ∀ {y d}, (cloFrom X.env.cells scope.names []).lookup y = some d → X.env.cells.lookup y = some d := fun {y d} e => NdefX.clo_cm hfree e
  have there : ∀ {y}, scope.names.lookup y = some .free → ∃ d, (cloFrom X.env.cells scope.names []).lookup y = some d := fun {y} hl => mem_lookup (cloFrom_has (cells := X.env.cells) (acc := []) (PySem.mem_of_lookup hl))
  have cellK : ∀ {d : Addr} {v : Option Value}, H d = none → d ∉ ex → s.heap.IsCell d v → g.IsCell d v := fun {d v} n nx z => by
    obtain ⟨o, ho, hv⟩ := z
    obtain ⟨sl, q⟩ := un.any ho n nx
    exact ⟨_, kp _ _ q, hv⟩
  have none1 : ∀ b : Addr, b ∉ (lamCx X A outer s1 HZ E scope f c').ex := fun b z => absurd (show b ∈ ([] : List Addr) from z) (by simp)
  refine ⟨⟨e0.mod, L.kind, rfl, rfl, Nat.le_refl _, fun y z d e1 e2 => I.ok.inj y z d (back e1) (back e2), fun y hy => ?_, fun y d z _ => ?_, fun _ => hd, Around.frames_deeper e0.frames, .inr ⟨rfl, rfl⟩, fun b z => absurd z (none1 b), e0.bs, e0.bsz, fun b _ _ => none1 b, fun b z => absurd z (none1 b), e0.funs, e0.frf⟩,
    rfl, e0.bare, Un.kept kp, ⟨_, hns, fun i y v e1 e2 e3 => ?_⟩, fun y d e => ?_, e0.hok.fresh (Nat.le_refl _), fun y d e => ?_, fun q hq => absurd (show q ∈ ([] : List (Addr × Obj)) ++ [] from hq) (by simp), e0.hok.kept kp, I.len⟩
  · have hy : scope.names.lookup y = some .cell ∨ scope.names.lookup y = some .free := hy
    rcases hy with hy | hy
    · exact absurd rfl (L.nocell _ (PySem.mem_of_lookup hy))
    · exact there hy
  · have z : false = true := z
    cases z
  · have e3 : Vis scope y := e3
    have e1 : X.N[i]? = some y := e1
    rcases e3 with k | k | k
    · exact absurd (List.mem_of_getElem? e1) (L.own _ (PySem.mem_of_lookup k) rfl)
    · exact absurd rfl (L.nocell _ (PySem.mem_of_lookup k))
    · obtain ⟨m, hn, hl⟩ := I.loc
      have vis : Vis X.env.scope y := (L.free _ (PySem.mem_of_lookup k) rfl).elim (fun z => .inr (.inl z)) fun z => .inr (.inr z)
      obtain ⟨w', r, q⟩ := hl i y v e1 e2 vis
      obtain ⟨d, h2⟩ := there k
      refine ⟨w', r, .inr ⟨.inr k, d, h2, ?_⟩⟩
      have h3 := back h2
      rcases q with ⟨k', _⟩ | ⟨_, d3, e', z⟩
      · have k' : X.env.scope.names.lookup y = some .local := k'
        rcases L.free _ (PySem.mem_of_lookup k) rfl with k2 | k2
        · rw [show X.env.scope.names.lookup y = _ from k2] at k'
          cases k'
        · rw [show X.env.scope.names.lookup y = _ from k2] at k'
          cases k'
      · rw [h3] at e'
        cases e'
        exact cellK (I.freeC y _ h3) (hex y _ h3) z
  · obtain ⟨w', z⟩ := I.cell y d (back e)
    exact ⟨w', cellK (I.freeC y d (back e)) (hex y d (back e)) z⟩
  · obtain ⟨v, o, ho, hv⟩ := I.cell y d (back e)
    exact un.free d o ho (I.freeC y d (back e)) (hex y d (back e))
/-- a(), in the def that the maker calls and that got the lambda -/
theorem un_more {fs ex : List Addr} {H H' : Hp} {h h' : Heap} (u : Un fs [] H H' h h') : Un fs ex H H' h h' :=
  ⟨fun b o e n k _ => u.keep b o e n k (by simp), fun b o e n k _ => u.slot b o e n k (by simp), fun b o e n _ => u.free b o e n (by simp), fun b o e _ => u.there b o e (by simp), u.tups, u.frzs, u.tbls⟩
theorem pe_actVB {ex : List Addr} {sC : Shared} {HC : Hp} {CXg : CXT} {Eg : XK} {Ng : List Str} {qg : Str} {sg : Scope} {g f : Addr} {cdg : Value} {k i : Nat} {a : Str} {pn : List (Addr × Obj)} {xe : Value → Shared → Prop} {W : WX} {E : L2.St → XK} {tb : XK → TE} {p1 p2 : Pos} {F : LF} {G : Hp → Prop}
    (I : Inv X pins σ H s) (hex : ∀ y d, X.env.cells.lookup y = some d → d ∉ ex) (unB : Un (frs X.stack) ex H HC s.heap sC.heap) (L : LamP X.N X.env.scope F.scope) (hcl : F.cl = cloFrom X.env.cells F.scope.names []) (hq : F.q = X.env.qual ++ "<lambda>")
    (hbind : ∀ (doc pm ctv : Value) (sZ : Shared) (HZ : Hp), HOk X.prog X.w HZ sZ.heap → G HZ → ∃ binds, BindsTo sZ (PySem.W.kdv_fn "<lambda>" F.q F.params (.expr F.body) F.scope F.cl F.dV doc pm (.ref F.c) ctv) ⟨[], []⟩ binds ∧ ∀ y ∈ binds, F.scope.names.lookup y.1 = some .local)
    (tk : Takes ((cxOf CXg X.prog X.w X.K X.mg X.base Ng qg sg g cdg X.A X.stack sC HC Eg).tr pn xe) W) (hW : ∀ cls d σ' H', E σ' cls d H' → W cls d σ' H') (hr : Room (k + 1) (X.A.deeper (envOfC qg sg sC.heap.objs.size g cdg)))
    (hbody : ∀ (E' : XK) (A : Around) (outer : List Env) (s : Shared) (H : Hp), Room k (A.deeper (lamEnv X F.scope s.heap.objs.size f F.c)) → PE (lamCx X A outer s H E' F.scope f F.c) F.body (tb E'))
    (hN : Ng[i]? = some a) (hv : Vis sg a) (hd : (a == ("__debug__" : Str)) = false := by decide) (hcd : (a == ("__classdict__" : Str)) = false := by decide) :
    PE ((cxOf CXg X.prog X.w X.K X.mg X.base Ng qg sg g cdg X.A X.stack sC HC Eg).tr pn xe) (.Call (.Name a p1) [] [] p2)
      (fun σZ HZ Q => σZ[i]? = some (some (.ref f)) ∧ HZ f = some (LamO f F) ∧ HZ F.c = some (CodeO F.c F.q) ∧ G HZ ∧ tb (E σZ) σ HZ Q) := by
  refine ⟨fun pinsZ sZ σZ HZ Q IZ h => ?_⟩
  obtain ⟨hs, hf, hc, hg, ht⟩ := h
  refine wpAny_Call_Name_kw (thn ((pe_var (pos := p1) (i := i) hN hv hd hcd).run pinsZ sZ σZ HZ (fun v H1 => v = .ref f ∧ H1 = HZ) IZ ⟨.ref f, hs, rfl, rfl⟩) fun u s2 ⟨v, H2, I2, rv, e1, e2⟩ => ?_)
  subst e1
  rw [e2] at I2
  obtain rfl : u = Value.ref f := rv
  obtain ⟨⟨doc, pm, ctv, of1⟩, _, _⟩ := I2.hok f _ hf
  obtain ⟨⟨oc, vs, t, c1, c2, c3⟩, _, _⟩ := I2.hok F.c _ hc
  refine PySem.W.callWith_F0 ⟨_, _, _, _, of1⟩ ?_
  have un : Un (frs X.stack) ex H HZ s.heap s2.heap := unB.trans (un_more I2.base)
  obtain ⟨binds, hbi, hloc⟩ := hbind doc pm ctv s2 HZ I2.hok hg
  have rc : codeAny (model X.prog X.w) (X.A.deeper (envOfC qg sg sC.heap.objs.size g cdg)) (.call (.ref f) ⟨[], []⟩) (CR (L2.CX X.prog X.w) (envOfC qg sg sC.heap.objs.size g cdg :: X.stack) X.prog X.w HZ s2 Q (E σZ)) s2 := by
    refine PySem.W.kla_callFunE hr.depth of1 rfl L.co L.gen rfl ⟨F.c, oc, vs, t, rfl, c1, c2, c3⟩ (hbi _ _ _ _ ?_)
    refine wpAny_newFunctionEnv L.nocell hloc (fun h1 hns hsb => ⟨I2.nolimit.fresh _ hsb, ?_⟩) L.kind
    have ee : PySem.W.envX F.q F.scope s2.heap.objs.size f (.ref F.c) F.cl = lamEnv X F.scope s2.heap.objs.size f F.c := by rw [hq, hcl]
    show codeAny _ _ (.expr F.body (PySem.W.envX F.q F.scope s2.heap.objs.size f (.ref F.c) F.cl)) _ _
    rw [ee]
    have kp : ∀ b o, s2.heap.get? b = some o → h1.get? b = some o := fun b o e => hsb.extBut b o (Nat.ne_of_lt (Heap.lt_size e)) (Heap.get?_push_of_some _ e)
    have J := lam_enter (E := E σZ) (scope := F.scope) (f := f) (c' := F.c) (tk := s2.toks + binds.length) I L I2.env0 hr.hd hex un hns kp
    refine PySem.W.kla_codeExpr (wpAny_mono ((hbody (E σZ) _ _ s2 HZ (hr.deeper _)).run [] _ _ HZ Q J ht) (fun v s' hh => ?_) fun e s' hh => hh)
    obtain ⟨w', H', J', r', q'⟩ := hh
    exact ⟨w', H', J'.os, J'.bare, J'.base, J'.hok, r', q'⟩
  refine wpAny_call (codeAny_mono rc fun r s' hh => ?_)
  cases r with
  | error e => exact tk e s' (XE.of_call I2 (fun cls d H' z => hW cls d σZ H' z) hh)
  | ok fl =>
    cases fl with
    | ret u => exact I2.after hh
    | next => exact hh.elim
    | brk => exact hh.elim
    | cont => exact hh.elim
/-- a(), in the def that the maker calls and that got the lambda -/
theorem pe_actV {CXg : CXT} {Eg : XK} {Ng : List Str} {qg : Str} {sg : Scope} {g f : Addr} {cdg : Value} {k i : Nat} {a : Str} {pn : List (Addr × Obj)} {xe : Value → Shared → Prop} {W : WX} {E : L2.St → XK} {tb : XK → TE} {p1 p2 : Pos} {F : LF} {G : Hp → Prop}
    (I : Inv X pins σ H s) (L : LamP X.N X.env.scope F.scope) (hcl : F.cl = cloFrom X.env.cells F.scope.names []) (hq : F.q = X.env.qual ++ "<lambda>")
    (hbind : ∀ (doc pm ctv : Value) (sZ : Shared) (HZ : Hp), HOk X.prog X.w HZ sZ.heap → G HZ → ∃ binds, BindsTo sZ (PySem.W.kdv_fn "<lambda>" F.q F.params (.expr F.body) F.scope F.cl F.dV doc pm (.ref F.c) ctv) ⟨[], []⟩ binds ∧ ∀ y ∈ binds, F.scope.names.lookup y.1 = some .local)
    (tk : Takes ((cxOf CXg X.prog X.w X.K X.mg X.base Ng qg sg g cdg X.A X.stack s H Eg).tr pn xe) W) (hW : ∀ cls d σ' H', E σ' cls d H' → W cls d σ' H') (hr : Room (k + 1) (X.A.deeper (envOfC qg sg s.heap.objs.size g cdg)))
    (hbody : ∀ (E' : XK) (A : Around) (outer : List Env) (s : Shared) (H : Hp), Room k (A.deeper (lamEnv X F.scope s.heap.objs.size f F.c)) → PE (lamCx X A outer s H E' F.scope f F.c) F.body (tb E'))
    (hN : Ng[i]? = some a) (hv : Vis sg a) (hd : (a == ("__debug__" : Str)) = false := by decide) (hcd : (a == ("__classdict__" : Str)) = false := by decide) :
    PE ((cxOf CXg X.prog X.w X.K X.mg X.base Ng qg sg g cdg X.A X.stack s H Eg).tr pn xe) (.Call (.Name a p1) [] [] p2)
      (fun σZ HZ Q => σZ[i]? = some (some (.ref f)) ∧ HZ f = some (LamO f F) ∧ HZ F.c = some (CodeO F.c F.q) ∧ G HZ ∧ tb (E σZ) σ HZ Q) :=
  pe_actVB (ex := []) I (fun _ _ _ => by simp) Un.refl L hcl hq hbind tk hW hr hbody hN hv hd hcd
end
end Rl
/-! x(e), e a kept lambda, x a def that calls what it gets. -/
namespace Rl
open PySem PySem.Spec PyProof.Rows L2 LamX
/-- the def that calls what it got: a calls it; R: what must be true of the abstract heap at the call; TT: what the def makes of the lambda's reading -/
def GivesV (X : Cx) (Ng : List Str) (x : Str) (sg : Scope) (g : Addr) (cdg : Value) (bg : List Stmt) (a : Str) (TT : (XK → Hp → VK → Prop) → Hp → VK → Prop) : Prop :=
  ∀ (f : Addr) (R : Hp → Prop) (s : Shared) (H : Hp) (Q : VK) (tl : XK → Hp → VK → Prop),
    (∀ (W : WX) (pn : List (Addr × Obj)) (xe : Value → Shared → Prop) (p1 p2 : Pos), Takes ((cxOf C8.CX0 X.prog X.w X.K X.mg X.base Ng x sg g cdg X.A X.stack s H C8.E0).tr pn xe) W →
      PE ((cxOf C8.CX0 X.prog X.w X.K X.mg X.base Ng x sg g cdg X.A X.stack s H C8.E0).tr pn xe) (.Call (.Name a p1) [] [] p2) (fun σZ HZ Q => σZ[0]? = some (some (.ref f)) ∧ R HZ ∧ tl (fun cls d H' => W cls d σZ H') HZ Q)) →
    R H → TT tl H Q →
    ∃ t, PSs (cxOf C8.CX0 X.prog X.w X.K X.mg X.base Ng x sg g cdg X.A X.stack s H C8.E0).nox bg t ∧ t { nx := fun _ H' => Q .non H', rt := Q } (L2.start Ng [.ref f]) H
/-- one of a family of lambdas, all made where X stands -/
structure Fam (X : Cx) (ι : Type) (F : ι → LF) (G : ι → Hp → Prop) : Prop where
  nm : ∀ i, LamP X.N X.env.scope (F i).scope
  cl : ∀ i, (F i).cl = cloFrom X.env.cells (F i).scope.names []
  q : ∀ i, (F i).q = X.env.qual ++ "<lambda>"
  bind : ∀ i (doc pm ctv : Value) (sZ : Shared) (HZ : Hp), HOk X.prog X.w HZ sZ.heap → G i HZ → ∃ binds, BindsTo sZ (PySem.W.kdv_fn "<lambda>" (F i).q (F i).params (.expr (F i).body) (F i).scope (F i).cl (F i).dV doc pm (.ref (F i).c) ctv) ⟨[], []⟩ binds ∧ ∀ y ∈ binds, (F i).scope.names.lookup y.1 = some .local
def tLamC {ι : Type} (F : ι → LF) (G : ι → Hp → Prop) (TT : (XK → Hp → VK → Prop) → Hp → VK → Prop) (ta : TA) (t : ι → XK → TE) : TE := fun σ H Q => ta σ H fun vs H1 => ∃ (f : Addr) (i : ι), vs = [.ref f] ∧ H1 f = some (LamO f (F i)) ∧ H1 (F i).c = some (CodeO (F i).c (F i).q) ∧ G i H1 ∧ TT (fun E H' Q' => t i E σ H' Q') H1 Q
section
variable {X : Cx}
theorem pe_lamcallV {ι : Type} {F : ι → LF} {G : ι → Hp → Prop} {TT : (XK → Hp → VK → Prop) → Hp → VK → Prop} {x a : Str} {g : Addr} {k : Nat} {pg : Arguments} {bg : List Stmt} {sg : Scope} {dV kV doc pm cdv ct oc : Value} {an od : Option Addr} {osl : Array (Option Value)} {Ng : List Str}
    {e : Expr} {ta : TA} {t : ι → XK → TE} {p pos : Pos} (hg : Gl X x) (hm : X.mg x = some (.ref g)) (hk : PySem.W.keepIn X.K (.ref g) = true)
    (lk : X.K.lookup g = some ⟨oc, od, .func (PySem.W.fnOf x x pg bg sg dV kV doc pm an cdv ct), osl⟩) (hcg : PySem.W.codeIn X.K cdv x = true) (hb : L2.Binds X.K (PySem.W.fnOf x x pg bg sg dV kV doc pm an cdv ct) [a] []) (Sg : FnScope Ng [a] sg) (hNg : Ng[0]? = some a) (hva : Vis sg a)
    (hG : GivesV X Ng x sg g cdv bg a TT) (fam : Fam X ι F G) (ha : PA X [e] ta) (hr : Room (k + 2) X.A)
    (hbody : ∀ (i : ι) (A : Around) (outer : List Env) (s : Shared) (H : Hp) (E : XK) (f : Addr), Room k (A.deeper (lamEnv X (F i).scope s.heap.objs.size f (F i).c)) → PE (lamCx X A outer s H E (F i).scope f (F i).c) (F i).body (t i E))
    (hst : starEach [e] X.env = (false, eval e X.env) :: starEach [] X.env := by rfl) (hpl : (backTo pos (starEach ([] : List Expr) X.env)).any (·.1) = false := by rfl)
    (hdb : (x == ("__debug__" : Str)) = false := by decide) (hd : (a == ("__debug__" : Str)) = false := by decide) (hcd : (a == ("__classdict__" : Str)) = false := by decide) :
    PE X (.Call (.Name x p) [e] [] pos) (tLamC F G TT ta t) := by
  refine ⟨fun pins s σ H Q I h => ?_⟩
  refine wpAny_Call_Name_kw (ld_glob I hg hm ?_ hdb)
  refine PySem.W.callWith_K (h₀ := X.base) I.ok.mod.kin hk (thn (ha.run pos pins s σ H _ I h) fun us s1 ⟨vs, H1, I1, r, q⟩ => ⟨I1.kIn, ?_⟩) hst hpl
  obtain ⟨f, i, rfl, e1, e2, e3, q⟩ := q
  rw [Vals.ref1 r]
  have rc : codeAny (model X.prog X.w) X.A (.call (.ref g) ⟨[.ref f], []⟩) (CR C8.CX0 X.stack X.prog X.w H1 s1 Q C8.E0) s1 := by
    refine run_ofS (N := Ng) (ps := [a]) (us := [.ref f]) (vs := [.ref f]) lk hcg Sg hr I1.env0 (hb s1 [.ref f] I1.kIn rfl) (.cons rfl .nil) rfl fun hr2 => ?_
    have go := hG f (fun HZ => HZ f = some (LamO f (F i)) ∧ HZ (F i).c = some (CodeO (F i).c (F i).q) ∧ G i HZ) s1 H1 Q (fun E H' Q' => t i E σ H' Q') (fun W pn xe p1 p2 tk => by
      have act := pe_actV (i := 0) (p1 := p1) (p2 := p2) (E := fun σ' cls d H' => W cls d σ' H') (tb := t i) I1 (fam.nm i) (fam.cl i) (fam.q i) (fam.bind i) tk (fun _ _ _ _ z => z) hr2 (fun E' A outer s H hr3 => hbody i A outer s H E' f hr3) hNg hva hd hcd
      exact ⟨fun pins2 s2 σ2 H2 Q2 I2 ⟨a1, ⟨a2, a3, a4⟩, a5⟩ => act.run pins2 s2 σ2 H2 Q2 I2 ⟨a1, a2, a3, a4, a5⟩⟩) ⟨e1, e2, e3⟩ q
    obtain ⟨t', ht', hq'⟩ := go
    exact ⟨t', ht'.nox, hq'⟩
  refine wpAny_call (codeAny_mono rc fun r s2 hh => ?_)
  cases r with
  | error e => exact (show False from hh).elim
  | ok fl =>
    cases fl with
    | ret u => exact I1.after hh
    | next => exact hh.elim
    | brk => exact hh.elim
    | cont => exact hh.elim
end
end Rl
/-! A comprehension whose element may use what the def's slots held when the block began: kept lambdas are called in it. -/
namespace Rl
open PySem PySem.Spec PyProof.Rows L2 LamX
section
variable {X : Cx}
/-- the block of a comprehension that begins at z -/
abbrev bCx (X : Cx) (z : Shared) (Z : Hp) (sc : Scope) (L : Addr) (cl : List (Str × Addr)) (fp : List Addr) : Cx := X.blk z Z sc (compEnvC sc cl L X.env) fp
/-- the element is read in a block that began where the def's slots are τ -/
def ElB (X : Cx) (τ : L2.St) (sc : Scope) (e : Expr) (te : TE) : Prop :=
  ∀ (pins : List (Addr × Obj)) (z : Shared) (Z : Hp) (L : Addr) (cl : List (Str × Addr)) (fp : List Addr), Inv X pins τ Z z → (∀ b ∈ fp, FpOk X pins Z b) → PE (bCx X z Z sc L cl fp) e te
theorem lcB_loop {pins : List (Addr × Obj)} {τ : L2.St} {Q : VK} {e tg it0 : Expr} {sc : Scope} {own : List (Str × Nat)} {pos : Pos} {g : TG} {te : TE} {R : Result → Shared → Prop} {it D L : Addr} {cl : List (Str × Addr)} {fp : List Addr} {tn : Nat → Heap → Prop} {J : It} {z zs : Shared} {Z : Hp}
    (hc : X.calm = true) (T : Turn X.prog X.w X.K tg J fp it tn) (IZ : Inv X pins τ Z z) (fZ : ∀ b ∈ fp, FpOk X pins Z b) (hL : (compEnvC sc cl L X.env).locals = L) (hLz : z.heap.objs.size ≤ L)
    (pg : PG (bCx X z Z sc L cl fp) tg g) (pe : PE (bCx X z Z sc L cl fp) e te)
    (IS : Inv (bCx X z Z sc L cl fp) [] (wipe τ (own.map (·.2))) Z zs) (tS : tn 0 zs.heap)
    {W : Nat → Nat → Hp → Prop} {m₀ : Nat} (w₀ : W 0 m₀ Z)
    (turn : ∀ i m H, W i m H → (J.stop i H ∧ Q (.ref D) H) ∨ (J.go i H ∧ ∃ Nx : Hp → Prop, (∀ H', Nx H' → ∃ m', m' < m ∧ W (i + 1) m' H') ∧ ∀ x H', J.yld i H x H' → g x (wipe τ (own.map (·.2))) H' fun σ2 H2 => wipe σ2 (own.map (·.2)) = wipe τ (own.map (·.2)) ∧ tYes σ2 H2 fun b H3 =>
      if b = true then te σ2 H3 fun y H4 => ∃ acc, H4 D = some (.lst acc) ∧ acc.length < sizeLine ∧ Nx (upd H4 D (.lst (acc ++ [y]))) else Nx H3))
    (fin : ∀ s' m H', Inv X pins τ H' s' → Q (.ref D) H' → s'.heap.Ns L m → FpOk X pins H' L → R (.ok .next) s') :
    codeAny (model X.prog X.w) X.A (.compLoop (.ListComp e [⟨tg, it0, [], 0⟩] sc pos) 0 (.ref it) (.ref D) (compEnvC sc cl L X.env)) R zs := by
  have ofB : ∀ {σ' : L2.St} {H' : Hp} {s' : Shared}, Inv (bCx X z Z sc L cl fp) [] σ' H' s' → (∀ b ∈ fp, H' b = none) → ∀ b ∈ fp, FpOk (bCx X z Z sc L cl fp) [] H' b := fun {σ' H' s'} J0 nn b hb =>
    ⟨nn b hb, (J0.ok.exf b hb).1, J0.ok.exfs b hb, .inl hb, fun y d k => (J0.ok.exf b hb).2 y d k, fun p hp => by
      have hp : p ∈ ([] : List (Addr × Obj)) ++ [] := hp
      simp at hp⟩
  refine compLoop_any (fun m s' => ∃ i H', Inv (bCx X z Z sc L cl fp) [] (wipe τ (own.map (·.2))) H' s' ∧ tn i s'.heap ∧ (∀ b ∈ fp, H' b = none) ∧ W i m H') ?_ m₀ ⟨0, Z, IS, tS, fun b hb => (fZ b hb).1, w₀⟩
  intro m s1 ⟨i, H1, I1, t1, n1, w1⟩
  cases turn i m H1 w1 with
  | inl hs =>
    refine thnF (T.done (bCx X z Z sc L cl fp) rfl rfl rfl hc i [] s1 _ H1 (fun _ _ => False) I1 (ofB I1 n1) t1 hs.1) fun r s2 hr => ?_
    rw [hr.1]
    have IX : Inv X pins τ H1 s2 := IZ.call' (ch := fp) hr.2.os hr.2.base hr.2.hok hr.2.bare fun b hb => by
      obtain ⟨_, q1, _, q3, q4, q5⟩ := fZ b hb
      exact ⟨q3, q1, q4, q5⟩
    have nL : H1 L = none := by
      have q := hr.2.free
      rw [show (bCx X z Z sc L cl fp).env.locals = L from hL] at q
      exact q
    obtain ⟨mm, hmm, _⟩ := hr.2.loc
    rw [show (bCx X z Z sc L cl fp).env.locals = L from hL] at hmm
    exact fin s2 mm H1 IX hs.2 hmm (IZ.fpOk hLz nL)
  | inr hg =>
    obtain ⟨hgo, Nx, hNx, hstep⟩ := hg
    refine thnF (T.item (bCx X z Z sc L cl fp) rfl rfl rfl hc i [] s1 _ H1 (fun _ _ => False) I1 (ofB I1 n1) t1 hgo) fun r s2 ⟨u, hr, q2⟩ => ?_
    rw [hr]
    refine thnF q2 fun _ s3 ⟨x, H3, I3, r3, y3, t3, n3⟩ => ?_
    refine thnF (pg.run _ s3 _ H3 x u _ (I3.pinned (ofB I3 n3) (T.obj _ _ t3)) r3 (hstep x H3 y3)) fun _ s4 ⟨σ4, H4, I4, hw, q4⟩ => ?_
    refine thnF ((pts_nil (X := bCx X z Z sc L cl fp)).run _ s4 σ4 H4 _ I4 q4) fun b s5 ⟨H5, I5, q5⟩ => ?_
    have back : ∀ {s' : Shared} {H' : Hp}, Inv (bCx X z Z sc L cl fp) ([] ++ pinsAt fp s3.heap) σ4 H' s' → Nx H' → ∃ k, k < m ∧ ∃ i H', Inv (bCx X z Z sc L cl fp) [] (wipe τ (own.map (·.2))) H' s' ∧ tn i s'.heap ∧ (∀ b ∈ fp, H' b = none) ∧ W i k H' := fun {s' H'} JJ nx => by
      obtain ⟨k, hk, wk⟩ := hNx H' nx
      have pn : ∀ b ∈ fp, ∀ o, s3.heap.get? b = some o → s'.heap.get? b = some o ∧ H' b = none := fun b hb o ho => by
        obtain ⟨p1, p2, _⟩ := JJ.pin (b, o) (List.mem_append_right _ (List.mem_append_right _ (mem_pinsAt hb ho)))
        exact ⟨p1, p2⟩
      refine ⟨k, hk, i + 1, H', (JJ.unpinned (pins := [])).weak (by rw [← hw, wipe_length]) (fun j v hj => ?_), T.keep _ _ _ t3 fun b hb o ho => (pn b hb o ho).1, fun b hb => ?_, wk⟩
      · rw [← hw] at hj
        exact (wipe_some hj).1
      · obtain ⟨o, ho, _⟩ := T.obj _ _ t3 b hb
        exact (pn b hb o ho).2
    cases b with
    | false =>
      rw [if_neg Bool.false_ne_true] at q5
      rw [if_neg Bool.false_ne_true]
      exact back I5 q5
    | true =>
      rw [if_pos rfl] at q5
      rw [if_pos rfl]
      refine thnF (pe.run _ s5 σ4 H5 _ I5 q5) fun v s6 ⟨y, H6, I6, r6, acc, hD, hz, nx⟩ => ?_
      exact app_ok (X := bCx X z Z sc L cl fp) I6 hD hz r6 fun s7 I7 => back I7 nx
theorem lcB_core {pins : List (Addr × Obj)} {s : Shared} {τ : L2.St} {H : Hp} {Q : VK} {e tg iter : Expr} {sc : Scope} {own : List (Str × Nat)} {pos pos' : Pos} {wi : TI} {g : TG} {te : TE} {use : Option (Value → Sem Unit)} {Qf : Value → Shared → Prop}
    (hc : X.calm = true) (hN : X.N.Nodup) (I : Inv X pins τ H s) (hi : PI X tg iter wi) (ok : BlkOk X.N X.env.scope sc own)
    (hg : ∀ (z : Shared) (Z : Hp) (L : Addr) (cl : List (Str × Addr)) (fp : List Addr), PG (bCx X z Z sc L cl fp) tg g) (he : ElB X τ sc e te) (hs : ∀ x, foldedSetIterable iter X.env x = pure x)
    (h : tLc wi g tYes te (own.map (·.2)) τ H Q)
    (hR : ∀ D L s' m H', Inv X pins τ H' s' → Q (.ref D) H' → s'.heap.Ns L m → FpOk X pins H' L → compPost (model X.prog X.w) X.A X.xe use Qf (.ref D) L (.ok .next) s') :
    wpAny (model X.prog X.w) X.A (comprehension (.ListComp e [⟨tg, iter, [], 0⟩] sc pos) sc X.env pos' (newList []) false (eval iter X.env) use) Qf X.xe s := by
  have hf : ∀ y ∈ sc.names, y.2 = .free → ∃ d, X.env.cells.lookup y.1 = some d := fun y hy k => (ok.free y hy k).elim (fun q => I.ok.has _ (.inl q)) fun q => I.ok.has _ (.inr q)
  refine wpAny_comprehension_free (use := use) rfl hs (closure_ok hf) ok.kind (fun y hy k => by rw [ok.uniq y hy, k]) ?_
  refine thn (hi.run pins s τ H _ I h) fun _ s1 h1 => thn h1 fun itv s2 h2 => ?_
  obtain ⟨it, fp, tn, J, H2, rfl, I2, T, t2, f2, q⟩ := h2
  refine wpAny_newObj_type (newEnv_comp ?_) (by show 0 ≤ sizeLine; decide)
  have nD : H2 s2.heap.objs.size = none := I2.hok.fresh (Nat.le_refl _)
  obtain ⟨W, ⟨m₀, w₀⟩, turn⟩ := q _ nD
  obtain ⟨D, eD⟩ : ∃ D, D = s2.heap.objs.size := ⟨_, rfl⟩
  have push : ∀ b o, s2.heap.get? b = some o → (s2.heap.push { cls := .type "list", data := .seq ([] : List Value).toArray }).get? b = some o := fun b o k => Heap.get?_push_of_some _ k
  have I3 : Inv X pins τ (upd H2 s2.heap.objs.size (.lst [])) { s2 with heap := s2.heap.push { cls := .type "list", data := .seq ([] : List Value).toArray } } :=
    I2.laid (t' := s2.toks) push (Nat.le_refl _) ⟨Nat.zero_le _, [], 0, .nil, Heap.get?_push_size _ rfl⟩
  have f3 : ∀ b ∈ fp, FpOk X pins (upd H2 s2.heap.objs.size (.lst [])) b ∧ b < (s2.heap.push { cls := .type "list", data := .seq ([] : List Value).toArray }).objs.size := fun b hb => by
    obtain ⟨o, ho, _⟩ := T.obj _ _ t2 b hb
    have lt := Heap.lt_size ho
    refine ⟨⟨?_, (f2 b hb).2⟩, ?_⟩
    · rw [upd_ne (Nat.ne_of_lt lt)]
      exact (f2 b hb).1
    · rw [Heap.size_push]
      exact Nat.lt_succ_of_lt lt
  have IS := block_start I3 ok hN f3
  have t3 := T.keep _ _ (pushCells ((s2.heap.push { cls := .type "list", data := .seq ([] : List Value).toArray }).push { cls := .type "dict", data := .dict #[] }) sc.names) t2 fun b _ o ho => pushCells_keeps _ _ _ _ (Heap.get?_push_of_some _ (push b o ho))
  have go := lcB_loop (own := own) (e := e) (it0 := iter) (pos := pos) (Q := Q) (D := s2.heap.objs.size) (R := compPost (model X.prog X.w) X.A X.xe use Qf (.ref s2.heap.objs.size) (s2.heap.push { cls := .type "list", data := .seq ([] : List Value).toArray }).objs.size) hc T I3 (fun b hb => (f3 b hb).1) rfl (Nat.le_refl _) (hg _ _ _ _ _) (he pins _ _ _ _ _ I3 fun b hb => (f3 b hb).1) IS t3 w₀ turn
    (fun s' m H' I' q' hm hl => hR _ _ s' m H' I' q' hm hl)
  exact codeAny_compStart_list go (T.self X.A 0 _ _ _ t3 go)
/-- as a value -/
theorem pe_lcB {e tg iter : Expr} {sc : Scope} {own : List (Str × Nat)} {pos : Pos} {wi : TI} {g : TG} {te : L2.St → TE} (hc : X.calm = true) (hN : X.N.Nodup) (hi : PI X tg iter wi) (ok : BlkOk X.N X.env.scope sc own)
    (hg : ∀ (z : Shared) (Z : Hp) (L : Addr) (cl : List (Str × Addr)) (fp : List Addr), PG (bCx X z Z sc L cl fp) tg g) (he : ∀ τ, ElB X τ sc e (te τ)) (hs : ∀ x, foldedSetIterable iter X.env x = pure x := by intro _; rfl) :
    PE X (.ListComp e [⟨tg, iter, [], 0⟩] sc pos) (fun σ H Q => tLc wi g tYes (te σ) (own.map (·.2)) σ H Q) := by
  refine ⟨fun pins s σ H Q I h => ?_⟩
  rw [eval_ListComp]
  refine lcB_core hc hN I hi ok hg (he σ) hs h fun D L s' m H' I' q hn f => ⟨m, hn, fun h'' sb => ?_⟩
  obtain ⟨f0, f1, _, f3, f4, f5⟩ := f
  exact ⟨.ref D, H', I'.turned (t' := s'.toks) (fun b o hb k => (sb.2 b hb).trans k) f0 f1 f3 f4 f5, rfl, q⟩
end
end Rl
/-! Kept lambdas are called in a comprehension's block: x(e) with x a def that calls what it gets, and a(). -/
namespace Rl
open PySem PySem.Spec PyProof.Rows L2 LamX
def tLamB {ι : Type} (F : ι → LF) (G : ι → Hp → Prop) (TT : (XK → Hp → VK → Prop) → Hp → VK → Prop) (ta : TA) (t : ι → XK → TE) (τ : L2.St) : TE := fun σ H Q => ta σ H fun vs H1 => ∃ (f : Addr) (i : ι), vs = [.ref f] ∧ H1 f = some (LamO f (F i)) ∧ H1 (F i).c = some (CodeO (F i).c (F i).q) ∧ G i H1 ∧ TT (fun E H' Q' => t i E τ H' Q') H1 Q
section
variable {X : Cx}
theorem el_lamB {ι : Type} {F : ι → LF} {G : ι → Hp → Prop} {TT : (XK → Hp → VK → Prop) → Hp → VK → Prop} {x a : Str} {g : Addr} {k : Nat} {pg : Arguments} {bg : List Stmt} {sg : Scope} {dV kV doc pm cdv ct oc : Value} {an od : Option Addr} {osl : Array (Option Value)} {Ng : List Str}
    {sc : Scope} {e : Expr} {ta : TA} {t : ι → XK → TE} {p pos : Pos} (hg : ∀ (z : Shared) (Z : Hp) (L : Addr) (cl : List (Str × Addr)) (fp : List Addr), Gl (bCx X z Z sc L cl fp) x) (hm : X.mg x = some (.ref g)) (hk : PySem.W.keepIn X.K (.ref g) = true)
    (lk : X.K.lookup g = some ⟨oc, od, .func (PySem.W.fnOf x x pg bg sg dV kV doc pm an cdv ct), osl⟩) (hcg : PySem.W.codeIn X.K cdv x = true) (hb : L2.Binds X.K (PySem.W.fnOf x x pg bg sg dV kV doc pm an cdv ct) [a] []) (Sg : FnScope Ng [a] sg) (hNg : Ng[0]? = some a) (hva : Vis sg a)
    (hG : GivesV X Ng x sg g cdv bg a TT) (fam : Fam X ι F G) (ha : ∀ (z : Shared) (Z : Hp) (L : Addr) (cl : List (Str × Addr)) (fp : List Addr), PA (bCx X z Z sc L cl fp) [e] ta) (hr : Room (k + 2) X.A)
    (hbody : ∀ (i : ι) (A : Around) (outer : List Env) (s : Shared) (H : Hp) (E : XK) (f : Addr), Room k (A.deeper (lamEnv X (F i).scope s.heap.objs.size f (F i).c)) → PE (lamCx X A outer s H E (F i).scope f (F i).c) (F i).body (t i E))
    (hst : ∀ (L : Addr) (cl : List (Str × Addr)), starEach [e] (compEnvC sc cl L X.env) = (false, eval e (compEnvC sc cl L X.env)) :: starEach [] (compEnvC sc cl L X.env) := by intros; rfl)
    (hpl : ∀ (L : Addr) (cl : List (Str × Addr)), (backTo pos (starEach ([] : List Expr) (compEnvC sc cl L X.env))).any (·.1) = false := by intros; rfl)
    (hdb : (x == ("__debug__" : Str)) = false := by decide) (hd : (a == ("__debug__" : Str)) = false := by decide) (hcd : (a == ("__classdict__" : Str)) = false := by decide) (τ : L2.St) :
    ElB X τ sc (.Call (.Name x p) [e] [] pos) (tLamB F G TT ta t τ) := by
  intro pinsX z Z L cl fp IX fpo
  refine ⟨fun pins s σ H Q I h => ?_⟩
  have hex : ∀ y d, X.env.cells.lookup y = some d → d ∉ fp := fun y d hy hd => (fpo d hd).2.2.2.2.1 y d hy rfl
  refine wpAny_Call_Name_kw (ld_glob I (hg z Z L cl fp) hm ?_ hdb)
  refine PySem.W.callWith_K (h₀ := X.base) I.ok.mod.kin hk (thn ((ha z Z L cl fp).run pos pins s σ H _ I h) fun us s1 ⟨vs, H1, I1, r, q⟩ => ⟨I1.kIn, ?_⟩) (hst L cl) (hpl L cl)
  obtain ⟨f, i, rfl, e1, e2, e3, q⟩ := q
  rw [Vals.ref1 r]
  have rc : codeAny (model X.prog X.w) X.A (.call (.ref g) ⟨[.ref f], []⟩) (CR C8.CX0 X.stack X.prog X.w H1 s1 Q C8.E0) s1 := by
    refine run_ofS (N := Ng) (ps := [a]) (us := [.ref f]) (vs := [.ref f]) lk hcg Sg hr I1.env0 (hb s1 [.ref f] I1.kIn rfl) (.cons rfl .nil) rfl fun hr2 => ?_
    have go := hG f (fun HZ => HZ f = some (LamO f (F i)) ∧ HZ (F i).c = some (CodeO (F i).c (F i).q) ∧ G i HZ) s1 H1 Q (fun E H' Q' => t i E τ H' Q') (fun W pn xe p1 p2 tk => by
      have act := pe_actVB (i := 0) (p1 := p1) (p2 := p2) (E := fun σ' cls d H' => W cls d σ' H') (tb := t i) IX hex I1.base (fam.nm i) (fam.cl i) (fam.q i) (fam.bind i) tk (fun _ _ _ _ z => z) hr2 (fun E' A outer s H hr3 => hbody i A outer s H E' f hr3) hNg hva hd hcd
      exact ⟨fun pins2 s2 σ2 H2 Q2 I2 ⟨a1, ⟨a2, a3, a4⟩, a5⟩ => act.run pins2 s2 σ2 H2 Q2 I2 ⟨a1, a2, a3, a4, a5⟩⟩) ⟨e1, e2, e3⟩ q
    obtain ⟨t', ht', hq'⟩ := go
    exact ⟨t', ht'.nox, hq'⟩
  refine wpAny_call (codeAny_mono rc fun r s2 hh => ?_)
  cases r with
  | error e => exact (show False from hh).elim
  | ok fl =>
    cases fl with
    | ret u => exact I1.after hh
    | next => exact hh.elim
    | brk => exact hh.elim
    | cont => exact hh.elim
/-- a() in the block, a its own name -/
theorem el_actB {ι : Type} {F : ι → LF} {G : ι → Hp → Prop} {sc : Scope} {j k : Nat} {a : Str} {t : ι → TE} {p1 p2 : Pos} (fam : Fam X ι F G) (hr : Room (k + 1) X.A)
    (hbody : ∀ (i : ι) (A : Around) (outer : List Env) (s : Shared) (H : Hp) (f : Addr), Room k (A.deeper (lamEnv X (F i).scope s.heap.objs.size f (F i).c)) → PE (lamCx X A outer s H C8.E0 (F i).scope f (F i).c) (F i).body (t i))
    (hN : X.N[j]? = some a) (hv : ∀ (L : Addr) (cl : List (Str × Addr)), Vis (compEnvC sc cl L X.env).scope a) (hd : (a == ("__debug__" : Str)) = false := by decide) (hcd : (a == ("__classdict__" : Str)) = false := by decide) (τ : L2.St) :
    ElB X τ sc (.Call (.Name a p1) [] [] p2) (fun σ H Q => ∃ (f : Addr) (i : ι), σ[j]? = some (some (.ref f)) ∧ H f = some (LamO f (F i)) ∧ H (F i).c = some (CodeO (F i).c (F i).q) ∧ G i H ∧ t i τ H Q) := by
  intro pinsX z Z L cl fp IX fpo
  refine ⟨fun pins s σ H Q I h => ?_⟩
  have hex : ∀ y d, X.env.cells.lookup y = some d → d ∉ fp := fun y d hy hd => (fpo d hd).2.2.2.2.1 y d hy rfl
  obtain ⟨f, i, hs, hf, hc, hg, ht⟩ := h
  refine wpAny_Call_Name_kw (thn ((pe_var (X := bCx X z Z sc L cl fp) (pos := p1) (i := j) hN (hv L cl) hd hcd).run pins s σ H (fun v H1 => v = .ref f ∧ H1 = H) I ⟨.ref f, hs, rfl, rfl⟩) fun u s2 ⟨v, H2, I2, rv, e1, e2⟩ => ?_)
  subst e1
  rw [e2] at I2
  obtain rfl : u = Value.ref f := rv
  obtain ⟨⟨doc, pm, ctv, of1⟩, _, _⟩ := I2.hok f _ hf
  obtain ⟨⟨oc, vs, tt, c1, c2, c3⟩, _, _⟩ := I2.hok (F i).c _ hc
  refine PySem.W.callWith_F0 ⟨_, _, _, _, of1⟩ ?_
  have un : Un (frs X.stack) fp Z H z.heap s2.heap := I2.base
  obtain ⟨binds, hbi, hloc⟩ := fam.bind i doc pm ctv s2 H I2.hok hg
  have rc : codeAny (model X.prog X.w) X.A (.call (.ref f) ⟨[], []⟩) (CR (L2.CX X.prog X.w) X.stack X.prog X.w H s2 Q C8.E0) s2 := by
    refine PySem.W.kla_callFunE hr.depth of1 rfl (fam.nm i).co (fam.nm i).gen rfl ⟨(F i).c, oc, vs, tt, rfl, c1, c2, c3⟩ (hbi _ _ _ _ ?_)
    refine wpAny_newFunctionEnv (fam.nm i).nocell hloc (fun h1 hns hsb => ⟨I2.nolimit.fresh _ hsb, ?_⟩) (fam.nm i).kind
    have ee : PySem.W.envX (F i).q (F i).scope s2.heap.objs.size f (.ref (F i).c) (F i).cl = lamEnv X (F i).scope s2.heap.objs.size f (F i).c := by rw [fam.q i, fam.cl i]
    show codeAny _ _ (.expr (F i).body (PySem.W.envX (F i).q (F i).scope s2.heap.objs.size f (.ref (F i).c) (F i).cl)) _ _
    rw [ee]
    have kp : ∀ b o, s2.heap.get? b = some o → h1.get? b = some o := fun b o q => hsb.extBut b o (Nat.ne_of_lt (Heap.lt_size q)) (Heap.get?_push_of_some _ q)
    have J := lam_enter (E := C8.E0) (scope := (F i).scope) (f := f) (c' := (F i).c) (tk := s2.toks + binds.length) IX (fam.nm i) I2.env0 hr.hd hex un hns kp
    refine PySem.W.kla_codeExpr (wpAny_mono ((hbody i _ _ s2 H f (hr.deeper _)).run [] _ _ H Q J ht) (fun v s' hh => ?_) fun q s' hh => hh)
    obtain ⟨w', H', J', r', q'⟩ := hh
    exact ⟨w', H', J'.os, J'.bare, J'.base, J'.hok, r', q'⟩
  refine wpAny_call (codeAny_mono rc fun r s3 hh => ?_)
  cases r with
  | error q =>
    obtain ⟨_, _, _, _, _, _, _, _, _, _, _, _, z⟩ := (show L2.CX X.prog X.w X.stack H s2 C8.E0 q s3 from hh)
    exact (show False from z).elim
  | ok fl =>
    cases fl with
    | ret u => exact I2.after hh
    | next => exact hh.elim
    | brk => exact hh.elim
    | cont => exact hh.elim
/-- name = [..] on one line, the name a local -/
theorem ps_setLcB {i : Nat} {y : Str} {py : Pos} {e tg iter : Expr} {sc : Scope} {own : List (Str × Nat)} {pos spos : Pos} {wi : TI} {g : TG} {te : L2.St → TE} (hc : X.calm = true) (hN : X.N.Nodup) (hy : X.N[i]? = some y) (hyl : X.env.scope.names.lookup y = some .local)
    (hsw : swapsWith (.ListComp e [⟨tg, iter, [], 0⟩] sc pos) (some (.Name y py)) spos.line X.env = pure true) (hi : PI X tg iter wi) (ok : BlkOk X.N X.env.scope sc own)
    (hg : ∀ (z : Shared) (Z : Hp) (L : Addr) (cl : List (Str × Addr)) (fp : List Addr), PG (bCx X z Z sc L cl fp) tg g) (he : ∀ τ, ElB X τ sc e (te τ)) (hs : ∀ x, foldedSetIterable iter X.env x = pure x := by intro _; rfl) :
    PS X (.Assign [.Name y py] (.ListComp e [⟨tg, iter, [], 0⟩] sc pos) spos) (tAsg (fun σ H Q => tLc wi g tYes (te σ) (own.map (·.2)) σ H Q) (gName i)) := by
  refine ⟨fun pins s σ H D I h => ?_⟩
  rw [exec_Assign_Name_used _ _ _ _ hsw]
  refine wpAny_bind (wpAny_standAt (wpAny_bind ?_))
  have h : tLc wi g tYes (te σ) (own.map (·.2)) σ H (fun x H1 => gName i x σ H1 D.nx) := h
  refine wpAny_bind (thn (lcB_core (Qf := fun _ s' => SP X pins D .next s') (use := some (assign (.Name y py) X.env)) hc hN I hi ok hg (he σ) hs h ?_) fun _ s' hq => wpAny_pure (wpAny_pure hq))
  intro L C s' m H' I' q hn f
  obtain ⟨f0, f1, f2, f3, f4, f5⟩ := f
  refine wpAny_assign_Name (store_ok2 (v := V.ref L) I' hN hy (.inl hyl) rfl (fun s2 I2 ⟨a, sb, ha⟩ => ?_) (.inr hyl))
  have haC : C ≠ a := by
    rcases ha with z | z
    · rw [z]; exact f1
    · exact fun e => f4 y a z e.symm
  exact ⟨m, hn.sameBut sb haC, fun h3 sb3 => ⟨_, H', I2.turned (t' := s2.toks) (fun b o hb e => (sb3.2 b hb).trans e) f0 f1 f3 f4 f5, q⟩⟩
end
end Rl
namespace Rp
open PySem PySem.Spec PyProof.Rows L2 Rz Rm Rl LamX
def lpA : Expr → Arguments
  | .Lambda p _ _ _ => p
  | _ => ⟨[], [], none, [], [], none, []⟩
def lpB : Expr → Expr
  | .Lambda _ b _ _ => b
  | e => e
def lpS : Expr → Scope
  | .Lambda _ _ s _ => s
  | _ => ⟨.function, [], false, false, []⟩
def dfV : Option Addr → Value
  | none => .none
  | some t => .ref t
def mkF (q : Str) (cells : List (Str × Addr)) (e : Expr) (t : Option Addr) (c : Addr) : LF := ⟨q, lpA e, lpB e, lpS e, cloFrom cells (lpS e).names [], dfV t, c⟩
/-- without parameters -/
def Bd0 (e : Expr) : Prop := ∀ (q : Str) (cl : List (Str × Addr)) (c doc pm ctv : Value) (sZ : Shared), BindsTo sZ (PySem.W.kdv_fn "<lambda>" q (lpA e) (.expr (lpB e)) (lpS e) cl .none doc pm c ctv) ⟨[], []⟩ []
/-- one parameter with a default value -/
def Bd1 (e : Expr) : Prop := ∃ x : Str, (lpS e).names.lookup x = some .local ∧ ∀ (q : Str) (cl : List (Str × Addr)) (t : Addr) (c doc pm ctv : Value) (sZ : Shared) (o : Obj) (v : Value) (n : Nat), sZ.heap.get? t = some o → o.data = .seq #[v] n →
  BindsTo sZ (PySem.W.kdv_fn "<lambda>" q (lpA e) (.expr (lpB e)) (lpS e) cl (.ref t) doc pm c ctv) ⟨[], []⟩ [(x, v)]
def GD (e : Expr) (t : Option Addr) (H : Hp) : Prop := match t with
  | none => Bd0 e
  | some t => Bd1 e ∧ H t = some (.tup [.int 0])
/-- f is the lambda e, kept -/
def KLat (q : Str) (cells : List (Str × Addr)) (H : Hp) (e : Expr) (f : Addr) : Prop := ∃ (t : Option Addr) (c : Addr), H f = some (LamO f (mkF q cells e t c)) ∧ H c = some (CodeO c q) ∧ GD e t H
theorem KLat.extN {q : Str} {cells : List (Str × Addr)} {H H' : Hp} {e : Expr} {f : Addr} (k : KLat q cells H e f) (x : ExtN H H') : KLat q cells H' e f := by
  obtain ⟨t, c, h1, h2, h3⟩ := k
  refine ⟨t, c, x _ _ h1 (lamO_ne), x _ _ h2 codeO_ne, ?_⟩
  cases t with
  | none => exact h3
  | some t => exact ⟨h3.1, x _ _ h3.2 (by intro ps z; cases z)⟩
section
variable {X : Cx}
def lFam (X : Cx) (le : Nat → Expr) : Nat × Option Addr × Addr → LF := fun i => mkF (X.env.qual ++ "<lambda>") X.env.cells (le i.1) i.2.1 i.2.2
theorem fam_ok {le : Nat → Expr} (hl : ∀ j, LamP X.N X.env.scope (lpS (le j))) : Fam X (Nat × Option Addr × Addr) (lFam X le) (fun i H => GD (le i.1) i.2.1 H) where
  nm := fun i => hl i.1
  cl := fun _ => rfl
  q := fun _ => rfl
  bind := fun ⟨j, t, c⟩ doc pm ctv sZ HZ hok hg => by
    cases t with
    | none => exact ⟨[], hg _ _ _ _ _ _ _, fun y hy => by cases hy⟩
    | some t =>
      obtain ⟨⟨x, hx, hb⟩, ht⟩ := hg
      obtain ⟨_, its, rv, o, ho, _, n, hd⟩ := hok t _ ht
      cases rv with
      | cons r1 r2 =>
        rename_i v vs
        cases r2
        exact ⟨[(x, v)], hb _ _ _ _ _ _ _ _ _ _ _ ho hd, fun y hy => by
          obtain rfl := List.mem_singleton.mp hy
          exact hx⟩
end
abbrev bs (j : Nat) : Stmt := (defBody s_law).getD j (.Pass ⟨0, 0, 0, 0⟩)
abbrev XL (P : Program) (w : World) (K : PySem.W.Frag) (mg : Str → Option Value) (base : Heap) (f : Addr) (cdv : Value) (A : Around) (outer : List Env) (s : Shared) (H0 : Hp) (E : XK) : Cx := (cxOf CX0 P w K mg base N_law "law" (defScope s_law) f cdv A outer s H0 E).nox
abbrev p0 : Pos := ⟨0, 0, 0, 0⟩
def asgV : Stmt → Expr
  | .Assign _ v _ => v
  | _ => .Name "" p0
def lstE : Expr → List Expr
  | .List es _ => es
  | _ => []
/-- the lambdas -/
def le : Nat → Expr
  | 0 => (lstE (asgV (bs 3))).getD 0 (.Name "" p0)
  | 1 => (lstE (asgV (bs 3))).getD 1 (.Name "" p0)
  | _ => (lstE (asgV (bs 3))).getD 2 (.Name "" p0)
theorem le_ok : ∀ j, LamP N_law (defScope s_law) (lpS (le j))
  | 0 => lamP_by (by decide +kernel)
  | 1 => lamP_by (by decide +kernel)
  | _ + 2 => (lamP_by (by decide +kernel) : LamP N_law (defScope s_law) (lpS ((lstE (asgV (bs 3))).getD 2 (.Name "" p0))))
theorem bd0 : Bd0 (le 0) := fun _ _ _ _ _ _ _ => .of_eq rfl
theorem bd1 : Bd1 (le 1) := ⟨"_law_a", by decide +kernel, fun _ _ _ _ _ _ _ _ _ _ _ ho hd => BindsTo.of_defaults rfl ho hd rfl rfl⟩
theorem bd2 : Bd1 (le 2) := ⟨"_law_b", by decide +kernel, fun _ _ _ _ _ _ _ _ _ _ _ ho hd => BindsTo.of_defaults rfl ho hd rfl rfl⟩
section
variable {P : Program} {w : World} {K : PySem.W.Frag} {mg : Str → Option Value} {base : Heap}
variable {f : Addr} {cT PT : Addr} {A : Around} {outer : List Env} {s : Shared} {H0 : Hp} {E : XK}
end
def PR (ds ss rs : List Int) : Prop := (ds.sum ≤ mx ds * ss.sum ∧ ∃ j : Nat, rs = [(j : Int)] ∧ ds[j]? = some (mx ds) ∧ ∀ k z, k < j → ds[k]? = some z → z ≠ mx ds) ∨ (¬ ds.sum ≤ mx ds * ss.sum ∧ rs = iot ds.length)
theorem PR.one {ds ss rs rs' : List Int} (h : PR ds ss rs) (g : PR ds ss rs') : rs = rs' := by
  rcases h with ⟨h1, j, rfl, h2, h3⟩ | ⟨h1, rfl⟩
  · rcases g with ⟨_, k, rfl, g2, g3⟩ | ⟨g1, _⟩
    · rcases Nat.lt_trichotomy j k with z | z | z
      · exact absurd rfl (g3 j _ z h2)
      · rw [z]
      · exact absurd rfl (h3 k _ z g2)
    · exact absurd h1 g1
  · rcases g with ⟨g1, _⟩ | ⟨_, rfl⟩
    · exact absurd g1 h1
    · rfl
theorem PR.len {ds ss rs : List Int} (G : Good ds ss) (h : PR ds ss rs) : rs.length ≤ 8 := by
  rcases h with ⟨_, j, rfl, _⟩ | ⟨_, rfl⟩
  · simp
  · have := G.l8
    unfold iot
    rw [List.length_map, List.length_range]
    omega
/-- what the k-th call gives -/
def LVx (ds ss : List Int) (H : Hp) (xs : List V) : Nat → Prop
  | 0 => ∃ ps, Tups H xs (ps.map toL) ∧ Chn ds ss (0, 5) ps ∧ ps.length ≤ 200000
  | 1 => ∃ rs, xs = rs.map V.int ∧ PR ds ss rs
  | _ => xs = (hl ds ss ds.length).map V.int
def LV (ds ss : List Int) (k : Nat) (H : Hp) (l : Addr) : Prop := ∃ xs, H l = some (.lst xs) ∧ LVx ds ss H xs k
theorem LVx.mono {ds ss : List Int} {H H' : Hp} (m : ∀ b xs, H b = some (.tup xs) → H' b = some (.tup xs)) {xs : List V} : ∀ {k : Nat}, LVx ds ss H xs k → LVx ds ss H' xs k
  | 0, ⟨ps, h1, h2, h3⟩ => ⟨ps, h1.mono m, h2, h3⟩
  | 1, h => h
  | _ + 2, h => h
theorem LV.same {ds ss : List Int} {k : Nat} {H H' : Hp} {l : Addr} (h : LV ds ss k H l) (s : Same H H') : LV ds ss k H' l := by
  obtain ⟨xs, h1, h2⟩ := h
  exact ⟨xs, s _ _ h1, h2.mono fun b ys e => s _ _ e⟩
theorem LV.put {ds ss : List Int} {k : Nat} {H : Hp} {l D : Addr} {ys : List V} {o : HO} (h : LV ds ss k H l) (n : l ≠ D) (hD : H D = some (.lst ys)) : LV ds ss k (upd H D o) l := by
  obtain ⟨xs, h1, h2⟩ := h
  exact ⟨xs, (upd_ne n).trans h1, h2.mono fun b zs e => (upd_ne (ne_of e hD (by intro z; cases z))).trans e⟩
theorem LVx.len {ds ss : List Int} (G : Good ds ss) {H : Hp} {xs : List V} : ∀ {k : Nat}, LVx ds ss H xs k → xs.length ≤ 200000
  | 0, ⟨ps, h1, _, h3⟩ => by rw [h1.length, List.length_map]; exact h3
  | 1, ⟨rs, e, h⟩ => by rw [e, List.length_map]; have := h.len G; omega
  | _ + 2, h => by
    have e : xs = (hl ds ss ds.length).map V.int := h
    have := hl_len ds ss ds.length
    have := G.l8
    rw [e, List.length_map]
    omega
theorem LV.like {ds ss : List Int} (G : Good ds ss) {H : Hp} {l l' : Addr} : ∀ {k : Nat}, LV ds ss k H l → LV ds ss k H l' → LkD 2 H (.ref l) (.ref l')
  | 0, ⟨xs, h1, ps, t1, c1, n1⟩, ⟨ys, g1, qs, t2, c2, n2⟩ => by
    obtain ⟨M, hM, hMu⟩ := G.max
    have e := chn_one (G.ring hM hMu) c1 c2
    subst e
    refine .inr ⟨l, l', xs, ys, rfl, rfl, .inr ⟨h1, g1⟩, by rw [t1.length, t2.length], by rw [t1.length, List.length_map]; omega, fun i x y hx hy => ?_⟩
    have hi : i < (ps.map toL).length := by rw [← t1.length]; exact (List.getElem?_eq_some_iff.mp hx).1
    obtain ⟨a, ea, ha⟩ := t1.get (List.getElem?_eq_getElem hi)
    obtain ⟨b, eb, hb⟩ := t2.get (List.getElem?_eq_getElem hi)
    rw [hx] at ea
    rw [hy] at eb
    rw [Option.some.inj ea, Option.some.inj eb]
    refine LkD.ints (.inl ⟨ha, hb⟩) ?_
    rw [List.getElem_map]
    show 2 ≤ 1000
    decide
  | 1, ⟨xs, h1, rs, e1, p1⟩, ⟨ys, g1, rs', e2, p2⟩ => by
    subst e1
    subst e2
    have e := p1.one p2
    subst e
    have := p1.len G
    exact .inl (LkD.ints (.inr ⟨h1, g1⟩) (by omega))
  | k + 2, ⟨xs, h1, e1⟩, ⟨ys, g1, e2⟩ => by
    have e1 : xs = (hl ds ss ds.length).map V.int := e1
    have e2 : ys = (hl ds ss ds.length).map V.int := e2
    subst e1
    subst e2
    have := hl_len ds ss ds.length
    have := G.l8
    exact .inl (LkD.ints (.inr ⟨h1, g1⟩) (by omega))
theorem settled_one {ds ss : List Int} {n n' p q : Int} (h : SettledIs ds ss n p q) (g : SettledIs ds ss n' p q) : n = n' := by
  have go : ∀ {a b : Int}, SettledIs ds ss a p q → SettledIs ds ss b p q → ¬ a < b := fun {a b} ha hb hlt => by
    have a0 := ha.n0
    rcases hb.least with z | ⟨r, _, _, hr⟩
    · omega
    · exact hr (ha.all (b - 1) (by omega) r)
  have h1 := go h g
  have h2 := go g h
  omega
theorem rep_one {T B M p q p' q' : Int} (h : RepIs T B M p q) (g : RepIs T B M p' q') : p = p' ∧ q = q' := by
  rcases h with ⟨h1, h2, h3⟩ | ⟨h1, h2, h3⟩ <;> rcases g with ⟨g1, g2, g3⟩ | ⟨g1, g2, g3⟩
  · exact ⟨by omega, by omega⟩
  · exact absurd h1 g1
  · exact absurd g1 h1
  · exact ⟨by omega, by omega⟩
/-- the row of the other results -/
def RW (ds ss : List Int) (M : Int) (H : Hp) (r : Addr) : Prop := ∃ (t : Addr) (b n p q L : Int), H r = some (.lst [.int (Rm.E (at' ds) (at' ss) 0 9), .int (at' ss 1 + Cn (at' ds) (at' ss) (1 - 1) 9 - Cn (at' ds) (at' ss) 1 (9 + at' ds 1)), .int b, .ref t, .int L]) ∧ H t = some (.tup [.int n, .int p, .int q]) ∧
  Bk ss 1 (9 % ss.sum) b ∧ RepIs ds.sum ss.sum M p q ∧ SettledIs ds ss n p q ∧ (∀ D, 0 ≤ D → hpo ds ss 0 D ≤ L) ∧ ∃ D, 0 ≤ D ∧ hpo ds ss 0 D = L
theorem RW.same {ds ss : List Int} {M : Int} {H H' : Hp} {r : Addr} (h : RW ds ss M H r) (s : Same H H') : RW ds ss M H' r := by
  obtain ⟨t, b, n, p, q, L, h1, h2, h3⟩ := h
  exact ⟨t, b, n, p, q, L, s _ _ h1, s _ _ h2, h3⟩
theorem rw_data (e h b n p q L : Int) : SeqAt.shaped (.list [.int e, .int h, .int b, .tuple [.int n, .int p, .int q], .int L]) = true ∧ PyData.eqv (.list [.int e, .int h, .int b, .tuple [.int n, .int p, .int q], .int L]) (.list [.int e, .int h, .int b, .tuple [.int n, .int p, .int q], .int L]) = true := by
  exact ⟨by simp [SeqAt.shaped, PyData.canLay0, PyData.canLayAll0, PyData.depth, PyData.depthAll], by simp [PyData.eqv, PyData.eqvAll]⟩
theorem RW.eq {ds ss : List Int} (G : Good ds ss) {M : Int} {K : PySem.W.Frag} {H : Hp} {r r' : Addr} (h : RW ds ss M H r) (g : RW ds ss M H r') : ∃ d, Dp K H (.ref r) d ∧ Dp K H (.ref r') d ∧ SeqAt.shaped d = true ∧ PyData.eqv d d = true := by
  obtain ⟨t, b, n, p, q, L, h1, h2, h3, h4, h5, h6, D, d0, h7⟩ := h
  obtain ⟨t', b', n', p', q', L', g1, g2, g3, g4, g5, g6, D', d0', g7⟩ := g
  have eb := h3.inj (fun i => (G.s0 _ (at_mem (by have := G.ls; have := G.l2; omega) i)).1) g3
  obtain ⟨ep, eq⟩ := rep_one h4 g4
  subst eb ep eq
  have en := settled_one h5 g5
  subst en
  have a1 := h6 D' d0'
  have a2 := g6 D d0
  have eL : L = L' := by omega
  subst eL
  obtain ⟨s1, s2⟩ := rw_data (Rm.E (at' ds) (at' ss) 0 9) (at' ss 1 + Cn (at' ds) (at' ss) (1 - 1) 9 - Cn (at' ds) (at' ss) 1 (9 + at' ds 1)) b n p q L
  exact ⟨_, .lst (.of h1) (.cons (.int _) (.cons (.int _) (.cons (.int _) (.cons (.tup (.of h2) (.cons (.int _) (.cons (.int _) (.cons (.int _) .nil)))) (.cons (.int _) .nil))))), .lst (.of g1) (.cons (.int _) (.cons (.int _) (.cons (.int _) (.cons (.tup (.of g2) (.cons (.int _) (.cons (.int _) (.cons (.int _) .nil)))) (.cons (.int _) .nil))))), s1, s2⟩
section
variable {P : Program} {w : World} {K : PySem.W.Frag} {mg : Str → Option Value} {base : Heap}
variable {f : Addr} {cT PT : Addr} {A : Around} {outer : List Env} {s : Shared} {H0 : Hp} {E : XK}
theorem lt0 (T : Tx K mg) : ∃ tb : TE, (∀ (A' : Around) (o' : List Env) (s' : Shared) (H' : Hp) (f' c' : Addr), Room 9 (A'.deeper (lamEnv (XL P w K mg base f (.ref cT) A outer s H0 E) (lpS (le 0)) s'.heap.objs.size f' c')) → PE (lamCx (XL P w K mg base f (.ref cT) A outer s H0 E) A' o' s' H' C8.E0 (lpS (le 0)) f' c') (lpB (le 0)) tb) ∧
    ∀ (τ : L2.St) (H : Hp) (Q : VK) (p dx td ts : Addr) (ds ss : List Int), τ[4]? = some (some (.ref p)) → RingAt T.C H p dx td ts ds ss → Tf H td (ds.map V.int) → (∀ H' l, Same H H' → H l = none → LV ds ss 0 H' l → Q (.ref l) H') → tb τ H Q := by
  refine ⟨_, fun A' o' s' H' f' c' hr => (pe_call (ok_chain T) (hr.mono (by decide : 6 ≤ 9)) (by rfl) T.g_chain_of_waits T.F_chain_of_waits.kp T.b_chain_of_waits .nil pass0 (pa_cons (pv 4) (pa_cons pe_int (pa_cons pe_int pa_nil)))), ?_⟩
  intro τ H Q p dx td ts ds ss h4 R hf q
  have l2 := R.ok.l2
  exact ⟨_, h4, p, dx, td, ts, ds, ss, 0, 5, rfl, R, by omega, by omega, by decide, by decide, fun H' l xs ps s hn hl hT hC hlen => q H' l s hn ⟨xs, hl, ps, hT, hC, hlen⟩⟩
theorem lt1 (T : Tx K mg) : ∃ tb : TE, (∀ (A' : Around) (o' : List Env) (s' : Shared) (H' : Hp) (f' c' : Addr), Room 9 (A'.deeper (lamEnv (XL P w K mg base f (.ref cT) A outer s H0 E) (lpS (le 1)) s'.heap.objs.size f' c')) → PE (lamCx (XL P w K mg base f (.ref cT) A outer s H0 E) A' o' s' H' C8.E0 (lpS (le 1)) f' c') (lpB (le 1)) tb) ∧
    ∀ (τ : L2.St) (H : Hp) (Q : VK) (p dx td ts : Addr) (ds ss : List Int), τ[4]? = some (some (.ref p)) → RingAt T.C H p dx td ts ds ss → Tf H td (ds.map V.int) → (∀ H' l, Same H H' → H l = none → LV ds ss 1 H' l → Q (.ref l) H') → tb τ H Q := by
  refine ⟨_, fun A' o' s' H' f' c' hr => (pe_call (ok_paceR T) (hr.mono (by decide : 3 ≤ 9)) (by rfl) T.g_pace_readers T.F_pace_readers.kp T.b_pace_readers .nil pass0 (pa_cons (pv 4) pa_nil)), ?_⟩
  intro τ H Q p dx td ts ds ss h4 R hf q
  have l2 := R.ok.l2
  exact ⟨_, h4, p, dx, td, ts, ds, ss, rfl, R, hf, fun H' l rs s hl hn hp => q H' l s hn ⟨_, hl, rs, rfl, hp⟩⟩
theorem lt2 (T : Tx K mg) : ∃ tb : TE, (∀ (A' : Around) (o' : List Env) (s' : Shared) (H' : Hp) (f' c' : Addr), Room 9 (A'.deeper (lamEnv (XL P w K mg base f (.ref cT) A outer s H0 E) (lpS (le 2)) s'.heap.objs.size f' c')) → PE (lamCx (XL P w K mg base f (.ref cT) A outer s H0 E) A' o' s' H' C8.E0 (lpS (le 2)) f' c') (lpB (le 2)) tb) ∧
    ∀ (τ : L2.St) (H : Hp) (Q : VK) (p dx td ts : Addr) (ds ss : List Int), τ[4]? = some (some (.ref p)) → RingAt T.C H p dx td ts ds ss → Tf H td (ds.map V.int) → (∀ H' l, Same H H' → H l = none → LV ds ss 2 H' l → Q (.ref l) H') → tb τ H Q := by
  refine ⟨_, fun A' o' s' H' f' c' hr => (pe_call (ok_hr T) (hr.mono (by decide : 8 ≤ 9)) (by rfl) T.g_helpful_readers T.F_helpful_readers.kp T.b_helpful_readers .nil pass0 (pa_cons (pv 4) pa_nil)), ?_⟩
  intro τ H Q p dx td ts ds ss h4 R hf q
  have l2 := R.ok.l2
  exact ⟨_, h4, p, dx, td, ts, ds, ss, rfl, R, fun H' l s hn hl => q H' l s hn ⟨_, hl, rfl⟩⟩
theorem all_lt (T : Tx K mg) : ∃ ts : Nat → TE, (∀ (j : Nat) (A' : Around) (o' : List Env) (s' : Shared) (H' : Hp) (f' c' : Addr), Room 9 (A'.deeper (lamEnv (XL P w K mg base f (.ref cT) A outer s H0 E) (lpS (le j)) s'.heap.objs.size f' c')) → PE (lamCx (XL P w K mg base f (.ref cT) A outer s H0 E) A' o' s' H' C8.E0 (lpS (le j)) f' c') (lpB (le j)) (ts j)) ∧
    ∀ (j : Nat) (τ : L2.St) (H : Hp) (Q : VK) (p dx td ts' : Addr) (ds ss : List Int), j < 3 → τ[4]? = some (some (.ref p)) → RingAt T.C H p dx td ts' ds ss → Tf H td (ds.map V.int) → (∀ H' l, Same H H' → H l = none → LV ds ss j H' l → Q (.ref l) H') → ts j τ H Q := by
  obtain ⟨t0, a0, r0⟩ := lt0 (P := P) (w := w) (base := base) (f := f) (cT := cT) (A := A) (outer := outer) (s := s) (H0 := H0) (E := E) T
  obtain ⟨t1, a1, r1⟩ := lt1 (P := P) (w := w) (base := base) (f := f) (cT := cT) (A := A) (outer := outer) (s := s) (H0 := H0) (E := E) T
  obtain ⟨t2, a2, r2⟩ := lt2 (P := P) (w := w) (base := base) (f := f) (cT := cT) (A := A) (outer := outer) (s := s) (H0 := H0) (E := E) T
  refine ⟨fun j => match j with | 0 => t0 | 1 => t1 | _ => t2, fun j => match j with | 0 => a0 | 1 => a1 | _ + 2 => a2, ?_⟩
  intro j τ H Q p dx td ts' ds ss hj h4 R hf q
  match j, hj, q with
  | 0, _, q => exact r0 τ H Q p dx td ts' ds ss h4 R hf q
  | 1, _, q => exact r1 τ H Q p dx td ts' ds ss h4 R hf q
  | 2, _, q => exact r2 τ H Q p dx td ts' ds ss h4 R hf q
  | _ + 3, hj, _ => omega
structure Wk (q : Str) (cells : List (Str × Addr)) (H : Hp) (wl : Addr) (fs : List Addr) : Prop where
  hl : H wl = some (.lst (fs.map V.ref))
  len : fs.length = 3
  all : ∀ (j : Nat) (f : Addr), fs[j]? = some f → KLat q cells H (le j) f
theorem Wk.extN {q : Str} {cells : List (Str × Addr)} {H H' : Hp} {wl : Addr} {fs : List Addr} (k : Wk q cells H wl fs) (x : ExtN H H') : Wk q cells H' wl fs :=
  ⟨x _ _ k.hl (by intro ps z; cases z), k.len, fun j f h => (k.all j f h).extN x⟩
theorem get_snoc {α : Type} {l : List α} {x y : α} {j : Nat} (h : (l ++ [x])[j]? = some y) : l[j]? = some y ∨ (j = l.length ∧ x = y) := by
  rcases Nat.lt_or_ge j l.length with z | z
  · rw [List.getElem?_append_left z] at h; exact .inl h
  · rw [List.getElem?_append_right z] at h
    have e : j - l.length = 0 := by
      rcases Nat.eq_zero_or_pos (j - l.length) with z | z
      · exact z
      · rw [List.getElem?_eq_none (by show 1 ≤ j - l.length; omega)] at h; cases h
    rw [e] at h
    exact .inr ⟨by omega, Option.some.inj h⟩
/-- new lists at ls, of the calls below n -/
structure Fnd (ds ss : List Int) (H H' : Hp) (D : Addr) (ls : List Addr) (n : Nat) : Prop where
  sm : Same H H'
  hD : H' D = some (.lst (ls.map V.ref))
  len : ls.length = n
  all : ∀ (k : Nat) (l : Addr), ls[k]? = some l → H l = none ∧ l ≠ D ∧ LV ds ss k H' l
  nd : ls.Nodup
/-- the three calls, one after another -/
theorem call_all {T : Tx K mg} {ts : Nat → TE} (hq : ∀ (j : Nat) (τ : L2.St) (H : Hp) (Q : VK) (p dx td ts' : Addr) (ds ss : List Int), j < 3 → τ[4]? = some (some (.ref p)) → RingAt T.C H p dx td ts' ds ss → Tf H td (ds.map V.int) → (∀ H' l, Same H H' → H l = none → LV ds ss j H' l → Q (.ref l) H') → ts j τ H Q)
    {σ : L2.St} {H : Hp} {Q : VK} {p dx td ts' wl : Addr} {fs : List Addr} {ds ss : List Int} (hlen : σ.length = 11) (h4 : σ[4]? = some (some (.ref p))) (h5 : σ[5]? = some (some (.ref wl))) (R : RingAt T.C H p dx td ts' ds ss) (hf : Tf H td (ds.map V.int)) (W : Wk ((XL P w K mg base f (.ref cT) A outer s H0 E).env.qual ++ "<lambda>") (XL P w K mg base f (.ref cT) A outer s H0 E).env.cells H wl fs)
    (q : ∀ H' D ls, H D = none → Fnd ds ss H H' D ls 3 → Q (.ref D) H') :
    tLc (iList K (tVar 5)) (gName 8) tYes (fun σ' H Q => ∃ (f : Addr) (i : Nat × Option Addr × Addr), σ'[8]? = some (some (.ref f)) ∧ H f = some (LamO f (lFam (XL P w K mg base f (.ref cT) A outer s H0 E) le i)) ∧ H (lFam (XL P w K mg base f (.ref cT) A outer s H0 E) le i).c = some (CodeO (lFam (XL P w K mg base f (.ref cT) A outer s H0 E) le i).c (lFam (XL P w K mg base f (.ref cT) A outer s H0 E) le i).q) ∧ GD (le i.1) i.2.1 H ∧ ts i.1 σ H Q) [8] σ H Q := by
  refine ⟨_, h5, wl, rfl, ⟨_, SqL.of W.hl⟩, fun D hD => ?_⟩
  refine lc_list (K := K) (g := gName 8) (tt := tYes) (vs := [8]) (σ := σ) (Qd := fun H' => Q (.ref D) H') (te := fun σ' H Q => ∃ (f : Addr) (i : Nat × Option Addr × Addr), σ'[8]? = some (some (.ref f)) ∧ H f = some (LamO f (lFam (XL P w K mg base f (.ref cT) A outer s H0 E) le i)) ∧ H (lFam (XL P w K mg base f (.ref cT) A outer s H0 E) le i).c = some (CodeO (lFam (XL P w K mg base f (.ref cT) A outer s H0 E) le i).c (lFam (XL P w K mg base f (.ref cT) A outer s H0 E) le i).q) ∧ GD (le i.1) i.2.1 H ∧ ts i.1 σ H Q) (xs := fs.map V.ref) (fun i H' => ∃ ls, Fnd ds ss H H' D ls i) ⟨[], same_upd hD, upd_same, rfl, fun k l h => by simp at h, List.nodup_nil⟩ (fun i H' _ hP => by obtain ⟨ls, F⟩ := hP; exact SqL.of (F.sm _ _ W.hl)) ?_ ?_
  · rintro i x H1 hx ⟨ls, F⟩
    have hi : i < fs.length := by
      have := (List.getElem?_eq_some_iff.mp hx).1
      rwa [List.length_map] at this
    obtain rfl : x = .ref fs[i] := by
      rw [List.getElem?_map, List.getElem?_eq_getElem hi] at hx
      exact (Option.some.inj hx).symm
    refine ⟨?_, ?_⟩
    · show (((σ.set 8 none).set 8 (some (.ref fs[i]))).set 8 none) = σ.set 8 none
      rw [List.set_set, List.set_set]
    · refine lc_keep ?_
      obtain ⟨t, c, k1, k2, k3⟩ := (W.all i _ (List.getElem?_eq_getElem hi)).extN (ExtN.of F.sm)
      refine ⟨fs[i], (i, t, c), ?_, k1, k2, k3, ?_⟩
      · show ((σ.set 8 none).set 8 (some (.ref fs[i])))[8]? = _
        exact List.getElem?_set_self (by rw [List.length_set, hlen]; decide)
      refine hq i σ H1 _ p dx td ts' ds ss (by have := W.len; omega) h4 (R.same F.sm) (hf.same F.sm) fun H2 l s2 hl lv => ?_
      have hD1 := s2 _ _ F.hD
      have lD : l ≠ D := fun z => by rw [z, F.hD] at hl; cases hl
      refine ⟨_, hD1, by rw [List.length_map, F.len]; exact small1000 (by have := W.len; omega), ls ++ [l], fun b o hb => (upd_ne (ne_of_none hb hD)).trans (s2 _ _ (F.sm _ _ hb)), upd_same.trans (by simp), by rw [List.length_append, F.len]; rfl, fun k m hk => ?_, ?_⟩
      · rcases get_snoc hk with hk | ⟨e, rfl⟩
        · obtain ⟨a1, a2, a3⟩ := F.all k m hk
          exact ⟨a1, a2, (a3.same s2).put a2 hD1⟩
        · rw [e, F.len]
          refine ⟨?_, lD, lv.put lD hD1⟩
          cases e2 : H l with
          | none => rfl
          | some o => have z := F.sm _ _ e2; rw [hl] at z; cases z
      · refine List.nodup_append.mpr ⟨F.nd, by simp, fun x hx y hy => ?_⟩
        have hy := List.mem_singleton.mp hy
        subst hy
        intro e
        subst e
        obtain ⟨k, hk⟩ := List.getElem?_of_mem hx
        obtain ⟨_, _, xs, a3, _⟩ := F.all k _ hk
        rw [hl] at a3
        cases a3
  · rintro H1 ⟨ls, F⟩
    rw [List.length_map, W.len] at F
    exact q H1 D ls hD F
end
end Rp
namespace Rp
open PySem PySem.Spec PyProof.Rows L2 Rz Rm Rl LamX
structure B3 (K : PySem.W.Frag) (C : Addr) (H : Hp) (p dx td ts : Addr) (ds ss : List Int) : Prop where
  R : RingAt C H p dx td ts ds ss
  f : Tf H td (ds.map V.int)
theorem B3.same {K : PySem.W.Frag} {C : Addr} {H H' : Hp} {p dx td ts : Addr} {ds ss : List Int} (b : B3 K C H p dx td ts ds ss) (s : Same H H') : B3 K C H' p dx td ts ds ss := ⟨b.R.same s, b.f.same s⟩
theorem B3.extN {K : PySem.W.Frag} {C : Addr} {H H' : Hp} {p dx td ts : Addr} {ds ss : List Int} (b : B3 K C H p dx td ts ds ss) (s : ExtN H H') : B3 K C H' p dx td ts ds ss := by
  refine ⟨⟨s _ _ b.R.ob (by intro ps z; cases z), ?_, ?_, b.R.ok⟩, ?_⟩
  · exact b.R.td.elim (fun e => .inl (s _ _ e (by intro ps z; cases z))) fun ⟨o, d, e⟩ => .inr ⟨o, d, s _ _ e (by intro ps z; cases z)⟩
  · exact b.R.ts.elim (fun e => .inl (s _ _ e (by intro ps z; cases z))) fun ⟨o, d, e⟩ => .inr ⟨o, d, s _ _ e (by intro ps z; cases z)⟩
  · obtain ⟨o, d, e⟩ := b.f
    exact ⟨o, d, s _ _ e (by intro ps z; cases z)⟩
section
variable {P : Program} {w : World} {K : PySem.W.Frag} {mg : Str → Option Value} {base : Heap}
variable {f : Addr} {cT PT : Addr} {A : Around} {outer : List Env} {s : Shared} {H0 : Hp} {E : XK}
theorem lx_b1 (T : Tx K mg) (hr : Room 11 (XL P w K mg base f (.ref cT) A outer s H0 E).A) : ∃ tt : TS, PS (XL P w K mg base f (.ref cT) A outer s H0 E) (bs 1) tt ∧
    ∀ (D : Ends) (H : Hp) (a : Addr) (row : Addr) (ns : List Int) (y2 y3 y4 y5 y6 y7 y8 y9 y10 : Option V), RowAt K H row a ns → Tabs [(PT, (XL P w K mg base f (.ref cT) A outer s H0 E).env.qual ++ "<lambda>")] H →
      (∀ H' td ts' ds ss, Good ds ss → Tabs [(PT, (XL P w K mg base f (.ref cT) A outer s H0 E).env.qual ++ "<lambda>")] H' → Tf H' td (ds.map V.int) → Tf H' ts' (ss.map V.int) → D.nx [some (.ref a), (some (.ref row)), (some (.ref td)), (some (.ref ts')), y4, y5, y6, y7, y8, y9, y10] H') →
      tt D [some (.ref a), (some (.ref row)), y2, y3, y4, y5, y6, y7, y8, y9, y10] H := by
  have nd := sc_law.nd
  refine ⟨_, ps_asg (pe_call (ok_ring T) (hr.mono (by decide : 2 ≤ 11)) (by rfl) T.g_lring T.F_lring.kp T.b_lring .nil pass0 (pa_cons (pv 1) (pa_cons pe_int (pa_cons pe_int pa_nil)))) (pg_tup rfl (pgs_cons (pg_name (i := 2) nd rfl (.inl rfl)) (pgs_cons (pg_name (i := 3) nd rfl (.inl rfl)) pgs_nil))), ?_⟩
  intro D H a row ns y2 y3 y4 y5 y6 y7 y8 y9 y10 RA tb nx
  refine ⟨_, rfl, row, a, ns, 5, 9, rfl, RA, by decide, by decide, by decide, by decide, fun H3 t td ts' ds ss G RA3 k3 ht htd hts => ?_⟩
  refine ⟨t, _, rfl, .of ht, rfl, _, _, rfl, _, _, rfl, rfl, ?_⟩
  refine nx H3 td ts' ds ss G (fun pr hp => ?_) htd hts
  obtain ⟨_, _, _, hrow, _⟩ := RA.ob
  obtain ⟨ps, h1, h2, h3⟩ := tb pr hp
  refine ⟨ps, k3 _ _ h1 (fun e => by rw [e, hrow] at h1; cases h1), h2, fun pos cv hc => ?_⟩
  obtain ⟨c, e1, e2⟩ := h3 pos cv hc
  refine ⟨c, e1, k3 _ _ e2 (fun e => ?_)⟩
  rw [e, hrow] at e2
  unfold CodeO at e2
  cases e2
theorem lx_b2 (T : Tx K mg) (hr : Room 11 (XL P w K mg base f (.ref cT) A outer s H0 E).A) : ∃ tt : TS, PS (XL P w K mg base f (.ref cT) A outer s H0 E) (bs 2) tt ∧
    ∀ (D : Ends) (H : Hp) (a : Addr) (row td ts' : Addr) (ds ss : List Int) (y4 y5 y6 y7 y8 y9 y10 : Option V), Good ds ss → Tabs [(PT, (XL P w K mg base f (.ref cT) A outer s H0 E).env.qual ++ "<lambda>")] H → Tf H td (ds.map V.int) → Tf H ts' (ss.map V.int) →
      (∀ H' p dx, Tabs [(PT, (XL P w K mg base f (.ref cT) A outer s H0 E).env.qual ++ "<lambda>")] H' → B3 K T.C H' p dx td ts' ds ss → Tf H' ts' (ss.map V.int) → D.nx [some (.ref a), (some (.ref row)), (some (.ref td)), (some (.ref ts')), (some (.ref p)), y5, y6, y7, y8, y9, y10] H') →
      tt D [some (.ref a), (some (.ref row)), (some (.ref td)), (some (.ref ts')), y4, y5, y6, y7, y8, y9, y10] H := by
  have nd := sc_law.nd
  refine ⟨_, ps_set (i := 4) nd rfl (.inr rfl) (pe_make T.mkR (ok_init T) (hr.mono (by decide : 5 ≤ 11)) (by rfl) T.gC T.b_rinit .nil pass0 (pa_cons (pv 2) (pa_cons (pv 3) pa_nil))), ?_⟩
  intro D H a row td ts' ds ss y4 y5 y6 y7 y8 y9 y10 G tb htd hts nx
  refine ⟨_, rfl, _, rfl, fun p dx np ndx ne => ?_⟩
  have s0 : Same H (upd (upd H dx (.own p)) p (.ins T.C dx [])) := fun b o e => by
    rw [upd_ne (ne_of_none e np), upd_ne (ne_of_none e ndx)]
    exact e
  refine ⟨p, dx, td, ts', ds, ss, rfl, upd_same, (htd.same s0).tq, (hts.same s0).tq, G, fun H3 R3 k3 => ⟨rfl, ?_⟩⟩
  have s3 : Same H H3 := Same.made np ndx k3
  exact nx _ p dx (tb.ext s3) ⟨R3, htd.same s3⟩ (hts.same s3)
theorem lx_b3 (T : Tx K mg) (TB : TabB base mg cT PT) (hr : Room 11 (XL P w K mg base f (.ref cT) A outer s H0 E).A) : ∃ tt : TS, PS (XL P w K mg base f (.ref cT) A outer s H0 E) (bs 3) tt ∧
    ∀ (D : Ends) (H : Hp) (a : Addr) (row p dx td ts' : Addr) (ds ss : List Int) (y5 y6 y7 y8 y9 y10 : Option V), B3 K T.C H p dx td ts' ds ss → Tf H ts' (ss.map V.int) → Tabs [(PT, (XL P w K mg base f (.ref cT) A outer s H0 E).env.qual ++ "<lambda>")] H →
      (∀ H' wl fs, B3 K T.C H' p dx td ts' ds ss → Tf H' ts' (ss.map V.int) → Wk ((XL P w K mg base f (.ref cT) A outer s H0 E).env.qual ++ "<lambda>") (XL P w K mg base f (.ref cT) A outer s H0 E).env.cells H' wl fs → D.nx [some (.ref a), (some (.ref row)), (some (.ref td)), (some (.ref ts')), (some (.ref p)), (some (.ref wl)), y6, y7, y8, y9, y10] H') →
      tt D [some (.ref a), (some (.ref row)), (some (.ref td)), (some (.ref ts')), (some (.ref p)), y5, y6, y7, y8, y9, y10] H := by
  have nd := sc_law.nd
  refine ⟨_, ps_set (i := 5) nd rfl (.inl rfl) (pe_lst (pa_cons (pe_lam0 TB rfl (List.mem_singleton.mpr rfl) (fun q hq _ => by rw [List.mem_singleton.mp hq]) (fun y hy z => (lamP_by (N := N_law) (sc := defScope s_law) (by decide +kernel)).free y hy z) rfl) (pa_cons (pe_lam1 TB rfl (List.mem_singleton.mpr rfl) (fun q hq _ => by rw [List.mem_singleton.mp hq]) (fun y hy z => (lamP_by (N := N_law) (sc := defScope s_law) (by decide +kernel)).free y hy z) rfl rfl) (pa_cons (pe_lam1 TB rfl (List.mem_singleton.mpr rfl) (fun q hq _ => by rw [List.mem_singleton.mp hq]) (fun y hy z => (lamP_by (N := N_law) (sc := defScope s_law) (by decide +kernel)).free y hy z) rfl rfl) pa_nil)))), ?_⟩
  intro D H a row p dx td ts' ds ss y5 y6 y7 y8 y9 y10 B ht tb nx
  refine ⟨tb, fun f0 c0 H1 x1 tb1 _ k1 k1c => ⟨tb1, fun f1 c1 t1 H2 x2 tb2 _ kt2 k2 k2c => ⟨tb2, fun f2 c2 t2 H3 x3 tb3 _ kt3 k3 k3c => ⟨(by show 3 ≤ sizeLine; decide), fun wl hwl => ?_⟩⟩⟩⟩
  have s4 := same_upd (o := .lst [.ref f0, .ref f1, .ref f2]) hwl
  have a0 : KLat ((XL P w K mg base f (.ref cT) A outer s H0 E).env.qual ++ "<lambda>") (XL P w K mg base f (.ref cT) A outer s H0 E).env.cells H1 (le 0) f0 := ⟨none, c0, k1, k1c, bd0⟩
  have a1 : KLat ((XL P w K mg base f (.ref cT) A outer s H0 E).env.qual ++ "<lambda>") (XL P w K mg base f (.ref cT) A outer s H0 E).env.cells H2 (le 1) f1 := ⟨some t1, c1, k2, k2c, bd1, kt2⟩
  have a2 : KLat ((XL P w K mg base f (.ref cT) A outer s H0 E).env.qual ++ "<lambda>") (XL P w K mg base f (.ref cT) A outer s H0 E).env.cells H3 (le 2) f2 := ⟨some t2, c2, k3, k3c, bd2, kt3⟩
  have X := (x1.trans x2).trans x3
  have ht3 : Tf H3 ts' (ss.map V.int) := by
    obtain ⟨o, d, e⟩ := ht
    exact ⟨o, d, X _ _ e (by intro ps z; cases z)⟩
  refine nx _ wl [f0, f1, f2] ((B.extN X).same s4) (ht3.same s4) ⟨upd_same, rfl, fun j f h => ?_⟩
  match j, h with
  | 0, h => cases h; exact a0.extN ((x2.trans x3).trans (ExtN.of s4))
  | 1, h => cases h; exact a1.extN (x3.trans (ExtN.of s4))
  | 2, h => cases h; exact a2.extN (ExtN.of s4)
  | _ + 3, h => simp at h
theorem lx_b4 (T : Tx K mg) (hr : Room 11 (XL P w K mg base f (.ref cT) A outer s H0 E).A) : ∃ tt : TS, PS (XL P w K mg base f (.ref cT) A outer s H0 E) (bs 4) tt ∧
    ∀ (D : Ends) (H : Hp) (a : Addr) (row p dx td ts' wl : Addr) (fs : List Addr) (ds ss : List Int) (y6 y7 y8 y9 y10 : Option V), B3 K T.C H p dx td ts' ds ss → Wk ((XL P w K mg base f (.ref cT) A outer s H0 E).env.qual ++ "<lambda>") (XL P w K mg base f (.ref cT) A outer s H0 E).env.cells H wl fs →
      (∀ H' fl ls, H fl = none → Fnd ds ss H H' fl ls 3 → D.nx [some (.ref a), (some (.ref row)), (some (.ref td)), (some (.ref ts')), (some (.ref p)), (some (.ref wl)), (some (.ref fl)), y7, y8, y9, y10] H') →
      tt D [some (.ref a), (some (.ref row)), (some (.ref td)), (some (.ref ts')), (some (.ref p)), (some (.ref wl)), y6, y7, y8, y9, y10] H := by
  have nd := sc_law.nd
  obtain ⟨ts, hb, hq⟩ := all_lt (P := P) (w := w) (base := base) (f := f) (cT := cT) (A := A) (outer := outer) (s := s) (H0 := H0) (E := E) T
  refine ⟨_, ps_setLcB (i := 6) (own := [("_law_one", 8)]) rfl nd rfl rfl (sw_true rfl rfl rfl (by decide +kernel)) (pi_list (pv 5)) (blkOk_by (own := [("_law_one", 8)]) (N := N_law) (sc := defScope s_law) (by decide +kernel)) (fun _ _ _ _ _ => pg_name (i := 8) nd rfl (.inl rfl)) (fun τ => el_actB (X := XL P w K mg base f (.ref cT) A outer s H0 E) (ι := Nat × Option Addr × Addr) (F := lFam (XL P w K mg base f (.ref cT) A outer s H0 E) le) (G := fun i H => GD (le i.1) i.2.1 H) (j := 8) (k := 9) (t := fun i => ts i.1) (fam_ok le_ok) (hr.mono (by decide : 10 ≤ 11)) (fun i A' o' s' H' f' hr2 => hb i.1 A' o' s' H' f' i.2.2 hr2) rfl (fun _ _ => .inl rfl) (by decide) (by decide) τ), ?_⟩
  intro D H a row p dx td ts' wl fs ds ss y6 y7 y8 y9 y10 B W nx
  exact call_all (P := P) (w := w) (base := base) (f := f) (cT := cT) (A := A) (outer := outer) (s := s) (H0 := H0) (E := E) hq (Q := fun v H1 => gName 6 v [some (.ref a), (some (.ref row)), (some (.ref td)), (some (.ref ts')), (some (.ref p)), (some (.ref wl)), y6, y7, y8, y9, y10] H1 D.nx) rfl rfl rfl B.R B.f W fun H' Dl ls hD F => nx H' Dl ls hD F
theorem lx_b5 (T : Tx K mg) (hr : Room 11 (XL P w K mg base f (.ref cT) A outer s H0 E).A) : ∃ tt : TS, PS (XL P w K mg base f (.ref cT) A outer s H0 E) (bs 5) tt ∧
    ∀ (D : Ends) (H : Hp) (a : Addr) (row p dx td ts' wl fl : Addr) (ls : List Addr) (ds ss : List Int) (y7 y8 y9 y10 : Option V), H fl = some (.lst (ls.map V.ref)) → ls.length = 3 → (∀ (k : Nat) (l : Addr), ls[k]? = some l → LV ds ss k H l) → Good ds ss →
      (∀ H' kl (ks : List Addr), Same H H' → H kl = none → H' kl = some (.lst (ks.map V.ref)) → ks.length = 3 → (∀ (k : Nat) (c : Addr), ks[k]? = some c → H c = none ∧ LV ds ss k H' c) → D.nx [some (.ref a), (some (.ref row)), (some (.ref td)), (some (.ref ts')), (some (.ref p)), (some (.ref wl)), (some (.ref fl)), (some (.ref kl)), y8, y9, y10] H') →
      tt D [some (.ref a), (some (.ref row)), (some (.ref td)), (some (.ref ts')), (some (.ref p)), (some (.ref wl)), (some (.ref fl)), y7, y8, y9, y10] H := by
  have nd := sc_law.nd
  refine ⟨_, ps_setLc (i := 7) (own := [("_law_one", 8)]) rfl nd rfl rfl (sw_true rfl rfl rfl (by decide +kernel)) (pi_list (pv 6)) (blkOk_by (own := [("_law_one", 8)]) (N := N_law) (sc := defScope s_law) (by decide +kernel)) (fun _ _ _ _ _ => pg_name (i := 8) nd rfl (.inl rfl)) (fun _ _ _ _ _ => pts_nil) (fun _ _ _ _ _ => pe_callTy (T := "list") (r := fun xs H Q => ∃ p ys, xs = [V.ref p] ∧ (SqL K H p ys ∨ SqT K H p ys) ∧ ∀ (l : Addr), H l = none → Q (.ref l) (upd H l (.lst ys))) call_list_of (by rfl) T.z_list (by decide +kernel) (pa_cons (pv 8) pa_nil)), ?_⟩
  intro D H a row p dx td ts' wl fl ls ds ss y7 y8 y9 y10 hfl hln hall G nx
  refine ⟨_, rfl, fl, rfl, ⟨_, .of hfl⟩, fun L hL => ?_⟩
  refine lc_list (xs := ls.map V.ref) (fun i H' => Same H H' ∧ ∃ ks : List Addr, H' L = some (.lst (ks.map V.ref)) ∧ ks.length = i ∧ ∀ (k : Nat) (c : Addr), ks[k]? = some c → H c = none ∧ c ≠ L ∧ LV ds ss k H' c) ⟨same_upd hL, [], upd_same, rfl, fun k c h => by simp at h⟩ (fun i H' _ hP => SqL.of (hP.1 _ _ hfl)) ?_ ?_
  · rintro i x H1 hx ⟨s1, ks, hks, lks, hk⟩
    have hi : i < ls.length := by
      have := (List.getElem?_eq_some_iff.mp hx).1
      rwa [List.length_map] at this
    obtain rfl : x = .ref ls[i] := by
      rw [List.getElem?_map, List.getElem?_eq_getElem hi] at hx
      exact (Option.some.inj hx).symm
    obtain ⟨xs, h1, h2⟩ := (hall i _ (List.getElem?_eq_getElem hi)).same s1
    refine ⟨rfl, lc_keep ?_⟩
    refine ⟨_, rfl, ls[i], xs, rfl, .inl (.of h1), fun c hc => ?_⟩
    have s2 := same_upd (o := .lst xs) hc
    have cL : c ≠ L := fun z => by rw [z, hks] at hc; cases hc
    have hks2 := s2 _ _ hks
    refine ⟨_, hks2, by rw [List.length_map, lks]; exact small1000 (by omega), fun b o hb => (upd_ne (ne_of_none hb hL)).trans (s2 _ _ (s1 _ _ hb)), ks ++ [c], upd_same.trans (by simp), by rw [List.length_append, lks]; rfl, fun k m hm => ?_⟩
    rcases get_snoc hm with hm | ⟨e, rfl⟩
    · obtain ⟨a1, a2, a3⟩ := hk k m hm
      exact ⟨a1, a2, (a3.same s2).put a2 hks2⟩
    · rw [e, lks]
      refine ⟨?_, cL, LV.put ⟨xs, upd_same, h2.mono fun b ys e => s2 _ _ e⟩ cL hks2⟩
      cases e2 : H c with
      | none => rfl
      | some o => have z := s1 _ _ e2; rw [hc] at z; cases z
  · rintro H1 ⟨s1, ks, hks, lks, hk⟩
    rw [List.length_map, hln] at lks
    exact nx H1 L ks s1 hL hks lks fun k c h => ⟨(hk k c h).1, (hk k c h).2.2⟩
theorem lx_b6 (T : Tx K mg) (hr : Room 11 (XL P w K mg base f (.ref cT) A outer s H0 E).A) : ∃ tt : TS, PS (XL P w K mg base f (.ref cT) A outer s H0 E) (bs 6) tt ∧
    ∀ (D : Ends) (H : Hp) (a : Addr) (row p dx td ts' wl fl kl : Addr) (ls : List Addr) (y8 y9 y10 : Option V), H fl = some (.lst (ls.map V.ref)) → fl ∉ ls → ls.Nodup → (∀ l ∈ ls, ∃ xs : List V, H l = some (.lst xs) ∧ xs.length ≤ 200000) →
      (∀ H' z8, (∀ b o, H b = some o → b ∉ ls → H' b = some o) → D.nx [some (.ref a), (some (.ref row)), (some (.ref td)), (some (.ref ts')), (some (.ref p)), (some (.ref wl)), (some (.ref fl)), (some (.ref kl)), z8, y9, y10] H') →
      tt D [some (.ref a), (some (.ref row)), (some (.ref td)), (some (.ref ts')), (some (.ref p)), (some (.ref wl)), (some (.ref fl)), (some (.ref kl)), y8, y9, y10] H := by
  have nd := sc_law.nd
  refine ⟨_, ps_for PassesOwn.never rfl (pi_list (pv 6)) (pg_name (i := 8) nd rfl (.inl rfl)) (pss_one (ps_expr (pe_bm PySem.F.plainAttrs_list PySem.F.slot_list_append PySem.F.type_list_append mt_append (pv 8) (pa_cons pe_str pa_nil)))), ?_⟩
  intro D H a row p dx td ts' wl fl kl ls y8 y9 y10 hfl nfl hnd hall nx
  refine ⟨_, rfl, fl, rfl, ⟨_, .of hfl⟩, ?_⟩
  refine for_list (xs := ls.map V.ref) (fun i σ H' => (∃ z8, σ = [some (.ref a), (some (.ref row)), (some (.ref td)), (some (.ref ts')), (some (.ref p)), (some (.ref wl)), (some (.ref fl)), (some (.ref kl)), z8, y9, y10]) ∧ (∀ b o, H b = some o → b ∉ ls → H' b = some o) ∧ ∀ (k : Nat) (l : Addr), i ≤ k → ls[k]? = some l → H' l = H l) ⟨⟨_, rfl⟩, fun b o h _ => h, fun k l _ _ => rfl⟩ (fun i σ H' _ hP => .of (hP.2.1 _ _ hfl nfl)) ?_ ?_
  · rintro i x σ H1 hx ⟨⟨z8, rfl⟩, hk, hl⟩
    have hi : i < ls.length := by
      have := (List.getElem?_eq_some_iff.mp hx).1
      rwa [List.length_map] at this
    obtain rfl : x = .ref ls[i] := by
      rw [List.getElem?_map, List.getElem?_eq_getElem hi] at hx
      exact (Option.some.inj hx).symm
    obtain ⟨xs, h1, h2⟩ := hall _ (List.getElem_mem hi)
    have h3 := (hl i _ (Nat.le_refl _) (List.getElem?_eq_getElem hi)).trans h1
    show tDrop _ _ [some (.ref a), (some (.ref row)), (some (.ref td)), (some (.ref ts')), (some (.ref p)), (some (.ref wl)), (some (.ref fl)), (some (.ref kl)), (some (.ref ls[i])), y9, y10] H1
    refine ⟨_, rfl, .inl ⟨rfl, _, SqL.of h3⟩, ls[i], xs, _, rfl, rfl, h3, by rw [sizeLine_eq]; omega, ?_⟩
    refine ⟨⟨_, rfl⟩, fun b o h n => (upd_ne (fun e => n (by rw [e]; exact List.getElem_mem hi))).trans (hk b o h n), fun k l hle hk2 => ?_⟩
    have hne : l ≠ ls[i] := fun e => by
      have hk3 := (List.getElem?_eq_some_iff.mp hk2)
      obtain ⟨hk4, hk5⟩ := hk3
      have : k = i := (List.getElem_inj hnd).mp (hk5.trans e)
      omega
    exact (upd_ne hne).trans (hl k l (by omega) hk2)
  · rintro σ H1 ⟨⟨z8, rfl⟩, hk, _⟩
    exact nx H1 z8 hk
theorem lx_b7 (T : Tx K mg) (hr : Room 11 (XL P w K mg base f (.ref cT) A outer s H0 E).A) : ∃ tt : TS, PS (XL P w K mg base f (.ref cT) A outer s H0 E) (bs 7) tt ∧
    ∀ (D : Ends) (H : Hp) (a : Addr) (row p dx td ts' wl fl kl : Addr) (fs ks : List Addr) (z8 : Option V) (ds ss : List Int) (y9 y10 : Option V), B3 K T.C H p dx td ts' ds ss → Wk ((XL P w K mg base f (.ref cT) A outer s H0 E).env.qual ++ "<lambda>") (XL P w K mg base f (.ref cT) A outer s H0 E).env.cells H wl fs → H kl = some (.lst (ks.map V.ref)) → ks.length = 3 → (∀ (k : Nat) (c : Addr), ks[k]? = some c → LV ds ss k H c) →
      (∀ H', Same H H' → D.nx [some (.ref a), (some (.ref row)), (some (.ref td)), (some (.ref ts')), (some (.ref p)), (some (.ref wl)), (some (.ref fl)), (some (.ref kl)), z8, y9, y10] H') →
      tt D [some (.ref a), (some (.ref row)), (some (.ref td)), (some (.ref ts')), (some (.ref p)), (some (.ref wl)), (some (.ref fl)), (some (.ref kl)), z8, y9, y10] H := by
  have nd := sc_law.nd
  obtain ⟨ts, hb, hq⟩ := all_lt (P := P) (w := w) (base := base) (f := f) (cT := cT) (A := A) (outer := outer) (s := s) (H0 := H0) (E := E) T
  refine ⟨_, ps_if (pt_not (pt_val (pe_call (ok_likeD T 3) (hr.mono (by decide : 4 ≤ 11)) (by rfl) T.g_llike T.F_llike.kp T.b_llike .nil pass0 (pa_cons (pe_lcB (own := [("_law_one", 8)]) rfl nd (pi_list (pv 5)) (blkOk_by (own := [("_law_one", 8)]) (N := N_law) (sc := defScope s_law) (by decide +kernel)) (fun _ _ _ _ _ => pg_name (i := 8) nd rfl (.inl rfl)) (fun τ => el_actB (X := XL P w K mg base f (.ref cT) A outer s H0 E) (ι := Nat × Option Addr × Addr) (F := lFam (XL P w K mg base f (.ref cT) A outer s H0 E) le) (G := fun i H => GD (le i.1) i.2.1 H) (j := 8) (k := 9) (t := fun i => ts i.1) (fam_ok le_ok) (hr.mono (by decide : 10 ≤ 11)) (fun i A' o' s' H' f' hr2 => hb i.1 A' o' s' H' f' i.2.2 hr2) rfl (fun _ _ => .inl rfl) (by decide) (by decide) τ)) (pa_cons (pv 7) pa_nil))))) (pss_one (ps_ret pe_bl)) pss_nil, ?_⟩
  intro D H a row p dx td ts' wl fl kl fs ks z8 ds ss y9 y10 B W hkl lks hks nx
  unfold tIfS tNot tB tCall tCons
  refine call_all (P := P) (w := w) (base := base) (f := f) (cT := cT) (A := A) (outer := outer) (s := s) (H0 := H0) (E := E) hq (σ := [some (.ref a), (some (.ref row)), (some (.ref td)), (some (.ref ts')), (some (.ref p)), (some (.ref wl)), (some (.ref fl)), (some (.ref kl)), z8, y9, y10]) rfl rfl rfl B.R B.f W fun H' Dl ls hD F => ?_
  refine ⟨_, rfl, _, _, rfl, .inr ⟨Dl, kl, _, _, rfl, rfl, .inr ⟨F.hD, F.sm _ _ hkl⟩, by rw [List.length_map, List.length_map, lks, F.len], by rw [List.length_map, F.len]; decide, fun i x y hx hy => ?_⟩, fun H2 s2 => ⟨_, rfl, ?_⟩⟩
  · have h1 : i < ls.length := by have := (List.getElem?_eq_some_iff.mp hx).1; rwa [List.length_map] at this
    have h2 : i < ks.length := by have := (List.getElem?_eq_some_iff.mp hy).1; rwa [List.length_map] at this
    rw [List.getElem?_map, List.getElem?_eq_getElem h1] at hx
    rw [List.getElem?_map, List.getElem?_eq_getElem h2] at hy
    cases hx
    cases hy
    exact LV.like B.R.ok (F.all i _ (List.getElem?_eq_getElem h1)).2.2 ((hks i _ (List.getElem?_eq_getElem h2)).same F.sm)
  · exact iteF (nx H2 (F.sm.trans s2))
theorem lx_b8 (T : Tx K mg) (hr : Room 11 (XL P w K mg base f (.ref cT) A outer s H0 E).A) : ∃ tt : TS, PS (XL P w K mg base f (.ref cT) A outer s H0 E) (bs 8) tt ∧
    ∀ (D : Ends) (H : Hp) (a : Addr) (row p dx td ts' wl fl kl : Addr) (z8 : Option V) (ds ss : List Int) (M : Int) (y9 y10 : Option V), B3 K T.C H p dx td ts' ds ss → M ∈ ds → (∀ y ∈ ds, y ≤ M) →
      (∀ H' r1, Same H H' → RW ds ss M H' r1 → D.nx [some (.ref a), (some (.ref row)), (some (.ref td)), (some (.ref ts')), (some (.ref p)), (some (.ref wl)), (some (.ref fl)), (some (.ref kl)), z8, (some (.ref r1)), y10] H') →
      tt D [some (.ref a), (some (.ref row)), (some (.ref td)), (some (.ref ts')), (some (.ref p)), (some (.ref wl)), (some (.ref fl)), (some (.ref kl)), z8, y9, y10] H := by
  have nd := sc_law.nd
  refine ⟨_, ps_set (i := 9) nd rfl (.inl rfl) (pe_lst (pa_cons (pe_callI (pv 4) T.callC ((ok_call T).raw T.b_rcall .nil) (hr.mono (by decide : 4 ≤ 11)) pass0 (pa_cons pe_int (pa_cons pe_int pa_nil))) (pa_cons (pe_call (ok_heap T) (hr.mono (by decide : 6 ≤ 11)) (by rfl) T.g_heap_on T.F_heap_on.kp T.b_heap_on .nil pass0 (pa_cons (pv 4) (pa_cons pe_int (pa_cons pe_int pa_nil)))) (pa_cons (pe_call (ok_book T) (hr.mono (by decide : 5 ≤ 11)) (by rfl) T.g_book_of T.F_book_of.kp T.b_book_of .nil pass0 (pa_cons (pv 4) (pa_cons pe_int (pa_cons pe_int pa_nil)))) (pa_cons (pe_call (ok_settled T) (hr.mono (by decide : 5 ≤ 11)) (by rfl) T.g_settled T.F_settled.kp T.b_settled .nil pass0 (pa_cons (pv 4) pa_nil)) (pa_cons (pe_call (ok_longest T) (hr.mono (by decide : 6 ≤ 11)) (by rfl) T.g_longest_heap T.F_longest_heap.kp T.b_longest_heap .nil pass0 (pa_cons (pv 4) (pa_cons pe_int pa_nil))) pa_nil)))))), ?_⟩
  intro D H a row p dx td ts' wl fl kl z8 ds ss M y9 y10 B hM hMu nx
  have G := B.R.ok
  have l2 := G.l2
  have b1 := G.b1
  refine ⟨_, rfl, p, rfl, ⟨dx, _, B.R.ob⟩, p, dx, td, ts', ds, ss, 0, 9, rfl, B.R, by decide, by omega, by decide, by decide, ?_⟩
  refine ⟨_, rfl, p, dx, td, ts', ds, ss, 1, 9, rfl, B.R, by decide, by omega, by decide, by decide, ?_⟩
  refine ⟨_, rfl, p, dx, td, ts', ds, ss, 1, 9, rfl, B.R, by decide, by omega, by decide, by decide, fun b H1 s1 hb => ?_⟩
  have B1 := B.same s1
  refine ⟨_, rfl, p, dx, td, ts', ds, ss, rfl, B1.R, fun M' hM' hMu' => ?_⟩
  intro H2 t n pp qq s2 ht hRp hSt
  have B2 := B1.same s2
  refine ⟨_, rfl, p, dx, td, ts', ds, ss, 0, rfl, B2.R, by decide, by omega, fun H3 L s3 hup hat => ?_⟩
  refine ⟨(by show 5 ≤ sizeLine; decide), fun r hr' => ?_⟩
  have s4 := same_upd (o := .lst [.int (Rm.E (at' ds) (at' ss) 0 9), .int (at' ss 1 + Cn (at' ds) (at' ss) (1 - 1) 9 - Cn (at' ds) (at' ss) 1 (9 + at' ds 1)), .int b, .ref t, .int L]) hr'
  have eM : M' = M := by
    have e1 := hMu' M hM
    have e2 := hMu M' hM'
    omega
  subst eM
  exact nx _ r (((s1.trans s2).trans s3).trans s4) ⟨t, b, n, pp, qq, L, upd_same, s4 _ _ (s3 _ _ ht), hb, hRp, hSt, hup, hat⟩
theorem lx_b9 (T : Tx K mg) (hr : Room 11 (XL P w K mg base f (.ref cT) A outer s H0 E).A) : ∃ tt : TS, PS (XL P w K mg base f (.ref cT) A outer s H0 E) (bs 9) tt ∧
    ∀ (D : Ends) (H : Hp) (a : Addr) (row p dx td ts' wl fl kl : Addr) (z8 : Option V) (ds ss : List Int) (M : Int) (r1 : Addr) (y10 : Option V), B3 K T.C H p dx td ts' ds ss → M ∈ ds → (∀ y ∈ ds, y ≤ M) →
      (∀ H' r2, Same H H' → RW ds ss M H' r2 → D.nx [some (.ref a), (some (.ref row)), (some (.ref td)), (some (.ref ts')), (some (.ref p)), (some (.ref wl)), (some (.ref fl)), (some (.ref kl)), z8, (some (.ref r1)), (some (.ref r2))] H') →
      tt D [some (.ref a), (some (.ref row)), (some (.ref td)), (some (.ref ts')), (some (.ref p)), (some (.ref wl)), (some (.ref fl)), (some (.ref kl)), z8, (some (.ref r1)), y10] H := by
  have nd := sc_law.nd
  refine ⟨_, ps_set (i := 10) nd rfl (.inl rfl) (pe_lst (pa_cons (pe_callI (pv 4) T.callC ((ok_call T).raw T.b_rcall .nil) (hr.mono (by decide : 4 ≤ 11)) pass0 (pa_cons pe_int (pa_cons pe_int pa_nil))) (pa_cons (pe_call (ok_heap T) (hr.mono (by decide : 6 ≤ 11)) (by rfl) T.g_heap_on T.F_heap_on.kp T.b_heap_on .nil pass0 (pa_cons (pv 4) (pa_cons pe_int (pa_cons pe_int pa_nil)))) (pa_cons (pe_call (ok_book T) (hr.mono (by decide : 5 ≤ 11)) (by rfl) T.g_book_of T.F_book_of.kp T.b_book_of .nil pass0 (pa_cons (pv 4) (pa_cons pe_int (pa_cons pe_int pa_nil)))) (pa_cons (pe_call (ok_settled T) (hr.mono (by decide : 5 ≤ 11)) (by rfl) T.g_settled T.F_settled.kp T.b_settled .nil pass0 (pa_cons (pv 4) pa_nil)) (pa_cons (pe_call (ok_longest T) (hr.mono (by decide : 6 ≤ 11)) (by rfl) T.g_longest_heap T.F_longest_heap.kp T.b_longest_heap .nil pass0 (pa_cons (pv 4) (pa_cons pe_int pa_nil))) pa_nil)))))), ?_⟩
  intro D H a row p dx td ts' wl fl kl z8 ds ss M r1 y10 B hM hMu nx
  have G := B.R.ok
  have l2 := G.l2
  have b1 := G.b1
  refine ⟨_, rfl, p, rfl, ⟨dx, _, B.R.ob⟩, p, dx, td, ts', ds, ss, 0, 9, rfl, B.R, by decide, by omega, by decide, by decide, ?_⟩
  refine ⟨_, rfl, p, dx, td, ts', ds, ss, 1, 9, rfl, B.R, by decide, by omega, by decide, by decide, ?_⟩
  refine ⟨_, rfl, p, dx, td, ts', ds, ss, 1, 9, rfl, B.R, by decide, by omega, by decide, by decide, fun b H1 s1 hb => ?_⟩
  have B1 := B.same s1
  refine ⟨_, rfl, p, dx, td, ts', ds, ss, rfl, B1.R, fun M' hM' hMu' => ?_⟩
  intro H2 t n pp qq s2 ht hRp hSt
  have B2 := B1.same s2
  refine ⟨_, rfl, p, dx, td, ts', ds, ss, 0, rfl, B2.R, by decide, by omega, fun H3 L s3 hup hat => ?_⟩
  refine ⟨(by show 5 ≤ sizeLine; decide), fun r hr' => ?_⟩
  have s4 := same_upd (o := .lst [.int (Rm.E (at' ds) (at' ss) 0 9), .int (at' ss 1 + Cn (at' ds) (at' ss) (1 - 1) 9 - Cn (at' ds) (at' ss) 1 (9 + at' ds 1)), .int b, .ref t, .int L]) hr'
  have eM : M' = M := by
    have e1 := hMu' M hM
    have e2 := hMu M' hM'
    omega
  subst eM
  exact nx _ r (((s1.trans s2).trans s3).trans s4) ⟨t, b, n, pp, qq, L, upd_same, s4 _ _ (s3 _ _ ht), hb, hRp, hSt, hup, hat⟩
theorem lx_b10 (T : Tx K mg) (hr : Room 11 (XL P w K mg base f (.ref cT) A outer s H0 E).A) : ∃ tt : TS, PS (XL P w K mg base f (.ref cT) A outer s H0 E) (bs 10) tt ∧
    ∀ (D : Ends) (H : Hp) (a : Addr) (row p dx td ts' wl fl kl : Addr) (z8 : Option V) (ds ss : List Int) (M : Int) (r1 r2 : Addr), B3 K T.C H p dx td ts' ds ss → Tf H ts' (ss.map V.int) → RW ds ss M H r1 → RW ds ss M H r2 →
      (∀ H', D.rt (.bl true) H') →
      tt D [some (.ref a), (some (.ref row)), (some (.ref td)), (some (.ref ts')), (some (.ref p)), (some (.ref wl)), (some (.ref fl)), (some (.ref kl)), z8, (some (.ref r1)), (some (.ref r2))] H := by
  have nd := sc_law.nd
  refine ⟨_, ps_ret (pe_and (pe_cmpR (op_eqD hr.units) (pv 9) (pv 10) (nomark _)) (pe_one (pe_cmpR (op_eqG (rcG_ins (ok_eq T) T.eqC T.eqF T.b_req pass0) (hr.mono (by decide : 2 ≤ 11))) (pv 4) (pe_make T.mkR (ok_init T) (hr.mono (by decide : 5 ≤ 11)) (by rfl) T.gC T.b_rinit .nil pass0 (pa_cons (pv 2) (pa_cons (pv 3) pa_nil))) (nomark _)))), ?_⟩
  intro D H a row p dx td ts' wl fl kl z8 ds ss M r1 r2 B ht h1 h2 nx
  obtain ⟨d, d1, d2, d3, d4⟩ := h1.eq (K := K) B.R.ok h2
  refine ⟨_, rfl, _, rfl, d, d, d1, d2, d3, d3, ?_⟩
  rw [d4]
  refine ⟨true, rfl, iteT ?_⟩
  refine ⟨_, rfl, _, rfl, _, rfl, fun p2 dx2 np ndx ne => ?_⟩
  have s0 : Same H (upd (upd H dx2 (.own p2)) p2 (.ins T.C dx2 [])) := fun b o e => by
    rw [upd_ne (ne_of_none e np), upd_ne (ne_of_none e ndx)]
    exact e
  refine ⟨p2, dx2, td, ts', ds, ss, rfl, upd_same, (B.f.same s0).tq, (ht.same s0).tq, B.R.ok, fun H3 R3 k3 => ⟨rfl, ?_⟩⟩
  have s3 : Same H H3 := Same.made np ndx k3
  exact ⟨⟨p, p2, _, _, _, _, rfl, rfl, (B.R.same s3).ob, R3.ob, _, _, _, _, _, _, ds, ss, B.R.same s3, R3⟩, fun H4 s4 => nx H4⟩
end
end Rp
namespace Rp
open PySem PySem.Spec PyProof.Rows L2 Rz Rm Rl LamX
section
variable {P : Program} {w : World} {K : PySem.W.Frag} {mg : Str → Option Value} {base : Heap}
/-- a def whose code object is known -/
structure FunC (K : PySem.W.Frag) (x qual : Str) (st : Stmt) (f : Addr) (fd : FuncData) (cd : Value) : Prop where
  ex : ∃ (oc : Value) (od : Option Addr) (kV doc pm : Value) (an : Option Addr) (ct : Value) (osl : Array (Option Value)),
    fd = PySem.W.fnOf x qual (defArgs st) (defBody st) (defScope st) .none kV doc pm an cd ct ∧ K.lookup f = some ⟨oc, od, .func fd, osl⟩ ∧ PySem.W.codeIn K cd qual = true
theorem FunC.ok {P : Program} {w : World} {K : PySem.W.Frag} {mg : Str → Option Value} {base : Heap} {x qual : Str} {st : Stmt} {f : Addr} {fd : FuncData} {cd : Value} {N ps : List Str} {k : Nat} {sp : Sp} (F : FunC K x qual st f fd cd) (S : FnScope N ps (defScope st)) (len : ∀ vs H Q E, sp vs H Q E → vs.length = ps.length)
    (hbody : ∀ (A : Around) (outer : List Env) (s : Shared) (H : Hp) (vs : List V) (Q : VK) (E : XK), Room k (A.deeper (envOfC qual (defScope st) s.heap.objs.size f cd)) → sp vs H Q E →
      ∃ t, PSs (cxOf CX0 P w K mg base N qual (defScope st) f cd A outer s H E).nox (defBody st) t ∧ t { nx := fun _ H' => Q .non H', rt := Q } (start N vs) H) : FnOk P w K mg base CX0 (k + 1) f fd ps sp := by
  obtain ⟨oc, od, kV, doc, pm, an, ct, osl, rfl, lk, hcd⟩ := F.ex
  refine fn_of lk hcd S len fun A outer s H vs Q E hr hsp => ?_
  obtain ⟨t, h, q⟩ := hbody A outer s H vs Q E hr hsp
  exact ⟨t, h.nox, q⟩
def spLawL (K : PySem.W.Frag) (PT : Addr) : Sp := fun vs H Q _ => ∃ (a : Addr) (ns : List Int), vs = [.ref a] ∧ SqL K H a (ns.map V.int) ∧ ns.length ≤ 63 ∧ H PT = some (.tbl #[]) ∧ ∀ H', Q (.bl true) H'
theorem ok_law {cT PT : Addr} (T : Tx K mg) (TB : TabB base mg cT PT) (FC : FunC K "law" "law" s_law T.a_law T.d_law (.ref cT)) : FnOk P w K mg base CX0 12 T.a_law T.d_law P_law (spLawL K PT) := by
  refine FC.ok sc_law (fun vs H Q E h => ?_) (fun A outer s H vs Q E hr h => ?_)
  · obtain ⟨a, ns, rfl, _⟩ := h
    rfl
  · obtain ⟨a, ns, rfl, hS, hlen, hP, q⟩ := h
    have hr1 : Room 1 _ := hr.mono (by decide)
    have nd := sc_law.nd
    obtain ⟨u1, q1, v1⟩ := lx_b1 (P := P) (w := w) (base := base) (f := T.a_law) (cT := cT) (PT := PT) (A := A) (outer := outer) (s := s) (H0 := H) (E := E) T hr
    obtain ⟨u2, q2, v2⟩ := lx_b2 (P := P) (w := w) (base := base) (f := T.a_law) (cT := cT) (PT := PT) (A := A) (outer := outer) (s := s) (H0 := H) (E := E) T hr
    obtain ⟨u3, q3, v3⟩ := lx_b3 (P := P) (w := w) (base := base) (f := T.a_law) (cT := cT) (PT := PT) (A := A) (outer := outer) (s := s) (H0 := H) (E := E)  T TB hr
    obtain ⟨u4, q4, v4⟩ := lx_b4 (P := P) (w := w) (base := base) (f := T.a_law) (cT := cT) (A := A) (outer := outer) (s := s) (H0 := H) (E := E) T hr
    obtain ⟨u5, q5, v5⟩ := lx_b5 (P := P) (w := w) (base := base) (f := T.a_law) (cT := cT) (A := A) (outer := outer) (s := s) (H0 := H) (E := E) T hr
    obtain ⟨u6, q6, v6⟩ := lx_b6 (P := P) (w := w) (base := base) (f := T.a_law) (cT := cT) (A := A) (outer := outer) (s := s) (H0 := H) (E := E) T hr
    obtain ⟨u7, q7, v7⟩ := lx_b7 (P := P) (w := w) (base := base) (f := T.a_law) (cT := cT) (A := A) (outer := outer) (s := s) (H0 := H) (E := E) T hr
    obtain ⟨u8, q8, v8⟩ := lx_b8 (P := P) (w := w) (base := base) (f := T.a_law) (cT := cT) (A := A) (outer := outer) (s := s) (H0 := H) (E := E) T hr
    obtain ⟨u9, q9, v9⟩ := lx_b9 (P := P) (w := w) (base := base) (f := T.a_law) (cT := cT) (A := A) (outer := outer) (s := s) (H0 := H) (E := E) T hr
    obtain ⟨u10, q10, v10⟩ := lx_b10 (P := P) (w := w) (base := base) (f := T.a_law) (cT := cT) (A := A) (outer := outer) (s := s) (H0 := H) (E := E) T hr
    refine ⟨_, pss_cons (ps_set (i := 1) nd rfl (.inl rfl) (pe_call (ok_dice T) hr1 (by rfl) T.g_ldice T.F_ldice.kp T.b_ldice .nil pass0 (pa_cons (pv 0) pa_nil)))
      (pss_cons q1 (pss_cons q2 (pss_cons q3 (pss_cons q4 (pss_cons q5 (pss_cons q6 (pss_cons q7 (pss_cons q8 (pss_cons q9 (pss_one q10)))))))))), ?_⟩
    have tb0 : Tabs [(PT, (XL P w K mg base T.a_law (.ref cT) A outer s H E).env.qual ++ "<lambda>")] H := fun p hp => by
      cases List.mem_singleton.mp hp
      exact TabS.nil hP
    refine ⟨_, rfl, a, ns, rfl, hS, fun H1 row RA1 s1 => ?_⟩
    show tSeq _ _ _ [some (.ref a), some (.ref row), none, none, none, none, none, none, none, none, none] H1
    refine v1 _ H1 a row ns none none none none none none none none none RA1 (tb0.ext s1) fun H2 td ts' ds ss G tb2 htd hts => ?_
    obtain ⟨M, hM, hMu⟩ := G.max
    refine v2 _ H2 a row td ts' ds ss none none none none none none none G tb2 htd hts fun H3 p dx tb3 B3' ht3 => ?_
    refine v3 _ H3 a row p dx td ts' ds ss none none none none none none B3' ht3 tb3 fun H4 wl fs B4 ht4 W4 => ?_
    refine v4 _ H4 a row p dx td ts' wl fs ds ss none none none none none B4 W4 fun H5 fl ls hfl F => ?_
    refine v5 _ H5 a row p dx td ts' wl fl ls ds ss none none none none F.hD F.len (fun k l h => (F.all k l h).2.2) G fun H6 kl ks s6 hkl0 hkl lks hks => ?_
    have nfl : fl ∉ ls := fun h => by
      obtain ⟨k, hk⟩ := List.getElem?_of_mem h
      exact (F.all k _ hk).2.1 rfl
    refine v6 _ H6 a row p dx td ts' wl fl kl ls none none none (s6 _ _ F.hD) nfl F.nd (fun l h => ?_) fun H7 z8 k7 => ?_
    · obtain ⟨k, hk⟩ := List.getElem?_of_mem h
      obtain ⟨xs, h1, h2⟩ := ((F.all k _ hk).2.2).same s6
      exact ⟨xs, h1, h2.len G⟩
    have s47 : Same H4 H7 := fun b o hb => k7 b o (s6 _ _ (F.sm _ _ hb)) (fun h => by
      obtain ⟨k, hk⟩ := List.getElem?_of_mem h
      have z := (F.all k _ hk).1
      rw [hb] at z
      cases z)
    have fr : ∀ c, H5 c = none → c ∉ ls := fun c hc h => by
      obtain ⟨k, hk⟩ := List.getElem?_of_mem h
      obtain ⟨_, _, xs, h1, _⟩ := F.all k _ hk
      rw [hc] at h1
      cases h1
    have kt : ∀ b ys, H6 b = some (.tup ys) → H7 b = some (.tup ys) := fun b ys hb => k7 b _ hb (fun h => by
      obtain ⟨k, hk⟩ := List.getElem?_of_mem h
      obtain ⟨_, _, xs, h1, _⟩ := F.all k _ hk
      have z := s6 _ _ h1
      rw [hb] at z
      cases z)
    have B7 := B4.same s47
    refine v7 _ H7 a row p dx td ts' wl fl kl fs ks z8 ds ss none none B7 (W4.extN (ExtN.of s47)) (k7 _ _ hkl (fr _ hkl0)) lks (fun k c h => ?_) fun H8 s8 => ?_
    · obtain ⟨h0, xs, h1, h2⟩ := hks k c h
      exact ⟨xs, k7 _ _ h1 (fr _ h0), h2.mono kt⟩
    have B8 := B7.same s8
    refine v8 _ H8 a row p dx td ts' wl fl kl z8 ds ss M none none B8 hM hMu fun H9 r1 s9 R1 => ?_
    have B9 := B8.same s9
    refine v9 _ H9 a row p dx td ts' wl fl kl z8 ds ss M r1 none B9 hM hMu fun H10 r2 s10 R2 => ?_
    exact v10 _ H10 a row p dx td ts' wl fl kl z8 ds ss M r1 r2 (B9.same s10) ((((ht4.same s47).same s8).same s9).same s10) (R1.same s10) R2 fun H' => q H'
end
end Rp
namespace Rp
open PySem PySem.Spec PyProof.Rows L2 Rz Rm Rl LamX
theorem all_mk {l : PySem.W.OpenLaw} {w : World} {K : PySem.W.Frag} {h : Heap} {mg : Str → Option Value} {fa C : Addr} (X : K.In h) (G : h.Ns mainGlobals mg) (hfa : mg "law" = some (.ref fa))
    {f_is_number : Addr} {od_is_number an_is_number : Option Addr} {sl_is_number : Array (Option Value)} {oc_is_number kV_is_number dc_is_number pm_is_number cd_is_number ct_is_number : Value}
    {f_lies_between : Addr} {od_lies_between an_lies_between : Option Addr} {sl_lies_between : Array (Option Value)} {oc_lies_between kV_lies_between dc_lies_between pm_lies_between cd_lies_between ct_lies_between : Value}
    {f_check_number : Addr} {od_check_number an_check_number : Option Addr} {sl_check_number : Array (Option Value)} {oc_check_number kV_check_number dc_check_number pm_check_number cd_check_number ct_check_number : Value}
    {f_check_reader : Addr} {od_check_reader an_check_reader : Option Addr} {sl_check_reader : Array (Option Value)} {oc_check_reader kV_check_reader dc_check_reader pm_check_reader cd_check_reader ct_check_reader : Value}
    {f_rinit : Addr} {od_rinit an_rinit : Option Addr} {sl_rinit : Array (Option Value)} {oc_rinit kV_rinit dc_rinit pm_rinit cd_rinit ct_rinit : Value}
    {f_rdays : Addr} {od_rdays an_rdays : Option Addr} {sl_rdays : Array (Option Value)} {oc_rdays kV_rdays dc_rdays pm_rdays cd_rdays ct_rdays : Value}
    {pp_rdays : Addr} {re_rdays : List Value}
    {f_rstarts : Addr} {od_rstarts an_rstarts : Option Addr} {sl_rstarts : Array (Option Value)} {oc_rstarts kV_rstarts dc_rstarts pm_rstarts cd_rstarts ct_rstarts : Value}
    {pp_rstarts : Addr} {re_rstarts : List Value}
    {f_rbooks : Addr} {od_rbooks an_rbooks : Option Addr} {sl_rbooks : Array (Option Value)} {oc_rbooks kV_rbooks dc_rbooks pm_rbooks cd_rbooks ct_rbooks : Value}
    {pp_rbooks : Addr} {re_rbooks : List Value}
    {f_rpace : Addr} {od_rpace an_rpace : Option Addr} {sl_rpace : Array (Option Value)} {oc_rpace kV_rpace dc_rpace pm_rpace cd_rpace ct_rpace : Value}
    {pp_rpace : Addr} {re_rpace : List Value}
    {f_rwith_days : Addr} {od_rwith_days an_rwith_days : Option Addr} {sl_rwith_days : Array (Option Value)} {oc_rwith_days kV_rwith_days dc_rwith_days pm_rwith_days cd_rwith_days ct_rwith_days : Value}
    {f_rlen : Addr} {od_rlen an_rlen : Option Addr} {sl_rlen : Array (Option Value)} {oc_rlen kV_rlen dc_rlen pm_rlen cd_rlen ct_rlen : Value}
    {f_rcall : Addr} {od_rcall an_rcall : Option Addr} {sl_rcall : Array (Option Value)} {oc_rcall kV_rcall dc_rcall pm_rcall cd_rcall ct_rcall : Value}
    {f_req : Addr} {od_req an_req : Option Addr} {sl_req : Array (Option Value)} {oc_req kV_req dc_req pm_req cd_req ct_req : Value}
    {f_check_part : Addr} {od_check_part an_check_part : Option Addr} {sl_check_part : Array (Option Value)} {oc_check_part kV_check_part dc_check_part pm_check_part cd_check_part ct_check_part : Value}
    {f_slowest_decides : Addr} {od_slowest_decides an_slowest_decides : Option Addr} {sl_slowest_decides : Array (Option Value)} {oc_slowest_decides kV_slowest_decides dc_slowest_decides pm_slowest_decides cd_slowest_decides ct_slowest_decides : Value}
    {f_pace_of : Addr} {od_pace_of an_pace_of : Option Addr} {sl_pace_of : Array (Option Value)} {oc_pace_of kV_pace_of dc_pace_of pm_pace_of cd_pace_of ct_pace_of : Value}
    {f_round_pace : Addr} {od_round_pace an_round_pace : Option Addr} {sl_round_pace : Array (Option Value)} {oc_round_pace kV_round_pace dc_round_pace pm_round_pace cd_round_pace ct_round_pace : Value}
    {f_end_day : Addr} {od_end_day an_end_day : Option Addr} {sl_end_day : Array (Option Value)} {oc_end_day kV_end_day dc_end_day pm_end_day cd_end_day ct_end_day : Value}
    {f_begin_day : Addr} {od_begin_day an_begin_day : Option Addr} {sl_begin_day : Array (Option Value)} {oc_begin_day kV_begin_day dc_begin_day pm_begin_day cd_begin_day ct_begin_day : Value}
    {f_book_of : Addr} {od_book_of an_book_of : Option Addr} {sl_book_of : Array (Option Value)} {oc_book_of kV_book_of dc_book_of pm_book_of cd_book_of ct_book_of : Value}
    {f_heap_on : Addr} {od_heap_on an_heap_on : Option Addr} {sl_heap_on : Array (Option Value)} {oc_heap_on kV_heap_on dc_heap_on pm_heap_on cd_heap_on ct_heap_on : Value}
    {f_longest_heap : Addr} {od_longest_heap an_longest_heap : Option Addr} {sl_longest_heap : Array (Option Value)} {oc_longest_heap kV_longest_heap dc_longest_heap pm_longest_heap cd_longest_heap ct_longest_heap : Value}
    {f_settled : Addr} {od_settled an_settled : Option Addr} {sl_settled : Array (Option Value)} {oc_settled kV_settled dc_settled pm_settled cd_settled ct_settled : Value}
    {f_reader_before : Addr} {od_reader_before an_reader_before : Option Addr} {sl_reader_before : Array (Option Value)} {oc_reader_before kV_reader_before dc_reader_before pm_reader_before cd_reader_before ct_reader_before : Value}
    {f_ended_by : Addr} {od_ended_by an_ended_by : Option Addr} {sl_ended_by : Array (Option Value)} {oc_ended_by kV_ended_by dc_ended_by pm_ended_by cd_ended_by ct_ended_by : Value}
    {f_begun_by : Addr} {od_begun_by an_begun_by : Option Addr} {sl_begun_by : Array (Option Value)} {oc_begun_by kV_begun_by dc_begun_by pm_begun_by cd_begun_by ct_begun_by : Value}
    {f_repetition : Addr} {od_repetition an_repetition : Option Addr} {sl_repetition : Array (Option Value)} {oc_repetition kV_repetition dc_repetition pm_repetition cd_repetition ct_repetition : Value}
    {f_row_repeats : Addr} {od_row_repeats an_row_repeats : Option Addr} {sl_row_repeats : Array (Option Value)} {oc_row_repeats kV_row_repeats dc_row_repeats pm_row_repeats cd_row_repeats ct_row_repeats : Value}
    {f_chain_of_waits : Addr} {od_chain_of_waits an_chain_of_waits : Option Addr} {sl_chain_of_waits : Array (Option Value)} {oc_chain_of_waits kV_chain_of_waits dc_chain_of_waits pm_chain_of_waits cd_chain_of_waits ct_chain_of_waits : Value}
    {f_pace_readers : Addr} {od_pace_readers an_pace_readers : Option Addr} {sl_pace_readers : Array (Option Value)} {oc_pace_readers kV_pace_readers dc_pace_readers pm_pace_readers cd_pace_readers ct_pace_readers : Value}
    {f_awaited_reading : Addr} {od_awaited_reading an_awaited_reading : Option Addr} {sl_awaited_reading : Array (Option Value)} {oc_awaited_reading kV_awaited_reading dc_awaited_reading pm_awaited_reading cd_awaited_reading ct_awaited_reading : Value}
    {f_same_book_before : Addr} {od_same_book_before an_same_book_before : Option Addr} {sl_same_book_before : Array (Option Value)} {oc_same_book_before kV_same_book_before dc_same_book_before pm_same_book_before cd_same_book_before ct_same_book_before : Value}
    {f_helpful_readers : Addr} {od_helpful_readers an_helpful_readers : Option Addr} {sl_helpful_readers : Array (Option Value)} {oc_helpful_readers kV_helpful_readers dc_helpful_readers pm_helpful_readers cd_helpful_readers ct_helpful_readers : Value}
    {f_is_helpful : Addr} {od_is_helpful an_is_helpful : Option Addr} {sl_is_helpful : Array (Option Value)} {oc_is_helpful kV_is_helpful dc_is_helpful pm_is_helpful cd_is_helpful ct_is_helpful : Value}
    {f_is_smaller : Addr} {od_is_smaller an_is_smaller : Option Addr} {sl_is_smaller : Array (Option Value)} {oc_is_smaller kV_is_smaller dc_is_smaller pm_is_smaller cd_is_smaller ct_is_smaller : Value}
    {f_ldice : Addr} {od_ldice an_ldice : Option Addr} {sl_ldice : Array (Option Value)} {oc_ldice kV_ldice dc_ldice pm_ldice cd_ldice ct_ldice : Value}
    {f_lnext : Addr} {od_lnext an_lnext : Option Addr} {sl_lnext : Array (Option Value)} {oc_lnext kV_lnext dc_lnext pm_lnext cd_lnext ct_lnext : Value}
    {f_llike : Addr} {od_llike an_llike : Option Addr} {sl_llike : Array (Option Value)} {oc_llike kV_llike dc_llike pm_llike cd_llike ct_llike : Value}
    {f_lring : Addr} {od_lring an_lring : Option Addr} {sl_lring : Array (Option Value)} {oc_lring kV_lring dc_lring pm_lring cd_lring ct_lring : Value}
    {f_law : Addr} {od_law an_law : Option Addr} {sl_law : Array (Option Value)} {oc_law kV_law dc_law pm_law cd_law ct_law : Value}
    {t_LATEST : Tok}
    {t_FEWEST_READERS : Tok}
    {t_MOST_READERS : Tok}
    {t_MOST_DAYS : Tok}
    {t_MOST_BOOKS : Tok}
    {t_LAST_NUMBER : Tok}
    (aC : PySem.W.nsIn K mainGlobals "Ring" = some (some (.ref C)))
    (x_is_number : PySem.W.nsIn K mainGlobals "is_number" = some (some (.ref f_is_number)))
    (l_is_number : K.lookup f_is_number = some ⟨oc_is_number, od_is_number, .func (PySem.W.fnOf "is_number" "is_number" (defArgs s_is_number) (defBody s_is_number) (defScope s_is_number) .none kV_is_number dc_is_number pm_is_number an_is_number cd_is_number ct_is_number), sl_is_number⟩)
    (c_is_number : PySem.W.codeIn K cd_is_number "is_number" = true)
    (k_is_number : PySem.W.keepIn K (.ref f_is_number) = true)
    (x_lies_between : PySem.W.nsIn K mainGlobals "lies_between" = some (some (.ref f_lies_between)))
    (l_lies_between : K.lookup f_lies_between = some ⟨oc_lies_between, od_lies_between, .func (PySem.W.fnOf "lies_between" "lies_between" (defArgs s_lies_between) (defBody s_lies_between) (defScope s_lies_between) .none kV_lies_between dc_lies_between pm_lies_between an_lies_between cd_lies_between ct_lies_between), sl_lies_between⟩)
    (c_lies_between : PySem.W.codeIn K cd_lies_between "lies_between" = true)
    (k_lies_between : PySem.W.keepIn K (.ref f_lies_between) = true)
    (x_check_number : PySem.W.nsIn K mainGlobals "check_number" = some (some (.ref f_check_number)))
    (l_check_number : K.lookup f_check_number = some ⟨oc_check_number, od_check_number, .func (PySem.W.fnOf "check_number" "check_number" (defArgs s_check_number) (defBody s_check_number) (defScope s_check_number) .none kV_check_number dc_check_number pm_check_number an_check_number cd_check_number ct_check_number), sl_check_number⟩)
    (c_check_number : PySem.W.codeIn K cd_check_number "check_number" = true)
    (k_check_number : PySem.W.keepIn K (.ref f_check_number) = true)
    (x_check_reader : PySem.W.nsIn K mainGlobals "check_reader" = some (some (.ref f_check_reader)))
    (l_check_reader : K.lookup f_check_reader = some ⟨oc_check_reader, od_check_reader, .func (PySem.W.fnOf "check_reader" "check_reader" (defArgs s_check_reader) (defBody s_check_reader) (defScope s_check_reader) .none kV_check_reader dc_check_reader pm_check_reader an_check_reader cd_check_reader ct_check_reader), sl_check_reader⟩)
    (c_check_reader : PySem.W.codeIn K cd_check_reader "check_reader" = true)
    (k_check_reader : PySem.W.keepIn K (.ref f_check_reader) = true)
    (x_rinit : PySem.W.findIn K (.ref C) "__init__" = some (some (.ref f_rinit)))
    (i_rinit : PySem.W.isFn K (.ref f_rinit) = true)
    (l_rinit : K.lookup f_rinit = some ⟨oc_rinit, od_rinit, .func (PySem.W.fnOf "__init__" "Ring.__init__" (defArgs s_rinit) (defBody s_rinit) (defScope s_rinit) .none kV_rinit dc_rinit pm_rinit an_rinit cd_rinit ct_rinit), sl_rinit⟩)
    (c_rinit : PySem.W.codeIn K cd_rinit "Ring.__init__" = true)
    (k_rinit : PySem.W.keepIn K (.ref f_rinit) = true)
    (pa_rdays : PySem.W.findIn K (.ref C) "days" = some (some (.ref pp_rdays)))
    (pg_rdays : PySem.W.specialIn K (.ref pp_rdays) "__get__" = some (some (.builtin "property.__get__")))
    (pt_rdays : PySem.W.takesIn K (.ref pp_rdays) = some true)
    (pr_rdays : PySem.W.recIn K pp_rdays "property" = some (.ref f_rdays :: re_rdays))
    (l_rdays : K.lookup f_rdays = some ⟨oc_rdays, od_rdays, .func (PySem.W.fnOf "days" "Ring.days" (defArgs s_rdays) (defBody s_rdays) (defScope s_rdays) .none kV_rdays dc_rdays pm_rdays an_rdays cd_rdays ct_rdays), sl_rdays⟩)
    (c_rdays : PySem.W.codeIn K cd_rdays "Ring.days" = true)
    (k_rdays : PySem.W.keepIn K (.ref f_rdays) = true)
    (pa_rstarts : PySem.W.findIn K (.ref C) "starts" = some (some (.ref pp_rstarts)))
    (pg_rstarts : PySem.W.specialIn K (.ref pp_rstarts) "__get__" = some (some (.builtin "property.__get__")))
    (pt_rstarts : PySem.W.takesIn K (.ref pp_rstarts) = some true)
    (pr_rstarts : PySem.W.recIn K pp_rstarts "property" = some (.ref f_rstarts :: re_rstarts))
    (l_rstarts : K.lookup f_rstarts = some ⟨oc_rstarts, od_rstarts, .func (PySem.W.fnOf "starts" "Ring.starts" (defArgs s_rstarts) (defBody s_rstarts) (defScope s_rstarts) .none kV_rstarts dc_rstarts pm_rstarts an_rstarts cd_rstarts ct_rstarts), sl_rstarts⟩)
    (c_rstarts : PySem.W.codeIn K cd_rstarts "Ring.starts" = true)
    (k_rstarts : PySem.W.keepIn K (.ref f_rstarts) = true)
    (pa_rbooks : PySem.W.findIn K (.ref C) "books" = some (some (.ref pp_rbooks)))
    (pg_rbooks : PySem.W.specialIn K (.ref pp_rbooks) "__get__" = some (some (.builtin "property.__get__")))
    (pt_rbooks : PySem.W.takesIn K (.ref pp_rbooks) = some true)
    (pr_rbooks : PySem.W.recIn K pp_rbooks "property" = some (.ref f_rbooks :: re_rbooks))
    (l_rbooks : K.lookup f_rbooks = some ⟨oc_rbooks, od_rbooks, .func (PySem.W.fnOf "books" "Ring.books" (defArgs s_rbooks) (defBody s_rbooks) (defScope s_rbooks) .none kV_rbooks dc_rbooks pm_rbooks an_rbooks cd_rbooks ct_rbooks), sl_rbooks⟩)
    (c_rbooks : PySem.W.codeIn K cd_rbooks "Ring.books" = true)
    (k_rbooks : PySem.W.keepIn K (.ref f_rbooks) = true)
    (pa_rpace : PySem.W.findIn K (.ref C) "pace" = some (some (.ref pp_rpace)))
    (pg_rpace : PySem.W.specialIn K (.ref pp_rpace) "__get__" = some (some (.builtin "property.__get__")))
    (pt_rpace : PySem.W.takesIn K (.ref pp_rpace) = some true)
    (pr_rpace : PySem.W.recIn K pp_rpace "property" = some (.ref f_rpace :: re_rpace))
    (l_rpace : K.lookup f_rpace = some ⟨oc_rpace, od_rpace, .func (PySem.W.fnOf "pace" "Ring.pace" (defArgs s_rpace) (defBody s_rpace) (defScope s_rpace) .none kV_rpace dc_rpace pm_rpace an_rpace cd_rpace ct_rpace), sl_rpace⟩)
    (c_rpace : PySem.W.codeIn K cd_rpace "Ring.pace" = true)
    (k_rpace : PySem.W.keepIn K (.ref f_rpace) = true)
    (x_rwith_days : PySem.W.findIn K (.ref C) "with_days" = some (some (.ref f_rwith_days)))
    (i_rwith_days : PySem.W.isFn K (.ref f_rwith_days) = true)
    (l_rwith_days : K.lookup f_rwith_days = some ⟨oc_rwith_days, od_rwith_days, .func (PySem.W.fnOf "with_days" "Ring.with_days" (defArgs s_rwith_days) (defBody s_rwith_days) (defScope s_rwith_days) .none kV_rwith_days dc_rwith_days pm_rwith_days an_rwith_days cd_rwith_days ct_rwith_days), sl_rwith_days⟩)
    (c_rwith_days : PySem.W.codeIn K cd_rwith_days "Ring.with_days" = true)
    (k_rwith_days : PySem.W.keepIn K (.ref f_rwith_days) = true)
    (x_rlen : PySem.W.findIn K (.ref C) "__len__" = some (some (.ref f_rlen)))
    (i_rlen : PySem.W.isFn K (.ref f_rlen) = true)
    (l_rlen : K.lookup f_rlen = some ⟨oc_rlen, od_rlen, .func (PySem.W.fnOf "__len__" "Ring.__len__" (defArgs s_rlen) (defBody s_rlen) (defScope s_rlen) .none kV_rlen dc_rlen pm_rlen an_rlen cd_rlen ct_rlen), sl_rlen⟩)
    (c_rlen : PySem.W.codeIn K cd_rlen "Ring.__len__" = true)
    (k_rlen : PySem.W.keepIn K (.ref f_rlen) = true)
    (x_rcall : PySem.W.findIn K (.ref C) "__call__" = some (some (.ref f_rcall)))
    (i_rcall : PySem.W.isFn K (.ref f_rcall) = true)
    (j_rcall : PySem.W.fnIn K f_rcall = true)
    (l_rcall : K.lookup f_rcall = some ⟨oc_rcall, od_rcall, .func (PySem.W.fnOf "__call__" "Ring.__call__" (defArgs s_rcall) (defBody s_rcall) (defScope s_rcall) .none kV_rcall dc_rcall pm_rcall an_rcall cd_rcall ct_rcall), sl_rcall⟩)
    (c_rcall : PySem.W.codeIn K cd_rcall "Ring.__call__" = true)
    (k_rcall : PySem.W.keepIn K (.ref f_rcall) = true)
    (x_req : PySem.W.findIn K (.ref C) "__eq__" = some (some (.ref f_req)))
    (i_req : PySem.W.isFn K (.ref f_req) = true)
    (l_req : K.lookup f_req = some ⟨oc_req, od_req, .func (PySem.W.fnOf "__eq__" "Ring.__eq__" (defArgs s_req) (defBody s_req) (defScope s_req) .none kV_req dc_req pm_req an_req cd_req ct_req), sl_req⟩)
    (c_req : PySem.W.codeIn K cd_req "Ring.__eq__" = true)
    (k_req : PySem.W.keepIn K (.ref f_req) = true)
    (x_check_part : PySem.W.nsIn K mainGlobals "check_part" = some (some (.ref f_check_part)))
    (l_check_part : K.lookup f_check_part = some ⟨oc_check_part, od_check_part, .func (PySem.W.fnOf "check_part" "check_part" (defArgs s_check_part) (defBody s_check_part) (defScope s_check_part) .none kV_check_part dc_check_part pm_check_part an_check_part cd_check_part ct_check_part), sl_check_part⟩)
    (c_check_part : PySem.W.codeIn K cd_check_part "check_part" = true)
    (k_check_part : PySem.W.keepIn K (.ref f_check_part) = true)
    (x_slowest_decides : PySem.W.nsIn K mainGlobals "slowest_decides" = some (some (.ref f_slowest_decides)))
    (l_slowest_decides : K.lookup f_slowest_decides = some ⟨oc_slowest_decides, od_slowest_decides, .func (PySem.W.fnOf "slowest_decides" "slowest_decides" (defArgs s_slowest_decides) (defBody s_slowest_decides) (defScope s_slowest_decides) .none kV_slowest_decides dc_slowest_decides pm_slowest_decides an_slowest_decides cd_slowest_decides ct_slowest_decides), sl_slowest_decides⟩)
    (c_slowest_decides : PySem.W.codeIn K cd_slowest_decides "slowest_decides" = true)
    (k_slowest_decides : PySem.W.keepIn K (.ref f_slowest_decides) = true)
    (x_pace_of : PySem.W.nsIn K mainGlobals "pace_of" = some (some (.ref f_pace_of)))
    (l_pace_of : K.lookup f_pace_of = some ⟨oc_pace_of, od_pace_of, .func (PySem.W.fnOf "pace_of" "pace_of" (defArgs s_pace_of) (defBody s_pace_of) (defScope s_pace_of) .none kV_pace_of dc_pace_of pm_pace_of an_pace_of cd_pace_of ct_pace_of), sl_pace_of⟩)
    (c_pace_of : PySem.W.codeIn K cd_pace_of "pace_of" = true)
    (k_pace_of : PySem.W.keepIn K (.ref f_pace_of) = true)
    (x_round_pace : PySem.W.nsIn K mainGlobals "round_pace" = some (some (.ref f_round_pace)))
    (l_round_pace : K.lookup f_round_pace = some ⟨oc_round_pace, od_round_pace, .func (PySem.W.fnOf "round_pace" "round_pace" (defArgs s_round_pace) (defBody s_round_pace) (defScope s_round_pace) .none kV_round_pace dc_round_pace pm_round_pace an_round_pace cd_round_pace ct_round_pace), sl_round_pace⟩)
    (c_round_pace : PySem.W.codeIn K cd_round_pace "round_pace" = true)
    (k_round_pace : PySem.W.keepIn K (.ref f_round_pace) = true)
    (x_end_day : PySem.W.nsIn K mainGlobals "end_day" = some (some (.ref f_end_day)))
    (l_end_day : K.lookup f_end_day = some ⟨oc_end_day, od_end_day, .func (PySem.W.fnOf "end_day" "end_day" (defArgs s_end_day) (defBody s_end_day) (defScope s_end_day) .none kV_end_day dc_end_day pm_end_day an_end_day cd_end_day ct_end_day), sl_end_day⟩)
    (c_end_day : PySem.W.codeIn K cd_end_day "end_day" = true)
    (k_end_day : PySem.W.keepIn K (.ref f_end_day) = true)
    (x_begin_day : PySem.W.nsIn K mainGlobals "begin_day" = some (some (.ref f_begin_day)))
    (l_begin_day : K.lookup f_begin_day = some ⟨oc_begin_day, od_begin_day, .func (PySem.W.fnOf "begin_day" "begin_day" (defArgs s_begin_day) (defBody s_begin_day) (defScope s_begin_day) .none kV_begin_day dc_begin_day pm_begin_day an_begin_day cd_begin_day ct_begin_day), sl_begin_day⟩)
    (c_begin_day : PySem.W.codeIn K cd_begin_day "begin_day" = true)
    (k_begin_day : PySem.W.keepIn K (.ref f_begin_day) = true)
    (x_book_of : PySem.W.nsIn K mainGlobals "book_of" = some (some (.ref f_book_of)))
    (l_book_of : K.lookup f_book_of = some ⟨oc_book_of, od_book_of, .func (PySem.W.fnOf "book_of" "book_of" (defArgs s_book_of) (defBody s_book_of) (defScope s_book_of) .none kV_book_of dc_book_of pm_book_of an_book_of cd_book_of ct_book_of), sl_book_of⟩)
    (c_book_of : PySem.W.codeIn K cd_book_of "book_of" = true)
    (k_book_of : PySem.W.keepIn K (.ref f_book_of) = true)
    (x_heap_on : PySem.W.nsIn K mainGlobals "heap_on" = some (some (.ref f_heap_on)))
    (l_heap_on : K.lookup f_heap_on = some ⟨oc_heap_on, od_heap_on, .func (PySem.W.fnOf "heap_on" "heap_on" (defArgs s_heap_on) (defBody s_heap_on) (defScope s_heap_on) .none kV_heap_on dc_heap_on pm_heap_on an_heap_on cd_heap_on ct_heap_on), sl_heap_on⟩)
    (c_heap_on : PySem.W.codeIn K cd_heap_on "heap_on" = true)
    (k_heap_on : PySem.W.keepIn K (.ref f_heap_on) = true)
    (x_longest_heap : PySem.W.nsIn K mainGlobals "longest_heap" = some (some (.ref f_longest_heap)))
    (l_longest_heap : K.lookup f_longest_heap = some ⟨oc_longest_heap, od_longest_heap, .func (PySem.W.fnOf "longest_heap" "longest_heap" (defArgs s_longest_heap) (defBody s_longest_heap) (defScope s_longest_heap) .none kV_longest_heap dc_longest_heap pm_longest_heap an_longest_heap cd_longest_heap ct_longest_heap), sl_longest_heap⟩)
    (c_longest_heap : PySem.W.codeIn K cd_longest_heap "longest_heap" = true)
    (k_longest_heap : PySem.W.keepIn K (.ref f_longest_heap) = true)
    (x_settled : PySem.W.nsIn K mainGlobals "settled" = some (some (.ref f_settled)))
    (l_settled : K.lookup f_settled = some ⟨oc_settled, od_settled, .func (PySem.W.fnOf "settled" "settled" (defArgs s_settled) (defBody s_settled) (defScope s_settled) .none kV_settled dc_settled pm_settled an_settled cd_settled ct_settled), sl_settled⟩)
    (c_settled : PySem.W.codeIn K cd_settled "settled" = true)
    (k_settled : PySem.W.keepIn K (.ref f_settled) = true)
    (x_reader_before : PySem.W.nsIn K mainGlobals "reader_before" = some (some (.ref f_reader_before)))
    (l_reader_before : K.lookup f_reader_before = some ⟨oc_reader_before, od_reader_before, .func (PySem.W.fnOf "reader_before" "reader_before" (defArgs s_reader_before) (defBody s_reader_before) (defScope s_reader_before) .none kV_reader_before dc_reader_before pm_reader_before an_reader_before cd_reader_before ct_reader_before), sl_reader_before⟩)
    (c_reader_before : PySem.W.codeIn K cd_reader_before "reader_before" = true)
    (k_reader_before : PySem.W.keepIn K (.ref f_reader_before) = true)
    (x_ended_by : PySem.W.nsIn K mainGlobals "ended_by" = some (some (.ref f_ended_by)))
    (l_ended_by : K.lookup f_ended_by = some ⟨oc_ended_by, od_ended_by, .func (PySem.W.fnOf "ended_by" "ended_by" (defArgs s_ended_by) (defBody s_ended_by) (defScope s_ended_by) .none kV_ended_by dc_ended_by pm_ended_by an_ended_by cd_ended_by ct_ended_by), sl_ended_by⟩)
    (c_ended_by : PySem.W.codeIn K cd_ended_by "ended_by" = true)
    (k_ended_by : PySem.W.keepIn K (.ref f_ended_by) = true)
    (x_begun_by : PySem.W.nsIn K mainGlobals "begun_by" = some (some (.ref f_begun_by)))
    (l_begun_by : K.lookup f_begun_by = some ⟨oc_begun_by, od_begun_by, .func (PySem.W.fnOf "begun_by" "begun_by" (defArgs s_begun_by) (defBody s_begun_by) (defScope s_begun_by) .none kV_begun_by dc_begun_by pm_begun_by an_begun_by cd_begun_by ct_begun_by), sl_begun_by⟩)
    (c_begun_by : PySem.W.codeIn K cd_begun_by "begun_by" = true)
    (k_begun_by : PySem.W.keepIn K (.ref f_begun_by) = true)
    (x_repetition : PySem.W.nsIn K mainGlobals "repetition" = some (some (.ref f_repetition)))
    (l_repetition : K.lookup f_repetition = some ⟨oc_repetition, od_repetition, .func (PySem.W.fnOf "repetition" "repetition" (defArgs s_repetition) (defBody s_repetition) (defScope s_repetition) .none kV_repetition dc_repetition pm_repetition an_repetition cd_repetition ct_repetition), sl_repetition⟩)
    (c_repetition : PySem.W.codeIn K cd_repetition "repetition" = true)
    (k_repetition : PySem.W.keepIn K (.ref f_repetition) = true)
    (x_row_repeats : PySem.W.nsIn K mainGlobals "row_repeats" = some (some (.ref f_row_repeats)))
    (l_row_repeats : K.lookup f_row_repeats = some ⟨oc_row_repeats, od_row_repeats, .func (PySem.W.fnOf "row_repeats" "row_repeats" (defArgs s_row_repeats) (defBody s_row_repeats) (defScope s_row_repeats) .none kV_row_repeats dc_row_repeats pm_row_repeats an_row_repeats cd_row_repeats ct_row_repeats), sl_row_repeats⟩)
    (c_row_repeats : PySem.W.codeIn K cd_row_repeats "row_repeats" = true)
    (k_row_repeats : PySem.W.keepIn K (.ref f_row_repeats) = true)
    (x_chain_of_waits : PySem.W.nsIn K mainGlobals "chain_of_waits" = some (some (.ref f_chain_of_waits)))
    (l_chain_of_waits : K.lookup f_chain_of_waits = some ⟨oc_chain_of_waits, od_chain_of_waits, .func (PySem.W.fnOf "chain_of_waits" "chain_of_waits" (defArgs s_chain_of_waits) (defBody s_chain_of_waits) (defScope s_chain_of_waits) .none kV_chain_of_waits dc_chain_of_waits pm_chain_of_waits an_chain_of_waits cd_chain_of_waits ct_chain_of_waits), sl_chain_of_waits⟩)
    (c_chain_of_waits : PySem.W.codeIn K cd_chain_of_waits "chain_of_waits" = true)
    (k_chain_of_waits : PySem.W.keepIn K (.ref f_chain_of_waits) = true)
    (x_pace_readers : PySem.W.nsIn K mainGlobals "pace_readers" = some (some (.ref f_pace_readers)))
    (l_pace_readers : K.lookup f_pace_readers = some ⟨oc_pace_readers, od_pace_readers, .func (PySem.W.fnOf "pace_readers" "pace_readers" (defArgs s_pace_readers) (defBody s_pace_readers) (defScope s_pace_readers) .none kV_pace_readers dc_pace_readers pm_pace_readers an_pace_readers cd_pace_readers ct_pace_readers), sl_pace_readers⟩)
    (c_pace_readers : PySem.W.codeIn K cd_pace_readers "pace_readers" = true)
    (k_pace_readers : PySem.W.keepIn K (.ref f_pace_readers) = true)
    (x_awaited_reading : PySem.W.nsIn K mainGlobals "awaited_reading" = some (some (.ref f_awaited_reading)))
    (l_awaited_reading : K.lookup f_awaited_reading = some ⟨oc_awaited_reading, od_awaited_reading, .func (PySem.W.fnOf "awaited_reading" "awaited_reading" (defArgs s_awaited_reading) (defBody s_awaited_reading) (defScope s_awaited_reading) .none kV_awaited_reading dc_awaited_reading pm_awaited_reading an_awaited_reading cd_awaited_reading ct_awaited_reading), sl_awaited_reading⟩)
    (c_awaited_reading : PySem.W.codeIn K cd_awaited_reading "awaited_reading" = true)
    (k_awaited_reading : PySem.W.keepIn K (.ref f_awaited_reading) = true)
    (x_same_book_before : PySem.W.nsIn K mainGlobals "same_book_before" = some (some (.ref f_same_book_before)))
    (l_same_book_before : K.lookup f_same_book_before = some ⟨oc_same_book_before, od_same_book_before, .func (PySem.W.fnOf "same_book_before" "same_book_before" (defArgs s_same_book_before) (defBody s_same_book_before) (defScope s_same_book_before) .none kV_same_book_before dc_same_book_before pm_same_book_before an_same_book_before cd_same_book_before ct_same_book_before), sl_same_book_before⟩)
    (c_same_book_before : PySem.W.codeIn K cd_same_book_before "same_book_before" = true)
    (k_same_book_before : PySem.W.keepIn K (.ref f_same_book_before) = true)
    (x_helpful_readers : PySem.W.nsIn K mainGlobals "helpful_readers" = some (some (.ref f_helpful_readers)))
    (l_helpful_readers : K.lookup f_helpful_readers = some ⟨oc_helpful_readers, od_helpful_readers, .func (PySem.W.fnOf "helpful_readers" "helpful_readers" (defArgs s_helpful_readers) (defBody s_helpful_readers) (defScope s_helpful_readers) .none kV_helpful_readers dc_helpful_readers pm_helpful_readers an_helpful_readers cd_helpful_readers ct_helpful_readers), sl_helpful_readers⟩)
    (c_helpful_readers : PySem.W.codeIn K cd_helpful_readers "helpful_readers" = true)
    (k_helpful_readers : PySem.W.keepIn K (.ref f_helpful_readers) = true)
    (x_is_helpful : PySem.W.nsIn K mainGlobals "is_helpful" = some (some (.ref f_is_helpful)))
    (l_is_helpful : K.lookup f_is_helpful = some ⟨oc_is_helpful, od_is_helpful, .func (PySem.W.fnOf "is_helpful" "is_helpful" (defArgs s_is_helpful) (defBody s_is_helpful) (defScope s_is_helpful) .none kV_is_helpful dc_is_helpful pm_is_helpful an_is_helpful cd_is_helpful ct_is_helpful), sl_is_helpful⟩)
    (c_is_helpful : PySem.W.codeIn K cd_is_helpful "is_helpful" = true)
    (k_is_helpful : PySem.W.keepIn K (.ref f_is_helpful) = true)
    (x_is_smaller : PySem.W.nsIn K mainGlobals "is_smaller" = some (some (.ref f_is_smaller)))
    (l_is_smaller : K.lookup f_is_smaller = some ⟨oc_is_smaller, od_is_smaller, .func (PySem.W.fnOf "is_smaller" "is_smaller" (defArgs s_is_smaller) (defBody s_is_smaller) (defScope s_is_smaller) .none kV_is_smaller dc_is_smaller pm_is_smaller an_is_smaller cd_is_smaller ct_is_smaller), sl_is_smaller⟩)
    (c_is_smaller : PySem.W.codeIn K cd_is_smaller "is_smaller" = true)
    (k_is_smaller : PySem.W.keepIn K (.ref f_is_smaller) = true)
    (x_ldice : PySem.W.nsIn K mainGlobals "_law_dice" = some (some (.ref f_ldice)))
    (l_ldice : K.lookup f_ldice = some ⟨oc_ldice, od_ldice, .func (PySem.W.fnOf "_law_dice" "_law_dice" (defArgs s_ldice) (defBody s_ldice) (defScope s_ldice) .none kV_ldice dc_ldice pm_ldice an_ldice cd_ldice ct_ldice), sl_ldice⟩)
    (c_ldice : PySem.W.codeIn K cd_ldice "_law_dice" = true)
    (k_ldice : PySem.W.keepIn K (.ref f_ldice) = true)
    (x_lnext : PySem.W.nsIn K mainGlobals "_law_next" = some (some (.ref f_lnext)))
    (l_lnext : K.lookup f_lnext = some ⟨oc_lnext, od_lnext, .func (PySem.W.fnOf "_law_next" "_law_next" (defArgs s_lnext) (defBody s_lnext) (defScope s_lnext) .none kV_lnext dc_lnext pm_lnext an_lnext cd_lnext ct_lnext), sl_lnext⟩)
    (c_lnext : PySem.W.codeIn K cd_lnext "_law_next" = true)
    (k_lnext : PySem.W.keepIn K (.ref f_lnext) = true)
    (x_llike : PySem.W.nsIn K mainGlobals "_law_like" = some (some (.ref f_llike)))
    (l_llike : K.lookup f_llike = some ⟨oc_llike, od_llike, .func (PySem.W.fnOf "_law_like" "_law_like" (defArgs s_llike) (defBody s_llike) (defScope s_llike) .none kV_llike dc_llike pm_llike an_llike cd_llike ct_llike), sl_llike⟩)
    (c_llike : PySem.W.codeIn K cd_llike "_law_like" = true)
    (k_llike : PySem.W.keepIn K (.ref f_llike) = true)
    (x_lring : PySem.W.nsIn K mainGlobals "_law_ring" = some (some (.ref f_lring)))
    (l_lring : K.lookup f_lring = some ⟨oc_lring, od_lring, .func (PySem.W.fnOf "_law_ring" "_law_ring" (defArgs s_lring) (defBody s_lring) (defScope s_lring) .none kV_lring dc_lring pm_lring an_lring cd_lring ct_lring), sl_lring⟩)
    (c_lring : PySem.W.codeIn K cd_lring "_law_ring" = true)
    (k_lring : PySem.W.keepIn K (.ref f_lring) = true)
    (x_law : PySem.W.nsIn K mainGlobals "law" = some (some (.ref f_law)))
    (l_law : K.lookup f_law = some ⟨oc_law, od_law, .func (PySem.W.fnOf "law" "law" (defArgs s_law) (defBody s_law) (defScope s_law) .none kV_law dc_law pm_law an_law cd_law ct_law), sl_law⟩)
    (c_law : PySem.W.codeIn K cd_law "law" = true)
    (k_law : PySem.W.keepIn K (.ref f_law) = true)
    (pgC : PySem.W.plainGet K C Str.empty = true)
    (hdC : PySem.W.hasDictIn K C = true)
    (poC : PySem.W.plainOver K C = true)
    (saC : PySem.W.findIn K (.ref C) "__setattr__" = some (some (.builtin "object.__setattr__")))
    (mkC : PySem.W.makesIn K C = true)
    (kC : PySem.W.keepIn K (.ref C) = true)
    (clsC : PySem.W.findIn K (.ref C) "__class__" = some (some (.builtin "object.__class__")))
    (clsG : PySem.W.specialIn K (.builtin "object.__class__") "__get__" = some (some (.builtin "getset_descriptor.__get__")))
    (clsT : PySem.W.takesIn K (.builtin "object.__class__") = some true)
    (clsM : PySem.W.mroIn K C (.type "object") = some true)
    (nD : PySem.W.findIn K (.ref C) "_days" = some none)
    (nS : PySem.W.findIn K (.ref C) "_starts" = some none)
    (v_LATEST : PySem.W.nsIn K mainGlobals "LATEST" = some (some (.int 1000000000000000000 t_LATEST)))
    (v_FEWEST_READERS : PySem.W.nsIn K mainGlobals "FEWEST_READERS" = some (some (.int 2 t_FEWEST_READERS)))
    (v_MOST_READERS : PySem.W.nsIn K mainGlobals "MOST_READERS" = some (some (.int 8 t_MOST_READERS)))
    (v_MOST_DAYS : PySem.W.nsIn K mainGlobals "MOST_DAYS" = some (some (.int 30 t_MOST_DAYS)))
    (v_MOST_BOOKS : PySem.W.nsIn K mainGlobals "MOST_BOOKS" = some (some (.int 12 t_MOST_BOOKS)))
    (v_LAST_NUMBER : PySem.W.nsIn K mainGlobals "LAST_NUMBER" = some (some (.int 500 t_LAST_NUMBER)))
    (v_gcd : PySem.W.nsIn K mainGlobals "gcd" = some (some (.builtin "math.gcd")))
    (z_len : PySem.W.nsIn K mainGlobals "len" = some none)
    (z_sum : PySem.W.nsIn K mainGlobals "sum" = some none)
    (z_max : PySem.W.nsIn K mainGlobals "max" = some none)
    (z_min : PySem.W.nsIn K mainGlobals "min" = some none)
    (z_range : PySem.W.nsIn K mainGlobals "range" = some none)
    (z_int : PySem.W.nsIn K mainGlobals "int" = some none)
    (z_bool : PySem.W.nsIn K mainGlobals "bool" = some none)
    (z_isinstance : PySem.W.nsIn K mainGlobals "isinstance" = some none)
    (z_tuple : PySem.W.nsIn K mainGlobals "tuple" = some none)
    (z_enumerate : PySem.W.nsIn K mainGlobals "enumerate" = some none)
    (z_list : PySem.W.nsIn K mainGlobals "list" = some none)
    (z_str : PySem.W.nsIn K mainGlobals "str" = some none)
    (z_sorted : PySem.W.nsIn K mainGlobals "sorted" = some none)
    (own : LamX.OwnTab K fa h)
    {c_tb P_tb : Addr} {e_tb : Value} {dd_tb : Option Addr} {vs_tb : Array Value} {sl_tb : Array (Option Value)}
    (tb_c : cd_law = .ref c_tb)
    (tb_l : K.lookup c_tb = some ⟨e_tb, dd_tb, .fields vs_tb, sl_tb⟩)
    (tb_p : vs_tb[11]? = some (.ref P_tb))
    (tb_h : PySem.W.codeHdIn K c_tb P_tb = true)
    (tb_n : K.lookup P_tb = none)
    : LamX.LawAtS l w K CX0 12 63 "_law_script" mg fa h := by
  have e := hfa.symm.trans (PySem.W.mg_of X G x_law)
  cases e
  have F_is_number := fun_mk (st := s_is_number) l_is_number c_is_number k_is_number
  have b_is_number := F_is_number.binds (ps := P_is_number) fun _ _ _ _ _ _ us hl => match us, hl with | [_], _ => rfl
  have F_lies_between := fun_mk (st := s_lies_between) l_lies_between c_lies_between k_lies_between
  have b_lies_between := F_lies_between.binds (ps := P_lies_between) fun _ _ _ _ _ _ us hl => match us, hl with | [_, _, _], _ => rfl
  have F_check_number := fun_mk (st := s_check_number) l_check_number c_check_number k_check_number
  have b_check_number := F_check_number.binds (ps := P_check_number) fun _ _ _ _ _ _ us hl => match us, hl with | [_, _, _], _ => rfl
  have F_check_reader := fun_mk (st := s_check_reader) l_check_reader c_check_reader k_check_reader
  have b_check_reader := F_check_reader.binds (ps := P_check_reader) fun _ _ _ _ _ _ us hl => match us, hl with | [_, _], _ => rfl
  have F_rinit := fun_mk (st := s_rinit) l_rinit c_rinit k_rinit
  have b_rinit := F_rinit.binds (ps := P_rinit) fun _ _ _ _ _ _ us hl => match us, hl with | [_, _, _], _ => rfl
  have F_rdays := fun_mk (st := s_rdays) l_rdays c_rdays k_rdays
  have b_rdays := F_rdays.binds (ps := P_rdays) fun _ _ _ _ _ _ us hl => match us, hl with | [_], _ => rfl
  have F_rstarts := fun_mk (st := s_rstarts) l_rstarts c_rstarts k_rstarts
  have b_rstarts := F_rstarts.binds (ps := P_rstarts) fun _ _ _ _ _ _ us hl => match us, hl with | [_], _ => rfl
  have F_rbooks := fun_mk (st := s_rbooks) l_rbooks c_rbooks k_rbooks
  have b_rbooks := F_rbooks.binds (ps := P_rbooks) fun _ _ _ _ _ _ us hl => match us, hl with | [_], _ => rfl
  have F_rpace := fun_mk (st := s_rpace) l_rpace c_rpace k_rpace
  have b_rpace := F_rpace.binds (ps := P_rpace) fun _ _ _ _ _ _ us hl => match us, hl with | [_], _ => rfl
  have F_rwith_days := fun_mk (st := s_rwith_days) l_rwith_days c_rwith_days k_rwith_days
  have b_rwith_days := F_rwith_days.binds (ps := P_rwith_days) fun _ _ _ _ _ _ us hl => match us, hl with | [_, _, _], _ => rfl
  have F_rlen := fun_mk (st := s_rlen) l_rlen c_rlen k_rlen
  have b_rlen := F_rlen.binds (ps := P_rlen) fun _ _ _ _ _ _ us hl => match us, hl with | [_], _ => rfl
  have F_rcall := fun_mk (st := s_rcall) l_rcall c_rcall k_rcall
  have b_rcall := F_rcall.binds (ps := P_rcall) fun _ _ _ _ _ _ us hl => match us, hl with | [_, _, _], _ => rfl
  have F_req := fun_mk (st := s_req) l_req c_req k_req
  have b_req := F_req.binds (ps := P_req) fun _ _ _ _ _ _ us hl => match us, hl with | [_, _], _ => rfl
  have F_check_part := fun_mk (st := s_check_part) l_check_part c_check_part k_check_part
  have b_check_part := F_check_part.binds (ps := P_check_part) fun _ _ _ _ _ _ us hl => match us, hl with | [_, _, _, _], _ => rfl
  have F_slowest_decides := fun_mk (st := s_slowest_decides) l_slowest_decides c_slowest_decides k_slowest_decides
  have b_slowest_decides := F_slowest_decides.binds (ps := P_slowest_decides) fun _ _ _ _ _ _ us hl => match us, hl with | [_, _], _ => rfl
  have F_pace_of := fun_mk (st := s_pace_of) l_pace_of c_pace_of k_pace_of
  have b_pace_of := F_pace_of.binds (ps := P_pace_of) fun _ _ _ _ _ _ us hl => match us, hl with | [_, _], _ => rfl
  have F_round_pace := fun_mk (st := s_round_pace) l_round_pace c_round_pace k_round_pace
  have b_round_pace := F_round_pace.binds (ps := P_round_pace) fun _ _ _ _ _ _ us hl => match us, hl with | [_, _], _ => rfl
  have F_end_day := fun_mk (st := s_end_day) l_end_day c_end_day k_end_day
  have b_end_day := F_end_day.binds (ps := P_end_day) fun _ _ _ _ _ _ us hl => match us, hl with | [_, _, _], _ => rfl
  have F_begin_day := fun_mk (st := s_begin_day) l_begin_day c_begin_day k_begin_day
  have b_begin_day := F_begin_day.binds (ps := P_begin_day) fun _ _ _ _ _ _ us hl => match us, hl with | [_, _, _], _ => rfl
  have F_book_of := fun_mk (st := s_book_of) l_book_of c_book_of k_book_of
  have b_book_of := F_book_of.binds (ps := P_book_of) fun _ _ _ _ _ _ us hl => match us, hl with | [_, _, _], _ => rfl
  have F_heap_on := fun_mk (st := s_heap_on) l_heap_on c_heap_on k_heap_on
  have b_heap_on := F_heap_on.binds (ps := P_heap_on) fun _ _ _ _ _ _ us hl => match us, hl with | [_, _, _], _ => rfl
  have F_longest_heap := fun_mk (st := s_longest_heap) l_longest_heap c_longest_heap k_longest_heap
  have b_longest_heap := F_longest_heap.binds (ps := P_longest_heap) fun _ _ _ _ _ _ us hl => match us, hl with | [_, _], _ => rfl
  have F_settled := fun_mk (st := s_settled) l_settled c_settled k_settled
  have b_settled := F_settled.binds (ps := P_settled) fun _ _ _ _ _ _ us hl => match us, hl with | [_], _ => rfl
  have F_reader_before := fun_mk (st := s_reader_before) l_reader_before c_reader_before k_reader_before
  have b_reader_before := F_reader_before.binds (ps := P_reader_before) fun _ _ _ _ _ _ us hl => match us, hl with | [_, _], _ => rfl
  have F_ended_by := fun_mk (st := s_ended_by) l_ended_by c_ended_by k_ended_by
  have b_ended_by := F_ended_by.binds (ps := P_ended_by) fun _ _ _ _ _ _ us hl => match us, hl with | [_, _, _], _ => rfl
  have F_begun_by := fun_mk (st := s_begun_by) l_begun_by c_begun_by k_begun_by
  have b_begun_by := F_begun_by.binds (ps := P_begun_by) fun _ _ _ _ _ _ us hl => match us, hl with | [_, _, _], _ => rfl
  have F_repetition := fun_mk (st := s_repetition) l_repetition c_repetition k_repetition
  have b_repetition := F_repetition.binds (ps := P_repetition) fun _ _ _ _ _ _ us hl => match us, hl with | [_], _ => rfl
  have F_row_repeats := fun_mk (st := s_row_repeats) l_row_repeats c_row_repeats k_row_repeats
  have b_row_repeats := F_row_repeats.binds (ps := P_row_repeats) fun _ _ _ _ _ _ us hl => match us, hl with | [_, _, _, _], _ => rfl
  have F_chain_of_waits := fun_mk (st := s_chain_of_waits) l_chain_of_waits c_chain_of_waits k_chain_of_waits
  have b_chain_of_waits := F_chain_of_waits.binds (ps := P_chain_of_waits) fun _ _ _ _ _ _ us hl => match us, hl with | [_, _, _], _ => rfl
  have F_pace_readers := fun_mk (st := s_pace_readers) l_pace_readers c_pace_readers k_pace_readers
  have b_pace_readers := F_pace_readers.binds (ps := P_pace_readers) fun _ _ _ _ _ _ us hl => match us, hl with | [_], _ => rfl
  have F_awaited_reading := fun_mk (st := s_awaited_reading) l_awaited_reading c_awaited_reading k_awaited_reading
  have b_awaited_reading := F_awaited_reading.binds (ps := P_awaited_reading) fun _ _ _ _ _ _ us hl => match us, hl with | [_, _, _], _ => rfl
  have F_same_book_before := fun_mk (st := s_same_book_before) l_same_book_before c_same_book_before k_same_book_before
  have b_same_book_before := F_same_book_before.binds (ps := P_same_book_before) fun _ _ _ _ _ _ us hl => match us, hl with | [_, _], _ => rfl
  have F_helpful_readers := fun_mk (st := s_helpful_readers) l_helpful_readers c_helpful_readers k_helpful_readers
  have b_helpful_readers := F_helpful_readers.binds (ps := P_helpful_readers) fun _ _ _ _ _ _ us hl => match us, hl with | [_], _ => rfl
  have F_is_helpful := fun_mk (st := s_is_helpful) l_is_helpful c_is_helpful k_is_helpful
  have b_is_helpful := F_is_helpful.binds (ps := P_is_helpful) fun _ _ _ _ _ _ us hl => match us, hl with | [_, _], _ => rfl
  have F_is_smaller := fun_mk (st := s_is_smaller) l_is_smaller c_is_smaller k_is_smaller
  have b_is_smaller := F_is_smaller.binds (ps := P_is_smaller) fun _ _ _ _ _ _ us hl => match us, hl with | [_, _], _ => rfl
  have F_ldice := fun_mk (st := s_ldice) l_ldice c_ldice k_ldice
  have b_ldice := F_ldice.binds (ps := P_ldice) fun _ _ _ _ _ _ us hl => match us, hl with | [_], _ => rfl
  have F_lnext := fun_mk (st := s_lnext) l_lnext c_lnext k_lnext
  have b_lnext := F_lnext.binds (ps := P_lnext) fun _ _ _ _ _ _ us hl => match us, hl with | [_, _], _ => rfl
  have F_llike := fun_mk (st := s_llike) l_llike c_llike k_llike
  have b_llike := F_llike.binds (ps := P_llike) fun _ _ _ _ _ _ us hl => match us, hl with | [_, _], _ => rfl
  have F_lring := fun_mk (st := s_lring) l_lring c_lring k_lring
  have b_lring := F_lring.binds (ps := P_lring) fun _ _ _ _ _ _ us hl => match us, hl with | [_, _, _], _ => rfl
  have F_law := fun_mk (st := s_law) l_law c_law k_law
  have b_law := F_law.binds (ps := P_law) fun _ _ _ _ _ _ us hl => match us, hl with | [_], _ => rfl
  cases tb_c
  refine ⟨PySem.W.fnOf "law" "law" (defArgs s_law) (defBody s_law) (defScope s_law) .none kV_law dc_law pm_law an_law (.ref c_tb) ct_law, [(c_tb, P_tb)], spLawL K P_tb, fun p hp => ?_, fun p hp => ?_, fun p hp => ?_, fun s v => .of_eq rfl, fun H a ns hl hb ht hS => ?_, fun base _ _ hTB => ?_⟩
  · cases List.mem_singleton.mp hp
    exact own _ _ _ _ _ _ _ _ l_law rfl rfl tb_l tb_p
  · cases List.mem_singleton.mp hp
    exact tb_n
  · cases List.mem_singleton.mp hp
    exact PySem.W.codeHd_of_K X tb_h
  · exact ⟨a, ns, rfl, hS, hl, ht _ (List.mem_singleton.mpr rfl), fun _ => rfl⟩
  · exact ok_law (mg := mg) (cT := c_tb) (PT := P_tb)
     {
    C := C,
    a_is_number := f_is_number, d_is_number := _, F_is_number := F_is_number, b_is_number := b_is_number,
    g_is_number := PySem.W.mg_of X G x_is_number,
    a_lies_between := f_lies_between, d_lies_between := _, F_lies_between := F_lies_between, b_lies_between := b_lies_between,
    g_lies_between := PySem.W.mg_of X G x_lies_between,
    a_check_number := f_check_number, d_check_number := _, F_check_number := F_check_number, b_check_number := b_check_number,
    g_check_number := PySem.W.mg_of X G x_check_number,
    a_check_reader := f_check_reader, d_check_reader := _, F_check_reader := F_check_reader, b_check_reader := b_check_reader,
    g_check_reader := PySem.W.mg_of X G x_check_reader,
    a_rinit := f_rinit, d_rinit := _, F_rinit := F_rinit, b_rinit := b_rinit,
    a_rdays := f_rdays, d_rdays := _, F_rdays := F_rdays, b_rdays := b_rdays,
    a_rstarts := f_rstarts, d_rstarts := _, F_rstarts := F_rstarts, b_rstarts := b_rstarts,
    a_rbooks := f_rbooks, d_rbooks := _, F_rbooks := F_rbooks, b_rbooks := b_rbooks,
    a_rpace := f_rpace, d_rpace := _, F_rpace := F_rpace, b_rpace := b_rpace,
    a_rwith_days := f_rwith_days, d_rwith_days := _, F_rwith_days := F_rwith_days, b_rwith_days := b_rwith_days,
    a_rlen := f_rlen, d_rlen := _, F_rlen := F_rlen, b_rlen := b_rlen,
    a_rcall := f_rcall, d_rcall := _, F_rcall := F_rcall, b_rcall := b_rcall,
    a_req := f_req, d_req := _, F_req := F_req, b_req := b_req,
    a_check_part := f_check_part, d_check_part := _, F_check_part := F_check_part, b_check_part := b_check_part,
    g_check_part := PySem.W.mg_of X G x_check_part,
    a_slowest_decides := f_slowest_decides, d_slowest_decides := _, F_slowest_decides := F_slowest_decides, b_slowest_decides := b_slowest_decides,
    g_slowest_decides := PySem.W.mg_of X G x_slowest_decides,
    a_pace_of := f_pace_of, d_pace_of := _, F_pace_of := F_pace_of, b_pace_of := b_pace_of,
    g_pace_of := PySem.W.mg_of X G x_pace_of,
    a_round_pace := f_round_pace, d_round_pace := _, F_round_pace := F_round_pace, b_round_pace := b_round_pace,
    g_round_pace := PySem.W.mg_of X G x_round_pace,
    a_end_day := f_end_day, d_end_day := _, F_end_day := F_end_day, b_end_day := b_end_day,
    g_end_day := PySem.W.mg_of X G x_end_day,
    a_begin_day := f_begin_day, d_begin_day := _, F_begin_day := F_begin_day, b_begin_day := b_begin_day,
    g_begin_day := PySem.W.mg_of X G x_begin_day,
    a_book_of := f_book_of, d_book_of := _, F_book_of := F_book_of, b_book_of := b_book_of,
    g_book_of := PySem.W.mg_of X G x_book_of,
    a_heap_on := f_heap_on, d_heap_on := _, F_heap_on := F_heap_on, b_heap_on := b_heap_on,
    g_heap_on := PySem.W.mg_of X G x_heap_on,
    a_longest_heap := f_longest_heap, d_longest_heap := _, F_longest_heap := F_longest_heap, b_longest_heap := b_longest_heap,
    g_longest_heap := PySem.W.mg_of X G x_longest_heap,
    a_settled := f_settled, d_settled := _, F_settled := F_settled, b_settled := b_settled,
    g_settled := PySem.W.mg_of X G x_settled,
    a_reader_before := f_reader_before, d_reader_before := _, F_reader_before := F_reader_before, b_reader_before := b_reader_before,
    g_reader_before := PySem.W.mg_of X G x_reader_before,
    a_ended_by := f_ended_by, d_ended_by := _, F_ended_by := F_ended_by, b_ended_by := b_ended_by,
    g_ended_by := PySem.W.mg_of X G x_ended_by,
    a_begun_by := f_begun_by, d_begun_by := _, F_begun_by := F_begun_by, b_begun_by := b_begun_by,
    g_begun_by := PySem.W.mg_of X G x_begun_by,
    a_repetition := f_repetition, d_repetition := _, F_repetition := F_repetition, b_repetition := b_repetition,
    g_repetition := PySem.W.mg_of X G x_repetition,
    a_row_repeats := f_row_repeats, d_row_repeats := _, F_row_repeats := F_row_repeats, b_row_repeats := b_row_repeats,
    g_row_repeats := PySem.W.mg_of X G x_row_repeats,
    a_chain_of_waits := f_chain_of_waits, d_chain_of_waits := _, F_chain_of_waits := F_chain_of_waits, b_chain_of_waits := b_chain_of_waits,
    g_chain_of_waits := PySem.W.mg_of X G x_chain_of_waits,
    a_pace_readers := f_pace_readers, d_pace_readers := _, F_pace_readers := F_pace_readers, b_pace_readers := b_pace_readers,
    g_pace_readers := PySem.W.mg_of X G x_pace_readers,
    a_awaited_reading := f_awaited_reading, d_awaited_reading := _, F_awaited_reading := F_awaited_reading, b_awaited_reading := b_awaited_reading,
    g_awaited_reading := PySem.W.mg_of X G x_awaited_reading,
    a_same_book_before := f_same_book_before, d_same_book_before := _, F_same_book_before := F_same_book_before, b_same_book_before := b_same_book_before,
    g_same_book_before := PySem.W.mg_of X G x_same_book_before,
    a_helpful_readers := f_helpful_readers, d_helpful_readers := _, F_helpful_readers := F_helpful_readers, b_helpful_readers := b_helpful_readers,
    g_helpful_readers := PySem.W.mg_of X G x_helpful_readers,
    a_is_helpful := f_is_helpful, d_is_helpful := _, F_is_helpful := F_is_helpful, b_is_helpful := b_is_helpful,
    g_is_helpful := PySem.W.mg_of X G x_is_helpful,
    a_is_smaller := f_is_smaller, d_is_smaller := _, F_is_smaller := F_is_smaller, b_is_smaller := b_is_smaller,
    g_is_smaller := PySem.W.mg_of X G x_is_smaller,
    a_ldice := f_ldice, d_ldice := _, F_ldice := F_ldice, b_ldice := b_ldice,
    g_ldice := PySem.W.mg_of X G x_ldice,
    a_lnext := f_lnext, d_lnext := _, F_lnext := F_lnext, b_lnext := b_lnext,
    g_lnext := PySem.W.mg_of X G x_lnext,
    a_llike := f_llike, d_llike := _, F_llike := F_llike, b_llike := b_llike,
    g_llike := PySem.W.mg_of X G x_llike,
    a_lring := f_lring, d_lring := _, F_lring := F_lring, b_lring := b_lring,
    g_lring := PySem.W.mg_of X G x_lring,
    a_law := _, d_law := _, F_law := F_law, b_law := b_law,
    g_law := PySem.W.mg_of X G x_law,
    cl := ⟨pgC, hdC, poC, saC⟩, nD := nD, nS := nS, mkR := ⟨mkC, x_rinit, i_rinit, kC⟩, gC := PySem.W.mg_of X G aC,
    p_rdays := pp_rdays, q_rdays := ⟨pa_rdays, pg_rdays, pt_rdays, ⟨_, pr_rdays⟩⟩,
    p_rstarts := pp_rstarts, q_rstarts := ⟨pa_rstarts, pg_rstarts, pt_rstarts, ⟨_, pr_rstarts⟩⟩,
    p_rbooks := pp_rbooks, q_rbooks := ⟨pa_rbooks, pg_rbooks, pt_rbooks, ⟨_, pr_rbooks⟩⟩,
    p_rpace := pp_rpace, q_rpace := ⟨pa_rpace, pg_rpace, pt_rpace, ⟨_, pr_rpace⟩⟩,
    clsC := clsC, clsG := clsG, clsT := clsT, clsM := clsM, eqC := x_req, eqF := i_req, kC := kC,
    mW := ⟨x_rwith_days, i_rwith_days, k_rwith_days⟩,
    lenC := x_rlen, lenF := i_rlen, callC := ⟨x_rcall, i_rcall, j_rcall⟩,
    c_LATEST := ⟨_, PySem.W.mg_of X G v_LATEST⟩,
    c_FEWEST_READERS := ⟨_, PySem.W.mg_of X G v_FEWEST_READERS⟩,
    c_MOST_READERS := ⟨_, PySem.W.mg_of X G v_MOST_READERS⟩,
    c_MOST_DAYS := ⟨_, PySem.W.mg_of X G v_MOST_DAYS⟩,
    c_MOST_BOOKS := ⟨_, PySem.W.mg_of X G v_MOST_BOOKS⟩,
    c_LAST_NUMBER := ⟨_, PySem.W.mg_of X G v_LAST_NUMBER⟩,
    g_gcd := PySem.W.mg_of X G v_gcd,
    z_len := PySem.W.mg_none_of X G z_len,
    z_sum := PySem.W.mg_none_of X G z_sum,
    z_max := PySem.W.mg_none_of X G z_max,
    z_min := PySem.W.mg_none_of X G z_min,
    z_range := PySem.W.mg_none_of X G z_range,
    z_int := PySem.W.mg_none_of X G z_int,
    z_bool := PySem.W.mg_none_of X G z_bool,
    z_isinstance := PySem.W.mg_none_of X G z_isinstance,
    z_tuple := PySem.W.mg_none_of X G z_tuple,
    z_enumerate := PySem.W.mg_none_of X G z_enumerate,
    z_list := PySem.W.mg_none_of X G z_list,
    z_str := PySem.W.mg_none_of X G z_str,
    z_sorted := PySem.W.mg_none_of X G z_sorted }
     

     (hTB _ (List.mem_singleton.mpr rfl))
     ⟨⟨_, _, _, _, _, _, _, _, rfl, l_law, c_law⟩⟩

end Rp
open PySem PySem.W PyProof.Rows
set_option maxRecDepth 100000 in
set_option maxHeartbeats 0 in
theorem PySem.Challenge.cw_readingring_k12_whole_repeated_calls_holds : PySem.Challenge.rw_readingring_k12_whole_repeated_calls.Holds := by
  w_on; o_law; k_head; (case hw => w_witness2)
  k_fill
  refine LamX.walk_ofOwn (l := PySem.Challenge.rw_readingring_k12_whole_repeated_calls) (n := 63) (k := 12) (x := "_law_script") (CX := fun _ => L2.CX0) rfl (by decide) rfl ⟨rfl, by decide, by decide⟩ (by decide +kernel) (fun w h Y => PySem.W.km_in_of Y) ?F (fun _ _ _ _ _ h => h)
  case F =>
    intro w mg fa h Y KX G hmg own
    refine' Rp.all_mk KX G hmg ?aC ?x_is_number ?l_is_number ?c_is_number ?k_is_number ?x_lies_between ?l_lies_between ?c_lies_between ?k_lies_between ?x_check_number ?l_check_number ?c_check_number ?k_check_number ?x_check_reader ?l_check_reader ?c_check_reader ?k_check_reader ?x_rinit ?i_rinit ?l_rinit ?c_rinit ?k_rinit ?pa_rdays ?pg_rdays ?pt_rdays ?pr_rdays ?l_rdays ?c_rdays ?k_rdays ?pa_rstarts ?pg_rstarts ?pt_rstarts ?pr_rstarts ?l_rstarts ?c_rstarts ?k_rstarts ?pa_rbooks ?pg_rbooks ?pt_rbooks ?pr_rbooks ?l_rbooks ?c_rbooks ?k_rbooks ?pa_rpace ?pg_rpace ?pt_rpace ?pr_rpace ?l_rpace ?c_rpace ?k_rpace ?x_rwith_days ?i_rwith_days ?l_rwith_days ?c_rwith_days ?k_rwith_days ?x_rlen ?i_rlen ?l_rlen ?c_rlen ?k_rlen ?x_rcall ?i_rcall ?j_rcall ?l_rcall ?c_rcall ?k_rcall ?x_req ?i_req ?l_req ?c_req ?k_req ?x_check_part ?l_check_part ?c_check_part ?k_check_part ?x_slowest_decides ?l_slowest_decides ?c_slowest_decides ?k_slowest_decides ?x_pace_of ?l_pace_of ?c_pace_of ?k_pace_of ?x_round_pace ?l_round_pace ?c_round_pace ?k_round_pace ?x_end_day ?l_end_day ?c_end_day ?k_end_day ?x_begin_day ?l_begin_day ?c_begin_day ?k_begin_day ?x_book_of ?l_book_of ?c_book_of ?k_book_of ?x_heap_on ?l_heap_on ?c_heap_on ?k_heap_on ?x_longest_heap ?l_longest_heap ?c_longest_heap ?k_longest_heap ?x_settled ?l_settled ?c_settled ?k_settled ?x_reader_before ?l_reader_before ?c_reader_before ?k_reader_before ?x_ended_by ?l_ended_by ?c_ended_by ?k_ended_by ?x_begun_by ?l_begun_by ?c_begun_by ?k_begun_by ?x_repetition ?l_repetition ?c_repetition ?k_repetition ?x_row_repeats ?l_row_repeats ?c_row_repeats ?k_row_repeats ?x_chain_of_waits ?l_chain_of_waits ?c_chain_of_waits ?k_chain_of_waits ?x_pace_readers ?l_pace_readers ?c_pace_readers ?k_pace_readers ?x_awaited_reading ?l_awaited_reading ?c_awaited_reading ?k_awaited_reading ?x_same_book_before ?l_same_book_before ?c_same_book_before ?k_same_book_before ?x_helpful_readers ?l_helpful_readers ?c_helpful_readers ?k_helpful_readers ?x_is_helpful ?l_is_helpful ?c_is_helpful ?k_is_helpful ?x_is_smaller ?l_is_smaller ?c_is_smaller ?k_is_smaller ?x_ldice ?l_ldice ?c_ldice ?k_ldice ?x_lnext ?l_lnext ?c_lnext ?k_lnext ?x_llike ?l_llike ?c_llike ?k_llike ?x_lring ?l_lring ?c_lring ?k_lring ?x_law ?l_law ?c_law ?k_law ?pgC ?hdC ?poC ?saC ?mkC ?kC ?clsC ?clsG ?clsT ?clsM ?nD ?nS ?v_LATEST ?v_FEWEST_READERS ?v_MOST_READERS ?v_MOST_DAYS ?v_MOST_BOOKS ?v_LAST_NUMBER ?v_gcd ?z_len ?z_sum ?z_max ?z_min ?z_range ?z_int ?z_bool ?z_isinstance ?z_tuple ?z_enumerate ?z_list ?z_str ?z_sorted own ?tb_c ?tb_l ?tb_p ?tb_h ?tb_n
    (case aC => k_is); (case x_is_number => k_is); (case l_is_number => k_is); (case c_is_number => k_is); (case k_is_number => k_is); (case x_lies_between => k_is); (case l_lies_between => k_is); (case c_lies_between => k_is)
    (case k_lies_between => k_is); (case x_check_number => k_is); (case l_check_number => k_is); (case c_check_number => k_is); (case k_check_number => k_is); (case x_check_reader => k_is); (case l_check_reader => k_is); (case c_check_reader => k_is)
    (case k_check_reader => k_is); (case x_rinit => k_is); (case i_rinit => k_is); (case l_rinit => k_is); (case c_rinit => k_is); (case k_rinit => k_is); (case pa_rdays => k_is); (case pg_rdays => k_is)
    (case pt_rdays => k_is); (case pr_rdays => k_is); (case l_rdays => k_is); (case c_rdays => k_is); (case k_rdays => k_is); (case pa_rstarts => k_is); (case pg_rstarts => k_is); (case pt_rstarts => k_is)
    (case pr_rstarts => k_is); (case l_rstarts => k_is); (case c_rstarts => k_is); (case k_rstarts => k_is); (case pa_rbooks => k_is); (case pg_rbooks => k_is); (case pt_rbooks => k_is); (case pr_rbooks => k_is)
    (case l_rbooks => k_is); (case c_rbooks => k_is); (case k_rbooks => k_is); (case pa_rpace => k_is); (case pg_rpace => k_is); (case pt_rpace => k_is); (case pr_rpace => k_is); (case l_rpace => k_is)
    (case c_rpace => k_is); (case k_rpace => k_is); (case x_rwith_days => k_is); (case i_rwith_days => k_is); (case l_rwith_days => k_is); (case c_rwith_days => k_is); (case k_rwith_days => k_is); (case x_rlen => k_is)
    (case i_rlen => k_is); (case l_rlen => k_is); (case c_rlen => k_is); (case k_rlen => k_is); (case x_rcall => k_is); (case i_rcall => k_is); (case j_rcall => k_is); (case l_rcall => k_is)
    (case c_rcall => k_is); (case k_rcall => k_is); (case x_req => k_is); (case i_req => k_is); (case l_req => k_is); (case c_req => k_is); (case k_req => k_is); (case x_check_part => k_is)
    (case l_check_part => k_is); (case c_check_part => k_is); (case k_check_part => k_is); (case x_slowest_decides => k_is); (case l_slowest_decides => k_is); (case c_slowest_decides => k_is); (case k_slowest_decides => k_is); (case x_pace_of => k_is)
    (case l_pace_of => k_is); (case c_pace_of => k_is); (case k_pace_of => k_is); (case x_round_pace => k_is); (case l_round_pace => k_is); (case c_round_pace => k_is); (case k_round_pace => k_is); (case x_end_day => k_is)
    (case l_end_day => k_is); (case c_end_day => k_is); (case k_end_day => k_is); (case x_begin_day => k_is); (case l_begin_day => k_is); (case c_begin_day => k_is); (case k_begin_day => k_is); (case x_book_of => k_is)
    (case l_book_of => k_is); (case c_book_of => k_is); (case k_book_of => k_is); (case x_heap_on => k_is); (case l_heap_on => k_is); (case c_heap_on => k_is); (case k_heap_on => k_is); (case x_longest_heap => k_is)
    (case l_longest_heap => k_is); (case c_longest_heap => k_is); (case k_longest_heap => k_is); (case x_settled => k_is); (case l_settled => k_is); (case c_settled => k_is); (case k_settled => k_is); (case x_reader_before => k_is)
    (case l_reader_before => k_is); (case c_reader_before => k_is); (case k_reader_before => k_is); (case x_ended_by => k_is); (case l_ended_by => k_is); (case c_ended_by => k_is); (case k_ended_by => k_is); (case x_begun_by => k_is)
    (case l_begun_by => k_is); (case c_begun_by => k_is); (case k_begun_by => k_is); (case x_repetition => k_is); (case l_repetition => k_is); (case c_repetition => k_is); (case k_repetition => k_is); (case x_row_repeats => k_is)
    (case l_row_repeats => k_is); (case c_row_repeats => k_is); (case k_row_repeats => k_is); (case x_chain_of_waits => k_is); (case l_chain_of_waits => k_is); (case c_chain_of_waits => k_is); (case k_chain_of_waits => k_is); (case x_pace_readers => k_is)
    (case l_pace_readers => k_is); (case c_pace_readers => k_is); (case k_pace_readers => k_is); (case x_awaited_reading => k_is); (case l_awaited_reading => k_is); (case c_awaited_reading => k_is); (case k_awaited_reading => k_is); (case x_same_book_before => k_is)
    (case l_same_book_before => k_is); (case c_same_book_before => k_is); (case k_same_book_before => k_is); (case x_helpful_readers => k_is); (case l_helpful_readers => k_is); (case c_helpful_readers => k_is); (case k_helpful_readers => k_is); (case x_is_helpful => k_is)
    (case l_is_helpful => k_is); (case c_is_helpful => k_is); (case k_is_helpful => k_is); (case x_is_smaller => k_is); (case l_is_smaller => k_is); (case c_is_smaller => k_is); (case k_is_smaller => k_is); (case x_ldice => k_is)
    (case l_ldice => k_is); (case c_ldice => k_is); (case k_ldice => k_is); (case x_lnext => k_is); (case l_lnext => k_is); (case c_lnext => k_is); (case k_lnext => k_is); (case x_llike => k_is)
    (case l_llike => k_is); (case c_llike => k_is); (case k_llike => k_is); (case x_lring => k_is); (case l_lring => k_is); (case c_lring => k_is); (case k_lring => k_is); (case x_law => k_is)
    (case l_law => k_is); (case c_law => k_is); (case k_law => k_is); (case pgC => k_is); (case hdC => k_is); (case poC => k_is); (case saC => k_is); (case mkC => k_is)
    (case kC => k_is); (case clsC => k_is); (case clsG => k_is); (case clsT => k_is); (case clsM => k_is); (case nD => k_is); (case nS => k_is); (case v_LATEST => k_is)
    (case v_FEWEST_READERS => k_is); (case v_MOST_READERS => k_is); (case v_MOST_DAYS => k_is); (case v_MOST_BOOKS => k_is); (case v_LAST_NUMBER => k_is); (case v_gcd => k_is); (case z_len => k_is); (case z_sum => k_is)
    (case z_max => k_is); (case z_min => k_is); (case z_range => k_is); (case z_int => k_is); (case z_bool => k_is); (case z_isinstance => k_is); (case z_tuple => k_is); (case z_enumerate => k_is)
    (case z_list => k_is); (case z_str => k_is); (case z_sorted => k_is)
    (case tb_c => first | exact rfl | k_is | k_exc | decide +kernel)
    (case tb_l => first | exact rfl | k_is | k_exc | decide +kernel)
    (case tb_p => first | exact rfl | k_is | k_exc | decide +kernel)
    (case tb_h => first | exact rfl | k_is | k_exc | decide +kernel)
    (case tb_n => first | exact rfl | k_is | k_exc | decide +kernel)
