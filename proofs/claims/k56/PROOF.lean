import PyProof.Rows.All
import Wide.All
import OpenK.AllK
import Wide.FinOn
import PyProof.EqAt
import PyProof.EqKinds
import PyProof.TupleCall
import HandS.ForMost
import HandS.Walk
import HandS.Property
import HandS.Star
import HandS.IsInst
import HandS.Gcd
import HandS.Flow
import KE.KTupSum
import KE.GoesEnum
import HandS.Strs
import HandS.Conv
import HandS.Sort
import HandS.TupAny
import KE.KEqDeep
import HandS.Style
import PySem.Challenge.RW_readingring_k56_whole_the_pace_with_evid
set_option Elab.async false
set_option linter.all false
set_option maxRecDepth 100000
set_option maxHeartbeats 8000000
/-! Rules beside the layer's: len of an own instance, enumerate over a tuple, sum and max of a tuple. -/
namespace Rz
open PySem PySem.Spec PyProof.Rows L2

section
variable {X : Cx}
/-! ### len(o), o an instance whose class defines it -/
def rLenI (C : Addr) (sp : Sp) (E : XK) : List V → Hp → VK → Prop := fun xs H Q => ∃ a dx fs, xs = [.ref a] ∧ H a = some (.ins C dx fs) ∧
  sp [.ref a] H (fun v H' => ∃ n : Int, v = .int n ∧ 0 ≤ n ∧ n < 2 ^ 63 ∧ Q (.int n) H') E
theorem call_lenI {CX : CXT} {k : Nat} {f C : Addr} {sp : Sp} {E : XK} (hs : PySem.W.findIn X.K (.ref C) "__len__" = some (some (.ref f))) (hf : PySem.W.isFn X.K (.ref f) = true)
    (F : FnR X.prog X.w X.K X.mg X.base CX k f sp) (hr : Room (k + 1) X.A) (hx : Passes CX X E) : CallR X (.builtin "len") (rLenI C sp E) := by
  intro pins s σ H xs us Q I r h
  obtain ⟨a, dx, fs, rfl, ea, q⟩ := h
  rw [Vals.ref1 r]
  obtain ⟨mA, O, _⟩ := ins_get I.hok ea
  obtain ⟨od, J, _⟩ := O.look
  have hc : wpAny (model X.prog X.w) X.A.in1 (call (.ref f) [.ref a]) (EP X pins σ (fun v H' => ∃ n : Int, v = .int n ∧ 0 ≤ n ∧ n < 2 ^ 63 ∧ Q (.int n) H')) X.xe s := by
    refine wpAny_call (codeAny_mono (F X.A.in1 X.stack s H [.ref a] [.ref a] _ E hr.in1 I.env0.in1 (.cons rfl .nil) q) fun r s' hq => ?_)
    cases r with
    | error e => exact hx pins σ H s e s' I hq
    | ok fl =>
      cases fl with
      | ret u => exact I.after hq
      | next => exact False.elim hq
      | brk => exact False.elim hq
      | cont => exact False.elim hq
  refine Calls.call_function_entry kind_len plain_len entry_len (args_len1 _) ?_
  unfold Builtin.«len»
  refine wpAny_bind (m := oneArg "len" _) (wpAny_pure ?_)
  refine wpAny_bind (m := callSpecial? (.ref a) (Str.ofString "__len__")) (PySem.W.special_fn I.kIn J hs (beq_iff_eq.mp hf) (wpAny_mono hc (fun r s' hr => ?_) fun _ _ y => y))
  obtain ⟨v, H', I', rv, n, rfl, h0, h1, hq⟩ := hr
  obtain ⟨t, rfl⟩ := rv
  refine wpAny_bind (wpAny_holding (wpAny_pure ?_))
  refine wpAny_bind (wpAny_letGo ?_)
  show wpAny _ _ (if n < 0 then _ else _) _ _ _
  rw [if_neg (by omega)]
  show wpAny _ _ (if n ≥ 2 ^ 63 then _ else _) _ _ _
  rw [if_neg (by omega)]
  exact wpAny_bind (wpAny_mkInt (wpAny_pure ⟨_, rfl, ⟨.int n, H', I'.tok _, ⟨_, rfl⟩, hq⟩⟩))

/-! ### sum, max of a tuple of ints -/
def rSumT (K : PySem.W.Frag) : List V → Hp → VK → Prop := fun vs H Q => ∃ (a : Addr) (ns : List Int), vs = [V.ref a] ∧ SqT K H a (ns.map V.int) ∧ Q (.int ns.sum) H
def rMaxT (K : PySem.W.Frag) : List V → Hp → VK → Prop := fun vs H Q => ∃ (a : Addr) (ns : List Int), vs = [V.ref a] ∧ SqT K H a (ns.map V.int) ∧ 0 < ns.length ∧
  ∀ m, m ∈ ns → (∀ y, y ∈ ns → y ≤ m) → Q (.int m) H
theorem cr_sumT (hc : X.calm = true) : CallR X (.builtin "sum") (rSumT X.K) := by
  intro pins s σ H vs us Q I r h
  obtain ⟨a, ns, rfl, hs, q⟩ := h
  obtain ⟨its, rv, hl, _⟩ := I.tuple hs
  rw [Vals.ref1 r]
  have hi := rv.ints
  have hl' : s.heap.IsTuple a its.toArray := hl
  obtain ⟨xs, e⟩ := hi.allInts.items
  have hn : numsOf (intItems xs).toList = ns := by rw [← e]; exact hi.numsOf
  rw [nums_intItems] at hn
  rw [e] at hl'
  refine PySem.W.ktm_sumG (I.ok.hd hc) hl' fun h' tk t' hk => ?_
  have J : Inv X pins σ H { s with heap := h', toks := tk } := I.kept hk
  refine ⟨.int ns.sum, H, J, ⟨t', ?_⟩, q⟩
  rw [preSum_eq, List.take_of_length_le (by simp), hn]
theorem max_tup {prog : Program} {w : World} {A : Around} {E : Value → Shared → Prop} {s : Shared} {l : Addr} {xs : Array (Int × Tok)} {Q : Value → Shared → Prop} (hh : A.handled = none) (ht : s.heap.IsTuple l (intItems xs)) (hne : 0 < xs.size)
    (h : ∀ v h' tk, (intItems xs)[argBest (fun i j => decide (numAt xs i > numAt xs j)) (xs.size - 1)]? = some v → (∀ b o, s.heap.get? b = some o → h'.get? b = some o) → Q v { s with heap := h', toks := tk }) :
    wpAny (model prog w) A (call (.builtin "max") [.ref l]) Q E s := by
  obtain ⟨o, ho, hc, n, hd⟩ := id ht
  have hlt : l < s.heap.objs.size := Heap.lt_size ho
  refine call_max_walk (wpAny_pyIter_tuple ht ?_)
  refine ⟨s.heap.objs.size, _, _, _, _, _, _, rfl, Walks.tuple (A := A.in1) hh _ l (Nat.ne_of_lt hlt) (intItems xs), ⟨⟨_, Heap.get?_push_size _ rfl, rfl, rfl⟩, ht.at fun o e => Heap.get?_push_of_some _ e⟩, fun b hb => ?_, by simpa [intItems] using hne,
    CmpOf.ints_gt (numAt xs) (fun _ _ => intItems_at), fun v h' tk hP hk => ?_⟩
  · rcases List.mem_cons.mp hb with rfl | hb
    · exact Heap.lt_size (Heap.get?_push_size _ rfl)
    · obtain rfl := List.mem_singleton.mp hb
      exact Heap.lt_size (Heap.get?_push_of_some _ ho)
  · refine h v h' tk (by simpa [intItems] using hP) fun b o e => ?_
    refine hk b o (fun hm => ?_) (Heap.get?_push_of_some _ e)
    have := List.mem_singleton.mp hm
    exact absurd (this ▸ Heap.lt_size e) (Nat.lt_irrefl _)
theorem cr_maxT (hc : X.calm = true) : CallR X (.builtin "max") (rMaxT X.K) := by
  intro pins s σ H vs us Q I r h
  obtain ⟨a, ns, rfl, hs, hne, q⟩ := h
  obtain ⟨its, rv, hl, _⟩ := I.tuple hs
  rw [Vals.ref1 r]
  have hi := rv.ints
  have hl' : s.heap.IsTuple a its.toArray := hl
  obtain ⟨xs, e⟩ := hi.allInts.items
  have hn : numsOf (intItems xs).toList = ns := by rw [← e]; exact hi.numsOf
  rw [nums_intItems] at hn
  subst hn
  rw [e] at hl'
  have hsz : 0 < xs.size := by simpa using hne
  refine max_tup (I.ok.hd hc) hl' hsz fun v h' tk hv hk => ?_
  obtain ⟨t, rfl⟩ := intItems_at hv
  obtain ⟨h1, h2⟩ := argBest_gt (numAt xs) (xs.size - 1)
  refine ⟨.int _, H, I.kept hk, ⟨t, rfl⟩, q _ ?_ fun a ha => ?_⟩
  · rw [numAt_eq]; exact PySem.getD_mem (by rw [List.length_map, Array.length_toList]; omega)
  · obtain ⟨j, hj, rfl⟩ := mem_getD ha
    rw [List.length_map, Array.length_toList] at hj
    rw [← numAt_eq]; exact h2 j (by omega)
end

/-! ### enumerate(t), t a tuple -/
theorem meets_enumerate_newT (l : Addr) (items : Array Value) (n : Nat) (dct : Option Addr) (sl : Array (Option Value)) :
    Meets (Builtin.«enumerate.__new__» ⟨[.type "enumerate", .ref l], []⟩) (fun _ R s => s.heap.get? l = some { cls := .type "tuple", dict := dct, data := .seq items n, slots := sl } ∧
      R (.ok (.ret (.ref (s.heap.push { cls := .type "tuple_iterator", data := .fields #[.ref l, .int 0 0] }).objs.size)))
        { s with heap := (s.heap.push { cls := .type "tuple_iterator", data := .fields #[.ref l, .int 0 0] }).push { cls := .type "enumerate", data := .fields #[.none, .bool false, .ref s.heap.objs.size, rawInt 0, .none, .none] } }) :=
  .of_wp fun prog w A R s h => by
    obtain ⟨hp, g, d, tk, os⟩ := s; obtain ⟨hl, h⟩ := h
    have hsub := sub_enumerate
    have hL : Heap.IsTuple (Shared.heap ⟨hp, g, d, tk, os⟩) l items := ⟨_, hl, rfl, n, rfl⟩
    wp_walk using AutoSeq1.wpAny_loadPart' hl
    refine wpAny_stack_any fun st => wpAny_pure ?_
    split
    · rename_i c _ _ _ _ _
      cases (c == Value.type "enumerate")
      · wp_walk using AutoSeq1.wpAny_loadPart' hl, wpAny_pyIter_tuple hL
        exact ⟨_, rfl, h⟩
      · wp_walk using AutoSeq1.wpAny_loadPart' hl, wpAny_pyIter_tuple hL
        exact ⟨_, rfl, h⟩
    · wp_walk using AutoSeq1.wpAny_loadPart' hl, wpAny_pyIter_tuple hL
      exact ⟨_, rfl, h⟩
theorem call_enumerate_tuple {prog : Program} {w : World} {A : Around} {E : Value → Shared → Prop} {s : Shared} {l : Addr} {items : Array Value} {Q : Value → Shared → Prop} (hL : s.heap.IsTuple l items)
    (h : ∀ h', IsEnum h' (s.heap.objs.size + 1) s.heap.objs.size 0 .none → h'.IsTupleIter s.heap.objs.size l 0 → h'.objs.size = s.heap.objs.size + 2 →
      (∀ b o, s.heap.get? b = some o → h'.get? b = some o) → Q (.ref (s.heap.objs.size + 1)) { s with heap := h' }) :
    wpAny (model prog w) A (call (.type "enumerate") [.ref l]) Q E s := by
  obtain ⟨⟨c, dct, dt, sl⟩, hl, hc, n, hd⟩ := hL
  replace hc : c = .type "tuple" := hc
  replace hd : dt = .seq items n := hd
  subst hc hd
  refine callType_new F.called_enumerate (by decide) (F.typeCall_enumerate_1 _) (F.newCall_enumerate_1 _) (fun obj => F.args_object_init_2 obj _) F.entry_enumerate_new
    (meets_enumerate_newT l items n dct sl) ⟨hl, ?_⟩
  have hz : (s.heap.push { cls := .type "tuple_iterator", data := .fields #[.ref l, .int 0 0] }).objs.size = s.heap.objs.size + 1 := Heap.size_push ..
  show _ ∧ _
  rw [hz]
  have he : IsEnum ((s.heap.push { cls := .type "tuple_iterator", data := .fields #[.ref l, .int 0 0] }).push
      { cls := .type "enumerate", data := .fields #[.none, .bool false, .ref s.heap.objs.size, rawInt 0, .none, .none] }) (s.heap.objs.size + 1) s.heap.objs.size 0 .none := by
    have := Heap.get?_push_size (s.heap.push { cls := .type "tuple_iterator", data := .fields #[.ref l, .int 0 0] })
      (o := { cls := .type "enumerate", data := .fields #[.none, .bool false, .ref s.heap.objs.size, rawInt 0, .none, .none] }) rfl
    rw [hz] at this; exact this
  refine ⟨⟨_, he, rfl⟩, h _ he ⟨_, Heap.get?_push_of_some _ (Heap.get?_push_size _ rfl), rfl, rfl⟩ (by rw [Heap.size_push, hz]) fun b o x => Heap.get?_push_of_some _ (Heap.get?_push_of_some _ x)⟩

/-- the tuple at a, each item in a new pair with its number -/
def IteT (K : PySem.W.Frag) (a : Addr) : It :=
  ⟨fun i H => ∃ (xs : List V) (x : V), SqT K H a xs ∧ xs[i]? = some x, fun i H v H' => ∃ T x, v = .ref T ∧ H T = none ∧ H' = upd H T (.tup [.int (i : Nat), x]) ∧ ∀ xs, SqT K H a xs → xs[i]? = some x, fun i H => ∃ xs : List V, SqT K H a xs ∧ xs.length = i⟩
theorem turn_enumT {P : Program} {w : World} {K : PySem.W.Frag} {elts : List Expr} {kk : Nat} {tpos : Pos} (a e it : Addr) :
    Turn P w K (.Tuple elts kk tpos) (IteT K a) [e, it] e (fun i h => (∃ old, IsEnum h e it ((i : Nat) : Int) old) ∧ h.IsTupleIter it a i ∧ e ≠ it ∧ e ≠ a ∧ it ≠ a) where
  mem := by simp
  obj := fun i h st b hb => by
    obtain ⟨⟨old, he⟩, ⟨o, ho, hc, hd⟩, _⟩ := st
    have e' : b = e ∨ b = it := by simpa using hb
    rcases e' with z | z
    · rw [z]; exact ⟨_, he, fun v q => nomatch q⟩
    · rw [z]; exact ⟨o, ho, fun v q => by rw [hd] at q; cases q⟩
  keep := fun i h h' st k => let ⟨⟨old, he⟩, hi, hne⟩ := st; ⟨⟨old, k e (by simp) _ he⟩, hi.at fun o q => k it (by simp) o q, hne⟩
  item := by
    intro X hP hw hK hc i pins s σ H E I hf st hg
    subst hP hw hK
    obtain ⟨⟨old, he⟩, hit, hne, hea, hia⟩ := st
    obtain ⟨xs, x, hq, hx⟩ := hg
    obtain ⟨its, rv, p, hz⟩ := I.tuple hq
    obtain ⟨u, hu, ru⟩ := rv.get hx
    have hel : e < s.heap.objs.size := Heap.lt_size he
    have hil : it < s.heap.objs.size := by obtain ⟨_, q, _⟩ := hit; exact Heap.lt_size q
    have hlt : i < its.toArray.size := by
      have := (List.getElem?_eq_some_iff.mp hu).1
      simpa using this
    refine wpAny_pyNext_enum_itemC (Draws.tuple (prog := X.prog) (w := X.w) (A := X.A.in1) (I.ok.hd hc) it a (Ne.symm hia) its.toArray) he ⟨hit, p⟩ hlt hne (by simp [hne, hea]) fun x' h' tk hPx ho hst' hT hsz hk => ?_
    have ex : x' = u := by
      have h1 : its.toArray[i]? = some u := by simpa using hu
      exact Option.some.inj (hPx.symm.trans h1)
    subst ex
    obtain ⟨hit', _⟩ := hst'
    refine ⟨_, rfl, wpAny_letOwnedTupleGo_enum (s := { s with heap := h', toks := tk + 1 }) ho fun h'' he' sb => ?_⟩
    have hT2 : h''.get? s.heap.objs.size = some { cls := .type "tuple", data := .seq #[.int i tk, x'] } := (sb.2 _ (Nat.ne_of_gt hel)).trans hT
    have new : ObjOk X.prog X.w (upd H s.heap.objs.size (.tup [.int (i : Nat), x])) h'' s.heap.objs.size (.tup [.int (i : Nat), x]) :=
      ⟨by show 2 ≤ sizeLine; decide, [.int i tk, x'], .cons ⟨_, rfl⟩ (.cons ru .nil), ⟨_, hT2, rfl, _, rfl⟩⟩
    have I1 : Inv X pins σ (upd H s.heap.objs.size (.tup [.int (i : Nat), x])) { s with heap := h'', toks := tk + 1 } :=
      I.turnedNew (ch := [e, it]) (fun b ob hb q => (sb.2 b (fun z => hb (by simp [z]))).trans (hk b ob (fun z => hb (by simp [z])) (fun z => hb (by simp [z])) q)) hf (Nat.le_refl _) new
    refine ⟨.ref s.heap.objs.size, _, I1, rfl, ⟨_, x, rfl, I.hok.fresh (Nat.le_refl _), rfl, fun ys hy => by rw [I.tuple_inj hy hq]; exact hx⟩, ⟨⟨x', ?_⟩, hit'.at fun o q => (sb.2 it (Ne.symm hne)).trans q, hne, hea, hia⟩, fun b hb => ?_⟩
    · have e1 : ((i + 1 : Nat) : Int) = (i : Int) + 1 := by omega
      rw [e1]; exact he'
    · have hb' : b < s.heap.objs.size := by
        have e' : b = e ∨ b = it := by simpa using hb
        rcases e' with z | z
        · rw [z]; exact hel
        · rw [z]; exact hil
      rw [upd_ne (Nat.ne_of_lt hb')]
      exact (hf b hb).1
  done := by
    intro X hP hw hK hc i pins s σ H E I hf st hg
    subst hP hw hK
    obtain ⟨⟨old, he⟩, hit, hne, hea, hia⟩ := st
    obtain ⟨xs, hq, hx⟩ := hg
    obtain ⟨its, rv, p, hz⟩ := I.tuple hq
    obtain ⟨f0, f1, f2, f3, f4, f5⟩ := hf it (by simp)
    have hl := rv.length
    have hn : i = its.toArray.size := by simp; omega
    subst hn
    exact wpAny_pyNext_enum_endD (Draws.tuple (prog := X.prog) (w := X.w) (A := X.A.in1) (I.ok.hd hc) it a (Ne.symm hia) its.toArray) he ⟨hit, p⟩ fun h' eb => ⟨rfl, I.turned (t' := s.toks) (fun b o hb q => eb b o hb q) f0 f1 f3 f4 f5⟩
  self := fun A i s Q E st h => let ⟨⟨_, he⟩, _⟩ := st; wpAny_pyIter_enum he h
def iEnumT (K : PySem.W.Frag) (ta : TA) : TI := fun σ H R => ta σ H fun vs H1 => ∃ a xs, vs = [.ref a] ∧ SqT K H1 a xs ∧ R (IteT K a) H1
theorem pi_enumT {X : Cx} {e : Expr} {ta : TA} {p pos tpos : Pos} {elts : List Expr} {kk : Nat} (hg : Gl X "enumerate") (hm : X.mg "enumerate" = none) (ha : PA X [e] ta) (hs : starEach [e] X.env = [(false, eval e X.env)] := by rfl) :
    PI X (.Tuple elts kk tpos) (.Call (.Name "enumerate" p) [e] [] pos) (iEnumT X.K ta) := by
  refine ⟨fun pins s σ H R I h => ?_⟩
  refine Call_ (ld_blt I hg hm boot_enumerate (PyProof.Rows.callWith_type1 (thn (ha.run pos pins s σ H _ I h) fun us s1 ⟨vs, H1, I1, r1, q1⟩ => ?_) hs rfl))
  obtain ⟨a, xs, ex, hq, q⟩ := q1
  subst ex
  cases r1 with
  | cons r rr =>
    cases rr
    cases r
    obtain ⟨its, rv, p', hz⟩ := I1.tuple hq
    have la : a < s1.heap.objs.size := by obtain ⟨_, y, _⟩ := p'; exact Heap.lt_size y
    refine call_enumerate_tuple (show s1.heap.IsTuple a its.toArray from p') fun h' he hit hsz hk => wpAny_pyIter_enum he ?_
    have I2 : Inv X pins σ H1 { s1 with heap := h' } := I1.kept (t' := s1.toks) hk
    refine ⟨s1.heap.objs.size + 1, [s1.heap.objs.size + 1, s1.heap.objs.size], _, _, H1, rfl, I2, turn_enumT a (s1.heap.objs.size + 1) s1.heap.objs.size, ⟨⟨.none, he⟩, hit, Nat.succ_ne_self _, Nat.ne_of_gt (Nat.lt_succ_of_lt la), Nat.ne_of_gt la⟩, fun b hb => ?_, q⟩
    have e' : b = s1.heap.objs.size + 1 ∨ b = s1.heap.objs.size := by simpa using hb
    have hle : s1.heap.objs.size ≤ b := by
      rcases e' with z | z
      · rw [z]; exact Nat.le_add_right _ _
      · rw [z]; exact Nat.le_refl _
    exact I1.fpOk hle (I1.hok.fresh hle)
theorem walk_enumT {K : PySem.W.Frag} {a : Addr} {xs : List V} : Walk (IteT K a) xs.length (fun H => SqT K H a xs) (YPair (fun i => some (.int (i : Nat))) (fun i => xs[i]?)) := by
  refine ⟨fun i _ hi q => ⟨xs, xs[i], q, by simp [hi]⟩, fun _ q => ⟨xs, q, rfl⟩, fun i H v H' _ q y => ?_⟩
  obtain ⟨T, x, h1, h2, h3, h4⟩ := y
  exact ⟨T, .int (i : Nat), x, h1, h2, h3, rfl, h4 xs q⟩
/-! ### f(e, ..), f an instance: a reading that speaks of no context -/
def tCallI (C : Addr) (sp : Sp) (E : XK) (tf : TE) (t : TA) : TE := fun σ H Q => tf σ H fun y H1 => ∃ a, y = V.ref a ∧ t σ H1 fun vs H2 => (∃ dx fs, H2 a = some (.ins C dx fs)) ∧ sp (V.ref a :: vs) H2 Q E
theorem pe_callI {X : Cx} {CX : CXT} {k : Nat} {C g : Addr} {sp : Sp} {E : XK} {fe e : Expr} {es : List Expr} {tf : TE} {t : TA} {pos : Pos} (hf : PE X fe tf) (c : StX.CallO X.K C g) (F : FnR X.prog X.w X.K X.mg X.base CX k g sp) (hr : Room k X.A) (hx : Passes CX X E) (ha : PA X (e :: es) t)
    (ht : eval (.Call fe (e :: es) [] pos) X.env = (do callWith pos (← eval fe X.env) [] (backTo pos (starEach (e :: es) X.env)) (backToKw pos (keywordEach [] X.env))) := by rfl)
    (he : starEach (e :: es) X.env = (false, eval e X.env) :: starEach es X.env := by rfl) (hpl : (backTo pos (starEach es X.env)).any (·.1) = false := by rfl) : PE X (.Call fe (e :: es) [] pos) (tCallI C sp E tf t) := by
  refine ⟨fun pins s σ H Q I h => ?_⟩
  refine Call_ (thn (hf.run pins s σ H _ I h) fun u s1 ⟨y, H1, I1, ry, a, ey, q⟩ => ?_) ht
  subst ey
  obtain rfl : u = Value.ref a := ry
  refine StX.callO_with (thn (ha.run pos pins s1 σ H1 _ I1 q) fun us s2 ⟨vs, H2, I2, r, hi, q2⟩ => ?_) he hpl
  have hi' : StX.InsC X H2 a C := .inr hi
  obtain ⟨ox, od, J, hd⟩ := StX.insC_at I2 hi'
  exact ⟨⟨C, ox, od, J, hd⟩, StX.run_callO c F hr hx I2 hi' r q2⟩
end Rz
/-! More rules beside the layer's: a range that stands in a slot, walked; a tuple's index of an int. -/
namespace Rz
open PySem PySem.Spec PyProof.Rows L2
section
variable {X : Cx}
def iRngV (te : TE) : TI := fun σ H R => te σ H fun x H1 => ∃ a lo hi, x = .ref a ∧ H1 a = some (.rng lo hi) ∧ (-(2 ^ 62) ≤ lo ∧ lo < 2 ^ 62 ∧ -(2 ^ 62) ≤ hi ∧ hi < 2 ^ 62) ∧ R (Itr lo (hi - lo).toNat) H1
theorem pi_rngV {tg e : Expr} {te : TE} (he : PE X e te) : PI X tg e (iRngV te) := by
  refine ⟨fun pins s σ H R I h => ?_⟩
  refine thn (he.run pins s σ H _ I h) fun v s1 ⟨x, H1, I1, r1, q1⟩ => ?_
  obtain ⟨a, lo, hi, ex, ha, ⟨h1, h2, h3, h4⟩, q⟩ := q1
  subst ex
  cases r1
  obtain ⟨t, u, v, ho⟩ := (show ObjOk X.prog X.w H1 s1.heap a (.rng lo hi) from I1.hok a _ ha)
  refine wpAny_pyIter_range (show IsRange s1.heap a lo hi 1 t u v from ho) (small_one h1 h2 h3 h4) ?_
  refine ⟨s1.heap.objs.size, [s1.heap.objs.size], _, _, H1, rfl, I1.kept (t' := s1.toks) fun b o e => Heap.get?_push_of_some _ e, turn_range _ lo (hi - lo).toNat, ?_, fun b hb => ?_, q⟩
  · have e1 : lo + ((0 : Nat) : Int) * 1 = lo := by simp
    have e2 : (((hi - lo).toNat : Nat) : Int) - ((0 : Nat) : Int) = Builtin.Range.rangeSize lo hi 1 := by rw [rangeSize_one]; split <;> omega
    show IsRangeIter _ _ (lo + ((0 : Nat) : Int) * 1) ((((hi - lo).toNat : Nat) : Int) - ((0 : Nat) : Int)) 1
    rw [e1, e2]
    exact Heap.get?_push_size _ rfl
  · have e : b = s1.heap.objs.size := by simpa using hb
    subst e
    exact I1.fpOk (Nat.le_refl _) (I1.hok.fresh (Nat.le_refl _))
/-- t.index(i), the first place -/
theorem mt_tup_indexI : MtR X "tuple.index" (fun x xs H Q => ∃ p, ∃ ys : List Int, ∃ z j, x = .ref p ∧ xs = [.int z] ∧ SqT X.K H p (ys.map V.int) ∧ ys[j]? = some z ∧ (∀ m y, m < j → ys[m]? = some y → y ≠ z) ∧ Q (.int (j : Nat)) H) := by
  intro pins s σ H x xs v us Q I rx rs h
  obtain ⟨p, ys, z, j, rfl, rfl, hq, hy, hno, q⟩ := h
  cases rx
  obtain ⟨u, rfl, t, rfl⟩ := vals1 rs
  obtain ⟨its, r, pl, hz⟩ := I.tuple hq
  obtain ⟨⟨cls, dd, dt, sl⟩, ho, hc, n, hd⟩ := pl
  simp only at hc hd
  subst hc
  subst hd
  have fl : (ys.map V.int).all flatV = true := by
    rw [List.all_eq_true]
    intro x hx
    obtain ⟨i, _, rfl⟩ := List.mem_map.mp hx
    rfl
  have hl : its.toArray.size = ys.length := by rw [List.size_toArray, ← r.length, List.length_map]
  have hj : j < its.toArray.size := by rw [hl]; exact (List.getElem?_eq_some_iff.mp hy).1
  have at' : ∀ (m : Nat) (hm : m < its.toArray.size), ∃ y t', ys[m]? = some y ∧ its.toArray[m] = Value.int y t' := fun m hm => by
    have hm' : m < ys.length := by rw [← hl]; exact hm
    obtain ⟨w, hw, t', hw'⟩ := r.get (i := m) (x := .int ys[m]) (by simp [hm'])
    refine ⟨ys[m], t', List.getElem?_eq_getElem hm', ?_⟩
    have e := (List.getElem?_eq_some_iff.mp hw).2
    rw [← hw', ← e]
    simp
  refine call_meets PySem.F.slot_tuple_index ⟨_, ho, rfl⟩ PySem.F.entry_tuple_index (PySem.F.args_tuple_index_2 _ _) (TI.tuple_indexAt p its.toArray n dd sl (.int z t) (eqU (.int z)) j hj ?_ ?_)
    ⟨ho, fun w hw => mem_eqAt (x := .int z) ⟨t, rfl⟩ rfl r fl w (by simpa using hw), ⟨.int (j : Nat), H, I.tok _, ⟨_, rfl⟩, q⟩⟩
  · obtain ⟨y, t', h1, h2⟩ := at' j hj
    rw [hy] at h1
    cases h1
    rw [h2]
    show (z == z) = true
    exact beq_self_eq_true z
  · intro m hm hmj
    obtain ⟨y, t', h1, h2⟩ := at' m hm
    rw [h2]
    show (y == z) = false
    exact beq_eq_false_iff_ne.mpr (hno m y hmj h1)
/-- tuple(l): a new one whose object is known -/
def rTupF (K : PySem.W.Frag) : List V → Hp → VK → Prop := fun xs H Q => ∃ p ys, xs = [.ref p] ∧ SqL K H p ys ∧ ∀ (l : Addr) (o : Obj), H l = none → o.dict = none → Q (.ref l) (upd H l (.frz o (.tup ys)))
theorem call_tuple_frz : CallR X (.type "tuple") (rTupF X.K) := by
  intro pins s σ H xs us Q I r h
  obtain ⟨p, ys, rfl, hq, q⟩ := h
  obtain ⟨u, rfl, rx⟩ := vals1 r
  cases rx
  obtain ⟨its, r', pl, hz⟩ := I.list hq
  have hlen := r'.length
  refine call_tuple_list pl.isList (fun h' kp => ?_) (by simp only [List.size_toArray] <;> omega)
  have I1 : Inv X pins σ H { s with heap := h' } := I.kept (t' := s.toks) kp
  have ho : (h'.push { cls := .type "tuple", data := .seq its.toArray }).get? h'.objs.size = some { cls := .type "tuple", data := .seq its.toArray } := Heap.get?_push_size _ rfl
  have I2 : Inv X pins σ (upd H h'.objs.size (.frz { cls := .type "tuple", data := .seq its.toArray } (.tup ys))) { s with heap := h'.push { cls := .type "tuple", data := .seq its.toArray } } :=
    I1.laid (t' := s.toks) (fun b o e => Heap.get?_push_of_some _ e) (Nat.le_refl _) (show ObjOk X.prog X.w _ _ _ (.frz _ (.tup ys)) from ⟨ho, hz, its, r', IsTup.new _ _⟩)
  exact ⟨.ref h'.objs.size, _, I2, rfl, q _ _ (I1.hok.fresh (Nat.le_refl _)) rfl⟩
/-- t.m(e, ..), t a tuple whose object is known -/
def tBMF (r : V → List V → Hp → VK → Prop) (to : TE) (t : TA) : TE := fun σ H Q => to σ H fun x H1 => ∃ (a : Addr) (xs : List V), x = .ref a ∧ (∃ o : Obj, o.dict = none ∧ H1 a = some (.frz o (.tup xs))) ∧ t σ H1 fun vs H2 => r x vs H2 Q
theorem pe_bmF {o e : Expr} {es : List Expr} {to : TE} {t : TA} {name : Str} {apos cpos : Pos} {id : String} {r : V → List V → Hp → VK → Prop} (pa : PlainAttrs "tuple") (slot : Slot "tuple" name id) (hty : typeOf (.builtin id) = pure (.type "method_descriptor")) (hm : MtR X id r) (ho : PE X o to) (ha : PA X (e :: es) t)
    (hbase : attributeBase o name X.env (eval o X.env) = eval o X.env := by rfl)
    (hfew : ((backTo cpos (starEach (e :: es) X.env)).all (fun x => !x.1) && (backToKw cpos (keywordEach [] X.env)).all (fun x => x.1.isSome)
      && decide ((e :: es).length + ([] : List Keyword).length + (if ([] : List Keyword).isEmpty then 0 else 1) < 30)) = true := by rfl)
    (hline : (apos.endLine == cpos.line) = true := by rfl) (hs : starEach (e :: es) X.env = (false, eval e X.env) :: starEach es X.env := by rfl) (hplain : (backTo cpos (starEach es X.env)).any (·.1) = false := by rfl) :
    PE X (.Call (.Attribute o name apos) (e :: es) [] cpos) (tBMF r to t) := by
  refine ⟨fun pins s σ H Q I h => ?_⟩
  refine wpAny_Call_method_late hbase hfew hline rfl (thn (ho.run pins s σ H _ I h) fun v s1 ⟨x, H1, I1, r1, a, xs, ex, ⟨ob, hd, hf⟩, q1⟩ => ?_)
  subst ex
  obtain rfl : v = Value.ref a := r1
  obtain ⟨hob, hz, its, rv, pt⟩ := (show ObjOk X.prog X.w H1 s1.heap a (.frz ob (.tup xs)) from I1.hok a _ hf)
  have pt2 := pt
  obtain ⟨ob2, h1, h2, _⟩ := pt2
  refine ⟨"tuple", id, pa, slot, hty, ⟨ob2, h1, h2⟩, fun b e => ?_, ?_⟩
  · cases e
    exact ⟨ob, hob, hd⟩
  have hA := ha.run cpos pins s1 σ H1 _ I1 q1
  rw [hs] at hA ⊢
  refine Calls.callWith_builtin (by show (false || (backTo cpos (starEach es X.env)).any (·.1)) = false; rw [hplain] <;> rfl) (Calls.evalArgs_plain ?_)
  exact thn hA fun us s2 ⟨vs, H2, I2, r2, q2⟩ => hm pins s2 σ H2 (.ref a) vs (.ref a) us Q I2 rfl r2 q2
end
end Rz
/-! The mathematics of a ring: the ends as the greatest sum over chains, Bellman's equation, where ends repeat. -/
namespace Rm
/-- f r + f (r - 1) + .. , k terms -/
def sumBack (f : Int → Int) (r : Int) : Nat → Int
  | 0 => 0
  | k + 1 => sumBack f r k + f (r - k)
/-- the greatest of f r .. f (r - k) -/
def maxBack (f : Int → Int) (r : Int) : Nat → Int
  | 0 => f r
  | k + 1 => max (maxBack f r k) (f (r - (k + 1 : Nat)))
theorem sum_front (f : Int → Int) : ∀ (k : Nat) (r : Int), sumBack f r (k + 1) = f r + sumBack f (r - 1) k
  | 0, r => by simp [sumBack]
  | k + 1, r => by
    show sumBack f r (k + 1) + f (r - (k + 1 : Nat)) = f r + (sumBack f (r - 1) k + f (r - 1 - k))
    rw [sum_front f k r, show r - ((k + 1 : Nat) : Int) = r - 1 - k by omega]
    omega
theorem max_front (f : Int → Int) : ∀ (k : Nat) (r : Int), maxBack f r (k + 1) = max (f r) (maxBack f (r - 1) k)
  | 0, r => by simp [maxBack]
  | k + 1, r => by
    show max (maxBack f r (k + 1)) (f (r - (k + 1 + 1 : Nat))) = max (f r) (max (maxBack f (r - 1) k) (f (r - 1 - (k + 1 : Nat))))
    rw [max_front f k r, show r - ((k + 1 + 1 : Nat) : Int) = r - 1 - (k + 1 : Nat) by omega]
    omega
theorem sum_add (f : Int → Int) (r : Int) (k : Nat) : ∀ n : Nat, sumBack f r (k + n) = sumBack f r k + sumBack f (r - k) n
  | 0 => by simp [sumBack]
  | n + 1 => by
    show sumBack f r (k + n) + f (r - (k + n : Nat)) = sumBack f r k + (sumBack f (r - k) n + f (r - k - n))
    rw [sum_add f r k n, show r - ((k + n : Nat) : Int) = r - k - n by omega]
    omega
theorem sum_mono {f : Int → Int} (h : ∀ i, 0 ≤ f i) (r : Int) {j k : Nat} (hjk : j ≤ k) : sumBack f r j ≤ sumBack f r k := by
  induction k with
  | zero =>
    have : j = 0 := by omega
    subst this
    exact Int.le_refl _
  | succ k ih =>
    by_cases e : j = k + 1
    · subst e
      exact Int.le_refl _
    · have := ih (by omega)
      have h2 := h (r - k)
      show sumBack f r j ≤ sumBack f r k + f (r - k)
      omega
theorem sum_nn {f : Int → Int} (h : ∀ i, 0 ≤ f i) (r : Int) (k : Nat) : 0 ≤ sumBack f r k := sum_mono h r (Nat.zero_le k)
theorem max_ge {f : Int → Int} (r : Int) : ∀ {j k : Nat}, j ≤ k → f (r - j) ≤ maxBack f r k
  | j, 0, h => by
    have : j = 0 := by omega
    subst this
    simp [maxBack]
  | j, k + 1, h => by
    show f (r - j) ≤ max (maxBack f r k) (f (r - (k + 1 : Nat)))
    by_cases e : j = k + 1
    · subst e
      omega
    · have := max_ge (f := f) r (j := j) (k := k) (by omega)
      omega
theorem max_le {f : Int → Int} {M : Int} (h : ∀ i, f i ≤ M) (r : Int) : ∀ k : Nat, maxBack f r k ≤ M
  | 0 => h r
  | k + 1 => by
    have h1 := max_le h r k
    have h2 := h (r - (k + 1 : Nat))
    show max (maxBack f r k) (f (r - (k + 1 : Nat))) ≤ M
    omega
theorem max_mono {f : Int → Int} (r : Int) {j k : Nat} (h : j ≤ k) : maxBack f r j ≤ maxBack f r k := by
  induction k with
  | zero =>
    have : j = 0 := by omega
    subst this
    exact Int.le_refl _
  | succ k ih =>
    by_cases e : j = k + 1
    · subst e
      exact Int.le_refl _
    · have := ih (by omega)
      show maxBack f r j ≤ max (maxBack f r k) (f (r - (k + 1 : Nat)))
      omega

/-- readers in a ring: days, books at first, all books, all days, the slowest -/
structure Ring (N : Nat) (d s : Int → Int) (B T M : Int) : Prop where
  pos : 0 < N
  dper : ∀ i t : Int, d (i + N * t) = d i
  sper : ∀ i t : Int, s (i + N * t) = s i
  d1 : ∀ i, 1 ≤ d i
  s0 : ∀ i, 0 ≤ s i
  b : ∀ r, sumBack s r N = B
  b1 : 1 ≤ B
  t : ∀ r, sumBack d r N = T
  mu : ∀ i, d i ≤ M
  ma : ∃ i, d i = M

/-- the sum of the chain from reading x of reader r that goes k readers back -/
def ch (d s : Int → Int) (r : Int) (k : Nat) (x : Int) : Int := sumBack d r (k + 1) + (x - sumBack s r k) * maxBack d r k
/-- e is the greatest of them -/
def IsEnd (d s : Int → Int) (r x e : Int) : Prop := (∀ k, sumBack s r k ≤ x → ch d s r k x ≤ e) ∧ ∃ k, sumBack s r k ≤ x ∧ ch d s r k x = e
theorem IsEnd.inj {d s : Int → Int} {r x e e' : Int} (h : IsEnd d s r x e) (h' : IsEnd d s r x e') : e = e' := by
  obtain ⟨k, h1, h2⟩ := h.2
  obtain ⟨k', h1', h2'⟩ := h'.2
  have := h.1 k' h1'
  have := h'.1 k h1
  omega

section
variable {N : Nat} {d s : Int → Int} {B T M : Int} (R : Ring N d s B T M)
include R
theorem Ring.sumS (r : Int) (k : Nat) : ∀ m : Nat, sumBack s r (k + m * N) = sumBack s r k + m * B
  | 0 => by simp
  | m + 1 => by
    rw [show k + (m + 1) * N = k + m * N + N by rw [Nat.add_mul, Nat.one_mul, Nat.add_assoc], sum_add, Ring.sumS r k m, R.b, show ((m + 1 : Nat) : Int) = (m : Int) + 1 by omega, Int.add_mul]
    omega
theorem Ring.sumD (r : Int) (k : Nat) : ∀ m : Nat, sumBack d r (k + m * N) = sumBack d r k + m * T
  | 0 => by simp
  | m + 1 => by
    rw [show k + (m + 1) * N = k + m * N + N by rw [Nat.add_mul, Nat.one_mul, Nat.add_assoc], sum_add, Ring.sumD r k m, R.t, show ((m + 1 : Nat) : Int) = (m : Int) + 1 by omega, Int.add_mul]
    omega
theorem Ring.maxM (r : Int) {k : Nat} (h : N ≤ k + 1) : maxBack d r k = M := by
  obtain ⟨i, hi⟩ := R.ma
  have hN := R.pos
  have h0 : 0 ≤ (r - i) % (N : Int) := Int.emod_nonneg _ (by omega)
  have h1 : (r - i) % (N : Int) < N := Int.emod_lt_of_pos _ (by omega)
  have e : r - (((r - i) % (N : Int)).toNat : Nat) = i + N * ((r - i) / (N : Int)) := by
    have := Int.emod_add_mul_ediv (r - i) (N : Int)
    omega
  have h2 := max_ge (f := d) r (j := ((r - i) % (N : Int)).toNat) (k := k) (by omega)
  rw [e, R.dper, hi] at h2
  have h3 := max_le R.mu r k
  omega
theorem Ring.M1 : 1 ≤ M := by
  obtain ⟨i, hi⟩ := R.ma
  have := R.d1 i
  omega
theorem Ring.round (r x : Int) (k : Nat) {m : Nat} (hm : 1 ≤ m) : ch d s r (k + m * N) x = sumBack d r (k + 1) + (x - sumBack s r k) * M + m * (T - B * M) := by
  unfold ch
  have e1 : sumBack d r (k + m * N + 1) = sumBack d r (k + 1) + m * T := by
    rw [show k + m * N + 1 = k + 1 + m * N by omega, R.sumD]
  have e2 : N ≤ k + m * N + 1 := by
    have : 1 * N ≤ m * N := Nat.mul_le_mul_right N hm
    omega
  rw [e1, R.sumS, R.maxM r e2]
  have e3 : (x - (sumBack s r k + m * B)) * M = (x - sumBack s r k) * M - m * (B * M) := by
    rw [show x - (sumBack s r k + m * B) = (x - sumBack s r k) - m * B by omega, Int.sub_mul, Int.mul_assoc]
  rw [e3, Int.mul_sub]
  omega
end

/-- what the loop over the first i readers back has found -/
def Sofar (N : Nat) (d s : Int → Int) (r x : Int) (i : Nat) (L : Int) : Prop :=
  (∀ j m : Nat, j < i → sumBack s r (j + m * N) ≤ x → ch d s r (j + m * N) x ≤ L) ∧ ((i = 0 ∧ L = 0) ∨ ∃ k, sumBack s r k ≤ x ∧ ch d s r k x = L)
section
variable {N : Nat} {d s : Int → Int} {B T M : Int} (R : Ring N d s B T M)
include R
theorem Ring.ch_pos (r x : Int) (k : Nat) (h : sumBack s r k ≤ x) : 1 ≤ ch d s r k x := by
  unfold ch
  have h1 : d (r - k) ≤ sumBack d r (k + 1) := by
    have := sum_nn (f := d) (fun i => by have := R.d1 i; omega) r k
    show d (r - k) ≤ sumBack d r k + d (r - k)
    omega
  have h2 := R.d1 (r - k)
  have h3 : 0 ≤ maxBack d r k := by
    have := max_ge (f := d) r (j := 0) (k := k) (Nat.zero_le _)
    have := R.d1 (r - (0 : Nat))
    omega
  have h4 := Int.mul_nonneg (show 0 ≤ x - sumBack s r k by omega) h3
  omega
theorem Ring.step {r x L : Int} {i : Nat} (P : Sofar N d s r x i L) (hl : sumBack s r i ≤ x) {L2 : Int}
    (h2 : L2 = if B ≤ x - sumBack s r i then max (max L (ch d s r i x)) (sumBack d r (i + 1) + (x - sumBack s r i) * M + (if 0 < T - B * M then (x - sumBack s r i) / B else 1) * (T - B * M)) else max L (ch d s r i x)) :
    Sofar N d s r x (i + 1) L2 := by
  have P1 := P.1
  have hB := R.b1
  have hge : max L (ch d s r i x) ≤ L2 := by
    rw [h2]
    split <;> omega
  have key : ∀ m : Nat, 1 ≤ m → sumBack s r (i + m * N) ≤ x → ch d s r (i + m * N) x ≤ L2 := by
    intro m hm hv
    rw [R.round r x i hm]
    rw [R.sumS] at hv
    have hmB : (1 : Int) * B ≤ m * B := Int.mul_le_mul_of_nonneg_right (by omega) (by omega)
    have hBl : B ≤ x - sumBack s r i := by omega
    rw [if_pos hBl] at h2
    have hc : (m : Int) * (T - B * M) ≤ (if 0 < T - B * M then (x - sumBack s r i) / B else 1) * (T - B * M) := by
      split
      · rename_i hg
        refine Int.mul_le_mul_of_nonneg_right ?_ (by omega)
        exact (Int.le_ediv_iff_mul_le (by omega)).mpr (by omega)
      · rename_i hg
        have h5 : (0 : Int) ≤ ((m : Int) - 1) * (-(T - B * M)) := Int.mul_nonneg (by omega) (by omega)
        rw [Int.sub_mul, Int.mul_neg] at h5
        omega
    omega
  refine ⟨fun j m hj hv => ?_, ?_⟩
  · by_cases e : j = i
    · subst e
      cases m with
      | zero =>
        have e0 : j + 0 * N = j := by omega
        rw [e0]
        omega
      | succ m => exact key (m + 1) (by omega) hv
    · have := P1 j m (by omega) hv
      omega
  · right
    have hcp := R.ch_pos r x i hl
    have hL : ∃ k, sumBack s r k ≤ x ∧ ch d s r k x = max L (ch d s r i x) := by
      rcases P.2 with ⟨h0, hL0⟩ | ⟨k, hk, hk2⟩
      · exact ⟨i, hl, by omega⟩
      · by_cases hh : ch d s r i x ≤ L
        · exact ⟨k, hk, by omega⟩
        · exact ⟨i, hl, by omega⟩
    by_cases hBl : B ≤ x - sumBack s r i
    · rw [if_pos hBl] at h2
      -- the candidate of whole rounds is a chain too
      have hcand : ∃ k, sumBack s r k ≤ x ∧ ch d s r k x = sumBack d r (i + 1) + (x - sumBack s r i) * M + (if 0 < T - B * M then (x - sumBack s r i) / B else 1) * (T - B * M) := by
        by_cases hg : 0 < T - B * M
        · rw [if_pos hg]
          have hq1 : 1 ≤ (x - sumBack s r i) / B := (Int.le_ediv_iff_mul_le (by omega)).mpr (by omega)
          have hq2 : (x - sumBack s r i) / B * B ≤ x - sumBack s r i := Int.ediv_mul_le _ (by omega)
          have hqn : ((((x - sumBack s r i) / B).toNat : Nat) : Int) = (x - sumBack s r i) / B := by omega
          refine ⟨i + ((x - sumBack s r i) / B).toNat * N, ?_, ?_⟩
          · rw [R.sumS, hqn]
            omega
          · rw [R.round r x i (by omega), hqn]
        · rw [if_neg hg]
          refine ⟨i + 1 * N, ?_, ?_⟩
          · rw [R.sumS]
            omega
          · rw [R.round r x i (by omega)]
            simp
      obtain ⟨k1, a1, a2⟩ := hL
      obtain ⟨k2, c1, c2⟩ := hcand
      by_cases hh : max L (ch d s r i x) ≤ sumBack d r (i + 1) + (x - sumBack s r i) * M + (if 0 < T - B * M then (x - sumBack s r i) / B else 1) * (T - B * M)
      · exact ⟨k2, c1, by rw [c2, h2]; omega⟩
      · exact ⟨k1, a1, by rw [a2, h2]; omega⟩
    · rw [if_neg hBl] at h2
      rw [h2]
      exact hL
theorem Ring.fin {r x L : Int} {i : Nat} (P : Sofar N d s r x i L) (hi : i = N ∨ (0 < i ∧ x < sumBack s r i)) : IsEnd d s r x L := by
  have P1 := P.1
  have hN := R.pos
  refine ⟨fun k hk => ?_, ?_⟩
  · have ek : k = k % N + k / N * N := by
      have := Nat.mod_add_div k N
      rw [Nat.mul_comm] at this
      exact this.symm
    rw [ek] at hk ⊢
    refine P1 _ _ ?_ hk
    rcases hi with hi | ⟨_, hi⟩
    · rw [hi]
      exact Nat.mod_lt _ hN
    · rcases Nat.lt_or_ge (k % N) i with h | h
      · exact h
      · have := sum_mono R.s0 r h
        have h2 := R.sumS r (k % N) (k / N)
        have h3 : (0 : Int) ≤ ((k / N : Nat) : Int) * B := Int.mul_nonneg (Int.natCast_nonneg _) (by have := R.b1; omega)
        omega
  · rcases P.2 with ⟨h0, _⟩ | h
    · rcases hi with hi | ⟨hi, _⟩ <;> omega
    · exact h
theorem Ring.sofar0 (r x : Int) : Sofar N d s r x 0 0 := ⟨fun _ _ h => absurd h (Nat.not_lt_zero _), .inl ⟨rfl, rfl⟩⟩
theorem Ring.ends (r : Int) {x : Int} (hx : 0 ≤ x) : ∃ e, IsEnd d s r x e := by
  have go : ∀ n i L, i + n = N → sumBack s r i ≤ x → Sofar N d s r x i L → ∃ e, IsEnd d s r x e := by
    intro n
    induction n with
    | zero =>
      intro i L hi _ P
      exact ⟨L, R.fin P (.inl (by omega))⟩
    | succ n ih =>
      intro i L hi hl P
      have P' := R.step P hl rfl
      by_cases h : sumBack s r (i + 1) ≤ x
      · exact ih (i + 1) _ (by omega) h P'
      · exact ⟨_, R.fin P' (.inr ⟨by omega, by omega⟩)⟩
  exact go N 0 0 (by omega) (by show (0 : Int) ≤ x; exact hx) (R.sofar0 r x)
end
/-- the day on which reading x of reader r ends -/
noncomputable def E (d s : Int → Int) (r x : Int) : Int := open Classical in if h : ∃ e, IsEnd d s r x e then Classical.choose h else 0
section
variable {N : Nat} {d s : Int → Int} {B T M : Int} (R : Ring N d s B T M)
include R
theorem Ring.isE (r : Int) {x : Int} (hx : 0 ≤ x) : IsEnd d s r x (E d s r x) := by
  have h := R.ends r hx
  unfold E
  rw [dif_pos h]
  exact Classical.choose_spec h
theorem Ring.E_of {r x e : Int} (h : IsEnd d s r x e) : E d s r x = e := by
  have h' : ∃ e, IsEnd d s r x e := ⟨e, h⟩
  unfold E
  rw [dif_pos h']
  exact (Classical.choose_spec h').inj h
theorem Ring.E_per (r x t : Int) : E d s (r + N * t) x = E d s r x := by
  have hs : ∀ k, sumBack s (r + N * t) k = sumBack s r k := by
    intro k
    induction k with
    | zero => rfl
    | succ k ih =>
      show sumBack s (r + N * t) k + s (r + N * t - k) = sumBack s r k + s (r - k)
      rw [ih, show r + N * t - k = (r - k) + N * t by omega, R.sper]
  have hd : ∀ k, sumBack d (r + N * t) k = sumBack d r k := by
    intro k
    induction k with
    | zero => rfl
    | succ k ih =>
      show sumBack d (r + N * t) k + d (r + N * t - k) = sumBack d r k + d (r - k)
      rw [ih, show r + N * t - k = (r - k) + N * t by omega, R.dper]
  have hm : ∀ k, maxBack d (r + N * t) k = maxBack d r k := by
    intro k
    induction k with
    | zero => exact R.dper r t
    | succ k ih =>
      show max (maxBack d (r + N * t) k) (d (r + N * t - (k + 1 : Nat))) = max (maxBack d r k) (d (r - (k + 1 : Nat)))
      rw [ih, show r + N * t - ((k + 1 : Nat) : Int) = (r - (k + 1 : Nat)) + N * t by omega, R.dper]
  have he : IsEnd d s (r + N * t) x = IsEnd d s r x := by
    funext e
    unfold IsEnd ch
    simp only [hs, hd, hm]
  unfold E
  rw [he]
theorem Ring.E_mod (r x : Int) : E d s (r % N) x = E d s r x := by
  have h := R.E_per (r % N) x (r / N)
  rw [Int.emod_add_mul_ediv] at h
  exact h.symm
theorem Ring.ub (r : Int) {x : Int} (hx : 0 ≤ x) (k : Nat) (h : sumBack s r k ≤ x) : ch d s r k x ≤ E d s r x := (R.isE r hx).1 k h
theorem Ring.att (r : Int) {x : Int} (hx : 0 ≤ x) : ∃ k, sumBack s r k ≤ x ∧ ch d s r k x = E d s r x := (R.isE r hx).2
theorem Ring.low (r : Int) {x : Int} (hx : 0 ≤ x) : (x + 1) * d r ≤ E d s r x := by
  have h := R.ub r hx 0 hx
  have e : ch d s r 0 x = (x + 1) * d r := by
    unfold ch
    show 0 + d (r - (0 : Nat)) + (x - 0) * d r = _
    rw [show r - ((0 : Nat) : Int) = r by omega, Int.add_mul]
    simp
    omega
  omega
theorem Ring.E1 (r : Int) {x : Int} (hx : 0 ≤ x) : d r ≤ E d s r x := by
  have h := R.low r hx
  have h2 : (0 : Int) ≤ x * d r := Int.mul_nonneg hx (by have := R.d1 r; omega)
  rw [Int.add_mul] at h
  omega
/-- Bellman, from below -/
theorem Ring.next (r : Int) {x : Int} (hx : 0 ≤ x) : E d s r x + d r ≤ E d s r (x + 1) := by
  obtain ⟨k, hk, e⟩ := R.att r hx
  have h := R.ub r (x := x + 1) (by omega) k (by omega)
  have h2 := max_ge (f := d) r (j := 0) (k := k) (Nat.zero_le _)
  rw [show r - ((0 : Nat) : Int) = r by omega] at h2
  unfold ch at h e
  have e3 : (x + 1 - sumBack s r k) * maxBack d r k = (x - sumBack s r k) * maxBack d r k + maxBack d r k := by
    rw [show x + 1 - sumBack s r k = (x - sumBack s r k) + 1 by omega, Int.add_mul]
    omega
  omega
theorem Ring.from (r : Int) {x : Int} (hs : s r ≤ x) : E d s (r - 1) (x - s r) + d r ≤ E d s r x := by
  have hx : 0 ≤ x - s r := by omega
  have hx0 : 0 ≤ x := by have := R.s0 r; omega
  obtain ⟨k, hk, e⟩ := R.att (r - 1) hx
  have hS : sumBack s r (k + 1) = s r + sumBack s (r - 1) k := sum_front s k r
  have h := R.ub r hx0 (k + 1) (by omega)
  unfold ch at h e
  rw [sum_front d (k + 1) r, hS, max_front d k r] at h
  have e2 : x - (s r + sumBack s (r - 1) k) = x - s r - sumBack s (r - 1) k := by omega
  rw [e2] at h
  have h4 : (x - s r - sumBack s (r - 1) k) * maxBack d (r - 1) k ≤ (x - s r - sumBack s (r - 1) k) * max (d r) (maxBack d (r - 1) k) :=
    Int.mul_le_mul_of_nonneg_left (by omega) (by omega)
  omega
/-- .. from above -/
theorem Ring.bell (r : Int) {x : Int} (hx : 0 ≤ x) : E d s r x = d r ∨ (1 ≤ x ∧ E d s r x = E d s r (x - 1) + d r) ∨ (s r ≤ x ∧ E d s r x = E d s (r - 1) (x - s r) + d r) := by
  obtain ⟨k, hk, e⟩ := R.att r hx
  cases k with
  | zero =>
    have e0 : ch d s r 0 x = d r + x * d r := by
      unfold ch
      show 0 + d (r - (0 : Nat)) + (x - 0) * d r = _
      rw [show r - ((0 : Nat) : Int) = r by omega]
      simp
    by_cases h0 : x = 0
    · left
      subst h0
      simp at e0
      omega
    · right; left
      refine ⟨by omega, ?_⟩
      have h1 := R.ub r (x := x - 1) (by omega) 0 (by show (0 : Int) ≤ x - 1; omega)
      have e1 : ch d s r 0 (x - 1) = x * d r := by
        unfold ch
        show 0 + d (r - (0 : Nat)) + (x - 1 - 0) * d r = _
        rw [show r - ((0 : Nat) : Int) = r by omega, show x - 1 - 0 = x - 1 by omega, Int.sub_mul]
        omega
      have h2 := R.next r (x := x - 1) (by omega)
      rw [show x - 1 + 1 = x by omega] at h2
      omega
  | succ k =>
    have hS : sumBack s r (k + 1) = s r + sumBack s (r - 1) k := sum_front s k r
    have hnn := sum_nn R.s0 (r - 1) k
    have hsr : s r ≤ x := by omega
    have h1 := R.ub (r - 1) (x := x - s r) (by omega) k (by omega)
    have h3 := R.from r hsr
    have e' := e
    unfold ch at e' h1
    rw [sum_front d (k + 1) r, hS, max_front d k r, show x - (s r + sumBack s (r - 1) k) = x - s r - sumBack s (r - 1) k by omega] at e'
    by_cases hm : d r ≤ maxBack d (r - 1) k
    · right; right
      refine ⟨hsr, ?_⟩
      rw [show max (d r) (maxBack d (r - 1) k) = maxBack d (r - 1) k by omega] at e'
      omega
    · rw [show max (d r) (maxBack d (r - 1) k) = d r by omega] at e'
      by_cases hl : x - s r - sumBack s (r - 1) k = 0
      · right; right
        refine ⟨hsr, ?_⟩
        rw [hl] at e' h1
        simp at e' h1
        omega
      · right; left
        have hx1 : 1 ≤ x := by have := R.s0 r; omega
        refine ⟨hx1, ?_⟩
        have h5 := R.ub r (x := x - 1) (by omega) (k + 1) (by omega)
        unfold ch at h5
        rw [sum_front d (k + 1) r, hS, max_front d k r, show max (d r) (maxBack d (r - 1) k) = d r by omega,
          show x - 1 - (s r + sumBack s (r - 1) k) = (x - s r - sumBack s (r - 1) k) - 1 by omega, Int.sub_mul] at h5
        have h2 := R.next r (x := x - 1) (by omega)
        rw [show x - 1 + 1 = x by omega] at h2
        omega
end
end Rm
/-! Where ends repeat; counts by a day; heaps. -/
namespace Rm
def Rep (d s : Int → Int) (p q x : Int) : Prop := ∀ r, E d s r (x + p) = E d s r x + q
section
variable {N : Nat} {d s : Int → Int} {B T M : Int} (R : Ring N d s B T M)
include R
theorem Ring.T0 : 0 ≤ T := by
  have h := sum_nn (f := d) (fun i => by have := R.d1 i; omega) 0 N
  rw [R.t] at h
  exact h
theorem Ring.BM0 : 0 ≤ B * M := Int.mul_nonneg (by have := R.b1; omega) (by have := R.M1; omega)
theorem Ring.S_le (r : Int) {k m : Nat} (h : k ≤ m * N) : sumBack s r k ≤ m * B := by
  have h1 := sum_mono R.s0 r h
  have h2 := R.sumS r 0 m
  rw [Nat.zero_add] at h2
  rw [h2] at h1
  show sumBack s r k ≤ m * B
  have : sumBack s r 0 = 0 := rfl
  omega
/-- one more unit of x -/
theorem ch_succ (d s : Int → Int) (r : Int) (k : Nat) (x y : Int) : ch d s r k (x + y) = ch d s r k x + y * maxBack d r k := by
  unfold ch
  rw [show x + y - sumBack s r k = (x - sumBack s r k) + y by omega, Int.add_mul]
  omega
theorem Ring.rep_slow (hg : T ≤ B * M) {x : Int} (hx : 4 * B + B * M ≤ x) : Rep d s 1 M x := by
  intro r
  have hB := R.b1
  have hT := R.T0
  have hBM := R.BM0
  have hM := R.M1
  have hx0 : 0 ≤ x := by omega
  apply Int.le_antisymm
  · obtain ⟨k, hk, e⟩ := R.att r (x := x + 1) (by omega)
    by_cases hv : sumBack s r k ≤ x
    · have h1 := R.ub r hx0 k hv
      rw [ch_succ R d s r k x 1] at e
      have h2 := max_le R.mu r k
      omega
    · have hkN : 2 * N ≤ k := by
        rcases Nat.lt_or_ge k (2 * N) with h | h
        · have := R.S_le r (k := k) (m := 2) (by omega)
          omega
        · exact h
      obtain ⟨k', rfl⟩ : ∃ k', k = k' + 1 * N := ⟨k - 1 * N, by omega⟩
      rw [R.round r (x + 1) k' (by omega)] at e
      rw [R.sumS] at hk hv
      have h1 := R.ub r hx0 k' (by omega)
      unfold ch at h1
      rw [R.maxM r (k := k') (by omega)] at h1
      rw [show x + 1 - sumBack s r k' = (x - sumBack s r k') + 1 by omega, Int.add_mul] at e
      omega
  · obtain ⟨k, hk, e⟩ := R.att r hx0
    by_cases hm : maxBack d r k = M
    · have h1 := R.ub r (x := x + 1) (by omega) k (by omega)
      rw [ch_succ R d s r k x 1, hm] at h1
      omega
    · have hkN : k + 1 < N := by
        rcases Nat.lt_or_ge (k + 1) N with h | h
        · exact h
        · exact absurd (R.maxM r h) hm
      have hS := R.S_le r (k := k) (m := 1) (by omega)
      have h1 := R.ub r (x := x + 1) (by omega) (k + 1 * N) (by rw [R.sumS]; omega)
      rw [R.round r (x + 1) k (by omega)] at h1
      have h2 := max_le R.mu r k
      unfold ch at e
      have h3 : (x - sumBack s r k) * (maxBack d r k + 1) ≤ (x - sumBack s r k) * M := Int.mul_le_mul_of_nonneg_left (by omega) (by omega)
      rw [Int.mul_add] at h3
      rw [show x + 1 - sumBack s r k = (x - sumBack s r k) + 1 by omega, Int.add_mul] at h1
      omega
theorem Ring.rep_fast (hg : B * M < T) {x : Int} (hx : 4 * B + B * M ≤ x) : Rep d s B T x := by
  intro r
  have hB := R.b1
  have hBM := R.BM0
  have hx0 : 0 ≤ x := by omega
  apply Int.le_antisymm
  · obtain ⟨k, hk, e⟩ := R.att r (x := x + B) (by omega)
    by_cases hkN : 2 * N ≤ k + 1
    · obtain ⟨k', rfl⟩ : ∃ k', k = k' + 1 * N := ⟨k - 1 * N, by have := R.pos; omega⟩
      rw [R.round r (x + B) k' (by omega)] at e
      rw [R.sumS] at hk
      have h1 := R.ub r hx0 k' (by omega)
      unfold ch at h1
      rw [R.maxM r (k := k') (by omega)] at h1
      rw [show x + B - sumBack s r k' = (x - sumBack s r k') + B by omega, Int.add_mul] at e
      omega
    · have hS := R.S_le r (k := k) (m := 2) (by omega)
      have h1 := R.ub r hx0 (k + 1 * N) (by rw [R.sumS]; omega)
      rw [R.round r x k (by omega)] at h1
      unfold ch at e
      have h2 := max_le R.mu r k
      have h3 : (x + B - sumBack s r k) * maxBack d r k ≤ (x + B - sumBack s r k) * M := Int.mul_le_mul_of_nonneg_left h2 (by omega)
      rw [show x + B - sumBack s r k = (x - sumBack s r k) + B by omega, Int.add_mul, Int.add_mul] at h3
      rw [show x + B - sumBack s r k = (x - sumBack s r k) + B by omega, Int.add_mul] at e
      omega
  · obtain ⟨k, hk, e⟩ := R.att r hx0
    have h1 := R.ub r (x := x + B) (by omega) (k + 1 * N) (by rw [R.sumS]; omega)
    rw [R.round r (x + B) k (by omega)] at h1
    have h2 := max_le R.mu r k
    unfold ch at e
    have h3 : (x - sumBack s r k) * maxBack d r k ≤ (x - sumBack s r k) * M := Int.mul_le_mul_of_nonneg_left h2 (by omega)
    rw [show x + B - sumBack s r k = (x - sumBack s r k) + B by omega, Int.add_mul] at h1
    omega
theorem Ring.claim {p q m r : Int} (hp : 1 ≤ p) (hm : 1 ≤ m) (hsm : s r ≤ m) (h1 : E d s r (m - 1 + p) = E d s r (m - 1) + q) (h2 : E d s (r - 1) (m - s r + p) = E d s (r - 1) (m - s r) + q) : E d s r (m + p) = E d s r m + q := by
  have n1 := R.next r (x := m - 1) (by omega)
  have n2 := R.next r (x := m - 1 + p) (by omega)
  have f1 := R.from r (x := m) hsm
  have f2 := R.from r (x := m + p) (by omega)
  have b1 := R.bell r (x := m) (by omega)
  have b2 := R.bell r (x := m + p) (by omega)
  have e1 := R.E1 r (x := m - 1) (by omega)
  have e2 := R.E1 r (x := m - 1 + p) (by omega)
  have d1 := R.d1 r
  rw [show m - 1 + 1 = m by omega] at n1
  rw [show m - 1 + p + 1 = m + p by omega] at n2
  rw [show m + p - s r = m - s r + p by omega] at f2 b2
  rw [show m + p - 1 = m - 1 + p by omega] at b2
  rcases b1 with b1 | ⟨_, b1⟩ | ⟨_, b1⟩ <;> rcases b2 with b2 | ⟨_, b2⟩ | ⟨_, b2⟩ <;> omega
/-- as many in a row as the greatest number of books at first: then all later ones -/
theorem Ring.later {w p q n : Int} (hw : ∀ i, s i ≤ w) (hw1 : ∃ i, s i = w) (w1 : 1 ≤ w) (hp : 1 ≤ p) (hn : 0 ≤ n) (h : ∀ j, 0 ≤ j → j < w → Rep d s p q (n + j)) : ∀ m, n ≤ m → Rep d s p q m := by
  have go : ∀ k : Nat, ∀ m, n ≤ m → m - n < k → Rep d s p q m := by
    intro k
    induction k with
    | zero => intro m h1 h2; omega
    | succ k ih =>
      intro m h1 h2
      by_cases hmw : m < n + w
      · have := h (m - n) (by omega) (by omega)
        rw [show n + (m - n) = m by omega] at this
        exact this
      · obtain ⟨r0, hr0⟩ := hw1
        -- around the ring from r0
        have around : ∀ j : Nat, E d s (r0 + j) (m + p) = E d s (r0 + j) m + q := by
          intro j
          induction j with
          | zero =>
            have hs := hw r0
            refine R.claim hp (by omega) (by rw [show r0 + ((0 : Nat) : Int) = r0 by omega]; omega) (ih (m - 1) (by omega) (by omega) _) ?_
            rw [show r0 + ((0 : Nat) : Int) = r0 by omega]
            exact ih (m - s r0) (by omega) (by omega) _
          | succ j ihj =>
            have hs := hw (r0 + (j + 1 : Nat))
            have hs0 := R.s0 (r0 + (j + 1 : Nat))
            refine R.claim hp (by omega) (by omega) (ih (m - 1) (by omega) (by omega) _) ?_
            rw [show r0 + ((j + 1 : Nat) : Int) - 1 = r0 + j by omega]
            by_cases hz : s (r0 + (j + 1 : Nat)) = 0
            · rw [hz, show m - 0 = m by omega]
              exact ihj
            · exact ih (m - s (r0 + (j + 1 : Nat))) (by omega) (by omega) _
        intro r
        have hN := R.pos
        have a0 : 0 ≤ (r - r0) % (N : Int) := Int.emod_nonneg _ (by omega)
        have h3 := around ((r - r0) % (N : Int)).toNat
        have e3 : r0 + ((((r - r0) % (N : Int)).toNat : Nat) : Int) = r + N * (-((r - r0) / (N : Int))) := by
          have := Int.emod_add_mul_ediv (r - r0) (N : Int)
          rw [Int.mul_neg]
          omega
        rw [e3, R.E_per, R.E_per] at h3
        exact h3
  intro m hm
  exact go ((m - n).toNat + 1) m hm (by omega)
theorem Ring.rounds {p q n : Int} (hp : 1 ≤ p) (h : ∀ m, n ≤ m → Rep d s p q m) (r : Int) {x : Int} (hx : n ≤ x) : ∀ k : Nat, E d s r (x + k * p) = E d s r x + k * q
  | 0 => by simp
  | k + 1 => by
    have ih := Ring.rounds hp h r hx k
    have h0 : (0 : Int) ≤ (k : Int) * p := Int.mul_nonneg (Int.natCast_nonneg _) (by omega)
    have h1 := h (x + k * p) (by omega) r
    rw [show ((k + 1 : Nat) : Int) = (k : Int) + 1 by omega, Int.add_mul, Int.add_mul, Int.one_mul, Int.one_mul, ← Int.add_assoc, h1, ih]
    omega
theorem Ring.mono (r : Int) {x : Int} (hx : 0 ≤ x) : ∀ k : Nat, E d s r x + (k + 1) * d r ≤ E d s r (x + (k + 1))
  | 0 => by
    have := R.next r hx
    simpa using this
  | k + 1 => by
    have ih := Ring.mono r hx k
    have h1 := R.next r (x := x + (k + 1)) (by omega)
    rw [show ((k + 1 : Nat) : Int) = (k : Int) + 1 by omega, show x + ((k : Int) + 1 + 1) = x + ((k : Int) + 1) + 1 by omega, Int.add_mul ((k : Int) + 1) 1]
    omega
theorem Ring.lt (r : Int) {x y : Int} (hx : 0 ≤ x) (h : x < y) : E d s r x + d r ≤ E d s r y := by
  have h1 := R.mono r hx (y - x - 1).toNat
  rw [show ((((y - x - 1).toNat : Nat) : Int) + 1) = y - x by omega, show x + (y - x) = y by omega] at h1
  have h2 : (1 : Int) * d r ≤ (y - x) * d r := Int.mul_le_mul_of_nonneg_right (by omega) (by have := R.d1 r; omega)
  omega
theorem Ring.le (r : Int) {x y : Int} (hx : 0 ≤ x) (h : x ≤ y) : E d s r x ≤ E d s r y := by
  by_cases e : x = y
  · subst e
    exact Int.le_refl _
  · have := R.lt r hx (show x < y by omega)
    have := R.d1 r
    omega
end

/-- c readings of reader r have ended by day D -/
def Cnt (d s : Int → Int) (r D c : Int) : Prop := 0 ≤ c ∧ (c = 0 ∨ E d s r (c - 1) ≤ D) ∧ D < E d s r c
noncomputable def Cn (d s : Int → Int) (r D : Int) : Int := open Classical in if h : ∃ c, Cnt d s r D c then Classical.choose h else 0
section
variable {N : Nat} {d s : Int → Int} {B T M : Int} (R : Ring N d s B T M)
include R
theorem Ring.cnt_inj {r D c c' : Int} (h : Cnt d s r D c) (h' : Cnt d s r D c') : c = c' := by
  obtain ⟨a0, a1, a2⟩ := h
  obtain ⟨b0, b1, b2⟩ := h'
  rcases Int.lt_trichotomy c c' with z | z | z
  · have := R.le r (x := c) (y := c' - 1) a0 (by omega)
    omega
  · exact z
  · have := R.le r (x := c') (y := c - 1) b0 (by omega)
    omega
theorem Ring.cnt_ex (r D : Int) : ∃ c, Cnt d s r D c := by
  have go : ∀ n : Nat, D < E d s r n → ∃ c, Cnt d s r D c := by
    intro n
    induction n with
    | zero => intro h; exact ⟨0, by omega, .inl rfl, h⟩
    | succ n ih =>
      intro h
      by_cases hh : E d s r n ≤ D
      · exact ⟨((n + 1 : Nat) : Int), by omega, .inr (by rw [show ((n + 1 : Nat) : Int) - 1 = n by omega]; exact hh), h⟩
      · exact ih (by omega)
  refine go D.toNat ?_
  have h := R.low r (x := (D.toNat : Nat)) (by omega)
  have h2 : (((D.toNat : Nat) : Int) + 1) * 1 ≤ (((D.toNat : Nat) : Int) + 1) * d r := Int.mul_le_mul_of_nonneg_left (R.d1 r) (by omega)
  omega
theorem Ring.cn (r D : Int) : Cnt d s r D (Cn d s r D) := by
  have h := R.cnt_ex r D
  unfold Cn
  rw [dif_pos h]
  exact Classical.choose_spec h
theorem Ring.cn_of {r D c : Int} (h : Cnt d s r D c) : Cn d s r D = c := R.cnt_inj (R.cn r D) h
theorem Ring.cn_per (r D t : Int) : Cn d s (r + N * t) D = Cn d s r D := by
  refine R.cn_of ?_
  have h := R.cn r D
  unfold Cnt at h ⊢
  rw [R.E_per, R.E_per]
  exact h
theorem Ring.cn_mod (r D : Int) : Cn d s (r % N) D = Cn d s r D := by
  have h := R.cn_per (r % N) D (r / N)
  rw [Int.emod_add_mul_ediv] at h
  exact h.symm
theorem Ring.cn_end (r : Int) {x : Int} (hx : 0 ≤ x) : Cn d s r (E d s r x) = x + 1 := by
  refine R.cn_of ⟨by omega, .inr (by rw [show x + 1 - 1 = x by omega]; exact Int.le_refl _), ?_⟩
  have := R.lt r hx (show x < x + 1 by omega)
  have := R.d1 r
  omega
theorem Ring.cn_before (r : Int) {x : Int} (hx : 0 ≤ x) : Cn d s r (E d s r x - 1) = x := by
  refine R.cn_of ⟨hx, ?_, by omega⟩
  by_cases h : x = 0
  · exact .inl h
  · right
    have := R.lt r (x := x - 1) (y := x) (by omega) (by omega)
    have := R.d1 r
    omega
theorem Ring.cn_next (r D : Int) : Cn d s r D ≤ Cn d s r (D + d r) ∧ Cn d s r (D + d r) ≤ Cn d s r D + 1 := by
  obtain ⟨a0, a1, a2⟩ := R.cn r D
  obtain ⟨b0, b1, b2⟩ := R.cn r (D + d r)
  have d1 := R.d1 r
  constructor
  · rcases Int.lt_or_le (Cn d s r (D + d r)) (Cn d s r D) with z | z
    · rcases a1 with a1 | a1
      · omega
      · have := R.le r (x := Cn d s r (D + d r)) (y := Cn d s r D - 1) b0 (by omega)
        omega
    · exact z
  · rcases Int.lt_or_le (Cn d s r D + 1) (Cn d s r (D + d r)) with z | z
    · rcases b1 with b1 | b1
      · omega
      · have := R.lt r (x := Cn d s r D) (y := Cn d s r (D + d r) - 1) a0 (by omega)
        omega
    · exact z
/-- a reader who has a book and is not reading begins -/
theorem Ring.cn_reads {r D : Int} (hD : 0 ≤ D) (h : Cn d s r D < s r + Cn d s (r - 1) D) : Cn d s r D + 1 ≤ Cn d s r (D + d r) := by
  obtain ⟨a0, a1, a2⟩ := R.cn r D
  obtain ⟨b0, b1, b2⟩ := R.cn r (D + d r)
  obtain ⟨c0, c1, c2⟩ := R.cn (r - 1) D
  have hs := R.s0 r
  rcases Int.lt_or_le (Cn d s r (D + d r)) (Cn d s r D + 1) with z | z
  · have h1 := R.le r (x := Cn d s r (D + d r)) (y := Cn d s r D) b0 (by omega)
    have b := R.bell r (x := Cn d s r D) a0
    rcases b with b | ⟨h2, b⟩ | ⟨h2, b⟩
    · omega
    · rcases a1 with a1 | a1 <;> omega
    · rcases c1 with c1 | c1
      · omega
      · have h3 := R.le (r - 1) (x := Cn d s r D - s r) (y := Cn d s (r - 1) D - 1) (by omega) (by omega)
        omega
  · exact z
end
theorem sum_lin (f g h : Int → Int) (r : Int) : ∀ n : Nat, sumBack (fun j => f j + g (j - 1) - h j) r n = sumBack f r n + sumBack g (r - 1) n - sumBack h r n
  | 0 => by simp [sumBack]
  | n + 1 => by
    show sumBack (fun j => f j + g (j - 1) - h j) r n + (f (r - n) + g (r - n - 1) - h (r - n)) = sumBack f r n + f (r - n) + (sumBack g (r - 1) n + g (r - 1 - n)) - (sumBack h r n + h (r - n))
    rw [sum_lin f g h r n, show r - 1 - (n : Int) = r - n - 1 by omega]
    omega
theorem sum_win {f : Int → Int} {N : Nat} (hp : ∀ i t : Int, f (i + N * t) = f i) (r : Int) : sumBack f (r - 1) N = sumBack f r N := by
  have h1 := sum_front f N r
  have h2 : sumBack f r (N + 1) = sumBack f r N + f (r - N) := rfl
  have h3 := hp (r - N) 1
  rw [show r - (N : Int) + N * 1 = r by omega] at h3
  omega
theorem sum_le {f g : Int → Int} (h : ∀ i, f i ≤ g i) (r : Int) : ∀ n : Nat, sumBack f r n ≤ sumBack g r n
  | 0 => Int.le_refl _
  | n + 1 => by
    have h1 := sum_le h r n
    have h2 := h (r - n)
    show sumBack f r n + f (r - n) ≤ sumBack g r n + g (r - n)
    omega
theorem sum_lt {f g : Int → Int} (h : ∀ i, f i ≤ g i) (r : Int) : ∀ {n j : Nat}, j < n → f (r - j) < g (r - j) → sumBack f r n < sumBack g r n
  | 0, j, hj, _ => absurd hj (Nat.not_lt_zero _)
  | n + 1, j, hj, hh => by
    show sumBack f r n + f (r - n) < sumBack g r n + g (r - n)
    by_cases e : j = n
    · subst e
      have := sum_le h r j
      omega
    · have h1 := sum_lt h r (n := n) (j := j) (by omega) hh
      have h2 := h (r - n)
      omega
theorem sum_shift (f : Int → Int) (r c : Int) : ∀ n : Nat, sumBack (fun i => f i + c) r n = sumBack f r n + n * c
  | 0 => by simp [sumBack]
  | n + 1 => by
    show sumBack (fun i => f i + c) r n + (f (r - n) + c) = sumBack f r n + f (r - n) + ((n + 1 : Nat) : Int) * c
    rw [sum_shift f r c n, show ((n + 1 : Nat) : Int) = (n : Int) + 1 by omega, Int.add_mul]
    omega
section
variable {N : Nat} {d s : Int → Int} {B T M : Int} (R : Ring N d s B T M)
include R
/-- the heaps of a day, all together: fewer than all books, as at least one is being read; at most one a reader is -/
theorem Ring.heaps {D : Int} (hD : 0 ≤ D) (r : Int) : B - N ≤ sumBack (fun j => s j + Cn d s (j - 1) D - Cn d s j (D + d j)) r N ∧ sumBack (fun j => s j + Cn d s (j - 1) D - Cn d s j (D + d j)) r N < B := by
  rw [sum_lin s (fun j => Cn d s j D) (fun j => Cn d s j (D + d j)) r N, R.b, sum_win (f := fun j => Cn d s j D) (N := N) (fun i t => R.cn_per i D t)]
  have h1 := sum_le (f := fun j => Cn d s j D) (g := fun j => Cn d s j (D + d j)) (fun i => (R.cn_next i D).1) r N
  have h2 := sum_le (f := fun j => Cn d s j (D + d j)) (g := fun j => Cn d s j D + 1) (fun i => (R.cn_next i D).2) r N
  rw [sum_shift (fun j => Cn d s j D) r 1 N] at h2
  refine ⟨by omega, ?_⟩
  -- someone reads
  have some_reads : ∃ j : Nat, j < N ∧ Cn d s (r - j) D < Cn d s (r - j) (D + d (r - j)) := by
    apply Classical.byContradiction
    intro hno
    have hall : ∀ j : Nat, j < N → s (r - j) + Cn d s (r - j - 1) D ≤ Cn d s (r - j) D := by
      intro j hj
      apply Classical.byContradiction
      intro hh
      have := R.cn_reads (r := r - j) hD (by omega)
      exact hno ⟨j, hj, by omega⟩
    have go : ∀ n : Nat, n ≤ N → sumBack s r n + sumBack (fun j => Cn d s j D) (r - 1) n ≤ sumBack (fun j => Cn d s j D) r n := by
      intro n
      induction n with
      | zero => intro _; show (0 : Int) + 0 ≤ 0; omega
      | succ n ih =>
        intro hn
        have h3 := ih (by omega)
        have h4 := hall n (by omega)
        show sumBack s r n + s (r - n) + (sumBack (fun j => Cn d s j D) (r - 1) n + Cn d s (r - 1 - n) D) ≤ sumBack (fun j => Cn d s j D) r n + Cn d s (r - n) D
        rw [show r - 1 - (n : Int) = r - n - 1 by omega]
        omega
    have h5 := go N (Nat.le_refl _)
    rw [R.b, sum_win (f := fun j => Cn d s j D) (N := N) (fun i t => R.cn_per i D t)] at h5
    have := R.b1
    omega
  obtain ⟨j, hj, hjr⟩ := some_reads
  have h6 := sum_lt (f := fun j => Cn d s j D) (g := fun j => Cn d s j (D + d j)) (fun i => (R.cn_next i D).1) r hj hjr
  omega
end

/-! ### from lists -/
/-- round the list, from any index -/
def at' (l : List Int) (i : Int) : Int := l.getD (i % (l.length : Int)).toNat 0
theorem at_per (l : List Int) (i t : Int) : at' l (i + (l.length : Int) * t) = at' l i := by
  unfold at'
  rw [Int.add_mul_emod_self_left]
theorem at_nat {l : List Int} {j : Nat} {v : Int} (h : l[j]? = some v) : at' l (j : Int) = v := by
  have hj := (List.getElem?_eq_some_iff.mp h).1
  unfold at'
  rw [Int.emod_eq_of_lt (by omega) (by omega), List.getD_eq_getElem?_getD, Int.toNat_natCast, h]
  rfl
theorem at_mem {l : List Int} (hl : 0 < l.length) (i : Int) : at' l i ∈ l := by
  unfold at'
  have h0 : 0 ≤ i % (l.length : Int) := Int.emod_nonneg _ (by omega)
  have h1 : i % (l.length : Int) < l.length := Int.emod_lt_of_pos _ (by omega)
  rw [List.getD_eq_getElem?_getD, List.getElem?_eq_getElem (show (i % (l.length : Int)).toNat < l.length by omega)]
  exact List.getElem_mem _
theorem mem_at {l : List Int} {v : Int} (h : v ∈ l) : ∃ i, at' l i = v := by
  obtain ⟨j, hj, e⟩ := List.getElem_of_mem h
  exact ⟨j, at_nat (by rw [List.getElem?_eq_getElem hj, e])⟩
theorem sum_list (l : List Int) : sumBack (at' l) ((l.length : Int) - 1) l.length = l.sum := by
  have go : ∀ n : Nat, n ≤ l.length → sumBack (at' l) ((n : Int) - 1) n = (l.take n).sum := by
    intro n
    induction n with
    | zero => intro _; simp [sumBack]
    | succ n ih =>
      intro hn
      rw [show ((n + 1 : Nat) : Int) - 1 = n by omega, sum_front, ih (by omega), List.take_add_one, List.sum_append, at_nat (List.getElem?_eq_getElem (show n < l.length by omega)), List.getElem?_eq_getElem (show n < l.length by omega)]
      simp
      omega
  have h := go l.length (Nat.le_refl _)
  rw [List.take_length] at h
  exact h
theorem sum_any {f : Int → Int} {N : Nat} (hp : ∀ i t : Int, f (i + N * t) = f i) (p q : Int) : sumBack f p N = sumBack f q N := by
  have go : ∀ (n : Nat) (r : Int), sumBack f (r - n) N = sumBack f r N := by
    intro n
    induction n with
    | zero => intro r; rw [show r - ((0 : Nat) : Int) = r by omega]
    | succ n ih =>
      intro r
      rw [show r - ((n + 1 : Nat) : Int) = r - n - 1 by omega, sum_win hp, ih]
  rcases Int.le_total p q with h | h
  · have := go (q - p).toNat q
    rw [show q - ((q - p).toNat : Int) = p by omega] at this
    exact this
  · have := go (p - q).toNat p
    rw [show p - ((p - q).toNat : Int) = q by omega] at this
    exact this.symm
theorem ring_of {ds ss : List Int} {M : Int} (hl : 0 < ds.length) (hls : ss.length = ds.length) (h1 : ∀ y ∈ ds, 1 ≤ y) (h2 : ∀ y ∈ ss, 0 ≤ y) (hB : 1 ≤ ss.sum) (hM : M ∈ ds) (hMu : ∀ y ∈ ds, y ≤ M) :
    Ring ds.length (at' ds) (at' ss) ss.sum ds.sum M where
  pos := hl
  dper := at_per ds
  sper := by rw [← hls]; exact at_per ss
  d1 := fun i => h1 _ (at_mem hl i)
  s0 := fun i => h2 _ (at_mem (by omega) i)
  b := fun r => by
    rw [sum_any (f := at' ss) (N := ds.length) (by rw [← hls]; exact at_per ss) r ((ss.length : Int) - 1), ← hls]
    exact sum_list ss
  b1 := hB
  t := fun r => by
    rw [sum_any (f := at' ds) (N := ds.length) (at_per ds) r ((ds.length : Int) - 1)]
    exact sum_list ds
  mu := fun i => hMu _ (at_mem hl i)
  ma := mem_at hM
end Rm
namespace Rp
open PySem PySem.Spec PyProof.Rows L2
def topS (i : Nat) : Stmt := PySem.Challenge.pw_readingring_k56_whole_the_pace_with_evid.main.body.getD i (.Pass ⟨0, 0, 0, 0⟩)
abbrev s_is_number : Stmt := topS 10
abbrev s_lies_between : Stmt := topS 11
abbrev s_check_number : Stmt := topS 12
abbrev s_check_reader : Stmt := topS 13
abbrev s_rinit : Stmt := inClass (topS 19) 0
abbrev s_rdays : Stmt := inClass (topS 19) 2
abbrev s_rstarts : Stmt := inClass (topS 19) 3
abbrev s_rbooks : Stmt := inClass (topS 19) 4
abbrev s_rpace : Stmt := inClass (topS 19) 5
abbrev s_rwith_days : Stmt := inClass (topS 19) 6
abbrev s_rlen : Stmt := inClass (topS 19) 7
abbrev s_rcall : Stmt := inClass (topS 19) 10
abbrev s_check_part : Stmt := topS 20
abbrev s_slowest_decides : Stmt := topS 21
abbrev s_pace_of : Stmt := topS 22
abbrev s_round_pace : Stmt := topS 23
abbrev s_end_day : Stmt := topS 24
abbrev s_reader_before : Stmt := topS 26
abbrev s_pace_readers : Stmt := topS 28
abbrev s_judge_pace : Stmt := topS 29
abbrev s_pace_with : Stmt := topS 32
abbrev s_fewest_books : Stmt := topS 33
abbrev s_helpful_readers : Stmt := topS 34
abbrev s_slowest_days : Stmt := topS 35
abbrev s_fewest_days_less : Stmt := topS 36
abbrev s_is_helpful : Stmt := topS 37
abbrev s_is_smaller : Stmt := topS 38
abbrev s_ltaken : Stmt := topS 40
abbrev s_lparts : Stmt := topS 41
abbrev s_law : Stmt := topS 42
abbrev N_is_number : List Str := ["value"]
abbrev P_is_number : List Str := ["value"]
theorem sc_is_number : FnScope N_is_number P_is_number (defScope s_is_number) := ⟨rfl, rfl, rfl, by decide +kernel, rfl, by decide +kernel, by decide +kernel⟩
abbrev N_lies_between : List Str := ["value", "low", "high"]
abbrev P_lies_between : List Str := ["value", "low", "high"]
theorem sc_lies_between : FnScope N_lies_between P_lies_between (defScope s_lies_between) := ⟨rfl, rfl, rfl, by decide +kernel, rfl, by decide +kernel, by decide +kernel⟩
abbrev N_check_number : List Str := ["value", "low", "high"]
abbrev P_check_number : List Str := ["value", "low", "high"]
theorem sc_check_number : FnScope N_check_number P_check_number (defScope s_check_number) := ⟨rfl, rfl, rfl, by decide +kernel, rfl, by decide +kernel, by decide +kernel⟩
abbrev N_check_reader : List Str := ["ring", "reader"]
abbrev P_check_reader : List Str := ["ring", "reader"]
theorem sc_check_reader : FnScope N_check_reader P_check_reader (defScope s_check_reader) := ⟨rfl, rfl, rfl, by decide +kernel, rfl, by decide +kernel, by decide +kernel⟩
abbrev N_rinit : List Str := ["self", "days", "starts"]
abbrev P_rinit : List Str := ["self", "days", "starts"]
theorem sc_rinit : FnScope N_rinit P_rinit (defScope s_rinit) := ⟨rfl, rfl, rfl, by decide +kernel, rfl, by decide +kernel, by decide +kernel⟩
abbrev N_rdays : List Str := ["self"]
abbrev P_rdays : List Str := ["self"]
theorem sc_rdays : FnScope N_rdays P_rdays (defScope s_rdays) := ⟨rfl, rfl, rfl, by decide +kernel, rfl, by decide +kernel, by decide +kernel⟩
abbrev N_rstarts : List Str := ["self"]
abbrev P_rstarts : List Str := ["self"]
theorem sc_rstarts : FnScope N_rstarts P_rstarts (defScope s_rstarts) := ⟨rfl, rfl, rfl, by decide +kernel, rfl, by decide +kernel, by decide +kernel⟩
abbrev N_rbooks : List Str := ["self"]
abbrev P_rbooks : List Str := ["self"]
theorem sc_rbooks : FnScope N_rbooks P_rbooks (defScope s_rbooks) := ⟨rfl, rfl, rfl, by decide +kernel, rfl, by decide +kernel, by decide +kernel⟩
abbrev N_rpace : List Str := ["self"]
abbrev P_rpace : List Str := ["self"]
theorem sc_rpace : FnScope N_rpace P_rpace (defScope s_rpace) := ⟨rfl, rfl, rfl, by decide +kernel, rfl, by decide +kernel, by decide +kernel⟩
abbrev N_rwith_days : List Str := ["self", "reader", "days", "changed"]
abbrev P_rwith_days : List Str := ["self", "reader", "days"]
theorem sc_rwith_days : FnScope N_rwith_days P_rwith_days (defScope s_rwith_days) := ⟨rfl, rfl, rfl, by decide +kernel, rfl, by decide +kernel, by decide +kernel⟩
abbrev N_rlen : List Str := ["self"]
abbrev P_rlen : List Str := ["self"]
theorem sc_rlen : FnScope N_rlen P_rlen (defScope s_rlen) := ⟨rfl, rfl, rfl, by decide +kernel, rfl, by decide +kernel, by decide +kernel⟩
abbrev N_rcall : List Str := ["self", "reader", "number"]
abbrev P_rcall : List Str := ["self", "reader", "number"]
theorem sc_rcall : FnScope N_rcall P_rcall (defScope s_rcall) := ⟨rfl, rfl, rfl, by decide +kernel, rfl, by decide +kernel, by decide +kernel⟩
abbrev N_check_part : List Str := ["part", "values", "limits", "lengths", "low", "high", "fewest", "most", "index", "value"]
abbrev P_check_part : List Str := ["part", "values", "limits", "lengths"]
theorem sc_check_part : FnScope N_check_part P_check_part (defScope s_check_part) := ⟨rfl, rfl, rfl, by decide +kernel, rfl, by decide +kernel, by decide +kernel⟩
abbrev N_slowest_decides : List Str := ["days", "books"]
abbrev P_slowest_decides : List Str := ["days", "books"]
theorem sc_slowest_decides : FnScope N_slowest_decides P_slowest_decides (defScope s_slowest_decides) := ⟨rfl, rfl, rfl, by decide +kernel, rfl, by decide +kernel, by decide +kernel⟩
abbrev N_pace_of : List Str := ["days", "books"]
abbrev P_pace_of : List Str := ["days", "books"]
theorem sc_pace_of : FnScope N_pace_of P_pace_of (defScope s_pace_of) := ⟨rfl, rfl, rfl, by decide +kernel, rfl, by decide +kernel, by decide +kernel⟩
abbrev N_round_pace : List Str := ["days", "books", "common"]
abbrev P_round_pace : List Str := ["days", "books"]
theorem sc_round_pace : FnScope N_round_pace P_round_pace (defScope s_round_pace) := ⟨rfl, rfl, rfl, by decide +kernel, rfl, by decide +kernel, by decide +kernel⟩
abbrev N_end_day : List Str := ["ring", "reader", "number", "books", "slowest", "gain", "latest", "total", "slowest_met", "left", "step", "rounds"]
abbrev P_end_day : List Str := ["ring", "reader", "number"]
theorem sc_end_day : FnScope N_end_day P_end_day (defScope s_end_day) := ⟨rfl, rfl, rfl, by decide +kernel, rfl, by decide +kernel, by decide +kernel⟩
abbrev N_reader_before : List Str := ["ring", "reader"]
abbrev P_reader_before : List Str := ["ring", "reader"]
theorem sc_reader_before : FnScope N_reader_before P_reader_before (defScope s_reader_before) := ⟨rfl, rfl, rfl, by decide +kernel, rfl, by decide +kernel, by decide +kernel⟩
abbrev N_pace_readers : List Str := ["ring"]
abbrev P_pace_readers : List Str := ["ring"]
theorem sc_pace_readers : FnScope N_pace_readers P_pace_readers (defScope s_pace_readers) := ⟨rfl, rfl, rfl, by decide +kernel, rfl, by decide +kernel, by decide +kernel⟩
abbrev N_judge_pace : List Str := ["ring", "readers", "index", "reader"]
abbrev P_judge_pace : List Str := ["ring", "readers"]
theorem sc_judge_pace : FnScope N_judge_pace P_judge_pace (defScope s_judge_pace) := ⟨rfl, rfl, rfl, by decide +kernel, rfl, by decide +kernel, by decide +kernel⟩
abbrev N_pace_with : List Str := ["ring", "books"]
abbrev P_pace_with : List Str := ["ring", "books"]
theorem sc_pace_with : FnScope N_pace_with P_pace_with (defScope s_pace_with) := ⟨rfl, rfl, rfl, by decide +kernel, rfl, by decide +kernel, by decide +kernel⟩
abbrev N_fewest_books : List Str := ["ring", "slowest"]
abbrev P_fewest_books : List Str := ["ring"]
theorem sc_fewest_books : FnScope N_fewest_books P_fewest_books (defScope s_fewest_books) := ⟨rfl, rfl, rfl, by decide +kernel, rfl, by decide +kernel, by decide +kernel⟩
abbrev N_helpful_readers : List Str := ["ring", "reader"]
abbrev P_helpful_readers : List Str := ["ring"]
theorem sc_helpful_readers : FnScope N_helpful_readers P_helpful_readers (defScope s_helpful_readers) := ⟨rfl, rfl, rfl, by decide +kernel, rfl, by decide +kernel, by decide +kernel⟩
abbrev N_slowest_days : List Str := ["ring", "reader", "choices", "days"]
abbrev P_slowest_days : List Str := ["ring", "reader"]
theorem sc_slowest_days : FnScope N_slowest_days P_slowest_days (defScope s_slowest_days) := ⟨rfl, rfl, rfl, by decide +kernel, rfl, by decide +kernel, by decide +kernel⟩
abbrev N_fewest_days_less : List Str := ["ring", "days", "readings", "most", "most_in_all", "within", "needed"]
abbrev P_fewest_days_less : List Str := ["ring", "days", "readings"]
theorem sc_fewest_days_less : FnScope N_fewest_days_less P_fewest_days_less (defScope s_fewest_days_less) := ⟨rfl, rfl, rfl, by decide +kernel, rfl, by decide +kernel, by decide +kernel⟩
abbrev N_is_helpful : List Str := ["ring", "reader"]
abbrev P_is_helpful : List Str := ["ring", "reader"]
theorem sc_is_helpful : FnScope N_is_helpful P_is_helpful (defScope s_is_helpful) := ⟨rfl, rfl, rfl, by decide +kernel, rfl, by decide +kernel, by decide +kernel⟩
abbrev N_is_smaller : List Str := ["one", "other"]
abbrev P_is_smaller : List Str := ["one", "other"]
theorem sc_is_smaller : FnScope N_is_smaller P_is_smaller (defScope s_is_smaller) := ⟨rfl, rfl, rfl, by decide +kernel, rfl, by decide +kernel, by decide +kernel⟩
abbrev N_ltaken : List Str := ["_law_row", "_law_many", "_law_found", "_law_cell"]
abbrev P_ltaken : List Str := ["_law_row", "_law_many"]
theorem sc_ltaken : FnScope N_ltaken P_ltaken (defScope s_ltaken) := ⟨rfl, rfl, rfl, by decide +kernel, rfl, by decide +kernel, by decide +kernel⟩
abbrev N_lparts : List Str := ["_law_row", "_law_most", "_law_size", "_law_far", "_law_days", "_law_starts", "_law_k"]
abbrev P_lparts : List Str := ["_law_row", "_law_most"]
theorem sc_lparts : FnScope N_lparts P_lparts (defScope s_lparts) := ⟨rfl, rfl, rfl, by decide +kernel, rfl, by decide +kernel, by decide +kernel⟩
abbrev N_law : List Str := ["_law_script", "_law_row", "_law_parts_here", "_law_ring", "_law_size", "_law_shown", "_law_few", "_law_best", "_law_helped", "_law_k", "_law_quick", "_law_most", "_law_one"]
abbrev P_law : List Str := ["_law_script"]
theorem sc_law : FnScope N_law P_law (defScope s_law) := ⟨rfl, rfl, rfl, by decide +kernel, rfl, by decide +kernel, by decide +kernel⟩
/-- what the top has written: the defs where they stand, the class, constants, built-ins that are still so -/
structure Tx (K : PySem.W.Frag) (mg : Str → Option Value) where
  C : Addr
  a_is_number : Addr
  d_is_number : FuncData
  F_is_number : Fun K "is_number" "is_number" s_is_number a_is_number d_is_number
  b_is_number : Binds K d_is_number P_is_number []
  g_is_number : mg "is_number" = some (.ref a_is_number)
  a_lies_between : Addr
  d_lies_between : FuncData
  F_lies_between : Fun K "lies_between" "lies_between" s_lies_between a_lies_between d_lies_between
  b_lies_between : Binds K d_lies_between P_lies_between []
  g_lies_between : mg "lies_between" = some (.ref a_lies_between)
  a_check_number : Addr
  d_check_number : FuncData
  F_check_number : Fun K "check_number" "check_number" s_check_number a_check_number d_check_number
  b_check_number : Binds K d_check_number P_check_number []
  g_check_number : mg "check_number" = some (.ref a_check_number)
  a_check_reader : Addr
  d_check_reader : FuncData
  F_check_reader : Fun K "check_reader" "check_reader" s_check_reader a_check_reader d_check_reader
  b_check_reader : Binds K d_check_reader P_check_reader []
  g_check_reader : mg "check_reader" = some (.ref a_check_reader)
  a_rinit : Addr
  d_rinit : FuncData
  F_rinit : Fun K "__init__" "Ring.__init__" s_rinit a_rinit d_rinit
  b_rinit : Binds K d_rinit P_rinit []
  a_rdays : Addr
  d_rdays : FuncData
  F_rdays : Fun K "days" "Ring.days" s_rdays a_rdays d_rdays
  b_rdays : Binds K d_rdays P_rdays []
  a_rstarts : Addr
  d_rstarts : FuncData
  F_rstarts : Fun K "starts" "Ring.starts" s_rstarts a_rstarts d_rstarts
  b_rstarts : Binds K d_rstarts P_rstarts []
  a_rbooks : Addr
  d_rbooks : FuncData
  F_rbooks : Fun K "books" "Ring.books" s_rbooks a_rbooks d_rbooks
  b_rbooks : Binds K d_rbooks P_rbooks []
  a_rpace : Addr
  d_rpace : FuncData
  F_rpace : Fun K "pace" "Ring.pace" s_rpace a_rpace d_rpace
  b_rpace : Binds K d_rpace P_rpace []
  a_rwith_days : Addr
  d_rwith_days : FuncData
  F_rwith_days : Fun K "with_days" "Ring.with_days" s_rwith_days a_rwith_days d_rwith_days
  b_rwith_days : Binds K d_rwith_days P_rwith_days []
  a_rlen : Addr
  d_rlen : FuncData
  F_rlen : Fun K "__len__" "Ring.__len__" s_rlen a_rlen d_rlen
  b_rlen : Binds K d_rlen P_rlen []
  a_rcall : Addr
  d_rcall : FuncData
  F_rcall : Fun K "__call__" "Ring.__call__" s_rcall a_rcall d_rcall
  b_rcall : Binds K d_rcall P_rcall []
  a_check_part : Addr
  d_check_part : FuncData
  F_check_part : Fun K "check_part" "check_part" s_check_part a_check_part d_check_part
  b_check_part : Binds K d_check_part P_check_part []
  g_check_part : mg "check_part" = some (.ref a_check_part)
  a_slowest_decides : Addr
  d_slowest_decides : FuncData
  F_slowest_decides : Fun K "slowest_decides" "slowest_decides" s_slowest_decides a_slowest_decides d_slowest_decides
  b_slowest_decides : Binds K d_slowest_decides P_slowest_decides []
  g_slowest_decides : mg "slowest_decides" = some (.ref a_slowest_decides)
  a_pace_of : Addr
  d_pace_of : FuncData
  F_pace_of : Fun K "pace_of" "pace_of" s_pace_of a_pace_of d_pace_of
  b_pace_of : Binds K d_pace_of P_pace_of []
  g_pace_of : mg "pace_of" = some (.ref a_pace_of)
  a_round_pace : Addr
  d_round_pace : FuncData
  F_round_pace : Fun K "round_pace" "round_pace" s_round_pace a_round_pace d_round_pace
  b_round_pace : Binds K d_round_pace P_round_pace []
  g_round_pace : mg "round_pace" = some (.ref a_round_pace)
  a_end_day : Addr
  d_end_day : FuncData
  F_end_day : Fun K "end_day" "end_day" s_end_day a_end_day d_end_day
  b_end_day : Binds K d_end_day P_end_day []
  g_end_day : mg "end_day" = some (.ref a_end_day)
  a_reader_before : Addr
  d_reader_before : FuncData
  F_reader_before : Fun K "reader_before" "reader_before" s_reader_before a_reader_before d_reader_before
  b_reader_before : Binds K d_reader_before P_reader_before []
  g_reader_before : mg "reader_before" = some (.ref a_reader_before)
  a_pace_readers : Addr
  d_pace_readers : FuncData
  F_pace_readers : Fun K "pace_readers" "pace_readers" s_pace_readers a_pace_readers d_pace_readers
  b_pace_readers : Binds K d_pace_readers P_pace_readers []
  g_pace_readers : mg "pace_readers" = some (.ref a_pace_readers)
  a_judge_pace : Addr
  d_judge_pace : FuncData
  F_judge_pace : Fun K "judge_pace" "judge_pace" s_judge_pace a_judge_pace d_judge_pace
  b_judge_pace : Binds K d_judge_pace P_judge_pace []
  g_judge_pace : mg "judge_pace" = some (.ref a_judge_pace)
  a_pace_with : Addr
  d_pace_with : FuncData
  F_pace_with : Fun K "pace_with" "pace_with" s_pace_with a_pace_with d_pace_with
  b_pace_with : Binds K d_pace_with P_pace_with []
  g_pace_with : mg "pace_with" = some (.ref a_pace_with)
  a_fewest_books : Addr
  d_fewest_books : FuncData
  F_fewest_books : Fun K "fewest_books" "fewest_books" s_fewest_books a_fewest_books d_fewest_books
  b_fewest_books : Binds K d_fewest_books P_fewest_books []
  g_fewest_books : mg "fewest_books" = some (.ref a_fewest_books)
  a_helpful_readers : Addr
  d_helpful_readers : FuncData
  F_helpful_readers : Fun K "helpful_readers" "helpful_readers" s_helpful_readers a_helpful_readers d_helpful_readers
  b_helpful_readers : Binds K d_helpful_readers P_helpful_readers []
  g_helpful_readers : mg "helpful_readers" = some (.ref a_helpful_readers)
  a_slowest_days : Addr
  d_slowest_days : FuncData
  F_slowest_days : Fun K "slowest_days" "slowest_days" s_slowest_days a_slowest_days d_slowest_days
  b_slowest_days : Binds K d_slowest_days P_slowest_days []
  g_slowest_days : mg "slowest_days" = some (.ref a_slowest_days)
  a_fewest_days_less : Addr
  d_fewest_days_less : FuncData
  F_fewest_days_less : Fun K "fewest_days_less" "fewest_days_less" s_fewest_days_less a_fewest_days_less d_fewest_days_less
  b_fewest_days_less : Binds K d_fewest_days_less P_fewest_days_less []
  g_fewest_days_less : mg "fewest_days_less" = some (.ref a_fewest_days_less)
  a_is_helpful : Addr
  d_is_helpful : FuncData
  F_is_helpful : Fun K "is_helpful" "is_helpful" s_is_helpful a_is_helpful d_is_helpful
  b_is_helpful : Binds K d_is_helpful P_is_helpful []
  g_is_helpful : mg "is_helpful" = some (.ref a_is_helpful)
  a_is_smaller : Addr
  d_is_smaller : FuncData
  F_is_smaller : Fun K "is_smaller" "is_smaller" s_is_smaller a_is_smaller d_is_smaller
  b_is_smaller : Binds K d_is_smaller P_is_smaller []
  g_is_smaller : mg "is_smaller" = some (.ref a_is_smaller)
  a_ltaken : Addr
  d_ltaken : FuncData
  F_ltaken : Fun K "_law_taken" "_law_taken" s_ltaken a_ltaken d_ltaken
  b_ltaken : Binds K d_ltaken P_ltaken []
  g_ltaken : mg "_law_taken" = some (.ref a_ltaken)
  a_lparts : Addr
  d_lparts : FuncData
  F_lparts : Fun K "_law_parts" "_law_parts" s_lparts a_lparts d_lparts
  b_lparts : Binds K d_lparts P_lparts []
  g_lparts : mg "_law_parts" = some (.ref a_lparts)
  a_law : Addr
  d_law : FuncData
  F_law : Fun K "law" "law" s_law a_law d_law
  b_law : Binds K d_law P_law []
  g_law : mg "law" = some (.ref a_law)
  cl : Cls K C
  nD : NoAttr K C "_days"
  nS : NoAttr K C "_starts"
  mkR : Mk K C a_rinit
  gC : mg "Ring" = some (.ref C)
  p_rdays : Addr
  q_rdays : PropOf K C "days" p_rdays a_rdays
  p_rstarts : Addr
  q_rstarts : PropOf K C "starts" p_rstarts a_rstarts
  p_rbooks : Addr
  q_rbooks : PropOf K C "books" p_rbooks a_rbooks
  p_rpace : Addr
  q_rpace : PropOf K C "pace" p_rpace a_rpace
  lenC : PySem.W.findIn K (.ref C) "__len__" = some (some (.ref a_rlen))
  lenF : PySem.W.isFn K (.ref a_rlen) = true
  callC : StX.CallO K C a_rcall
  mW : Meth K C "with_days" a_rwith_days
  c_LATEST : ∃ t, mg "LATEST" = some (.int 1000000000000000000 t)
  c_FEWEST_READERS : ∃ t, mg "FEWEST_READERS" = some (.int 2 t)
  c_MOST_READERS : ∃ t, mg "MOST_READERS" = some (.int 8 t)
  c_MOST_DAYS : ∃ t, mg "MOST_DAYS" = some (.int 30 t)
  c_MOST_BOOKS : ∃ t, mg "MOST_BOOKS" = some (.int 12 t)
  c_MOST_PLANNED : ∃ t, mg "MOST_PLANNED" = some (.int 1000 t)
  g_gcd : mg "gcd" = some (.builtin "math.gcd")
  z_len : mg "len" = none
  z_sum : mg "sum" = none
  z_max : mg "max" = none
  z_min : mg "min" = none
  z_range : mg "range" = none
  z_int : mg "int" = none
  z_bool : mg "bool" = none
  z_isinstance : mg "isinstance" = none
  z_tuple : mg "tuple" = none
  z_enumerate : mg "enumerate" = none
  z_list : mg "list" = none
  z_str : mg "str" = none
  z_sorted : mg "sorted" = none
end Rp
namespace Rp
open PySem PySem.Spec PyProof.Rows L2 Rz Rm
/-! ### a ring as it stands -/
theorem ds_ne : ¬ (("_days" : Str) = "_starts") := by decide +kernel
def flds (td ts : Addr) : List (Str × V) := putF "_starts" (.ref ts) (putF "_days" (.ref td) [])
theorem flds_days (td ts : Addr) : (flds td ts).lookup ("_days" : Str) = some (.ref td) := by
  unfold flds
  rw [lookup_putF, if_neg ds_ne, lookup_putF, if_pos rfl]
theorem flds_starts (td ts : Addr) : (flds td ts).lookup ("_starts" : Str) = some (.ref ts) := by
  unfold flds
  rw [lookup_putF, if_pos rfl]
/-- days and books at first that make a ring -/
structure Good (ds ss : List Int) : Prop where
  l2 : 2 ≤ ds.length
  l8 : ds.length ≤ 8
  ls : ss.length = ds.length
  d1 : ∀ y ∈ ds, 1 ≤ y ∧ y ≤ 30
  s0 : ∀ y ∈ ss, 0 ≤ y ∧ y ≤ 12
  b1 : 1 ≤ ss.sum
  b12 : ss.sum ≤ 12
/-- a tuple that stands in H, its object known or not -/
def Tq (H : Hp) (a : Addr) (xs : List V) : Prop := H a = some (.tup xs) ∨ ∃ o : Obj, o.dict = none ∧ H a = some (.frz o (.tup xs))
def Tf (H : Hp) (a : Addr) (xs : List V) : Prop := ∃ o : Obj, o.dict = none ∧ H a = some (.frz o (.tup xs))
theorem Tf.tq {H : Hp} {a : Addr} {xs : List V} (h : Tf H a xs) : Tq H a xs := .inr h
theorem Tf.same {H H' : Hp} {a : Addr} {xs : List V} (h : Tf H a xs) (s : Same H H') : Tf H' a xs := let ⟨o, d, e⟩ := h; ⟨o, d, s _ _ e⟩
theorem Tq.rd {H : Hp} {a : Addr} {xs : List V} (h : Tq H a xs) : Rd H a (.tup xs) := h.elim .inl fun ⟨o, _, e⟩ => .inr ⟨o, e⟩
theorem Tq.same {H H' : Hp} {a : Addr} {xs : List V} (h : Tq H a xs) (s : Same H H') : Tq H' a xs := h.elim (fun e => .inl (s _ _ e)) fun ⟨o, d, e⟩ => .inr ⟨o, d, s _ _ e⟩
theorem Tq.ne {H : Hp} {a p C dx : Addr} {xs : List V} {fs : List (Str × V)} (h : Tq H a xs) (e : H p = some (.ins C dx fs)) : a ≠ p := by
  rcases h with h | ⟨o, _, h⟩
  · exact ne_of h e (by intro z; cases z)
  · exact ne_of h e (by intro z; cases z)
theorem Tq.put {H : Hp} {a p : Addr} {xs : List V} {o : HO} (h : Tq H a xs) (n : a ≠ p) : Tq (upd H p o) a xs := by
  rcases h with h | ⟨u, d, h⟩
  · exact .inl (by rw [upd_ne n]; exact h)
  · exact .inr ⟨u, d, by rw [upd_ne n]; exact h⟩
theorem Tq.ty {K : PySem.W.Frag} {H : Hp} {a : Addr} {xs : List V} (h : Tq H a xs) : TyX K H (.ref a) (.type "tuple") := by
  rcases h with h | ⟨u, _, h⟩
  · exact .base (.tup h)
  · exact .fTuple h
structure RingAt (C : Addr) (H : Hp) (p dx td ts : Addr) (ds ss : List Int) : Prop where
  ob : H p = some (.ins C dx (flds td ts))
  td : Tq H td (ds.map V.int)
  ts : Tq H ts (ss.map V.int)
  ok : Good ds ss
theorem RingAt.same {C : Addr} {H H' : Hp} {p dx td ts : Addr} {ds ss : List Int} (R : RingAt C H p dx td ts ds ss) (s : Same H H') : RingAt C H' p dx td ts ds ss :=
  ⟨s _ _ R.ob, R.td.same s, R.ts.same s, R.ok⟩
theorem sq_same {K : PySem.W.Frag} {H H' : Hp} {a : Addr} {xs : List V} (e : Same H H') (h : H a = some (.tup xs)) : SqT K H' a xs := .of (e _ _ h)
theorem same_upd {H : Hp} {p : Addr} {o : HO} (h : H p = none) : Same H (upd H p o) := fun b x e => by
  rw [upd_ne (ne_of_none e h)]
  exact e
section
variable {P : Program} {w : World} {K : PySem.W.Frag} {mg : Str → Option Value} {base : Heap}
/-! ### checks -/
/-- a number is one -/
def spIsNum : Sp := fun vs H Q _ => ∃ i : Int, vs = [.int i] ∧ Q (.bl true) H
theorem ok_is_number (T : Tx K mg) : FnOk P w K mg base CX0 1 T.a_is_number T.d_is_number P_is_number spIsNum := by
  refine T.F_is_number.ok sc_is_number (fun vs H Q E h => ?_) (fun cdv A outer s H vs Q E hr h => ?_)
  · obtain ⟨i, rfl, _⟩ := h
    rfl
  · obtain ⟨i, rfl, q⟩ := h
    refine ⟨_, pss_one (ps_ret (pe_and (pe_callB call_isi (by rfl) T.z_isinstance (by decide +kernel) (pa_cons (pv 0) (pa_cons (pe_bltn (v := .ty "int") (u := .type "int") (by rfl) T.z_int (by decide +kernel) rfl) pa_nil)))
      (pe_one (pe_not (pe_callB call_isi (by rfl) T.z_isinstance (by decide +kernel) (pa_cons (pv 0) (pa_cons (pe_bltn (v := .ty "bool") (u := .type "bool") (by rfl) T.z_bool (by decide +kernel) rfl) pa_nil))))))), ?_⟩
    refine ⟨.int i, rfl, .int i, .ty "int", .type "int", .type "int", true, rfl, .ty _, .base (.int i), kit_ty (by decide +kernel), true, rfl, iteT ?_⟩
    exact ⟨.int i, rfl, .int i, .ty "bool", .type "int", .type "bool", false, rfl, .ty _, .base (.int i), kit_ty (by decide +kernel), false, rfl, q⟩
def spLies : Sp := fun vs H Q _ => ∃ v lo hi : Int, vs = [.int v, .int lo, .int hi] ∧ Q (.bl (decide (lo ≤ v) && decide (v ≤ hi))) H
theorem ok_lies (T : Tx K mg) : FnOk P w K mg base CX0 2 T.a_lies_between T.d_lies_between P_lies_between spLies := by
  refine T.F_lies_between.ok sc_lies_between (fun vs H Q E h => ?_) (fun cdv A outer s H vs Q E hr h => ?_)
  · obtain ⟨v, lo, hi, rfl, _⟩ := h
    rfl
  · obtain ⟨v, lo, hi, rfl, q⟩ := h
    refine ⟨_, pss_one (ps_ret (pe_and (pe_call (ok_is_number T) hr (by rfl) T.g_is_number T.F_is_number.kp T.b_is_number .nil pass0 (pa_cons (pv 0) pa_nil)) (pe_one (pe_chain op_le op_le (pv 1) (pv 0) (pv 2))))), ?_⟩
    refine ⟨.int v, rfl, v, rfl, true, rfl, iteT ?_⟩
    refine ⟨.int lo, rfl, .int v, rfl, lo, v, rfl, rfl, decide (lo ≤ v), rfl, ?_⟩
    by_cases h : lo ≤ v
    · rw [decide_eq_true h] at q ⊢
      exact iteT ⟨.int hi, rfl, v, hi, rfl, rfl, q⟩
    · rw [decide_eq_false h] at q ⊢
      exact iteF q
theorem in_lim {v lo hi : Int} (h1 : lo ≤ v) (h2 : v ≤ hi) : (decide (lo ≤ v) && decide (v ≤ hi)) = true := by
  rw [decide_eq_true h1, decide_eq_true h2] <;> rfl
def spChk : Sp := fun vs H Q _ => ∃ v lo hi : Int, vs = [.int v, .int lo, .int hi] ∧ lo ≤ v ∧ v ≤ hi ∧ Q .non H
theorem ok_chk (T : Tx K mg) : FnOk P w K mg base CX0 3 T.a_check_number T.d_check_number P_check_number spChk := by
  refine T.F_check_number.ok sc_check_number (fun vs H Q E h => ?_) (fun cdv A outer s H vs Q E hr h => ?_)
  · obtain ⟨v, lo, hi, rfl, _⟩ := h
    rfl
  · obtain ⟨v, lo, hi, rfl, h1, h2, q⟩ := h
    refine ⟨_, pss_one (ps_if (pt_not (pt_val (pe_call (ok_lies T) hr (by rfl) T.g_lies_between T.F_lies_between.kp T.b_lies_between .nil pass0 (pa_cons (pv 0) (pa_cons (pv 1) (pa_cons (pv 2) pa_nil)))))) (pss_one ps_never) pss_nil), ?_⟩
    refine ⟨.int v, rfl, .int lo, rfl, .int hi, rfl, v, lo, hi, rfl, _, rfl, ?_⟩
    rw [in_lim h1 h2]
    exact iteF q
/-! ### the ring's own -/
def spLen (C : Addr) : Sp := fun vs H Q _ => ∃ p dx td ts ds ss, vs = [.ref p] ∧ RingAt C H p dx td ts ds ss ∧ Q (.int ds.length) H
theorem ok_len (T : Tx K mg) : FnOk P w K mg base CX0 1 T.a_rlen T.d_rlen P_rlen (spLen T.C) := by
  refine T.F_rlen.ok sc_rlen (fun vs H Q E h => ?_) (fun cdv A outer s H vs Q E hr h => ?_)
  · obtain ⟨p, dx, td, ts, ds, ss, rfl, _⟩ := h
    rfl
  · obtain ⟨p, dx, td, ts, ds, ss, rfl, R, q⟩ := h
    refine ⟨_, pss_one (ps_ret (pe_callB call_len_seq (by rfl) T.z_len PySem.boot_len (pa_cons (pe_fld (pv 0) rfl) pa_nil))), ?_⟩
    refine ⟨_, rfl, p, _, dx, _, _, rfl, R.ob, T.cl, T.nD, flds_days _ _, td, _, rfl, .inr (.inl R.td.rd), ?_⟩
    rw [List.length_map]
    exact q
def spDays (C : Addr) : Sp := fun vs H Q _ => ∃ p dx td ts ds ss, vs = [.ref p] ∧ RingAt C H p dx td ts ds ss ∧ Q (.ref td) H
def spStarts (C : Addr) : Sp := fun vs H Q _ => ∃ p dx td ts ds ss, vs = [.ref p] ∧ RingAt C H p dx td ts ds ss ∧ Q (.ref ts) H
def spBooks (C : Addr) : Sp := fun vs H Q _ => ∃ p dx td ts ds ss, vs = [.ref p] ∧ RingAt C H p dx td ts ds ss ∧ Q (.int ss.sum) H
theorem ok_days (T : Tx K mg) : FnOk P w K mg base CX0 1 T.a_rdays T.d_rdays P_rdays (spDays T.C) := by
  refine T.F_rdays.ok sc_rdays (fun vs H Q E h => ?_) (fun cdv A outer s H vs Q E hr h => ?_)
  · obtain ⟨p, dx, td, ts, ds, ss, rfl, _⟩ := h
    rfl
  · obtain ⟨p, dx, td, ts, ds, ss, rfl, R, q⟩ := h
    refine ⟨_, pss_one (ps_ret (pe_fld (pv 0) rfl)), ?_⟩
    exact ⟨_, rfl, p, _, dx, _, _, rfl, R.ob, T.cl, T.nD, flds_days _ _, q⟩
theorem ok_starts (T : Tx K mg) : FnOk P w K mg base CX0 1 T.a_rstarts T.d_rstarts P_rstarts (spStarts T.C) := by
  refine T.F_rstarts.ok sc_rstarts (fun vs H Q E h => ?_) (fun cdv A outer s H vs Q E hr h => ?_)
  · obtain ⟨p, dx, td, ts, ds, ss, rfl, _⟩ := h
    rfl
  · obtain ⟨p, dx, td, ts, ds, ss, rfl, R, q⟩ := h
    refine ⟨_, pss_one (ps_ret (pe_fld (pv 0) rfl)), ?_⟩
    exact ⟨_, rfl, p, _, dx, _, _, rfl, R.ob, T.cl, T.nS, flds_starts _ _, q⟩
theorem ok_books (T : Tx K mg) : FnOk P w K mg base CX0 1 T.a_rbooks T.d_rbooks P_rbooks (spBooks T.C) := by
  refine T.F_rbooks.ok sc_rbooks (fun vs H Q E h => ?_) (fun cdv A outer s H vs Q E hr h => ?_)
  · obtain ⟨p, dx, td, ts, ds, ss, rfl, _⟩ := h
    rfl
  · obtain ⟨p, dx, td, ts, ds, ss, rfl, R, q⟩ := h
    refine ⟨_, pss_one (ps_ret (pe_callB (cr_sumT rfl) (by rfl) T.z_sum (by decide +kernel) (pa_cons (pe_fld (pv 0) rfl) pa_nil))), ?_⟩
    exact ⟨_, rfl, p, _, dx, _, _, rfl, R.ob, T.cl, T.nS, flds_starts _ _, ts, ss, rfl, .inl R.ts.rd, q⟩
/-! ### check_reader -/
def spReader (C : Addr) : Sp := fun vs H Q _ => ∃ p dx td ts ds ss, ∃ r : Int, vs = [.ref p, .int r] ∧ RingAt C H p dx td ts ds ss ∧ 0 ≤ r ∧ r < ds.length ∧ Q .non H
theorem ok_reader (T : Tx K mg) : FnOk P w K mg base CX0 3 T.a_check_reader T.d_check_reader P_check_reader (spReader T.C) := by
  refine T.F_check_reader.ok sc_check_reader (fun vs H Q E h => ?_) (fun cdv A outer s H vs Q E hr h => ?_)
  · obtain ⟨p, dx, td, ts, ds, ss, r, rfl, _⟩ := h
    rfl
  · obtain ⟨p, dx, td, ts, ds, ss, r, rfl, R, h1, h2, q⟩ := h
    refine ⟨_, pss_one (ps_if (pt_not (pt_val (pe_call (ok_lies T) hr (by rfl) T.g_lies_between T.F_lies_between.kp T.b_lies_between .nil pass0
      (pa_cons (pv 1) (pa_cons pe_int (pa_cons (pe_op op_sub (pe_callB (call_lenI T.lenC T.lenF ((ok_len T).raw T.b_rlen .nil) hr pass0) (by rfl) T.z_len PySem.boot_len (pa_cons (pv 0) pa_nil)) pe_int) pa_nil)))))) (pss_one ps_never) pss_nil), ?_⟩
    have hl := R.ok.l8
    refine ⟨.int r, rfl, .ref p, rfl, p, dx, _, rfl, R.ob, p, dx, td, ts, ds, ss, rfl, R, (ds.length : Int), rfl, by omega, by omega, _, _, rfl, rfl, ?_⟩
    refine ⟨r, 0, (ds.length : Int) - 1, rfl, _, rfl, ?_⟩
    rw [in_lim h1 (show r ≤ (ds.length : Int) - 1 by omega)]
    exact iteF q
end
end Rp
namespace Rp
open PySem PySem.Spec PyProof.Rows L2 Rz Rm
/-! ### the pace -/
/-- days that readers need -/
structure Dys (ds : List Int) : Prop where
  ne : 0 < ds.length
  d1 : ∀ y ∈ ds, 1 ≤ y
theorem Good.dys {ds ss : List Int} (G : Good ds ss) : Dys ds := ⟨by have := G.l2; omega, fun y h => (G.d1 y h).1⟩
def mx (ds : List Int) : Int := ds.foldr max 0
theorem mx_nn : ∀ ds : List Int, 0 ≤ mx ds
  | [] => Int.le_refl _
  | a :: r => by
    have := mx_nn r
    show 0 ≤ max a (mx r)
    omega
theorem le_mx : ∀ {ds : List Int} {y : Int}, y ∈ ds → y ≤ mx ds
  | a :: r, y, h => by
    show y ≤ max a (mx r)
    rcases List.mem_cons.mp h with e | e
    · omega
    · have := le_mx e
      omega
theorem mx_le : ∀ {ds : List Int} {M : Int}, 0 ≤ M → (∀ y ∈ ds, y ≤ M) → mx ds ≤ M
  | [], _, h, _ => h
  | a :: r, M, h, hu => by
    have h1 := hu a List.mem_cons_self
    have h2 := mx_le (ds := r) h fun y hy => hu y (List.mem_cons_of_mem _ hy)
    show max a (mx r) ≤ M
    omega
theorem mx_eq {ds : List Int} {M : Int} (D : Dys ds) (hM : M ∈ ds) (hMu : ∀ y ∈ ds, y ≤ M) : mx ds = M :=
  Int.le_antisymm (mx_le (by have := D.d1 M hM; omega) hMu) (le_mx hM)
theorem mx_mem : ∀ {ds : List Int}, ds ≠ [] → (∀ y ∈ ds, 0 ≤ y) → mx ds ∈ ds
  | [], h, _ => absurd rfl h
  | [a], _, h => by
    have h1 := h a (by simp)
    show max a 0 ∈ [a]
    rw [show max a 0 = a by omega]
    simp
  | a :: b :: r, _, h => by
    have ih := mx_mem (ds := b :: r) (by simp) fun y hy => h y (List.mem_cons_of_mem _ hy)
    show max a (mx (b :: r)) ∈ a :: b :: r
    by_cases c : a ≤ mx (b :: r)
    · rw [show max a (mx (b :: r)) = mx (b :: r) by omega]
      exact List.mem_cons_of_mem _ ih
    · rw [show max a (mx (b :: r)) = a by omega]
      exact List.mem_cons_self
theorem Dys.mem {ds : List Int} (D : Dys ds) : mx ds ∈ ds := mx_mem (fun e => by
  have := D.ne
  rw [e] at this
  exact absurd this (Nat.lt_irrefl _)) fun y h => by have := D.d1 y h; omega
def gq (ds : List Int) (b : Int) : Int := ((Nat.gcd ds.sum.natAbs b.natAbs : Nat) : Int)
/-- the pace's two numbers -/
def pX (ds : List Int) (b : Int) : Int := if ds.sum ≤ mx ds * b then mx ds else ds.sum / gq ds b
def pY (ds : List Int) (b : Int) : Int := if ds.sum ≤ mx ds * b then 1 else b / gq ds b
theorem gq_facts {ds : List Int} {b : Int} (h : 1 ≤ b) : 1 ≤ gq ds b ∧ gq ds b ≤ b ∧ gq ds b ∣ ds.sum ∧ gq ds b ∣ b := by
  have g0 : 0 < Nat.gcd ds.sum.natAbs b.natAbs := Nat.gcd_pos_of_pos_right _ (by omega)
  have gle : Nat.gcd ds.sum.natAbs b.natAbs ≤ b.natAbs := Nat.le_of_dvd (by omega) (Nat.gcd_dvd_right _ _)
  unfold gq
  exact ⟨by omega, by omega, Int.ofNat_dvd_left.mpr (Nat.gcd_dvd_left _ _), Int.ofNat_dvd_left.mpr (Nat.gcd_dvd_right _ _)⟩
section
variable {P : Program} {w : World} {K : PySem.W.Frag} {mg : Str → Option Value} {base : Heap}
/-! ### check_part -/
def spPart : Sp := fun vs H Q _ => ∃ (part : Str) (v l n : Addr) (ns : List Int) (lo hi f m : Int), vs = [.str part, .ref v, .ref l, .ref n] ∧ Tq H v (ns.map V.int) ∧ H l = some (.tup [.int lo, .int hi]) ∧ H n = some (.tup [.int f, .int m]) ∧
  (∀ y ∈ ns, lo ≤ y ∧ y ≤ hi) ∧ f ≤ ns.length ∧ (ns.length : Int) ≤ m ∧ ∀ H', Same H H' → Q .non H'
theorem get_int {ns : List Int} {i : Nat} {y : V} (h : (ns.map V.int)[i]? = some y) : ∃ z, ns[i]? = some z ∧ y = .int z := by
  rw [List.getElem?_map] at h
  cases e : ns[i]? with
  | none =>
    rw [e] at h
    cases h
  | some z =>
    rw [e] at h
    exact ⟨z, rfl, (Option.some.inj h).symm⟩
theorem ok_part (T : Tx K mg) : FnOk P w K mg base CX0 3 T.a_check_part T.d_check_part P_check_part spPart := by
  refine T.F_check_part.ok sc_check_part (fun vs H Q E h => ?_) (fun cdv A outer s H vs Q E hr h => ?_)
  · obtain ⟨part, v, l, n, ns, lo, hi, f, m, rfl, _⟩ := h
    rfl
  · obtain ⟨part, v, l, n, ns, lo, hi, f, m, rfl, hv, hl, hn, hall, hf, hm, q⟩ := h
    have nd := sc_check_part.nd
    refine ⟨_, pss_cons (ps_if (pt_not (pt_val (pe_callB call_isi (by rfl) T.z_isinstance (by decide +kernel) (pa_cons (pv 1) (pa_cons (pe_bltn (v := .ty "tuple") (u := .type "tuple") (by rfl) T.z_tuple (by decide +kernel) rfl) pa_nil))))) (pss_one ps_never) pss_nil)
      (pss_cons (ps_asg (pv 2) (pg_tup rfl (pgs_cons (pg_name (i := 4) nd rfl (.inl rfl)) (pgs_cons (pg_name (i := 5) nd rfl (.inl rfl)) pgs_nil))))
      (pss_cons (ps_asg (pv 3) (pg_tup rfl (pgs_cons (pg_name (i := 6) nd rfl (.inl rfl)) (pgs_cons (pg_name (i := 7) nd rfl (.inl rfl)) pgs_nil))))
      (pss_cons (ps_for PassesOwn.never rfl (pi_enumT (by rfl) T.z_enumerate (pa_cons (pv 1) pa_nil)) (pg_tup rfl (pgs_cons (pg_name (i := 8) nd rfl (.inl rfl)) (pgs_cons (pg_name (i := 9) nd rfl (.inl rfl)) pgs_nil)))
        (pss_one (ps_if (PW.pt (pw_or (pt_cmpR op_ge (pv 8) (pv 7) (nomark _)) (pw_or1 (pt_not (pt_val (pe_call (ok_lies T) hr (by rfl) T.g_lies_between T.F_lies_between.kp T.b_lies_between .nil pass0 (pa_cons (pv 9) (pa_cons (pv 4) (pa_cons (pv 5) pa_nil)))))))))
          (pss_one ps_never) pss_nil)))
      (pss_one (ps_if (pt_cmpR op_lt (pe_callB call_len_seq (by rfl) T.z_len PySem.boot_len (pa_cons (pv 1) pa_nil)) (pv 6) (nomark _)) (pss_one ps_never) pss_nil))))), ?_⟩
    -- isinstance(values, tuple)
    refine ⟨.ref v, rfl, .ref v, .ty "tuple", .type "tuple", .type "tuple", true, rfl, .ty _, hv.ty, kit_ty (by decide +kernel), true, rfl, iteF ?_⟩
    -- low, high = limits; fewest, most = lengths
    refine ⟨.ref l, rfl, l, _, rfl, .of hl, rfl, _, _, rfl, _, _, rfl, rfl, ?_⟩
    refine ⟨.ref n, rfl, n, _, rfl, .of hn, rfl, _, _, rfl, _, _, rfl, rfl, ?_⟩
    -- for index, value in enumerate(values)
    refine ⟨.ref v, rfl, v, _, rfl, .inl hv.rd, for_it walk_enumT (fun i σ H' => ∃ y8 y9, σ = [some (.str part), some (.ref v), some (.ref l), some (.ref n), some (.int lo), some (.int hi), some (.int f), some (.int m), y8, y9] ∧ Same H H')
      ⟨none, none, rfl, Same.refl H⟩ (fun i σ H' _ ⟨_, _, _, sm⟩ => .inl (hv.same sm).rd) ?_ ?_⟩
    · rintro i x σ H1 H2 hi1 ⟨y8, y9, rfl, sm⟩ ⟨t, a, b, rfl, nt, rfl, ha, hb⟩
      have ha' : a = .int (i : Nat) := (Option.some.inj ha).symm
      subst ha'
      obtain ⟨z, hz, rfl⟩ := get_int hb
      rw [List.length_map] at hi1
      have hz2 := hall z (List.mem_of_getElem? hz)
      refine ⟨t, _, rfl, .of upd_same, rfl, _, _, rfl, _, _, rfl, rfl, ?_⟩
      refine ⟨.int (i : Nat), rfl, .int m, rfl, _, _, rfl, rfl, _, rfl, ?_⟩
      rw [decide_eq_false (show ¬ m ≤ ((i : Nat) : Int) by omega)]
      refine iteF ?_
      refine ⟨.int z, rfl, .int lo, rfl, .int hi, rfl, z, lo, hi, rfl, _, rfl, ?_⟩
      rw [in_lim hz2.1 hz2.2]
      exact iteF ⟨_, _, rfl, sm.trans (same_upd nt)⟩
    · rintro σ H1 ⟨y8, y9, rfl, sm⟩
      refine ⟨.ref v, rfl, v, _, rfl, .inr ((.inl (hv.same sm).rd)), .int f, rfl, _, _, rfl, rfl, _, rfl, ?_⟩
      rw [List.length_map, decide_eq_false (show ¬ (ns.length : Int) < f by omega)]
      exact iteF (q H1 sm)
/-! ### Ring.__init__ -/
def spInit (C : Addr) : Sp := fun vs H Q _ => ∃ (p dx td ts : Addr) (ds ss : List Int), vs = [.ref p, .ref td, .ref ts] ∧ H p = some (.ins C dx []) ∧ Tq H td (ds.map V.int) ∧ Tq H ts (ss.map V.int) ∧ Good ds ss ∧
  ∀ H', RingAt C H' p dx td ts ds ss → (∀ b o, H b = some o → b ≠ p → H' b = some o) → Q .non H'
theorem ok_init (T : Tx K mg) : FnOk P w K mg base CX0 4 T.a_rinit T.d_rinit P_rinit (spInit T.C) := by
  refine T.F_rinit.ok sc_rinit (fun vs H Q E h => ?_) (fun cdv A outer s H vs Q E hr h => ?_)
  · obtain ⟨p, dx, td, ts, ds, ss, rfl, _⟩ := h
    rfl
  · obtain ⟨p, dx, td, ts, ds, ss, rfl, hp, hd, hs, G, q⟩ := h
    obtain ⟨u1, c1⟩ := T.c_MOST_DAYS
    obtain ⟨u2, c2⟩ := T.c_FEWEST_READERS
    obtain ⟨u3, c3⟩ := T.c_MOST_READERS
    obtain ⟨u4, c4⟩ := T.c_MOST_BOOKS
    have l2 := G.l2
    have l8 := G.l8
    have ls := G.ls
    refine ⟨_, pss_cons (ps_expr (pe_call (ok_part T) hr (by rfl) T.g_check_part T.F_check_part.kp T.b_check_part .nil pass0 (pa_cons pe_str (pa_cons (pv 1) (pa_cons (pe_tup (pa_cons pe_int (pa_cons (pe_glob (v := .int 30) (by rfl) c1 ⟨_, rfl⟩) pa_nil))) (pa_cons (pe_tup (pa_cons (pe_glob (v := .int 2) (by rfl) c2 ⟨_, rfl⟩) (pa_cons (pe_glob (v := .int 8) (by rfl) c3 ⟨_, rfl⟩) pa_nil))) pa_nil))))))
      (pss_cons (ps_expr (pe_call (ok_part T) hr (by rfl) T.g_check_part T.F_check_part.kp T.b_check_part .nil pass0 (pa_cons pe_str (pa_cons (pv 2) (pa_cons (pe_tup (pa_cons pe_int (pa_cons (pe_glob (v := .int 12) (by rfl) c4 ⟨_, rfl⟩) pa_nil)))
        (pa_cons (pe_tup (pa_cons (pe_callB call_len_seq (by rfl) T.z_len PySem.boot_len (pa_cons (pv 1) pa_nil)) (pa_cons (pe_callB call_len_seq (by rfl) T.z_len PySem.boot_len (pa_cons (pv 1) pa_nil)) pa_nil))) pa_nil))))))
      (pss_cons (ps_if (pt_not (pt_chain op_le op_le pe_int (pe_callB (cr_sumT rfl) (by rfl) T.z_sum (by decide +kernel) (pa_cons (pv 2) pa_nil)) (pe_glob (v := .int 12) (by rfl) c4 ⟨_, rfl⟩))) (pss_one ps_never) pss_nil)
      (pss_cons (ps_fld (pv 0) (pe_callTy call_tupleT (by rfl) T.z_tuple (by decide +kernel) (pa_cons (pv 1) pa_nil)) rfl)
      (pss_one (ps_fld (pv 0) (pe_callTy call_tupleT (by rfl) T.z_tuple (by decide +kernel) (pa_cons (pv 2) pa_nil)) rfl))))), ?_⟩
    -- check_part("days", ..)
    refine ⟨.ref td, rfl, (by show 2 ≤ sizeLine; decide), fun a1 h1 => ⟨(by show 2 ≤ sizeLine; decide), fun a2 h2 => ?_⟩⟩
    have s1 := same_upd (o := .tup [.int 1, .int 30]) h1
    have s2 := same_upd (o := .tup [.int 2, .int 8]) h2
    refine ⟨_, td, a1, a2, ds, 1, 30, 2, 8, rfl, (hd.same s1).same s2, s2 _ _ upd_same, upd_same, G.d1, by omega, by omega, fun H1 s3 => ?_⟩
    have t1 : Same H H1 := (s1.trans s2).trans s3
    -- check_part("starts", ..)
    refine ⟨.ref ts, rfl, (by show 2 ≤ sizeLine; decide), fun a3 h3 => ?_⟩
    have s4 := same_upd (o := .tup [.int 0, .int 12]) h3
    refine ⟨.ref td, rfl, td, _, rfl, .inr (.inl (hd.same (t1.trans s4)).rd), .ref td, rfl, td, _, rfl, .inr (.inl (hd.same (t1.trans s4)).rd), (by show 2 ≤ sizeLine; decide), fun a4 h4 => ?_⟩
    have s5 := same_upd (o := .tup [.int ((ds.map V.int).length : Nat), .int ((ds.map V.int).length : Nat)]) h4
    refine ⟨_, ts, a3, a4, ss, 0, 12, ((ds.map V.int).length : Nat), ((ds.map V.int).length : Nat), rfl, ((hs.same t1).same s4).same s5, s5 _ _ upd_same, upd_same, G.s0, by rw [List.length_map]; omega, by rw [List.length_map]; omega, fun H2 s6 => ?_⟩
    have t2 : Same H H2 := ((t1.trans s4).trans s5).trans s6
    -- not 1 <= sum(starts) <= MOST_BOOKS
    refine ⟨.ref ts, rfl, ts, ss, rfl, .inl (hs.same t2).rd, _, _, rfl, rfl, _, rfl, ?_⟩
    rw [decide_eq_true G.b1]
    refine iteT ⟨_, _, rfl, rfl, _, rfl, ?_⟩
    rw [decide_eq_true G.b12]
    refine iteF ?_
    -- the two attributes
    refine ⟨.ref td, rfl, td, _, rfl, .inl (hd.same t2).rd, _, rfl, p, T.C, dx, [], rfl, t2 _ _ hp, T.cl, T.nD, (by show 0 < 1000; decide), ?_⟩
    have npt : ts ≠ p := hs.ne hp
    have npd : td ≠ p := hd.ne hp
    refine ⟨.ref ts, rfl, ts, ss.map V.int, rfl, .inl ((hs.same t2).put npt).rd, _, rfl, p, T.C, dx, _, rfl, upd_same, T.cl, T.nS, (by show 1 < 1000; decide), ?_⟩
    refine q _ ⟨upd_same, ((hd.same t2).put npd).put npd, ((hs.same t2).put npt).put npt, G⟩ fun b o e hb => ?_
    rw [upd_ne hb, upd_ne hb]
    exact t2 _ _ e
end
end Rp
namespace Rp
open PySem PySem.Spec PyProof.Rows L2 Rz Rm
section
variable {P : Program} {w : World} {K : PySem.W.Frag} {mg : Str → Option Value} {base : Heap}
def spSlow : Sp := fun vs H Q _ => ∃ (td : Addr) (ds : List Int) (b : Int), vs = [.ref td, .int b] ∧ Tq H td (ds.map V.int) ∧ Dys ds ∧ 0 ≤ b ∧ b < 2 ^ 64 ∧ Q (.bl (decide (ds.sum ≤ mx ds * b))) H
theorem ok_slow (T : Tx K mg) : FnOk P w K mg base CX0 1 T.a_slowest_decides T.d_slowest_decides P_slowest_decides spSlow := by
  refine T.F_slowest_decides.ok sc_slowest_decides (fun vs H Q E h => ?_) (fun cdv A outer s H vs Q E hr h => ?_)
  · obtain ⟨td, ds, b, rfl, _⟩ := h
    rfl
  · obtain ⟨td, ds, b, rfl, hd, D, b0, b1, q⟩ := h
    refine ⟨_, pss_one (ps_ret (pe_cmpR op_ge (pe_op op_mul (pe_callB (cr_maxT rfl) (by rfl) T.z_max (by decide +kernel) (pa_cons (pv 0) pa_nil)) (pv 1)) (pe_callB (cr_sumT rfl) (by rfl) T.z_sum (by decide +kernel) (pa_cons (pv 0) pa_nil)) (nomark _))), ?_⟩
    refine ⟨.ref td, rfl, td, ds, rfl, .inl hd.rd, D.ne, fun M hM hMu => ⟨.int b, rfl, M, b, rfl, rfl, .inr ⟨by omega, b1⟩, .ref td, rfl, td, ds, rfl, .inl hd.rd, _, _, rfl, rfl, ?_⟩⟩
    rw [mx_eq D hM hMu] at q
    exact q
def spRound : Sp := fun vs H Q _ => ∃ (td : Addr) (ds : List Int) (b : Int), vs = [.ref td, .int b] ∧ Tq H td (ds.map V.int) ∧ 1 ≤ b ∧ b ≤ 1000 ∧ ∀ H' t, Same H H' → H' t = some (.tup [.int (ds.sum / gq ds b), .int (b / gq ds b)]) → Q (.ref t) H'
theorem ok_round (T : Tx K mg) : FnOk P w K mg base CX0 1 T.a_round_pace T.d_round_pace P_round_pace spRound := by
  refine T.F_round_pace.ok sc_round_pace (fun vs H Q E h => ?_) (fun cdv A outer s H vs Q E hr h => ?_)
  · obtain ⟨td, ds, b, rfl, _⟩ := h
    rfl
  · obtain ⟨td, ds, b, rfl, hd, b1, b2, q⟩ := h
    have nd := sc_round_pace.nd
    refine ⟨_, pss_cons (ps_set (i := 2) nd rfl (.inl rfl) (pe_callBfun cr_gcd (by rfl) T.g_gcd (pa_cons (pe_callB (cr_sumT rfl) (by rfl) T.z_sum (by decide +kernel) (pa_cons (pv 0) pa_nil)) (pa_cons (pv 1) pa_nil))))
      (pss_one (ps_ret (pe_tup (pa_cons (pe_op op_fdiv (pe_callB (cr_sumT rfl) (by rfl) T.z_sum (by decide +kernel) (pa_cons (pv 0) pa_nil)) (pv 2)) (pa_cons (pe_op op_fdiv (pv 1) (pv 2)) pa_nil))))), ?_⟩
    refine ⟨.ref td, rfl, td, ds, rfl, .inl hd.rd, .int b, rfl, ds.sum, b, rfl, ?_⟩
    obtain ⟨g0, gle, _, _⟩ := gq_facts (ds := ds) b1
    unfold gq at g0 gle q
    generalize ((Nat.gcd ds.sum.natAbs b.natAbs : Nat) : Int) = g at g0 gle q ⊢
    refine ⟨.ref td, rfl, td, ds, rfl, .inl hd.rd, .int g, rfl, _, _, rfl, rfl, ⟨by omega, by omega⟩, .int b, rfl, .int g, rfl, _, _, rfl, rfl, ⟨by omega, by omega⟩, (by show 2 ≤ sizeLine; decide), fun t ht => ?_⟩
    exact q _ t (same_upd ht) upd_same
def spPace : Sp := fun vs H Q _ => ∃ (td : Addr) (ds : List Int) (b : Int), vs = [.ref td, .int b] ∧ Tq H td (ds.map V.int) ∧ Dys ds ∧ 1 ≤ b ∧ b ≤ 1000 ∧
  ∀ H' t, Same H H' → H' t = some (.tup [.int (pX ds b), .int (pY ds b)]) → Q (.ref t) H'
theorem ok_pace_of (T : Tx K mg) : FnOk P w K mg base CX0 2 T.a_pace_of T.d_pace_of P_pace_of spPace := by
  refine T.F_pace_of.ok sc_pace_of (fun vs H Q E h => ?_) (fun cdv A outer s H vs Q E hr h => ?_)
  · obtain ⟨td, ds, b, rfl, _⟩ := h
    rfl
  · obtain ⟨td, ds, b, rfl, hd, D, b1, b12, q⟩ := h
    have nd := sc_pace_of.nd
    refine ⟨_, pss_cons (ps_if (pt_val (pe_call (ok_slow T) hr (by rfl) T.g_slowest_decides T.F_slowest_decides.kp T.b_slowest_decides .nil pass0 (pa_cons (pv 0) (pa_cons (pv 1) pa_nil))))
        (pss_one (ps_ret (pe_tup (pa_cons (pe_callB (cr_maxT rfl) (by rfl) T.z_max (by decide +kernel) (pa_cons (pv 0) pa_nil)) (pa_cons pe_int pa_nil))))) pss_nil)
      (pss_one (ps_ret (pe_call (ok_round T) hr (by rfl) T.g_round_pace T.F_round_pace.kp T.b_round_pace .nil pass0 (pa_cons (pv 0) (pa_cons (pv 1) pa_nil))))), ?_⟩
    refine ⟨.ref td, rfl, .int b, rfl, td, ds, b, rfl, hd, D, by omega, by omega, _, rfl, ?_⟩
    by_cases hc : ds.sum ≤ mx ds * b
    · rw [decide_eq_true hc]
      refine iteT ?_
      refine ⟨.ref td, rfl, td, ds, rfl, .inl hd.rd, D.ne, fun M' hM' hMu' => ⟨(by show 2 ≤ sizeLine; decide), fun t ht => ?_⟩⟩
      refine q _ t (same_upd ht) ?_
      rw [upd_same, pX, pY, if_pos hc, if_pos hc, mx_eq D hM' hMu']
    · rw [decide_eq_false hc]
      refine iteF ?_
      refine ⟨.ref td, rfl, .int b, rfl, td, ds, b, rfl, hd, b1, b12, fun H' t s0 ht => q H' t s0 ?_⟩
      rw [ht, pX, pY, if_neg hc, if_neg hc]
def spRPace (C : Addr) : Sp := fun vs H Q _ => ∃ p dx td ts ds ss, vs = [.ref p] ∧ RingAt C H p dx td ts ds ss ∧ ∀ H' t, Same H H' → H' t = some (.tup [.int (pX ds ss.sum), .int (pY ds ss.sum)]) → Q (.ref t) H'
theorem ok_rpace (T : Tx K mg) : FnOk P w K mg base CX0 3 T.a_rpace T.d_rpace P_rpace (spRPace T.C) := by
  refine T.F_rpace.ok sc_rpace (fun vs H Q E h => ?_) (fun cdv A outer s H vs Q E hr h => ?_)
  · obtain ⟨p, dx, td, ts, ds, ss, rfl, _⟩ := h
    rfl
  · obtain ⟨p, dx, td, ts, ds, ss, rfl, R, q⟩ := h
    have b12 := R.ok.b12
    refine ⟨_, pss_one (ps_ret (pe_call (ok_pace_of T) hr (by rfl) T.g_pace_of T.F_pace_of.kp T.b_pace_of .nil pass0 (pa_cons (pe_fld (pv 0) rfl) (pa_cons (pe_callB (cr_sumT rfl) (by rfl) T.z_sum (by decide +kernel) (pa_cons (pe_fld (pv 0) rfl) pa_nil)) pa_nil)))), ?_⟩
    exact ⟨_, rfl, p, _, dx, _, _, rfl, R.ob, T.cl, T.nD, flds_days _ _, _, rfl, p, _, dx, _, _, rfl, R.ob, T.cl, T.nS, flds_starts _ _, ts, ss, rfl, .inl R.ts.rd, td, ds, ss.sum, rfl, R.td, R.ok.dys, R.ok.b1, by omega, q⟩
end
end Rp
namespace Rp
open PySem PySem.Spec PyProof.Rows L2 Rz Rm
theorem at_ix {ds : List Int} {z : Int} (h1 : -(ds.length : Int) ≤ z) (h2 : z < ds.length) : atI (ds.map V.int) z = some (.int (at' ds z)) := by
  have hl : 0 < ds.length := by omega
  have h0 := Int.emod_nonneg z (show (ds.length : Int) ≠ 0 by omega)
  have hlt := Int.emod_lt_of_pos z (show (0 : Int) < ds.length by omega)
  have e : ixN (ds.map V.int).length z = some (z % (ds.length : Int)).toNat := by
    unfold ixN
    rw [List.length_map]
    by_cases h : 0 ≤ z
    · rw [if_pos h, if_pos h2, Int.emod_eq_of_lt h h2]
    · rw [if_neg h, if_pos h1]
      have e2 := Int.add_mul_emod_self_left z (ds.length : Int) 1
      rw [Int.mul_one, Int.emod_eq_of_lt (a := z + ds.length) (by omega) (by omega)] at e2
      rw [e2]
  unfold atI
  rw [e]
  show (ds.map V.int)[(z % (ds.length : Int)).toNat]? = _
  rw [List.getElem?_map]
  unfold at'
  rw [List.getD_eq_getElem?_getD, List.getElem?_eq_getElem (show (z % (ds.length : Int)).toNat < ds.length by omega)]
  rfl
theorem Good.ring {ds ss : List Int} (G : Good ds ss) {M : Int} (hM : M ∈ ds) (hMu : ∀ y ∈ ds, y ≤ M) : Rm.Ring ds.length (at' ds) (at' ss) ss.sum ds.sum M :=
  ring_of (by have := G.l2; omega) G.ls (fun y h => (G.d1 y h).1) (fun y h => (G.s0 y h).1) G.b1 hM hMu
theorem exists_max : ∀ {ds : List Int}, ds ≠ [] → ∃ M, M ∈ ds ∧ ∀ y ∈ ds, y ≤ M
  | [], h => absurd rfl h
  | [a], _ => ⟨a, by simp, by simp⟩
  | a :: b :: r, _ => by
    obtain ⟨M, h1, h2⟩ := exists_max (ds := b :: r) (by simp)
    by_cases h : a ≤ M
    · exact ⟨M, List.mem_cons_of_mem _ h1, fun y hy => by
        rcases List.mem_cons.mp hy with e | e
        · omega
        · exact h2 y e⟩
    · exact ⟨a, List.mem_cons_self, fun y hy => by
        rcases List.mem_cons.mp hy with e | e
        · omega
        · have := h2 y e; omega⟩
theorem Good.max {ds ss : List Int} (G : Good ds ss) : ∃ M, M ∈ ds ∧ ∀ y ∈ ds, y ≤ M := exists_max (by
  intro e
  have := G.l2
  rw [e] at this
  simp at this)
theorem sum_bounds : ∀ {ds : List Int}, (∀ y ∈ ds, 1 ≤ y ∧ y ≤ 30) → (ds.length : Int) ≤ ds.sum ∧ ds.sum ≤ 30 * ds.length
  | [], _ => by simp
  | a :: r, h => by
    have h1 := h a List.mem_cons_self
    have ih := sum_bounds (ds := r) fun y hy => h y (List.mem_cons_of_mem _ hy)
    rw [List.sum_cons, List.length_cons]
    omega
theorem max_if (i j : Int) : (if j > i then j else i) = max i j := by
  by_cases h : j > i
  · rw [if_pos h]
    omega
  · rw [if_neg h]
    omega
end Rp
namespace Rp
open PySem PySem.Spec PyProof.Rows L2 Rz Rm
/-- readings and days of a repetition -/
def RepIs (T B M p q : Int) : Prop := (T ≤ M * B ∧ p = 1 ∧ q = M) ∨ (¬ T ≤ M * B ∧ p = B ∧ q = T)
theorem at_emod {ss : List Int} (i : Int) : at' ss (i % (ss.length : Int)) = at' ss i := by
  unfold at'
  rw [Int.emod_emod_of_dvd _ (Int.dvd_refl _)]
theorem emod_pred (z n : Int) : (z % n - 1) % n = (z - 1) % n := by
  have h := Int.emod_add_mul_ediv z n
  have e : z - 1 = (z % n - 1) + n * (z / n) := by omega
  rw [e, Int.add_mul_emod_self_left]
/-- the book of place q at reader r -/
def Bk (ss : List Int) (r q v : Int) : Prop := ∃ i : Nat, i < ss.length ∧ sumBack (at' ss) r i ≤ q ∧ q < sumBack (at' ss) r (i + 1) ∧ v = (ss.take ((r - i) % (ss.length : Int)).toNat).sum + (q - sumBack (at' ss) r i)
theorem Bk.inj {ss : List Int} (h0 : ∀ i, 0 ≤ at' ss i) {r q v v' : Int} (h : Bk ss r q v) (h' : Bk ss r q v') : v = v' := by
  obtain ⟨i, _, a1, a2, rfl⟩ := h
  obtain ⟨j, _, b1, b2, rfl⟩ := h'
  have e : i = j := by
    rcases Nat.lt_trichotomy i j with z | z | z
    · have := sum_mono h0 r (show i + 1 ≤ j by omega)
      omega
    · exact z
    · have := sum_mono h0 r (show j + 1 ≤ i by omega)
      omega
  rw [e]
section
variable {P : Program} {w : World} {K : PySem.W.Frag} {mg : Str → Option Value} {base : Heap}
/-! ### reader_before -/
def spBefore (C : Addr) : Sp := fun vs H Q _ => ∃ p dx td ts ds ss, ∃ r : Int, vs = [.ref p, .int r] ∧ RingAt C H p dx td ts ds ss ∧ Q (.int ((r - 1) % (ds.length : Int))) H
theorem ok_before (T : Tx K mg) : FnOk P w K mg base CX0 3 T.a_reader_before T.d_reader_before P_reader_before (spBefore T.C) := by
  refine T.F_reader_before.ok sc_reader_before (fun vs H Q E h => ?_) (fun cdv A outer s H vs Q E hr h => ?_)
  · obtain ⟨p, dx, td, ts, ds, ss, r, rfl, _⟩ := h
    rfl
  · obtain ⟨p, dx, td, ts, ds, ss, r, rfl, R, q⟩ := h
    have l2 := R.ok.l2
    have l8 := R.ok.l8
    refine ⟨_, pss_one (ps_ret (pe_op op_mod (pe_callTy call_int1 (by rfl) T.z_int (by decide +kernel) (pa_cons (pe_op op_sub (pv 1) pe_int) pa_nil))
      (pe_callB (call_lenI T.lenC T.lenF ((ok_len T).raw T.b_rlen .nil) hr pass0) (by rfl) T.z_len PySem.boot_len (pa_cons (pv 0) pa_nil)))), ?_⟩
    exact ⟨_, rfl, _, _, rfl, rfl, .inl ⟨_, rfl, _, rfl, p, dx, _, rfl, R.ob, p, dx, td, ts, ds, ss, rfl, R, _, rfl, by omega, by omega, _, _, rfl, rfl, by show (0 : Int) < ds.length; omega, q⟩⟩
end
end Rp
namespace Rp
open PySem PySem.Spec PyProof.Rows L2 Rz Rm
theorem cut_front {xs : List V} {r : Int} (h0 : 0 ≤ r) (h1 : r < xs.length) : cutV xs none (some r) = xs.take r.toNat ∧ ¬ (HT.sIx xs.length 0 none = 0 ∧ HT.sIx xs.length xs.length (some r) = xs.length) := by
  have e : r = ((r.toNat : Nat) : Int) := by omega
  have e1 : HT.sIx xs.length xs.length (some r) = r.toNat := by
    rw [e, HT.sIx_nat]
    omega
  constructor
  · unfold cutV
    rw [HT.sIx_none, e1]
    simp
  · rw [e1]
    omega
theorem sum_le_zero : ∀ {l : List Int}, (∀ y ∈ l, y ≤ 0) → l.sum ≤ 0
  | [], _ => by simp
  | a :: r, h => by
    have h1 := h a List.mem_cons_self
    have ih := sum_le_zero (l := r) fun y hy => h y (List.mem_cons_of_mem _ hy)
    rw [List.sum_cons]
    omega
section
variable {N : Nat} {d s : Int → Int} {B T M : Int} (R : Rm.Ring N d s B T M)
include R
theorem _root_.Rm.Ring.rep_big {p q x : Int} (h : RepIs T B M p q) (hx : 4 * B + B * M ≤ x) : Rep d s p q x := by
  rw [RepIs, Int.mul_comm M B] at h
  rcases h with ⟨h1, rfl, rfl⟩ | ⟨h1, rfl, rfl⟩
  · exact R.rep_slow h1 hx
  · exact R.rep_fast (by omega) hx
theorem _root_.Rm.Ring.p1 {p q : Int} (h : RepIs T B M p q) : 1 ≤ p := by
  have := R.b1
  rcases h with ⟨_, rfl, _⟩ | ⟨_, rfl, _⟩ <;> omega
end
end Rp
namespace Rp
open PySem PySem.Spec PyProof.Rows L2 Rz Rm
/-! ### the drawn row -/
/-- all that was tracked but the row is as it was -/
def Kp (row : Addr) (H H' : Hp) : Prop := ∀ b o, H b = some o → b ≠ row → H' b = some o
theorem Kp.refl (row : Addr) (H : Hp) : Kp row H H := fun _ _ h _ => h
theorem Kp.trans {row : Addr} {H H1 H2 : Hp} (a : Kp row H H1) (b : Kp row H1 H2) : Kp row H H2 := fun c o h n => b c o (a c o h n) n
theorem Same.kp {row : Addr} {H H' : Hp} (s : Same H H') : Kp row H H' := fun b o h _ => s b o h
/-- the script stands in the written part -/
def Wr (K : PySem.W.Frag) (a : Addr) (xs : List V) : Prop := ∃ (o : Obj) (its : Array Value) (n : Nat), K.lookup a = some o ∧ o.cls = .type "list" ∧ o.dict = none ∧ o.data = .seq its n ∧ its.size ≤ sizeLine ∧ Vals xs its.toList
theorem far_of {K : PySem.W.Frag} {H : Hp} {D a : Addr} {xs : List V} (h : SqL K H a xs) (hD : H D = none) : D ≠ a ∨ Wr K a xs := by
  rcases h with (h | ⟨o, h⟩) | h
  · exact .inl fun e => by rw [e, h] at hD; cases hD
  · exact .inl fun e => by rw [e, h] at hD; cases hD
  · exact .inr h
theorem sq_upd {K : PySem.W.Frag} {H : Hp} {D a : Addr} {xs : List V} {o : HO} (h : SqL K H a xs) (f : D ≠ a ∨ Wr K a xs) : SqL K (upd H D o) a xs := by
  rcases f with f | f
  · rcases h with (h | ⟨u, h⟩) | h
    · exact .inl (.inl (by rw [upd_ne f.symm]; exact h))
    · exact .inl (.inr ⟨u, by rw [upd_ne f.symm]; exact h⟩)
    · exact .inr h
  · exact .inr f
structure RowAt (K : PySem.W.Frag) (H : Hp) (row a : Addr) (ns : List Int) : Prop where
  ob : ∃ i m q : Int, H row = some (.lst [.ref a, .int i, .int m, .int q]) ∧ 0 ≤ i
  sc : SqL K H a (ns.map V.int)
  ne : row ≠ a ∨ Wr K a (ns.map V.int)
theorem RowAt.same {K : PySem.W.Frag} {H H' : Hp} {row a : Addr} {ns : List Int} (R : RowAt K H row a ns) (s : Same H H') : RowAt K H' row a ns := by
  obtain ⟨i, m, q, h, h0⟩ := R.ob
  exact ⟨⟨i, m, q, s _ _ h, h0⟩, s.seq R.sc, R.ne⟩
theorem kp_upd {row : Addr} {H : Hp} {o : HO} : Kp row H (upd H row o) := fun b z h n => by
  rw [upd_ne n]
  exact h
/-- the row is written -/
theorem RowAt.put {K : PySem.W.Frag} {H : Hp} {row a : Addr} {ns : List Int} (R : RowAt K H row a ns) {i m q : Int} (h : 0 ≤ i) : RowAt K (upd H row (.lst [.ref a, .int i, .int m, .int q])) row a ns :=
  ⟨⟨i, m, q, upd_same, h⟩, sq_upd R.sc R.ne, R.ne⟩
theorem first_ix : ∀ {l : List Int} {m : Int}, m ∈ l → ∃ j : Nat, l[j]? = some m ∧ ∀ k z, k < j → l[k]? = some z → z ≠ m
  | a :: r, m, h => by
    by_cases e : a = m
    · exact ⟨0, by simp [e], fun k z hk => absurd hk (Nat.not_lt_zero _)⟩
    · obtain ⟨j, h1, h2⟩ := first_ix (l := r) (m := m) (by
        rcases List.mem_cons.mp h with q | q
        · exact absurd q.symm e
        · exact q)
      refine ⟨j + 1, by simpa using h1, fun k z hk hz => ?_⟩
      cases k with
      | zero =>
        simp at hz
        rw [← hz]
        exact e
      | succ k => exact h2 k z (by omega) (by simpa using hz)
theorem mem_le_sum : ∀ {l : List Int}, (∀ y ∈ l, 0 ≤ y) → ∀ x ∈ l, x ≤ l.sum
  | a :: r, h, x, hx => by
    have ha := h a List.mem_cons_self
    have hr : ∀ y ∈ r, 0 ≤ y := fun y hy => h y (List.mem_cons_of_mem _ hy)
    have hs : 0 ≤ r.sum := sum_nonneg' hr
    rw [List.sum_cons]
    rcases List.mem_cons.mp hx with e | e
    · omega
    · have := mem_le_sum hr x e
      omega
where sum_nonneg' : ∀ {l : List Int}, (∀ y ∈ l, 0 ≤ y) → 0 ≤ l.sum
  | [], _ => by simp
  | a :: r, h => by
    have h1 := h a List.mem_cons_self
    have h2 := sum_nonneg' (l := r) fun y hy => h y (List.mem_cons_of_mem _ hy)
    rw [List.sum_cons]
    omega
theorem mem_set {l : List Int} {j : Nat} {v y : Int} (h : y ∈ l.set j v) : y ∈ l ∨ y = v := List.mem_or_eq_of_mem_set h
theorem flat_ints (l : List Int) : (l.map V.int).all flatV = true := by
  rw [List.all_eq_true]
  intro x hx
  obtain ⟨i, _, rfl⟩ := List.mem_map.mp hx
  rfl
theorem lc_keep {σ : L2.St} {H : Hp} {F G : Hp → Prop} (h : F H) : tYes σ H (fun b H3 => if b = true then F H3 else G H3) := by
  show if true = true then F H else G H
  rw [if_pos rfl]
  exact h
theorem map_snoc (l : List Int) (v : Int) : l.map V.int ++ [V.int v] = (l ++ [v]).map V.int := by
  rw [List.map_append]
  rfl
theorem RowAt.upd' {K : PySem.W.Frag} {H : Hp} {D row a : Addr} {ns : List Int} {o : HO} (R : RowAt K H row a ns) (n : D ≠ row) (f : D ≠ a ∨ Wr K a (ns.map V.int)) : RowAt K (upd H D o) row a ns := by
  obtain ⟨i, m, q, h, h0⟩ := R.ob
  exact ⟨⟨i, m, q, by rw [upd_ne n.symm]; exact h, h0⟩, sq_upd R.sc f, R.ne⟩
theorem RowAt.nn {K : PySem.W.Frag} {H : Hp} {D row a : Addr} {ns : List Int} (R : RowAt K H row a ns) (h : H D = none) : D ≠ row := fun e => by
  obtain ⟨i, m, q, h2, _⟩ := R.ob
  rw [e, h2] at h
  cases h
theorem kp_new {row D : Addr} {H0 H : Hp} {o : HO} (k : Kp row H0 H) (h : H0 D = none) : Kp row H0 (upd H D o) := fun b z e n => by
  rw [upd_ne (ne_of_none e h)]
  exact k b z e n
end Rp
namespace Rp
open PySem PySem.Spec PyProof.Rows L2 Rz Rm
section
variable {P : Program} {w : World} {K : PySem.W.Frag} {mg : Str → Option Value} {base : Heap}
def spTaken (K : PySem.W.Frag) : Sp := fun vs H Q _ => ∃ (row a : Addr) (ns : List Int) (many : Int), vs = [.ref row, .int many] ∧ RowAt K H row a ns ∧ 1 ≤ many ∧ many < 1073741824 ∧
  ∀ v H', 0 ≤ v → v < many → RowAt K H' row a ns → Kp row H H' → Q (.int v) H'
theorem ok_taken (T : Tx K mg) : FnOk P w K mg base CX0 1 T.a_ltaken T.d_ltaken P_ltaken (spTaken K) := by
  refine T.F_ltaken.ok sc_ltaken (fun vs H Q E h => ?_) (fun cdv A outer s H vs Q E hr h => ?_)
  · obtain ⟨row, a, ns, many, rfl, _⟩ := h
    rfl
  · obtain ⟨row, a, ns, many, rfl, RA, m1, m2, q⟩ := h
    obtain ⟨i, m, c, hrow, i0⟩ := RA.ob
    have nd := sc_ltaken.nd
    refine ⟨_, pss_cons (ps_if (pt_cmpR op_gt (pe_ix ix_list (pv 0) pe_int (fun _ _ => rfl)) pe_int (nomark _))
        (pss_cons (ps_set (i := 2) nd rfl (.inl rfl) (pe_op op_mod (pe_callTy call_int1 (by rfl) T.z_int (by decide +kernel) (pa_cons (pe_ix ix_list (pv 0) pe_int (fun _ _ => rfl)) pa_nil)) (pv 1)))
        (pss_cons (ps_asg (pe_op op_fdiv (pe_ix ix_list (pv 0) pe_int (fun _ _ => rfl)) (pv 1)) (pg_sub (pv 0) pe_int set_list))
        (pss_one (ps_ret (pv 2))))) pss_nil)
      (pss_cons (ps_asg (pe_op op_add (pe_ix ix_list (pv 0) pe_int (fun _ _ => rfl)) pe_int) (pg_sub (pv 0) pe_int set_list))
      (pss_cons (ps_if (pt_cmpR op_gt (pe_ix ix_list (pv 0) pe_int (fun _ _ => rfl)) (pe_callB call_len_seq (by rfl) T.z_len PySem.boot_len (pa_cons (pe_ix ix_list (pv 0) pe_int (fun _ _ => rfl)) pa_nil)) (nomark _))
        (pss_cons (ps_asg (pe_op op_mod (pe_callTy call_int1 (by rfl) T.z_int (by decide +kernel) (pa_cons (pe_op op_add (pe_op op_mul (pe_ix ix_list (pv 0) pe_int (fun _ _ => rfl)) pe_int) pe_int) pa_nil)) pe_int) (pg_sub (pv 0) pe_int set_list))
        (pss_one (ps_ret (pe_op op_mod (pe_callTy call_int1 (by rfl) T.z_int (by decide +kernel) (pa_cons (pe_op op_fdiv (pe_ix ix_list (pv 0) pe_int (fun _ _ => rfl)) pe_int) pa_nil)) (pv 1))))) pss_nil)
      (pss_cons (ps_set (i := 3) nd rfl (.inl rfl) (pe_ix ix_list (pe_ix ix_list (pv 0) pe_int (fun _ _ => rfl)) (pe_op op_sub (pe_ix ix_list (pv 0) pe_int (fun _ _ => rfl)) pe_int) (fun _ _ => rfl)))
      (pss_cons (ps_asg (pe_op op_mod (pe_callTy call_int1 (by rfl) T.z_int (by decide +kernel) (pa_cons (pe_op op_add (pe_op op_add (pe_op op_mul (pe_ix ix_list (pv 0) pe_int (fun _ _ => rfl)) pe_int) (pv 3)) pe_int) pa_nil)) pe_int) (pg_sub (pv 0) pe_int set_list))
      (pss_cons (ps_asg (pe_ifExp (pt_cmpR op_ge (pv 3) (pe_op op_pow pe_int pe_int) (nomark _)) (pe_op op_fdiv (pv 3) (pv 1)) pe_int) (pg_sub (pv 0) pe_int set_list))
      (pss_one (ps_ret (pe_op op_mod (pe_callTy call_int1 (by rfl) T.z_int (by decide +kernel) (pa_cons (pv 3) pa_nil)) (pv 1))))))))), ?_⟩
    have mod0 : ∀ z : Int, 0 ≤ z % many := fun z => Int.emod_nonneg _ (by omega)
    have mod1 : ∀ z : Int, z % many < many := fun z => Int.emod_lt_of_pos _ (by omega)
    -- if row[3] > 0
    refine ⟨_, rfl, row, _, 3, _, rfl, rfl, .of hrow, atI_nat (j := 3) rfl, _, _, rfl, rfl, _, rfl, ?_⟩
    by_cases hc : 0 < c
    · rw [decide_eq_true hc]
      refine iteT ?_
      refine ⟨_, rfl, row, _, 3, _, rfl, rfl, .of hrow, atI_nat (j := 3) rfl, .inl ⟨_, rfl, _, rfl, _, _, rfl, rfl, by show (0 : Int) < many; omega, ?_⟩⟩
      refine ⟨_, rfl, row, _, 3, _, rfl, rfl, .of hrow, atI_nat (j := 3) rfl, _, rfl, _, _, rfl, rfl, ⟨by omega, by omega⟩, ?_⟩
      refine ⟨_, rfl, row, _, 3, 3, rfl, rfl, hrow, rfl, ?_⟩
      exact ⟨_, rfl, q _ _ (mod0 c) (mod1 c) (RA.put i0) kp_upd⟩
    · rw [decide_eq_false hc]
      refine iteF ?_
      -- row[1] = row[1] + 1
      refine ⟨_, rfl, row, _, 1, _, rfl, rfl, .of hrow, atI_nat (j := 1) rfl, _, _, rfl, rfl, ?_⟩
      refine ⟨_, rfl, row, _, 1, 1, rfl, rfl, hrow, rfl, ?_⟩
      have RA1 : RowAt K (upd H row (.lst [.ref a, .int (i + 1), .int m, .int c])) row a ns := RA.put (by omega)
      have hrow1 : (upd H row (.lst [.ref a, .int (i + 1), .int m, .int c])) row = some (.lst [.ref a, .int (i + 1), .int m, .int c]) := upd_same
      have kp1 : Kp row H (upd H row (.lst [.ref a, .int (i + 1), .int m, .int c])) := kp_upd
      show tSeq _ _ _ _ (upd H row (.lst [.ref a, .int (i + 1), .int m, .int c]))
      generalize (upd H row (.lst [.ref a, .int (i + 1), .int m, .int c])) = H1 at RA1 hrow1 kp1
      -- if row[1] > len(row[0])
      refine ⟨_, rfl, row, _, 1, _, rfl, rfl, .of hrow1, atI_nat (j := 1) rfl, _, rfl, row, _, 0, _, rfl, rfl, .of hrow1, atI_nat (j := 0) rfl, a, _, rfl, .inl RA1.sc, _, _, rfl, rfl, _, rfl, ?_⟩
      rw [List.length_map]
      by_cases hl : (ns.length : Int) < i + 1
      · rw [decide_eq_true hl]
        refine iteT ?_
        refine ⟨_, rfl, row, _, 2, _, rfl, rfl, .of hrow1, atI_nat (j := 2) rfl, _, _, rfl, rfl, .inr ⟨by decide, by decide⟩, _, _, rfl, rfl, .inl ⟨_, rfl, _, _, rfl, rfl, (by show (0 : Int) < 2147483647; decide), ?_⟩⟩
        refine ⟨_, rfl, row, _, 2, 2, rfl, rfl, hrow1, rfl, ?_⟩
        refine ⟨_, rfl, row, _, 2, _, rfl, rfl, .of upd_same, atI_nat (j := 2) rfl, _, _, rfl, rfl, ⟨by decide, by decide⟩, .inl ⟨_, rfl, _, rfl, _, _, rfl, rfl, by show (0 : Int) < many; omega, ?_⟩⟩
        exact q _ _ (mod0 _) (mod1 _) (RA1.put (by omega)) (kp1.trans kp_upd)
      · rw [decide_eq_false hl]
        refine iteF ?_
        have hi : i.toNat < ns.length := by omega
        have hg : atI (ns.map V.int) (i + 1 - 1) = some (.int ns[i.toNat]) := by
          refine at_of (j := i.toNat) (by omega) ?_
          rw [List.getElem?_map, List.getElem?_eq_getElem hi]
          rfl
        refine ⟨_, rfl, row, _, 0, _, rfl, rfl, .of hrow1, atI_nat (j := 0) rfl, _, rfl, row, _, 1, _, rfl, rfl, .of hrow1, atI_nat (j := 1) rfl, _, _, rfl, rfl, a, _, _, _, rfl, rfl, RA1.sc, hg, ?_⟩
        generalize ns[i.toNat] = cell
        -- row[2] = ..
        refine ⟨_, rfl, row, _, 2, _, rfl, rfl, .of hrow1, atI_nat (j := 2) rfl, _, _, rfl, rfl, .inr ⟨by decide, by decide⟩, _, rfl, _, _, rfl, rfl, _, _, rfl, rfl, .inl ⟨_, rfl, _, _, rfl, rfl, (by show (0 : Int) < 2147483647; decide), ?_⟩⟩
        refine ⟨_, rfl, row, _, 2, 2, rfl, rfl, hrow1, rfl, ?_⟩
        -- row[3] = ..
        refine ⟨_, rfl, _, _, rfl, rfl, ⟨by decide, by decide, by decide⟩, _, _, rfl, rfl, _, rfl, ?_⟩
        refine ite2 (fun _ => ?_) (fun _ => ?_)
        · refine ⟨_, rfl, _, rfl, _, _, rfl, rfl, ⟨by omega, by omega⟩, ?_⟩
          refine ⟨_, rfl, row, _, 3, 3, rfl, rfl, upd_same, rfl, ?_⟩
          refine ⟨_, rfl, .inl ⟨_, rfl, _, rfl, _, _, rfl, rfl, by show (0 : Int) < many; omega, ?_⟩⟩
          rw [upd_upd]
          exact q _ _ (mod0 _) (mod1 _) (RA1.put (by omega)) (kp1.trans kp_upd)
        · refine ⟨_, rfl, row, _, 3, 3, rfl, rfl, upd_same, rfl, ?_⟩
          refine ⟨_, rfl, .inl ⟨_, rfl, _, rfl, _, _, rfl, rfl, by show (0 : Int) < many; omega, ?_⟩⟩
          rw [upd_upd]
          exact q _ _ (mod0 _) (mod1 _) (RA1.put (by omega)) (kp1.trans kp_upd)
end
section
variable {P : Program} {w : World} {K : PySem.W.Frag} {mg : Str → Option Value} {base : Heap}
/-- two new tuples that make a ring -/
def spParts (K : PySem.W.Frag) : Sp := fun vs H Q _ => ∃ (row a : Addr) (ns : List Int) (most : Int), vs = [.ref row, .int most] ∧ RowAt K H row a ns ∧ 2 ≤ most ∧ most ≤ 8 ∧
  ∀ H' t td ts ds ss, Good ds ss → RowAt K H' row a ns → Kp row H H' → H' t = some (.tup [.ref td, .ref ts]) → Tf H' td (ds.map V.int) → Tf H' ts (ss.map V.int) → Q (.ref t) H'
/-- what a list being made holds -/
def Acc (K : PySem.W.Frag) (H0 : Hp) (row a D : Addr) (ns : List Int) (lo hi : Int) (i : Nat) (H : Hp) : Prop :=
  ∃ acc : List Int, acc.length = i ∧ (∀ y ∈ acc, lo ≤ y ∧ y ≤ hi) ∧ H D = some (.lst (acc.map V.int)) ∧ RowAt K H row a ns ∧ Kp row H0 H
theorem acc_next {H0 H H' : Hp} {row a D : Addr} {ns : List Int} {lo hi v : Int} {i : Nat} (hD : H0 D = none) (nD : D ≠ row) (f : D ≠ a ∨ Wr K a (ns.map V.int)) {acc : List Int} (hlen : acc.length = i) (hall : ∀ y ∈ acc, lo ≤ y ∧ y ≤ hi)
    (hacc : H D = some (.lst (acc.map V.int))) (k : Kp row H0 H) (RA : RowAt K H' row a ns) (k' : Kp row H H') (v0 : lo ≤ v) (v1 : v ≤ hi) : Acc K H0 row a D ns lo hi (i + 1) (upd H' D (.lst (acc.map V.int ++ [V.int v]))) := by
  refine ⟨acc ++ [v], by rw [List.length_append, hlen]; rfl, fun y hy => ?_, by rw [upd_same, map_snoc], RA.upd' nD f, kp_new (k.trans k') hD⟩
  rcases List.mem_append.mp hy with z | z
  · exact hall y z
  · have := List.mem_singleton.mp z
    omega
theorem ok_parts (T : Tx K mg) : FnOk P w K mg base CX0 2 T.a_lparts T.d_lparts P_lparts (spParts K) := by
  refine T.F_lparts.ok sc_lparts (fun vs H Q E h => ?_) (fun cdv A outer s H vs Q E hr h => ?_)
  · obtain ⟨row, a, ns, most, rfl, _⟩ := h
    rfl
  · obtain ⟨row, a, ns, most, rfl, RA, m2, m8, q⟩ := h
    have nd := sc_lparts.nd
    refine ⟨_, pss_cons (ps_asg (pe_tup (pa_cons (pe_op op_add pe_int (pe_call (ok_taken T) hr (by rfl) T.g_ltaken T.F_ltaken.kp T.b_ltaken .nil pass0 (pa_cons (pv 0) (pa_cons (pe_op op_sub (pv 1) pe_int) pa_nil))))
        (pa_cons (pe_ix ix_list (pe_lst (pa_cons pe_int (pa_cons pe_int (pa_cons pe_int pa_nil)))) (pe_call (ok_taken T) hr (by rfl) T.g_ltaken T.F_ltaken.kp T.b_ltaken .nil pass0 (pa_cons (pv 0) (pa_cons pe_int pa_nil))) (fun _ _ => rfl)) pa_nil)))
        (pg_tup rfl (pgs_cons (pg_name (i := 2) nd rfl (.inl rfl)) (pgs_cons (pg_name (i := 3) nd rfl (.inr rfl)) pgs_nil))))
      (pss_cons (ps_setLc (i := 4) (own := [("_law_k", 6)]) rfl nd rfl rfl (sw_true rfl rfl rfl (by decide +kernel)) (pi_range1 (by rfl) T.z_range (pa_cons (pv 2) pa_nil)) (blkOk_by (N := N_lparts) (sc := defScope s_lparts) (by decide +kernel))
        (fun _ _ _ _ _ => pg_name (i := 6) nd rfl (.inl rfl)) (fun _ _ _ _ _ => pts_nil)
        (fun _ _ _ _ _ => pe_op op_add pe_int (pe_call (ok_taken T) hr (by rfl) T.g_ltaken T.F_ltaken.kp T.b_ltaken .nil pass0 (pa_cons (pv 0) (pa_cons (pv 3) pa_nil)))))
      (pss_cons (ps_setLc (i := 5) (own := [("_law_k", 6)]) rfl nd rfl rfl (sw_true rfl rfl rfl (by decide +kernel)) (pi_range1 (by rfl) T.z_range (pa_cons (pv 2) pa_nil)) (blkOk_by (N := N_lparts) (sc := defScope s_lparts) (by decide +kernel))
        (fun _ _ _ _ _ => pg_name (i := 6) nd rfl (.inl rfl)) (fun _ _ _ _ _ => pts_nil)
        (fun _ _ _ _ _ => pe_call (ok_taken T) hr (by rfl) T.g_ltaken T.F_ltaken.kp T.b_ltaken .nil pass0 (pa_cons (pv 0) (pa_cons pe_int pa_nil))))
      (pss_cons (ps_if (pt_cmpR op_eq (pe_callB (cr_sum rfl) (by rfl) T.z_sum (by decide +kernel) (pa_cons (pv 5) pa_nil)) pe_int (nomark _))
        (pss_one (ps_asg (pe_op op_add pe_int (pe_call (ok_taken T) hr (by rfl) T.g_ltaken T.F_ltaken.kp T.b_ltaken .nil pass0 (pa_cons (pv 0) (pa_cons pe_int pa_nil))))
          (pg_sub (pv 5) (pe_call (ok_taken T) hr (by rfl) T.g_ltaken T.F_ltaken.kp T.b_ltaken .nil pass0 (pa_cons (pv 0) (pa_cons (pv 2) pa_nil))) set_list))) pss_nil)
      (pss_cons (ps_while PassesOwn.never (pt_cmpR op_gt (pe_callB (cr_sum rfl) (by rfl) T.z_sum (by decide +kernel) (pa_cons (pv 5) pa_nil)) pe_int (nomark _))
        (pss_one (ps_asg (pe_op op_sub (pe_callB (cr_max rfl) (by rfl) T.z_max (by decide +kernel) (pa_cons (pv 5) pa_nil)) pe_int)
          (pg_sub (pv 5) (pe_bm PySem.F.plainAttrs_list PySem.F.slot_list_index PySem.F.type_list_index mt_index (pv 5) (pa_cons (pe_callB (cr_max rfl) (by rfl) T.z_max (by decide +kernel) (pa_cons (pv 5) pa_nil)) pa_nil)) set_list))))
      (pss_one (ps_ret (pe_tup (pa_cons (pe_callTy call_tuple_frz (by rfl) T.z_tuple (by decide +kernel) (pa_cons (pv 4) pa_nil)) (pa_cons (pe_callTy call_tuple_frz (by rfl) T.z_tuple (by decide +kernel) (pa_cons (pv 5) pa_nil)) pa_nil))))))))), ?_⟩
    -- size, far
    refine ⟨_, rfl, _, rfl, _, _, rfl, rfl, row, a, ns, _, rfl, RA, by omega, by omega, fun v1 H1 v10 v11 RA1 k1 => ?_⟩
    refine ⟨_, _, rfl, rfl, (by show 3 ≤ sizeLine; decide), fun l3 hl3 => ?_⟩
    have s1 : Same H1 (upd H1 l3 (.lst [.int 3, .int 9, .int 30])) := same_upd hl3
    have RA1' := RA1.same s1
    obtain ⟨_, _, _, hrw1, _⟩ := RA1.ob
    have nl3 : l3 ≠ row := fun e => by rw [e, hrw1] at hl3; cases hl3
    refine ⟨_, rfl, row, a, ns, _, rfl, RA1', by decide, by decide, fun v2 H2 v20 v21 RA2 k2 => ?_⟩
    have hl3' : H2 l3 = some (.lst [.int 3, .int 9, .int 30]) := k2 _ _ upd_same nl3
    obtain ⟨far, hfar, f1, f30⟩ : ∃ far : Int, atI [V.int 3, V.int 9, V.int 30] v2 = some (.int far) ∧ 1 ≤ far ∧ far ≤ 30 := by
      have : v2 = 0 ∨ v2 = 1 ∨ v2 = 2 := by omega
      rcases this with rfl | rfl | rfl
      · exact ⟨3, rfl, by omega, by omega⟩
      · exact ⟨9, rfl, by omega, by omega⟩
      · exact ⟨30, rfl, by omega, by omega⟩
    refine ⟨l3, _, v2, _, rfl, rfl, .of hl3', hfar, (by show 2 ≤ sizeLine; decide), fun t0 ht0 => ?_⟩
    have s2 : Same H2 (upd H2 t0 (.tup [.int (2 + v1), .int far])) := same_upd ht0
    refine ⟨t0, _, rfl, .of upd_same, rfl, _, _, rfl, _, _, rfl, rfl, ?_⟩
    have RA3 := RA2.same s2
    have k3 : Kp row H (upd H2 t0 (.tup [.int (2 + v1), .int far])) := ((k1.trans (Same.kp s1)).trans k2).trans (Same.kp s2)
    show tSeq _ _ _ _ (upd H2 t0 (.tup [.int (2 + v1), .int far]))
    generalize (upd H2 t0 (.tup [.int (2 + v1), .int far])) = H3 at RA3 k3
    -- days
    refine ⟨_, rfl, _, rfl, by omega, by omega, fun D hD => lc_range (lo := 0) (n := (2 + v1).toNat) (Acc K H3 row a D ns 1 30) ?_ ?_ ?_⟩
    · exact ⟨[], rfl, fun y hy => absurd hy (by simp), upd_same, RA3.same (same_upd hD), Same.kp (same_upd hD)⟩
    · rintro i H4 hi ⟨acc, hlen, hall, hacc, RA4, k4⟩
      have nD := RA3.nn hD
      refine ⟨rfl, lc_keep ?_⟩
      refine ⟨_, rfl, _, rfl, row, a, ns, _, rfl, RA4, f1, by omega, fun v H5 v0 v1' RA5 k5 => ?_⟩
      exact ⟨_, _, rfl, rfl, acc.map V.int, k5 _ _ hacc nD, by rw [List.length_map]; exact small1000 (by omega), acc_next hD nD (far_of RA3.sc hD) hlen hall hacc k4 RA5 k5 (by omega) (by omega)⟩
    rintro H4 ⟨ds, dlen, dall, hds, RA4, k4⟩
    have nD := RA3.nn hD
    have k04 := k3.trans k4
    -- starts
    refine ⟨_, rfl, _, rfl, by omega, by omega, fun D2 hD2 => lc_range (lo := 0) (n := (2 + v1).toNat) (Acc K H4 row a D2 ns 0 2) ?_ ?_ ?_⟩
    · exact ⟨[], rfl, fun y hy => absurd hy (by simp), upd_same, RA4.same (same_upd hD2), Same.kp (same_upd hD2)⟩
    · rintro i H5 hi ⟨acc, hlen, hall, hacc, RA5, k5⟩
      have nD2 := RA4.nn hD2
      refine ⟨rfl, lc_keep ?_⟩
      refine ⟨_, rfl, row, a, ns, _, rfl, RA5, by decide, by decide, fun v H6 v0 v1' RA6 k6 => ?_⟩
      exact ⟨acc.map V.int, k6 _ _ hacc nD2, by rw [List.length_map]; exact small1000 (by omega), acc_next hD2 nD2 (far_of RA4.sc hD2) hlen hall hacc k5 RA6 k6 (by omega) (by omega)⟩
    rintro H5 ⟨ss0, slen0, sall0, hss0, RA5, k5⟩
    have nD2 := RA4.nn hD2
    have nDD : D ≠ D2 := ne_of_none hds hD2
    have fD2 := far_of RA4.sc hD2
    have hds5 : H5 D = some (.lst (ds.map V.int)) := k5 _ _ hds nD
    have k05 := k04.trans k5
    have hD20 : ∀ b o, H b = some o → b ≠ row → b ≠ D2 := fun b o e n => ne_of_none (k04 b o e n) hD2
    -- the loop that makes the books few
    have loop : ∀ (ss : List Int) (H6 : Hp), ss.length = (2 + v1).toNat → (∀ y ∈ ss, 0 ≤ y ∧ y ≤ 12) → 1 ≤ ss.sum → H6 D2 = some (.lst (ss.map V.int)) → H6 D = some (.lst (ds.map V.int)) → RowAt K H6 row a ns → Kp row H H6 →
        tSeq (tWhile (tTest (tOp (rI0 fun i j => .bl (decide (j < i))) (tCB (rSum K) (tCons (tVar 5) tNil)) (tC (.int 12))))
          (tAsg (tOp (rI0 fun i j => .int (i - j)) (tCB (rMax K) (tCons (tVar 5) tNil)) (tC (.int 1))) (gSub (tVar 5) (tBM K "list" (rIndex K) (tVar 5) (tCons (tCB (rMax K) (tCons (tVar 5) tNil)) tNil)) rSetL)))
          (tRet (tTup (tCons (tCB (rTupF K) (tCons (tVar 4) tNil)) (tCons (tCB (rTupF K) (tCons (tVar 5) tNil)) tNil))))
          { nx := fun _ H' => Q .non H', rt := Q } [some (.ref row), some (.int most), some (.int (2 + v1)), some (.int far), some (.ref D), some (.ref D2), none] H6 := by
      intro ss H6 slen sall ssum hss hdd RA6 k6
      refine ⟨fun m σ H' => σ = [some (.ref row), some (.int most), some (.int (2 + v1)), some (.int far), some (.ref D), some (.ref D2), none] ∧ ∃ ss : List Int, m = ss.sum.toNat ∧ ss.length = (2 + v1).toNat ∧ (∀ y ∈ ss, 0 ≤ y ∧ y ≤ 12) ∧ 1 ≤ ss.sum ∧ H' D2 = some (.lst (ss.map V.int)) ∧ H' D = some (.lst (ds.map V.int)) ∧ RowAt K H' row a ns ∧ Kp row H H',
        ⟨ss.sum.toNat, rfl, ss, rfl, slen, sall, ssum, hss, hdd, RA6, k6⟩, ?_⟩
      rintro m σ H7 ⟨rfl, ss, rfl, slen, sall, ssum, hss, hdd, RA7, k7⟩
      refine ⟨_, rfl, D2, ss, rfl, .of hss, _, _, rfl, rfl, _, rfl, ?_⟩
      by_cases hc : 12 < ss.sum
      · rw [decide_eq_true hc]
        refine iteT ⟨fun σ' H' => σ' = [some (.ref row), some (.int most), some (.int (2 + v1)), some (.int far), some (.ref D), some (.ref D2), none] ∧ ∃ ss' : List Int, ss'.sum = ss.sum - 1 ∧ ss'.length = (2 + v1).toNat ∧ (∀ y ∈ ss', 0 ≤ y ∧ y ≤ 12) ∧ H' D2 = some (.lst (ss'.map V.int)) ∧ H' D = some (.lst (ds.map V.int)) ∧ RowAt K H' row a ns ∧ Kp row H H',
          fun σ' H' ⟨e1, ss', e2, e3, e4, e5, e6, e7, e8⟩ => ⟨ss'.sum.toNat, by omega, e1, ss', rfl, e3, e4, by omega, e5, e6, e7, e8⟩, ?_⟩
        refine ⟨_, rfl, D2, ss, rfl, .of hss, by omega, fun mm hm hmu => ⟨_, _, rfl, rfl, ?_⟩⟩
        refine ⟨_, rfl, _, rfl, .inl ⟨rfl, _, .of hss⟩, _, rfl, D2, ss, rfl, .of hss, by omega, fun mm2 hm2 hmu2 => ?_⟩
        obtain ⟨j, hj, hno⟩ := first_ix hm2
        have emm : mm2 = mm := Int.le_antisymm (hmu _ hm2) (hmu2 _ hm)
        subst emm
        have hjl : j < ss.length := (List.getElem?_eq_some_iff.mp hj).1
        refine ⟨D2, ss.map V.int, .int mm2, j, .int mm2, rfl, rfl, .of hss, rfl, flat_ints ss, by rw [List.getElem?_map, hj]; rfl, beq_self_eq_true mm2, fun k z' hk hz => ?_, ?_⟩
        · obtain ⟨z, hz2, rfl⟩ := get_int hz
          exact beq_eq_false_iff_ne.mpr (hno k z hk hz2)
        · have hixn : ixN (ss.map V.int).length ((j : Nat) : Int) = some j := by
            unfold ixN
            rw [List.length_map, if_pos (by omega), if_pos (by omega), Int.toNat_natCast]
          refine ⟨D2, _, ((j : Nat) : Int), j, rfl, rfl, hss, hixn, rfl, ss.set j (mm2 - 1), ?_, by rw [List.length_set]; exact slen, fun y hy => ?_, by rw [upd_same, List.map_set], by rw [upd_ne nDD]; exact hdd, RA7.upd' nD2 fD2, fun b o e n => by rw [upd_ne (hD20 b o e n)]; exact k7 b o e n⟩
          · rw [sum_set hj]
            omega
          · have hm12 := sall _ hm2
            have hm1 : 1 ≤ mm2 := by
              rcases Int.lt_or_le mm2 1 with z | z
              · have := sum_le_zero (l := ss) fun y hy => by have := hmu _ hy; omega
                omega
              · exact z
            rcases mem_set hy with z | z
            · exact sall y z
            · omega
      · rw [decide_eq_false hc]
        refine iteF ?_
        refine ⟨_, rfl, D, _, rfl, .of hdd, fun l1 o1 hl1 hd1 => ?_⟩
        have u1 := same_upd (o := .frz o1 (.tup (ds.map V.int))) hl1
        refine ⟨_, rfl, D2, _, rfl, .of (u1 _ _ hss), fun l2 o2 hl2 hd2 => ⟨(by show 2 ≤ sizeLine; decide), fun t ht => ?_⟩⟩
        have u2 := same_upd (o := .frz o2 (.tup (ss.map V.int))) hl2
        have u3 := same_upd (o := .tup [.ref l1, .ref l2]) ht
        exact q _ t l1 l2 ds ss ⟨by omega, by omega, by omega, dall, sall, ssum, by omega⟩ (((RA7.same u1).same u2).same u3) (((k7.trans (Same.kp u1)).trans (Same.kp u2)).trans (Same.kp u3)) upd_same ⟨o1, hd1, u3 _ _ (u2 _ _ upd_same)⟩ ⟨o2, hd2, u3 _ _ upd_same⟩
    -- if sum(starts) == 0
    refine ⟨_, rfl, D2, ss0, rfl, .of hss0, rfl, _, rfl, ?_⟩
    have nn0 : ∀ y ∈ ss0, 0 ≤ y := fun y hy => (sall0 y hy).1
    by_cases hz : ss0.sum = 0
    · rw [decide_eq_true (show V.int ss0.sum = V.int 0 by rw [hz])]
      refine iteT ?_
      refine ⟨_, rfl, row, a, ns, _, rfl, RA5, by decide, by decide, fun v H6 v0 v1' RA6 k6 => ⟨_, _, rfl, rfl, ?_⟩⟩
      refine ⟨_, rfl, _, rfl, _, rfl, row, a, ns, _, rfl, RA6, by omega, by omega, fun j H7 j0 j1 RA7 k7 => ?_⟩
      have k57 := k6.trans k7
      have hss7 : H7 D2 = some (.lst (ss0.map V.int)) := k57 _ _ hss0 nD2
      have hj : j.toNat < ss0.length := by omega
      have hixn : ixN (ss0.map V.int).length j = some j.toNat := by
        unfold ixN
        rw [List.length_map, if_pos (by omega), if_pos (by omega)]
      refine ⟨D2, _, j, j.toNat, rfl, rfl, hss7, hixn, ?_⟩
      have hmem : (1 + v) ∈ ss0.set j.toNat (1 + v) := List.mem_set hj (1 + v)
      have hall' : ∀ y ∈ ss0.set j.toNat (1 + v), 0 ≤ y ∧ y ≤ 12 := fun y hy => by
        rcases mem_set hy with z | z
        · have := sall0 y z; omega
        · omega
      refine loop (ss0.set j.toNat (1 + v)) _ (by rw [List.length_set]; exact slen0) hall' ?_ (by rw [upd_same, List.map_set]) (by rw [upd_ne nDD]; exact k57 _ _ hds5 nD) (RA7.upd' nD2 fD2) (fun b o e n => by rw [upd_ne (hD20 b o e n)]; exact (k05.trans k57) b o e n)
      have := mem_le_sum (fun y hy => (hall' y hy).1) _ hmem
      omega
    · rw [decide_eq_false (show ¬ V.int ss0.sum = V.int 0 from fun z => hz (V.int.inj z))]
      refine iteF ?_
      have := mem_le_sum.sum_nonneg' nn0
      exact loop ss0 H5 slen0 (fun y hy => by have := sall0 y hy; omega) (by omega) hss0 hds5 RA5 k05
end
end Rp
namespace Rp
open PySem PySem.Spec PyProof.Rows L2 Rz Rm
section
variable {K : PySem.W.Frag} {H : Hp} {Q : VK} {a b : Addr} {xs ys : List V}
theorem sl_from {k : Int} (ha : Tq H a xs) (k0 : 0 ≤ k) (k1 : k ≤ xs.length) (h : ∀ H' p, Same H H' → Tq H' p (xs.drop k.toNat) → Q (.ref p) H') : rSlA K (.ref a) (some k) none H Q := by
  have e : k = ((k.toNat : Nat) : Int) := by omega
  have e0 : HT.sIx xs.length 0 (some k) = k.toNat := by
    rw [e, HT.sIx_nat]
    omega
  have e1 : cutV xs (some k) none = xs.drop k.toNat := by
    unfold cutV
    rw [e0, HT.sIx_none, List.take_of_length_le (by rw [List.length_drop]; omega)]
  refine ⟨a, xs, rfl, .inl ha.rd, fun z => h H a (fun _ _ q => q) ?_, fun _ p hp => h _ p (same_upd hp) (.inl (by rw [upd_same, e1]))⟩
  rw [e0] at z
  rw [z.1]
  exact ha
theorem sl_to {k : Int} (ha : Tq H a xs) (k0 : 0 ≤ k) (k1 : k ≤ xs.length) (h : ∀ H' p, Same H H' → Tq H' p (xs.take k.toNat) → Q (.ref p) H') : rSlA K (.ref a) none (some k) H Q := by
  have e : k = ((k.toNat : Nat) : Int) := by omega
  have e0 : HT.sIx xs.length xs.length (some k) = k.toNat := by
    rw [e, HT.sIx_nat]
    omega
  have e1 : cutV xs none (some k) = xs.take k.toNat := by
    unfold cutV
    rw [e0, HT.sIx_none, List.drop_zero, Nat.sub_zero]
  refine ⟨a, xs, rfl, .inl ha.rd, fun z => h H a (fun _ _ q => q) ?_, fun _ p hp => h _ p (same_upd hp) (.inl (by rw [upd_same, e1]))⟩
  rw [e0] at z
  rw [z.2, List.take_length]
  exact ha
theorem cat_any (ha : Tq H a xs) (hb : Tq H b ys) (hl : xs.length + ys.length ≤ sizeLine) (h : ∀ H' p, Same H H' → Tq H' p (xs ++ ys) → Q (.ref p) H') : rCatA K (.ref a) (.ref b) H Q := by
  refine ⟨a, b, xs, ys, rfl, rfl, .inl ha.rd, .inl hb.rd, hl, fun z => h H b (fun _ _ q => q) ?_, fun _ z => h H a (fun _ _ q => q) ?_, fun _ _ p hp => h _ p (same_upd hp) (.inl upd_same)⟩
  · rw [z]
    exact hb
  · rw [z, List.append_nil]
    exact ha
end
theorem noPart {σ : L2.St} {H : Hp} {Q : Option Int → Hp → Prop} (h : Q none H) : tNoPart σ H Q := h
end Rp
namespace Rp
open PySem PySem.Spec PyProof.Rows L2 Rz Rm
/-- tuples of ints at addresses -/
def Tups (H : Hp) : List V → List (List Int) → Prop := Paired fun v l => ∃ t, v = V.ref t ∧ H t = some (.tup (l.map V.int))
theorem Tups.snoc {H : Hp} {v : V} {l : List Int} (h2 : ∃ t, v = V.ref t ∧ H t = some (.tup (l.map V.int))) : ∀ {xs : List V} {ls : List (List Int)}, Tups H xs ls → Tups H (xs ++ [v]) (ls ++ [l])
  | _, _, .nil => .cons h2 .nil
  | _, _, .cons r t => .cons r (Tups.snoc h2 t)
theorem Tups.mono {H H' : Hp} (k : ∀ b xs, H b = some (.tup xs) → H' b = some (.tup xs)) : ∀ {xs : List V} {ls : List (List Int)}, Tups H xs ls → Tups H' xs ls
  | _, _, .nil => .nil
  | _, _, .cons ⟨t, e, h⟩ r => .cons ⟨t, e, k _ _ h⟩ (Tups.mono k r)
theorem Tups.length {H : Hp} {xs : List V} {ls : List (List Int)} (h : Tups H xs ls) : xs.length = ls.length := Paired.length h
theorem Tups.get {H : Hp} : ∀ {xs : List V} {ls : List (List Int)} {i : Nat} {l : List Int}, Tups H xs ls → ls[i]? = some l → ∃ t, xs[i]? = some (.ref t) ∧ H t = some (.tup (l.map V.int))
  | _, _, i, l, .nil, h => by simp at h
  | _, _, 0, l, .cons ⟨t, e, h2⟩ r, h => by
    simp at h
    subst h
    exact ⟨t, by rw [e]; rfl, h2⟩
  | _, _, i + 1, l, .cons _ r, h => by
    obtain ⟨t, h1, h2⟩ := Tups.get (i := i) (l := l) r (by simpa using h)
    exact ⟨t, by simpa using h1, h2⟩
/-- as data, for == -/
theorem dp_is {K : PySem.W.Frag} {H : Hp} : ∀ l : List Int, DpAll K H (l.map V.int) (l.map PyData.int)
  | [] => .nil
  | x :: r => .cons (.int x) (dp_is r)
theorem Tups.data {K : PySem.W.Frag} {H : Hp} : ∀ {xs : List V} {ls : List (List Int)}, Tups H xs ls → DpAll K H xs (ls.map fun l => PyData.tuple (l.map PyData.int))
  | _, _, .nil => .nil
  | _, _, .cons ⟨t, e, h⟩ r => .cons (by subst e; exact .tup (.of h) (dp_is _)) (Tups.data r)
theorem lay_tups : ∀ ls : List (List Int), PyData.canLayAll0 (ls.map fun l => PyData.tuple (l.map PyData.int)) = true ∧ PyData.depthAll (ls.map fun l => PyData.tuple (l.map PyData.int)) ≤ 1
  | [] => ⟨rfl, Nat.zero_le _⟩
  | l :: r => by
    obtain ⟨h1, h2⟩ := lay_tups r
    constructor
    · simp [PyData.canLayAll0, PyData.canLay0, PySem.W.ke_canLayAll0 l, h1]
    · simp only [List.map_cons, PyData.depthAll, PyData.depth, PySem.W.ke_depthAll l]
      omega
theorem shaped_tups (ls : List (List Int)) : SeqAt.shaped (.list (ls.map fun l => PyData.tuple (l.map PyData.int))) = true := by
  obtain ⟨h1, h2⟩ := lay_tups ls
  simp only [SeqAt.shaped, PyData.canLay0, PyData.depth, h1, Bool.true_and]
  exact decide_eq_true (by omega)
theorem tup_kp {K : PySem.W.Frag} {H H' : Hp} {t row a : Addr} {xs : List V} {ns : List Int} (ht : H t = some (.tup xs)) (RA : RowAt K H row a ns) (k : Kp row H H') : H' t = some (.tup xs) := by
  obtain ⟨i, m, q, h, _⟩ := RA.ob
  exact k _ _ ht (ne_of ht h (by intro z; cases z))
theorem up {N : Nat} {d s : Int → Int} {B T M : Int} (R : Rm.Ring N d s B T M) (r : Int) {x : Int} (hx : 0 ≤ x) : Rm.E d s r x ≤ (x + 1) * T + x * M := by
  obtain ⟨k, hk, e⟩ := R.att r hx
  have hN := R.pos
  have hB := R.b1
  have hT := R.T0
  have ek : k = k % N + k / N * N := by
    have := Nat.mod_add_div k N
    rw [Nat.mul_comm] at this
    exact this.symm
  have hj := Nat.mod_lt k hN
  have hS := R.sumS r (k % N) (k / N)
  have hD := R.sumD r (k % N + 1) (k / N)
  rw [← ek] at hS
  rw [show k % N + 1 + k / N * N = k + 1 by omega] at hD
  have hm : ((k / N : Nat) : Int) ≤ x := by
    have h1 := sum_nn R.s0 r (k % N)
    have h2 : ((k / N : Nat) : Int) * 1 ≤ ((k / N : Nat) : Int) * B := Int.mul_le_mul_of_nonneg_left hB (Int.natCast_nonneg _)
    omega
  have hd0 : sumBack d r (k % N + 1) ≤ T := by
    have := sum_mono (f := d) (fun i => by have := R.d1 i; omega) r (show k % N + 1 ≤ N by omega)
    rw [R.t] at this
    exact this
  have h3 : ((k / N : Nat) : Int) * T ≤ x * T := Int.mul_le_mul_of_nonneg_right hm hT
  have h4 := max_le R.mu r k
  have h40 : 0 ≤ maxBack d r k := by
    have h1 := max_ge (f := d) r (j := 0) (k := k) (Nat.zero_le _)
    have h2 := R.d1 (r - (0 : Nat))
    omega
  have h5 : (x - sumBack s r k) * maxBack d r k ≤ x * M := by
    have a1 : (x - sumBack s r k) * maxBack d r k ≤ x * maxBack d r k := Int.mul_le_mul_of_nonneg_right (by have := sum_nn R.s0 r k; omega) h40
    have a2 : x * maxBack d r k ≤ x * M := Int.mul_le_mul_of_nonneg_left h4 hx
    omega
  unfold ch at e
  rw [Int.add_mul]
  omega
theorem and_go {c : Bool} {u : TT} {σ : L2.St} {H : Hp} {F : Bool → Hp → Prop} (G : Hp → Prop) (next : ∀ H9, G H9 → F false H9) (hH : G H) (h1 : c = true → (∀ H9, G H9 → F false H9) → u σ H F) : if c = true then u σ H F else F false H := by
  cases c with
  | true => exact iteT (h1 rfl next)
  | false => exact iteF (next H hH)
theorem dp_ints {K : PySem.W.Frag} {H : Hp} : ∀ l : List Int, DpAll K H (l.map V.int) (l.map PyData.int)
  | [] => .nil
  | x :: r => .cons (.int x) (dp_ints r)
theorem Tups.rev {H : Hp} : ∀ {xs : List V} {ls : List (List Int)}, Tups H xs ls → Tups H xs.reverse ls.reverse
  | _, _, .nil => .nil
  | _, _, .cons r t => by
    rw [List.reverse_cons, List.reverse_cons]
    exact Tups.snoc r (Tups.rev t)
theorem Tups.drop {H : Hp} : ∀ {xs : List V} {ls : List (List Int)} (k : Nat), Tups H xs ls → Tups H (xs.drop k) (ls.drop k)
  | _, _, 0, h => h
  | _, _, k + 1, .nil => .nil
  | _, _, k + 1, .cons _ t => Tups.drop k t
theorem Tups.same {H H' : Hp} (s : Same H H') {xs : List V} {ls : List (List Int)} (h : Tups H xs ls) : Tups H' xs ls := h.mono fun b xs e => s _ _ e
/-- two tuples of ints are compared -/
theorem eqv_tup (as bs : List Int) : PyData.eqv (.tuple (as.map PyData.int)) (.tuple (bs.map PyData.int)) = decide (as = bs) := PySem.W.ked_eqvAll _ _
theorem eqv_lst (as bs : List Int) : PyData.eqv (.list (as.map PyData.int)) (.list (bs.map PyData.int)) = decide (as = bs) := PySem.W.ked_eqvAll _ _
theorem shaped_tup (as : List Int) : SeqAt.shaped (.tuple (as.map PyData.int)) = true := by
  simp only [SeqAt.shaped, PyData.canLay0, PyData.depth, PySem.W.ke_canLayAll0 as, PySem.W.ke_depthAll as, Bool.true_and]
  exact decide_eq_true (by omega)
theorem shaped_lst (as : List Int) : SeqAt.shaped (.list (as.map PyData.int)) = true := by
  simp only [SeqAt.shaped, PyData.canLay0, PyData.depth, PySem.W.ke_canLayAll0 as, PySem.W.ke_depthAll as, Bool.true_and]
  exact decide_eq_true (by omega)
section
variable {K : PySem.W.Frag} {H : Hp} {a b : Addr} {as bs : List Int} {Q : VK}
theorem tup_eq (ha : H a = some (.tup (as.map V.int))) (hb : H b = some (.tup (bs.map V.int))) (q : Q (.bl (decide (as = bs))) H) : rEqD K (.ref a) (.ref b) H Q :=
  ⟨_, _, .tup (.of ha) (dp_is as), .tup (.of hb) (dp_is bs), shaped_tup as, shaped_tup bs, by rw [eqv_tup]; exact q⟩
theorem tup_ne (ha : H a = some (.tup (as.map V.int))) (hb : H b = some (.tup (bs.map V.int))) (q : Q (.bl (!decide (as = bs))) H) : rNeD K (.ref a) (.ref b) H Q :=
  ⟨_, _, .tup (.of ha) (dp_is as), .tup (.of hb) (dp_is bs), shaped_tup as, shaped_tup bs, by rw [eqv_tup]; exact q⟩
theorem lst_ne (ha : SqL K H a (as.map V.int)) (hb : SqL K H b (bs.map V.int)) (q : Q (.bl (!decide (as = bs))) H) : rNeD K (.ref a) (.ref b) H Q :=
  ⟨_, _, .lst ha (dp_is as), .lst hb (dp_is bs), shaped_lst as, shaped_lst bs, by rw [eqv_lst]; exact q⟩
theorem lst_eq (ha : SqL K H a (as.map V.int)) (hb : SqL K H b (bs.map V.int)) (q : Q (.bl (decide (as = bs))) H) : rEqD K (.ref a) (.ref b) H Q :=
  ⟨_, _, .lst ha (dp_is as), .lst hb (dp_is bs), shaped_lst as, shaped_lst bs, by rw [eqv_lst]; exact q⟩
end
end Rp
namespace Rp
open PySem PySem.Spec PyProof.Rows L2 Rz Rm
theorem set_map {ds : List Int} {r d : Int} (h0 : 0 ≤ r) (h1 : r < ds.length) : ((ds.map V.int).take r.toNat ++ [V.int d]) ++ (ds.map V.int).drop (r + 1).toNat = (ds.set r.toNat d).map V.int := by
  have e : (r + 1).toNat = r.toNat + 1 := by omega
  rw [List.map_set, List.set_eq_take_append_cons_drop, if_pos (by rw [List.length_map]; omega), e]
  simp
theorem Good.set {ds ss : List Int} (G : Good ds ss) (i : Nat) {d : Int} (h : 1 ≤ d ∧ d ≤ 30) : Good (ds.set i d) ss :=
  ⟨by rw [List.length_set]; exact G.l2, by rw [List.length_set]; exact G.l8, by rw [List.length_set]; exact G.ls, fun y hy => (mem_set hy).elim (G.d1 y) (fun e => by rw [e]; exact h), G.s0, G.b1, G.b12⟩
/-! ### numbers from 0 on -/
def iot (n : Nat) : List Int := (List.range n).map fun i => ((i : Nat) : Int)
theorem rgV_iot (n : Nat) : rgV 0 (n : Int) = (iot n).map V.int := by
  unfold rgV iot
  rw [List.map_map, show ((n : Int) - 0).toNat = n by omega]
  refine List.map_congr_left fun i _ => ?_
  show V.int (0 + (i : Int)) = V.int (i : Int)
  rw [Int.zero_add]
theorem iot_len (n : Nat) : (iot n).length = n := by unfold iot; rw [List.length_map, List.length_range]
section
variable {P : Program} {w : World} {K : PySem.W.Frag} {mg : Str → Option Value} {base : Heap}
/-! ### Ring.with_days -/
def spWith (C : Addr) : Sp := fun vs H Q _ => ∃ p dx td ts ds ss, ∃ r d : Int, vs = [.ref p, .int r, .int d] ∧ RingAt C H p dx td ts ds ss ∧ 0 ≤ r ∧ r < ds.length ∧ 1 ≤ d ∧ d ≤ 30 ∧
  ∀ H' p' dx' td' ts', Same H H' → RingAt C H' p' dx' td' ts' (ds.set r.toNat d) ss → Q (.ref p') H'
theorem ok_with (T : Tx K mg) : FnOk P w K mg base CX0 6 T.a_rwith_days T.d_rwith_days P_rwith_days (spWith T.C) := by
  refine T.F_rwith_days.ok sc_rwith_days (fun vs H Q E h => ?_) (fun cdv A outer s H vs Q E hr h => ?_)
  · obtain ⟨p, dx, td, ts, ds, ss, r, d, rfl, _⟩ := h
    rfl
  · obtain ⟨p, dx, td, ts, ds, ss, r, d, rfl, R, r0, r1, d1, d2, q⟩ := h
    have hr3 : Room 3 _ := hr.mono (by decide)
    have nd := sc_rwith_days.nd
    have l8 := R.ok.l8
    have ls := R.ok.ls
    refine ⟨_, pss_cons (ps_expr (pe_call (ok_reader T) hr3 (by rfl) T.g_check_reader T.F_check_reader.kp T.b_check_reader .nil pass0 (pa_cons (pv 0) (pa_cons (pv 1) pa_nil))))
      (pss_cons (ps_set (i := 3) nd rfl (.inl rfl) (pe_op op_catA (pe_op op_catA (pe_slice sl_tupA (pe_fld (pv 0) rfl) po_none (po_some (pv 1))) (pe_tup (pa_cons (pv 2) pa_nil))) (pe_slice sl_tupA (pe_fld (pv 0) rfl) (po_some (pe_op op_add (pv 1) pe_int)) po_none)))
      (pss_one (ps_ret (pe_make T.mkR (ok_init T) hr (by rfl) T.gC T.b_rinit .nil pass0 (pa_cons (pv 3) (pa_cons (pe_fld (pv 0) rfl) pa_nil)))))), ?_⟩
    refine ⟨_, rfl, _, rfl, p, dx, td, ts, ds, ss, r, rfl, R, r0, r1, ?_⟩
    refine ⟨_, rfl, p, _, dx, _, _, rfl, R.ob, T.cl, T.nD, flds_days _ _, _, rfl, _, rfl, ?_⟩
    refine sl_to R.td r0 (by rw [List.length_map]; omega) fun H1 p1 s1 h1 => ?_
    refine ⟨_, rfl, (by show 1 ≤ sizeLine; decide), fun p2 hp2 => ?_⟩
    have s2 := same_upd (o := .tup [.int d]) hp2
    refine cat_any (h1.same s2) (.inl upd_same) (by rw [List.length_take, List.length_map]; have := small1000 (n := ds.length) (by omega); simp only [List.length_cons, List.length_nil]; have := small1000 (n := ds.length + 1) (by omega); omega) fun H3 p3 s3 h3 => ?_
    have R3 := ((R.same s1).same s2).same s3
    refine ⟨_, rfl, p, _, dx, _, _, rfl, R3.ob, T.cl, T.nD, flds_days _ _, _, rfl, _, _, rfl, rfl, _, rfl, ?_⟩
    refine noPart ?_
    refine sl_from R3.td (k := r + 1) (by omega) (by rw [List.length_map]; omega) fun H4 p4 s4 h4 => ?_
    refine cat_any (h3.same s4) h4 (by rw [List.length_append, List.length_drop, List.length_take, List.length_map]; simp only [List.length_cons, List.length_nil]; have := small1000 (n := ds.length + ds.length + 1) (by omega); omega) fun H5 td' s5 h5 => ?_
    rw [set_map r0 r1] at h5
    have R5 := (R3.same s4).same s5
    refine ⟨_, rfl, _, rfl, p, _, dx, _, _, rfl, R5.ob, T.cl, T.nS, flds_starts _ _, fun x y nx ny ne => ?_⟩
    have s0 : Same H5 (upd (upd H5 y (.own x)) x (.ins T.C y [])) := fun b o e => by
      rw [upd_ne (ne_of_none e nx), upd_ne (ne_of_none e ny)]
      exact e
    refine ⟨x, y, td', ts, ds.set r.toNat d, ss, rfl, upd_same, h5.same s0, R5.ts.same s0, R.ok.set _ ⟨d1, d2⟩, fun H7 R7 k7 => ⟨rfl, ?_⟩⟩
    exact q H7 x y td' ts (((((s1.trans s2).trans s3).trans s4).trans s5).trans (Same.made nx ny k7)) R7
/-! ### pace_with -/
def spPW (C : Addr) : Sp := fun vs H Q _ => ∃ p dx td ts ds ss, ∃ b : Int, vs = [.ref p, .int b] ∧ RingAt C H p dx td ts ds ss ∧ 1 ≤ b ∧ b ≤ 1000 ∧ ∀ H' t, Same H H' → H' t = some (.tup [.int (pX ds b), .int (pY ds b)]) → Q (.ref t) H'
theorem ok_pacew (T : Tx K mg) : FnOk P w K mg base CX0 4 T.a_pace_with T.d_pace_with P_pace_with (spPW T.C) := by
  refine T.F_pace_with.ok sc_pace_with (fun vs H Q E h => ?_) (fun cdv A outer s H vs Q E hr h => ?_)
  · obtain ⟨p, dx, td, ts, ds, ss, b, rfl, _⟩ := h
    rfl
  · obtain ⟨p, dx, td, ts, ds, ss, b, rfl, R, b1, b2, q⟩ := h
    obtain ⟨u1, c1⟩ := T.c_MOST_PLANNED
    have hr2 : Room 2 _ := hr.mono (by decide)
    refine ⟨_, pss_cons (ps_expr (pe_call (ok_chk T) hr (by rfl) T.g_check_number T.F_check_number.kp T.b_check_number .nil pass0 (pa_cons (pv 1) (pa_cons pe_int (pa_cons (pe_glob (v := .int 1000) (by rfl) c1 ⟨_, rfl⟩) pa_nil)))))
      (pss_one (ps_ret (pe_call (ok_pace_of T) hr2 (by rfl) T.g_pace_of T.F_pace_of.kp T.b_pace_of .nil pass0 (pa_cons (pe_prop (pv 0) T.cl T.q_rdays (ok_days T) hr2 T.b_rdays .nil pass0 rfl) (pa_cons (pv 1) pa_nil))))), ?_⟩
    refine ⟨_, rfl, b, 1, 1000, rfl, b1, b2, ?_⟩
    exact ⟨_, rfl, p, dx, _, rfl, R.ob, p, dx, td, ts, ds, ss, rfl, R, _, rfl, td, ds, b, rfl, R.td, R.ok.dys, b1, b2, q⟩
/-! ### fewest_books -/
def spFB (C : Addr) : Sp := fun vs H Q _ => ∃ p dx td ts ds ss, vs = [.ref p] ∧ RingAt C H p dx td ts ds ss ∧ Q (.int ((ds.sum + mx ds - 1) / mx ds)) H
theorem Good.mx1 {ds ss : List Int} (G : Good ds ss) : 1 ≤ mx ds ∧ mx ds ≤ 30 := ⟨(G.d1 _ G.dys.mem).1, (G.d1 _ G.dys.mem).2⟩
theorem ok_fewest (T : Tx K mg) : FnOk P w K mg base CX0 3 T.a_fewest_books T.d_fewest_books P_fewest_books (spFB T.C) := by
  refine T.F_fewest_books.ok sc_fewest_books (fun vs H Q E h => ?_) (fun cdv A outer s H vs Q E hr h => ?_)
  · obtain ⟨p, dx, td, ts, ds, ss, rfl, _⟩ := h
    rfl
  · obtain ⟨p, dx, td, ts, ds, ss, rfl, R, q⟩ := h
    have nd := sc_fewest_books.nd
    refine ⟨_, pss_cons (ps_set (i := 1) nd rfl (.inl rfl) (pe_callB (cr_maxT rfl) (by rfl) T.z_max (by decide +kernel) (pa_cons (pe_prop (pv 0) T.cl T.q_rdays (ok_days T) hr T.b_rdays .nil pass0 rfl) pa_nil)))
      (pss_one (ps_ret (pe_op op_fdiv (pe_op op_sub (pe_op op_add (pe_callB (cr_sumT rfl) (by rfl) T.z_sum (by decide +kernel) (pa_cons (pe_prop (pv 0) T.cl T.q_rdays (ok_days T) hr T.b_rdays .nil pass0 rfl) pa_nil)) (pv 1)) pe_int) (pv 1)))), ?_⟩
    refine ⟨_, rfl, p, dx, _, rfl, R.ob, p, dx, td, ts, ds, ss, rfl, R, td, ds, rfl, .inl R.td.rd, R.ok.dys.ne, fun M hM hMu => ?_⟩
    have hM1 := R.ok.d1 M hM
    rw [mx_eq R.ok.dys hM hMu] at q
    exact ⟨_, rfl, p, dx, _, rfl, R.ob, p, dx, td, ts, ds, ss, rfl, R, td, ds, rfl, .inl R.td.rd, _, rfl, _, _, rfl, rfl, _, _, rfl, rfl, _, rfl, _, _, rfl, rfl, ⟨by omega, by omega⟩, q⟩
end
end Rp
namespace Rp
open PySem PySem.Spec PyProof.Rows L2 Rz Rm
section
variable {P : Program} {w : World} {K : PySem.W.Frag} {mg : Str → Option Value} {base : Heap}
def spPR (C : Addr) : Sp := fun vs H Q _ => ∃ p dx td ts ds ss, vs = [.ref p] ∧ RingAt C H p dx td ts ds ss ∧ Tf H td (ds.map V.int) ∧
  ∀ H' l rs, Same H H' → H' l = some (.lst (rs.map V.int)) → H l = none → ((ds.sum ≤ mx ds * ss.sum ∧ ∃ j : Nat, rs = [(j : Int)] ∧ ds[j]? = some (mx ds) ∧ ∀ k z, k < j → ds[k]? = some z → z ≠ mx ds) ∨ (¬ ds.sum ≤ mx ds * ss.sum ∧ rs = iot ds.length)) → Q (.ref l) H'
theorem ok_paceR (T : Tx K mg) : FnOk P w K mg base CX0 3 T.a_pace_readers T.d_pace_readers P_pace_readers (spPR T.C) := by
  refine T.F_pace_readers.ok sc_pace_readers (fun vs H Q E h => ?_) (fun cdv A outer s H vs Q E hr h => ?_)
  · obtain ⟨p, dx, td, ts, ds, ss, rfl, _⟩ := h
    rfl
  · obtain ⟨p, dx, td, ts, ds, ss, rfl, R, hf, q⟩ := h
    have hr1 : Room 1 _ := hr.mono (by decide)
    have nd := sc_pace_readers.nd
    have b1 := R.ok.b1
    have b12 := R.ok.b12
    have l8 := R.ok.l8
    have rdD : ∀ {Q' : VK} {E' : XK}, Q' (.ref td) H → spDays T.C [.ref p] H Q' E' := fun z => ⟨p, dx, td, ts, ds, ss, rfl, R, z⟩
    refine ⟨_, pss_cons (ps_if (pt_val (pe_call (ok_slow T) hr1 (by rfl) T.g_slowest_decides T.F_slowest_decides.kp T.b_slowest_decides .nil pass0 (pa_cons (pe_prop (pv 0) T.cl T.q_rdays (ok_days T) hr T.b_rdays .nil pass0 rfl) (pa_cons (pe_prop (pv 0) T.cl T.q_rbooks (ok_books T) hr T.b_rbooks .nil pass0 rfl) pa_nil))))
        (pss_one (ps_ret (pe_lst (pa_cons (pe_bmF PySem.F.plainAttrs_tuple PySem.F.slot_tuple_index PySem.F.type_tuple_index mt_tup_indexI (pe_prop (pv 0) T.cl T.q_rdays (ok_days T) hr T.b_rdays .nil pass0 rfl) (pa_cons (pe_callB (cr_maxT rfl) (by rfl) T.z_max (by decide +kernel) (pa_cons (pe_prop (pv 0) T.cl T.q_rdays (ok_days T) hr T.b_rdays .nil pass0 rfl) pa_nil)) pa_nil)) pa_nil)))) pss_nil)
      (pss_one (ps_ret (pe_listRg rfl (by rfl) T.z_list (prg_1 (by rfl) T.z_range (pe_callB (call_lenI T.lenC T.lenF ((ok_len T).raw T.b_rlen .nil) hr pass0) (by rfl) T.z_len PySem.boot_len (pa_cons (pv 0) pa_nil)))))), ?_⟩
    refine ⟨_, rfl, p, dx, _, rfl, R.ob, rdD ⟨_, rfl, p, dx, _, rfl, R.ob, p, dx, td, ts, ds, ss, rfl, R, td, ds, ss.sum, rfl, R.td, R.ok.dys, by omega, by omega, _, rfl, ?_⟩⟩
    by_cases hc : ds.sum ≤ mx ds * ss.sum
    · rw [decide_eq_true hc]
      refine iteT ⟨_, rfl, p, dx, _, rfl, R.ob, rdD ⟨td, _, rfl, hf, _, rfl, p, dx, _, rfl, R.ob, rdD ⟨td, ds, rfl, .inl R.td.rd, R.ok.dys.ne, fun M hM hMu => ?_⟩⟩⟩
      obtain ⟨j, hj, hno⟩ := first_ix hM
      refine ⟨td, ds, M, j, rfl, rfl, .inl R.td.rd, hj, hno, (by show 1 ≤ sizeLine; decide), fun l hl => ?_⟩
      have eM := mx_eq R.ok.dys hM hMu
      exact q _ l [(j : Int)] (same_upd hl) upd_same hl (.inl ⟨hc, j, rfl, by rw [eM]; exact hj, by rw [eM]; exact hno⟩)
    · rw [decide_eq_false hc]
      refine iteF ⟨_, rfl, p, dx, _, rfl, R.ob, p, dx, td, ts, ds, ss, rfl, R, (ds.length : Int), rfl, by omega, by omega, (ds.length : Int), rfl, .of_le (by omega) (by omega) (by omega) (by omega), fun l hl => ?_⟩
      exact q _ l (iot ds.length) (same_upd hl) (by rw [upd_same, rgV_iot]) hl (.inr ⟨hc, rfl⟩)
end
end Rp
namespace Rp
open PySem PySem.Spec PyProof.Rows L2 Rz Rm
theorem flds_other {td ts : Addr} {m : Str} (h1 : ¬ m = "_days") (h2 : ¬ m = "_starts") : (flds td ts).lookup m = none := by
  unfold flds
  rw [lookup_putF, if_neg h2, lookup_putF, if_neg h1]
  rfl
/-- the pace stays when r needs d days -/
def PcEq (ds ss : List Int) (r d : Int) : Prop := pX (ds.set r.toNat d) ss.sum = pX ds ss.sum ∧ pY (ds.set r.toNat d) ss.sum = pY ds ss.sum
theorem pceq_iff {ds ss : List Int} {r d : Int} : ([pX (ds.set r.toNat d) ss.sum, pY (ds.set r.toNat d) ss.sum] = [pX ds ss.sum, pY ds ss.sum]) ↔ PcEq ds ss r d := by
  unfold PcEq
  constructor
  · intro h
    injection h with h1 h2
    injection h2 with h3
    exact ⟨h1, h3⟩
  · rintro ⟨h1, h2⟩
    rw [h1, h2]
theorem at_eq {ds : List Int} {r : Int} (r0 : 0 ≤ r) (r1 : r < ds.length) : ds[r.toNat]? = some (at' ds r) := by
  have h := List.getElem?_eq_getElem (l := ds) (i := r.toNat) (by omega)
  rw [h]
  have := at_nat h
  rw [show ((r.toNat : Nat) : Int) = r by omega] at this
  rw [this]
theorem pceq_self {ds ss : List Int} {r : Int} (r0 : 0 ≤ r) (r1 : r < ds.length) : PcEq ds ss r (at' ds r) := by
  have : ds.set r.toNat (at' ds r) = ds := by
    apply List.ext_getElem?
    intro i
    rw [List.getElem?_set]
    by_cases e : r.toNat = i
    · subst e
      rw [if_pos rfl, if_pos (by omega)]
      exact (at_eq r0 r1).symm
    · rw [if_neg e]
  unfold PcEq
  rw [this]
  exact ⟨rfl, rfl⟩
theorem take_succ' {l : List Int} {i : Nat} {z : Int} (h : l[i]? = some z) : l.take i ++ [z] = l.take (i + 1) := by
  rw [List.take_add_one, h]
  rfl
theorem min_if (i j : Int) : (if j < i then j else i) = min i j := by
  by_cases h : j < i
  · rw [if_pos h]
    omega
  · rw [if_neg h]
    omega
section
variable {P : Program} {w : World} {K : PySem.W.Frag} {mg : Str → Option Value} {base : Heap}
/-! ### slowest_days -/
def spSlD (C : Addr) : Sp := fun vs H Q _ => ∃ p dx td ts ds ss, ∃ r : Int, vs = [.ref p, .int r] ∧ RingAt C H p dx td ts ds ss ∧ 0 ≤ r ∧ r < ds.length ∧
  ∀ H' m, Same H H' → at' ds r ≤ m → m ≤ 30 → PcEq ds ss r m → (∀ d, at' ds r ≤ d → d ≤ 30 → PcEq ds ss r d → d ≤ m) → Q (.int m) H'
theorem ok_slowest (T : Tx K mg) : FnOk P w K mg base CX0 7 T.a_slowest_days T.d_slowest_days P_slowest_days (spSlD T.C) := by
  refine T.F_slowest_days.ok sc_slowest_days (fun vs H Q E h => ?_) (fun cdv A outer s H vs Q E hr h => ?_)
  · obtain ⟨p, dx, td, ts, ds, ss, r, rfl, _⟩ := h
    rfl
  · obtain ⟨p, dx, td, ts, ds, ss, r, rfl, R, r0, r1, q⟩ := h
    have hr4 : Room 4 _ := hr.mono (by decide)
    have hr3 : Room 3 _ := hr.mono (by decide)
    have hr2 : Room 2 _ := hr.mono (by decide)
    have nd := sc_slowest_days.nd
    obtain ⟨u1, c1⟩ := T.c_MOST_DAYS
    refine ⟨_, pss_cons (ps_expr (pe_call (ok_reader T) hr3 (by rfl) T.g_check_reader T.F_check_reader.kp T.b_check_reader .nil pass0 (pa_cons (pv 0) (pa_cons (pv 1) pa_nil))))
      (pss_cons (ps_set (i := 2) nd rfl (.inl rfl) (pe_callTy cr_range2 (by rfl) T.z_range (by decide +kernel) (pa_cons (pe_ix ix_tup (pe_prop (pv 0) T.cl T.q_rdays (ok_days T) hr2 T.b_rdays .nil pass0 rfl) (pv 1) (fun _ _ => rfl)) (pa_cons (pe_op op_add (pe_glob (v := .int 30) (by rfl) c1 ⟨_, rfl⟩) pe_int) pa_nil))))
      (pss_one (ps_ret (pe_callB (cr_max rfl) (by rfl) T.z_max (by decide +kernel) (pa_cons (pe_lc (own := [("days", 3)]) rfl nd (pi_rngV (pv 2)) (blkOk_by (N := N_slowest_days) (sc := defScope s_slowest_days) (by decide +kernel))
        (fun _ _ _ _ _ => pg_name (i := 3) nd rfl (.inl rfl))
        (fun _ _ _ _ _ => pts_one (pt_cmpR (r := rEqD K) (op_eqD hr.units) (pe_prop (pe_meth (pv 0) T.cl T.mW (ok_with T) hr T.b_rwith_days .nil pass0 (pa_cons (pv 1) (pa_cons (pv 3) pa_nil))) T.cl T.q_rpace (ok_rpace T) hr4 T.b_rpace .nil pass0 rfl) (pe_prop (pv 0) T.cl T.q_rpace (ok_rpace T) hr4 T.b_rpace .nil pass0 rfl) (nomark _)))
        (fun _ _ _ _ _ => pv 3)) pa_nil))))), ?_⟩
    have d0 := R.ok.d1 _ (at_mem (l := ds) (by omega) r)
    refine ⟨.ref p, rfl, .int r, rfl, p, dx, td, ts, ds, ss, r, rfl, R, r0, r1, ?_⟩
    refine ⟨_, rfl, p, dx, _, rfl, R.ob, p, dx, td, ts, ds, ss, rfl, R, _, rfl, td, _, _, _, rfl, rfl, .inl R.td.rd, at_ix (by omega) r1, _, _, rfl, rfl, _, _, rfl, fun g hg => ?_⟩
    have s1 := same_upd (o := .rng (at' ds r) (30 + 1)) hg
    have R1 := R.same s1
    have hg1 : (upd H g (.rng (at' ds r) (30 + 1))) g = some (.rng (at' ds r) (30 + 1)) := upd_same
    generalize (upd H g (.rng (at' ds r) (30 + 1))) = H1 at s1 R1 hg1 ⊢
    refine ⟨_, rfl, g, _, _, rfl, hg1, ⟨by omega, by omega, by omega, by omega⟩, fun D hD => lc_range (lo := at' ds r) (n := ((30 : Int) + 1 - at' ds r).toNat)
      (fun i H' => ∃ acc : List Int, H' D = some (.lst (acc.map V.int)) ∧ acc.length ≤ i ∧ (∀ d ∈ acc, at' ds r ≤ d ∧ d ≤ 30 ∧ PcEq ds ss r d) ∧ (∀ j : Nat, j < i → PcEq ds ss r (at' ds r + j) → (at' ds r + j) ∈ acc) ∧ Same H1 H') ?_ ?_ ?_⟩
    · exact ⟨[], upd_same, Nat.le_refl _, fun d hd => absurd hd (by simp), fun j hj => absurd hj (Nat.not_lt_zero _), same_upd hD⟩
    · rintro i H2 hi ⟨acc, hacc, hlen, hall, hin, s2⟩
      have R2 := R1.same s2
      refine ⟨rfl, ?_⟩
      refine ⟨_, rfl, p, dx, _, rfl, R2.ob, flds_other (by decide +kernel) (by decide +kernel), _, rfl, _, rfl, p, dx, td, ts, ds, ss, r, at' ds r + i, rfl, R2, r0, r1, by omega, by omega, fun H3 p3 dx3 td3 ts3 s3 R3 => ?_⟩
      refine ⟨p3, dx3, _, rfl, R3.ob, p3, dx3, td3, ts3, _, ss, rfl, R3, fun H4 t4 s4 ht4 => ?_⟩
      have R4 := (R2.same s3).same s4
      refine ⟨_, rfl, p, dx, _, rfl, R4.ob, p, dx, td, ts, ds, ss, rfl, R4, fun H5 t5 s5 ht5 => ?_⟩
      refine tup_eq (as := [pX (ds.set r.toNat (at' ds r + i)) ss.sum, pY (ds.set r.toNat (at' ds r + i)) ss.sum]) (bs := [pX ds ss.sum, pY ds ss.sum]) (s5 _ _ ht4) ht5 ⟨_, rfl, ?_⟩
      have hacc5 := s5 _ _ (s4 _ _ (s3 _ _ hacc))
      have s25 : Same H1 H5 := ((s2.trans s3).trans s4).trans s5
      by_cases hp : PcEq ds ss r (at' ds r + i)
      · rw [decide_eq_true (pceq_iff.mpr hp)]
        show if true = true then _ else _
        rw [if_pos rfl]
        refine ⟨_, rfl, acc.map V.int, hacc5, by rw [List.length_map]; exact small1000 (by omega), acc ++ [at' ds r + i], by rw [upd_same, map_snoc], by rw [List.length_append]; simp only [List.length_cons, List.length_nil]; omega, fun d hd => ?_, fun j hj hpj => ?_, ?_⟩
        · rcases List.mem_append.mp hd with z | z
          · exact hall d z
          · have := List.mem_singleton.mp z
            subst this
            exact ⟨by omega, by omega, hp⟩
        · by_cases e : j = i
          · subst e
            simp
          · exact List.mem_append_left _ (hin j (by omega) hpj)
        · exact fun b x e => by
            rw [upd_ne (ne_of_none e hD)]
            exact s25 b x e
      · rw [decide_eq_false (fun e => hp (pceq_iff.mp e))]
        show if false = true then _ else _
        rw [if_neg (by decide)]
        refine ⟨acc, hacc5, by omega, hall, fun j hj hpj => ?_, s25⟩
        by_cases e : j = i
        · subst e
          exact absurd hpj hp
        · exact hin j (by omega) hpj
    · rintro H2 ⟨acc, hacc, hlen, hall, hin, s2⟩
      have h0 := hin 0 (by omega) (by rw [show at' ds r + ((0 : Nat) : Int) = at' ds r by omega]; exact pceq_self r0 r1)
      refine ⟨D, acc, rfl, .of hacc, List.length_pos_of_mem h0, fun m hm hmu => ?_⟩
      obtain ⟨m1, m2, m3⟩ := hall m hm
      refine q H2 m (s1.trans s2) m1 m2 m3 fun d d1 d2 hp => hmu d ?_
      have := hin (d - at' ds r).toNat (by omega) (by rw [show at' ds r + (((d - at' ds r).toNat : Nat) : Int) = d by omega]; exact hp)
      rw [show at' ds r + (((d - at' ds r).toNat : Nat) : Int) = d by omega] at this
      exact this
/-! ### fewest_days_less, none needed -/
def spFDL (C : Addr) : Sp := fun vs H Q _ => ∃ p dx td ts ds ss, ∃ x y : Int, vs = [.ref p, .int x, .int y] ∧ RingAt C H p dx td ts ds ss ∧ 1 ≤ x ∧ x ≤ 1000 ∧ 1 ≤ y ∧ y ≤ 1000 ∧ (∀ d ∈ ds, d ≤ x / y) ∧ ds.sum ≤ x * ss.sum / y ∧ ∀ H', Same H H' → Q (.int 0) H'
theorem ok_less (T : Tx K mg) : FnOk P w K mg base CX0 4 T.a_fewest_days_less T.d_fewest_days_less P_fewest_days_less (spFDL T.C) := by
  refine T.F_fewest_days_less.ok sc_fewest_days_less (fun vs H Q E h => ?_) (fun cdv A outer s H vs Q E hr h => ?_)
  · obtain ⟨p, dx, td, ts, ds, ss, x, y, rfl, _⟩ := h
    rfl
  · obtain ⟨p, dx, td, ts, ds, ss, x, y, rfl, R, x1, x2, y1, y2, hall, hsum, q⟩ := h
    have hr3 : Room 3 _ := hr.mono (by decide)
    have hr2 : Room 2 _ := hr.mono (by decide)
    have nd := sc_fewest_days_less.nd
    obtain ⟨u1, c1⟩ := T.c_MOST_PLANNED
    have l2 := R.ok.l2
    have l8 := R.ok.l8
    have hT := sum_bounds R.ok.d1
    have b12 := R.ok.b12
    have b1 := R.ok.b1
    refine ⟨_, pss_cons (ps_expr (pe_call (ok_chk T) hr3 (by rfl) T.g_check_number T.F_check_number.kp T.b_check_number .nil pass0 (pa_cons (pv 1) (pa_cons pe_int (pa_cons (pe_glob (v := .int 1000) (by rfl) c1 ⟨_, rfl⟩) pa_nil)))))
      (pss_cons (ps_expr (pe_call (ok_chk T) hr3 (by rfl) T.g_check_number T.F_check_number.kp T.b_check_number .nil pass0 (pa_cons (pv 2) (pa_cons pe_int (pa_cons (pe_glob (v := .int 1000) (by rfl) c1 ⟨_, rfl⟩) pa_nil)))))
      (pss_cons (ps_set (i := 3) nd rfl (.inr rfl) (pe_op op_fdiv (pv 1) (pv 2)))
      (pss_cons (ps_set (i := 4) nd rfl (.inl rfl) (pe_op op_fdiv (pe_op op_mul (pv 1) (pe_prop (pv 0) T.cl T.q_rbooks (ok_books T) hr2 T.b_rbooks .nil pass0 rfl)) (pv 2)))
      (pss_cons (ps_if (PW.pt (pw_or (pt_cmpR op_lt (pv 3) pe_int (nomark _)) (pw_or1 (pt_cmpR op_lt (pv 4) (pe_callB (call_lenI T.lenC T.lenF ((ok_len T).raw T.b_rlen .nil) hr2 pass0) (by rfl) T.z_len PySem.boot_len (pa_cons (pv 0) pa_nil)) (nomark _))))) (pss_one (ps_ret pe_non)) pss_nil)
      (pss_cons (ps_set (i := 5) nd rfl (.inl rfl) (pe_callB (cr_sum rfl) (by rfl) T.z_sum (by decide +kernel) (pa_cons (pe_lc (own := [("needed", 6)]) rfl nd (pi_tup (pe_prop (pv 0) T.cl T.q_rdays (ok_days T) hr2 T.b_rdays .nil pass0 rfl)) (blkOk_by (N := N_fewest_days_less) (sc := defScope s_fewest_days_less) (by decide +kernel))
        (fun _ _ _ _ _ => pg_name (i := 6) nd rfl (.inl rfl)) (fun _ _ _ _ _ => pts_nil)
        (fun _ _ _ _ _ => pe_callB (call_min2 rfl) (by rfl) T.z_min (by decide +kernel) (pa_cons (pv 6) (pa_cons (pv 3) pa_nil)))) pa_nil)))
      (pss_one (ps_ret (pe_op op_sub (pe_callB (cr_sumT rfl) (by rfl) T.z_sum (by decide +kernel) (pa_cons (pe_prop (pv 0) T.cl T.q_rdays (ok_days T) hr2 T.b_rdays .nil pass0 rfl) pa_nil))
        (pe_callB (call_min2 rfl) (by rfl) T.z_min (by decide +kernel) (pa_cons (pv 5) (pa_cons (pv 4) pa_nil))))))))))), ?_⟩
    have rdD : ∀ {Q' : VK} {E' : XK}, Q' (.ref td) H → spDays T.C [.ref p] H Q' E' := fun z => ⟨p, dx, td, ts, ds, ss, rfl, R, z⟩
    have hm := hall _ R.ok.dys.mem
    have m1 := R.ok.mx1
    refine ⟨_, rfl, x, 1, 1000, rfl, x1, x2, ?_⟩
    refine ⟨_, rfl, y, 1, 1000, rfl, y1, y2, ?_⟩
    refine ⟨_, rfl, _, rfl, _, _, rfl, rfl, ⟨by omega, by omega⟩, ?_⟩
    refine ⟨_, rfl, _, rfl, p, dx, _, rfl, R.ob, p, dx, td, ts, ds, ss, rfl, R, _, _, rfl, rfl, .inl ⟨by omega, by omega⟩, _, rfl, _, _, rfl, rfl, ⟨by omega, by omega⟩, ?_⟩
    refine ⟨_, rfl, _, _, rfl, rfl, _, rfl, ?_⟩
    rw [decide_eq_false (show ¬ x / y < 1 by omega)]
    refine iteF ?_
    refine ⟨_, rfl, _, rfl, p, dx, _, rfl, R.ob, p, dx, td, ts, ds, ss, rfl, R, (ds.length : Int), rfl, by omega, by omega, _, _, rfl, rfl, _, rfl, ?_⟩
    rw [decide_eq_false (show ¬ x * ss.sum / y < (ds.length : Int) by omega)]
    refine iteF ?_
    refine ⟨_, rfl, p, dx, _, rfl, R.ob, rdD ⟨td, rfl, ⟨_, .inl R.td.rd⟩, fun D hD => lc_tup (K := K) (a := td) (xs := ds.map V.int) (fun i H' => H' D = some (.lst ((ds.take i).map V.int)) ∧ Same H H') ?_ ?_ ?_ ?_⟩⟩
    · exact ⟨by rw [upd_same]; rfl, same_upd hD⟩
    · exact fun i H' _ h => .inl (R.td.same h.2).rd
    · rintro i v H2 hv ⟨hacc, s2⟩
      obtain ⟨z, hz, rfl⟩ := get_int hv
      have hzm := hall z (List.mem_of_getElem? hz)
      refine ⟨rfl, lc_keep ⟨_, rfl, _, rfl, _, _, rfl, ?_⟩⟩
      rw [if_neg (by omega)]
      refine ⟨_, hacc, by rw [List.length_map, List.length_take]; exact small1000 (by omega), ?_, ?_⟩
      · rw [upd_same, map_snoc, take_succ' hz]
      · exact fun b x e => by
          rw [upd_ne (ne_of_none e hD)]
          exact s2 b x e
    · rintro H2 ⟨hacc, s2⟩
      rw [List.length_map, List.take_length] at hacc
      have R2 := R.same s2
      refine ⟨D, ds, rfl, .of hacc, ?_⟩
      refine ⟨_, rfl, p, dx, _, rfl, R2.ob, p, dx, td, ts, ds, ss, rfl, R2, td, ds, rfl, .inl R2.td.rd, _, rfl, _, rfl, _, _, rfl, _, _, rfl, rfl, ?_⟩
      rw [min_if, show min ds.sum (x * ss.sum / y) = ds.sum by omega]
      show Q (V.int (ds.sum - ds.sum)) H2
      rw [Int.sub_self]
      exact q H2 s2
end
end Rp
namespace Rp
open PySem PySem.Spec PyProof.Rows L2 Rz Rm
theorem few_ok {ds ss : List Int} (G : Good ds ss) : 1 ≤ (ds.sum + mx ds - 1) / mx ds ∧ (ds.sum + mx ds - 1) / mx ds ≤ 1000 ∧ ds.sum ≤ mx ds * ((ds.sum + mx ds - 1) / mx ds) := by
  have m1 := G.mx1
  have hT := sum_bounds G.d1
  have l2 := G.l2
  have l8 := G.l8
  have h1 := Int.emod_add_mul_ediv (ds.sum + mx ds - 1) (mx ds)
  have h2 := Int.emod_lt_of_pos (ds.sum + mx ds - 1) (show 0 < mx ds by omega)
  have h3 := Int.emod_nonneg (ds.sum + mx ds - 1) (show mx ds ≠ 0 by omega)
  have h4 : ds.sum ≤ mx ds * ((ds.sum + mx ds - 1) / mx ds) := by omega
  generalize hq : (ds.sum + mx ds - 1) / mx ds = q at h1 h4 ⊢
  generalize hm : mx ds = m at *
  refine ⟨?_, ?_, h4⟩
  · rcases Int.lt_or_le q 1 with z | z
    · have : m * q ≤ m * 0 := Int.mul_le_mul_of_nonneg_left (by omega) (by omega)
      omega
    · exact z
  · rcases Int.lt_or_le 1000 q with z | z
    · have : m * 1001 ≤ m * q := Int.mul_le_mul_of_nonneg_left (by omega) (by omega)
      omega
    · exact z
theorem pX_slow {ds : List Int} {b : Int} (h : ds.sum ≤ mx ds * b) : pX ds b = mx ds ∧ pY ds b = 1 := by
  unfold pX pY
  rw [if_pos h, if_pos h]
  exact ⟨rfl, rfl⟩
theorem less_ok {ds ss : List Int} (G : Good ds ss) : 1 ≤ pX ds ss.sum ∧ pX ds ss.sum ≤ 1000 ∧ 1 ≤ pY ds ss.sum ∧ pY ds ss.sum ≤ 1000 ∧ (∀ d ∈ ds, d ≤ pX ds ss.sum / pY ds ss.sum) ∧ ds.sum ≤ pX ds ss.sum * ss.sum / pY ds ss.sum := by
  have m1 := G.mx1
  have hT := sum_bounds G.d1
  have l2 := G.l2
  have l8 := G.l8
  have b1 := G.b1
  have b12 := G.b12
  by_cases hc : ds.sum ≤ mx ds * ss.sum
  · obtain ⟨e1, e2⟩ := pX_slow hc
    rw [e1, e2, Int.ediv_one, Int.ediv_one]
    exact ⟨by omega, by omega, by omega, by omega, fun d hd => le_mx hd, hc⟩
  · have e1 : pX ds ss.sum = ds.sum / gq ds ss.sum := by unfold pX; rw [if_neg hc]
    have e2 : pY ds ss.sum = ss.sum / gq ds ss.sum := by unfold pY; rw [if_neg hc]
    obtain ⟨g0, gle, gd1, gd2⟩ := gq_facts (ds := ds) b1
    rw [e1, e2]
    generalize gq ds ss.sum = g at *
    obtain ⟨x, hx⟩ := gd1
    obtain ⟨y, hy⟩ := gd2
    have ex : ds.sum / g = x := by rw [hx, Int.mul_ediv_cancel_left x (by omega)]
    have ey : ss.sum / g = y := by rw [hy, Int.mul_ediv_cancel_left y (by omega)]
    rw [ex, ey]
    have x1 : 1 ≤ x := by
      rcases Int.lt_or_le x 1 with z | z
      · have : g * x ≤ g * 0 := Int.mul_le_mul_of_nonneg_left (by omega) (by omega)
        omega
      · exact z
    have y1 : 1 ≤ y := by
      rcases Int.lt_or_le y 1 with z | z
      · have : g * y ≤ g * 0 := Int.mul_le_mul_of_nonneg_left (by omega) (by omega)
        omega
      · exact z
    have x2 : 1 * x ≤ g * x := Int.mul_le_mul_of_nonneg_right (by omega) (by omega)
    have y2 : 1 * y ≤ g * y := Int.mul_le_mul_of_nonneg_right (by omega) (by omega)
    refine ⟨x1, by omega, y1, by omega, fun d hd => ?_, ?_⟩
    · have hd2 := le_mx hd
      refine (Int.le_ediv_iff_mul_le (by omega)).mpr ?_
      have h1 : d * y ≤ mx ds * y := Int.mul_le_mul_of_nonneg_right hd2 (by omega)
      have h2 : g * (mx ds * y) < g * x := by
        rw [← hx, Int.mul_left_comm, ← hy]
        omega
      have h3 : mx ds * y < x := Int.lt_of_mul_lt_mul_left h2 (by omega)
      omega
    · refine (Int.le_ediv_iff_mul_le (by omega)).mpr ?_
      rw [hx, hy, Int.mul_comm g x, Int.mul_assoc]
      exact Int.le_refl _
theorem dec_eqI' {a b : Int} : decide (V.int a = V.int b) = decide (a = b) := by
  by_cases h : a = b
  · rw [decide_eq_true h, decide_eq_true (congrArg V.int h)]
  · rw [decide_eq_false h, decide_eq_false fun z => h (V.int.inj z)]
/-- is the pace smaller when k needs one day less? -/
def hlpb (ds ss : List Int) (k : Nat) : Bool := decide (1 < at' ds k) && decide (pX (ds.set k (at' ds k - 1)) ss.sum * pY ds ss.sum < pX ds ss.sum * pY (ds.set k (at' ds k - 1)) ss.sum)
def hl (ds ss : List Int) : Nat → List Int
  | 0 => []
  | i + 1 => if hlpb ds ss i = true then hl ds ss i ++ [(i : Int)] else hl ds ss i
theorem hl_len (ds ss : List Int) : ∀ i, (hl ds ss i).length ≤ i
  | 0 => Nat.le_refl _
  | i + 1 => by
    have := hl_len ds ss i
    unfold hl
    split
    · rw [List.length_append, List.length_singleton]
      omega
    · omega
/-- what evidence is worth -/
theorem shown_le {ds ss : List Int} (G : Good ds ss) : (∀ d ∈ ds, d * pY ds ss.sum - pX ds ss.sum * 1 ≤ 0) ∧ ds.sum / gq ds ss.sum * pY ds ss.sum - pX ds ss.sum * (ss.sum / gq ds ss.sum) ≤ 0 ∧
    ((∃ d ∈ ds, d * pY ds ss.sum - pX ds ss.sum * 1 = 0) ∨ ds.sum / gq ds ss.sum * pY ds ss.sum - pX ds ss.sum * (ss.sum / gq ds ss.sum) = 0) := by
  have b1 := G.b1
  obtain ⟨g0, gle, gd1, gd2⟩ := gq_facts (ds := ds) b1
  by_cases hc : ds.sum ≤ mx ds * ss.sum
  · obtain ⟨e1, e2⟩ := pX_slow hc
    rw [e1, e2]
    generalize gq ds ss.sum = g at *
    obtain ⟨x, hx⟩ := gd1
    obtain ⟨y, hy⟩ := gd2
    have ex : ds.sum / g = x := by rw [hx, Int.mul_ediv_cancel_left x (by omega)]
    have ey : ss.sum / g = y := by rw [hy, Int.mul_ediv_cancel_left y (by omega)]
    rw [ex, ey]
    refine ⟨fun d hd => by have := le_mx hd; omega, ?_, .inl ⟨mx ds, G.dys.mem, by omega⟩⟩
    have h1 : g * x ≤ g * (mx ds * y) := by
      rw [← hx, Int.mul_left_comm, ← hy]
      exact hc
    have h2 : x ≤ mx ds * y := Int.le_of_mul_le_mul_left h1 (by omega)
    omega
  · have e1 : pX ds ss.sum = ds.sum / gq ds ss.sum := by unfold pX; rw [if_neg hc]
    have e2 : pY ds ss.sum = ss.sum / gq ds ss.sum := by unfold pY; rw [if_neg hc]
    rw [e1, e2]
    generalize gq ds ss.sum = g at *
    obtain ⟨x, hx⟩ := gd1
    obtain ⟨y, hy⟩ := gd2
    have ex : ds.sum / g = x := by rw [hx, Int.mul_ediv_cancel_left x (by omega)]
    have ey : ss.sum / g = y := by rw [hy, Int.mul_ediv_cancel_left y (by omega)]
    rw [ex, ey]
    have y1 : 1 ≤ y := by
      rcases Int.lt_or_le y 1 with z | z
      · have : g * y ≤ g * 0 := Int.mul_le_mul_of_nonneg_left (by omega) (by omega)
        omega
      · exact z
    refine ⟨fun d hd => ?_, by omega, .inr (by omega)⟩
    have h1 : d * y ≤ mx ds * y := Int.mul_le_mul_of_nonneg_right (le_mx hd) (by omega)
    have h2 : g * (mx ds * y) < g * x := by
      rw [← hx, Int.mul_left_comm, ← hy]
      omega
    have h3 : mx ds * y < x := Int.lt_of_mul_lt_mul_left h2 (by omega)
    omega
/-- one book fewer than the fewest -/
theorem few_not {ds ss : List Int} (G : Good ds ss) (h : 1 < (ds.sum + mx ds - 1) / mx ds) : [pX ds ((ds.sum + mx ds - 1) / mx ds - 1), pY ds ((ds.sum + mx ds - 1) / mx ds - 1)] ≠ [mx ds, 1] := by
  have m1 := G.mx1
  have h1 := Int.emod_add_mul_ediv (ds.sum + mx ds - 1) (mx ds)
  have h3 := Int.emod_nonneg (ds.sum + mx ds - 1) (show mx ds ≠ 0 by omega)
  generalize (ds.sum + mx ds - 1) / mx ds = q at *
  have hc : ¬ ds.sum ≤ mx ds * (q - 1) := by
    rw [Int.mul_sub]
    omega
  intro e
  injection e with e1 e2
  injection e2 with e3
  have x1 : pX ds (q - 1) = ds.sum / gq ds (q - 1) := by unfold pX; rw [if_neg hc]
  have x2 : pY ds (q - 1) = (q - 1) / gq ds (q - 1) := by unfold pY; rw [if_neg hc]
  rw [x1] at e1
  rw [x2] at e3
  obtain ⟨g0, gle, gd1, gd2⟩ := gq_facts (ds := ds) (b := q - 1) (by omega)
  have a1 := Int.ediv_mul_cancel gd1
  have a2 := Int.ediv_mul_cancel gd2
  rw [e1] at a1
  rw [e3] at a2
  rw [Int.one_mul] at a2
  rw [a2] at a1
  omega
section
variable {P : Program} {w : World} {K : PySem.W.Frag} {mg : Str → Option Value} {base : Heap}
/-! ### judge_pace -/
def spJP (C : Addr) : Sp := fun vs H Q _ => ∃ p dx td ts ds ss, ∃ (l : Addr) (rs : List Int), vs = [.ref p, .ref l] ∧ RingAt C H p dx td ts ds ss ∧ H l = some (.lst (rs.map V.int)) ∧ (∀ y ∈ rs, 0 ≤ y ∧ y < (ds.length : Int)) ∧ rs.length ≤ ds.length ∧ (∀ i a b, rs[i]? = some a → rs[i + 1]? = some b → a = (b - 1) % (ds.length : Int)) ∧
  ((∃ a, rs = [a] ∧ ∀ H' t, Same H H' → H' t = some (.tup [.int (at' ds a), .int 1]) → Q (.ref t) H') ∨ (rs.length = ds.length ∧ ∀ H' t, Same H H' → H' t = some (.tup [.int (ds.sum / gq ds ss.sum), .int (ss.sum / gq ds ss.sum)]) → Q (.ref t) H'))
theorem ok_jp (T : Tx K mg) : FnOk P w K mg base CX0 4 T.a_judge_pace T.d_judge_pace P_judge_pace (spJP T.C) := by
  refine T.F_judge_pace.ok sc_judge_pace (fun vs H Q E h => ?_) (fun cdv A outer s H vs Q E hr h => ?_)
  · obtain ⟨p, dx, td, ts, ds, ss, l, rs, rfl, _⟩ := h
    rfl
  · obtain ⟨p, dx, td, ts, ds, ss, l, rs, rfl, R, hl, hall, hlen, hfol, q⟩ := h
    have hr2 : Room 2 _ := hr.mono (by decide)
    have hr1 : Room 1 _ := hr.mono (by decide)
    have nd := sc_judge_pace.nd
    have l8 := R.ok.l8
    have l2 := R.ok.l2
    have b1 := R.ok.b1
    have b12 := R.ok.b12
    refine ⟨_, pss_cons (ps_if (pt_not (pt_val (pe_callB call_isi (by rfl) T.z_isinstance (by decide +kernel) (pa_cons (pv 1) (pa_cons (pe_bltn (v := .ty "list") (u := .type "list") (by rfl) T.z_list (by decide +kernel) rfl) pa_nil))))) (pss_one ps_never) pss_nil)
      (pss_cons (ps_for PassesOwn.never rfl (pi_enum (by rfl) T.z_enumerate (pa_cons (pv 1) pa_nil)) (pg_tup rfl (pgs_cons (pg_name (i := 2) nd rfl (.inl rfl)) (pgs_cons (pg_name (i := 3) nd rfl (.inl rfl)) pgs_nil)))
        (pss_cons (ps_if (PW.pt (pw_or (pt_cmpR op_ge (pv 2) (pe_callB (call_lenI T.lenC T.lenF ((ok_len T).raw T.b_rlen .nil) hr2 pass0) (by rfl) T.z_len PySem.boot_len (pa_cons (pv 0) pa_nil)) (nomark _)) (pw_or1 (pt_not (pt_val (pe_call (ok_lies T) hr2 (by rfl) T.g_lies_between T.F_lies_between.kp T.b_lies_between .nil pass0 (pa_cons (pv 3) (pa_cons pe_int (pa_cons (pe_op op_sub (pe_callB (call_lenI T.lenC T.lenF ((ok_len T).raw T.b_rlen .nil) hr2 pass0) (by rfl) T.z_len PySem.boot_len (pa_cons (pv 0) pa_nil)) pe_int) pa_nil))))))))) (pss_one ps_never) pss_nil)
        (pss_one (ps_if (PW.pt (pw_and (pt_cmpR op_gt (pv 2) pe_int (nomark _)) (pw_and1 (pt_cmpR op_ne (pe_ix ix_list (pv 1) (pe_op op_sub (pv 2) pe_int) (fun _ _ => rfl)) (pe_call (ok_before T) hr (by rfl) T.g_reader_before T.F_reader_before.kp T.b_reader_before .nil pass0 (pa_cons (pv 0) (pa_cons (pv 3) pa_nil))) (nomark _))))) (pss_one ps_never) pss_nil))))
      (pss_cons (ps_if (pt_cmpR op_eq (pe_callB call_len_seq (by rfl) T.z_len PySem.boot_len (pa_cons (pv 1) pa_nil)) pe_int (nomark _)) (pss_one (ps_ret (pe_tup (pa_cons (pe_ix ix_tup (pe_prop (pv 0) T.cl T.q_rdays (ok_days T) hr2 T.b_rdays .nil pass0 rfl) (pe_ix ix_list (pv 1) pe_int (fun _ _ => rfl)) (fun _ _ => rfl)) (pa_cons pe_int pa_nil))))) pss_nil)
      (pss_cons (ps_if (pt_cmpR op_lt (pe_callB call_len_seq (by rfl) T.z_len PySem.boot_len (pa_cons (pv 1) pa_nil)) (pe_callB (call_lenI T.lenC T.lenF ((ok_len T).raw T.b_rlen .nil) hr2 pass0) (by rfl) T.z_len PySem.boot_len (pa_cons (pv 0) pa_nil)) (nomark _)) (pss_one ps_never) pss_nil)
      (pss_one (ps_ret (pe_call (ok_round T) hr1 (by rfl) T.g_round_pace T.F_round_pace.kp T.b_round_pace .nil pass0 (pa_cons (pe_prop (pv 0) T.cl T.q_rdays (ok_days T) hr2 T.b_rdays .nil pass0 rfl) (pa_cons (pe_prop (pv 0) T.cl T.q_rbooks (ok_books T) hr2 T.b_rbooks .nil pass0 rfl) pa_nil)))))))), ?_⟩
    refine ⟨.ref l, rfl, .ref l, .ty "list", .type "list", .type "list", true, rfl, .ty _, .base (.lst hl), kit_ty (by decide +kernel), true, rfl, iteF ?_⟩
    refine ⟨.ref l, rfl, l, _, rfl, .of hl, for_it walk_enum (fun i σ H' => (∃ y2 y3, σ = [some (.ref p), some (.ref l), y2, y3]) ∧ Same H H') ⟨⟨none, none, rfl⟩, Same.refl H⟩ (fun i σ H' _ h => .of (h.2 _ _ hl)) ?_ ?_⟩
    · rintro i z σ H1 H2 hi1 ⟨⟨y2, y3, rfl⟩, sm⟩ ⟨t, a, b, rfl, nt, rfl, ha, hb⟩
      have ha' : a = .int (i : Nat) := (Option.some.inj ha).symm
      subst ha'
      obtain ⟨c, hc, rfl⟩ := get_int hb
      rw [List.length_map] at hi1
      have hc2 := hall c (List.mem_of_getElem? hc)
      have s2 : Same H (upd H1 t (.tup [.int (i : Nat), .int c])) := sm.trans (same_upd nt)
      have ht2 : (upd H1 t (.tup [.int (i : Nat), .int c])) t = some (.tup [.int (i : Nat), .int c]) := upd_same
      refine ⟨t, _, rfl, .of ht2, rfl, _, _, rfl, _, _, rfl, rfl, ?_⟩
      generalize (upd H1 t (.tup [.int (i : Nat), .int c])) = H3 at s2 ht2 ⊢
      have R3 := R.same s2
      refine ⟨_, rfl, _, rfl, p, dx, _, rfl, R3.ob, p, dx, td, ts, ds, ss, rfl, R3, (ds.length : Int), rfl, by omega, by omega, _, _, rfl, rfl, _, rfl, ?_⟩
      rw [decide_eq_false (show ¬ (ds.length : Int) ≤ ((i : Nat) : Int) by omega)]
      refine iteF ?_
      refine ⟨_, rfl, _, rfl, p, dx, _, rfl, R3.ob, p, dx, td, ts, ds, ss, rfl, R3, (ds.length : Int), rfl, by omega, by omega, _, _, rfl, rfl, c, 0, (ds.length : Int) - 1, rfl, _, rfl, ?_⟩
      rw [in_lim hc2.1 (show c ≤ (ds.length : Int) - 1 by omega)]
      refine iteF ?_
      refine ⟨_, rfl, _, _, rfl, rfl, _, rfl, ?_⟩
      by_cases h0 : 0 < i
      · rw [decide_eq_true (show (0 : Int) < ((i : Nat) : Int) by omega)]
        obtain ⟨e, he⟩ : ∃ e, rs[i - 1]? = some e := ⟨_, List.getElem?_eq_getElem (by omega)⟩
        refine iteT ⟨_, rfl, _, rfl, _, _, rfl, rfl, l, _, _, .int e, rfl, rfl, .of (s2 _ _ hl), at_of (j := i - 1) (by omega) (by rw [List.getElem?_map, he]; rfl), _, rfl, _, rfl, p, dx, td, ts, ds, ss, c, rfl, R3, rfl, _, rfl, ?_⟩
        exact iteNS (congrArg V.int (hfol (i - 1) e c he (by rw [show i - 1 + 1 = i by omega]; exact hc))) ⟨⟨_, _, rfl⟩, s2⟩
      · rw [decide_eq_false (show ¬ (0 : Int) < ((i : Nat) : Int) by omega)]
        exact iteF (iteF ⟨⟨_, _, rfl⟩, s2⟩)
    · rintro σ H1 ⟨⟨y2, y3, rfl⟩, sm⟩
      have R1 := R.same sm
      have hl1 := sm _ _ hl
      have rdD : ∀ {Q' : VK} {E' : XK}, Q' (.ref td) H1 → spDays T.C [.ref p] H1 Q' E' := fun z => ⟨p, dx, td, ts, ds, ss, rfl, R1, z⟩
      refine ⟨_, rfl, l, _, rfl, .inl (.of hl1), rfl, _, rfl, ?_⟩
      rw [List.length_map, dec_eqI']
      rcases q with ⟨a, e, q⟩ | ⟨e, q⟩
      · subst e
        have ha := hall a (by simp)
        rw [decide_eq_true (show (([a] : List Int).length : Int) = 1 from rfl)]
        refine iteT ⟨_, rfl, p, dx, _, rfl, R1.ob, rdD ⟨_, rfl, l, _, 0, .int a, rfl, rfl, .of hl1, atI_nat (j := 0) rfl, td, _, _, _, rfl, rfl, .inl R1.td.rd, at_ix (by omega) ha.2, (by show 2 ≤ sizeLine; decide), fun t ht => ?_⟩⟩
        exact q _ t (sm.trans (same_upd ht)) upd_same
      · rw [decide_eq_false (show ¬ ((rs.length : Nat) : Int) = 1 by omega)]
        refine iteF ?_
        refine ⟨_, rfl, l, _, rfl, .inl (.of hl1), _, rfl, p, dx, _, rfl, R1.ob, p, dx, td, ts, ds, ss, rfl, R1, (ds.length : Int), rfl, by omega, by omega, _, _, rfl, rfl, _, rfl, ?_⟩
        rw [List.length_map, decide_eq_false (show ¬ ((rs.length : Nat) : Int) < (ds.length : Int) by omega)]
        refine iteF ⟨_, rfl, p, dx, _, rfl, R1.ob, rdD ⟨_, rfl, p, dx, _, rfl, R1.ob, p, dx, td, ts, ds, ss, rfl, R1, td, ds, ss.sum, rfl, R1.td, b1, by omega, fun H2 t s2 ht => ?_⟩⟩
        exact q H2 t (sm.trans s2) ht
/-! ### is_smaller, is_helpful, helpful_readers -/
def spSm : Sp := fun vs H Q _ => ∃ (u v : Addr) (a b c d : Int), vs = [.ref u, .ref v] ∧ H u = some (.tup [.int a, .int b]) ∧ H v = some (.tup [.int c, .int d]) ∧ 0 ≤ b ∧ b < 2 ^ 64 ∧ 0 ≤ d ∧ d < 2 ^ 64 ∧ Q (.bl (decide (a * d < c * b))) H
theorem ok_smaller (T : Tx K mg) : FnOk P w K mg base CX0 1 T.a_is_smaller T.d_is_smaller P_is_smaller spSm := by
  refine T.F_is_smaller.ok sc_is_smaller (fun vs H Q E h => ?_) (fun cdv A outer s H vs Q E hr h => ?_)
  · obtain ⟨u, v, a, b, c, d, rfl, _⟩ := h
    rfl
  · obtain ⟨u, v, a, b, c, d, rfl, hu, hv, b0, b1, d0, d1, q⟩ := h
    refine ⟨_, pss_one (ps_ret (pe_cmpR op_lt (pe_op op_mul (pe_ix ix_tup (pv 0) pe_int (fun _ _ => rfl)) (pe_ix ix_tup (pv 1) pe_int (fun _ _ => rfl))) (pe_op op_mul (pe_ix ix_tup (pv 1) pe_int (fun _ _ => rfl)) (pe_ix ix_tup (pv 0) pe_int (fun _ _ => rfl))) (nomark _))), ?_⟩
    exact ⟨_, rfl, u, _, 0, _, rfl, rfl, .of hu, atI_nat (j := 0) rfl, _, rfl, v, _, 1, _, rfl, rfl, .of hv, atI_nat (j := 1) rfl, _, _, rfl, rfl, .inr ⟨by omega, d1⟩, _, rfl, v, _, 0, _, rfl, rfl, .of hv, atI_nat (j := 0) rfl, _, rfl, u, _, 1, _, rfl, rfl, .of hu, atI_nat (j := 1) rfl, _, _, rfl, rfl, .inr ⟨by omega, b1⟩, _, _, rfl, rfl, q⟩
def spHlp (C : Addr) : Sp := fun vs H Q _ => ∃ p dx td ts ds ss, ∃ k : Nat, vs = [.ref p, .int (k : Int)] ∧ RingAt C H p dx td ts ds ss ∧ k < ds.length ∧ ∀ H', Same H H' → Q (.bl (hlpb ds ss k)) H'
theorem ok_hlp (T : Tx K mg) : FnOk P w K mg base CX0 7 T.a_is_helpful T.d_is_helpful P_is_helpful (spHlp T.C) := by
  refine T.F_is_helpful.ok sc_is_helpful (fun vs H Q E h => ?_) (fun cdv A outer s H vs Q E hr h => ?_)
  · obtain ⟨p, dx, td, ts, ds, ss, k, rfl, _⟩ := h
    rfl
  · obtain ⟨p, dx, td, ts, ds, ss, k, rfl, R, k1, q⟩ := h
    have hr4 : Room 4 _ := hr.mono (by decide)
    have hr2 : Room 2 _ := hr.mono (by decide)
    have hr1 : Room 1 _ := hr.mono (by decide)
    refine ⟨_, pss_cons (ps_if (pt_cmpR op_eq (pe_ix ix_tup (pe_prop (pv 0) T.cl T.q_rdays (ok_days T) hr2 T.b_rdays .nil pass0 rfl) (pv 1) (fun _ _ => rfl)) pe_int (nomark _)) (pss_one (ps_ret pe_bl)) pss_nil)
      (pss_one (ps_ret (pe_call (ok_smaller T) hr1 (by rfl) T.g_is_smaller T.F_is_smaller.kp T.b_is_smaller .nil pass0 (pa_cons (pe_prop (pe_meth (pv 0) T.cl T.mW (ok_with T) hr T.b_rwith_days .nil pass0 (pa_cons (pv 1) (pa_cons (pe_op op_sub (pe_ix ix_tup (pe_prop (pv 0) T.cl T.q_rdays (ok_days T) hr2 T.b_rdays .nil pass0 rfl) (pv 1) (fun _ _ => rfl)) pe_int) pa_nil))) T.cl T.q_rpace (ok_rpace T) hr4 T.b_rpace .nil pass0 rfl)
        (pa_cons (pe_prop (pv 0) T.cl T.q_rpace (ok_rpace T) hr4 T.b_rpace .nil pass0 rfl) pa_nil))))), ?_⟩
    have rdD : ∀ {Q' : VK} {E' : XK}, Q' (.ref td) H → spDays T.C [.ref p] H Q' E' := fun z => ⟨p, dx, td, ts, ds, ss, rfl, R, z⟩
    have d0 := R.ok.d1 _ (at_mem (l := ds) (by omega) (k : Int))
    refine ⟨_, rfl, p, dx, _, rfl, R.ob, rdD ⟨_, rfl, td, _, _, _, rfl, rfl, .inl R.td.rd, at_ix (by omega) (by omega), rfl, _, rfl, ?_⟩⟩
    rw [dec_eqI']
    by_cases h1 : at' ds (k : Int) = 1
    · rw [decide_eq_true h1]
      refine iteT ?_
      have := q H (Same.refl H)
      unfold hlpb at this
      rw [h1, decide_eq_false (show ¬ (1 : Int) < 1 by omega)] at this
      exact this
    · rw [decide_eq_false h1]
      have G2 := R.ok.set k (d := at' ds (k : Int) - 1) ⟨by omega, by omega⟩
      refine iteF ⟨_, rfl, p, dx, _, rfl, R.ob, flds_other (by decide +kernel) (by decide +kernel), _, rfl, _, rfl, p, dx, _, rfl, R.ob, rdD ⟨_, rfl, td, _, _, _, rfl, rfl, .inl R.td.rd, at_ix (by omega) (by omega), _, _, rfl, rfl, p, dx, td, ts, ds, ss, (k : Int), _, rfl, R, by omega, by omega, by omega, by omega, fun H2 p2 dx2 td2 ts2 s2 R2 => ?_⟩⟩
      rw [Int.toNat_natCast] at R2
      refine ⟨p2, dx2, _, rfl, R2.ob, p2, dx2, td2, ts2, _, ss, rfl, R2, fun H3 t3 s3 ht3 => ?_⟩
      have R3 := (R.same s2).same s3
      refine ⟨_, rfl, p, dx, _, rfl, R3.ob, p, dx, td, ts, ds, ss, rfl, R3, fun H4 t4 s4 ht4 => ?_⟩
      obtain ⟨_, _, a3, a4, _, _⟩ := less_ok R.ok
      obtain ⟨_, _, c3, c4, _, _⟩ := less_ok G2
      refine ⟨t3, t4, _, _, _, _, rfl, s4 _ _ ht3, ht4, by omega, by omega, by omega, by omega, ?_⟩
      have := q H4 ((s2.trans s3).trans s4)
      unfold hlpb at this
      rw [decide_eq_true (show (1 : Int) < at' ds (k : Int) by omega), Bool.true_and] at this
      exact this
def spHR (C : Addr) : Sp := fun vs H Q _ => ∃ p dx td ts ds ss, vs = [.ref p] ∧ RingAt C H p dx td ts ds ss ∧ ∀ H' l, Same H H' → H' l = some (.lst ((hl ds ss ds.length).map V.int)) → Q (.ref l) H'
theorem ok_hr (T : Tx K mg) : FnOk P w K mg base CX0 8 T.a_helpful_readers T.d_helpful_readers P_helpful_readers (spHR T.C) := by
  refine T.F_helpful_readers.ok sc_helpful_readers (fun vs H Q E h => ?_) (fun cdv A outer s H vs Q E hr h => ?_)
  · obtain ⟨p, dx, td, ts, ds, ss, rfl, _⟩ := h
    rfl
  · obtain ⟨p, dx, td, ts, ds, ss, rfl, R, q⟩ := h
    have hr2 : Room 2 _ := hr.mono (by decide)
    have nd := sc_helpful_readers.nd
    have l8 := R.ok.l8
    refine ⟨_, pss_one (ps_ret (pe_lc (own := [("reader", 1)]) rfl nd (pi_range1 (by rfl) T.z_range (pa_cons (pe_callB (call_lenI T.lenC T.lenF ((ok_len T).raw T.b_rlen .nil) hr2 pass0) (by rfl) T.z_len PySem.boot_len (pa_cons (pv 0) pa_nil)) pa_nil)) (blkOk_by (N := N_helpful_readers) (sc := defScope s_helpful_readers) (by decide +kernel))
      (fun _ _ _ _ _ => pg_name (i := 1) nd rfl (.inl rfl))
      (fun _ _ _ _ _ => pts_one (pt_val (pe_call (ok_hlp T) hr (by rfl) T.g_is_helpful T.F_is_helpful.kp T.b_is_helpful .nil pass0 (pa_cons (pv 0) (pa_cons (pv 1) pa_nil)))))
      (fun _ _ _ _ _ => pv 1))), ?_⟩
    refine ⟨_, rfl, p, dx, _, rfl, R.ob, p, dx, td, ts, ds, ss, rfl, R, (ds.length : Int), rfl, by omega, by omega, (ds.length : Int), rfl, by omega, by omega, fun L hL => lc_range (lo := 0) (n := ((ds.length : Int)).toNat) (fun i H' => H' L = some (.lst ((hl ds ss i).map V.int)) ∧ Same H H') ?_ ?_ ?_⟩
    · exact ⟨upd_same, same_upd hL⟩
    · rintro i H2 hi ⟨hacc, s2⟩
      have R2 := R.same s2
      refine ⟨rfl, ?_⟩
      refine ⟨_, rfl, _, rfl, p, dx, td, ts, ds, ss, i, ?_, R2, by omega, fun H3 s3 => ⟨_, rfl, ?_⟩⟩
      · show [V.ref p, V.int (0 + (i : Int))] ++ [] = _
        rw [show (0 : Int) + (i : Int) = i by omega]
        rfl
      have hacc3 := s3 _ _ hacc
      have hln := hl_len ds ss i
      cases hb : hlpb ds ss i with
      | true =>
        show if true = true then _ else _
        rw [if_pos rfl]
        refine ⟨_, rfl, _, hacc3, by rw [List.length_map]; exact small1000 (by omega), ?_, ?_⟩
        · rw [upd_same, map_snoc, show (0 : Int) + (i : Int) = i by omega, show hl ds ss (i + 1) = hl ds ss i ++ [(i : Int)] from if_pos hb]
        · exact fun b x e => by
            rw [upd_ne (ne_of_none e hL)]
            exact s3 _ _ (s2 b x e)
      | false =>
        show if false = true then _ else _
        rw [if_neg (by decide)]
        refine ⟨?_, s2.trans s3⟩
        rw [hacc3, show hl ds ss (i + 1) = hl ds ss i from if_neg (by rw [hb]; decide)]
    · rintro H2 ⟨hacc, s2⟩
      rw [Int.toNat_natCast] at hacc
      exact q H2 L s2 hacc
end
end Rp
namespace Rp
open PySem PySem.Spec PyProof.Rows L2 Rz Rm
structure Bj (C : Addr) (H : Hp) (t p dx td ts : Addr) (ds ss : List Int) : Prop where
  R : RingAt C H p dx td ts ds ss
  ht : H t = some (.tup [.ref td, .ref ts])
  hf : Tf H td (ds.map V.int)
theorem Bj.same {C : Addr} {H H' : Hp} {t p dx td ts : Addr} {ds ss : List Int} (b : Bj C H t p dx td ts ds ss) (s : Same H H') : Bj C H' t p dx td ts ds ss := ⟨b.R.same s, s _ _ b.ht, b.hf.same s⟩
theorem take_snoc' {α : Type} {l : List α} {i : Nat} {a : α} (h : l[i]? = some a) : l.take (i + 1) = l.take i ++ [a] := by
  rw [List.take_add_one, h]
  rfl
theorem Tf.but {H : Hp} {a x : Addr} {xs l : List V} {o : HO} (h : Tf H a xs) (hx : H x = some (.lst l)) : Tf (upd H x o) a xs := by
  obtain ⟨u, d, e⟩ := h
  exact ⟨u, d, by rw [upd_ne (ne_of e hx (by intro z; cases z))]; exact e⟩
theorem Bj.but {C : Addr} {H : Hp} {t p dx td ts x : Addr} {ds ss : List Int} {l : List V} {o : HO} (b : Bj C H t p dx td ts ds ss) (hx : H x = some (.lst l)) : Bj C (upd H x o) t p dx td ts ds ss := by
  refine ⟨⟨by rw [upd_ne (ne_of b.R.ob hx (by intro z; cases z))]; exact b.R.ob, ?_, ?_, b.R.ok⟩, by rw [upd_ne (ne_of b.ht hx (by intro z; cases z))]; exact b.ht, b.hf.but hx⟩
  · rcases b.R.td with h | ⟨u, d, h⟩
    · exact .inl (by rw [upd_ne (ne_of h hx (by intro z; cases z))]; exact h)
    · exact .inr ⟨u, d, by rw [upd_ne (ne_of h hx (by intro z; cases z))]; exact h⟩
  · rcases b.R.ts with h | ⟨u, d, h⟩
    · exact .inl (by rw [upd_ne (ne_of h hx (by intro z; cases z))]; exact h)
    · exact .inr ⟨u, d, by rw [upd_ne (ne_of h hx (by intro z; cases z))]; exact h⟩
def jS (a row t p : Addr) (N : Nat) (y5 y6 y7 y8 y9 y10 y11 y12 : Option V) : L2.St := [some (.ref a), some (.ref row), some (.ref t), some (.ref p), some (.int N), y5, y6, y7, y8, y9, y10, y11, y12]
/-- what is shown -/
def shl (ds ss : List Int) : List (List Int) := (List.range ds.length).map (fun k => [at' ds ((k : Nat) : Int), 1]) ++ [[ds.sum / gq ds ss.sum, ss.sum / gq ds ss.sum]]
def shk (ds : List Int) (i : Nat) : List (List Int) := (List.range i).map fun k => [at' ds ((k : Nat) : Int), 1]
theorem shk_succ (ds : List Int) (i : Nat) : shk ds (i + 1) = shk ds i ++ [[at' ds (i : Int), 1]] := by
  unfold shk
  rw [List.range_succ, List.map_append]
  rfl
theorem shk_len (ds : List Int) (i : Nat) : (shk ds i).length = i := by unfold shk; rw [List.length_map, List.length_range]
def val (ds ss : List Int) (l : List Int) : Int := l.getD 0 0 * pY ds ss.sum - pX ds ss.sum * l.getD 1 0
theorem shl_two {ds ss : List Int} {l : List Int} (h : l ∈ shl ds ss) : ∃ u v, l = [u, v] := by
  unfold shl at h
  rcases List.mem_append.mp h with z | z
  · obtain ⟨k, _, e⟩ := List.mem_map.mp z
    exact ⟨_, _, e.symm⟩
  · exact ⟨_, _, List.mem_singleton.mp z⟩
theorem shl_max {ds ss : List Int} (G : Good ds ss) {m : Int} (hm : m ∈ (shl ds ss).map (val ds ss)) (hmu : ∀ y ∈ (shl ds ss).map (val ds ss), y ≤ m) : m = 0 := by
  obtain ⟨a1, a2, a3⟩ := shown_le G
  have l2 := G.l2
  have hle : ∀ y ∈ (shl ds ss).map (val ds ss), y ≤ 0 := fun y hy => by
    obtain ⟨l, hl, rfl⟩ := List.mem_map.mp hy
    unfold shl at hl
    rcases List.mem_append.mp hl with z | z
    · obtain ⟨k, _, e⟩ := List.mem_map.mp z
      rw [← e]
      exact a1 _ (at_mem (by omega) _)
    · rw [List.mem_singleton.mp z]
      exact a2
  have h0 : (0 : Int) ∈ (shl ds ss).map (val ds ss) := by
    rcases a3 with ⟨d, hd, e⟩ | e
    · obtain ⟨j, hj⟩ := List.getElem?_of_mem hd
      have hjl := (List.getElem?_eq_some_iff.mp hj).1
      refine List.mem_map.mpr ⟨[at' ds (j : Int), 1], ?_, ?_⟩
      · unfold shl
        exact List.mem_append_left _ (List.mem_map.mpr ⟨j, List.mem_range.mpr hjl, rfl⟩)
      · rw [at_nat hj]
        exact e
    · refine List.mem_map.mpr ⟨[ds.sum / gq ds ss.sum, ss.sum / gq ds ss.sum], ?_, e⟩
      unfold shl
      exact List.mem_append_right _ (by simp)
  have h1 := hle m hm
  have h2 := hmu 0 h0
  omega
theorem iot_get {n i : Nat} {a : Int} (h : (iot n)[i]? = some a) : a = (i : Int) ∧ i < n := by
  have hi := (List.getElem?_eq_some_iff.mp h).1
  rw [iot_len] at hi
  unfold iot at h
  rw [List.getElem?_map, List.getElem?_range hi] at h
  exact ⟨(Option.some.inj h).symm, hi⟩
theorem iot_in {n : Nat} : ∀ y ∈ iot n, 0 ≤ y ∧ y < (n : Int) := fun y h => by
  obtain ⟨i, hi⟩ := List.getElem?_of_mem h
  obtain ⟨e, hl⟩ := iot_get hi
  omega
theorem iot_fol {n : Nat} : ∀ i a b, (iot n)[i]? = some a → (iot n)[i + 1]? = some b → a = (b - 1) % (n : Int) := fun i a b h1 h2 => by
  obtain ⟨e1, l1⟩ := iot_get h1
  obtain ⟨e2, l2⟩ := iot_get h2
  rw [e1, e2, show ((i + 1 : Nat) : Int) - 1 = i by omega, Int.emod_eq_of_lt (by omega) (by omega)]
section
variable {P : Program} {w : World} {K : PySem.W.Frag} {mg : Str → Option Value} {base : Heap}
def stBody : Stmt → List Stmt
  | .For _ _ b _ _ => b
  | _ => []
abbrev bs (j : Nat) : Stmt := (defBody s_law).getD j (.Pass ⟨0, 0, 0, 0⟩)
abbrev fl (j : Nat) : Stmt := (stBody (bs 13)).getD j (.Pass ⟨0, 0, 0, 0⟩)
abbrev XL (P : Program) (w : World) (K : PySem.W.Frag) (mg : Str → Option Value) (base : Heap) (f : Addr) (cdv : Value) (A : Around) (outer : List Env) (s : Shared) (H0 : Hp) (E : XK) : Cx := (cxOf CX0 P w K mg base N_law "law" (defScope s_law) f cdv A outer s H0 E).nox
variable {f : Addr} {cdv : Value} {A : Around} {outer : List Env} {s : Shared} {H0 : Hp} {E : XK}
theorem lx_b3 (T : Tx K mg) (hr : Room 11 (XL P w K mg base f cdv A outer s H0 E).A) : ∃ tt : TS, PS (XL P w K mg base f cdv A outer s H0 E) (bs 3) tt ∧
    ∀ (D : Ends) (H : Hp) (a row t p dx td ts : Addr) (ds ss : List Int) (y5 y6 y7 y8 y9 y10 y11 y12 : Option V), Bj T.C H t p dx td ts ds ss →
      (∀ H', Same H H' → D.nx (jS a row t p ds.length y5 y6 y7 y8 y9 y10 y11 y12) H') →
      tt D (jS a row t p ds.length y5 y6 y7 y8 y9 y10 y11 y12) H := by
  have hr4 : Room 4 _ := hr.mono (by decide)
  have hr3 : Room 3 _ := hr.mono (by decide)
  have nd := sc_law.nd
  refine ⟨_, ps_if (pt_cmpR (op_neD hr.units) (pe_call (ok_jp T) hr4 (by rfl) T.g_judge_pace T.F_judge_pace.kp T.b_judge_pace .nil pass0 (pa_cons (pv 3) (pa_cons (pe_call (ok_paceR T) hr3 (by rfl) T.g_pace_readers T.F_pace_readers.kp T.b_pace_readers .nil pass0 (pa_cons (pv 3) pa_nil)) pa_nil))) (pe_prop (pv 3) T.cl T.q_rpace (ok_rpace T) hr4 T.b_rpace .nil pass0 rfl) (nomark _)) (pss_one (ps_ret pe_bl)) pss_nil, ?_⟩
  intro D H a row t p dx td ts ds ss y5 y6 y7 y8 y9 y10 y11 y12 B nx
  have b1 := B.R.ok.b1
  have l2 := B.R.ok.l2
  refine ⟨_, rfl, _, rfl, p, dx, td, ts, ds, ss, rfl, B.R, B.hf, fun H1 l rs s1 hl _ hrs => ?_⟩
  have B1 := B.same s1
  have fin : ∀ H2 t2, Same H1 H2 → H2 t2 = some (.tup [.int (pX ds ss.sum), .int (pY ds ss.sum)]) → tProp T.C (spRPace T.C) [] E0 (tVar 3) (jS a row t p ds.length y5 y6 y7 y8 y9 y10 y11 y12) H2 fun y H3 => rNeD K (.ref t2) y H3 fun x H4 => ∃ k, x = .bl k ∧ (fun b H5 => if b = true then tRet (tC (.bl false)) D (jS a row t p ds.length y5 y6 y7 y8 y9 y10 y11 y12) H5 else D.nx (jS a row t p ds.length y5 y6 y7 y8 y9 y10 y11 y12) H5) k H4 := fun H2 t2 s2 h2 => by
    have B2 := B1.same s2
    refine ⟨_, rfl, p, dx, _, rfl, B2.R.ob, p, dx, td, ts, ds, ss, rfl, B2.R, fun H3 t3 s3 h3 => ?_⟩
    refine tup_ne (as := [pX ds ss.sum, pY ds ss.sum]) (bs := [pX ds ss.sum, pY ds ss.sum]) (s3 _ _ h2) h3 ⟨_, rfl, ?_⟩
    exact iteNS rfl (nx H3 ((s1.trans s2).trans s3))
  rcases hrs with ⟨hc, j, rfl, hj, _⟩ | ⟨hc, rfl⟩
  · have hjl := (List.getElem?_eq_some_iff.mp hj).1
    obtain ⟨e1, e2⟩ := pX_slow hc
    refine ⟨p, dx, td, ts, ds, ss, l, [(j : Int)], rfl, B1.R, hl, fun y hy => by rw [List.mem_singleton.mp hy]; omega, by simp only [List.length_cons, List.length_nil]; omega, fun i u v h1 h2 => ?_, .inl ⟨(j : Int), rfl, fun H2 t2 s2 h2 => ?_⟩⟩
    · cases i <;> simp at h2
    · rw [at_nat hj] at h2
      exact fin H2 t2 s2 (by rw [e1, e2]; exact h2)
  · refine ⟨p, dx, td, ts, ds, ss, l, iot ds.length, rfl, B1.R, hl, iot_in, by rw [iot_len]; exact Nat.le_refl _, iot_fol, .inr ⟨iot_len _, fun H2 t2 s2 h2 => ?_⟩⟩
    refine fin H2 t2 s2 ?_
    unfold pX pY
    rw [if_neg hc, if_neg hc]
    exact h2
theorem lx_b4 (T : Tx K mg) (hr : Room 11 (XL P w K mg base f cdv A outer s H0 E).A) : ∃ tt : TS, PS (XL P w K mg base f cdv A outer s H0 E) (bs 4) tt ∧
    ∀ (D : Ends) (H : Hp) (a row t p dx td ts : Addr) (ds ss : List Int) (y5 y6 y7 y8 y9 y10 y11 y12 : Option V), Bj T.C H t p dx td ts ds ss →
      (∀ H', Same H H' → D.nx (jS a row t p ds.length y5 y6 y7 y8 y9 y10 y11 y12) H') →
      tt D (jS a row t p ds.length y5 y6 y7 y8 y9 y10 y11 y12) H := by
  have hr4 : Room 4 _ := hr.mono (by decide)
  have hr2 : Room 2 _ := hr.mono (by decide)
  have nd := sc_law.nd
  refine ⟨_, ps_if (pt_cmpR (op_neD hr.units) (pe_call (ok_pacew T) hr4 (by rfl) T.g_pace_with T.F_pace_with.kp T.b_pace_with .nil pass0 (pa_cons (pv 3) (pa_cons (pe_prop (pv 3) T.cl T.q_rbooks (ok_books T) hr2 T.b_rbooks .nil pass0 rfl) pa_nil))) (pe_prop (pv 3) T.cl T.q_rpace (ok_rpace T) hr4 T.b_rpace .nil pass0 rfl) (nomark _)) (pss_one (ps_ret pe_bl)) pss_nil, ?_⟩
  intro D H a row t p dx td ts ds ss y5 y6 y7 y8 y9 y10 y11 y12 B nx
  have b1 := B.R.ok.b1
  have b12 := B.R.ok.b12
  refine ⟨_, rfl, _, rfl, p, dx, _, rfl, B.R.ob, p, dx, td, ts, ds, ss, rfl, B.R, p, dx, td, ts, ds, ss, ss.sum, rfl, B.R, b1, by omega, fun H1 t1 s1 h1 => ?_⟩
  have B1 := B.same s1
  refine ⟨_, rfl, p, dx, _, rfl, B1.R.ob, p, dx, td, ts, ds, ss, rfl, B1.R, fun H3 t3 s3 h3 => ?_⟩
  refine tup_ne (as := [pX ds ss.sum, pY ds ss.sum]) (bs := [pX ds ss.sum, pY ds ss.sum]) (s3 _ _ h1) h3 ⟨_, rfl, ?_⟩
  exact iteNS rfl (nx H3 (s1.trans s3))
theorem lx_b5 (T : Tx K mg) (hr : Room 11 (XL P w K mg base f cdv A outer s H0 E).A) : ∃ tt : TS, PS (XL P w K mg base f cdv A outer s H0 E) (bs 5) tt ∧
    ∀ (D : Ends) (H : Hp) (a row t p dx td ts : Addr) (ds ss : List Int) (y5 y6 y7 y8 y9 y10 y11 y12 : Option V), Bj T.C H t p dx td ts ds ss →
      (∀ H' m xs, Same H H' → H' m = some (.lst xs) → Tups H' xs (shl ds ss) → D.nx (jS a row t p ds.length (some (.ref m)) y6 y7 y8 y9 y10 y11 y12) H') →
      tt D (jS a row t p ds.length y5 y6 y7 y8 y9 y10 y11 y12) H := by
  have hr4 : Room 4 _ := hr.mono (by decide)
  have nd := sc_law.nd
  refine ⟨_, ps_set (i := 5) nd rfl (.inl rfl) (pe_op op_cat (pe_lc (own := [("_law_k", 9)]) rfl nd (pi_range1 (by rfl) T.z_range (pa_cons (pv 4) pa_nil)) (blkOk_by (N := N_law) (sc := defScope s_law) (by decide +kernel))
      (fun _ _ _ _ _ => pg_name (i := 9) nd rfl (.inl rfl)) (fun _ _ _ _ _ => pts_nil)
      (fun _ _ _ _ _ => (pe_call (ok_jp T) hr4 (by rfl) T.g_judge_pace T.F_judge_pace.kp T.b_judge_pace .nil pass0 (pa_cons (pv 3) (pa_cons (pe_lst (pa_cons (pv 9) pa_nil)) pa_nil))))) (pe_lst (pa_cons (pe_call (ok_jp T) hr4 (by rfl) T.g_judge_pace T.F_judge_pace.kp T.b_judge_pace .nil pass0 (pa_cons (pv 3) (pa_cons (pe_listRg rfl (by rfl) T.z_list (prg_1 (by rfl) T.z_range (pv 4))) pa_nil))) pa_nil))), ?_⟩
  intro D H a row t p dx td ts ds ss y5 y6 y7 y8 y9 y10 y11 y12 B nx
  have l8 := B.R.ok.l8
  refine ⟨_, rfl, _, rfl, by omega, by omega, fun L hL => lc_range (lo := 0) (n := ((ds.length : Int)).toNat) (fun i H' => ∃ xs, H' L = some (.lst xs) ∧ Tups H' xs (shk ds i) ∧ Same H H') ?_ ?_ ?_⟩
  · exact ⟨[], upd_same, .nil, same_upd hL⟩
  · rintro i H1 hi ⟨xs, hxs, htt, s1⟩
    have B1 := B.same s1
    refine ⟨rfl, lc_keep ?_⟩
    refine ⟨_, rfl, _, rfl, (by show 1 ≤ sizeLine; decide), fun l hl => ?_⟩
    have s2 := same_upd (o := .lst [.int (0 + (i : Int))]) hl
    refine ⟨p, dx, td, ts, ds, ss, l, [0 + (i : Int)], rfl, (B1.same s2).R, upd_same, fun y hy => by rw [List.mem_singleton.mp hy]; omega, by simp only [List.length_cons, List.length_nil]; have := B.R.ok.l2; omega, fun j u v h1 h2 => ?_, .inl ⟨_, rfl, fun H3 t3 s3 h3 => ?_⟩⟩
    · cases j <;> simp at h2
    have s23 := s2.trans s3
    have lx := htt.length
    rw [shk_len] at lx
    have hxs3 := s23 _ _ hxs
    refine ⟨xs, hxs3, by rw [sizeLine_eq]; omega, xs ++ [.ref t3], upd_same, ?_, ?_⟩
    · rw [shk_succ]
      have hne : t3 ≠ L := ne_of h3 hxs3 (by intro z; cases z)
      refine Tups.snoc ⟨t3, rfl, ?_⟩ ((htt.same s23).mono fun b ys e => ?_)
      · rw [upd_ne hne, h3, show (0 : Int) + (i : Int) = i by omega]
        rfl
      · rw [upd_ne (ne_of e hxs3 (by intro z; cases z))]
        exact e
    · exact fun b x e => by
        rw [upd_ne (ne_of_none e hL)]
        exact s23 _ _ (s1 b x e)
  · rintro H1 ⟨xs, hxs, htt, s1⟩
    rw [Int.toNat_natCast] at htt
    have B1 := B.same s1
    refine ⟨_, rfl, _, rfl, _, rfl, .of_le (by omega) (by omega) (by omega) (by omega), fun l hl => ?_⟩
    have s2 := same_upd (o := .lst (rgV 0 (ds.length : Int))) hl
    refine ⟨p, dx, td, ts, ds, ss, l, iot ds.length, rfl, (B1.same s2).R, by rw [upd_same, rgV_iot], iot_in, by rw [iot_len]; exact Nat.le_refl _, iot_fol, .inr ⟨iot_len _, fun H3 t3 s3 h3 => ⟨(by show 1 ≤ sizeLine; decide), fun l4 hl4 => ?_⟩⟩⟩
    have s4 := same_upd (o := .lst [.ref t3]) hl4
    have s24 := (s2.trans s3).trans s4
    have lx := htt.length
    rw [shk_len] at lx
    refine ⟨L, l4, xs, [.ref t3], rfl, rfl, s24 _ _ hxs, upd_same, by rw [sizeLine_eq]; simp only [List.length_cons, List.length_nil]; omega, fun m hm => ?_⟩
    have s5 := same_upd (o := .lst (xs ++ [.ref t3])) hm
    refine nx _ m (xs ++ [.ref t3]) ((s1.trans s24).trans s5) upd_same ?_
    have h3' : H3 t3 = some (.tup (([ds.sum / gq ds ss.sum, ss.sum / gq ds ss.sum] : List Int).map V.int)) := h3
    exact Tups.snoc ⟨t3, rfl, s5 _ _ (s4 _ _ h3')⟩ ((htt.same s24).same s5)
theorem lx_b6 (T : Tx K mg) (hr : Room 11 (XL P w K mg base f cdv A outer s H0 E).A) : ∃ tt : TS, PS (XL P w K mg base f cdv A outer s H0 E) (bs 6) tt ∧
    ∀ (D : Ends) (H : Hp) (a row t p dx td ts : Addr) (ds ss : List Int) (m : Addr) (xs : List V) (y6 y7 y8 y9 y10 y11 y12 : Option V), Bj T.C H t p dx td ts ds ss → H m = some (.lst xs) → Tups H xs (shl ds ss) →
      (∀ H', Same H H' → D.nx (jS a row t p ds.length (some (.ref m)) y6 y7 y8 y9 y10 y11 y12) H') →
      tt D (jS a row t p ds.length (some (.ref m)) y6 y7 y8 y9 y10 y11 y12) H := by
  have hr4 : Room 4 _ := hr.mono (by decide)
  have nd := sc_law.nd
  refine ⟨_, ps_if (pt_cmpR op_ne (pe_callB (cr_max rfl) (by rfl) T.z_max (by decide +kernel) (pa_cons (pe_lc (own := [("_law_one", 12)]) rfl nd (pi_list (pv 5)) (blkOk_by (N := N_law) (sc := defScope s_law) (by decide +kernel))
      (fun _ _ _ _ _ => pg_name (i := 12) nd rfl (.inl rfl)) (fun _ _ _ _ _ => pts_nil)
      (fun _ _ _ _ _ => (pe_op op_sub (pe_op op_mul (pe_ix (r := rIxT K) ix_tup (pv 12) pe_int (fun _ _ => rfl)) (pe_ix (r := rIxT K) ix_tup (pe_prop (pv 3) T.cl T.q_rpace (ok_rpace T) hr4 T.b_rpace .nil pass0 rfl) pe_int (fun _ _ => rfl))) (pe_op op_mul (pe_ix (r := rIxT K) ix_tup (pe_prop (pv 3) T.cl T.q_rpace (ok_rpace T) hr4 T.b_rpace .nil pass0 rfl) pe_int (fun _ _ => rfl)) (pe_ix (r := rIxT K) ix_tup (pv 12) pe_int (fun _ _ => rfl)))))) pa_nil)) pe_int (nomark _)) (pss_one (ps_ret pe_bl)) pss_nil, ?_⟩
  intro D H a row t p dx td ts ds ss m xs y6 y7 y8 y9 y10 y11 y12 B hm htt nx
  have l8 := B.R.ok.l8
  have lx := htt.length
  obtain ⟨_, _, a3, a4, _, _⟩ := less_ok B.R.ok
  obtain ⟨a1, a2, _, _, _, _⟩ := less_ok B.R.ok
  have lsh : (shl ds ss).length = ds.length + 1 := by
    unfold shl
    rw [List.length_append, List.length_map, List.length_range]
    rfl
  refine ⟨_, rfl, m, rfl, ⟨_, .of hm⟩, fun L hL => lc_list (K := K) (a := m) (xs := xs) (fun i H' => H' L = some (.lst ((((shl ds ss).take i).map (val ds ss)).map V.int)) ∧ Same H H') ?_ ?_ ?_ ?_⟩
  · exact ⟨by rw [upd_same]; rfl, same_upd hL⟩
  · exact fun i H' _ h => .of (h.2 _ _ hm)
  · rintro i z H1 hz ⟨hacc, s1⟩
    have hil := (List.getElem?_eq_some_iff.mp hz).1
    obtain ⟨l, hl⟩ : ∃ l, (shl ds ss)[i]? = some l := ⟨_, List.getElem?_eq_getElem (by omega)⟩
    obtain ⟨u, v, e⟩ := shl_two (List.mem_of_getElem? hl)
    obtain ⟨tz, h1, h2⟩ := htt.get hl
    rw [h1] at hz
    cases hz
    have B1 := B.same s1
    have h3 := s1 _ _ h2
    rw [e] at h3
    refine ⟨rfl, lc_keep ?_⟩
    refine ⟨_, rfl, tz, _, 0, .int u, rfl, rfl, .of h3, atI_nat (j := 0) rfl, _, rfl, p, dx, _, rfl, B1.R.ob, p, dx, td, ts, ds, ss, rfl, B1.R, fun H2 t2 s2 ht2 => ?_⟩
    have B2 := B1.same s2
    refine ⟨t2, _, 1, _, rfl, rfl, .of ht2, atI_nat (j := 1) rfl, _, _, rfl, rfl, .inr ⟨by omega, by omega⟩, _, rfl, p, dx, _, rfl, B2.R.ob, p, dx, td, ts, ds, ss, rfl, B2.R, fun H3 t3 s3 ht3 => ?_⟩
    refine ⟨t3, _, 0, _, rfl, rfl, .of ht3, atI_nat (j := 0) rfl, _, rfl, tz, _, 1, .int v, rfl, rfl, .of (s3 _ _ (s2 _ _ h3)), atI_nat (j := 1) rfl, _, _, rfl, rfl, .inl ⟨by omega, by omega⟩, _, _, rfl, rfl, ?_⟩
    have s13 := (s1.trans s2).trans s3
    refine ⟨_, s3 _ _ (s2 _ _ hacc), by rw [List.length_map, List.length_map, List.length_take]; exact small1000 (by omega), ?_, ?_⟩
    · have ev : ((shl ds ss).take i ++ [l]).map (val ds ss) = ((shl ds ss).take i).map (val ds ss) ++ [val ds ss l] := List.map_append
      rw [upd_same, map_snoc, take_snoc' hl, ev, e]
      rfl
    · exact fun b x e => by
        rw [upd_ne (ne_of_none e hL)]
        exact s13 b x e
  · rintro H1 ⟨hacc, s1⟩
    rw [lx, List.take_length] at hacc
    refine ⟨L, _, rfl, .of hacc, by rw [List.length_map]; omega, fun mm h1 h2 => ⟨rfl, _, rfl, ?_⟩⟩
    exact iteNS (congrArg V.int (shl_max B.R.ok h1 h2)) (nx H1 s1)
theorem lx_b7 (T : Tx K mg) (hr : Room 11 (XL P w K mg base f cdv A outer s H0 E).A) : ∃ tt : TS, PS (XL P w K mg base f cdv A outer s H0 E) (bs 7) tt ∧
    ∀ (D : Ends) (H : Hp) (a row t p dx td ts : Addr) (ds ss : List Int) (y5 y6 y7 y8 y9 y10 y11 y12 : Option V), Bj T.C H t p dx td ts ds ss →
      D.nx (jS a row t p ds.length y5 (some (.int ((ds.sum + mx ds - 1) / mx ds))) y7 y8 y9 y10 y11 y12) H →
      tt D (jS a row t p ds.length y5 y6 y7 y8 y9 y10 y11 y12) H := by
  have hr3 : Room 3 _ := hr.mono (by decide)
  have nd := sc_law.nd
  refine ⟨_, ps_set (i := 6) nd rfl (.inl rfl) (pe_call (ok_fewest T) hr3 (by rfl) T.g_fewest_books T.F_fewest_books.kp T.b_fewest_books .nil pass0 (pa_cons (pv 3) pa_nil)), ?_⟩
  intro D H a row t p dx td ts ds ss y5 y6 y7 y8 y9 y10 y11 y12 B nx
  exact ⟨_, rfl, p, dx, td, ts, ds, ss, rfl, B.R, nx⟩
theorem lx_b8 (T : Tx K mg) (hr : Room 11 (XL P w K mg base f cdv A outer s H0 E).A) : ∃ tt : TS, PS (XL P w K mg base f cdv A outer s H0 E) (bs 8) tt ∧
    ∀ (D : Ends) (H : Hp) (a row t p dx td ts : Addr) (ds ss : List Int) (y5 y6 y7 y8 y9 y10 y11 y12 : Option V), Bj T.C H t p dx td ts ds ss →
      (∀ H' b, Same H H' → H' b = some (.tup [.int (mx ds), .int 1]) → D.nx (jS a row t p ds.length y5 y6 (some (.ref b)) y8 y9 y10 y11 y12) H') →
      tt D (jS a row t p ds.length y5 y6 y7 y8 y9 y10 y11 y12) H := by
  have hr4 : Room 4 _ := hr.mono (by decide)
  have nd := sc_law.nd
  refine ⟨_, ps_set (i := 7) nd rfl (.inl rfl) (pe_call (ok_pacew T) hr4 (by rfl) T.g_pace_with T.F_pace_with.kp T.b_pace_with .nil pass0 (pa_cons (pv 3) (pa_cons pe_int pa_nil))), ?_⟩
  intro D H a row t p dx td ts ds ss y5 y6 y7 y8 y9 y10 y11 y12 B nx
  refine ⟨_, rfl, p, dx, td, ts, ds, ss, 1000, rfl, B.R, by decide, by decide, fun H1 t1 s1 h1 => nx H1 t1 s1 ?_⟩
  have m1 := B.R.ok.mx1
  have hT := sum_bounds B.R.ok.d1
  have l8 := B.R.ok.l8
  obtain ⟨e1, e2⟩ := pX_slow (ds := ds) (b := 1000) (by omega)
  rw [e1, e2] at h1
  exact h1
theorem lx_b9 (T : Tx K mg) (hr : Room 11 (XL P w K mg base f cdv A outer s H0 E).A) : ∃ tt : TS, PS (XL P w K mg base f cdv A outer s H0 E) (bs 9) tt ∧
    ∀ (D : Ends) (H : Hp) (a row t p dx td ts : Addr) (ds ss : List Int) (b : Addr) (y5 y8 y9 y10 y11 y12 : Option V), Bj T.C H t p dx td ts ds ss → H b = some (.tup [.int (mx ds), .int 1]) →
      (∀ H', Same H H' → D.nx (jS a row t p ds.length y5 (some (.int ((ds.sum + mx ds - 1) / mx ds))) (some (.ref b)) y8 y9 y10 y11 y12) H') →
      tt D (jS a row t p ds.length y5 (some (.int ((ds.sum + mx ds - 1) / mx ds))) (some (.ref b)) y8 y9 y10 y11 y12) H := by
  have hr4 : Room 4 _ := hr.mono (by decide)
  have nd := sc_law.nd
  refine ⟨_, ps_if (pt_cmpR (op_neD hr.units) (pe_call (ok_pacew T) hr4 (by rfl) T.g_pace_with T.F_pace_with.kp T.b_pace_with .nil pass0 (pa_cons (pv 3) (pa_cons (pv 6) pa_nil))) (pv 7) (nomark _)) (pss_one (ps_ret pe_bl)) pss_nil, ?_⟩
  intro D H a row t p dx td ts ds ss b y5 y8 y9 y10 y11 y12 B hb nx
  obtain ⟨f1, f2, f3⟩ := few_ok B.R.ok
  refine ⟨_, rfl, _, rfl, p, dx, td, ts, ds, ss, _, rfl, B.R, f1, f2, fun H1 t1 s1 h1 => ?_⟩
  obtain ⟨e1, e2⟩ := pX_slow f3
  rw [e1, e2] at h1
  refine ⟨_, rfl, tup_ne (as := [mx ds, 1]) (bs := [mx ds, 1]) h1 (s1 _ _ hb) ⟨_, rfl, ?_⟩⟩
  exact iteNS rfl (nx H1 s1)
theorem lx_b10 (T : Tx K mg) (hr : Room 11 (XL P w K mg base f cdv A outer s H0 E).A) : ∃ tt : TS, PS (XL P w K mg base f cdv A outer s H0 E) (bs 10) tt ∧
    ∀ (D : Ends) (H : Hp) (a row t p dx td ts : Addr) (ds ss : List Int) (b : Addr) (y5 y8 y9 y10 y11 y12 : Option V), Bj T.C H t p dx td ts ds ss → H b = some (.tup [.int (mx ds), .int 1]) →
      (∀ H', Same H H' → D.nx (jS a row t p ds.length y5 (some (.int ((ds.sum + mx ds - 1) / mx ds))) (some (.ref b)) y8 y9 y10 y11 y12) H') →
      tt D (jS a row t p ds.length y5 (some (.int ((ds.sum + mx ds - 1) / mx ds))) (some (.ref b)) y8 y9 y10 y11 y12) H := by
  have hr4 : Room 4 _ := hr.mono (by decide)
  have nd := sc_law.nd
  refine ⟨_, ps_if (PW.pt (pw_and (pt_cmpR op_gt (pv 6) pe_int (nomark _)) (pw_and1 (pt_cmpR (op_eqD hr.units) (pe_call (ok_pacew T) hr4 (by rfl) T.g_pace_with T.F_pace_with.kp T.b_pace_with .nil pass0 (pa_cons (pv 3) (pa_cons (pe_op op_sub (pv 6) pe_int) pa_nil))) (pv 7) (nomark _))))) (pss_one (ps_ret pe_bl)) pss_nil, ?_⟩
  intro D H a row t p dx td ts ds ss b y5 y8 y9 y10 y11 y12 B hb nx
  obtain ⟨f1, f2, f3⟩ := few_ok B.R.ok
  refine ⟨_, rfl, _, _, rfl, rfl, _, rfl, ?_⟩
  by_cases h : 1 < (ds.sum + mx ds - 1) / mx ds
  · rw [decide_eq_true h]
    refine iteT ⟨_, rfl, _, rfl, _, _, rfl, rfl, p, dx, td, ts, ds, ss, _, rfl, B.R, by omega, by omega, fun H1 t1 s1 h1 => ?_⟩
    refine ⟨_, rfl, tup_eq (as := [pX ds ((ds.sum + mx ds - 1) / mx ds - 1), pY ds ((ds.sum + mx ds - 1) / mx ds - 1)]) (bs := [mx ds, 1]) h1 (s1 _ _ hb) ⟨_, rfl, ?_⟩⟩
    rw [decide_eq_false (few_not B.R.ok h)]
    exact iteF (nx H1 s1)
  · rw [decide_eq_false h]
    exact iteF (iteF (nx H (Same.refl H)))
theorem lx_b11 (T : Tx K mg) (hr : Room 11 (XL P w K mg base f cdv A outer s H0 E).A) : ∃ tt : TS, PS (XL P w K mg base f cdv A outer s H0 E) (bs 11) tt ∧
    ∀ (D : Ends) (H : Hp) (a row t p dx td ts : Addr) (ds ss : List Int) (b : Addr) (y5 y6 y8 y9 y10 y11 y12 : Option V), Bj T.C H t p dx td ts ds ss → H b = some (.tup [.int (mx ds), .int 1]) →
      (∀ H', Same H H' → D.nx (jS a row t p ds.length y5 y6 (some (.ref b)) y8 y9 y10 y11 y12) H') →
      tt D (jS a row t p ds.length y5 y6 (some (.ref b)) y8 y9 y10 y11 y12) H := by
  have hr4 : Room 4 _ := hr.mono (by decide)
  have nd := sc_law.nd
  refine ⟨_, ps_if (pt_cmpR (op_neD hr.units) (pv 7) (pe_tup (pa_cons (pe_callB (cr_maxT rfl) (by rfl) T.z_max (by decide +kernel) (pa_cons (pe_ix ix_tup (pv 2) pe_int (fun _ _ => rfl)) pa_nil)) (pa_cons pe_int pa_nil))) (nomark _)) (pss_one (ps_ret pe_bl)) pss_nil, ?_⟩
  intro D H a row t p dx td ts ds ss b y5 y6 y8 y9 y10 y11 y12 B hb nx
  refine ⟨_, rfl, _, rfl, t, _, 0, _, rfl, rfl, .of B.ht, atI_nat (j := 0) rfl, td, ds, rfl, .inl B.R.td.rd, B.R.ok.dys.ne, fun M hM hMu => ⟨(by show 2 ≤ sizeLine; decide), fun t2 ht2 => ?_⟩⟩
  have eM := mx_eq B.R.ok.dys hM hMu
  have s2 := same_upd (o := .tup [.int M, .int 1]) ht2
  refine tup_ne (as := [mx ds, 1]) (bs := [M, 1]) (s2 _ _ hb) upd_same ⟨_, rfl, ?_⟩
  exact iteNS (by rw [eM]) (nx _ s2)
theorem lx_c0 (T : Tx K mg) (hr : Room 11 (XL P w K mg base f cdv A outer s H0 E).A) : ∃ tt : TS, PS (XL P w K mg base f cdv A outer s H0 E) (fl 0) tt ∧
    ∀ (D : Ends) (H : Hp) (a row t p dx td ts : Addr) (ds ss : List Int) (hd : Addr) (k : Nat) (H9 : Hp) (y5 y6 y7 y10 y11 y12 : Option V), Bj T.C H t p dx td ts ds ss → k < ds.length → H hd = some (.lst ((hl ds ss k).map V.int)) → Same H9 H → H9 hd = none →
      (∀ H' z10, Same H9 H' → Bj T.C H' t p dx td ts ds ss → H' hd = some (.lst ((hl ds ss (k + 1)).map V.int)) → D.nx (jS a row t p ds.length y5 y6 y7 (some (.ref hd)) (some (.int (k : Int))) z10 y11 y12) H') →
      tt D (jS a row t p ds.length y5 y6 y7 (some (.ref hd)) (some (.int (k : Int))) y10 y11 y12) H := by
  have hr6 : Room 6 _ := hr.mono (by decide)
  have hr4 : Room 4 _ := hr.mono (by decide)
  have nd := sc_law.nd
  refine ⟨_, ps_if (pt_cmpR op_gt (pe_ix ix_tup (pe_ix ix_tup (pv 2) pe_int (fun _ _ => rfl)) (pv 9) (fun _ _ => rfl)) pe_int (nomark _))
    (pss_cons (ps_set (i := 10) nd rfl (.inl rfl) (pe_prop (pe_meth (pv 3) T.cl T.mW (ok_with T) hr6 T.b_rwith_days .nil pass0 (pa_cons (pv 9) (pa_cons (pe_op op_sub (pe_ix ix_tup (pe_ix ix_tup (pv 2) pe_int (fun _ _ => rfl)) (pv 9) (fun _ _ => rfl)) pe_int) pa_nil))) T.cl T.q_rpace (ok_rpace T) hr4 T.b_rpace .nil pass0 rfl))
    (pss_one (ps_if (pt_cmpR op_lt (pe_op op_mul (pe_ix ix_tup (pv 10) pe_int (fun _ _ => rfl)) (pe_ix ix_tup (pe_prop (pv 3) T.cl T.q_rpace (ok_rpace T) hr4 T.b_rpace .nil pass0 rfl) pe_int (fun _ _ => rfl))) (pe_op op_mul (pe_ix ix_tup (pe_prop (pv 3) T.cl T.q_rpace (ok_rpace T) hr4 T.b_rpace .nil pass0 rfl) pe_int (fun _ _ => rfl)) (pe_ix ix_tup (pv 10) pe_int (fun _ _ => rfl))) (nomark _))
      (pss_one (ps_expr (pe_bm PySem.F.plainAttrs_list PySem.F.slot_list_append PySem.F.type_list_append mt_append (pv 8) (pa_cons (pv 9) pa_nil)))) pss_nil))) pss_nil, ?_⟩
  intro D H a row t p dx td ts ds ss hd k H9 y5 y6 y7 y10 y11 y12 B hk hh s9 h9 nx
  have d0 := B.R.ok.d1 _ (at_mem (l := ds) (by omega) (k : Int))
  have hsu : hl ds ss (k + 1) = if hlpb ds ss k = true then hl ds ss k ++ [(k : Int)] else hl ds ss k := rfl
  refine ⟨_, rfl, t, _, 0, _, rfl, rfl, .of B.ht, atI_nat (j := 0) rfl, _, rfl, td, _, _, _, rfl, rfl, .inl B.R.td.rd, at_ix (by omega) (by omega), _, _, rfl, rfl, _, rfl, ?_⟩
  by_cases h1 : 1 < at' ds (k : Int)
  · rw [decide_eq_true h1]
    have G2 := B.R.ok.set k (d := at' ds (k : Int) - 1) ⟨by omega, by omega⟩
    refine iteT ⟨_, rfl, p, dx, _, rfl, B.R.ob, flds_other (by decide +kernel) (by decide +kernel), _, rfl, _, rfl, t, _, 0, _, rfl, rfl, .of B.ht, atI_nat (j := 0) rfl, _, rfl, td, _, _, _, rfl, rfl, .inl B.R.td.rd, at_ix (by omega) (by omega), _, _, rfl, rfl, p, dx, td, ts, ds, ss, (k : Int), _, rfl, B.R, by omega, by omega, by omega, by omega, fun H2 p2 dx2 td2 ts2 s2 R2 => ?_⟩
    rw [Int.toNat_natCast] at R2
    refine ⟨p2, dx2, _, rfl, R2.ob, p2, dx2, td2, ts2, _, ss, rfl, R2, fun H3 t3 s3 ht3 => ?_⟩
    have B3 := (B.same s2).same s3
    obtain ⟨e1, e2, a3, a4, _, _⟩ := less_ok B.R.ok
    obtain ⟨g1, g2, c3, c4, _, _⟩ := less_ok G2
    refine ⟨_, rfl, t3, _, 0, _, rfl, rfl, .of ht3, atI_nat (j := 0) rfl, _, rfl, p, dx, _, rfl, B3.R.ob, p, dx, td, ts, ds, ss, rfl, B3.R, fun H4 t4 s4 ht4 => ?_⟩
    have B4 := B3.same s4
    refine ⟨t4, _, 1, _, rfl, rfl, .of ht4, atI_nat (j := 1) rfl, _, _, rfl, rfl, .inr ⟨by omega, by omega⟩, _, rfl, p, dx, _, rfl, B4.R.ob, p, dx, td, ts, ds, ss, rfl, B4.R, fun H5 t5 s5 ht5 => ?_⟩
    have B5 := B4.same s5
    refine ⟨t5, _, 0, _, rfl, rfl, .of ht5, atI_nat (j := 0) rfl, _, rfl, t3, _, 1, _, rfl, rfl, .of (s5 _ _ (s4 _ _ ht3)), atI_nat (j := 1) rfl, _, _, rfl, rfl, .inr ⟨by omega, by omega⟩, _, _, rfl, rfl, _, rfl, ?_⟩
    have hh5 := s5 _ _ (s4 _ _ (s3 _ _ (s2 _ _ hh)))
    have s95 := (((s9.trans s2).trans s3).trans s4).trans s5
    have hln := hl_len ds ss k
    by_cases h2 : pX (ds.set k (at' ds (k : Int) - 1)) ss.sum * pY ds ss.sum < pX ds ss.sum * pY (ds.set k (at' ds (k : Int) - 1)) ss.sum
    · have hb : hlpb ds ss k = true := by
        unfold hlpb
        rw [decide_eq_true h1, decide_eq_true h2]
        rfl
      rw [if_pos hb] at hsu
      rw [decide_eq_true h2]
      have l8 := B.R.ok.l8
      refine iteT ⟨_, rfl, .inl ⟨rfl, _, .of hh5⟩, _, rfl, hd, _, _, rfl, rfl, hh5, by rw [List.length_map]; exact small1000 (by omega), ?_⟩
      have s96 : Same H9 (upd H5 hd (.lst ((hl ds ss k).map V.int ++ [.int (k : Int)]))) := fun b x e => by
        rw [upd_ne (ne_of_none e h9)]
        exact s95 b x e
      have B6 : Bj T.C (upd H5 hd (.lst ((hl ds ss k).map V.int ++ [.int (k : Int)]))) t p dx td ts ds ss := B5.but hh5
      exact nx _ _ s96 B6 (by rw [upd_same, map_snoc, hsu])
    · have hb : ¬ hlpb ds ss k = true := by
        unfold hlpb
        rw [decide_eq_false h2, Bool.and_false]
        decide
      rw [if_neg hb] at hsu
      rw [decide_eq_false h2]
      exact iteF (nx H5 _ s95 B5 (by rw [hsu]; exact hh5))
  · have hb : ¬ hlpb ds ss k = true := by
      unfold hlpb
      rw [decide_eq_false h1, Bool.false_and]
      decide
    rw [if_neg hb] at hsu
    rw [decide_eq_false h1]
    exact iteF (nx H _ s9 B (by rw [hsu]; exact hh))
theorem lx_c1 (T : Tx K mg) (hr : Room 11 (XL P w K mg base f cdv A outer s H0 E).A) : ∃ tt : TS, PS (XL P w K mg base f cdv A outer s H0 E) (fl 1) tt ∧
    ∀ (D : Ends) (H : Hp) (a row t p dx td ts : Addr) (ds ss : List Int) (k : Nat) (y5 y6 y7 y8 y10 y11 y12 : Option V), Bj T.C H t p dx td ts ds ss → k < ds.length →
      (∀ H' m, Same H H' → at' ds (k : Int) ≤ m → m ≤ 30 → PcEq ds ss (k : Int) m → (∀ d, at' ds (k : Int) ≤ d → d ≤ 30 → PcEq ds ss (k : Int) d → d ≤ m) → D.nx (jS a row t p ds.length y5 y6 y7 y8 (some (.int (k : Int))) y10 (some (.int m)) y12) H') →
      tt D (jS a row t p ds.length y5 y6 y7 y8 (some (.int (k : Int))) y10 y11 y12) H := by
  have hr7 : Room 7 _ := hr.mono (by decide)
  have nd := sc_law.nd
  refine ⟨_, ps_set (i := 11) nd rfl (.inl rfl) (pe_call (ok_slowest T) hr7 (by rfl) T.g_slowest_days T.F_slowest_days.kp T.b_slowest_days .nil pass0 (pa_cons (pv 3) (pa_cons (pv 9) pa_nil))), ?_⟩
  intro D H a row t p dx td ts ds ss k y5 y6 y7 y8 y10 y11 y12 B hk nx
  exact ⟨_, rfl, _, rfl, p, dx, td, ts, ds, ss, (k : Int), rfl, B.R, by omega, by omega, fun H1 m s1 m1 m2 m3 m4 => nx H1 m s1 m1 m2 m3 m4⟩
theorem lx_c2 (T : Tx K mg) (hr : Room 11 (XL P w K mg base f cdv A outer s H0 E).A) : ∃ tt : TS, PS (XL P w K mg base f cdv A outer s H0 E) (fl 2) tt ∧
    ∀ (D : Ends) (H : Hp) (a row t p dx td ts : Addr) (ds ss : List Int) (k : Nat) (m : Int) (y5 y6 y7 y8 y10 y12 : Option V), Bj T.C H t p dx td ts ds ss → k < ds.length → 1 ≤ m → m ≤ 30 → PcEq ds ss (k : Int) m →
      (∀ H', Same H H' → D.nx (jS a row t p ds.length y5 y6 y7 y8 (some (.int (k : Int))) y10 (some (.int m)) y12) H') →
      tt D (jS a row t p ds.length y5 y6 y7 y8 (some (.int (k : Int))) y10 (some (.int m)) y12) H := by
  have hr6 : Room 6 _ := hr.mono (by decide)
  have hr4 : Room 4 _ := hr.mono (by decide)
  have nd := sc_law.nd
  refine ⟨_, ps_if (pt_cmpR (op_neD hr.units) (pe_prop (pe_meth (pv 3) T.cl T.mW (ok_with T) hr6 T.b_rwith_days .nil pass0 (pa_cons (pv 9) (pa_cons (pv 11) pa_nil))) T.cl T.q_rpace (ok_rpace T) hr4 T.b_rpace .nil pass0 rfl) (pe_prop (pv 3) T.cl T.q_rpace (ok_rpace T) hr4 T.b_rpace .nil pass0 rfl) (nomark _)) (pss_one (ps_ret pe_bl)) pss_nil, ?_⟩
  intro D H a row t p dx td ts ds ss k m y5 y6 y7 y8 y10 y12 B hk m1 m2 hpc nx
  refine ⟨_, rfl, p, dx, _, rfl, B.R.ob, flds_other (by decide +kernel) (by decide +kernel), _, rfl, _, rfl, p, dx, td, ts, ds, ss, (k : Int), m, rfl, B.R, by omega, by omega, m1, m2, fun H2 p2 dx2 td2 ts2 s2 R2 => ?_⟩
  refine ⟨p2, dx2, _, rfl, R2.ob, p2, dx2, td2, ts2, _, ss, rfl, R2, fun H3 t3 s3 ht3 => ?_⟩
  have B3 := (B.same s2).same s3
  refine ⟨_, rfl, p, dx, _, rfl, B3.R.ob, p, dx, td, ts, ds, ss, rfl, B3.R, fun H4 t4 s4 ht4 => ?_⟩
  obtain ⟨e1, e2⟩ := hpc
  rw [e1, e2] at ht3
  refine tup_ne (as := [pX ds ss.sum, pY ds ss.sum]) (bs := [pX ds ss.sum, pY ds ss.sum]) (s4 _ _ ht3) ht4 ⟨_, rfl, ?_⟩
  exact iteNS rfl (nx H4 ((s2.trans s3).trans s4))
theorem lx_c3 (T : Tx K mg) (hr : Room 11 (XL P w K mg base f cdv A outer s H0 E).A) : ∃ tt : TS, PS (XL P w K mg base f cdv A outer s H0 E) (fl 3) tt ∧
    ∀ (D : Ends) (H : Hp) (a row t p dx td ts : Addr) (ds ss : List Int) (k : Nat) (m : Int) (y5 y6 y7 y8 y10 y12 : Option V), Bj T.C H t p dx td ts ds ss → k < ds.length → at' ds (k : Int) ≤ m → 1 ≤ m → (∀ d, at' ds (k : Int) ≤ d → d ≤ 30 → PcEq ds ss (k : Int) d → d ≤ m) →
      (∀ H', Same H H' → D.nx (jS a row t p ds.length y5 y6 y7 y8 (some (.int (k : Int))) y10 (some (.int m)) y12) H') →
      tt D (jS a row t p ds.length y5 y6 y7 y8 (some (.int (k : Int))) y10 (some (.int m)) y12) H := by
  have hr6 : Room 6 _ := hr.mono (by decide)
  have hr4 : Room 4 _ := hr.mono (by decide)
  have nd := sc_law.nd
  refine ⟨_, ps_if (PW.pt (pw_and (pt_cmpR op_lt (pv 11) pe_int (nomark _)) (pw_and1 (pt_cmpR (op_eqD hr.units) (pe_prop (pe_meth (pv 3) T.cl T.mW (ok_with T) hr6 T.b_rwith_days .nil pass0 (pa_cons (pv 9) (pa_cons (pe_op op_add (pv 11) pe_int) pa_nil))) T.cl T.q_rpace (ok_rpace T) hr4 T.b_rpace .nil pass0 rfl) (pe_prop (pv 3) T.cl T.q_rpace (ok_rpace T) hr4 T.b_rpace .nil pass0 rfl) (nomark _))))) (pss_one (ps_ret pe_bl)) pss_nil, ?_⟩
  intro D H a row t p dx td ts ds ss k m y5 y6 y7 y8 y10 y12 B hk m0 m1 hmx nx
  refine ⟨_, rfl, _, _, rfl, rfl, _, rfl, ?_⟩
  by_cases h : m < 30
  · rw [decide_eq_true h]
    refine iteT ⟨_, rfl, p, dx, _, rfl, B.R.ob, flds_other (by decide +kernel) (by decide +kernel), _, rfl, _, rfl, _, _, rfl, rfl, p, dx, td, ts, ds, ss, (k : Int), m + 1, rfl, B.R, by omega, by omega, by omega, by omega, fun H2 p2 dx2 td2 ts2 s2 R2 => ?_⟩
    refine ⟨p2, dx2, _, rfl, R2.ob, p2, dx2, td2, ts2, _, ss, rfl, R2, fun H3 t3 s3 ht3 => ?_⟩
    have B3 := (B.same s2).same s3
    refine ⟨_, rfl, p, dx, _, rfl, B3.R.ob, p, dx, td, ts, ds, ss, rfl, B3.R, fun H4 t4 s4 ht4 => ?_⟩
    refine tup_eq (as := [pX (ds.set (k : Int).toNat (m + 1)) ss.sum, pY (ds.set (k : Int).toNat (m + 1)) ss.sum]) (bs := [pX ds ss.sum, pY ds ss.sum]) (s4 _ _ ht3) ht4 ⟨_, rfl, ?_⟩
    rw [decide_eq_false fun e => by
      have := hmx (m + 1) (by omega) (by omega) (pceq_iff.mp e)
      omega]
    exact iteF (nx H4 ((s2.trans s3).trans s4))
  · rw [decide_eq_false h]
    exact iteF (iteF (nx H (Same.refl H)))
theorem lx_b14 (T : Tx K mg) (hr : Room 11 (XL P w K mg base f cdv A outer s H0 E).A) : ∃ tt : TS, PS (XL P w K mg base f cdv A outer s H0 E) (bs 14) tt ∧
    ∀ (D : Ends) (H : Hp) (a row t p dx td ts : Addr) (ds ss : List Int) (hd : Addr) (y5 y6 y7 y9 y10 y11 y12 : Option V), Bj T.C H t p dx td ts ds ss → H hd = some (.lst ((hl ds ss ds.length).map V.int)) → (∀ H', D.rt (.bl true) H') →
      tt D (jS a row t p ds.length y5 y6 y7 (some (.ref hd)) y9 y10 y11 y12) H := by
  have hr8 : Room 8 _ := hr.mono (by decide)
  have hr4 : Room 4 _ := hr.mono (by decide)
  have nd := sc_law.nd
  refine ⟨_, ps_ret (pe_and (pe_cmpR (op_eqD hr.units) (pe_call (ok_hr T) hr8 (by rfl) T.g_helpful_readers T.F_helpful_readers.kp T.b_helpful_readers .nil pass0 (pa_cons (pv 3) pa_nil)) (pv 8) (nomark _)) (pe_one (pe_cmpR op_eq (pe_call (ok_less T) hr4 (by rfl) T.g_fewest_days_less T.F_fewest_days_less.kp T.b_fewest_days_less .nil pass0 (pa_cons (pv 3) (pa_cons (pe_ix ix_tup (pe_prop (pv 3) T.cl T.q_rpace (ok_rpace T) hr4 T.b_rpace .nil pass0 rfl) pe_int (fun _ _ => rfl)) (pa_cons (pe_ix ix_tup (pe_prop (pv 3) T.cl T.q_rpace (ok_rpace T) hr4 T.b_rpace .nil pass0 rfl) pe_int (fun _ _ => rfl)) pa_nil)))) pe_int (nomark _)))), ?_⟩
  intro D H a row t p dx td ts ds ss hd y5 y6 y7 y9 y10 y11 y12 B hh nx
  refine ⟨_, rfl, p, dx, td, ts, ds, ss, rfl, B.R, fun H1 l s1 hl1 => ⟨_, rfl, ?_⟩⟩
  refine lst_eq (as := hl ds ss ds.length) (bs := hl ds ss ds.length) (.of hl1) (.of (s1 _ _ hh)) ⟨_, rfl, ?_⟩
  rw [decide_eq_true rfl]
  have B1 := B.same s1
  obtain ⟨a1, a2, a3, a4, a5, a6⟩ := less_ok B.R.ok
  refine iteT ⟨_, rfl, _, rfl, p, dx, _, rfl, B1.R.ob, p, dx, td, ts, ds, ss, rfl, B1.R, fun H2 t2 s2 ht2 => ⟨t2, _, 0, _, rfl, rfl, .of ht2, atI_nat (j := 0) rfl, ?_⟩⟩
  have B2 := B1.same s2
  refine ⟨_, rfl, p, dx, _, rfl, B2.R.ob, p, dx, td, ts, ds, ss, rfl, B2.R, fun H3 t3 s3 ht3 => ⟨t3, _, 1, _, rfl, rfl, .of ht3, atI_nat (j := 1) rfl, ?_⟩⟩
  have B3 := B2.same s3
  refine ⟨p, dx, td, ts, ds, ss, _, _, rfl, B3.R, a1, a2, a3, a4, a5, a6, fun H4 s4 => ⟨rfl, ?_⟩⟩
  rw [decide_eq_true rfl]
  exact nx H4
end
end Rp
namespace Rp
open PySem PySem.Spec PyProof.Rows L2 Rz Rm
section
variable {P : Program} {w : World} {K : PySem.W.Frag} {mg : Str → Option Value} {base : Heap}
def spLaw (K : PySem.W.Frag) : Sp := fun vs H Q _ => ∃ (a : Addr) (ns : List Int), vs = [.ref a] ∧ SqL K H a (ns.map V.int) ∧ ns.length ≤ 63 ∧ ∀ H', Q (.bl true) H'
theorem ok_law (T : Tx K mg) : FnOk P w K mg base CX0 12 T.a_law T.d_law P_law (spLaw K) := by
  refine T.F_law.ok sc_law (fun vs H Q E h => ?_) (fun cdv A outer s H vs Q E hr h => ?_)
  · obtain ⟨a, ns, rfl, _⟩ := h
    rfl
  · obtain ⟨a, ns, rfl, hS, hlen, q⟩ := h
    have hr5 : Room 5 _ := hr.mono (by decide)
    have hr2 : Room 2 _ := hr.mono (by decide)
    have nd := sc_law.nd
    obtain ⟨u_b3, q_b3, v_b3⟩ := lx_b3 (P := P) (w := w) (base := base) (f := T.a_law) (cdv := cdv) (A := A) (outer := outer) (s := s) (H0 := H) (E := E) T hr
    obtain ⟨u_b4, q_b4, v_b4⟩ := lx_b4 (P := P) (w := w) (base := base) (f := T.a_law) (cdv := cdv) (A := A) (outer := outer) (s := s) (H0 := H) (E := E) T hr
    obtain ⟨u_b5, q_b5, v_b5⟩ := lx_b5 (P := P) (w := w) (base := base) (f := T.a_law) (cdv := cdv) (A := A) (outer := outer) (s := s) (H0 := H) (E := E) T hr
    obtain ⟨u_b6, q_b6, v_b6⟩ := lx_b6 (P := P) (w := w) (base := base) (f := T.a_law) (cdv := cdv) (A := A) (outer := outer) (s := s) (H0 := H) (E := E) T hr
    obtain ⟨u_b7, q_b7, v_b7⟩ := lx_b7 (P := P) (w := w) (base := base) (f := T.a_law) (cdv := cdv) (A := A) (outer := outer) (s := s) (H0 := H) (E := E) T hr
    obtain ⟨u_b8, q_b8, v_b8⟩ := lx_b8 (P := P) (w := w) (base := base) (f := T.a_law) (cdv := cdv) (A := A) (outer := outer) (s := s) (H0 := H) (E := E) T hr
    obtain ⟨u_b9, q_b9, v_b9⟩ := lx_b9 (P := P) (w := w) (base := base) (f := T.a_law) (cdv := cdv) (A := A) (outer := outer) (s := s) (H0 := H) (E := E) T hr
    obtain ⟨u_b10, q_b10, v_b10⟩ := lx_b10 (P := P) (w := w) (base := base) (f := T.a_law) (cdv := cdv) (A := A) (outer := outer) (s := s) (H0 := H) (E := E) T hr
    obtain ⟨u_b11, q_b11, v_b11⟩ := lx_b11 (P := P) (w := w) (base := base) (f := T.a_law) (cdv := cdv) (A := A) (outer := outer) (s := s) (H0 := H) (E := E) T hr
    obtain ⟨u_c0, q_c0, v_c0⟩ := lx_c0 (P := P) (w := w) (base := base) (f := T.a_law) (cdv := cdv) (A := A) (outer := outer) (s := s) (H0 := H) (E := E) T hr
    obtain ⟨u_c1, q_c1, v_c1⟩ := lx_c1 (P := P) (w := w) (base := base) (f := T.a_law) (cdv := cdv) (A := A) (outer := outer) (s := s) (H0 := H) (E := E) T hr
    obtain ⟨u_c2, q_c2, v_c2⟩ := lx_c2 (P := P) (w := w) (base := base) (f := T.a_law) (cdv := cdv) (A := A) (outer := outer) (s := s) (H0 := H) (E := E) T hr
    obtain ⟨u_c3, q_c3, v_c3⟩ := lx_c3 (P := P) (w := w) (base := base) (f := T.a_law) (cdv := cdv) (A := A) (outer := outer) (s := s) (H0 := H) (E := E) T hr
    obtain ⟨u_b14, q_b14, v_b14⟩ := lx_b14 (P := P) (w := w) (base := base) (f := T.a_law) (cdv := cdv) (A := A) (outer := outer) (s := s) (H0 := H) (E := E) T hr
    refine ⟨_, pss_cons (ps_set (i := 1) nd rfl (.inl rfl) (pe_lst (pa_cons (pv 0) (pa_cons pe_int (pa_cons pe_int (pa_cons pe_int pa_nil))))))
      (pss_cons (ps_set (i := 2) nd rfl (.inl rfl) (pe_call (ok_parts T) hr2 (by rfl) T.g_lparts T.F_lparts.kp T.b_lparts .nil pass0 (pa_cons (pv 1) (pa_cons pe_int pa_nil))))
      (pss_cons (ps_asg (pe_tup (pa_cons (pe_make T.mkR (ok_init T) hr5 (by rfl) T.gC T.b_rinit .nil pass0 (pa_cons (pe_ix ix_tup (pv 2) pe_int (fun _ _ => rfl)) (pa_cons (pe_ix ix_tup (pv 2) pe_int (fun _ _ => rfl)) pa_nil)))
          (pa_cons (pe_callB call_len_seq (by rfl) T.z_len PySem.boot_len (pa_cons (pe_ix ix_tup (pv 2) pe_int (fun _ _ => rfl)) pa_nil)) pa_nil))) (pg_tup rfl (pgs_cons (pg_name (i := 3) nd rfl (.inr rfl)) (pgs_cons (pg_name (i := 4) nd rfl (.inl rfl)) pgs_nil))))
      (pss_cons q_b3 (pss_cons q_b4 (pss_cons q_b5 (pss_cons q_b6 (pss_cons q_b7 (pss_cons q_b8 (pss_cons q_b9 (pss_cons q_b10 (pss_cons q_b11
      (pss_cons (ps_set (i := 8) nd rfl (.inl rfl) (pe_lst pa_nil))
      (pss_cons (ps_for PassesOwn.never rfl (pi_range1 (by rfl) T.z_range (pa_cons (pv 4) pa_nil)) (pg_name (i := 9) nd rfl (.inl rfl)) (pss_cons q_c0 (pss_cons q_c1 (pss_cons q_c2 (pss_one q_c3)))))
      (pss_one q_b14)))))))))))))), ?_⟩
    refine ⟨_, rfl, (by show 4 ≤ sizeLine; decide), fun row hrow => ?_⟩
    have RA0 : RowAt K (upd H row (.lst [.ref a, .int 0, .int 0, .int 0])) row a ns := ⟨⟨0, 0, 0, upd_same, Int.le_refl _⟩, (same_upd hrow).seq hS, far_of hS hrow⟩
    refine ⟨_, rfl, row, a, ns, 8, rfl, RA0, by decide, by decide, fun H2 t td ts ds ss G RA2 _ ht htd hts => ?_⟩
    refine ⟨_, rfl, t, _, 0, _, rfl, rfl, .of ht, atI_nat (j := 0) rfl, _, rfl, t, _, 1, _, rfl, rfl, .of ht, atI_nat (j := 1) rfl, fun p dx np ndx ne => ?_⟩
    have s0 : Same H2 (upd (upd H2 dx (.own p)) p (.ins T.C dx [])) := fun b o e => by
      rw [upd_ne (ne_of_none e np), upd_ne (ne_of_none e ndx)]
      exact e
    refine ⟨p, dx, td, ts, ds, ss, rfl, upd_same, (htd.same s0).tq, (hts.same s0).tq, G, fun H3 R3 k3 => ⟨rfl, ?_⟩⟩
    have s3 : Same H2 H3 := Same.made np ndx k3
    have ht3 := s3 _ _ ht
    refine ⟨_, rfl, t, _, 0, _, rfl, rfl, .of ht3, atI_nat (j := 0) rfl, td, _, rfl, .inr (.inl R3.td.rd), (by show 2 ≤ sizeLine; decide), fun t4 ht4 => ?_⟩
    rw [List.length_map]
    have s4 := same_upd (o := .tup [.ref p, .int (ds.length : Nat)]) ht4
    have R4 := R3.same s4
    refine ⟨t4, _, rfl, .of upd_same, rfl, _, _, rfl, _, _, rfl, rfl, ?_⟩
    have B4 : Bj T.C (upd H3 t4 (.tup [.ref p, .int (ds.length : Nat)])) t p dx td ts ds ss := ⟨R4, s4 _ _ ht3, (htd.same s3).same s4⟩
    have l8 := G.l8
    refine v_b3 _ _ a row t p dx td ts ds ss none none none none none none none none B4 fun H5 s5 => ?_
    have B5 := B4.same s5
    refine v_b4 _ H5 a row t p dx td ts ds ss none none none none none none none none B5 fun H6 s6 => ?_
    have B6 := B5.same s6
    refine v_b5 _ H6 a row t p dx td ts ds ss none none none none none none none none B6 fun H7 m xs s7 hm htt => ?_
    have B7 := B6.same s7
    refine v_b6 _ H7 a row t p dx td ts ds ss m xs none none none none none none none B7 hm htt fun H8 s8 => ?_
    have B8 := B7.same s8
    refine v_b7 _ H8 a row t p dx td ts ds ss _ none none none none none none none B8 ?_
    refine v_b8 _ H8 a row t p dx td ts ds ss _ _ none none none none none none B8 fun H9 b s9 hb => ?_
    have B9 := B8.same s9
    refine v_b9 _ H9 a row t p dx td ts ds ss b _ none none none none none B9 hb fun H10 s10 => ?_
    have B10 := B9.same s10
    refine v_b10 _ H10 a row t p dx td ts ds ss b _ none none none none none B10 (s10 _ _ hb) fun H11 s11 => ?_
    have B11 := B10.same s11
    refine v_b11 _ H11 a row t p dx td ts ds ss b _ _ none none none none none B11 (s11 _ _ (s10 _ _ hb)) fun H12 s12 => ?_
    have B12 := B11.same s12
    refine ⟨(by show 0 ≤ sizeLine; decide), fun hd hhd => ?_⟩
    have s13 := same_upd (o := .lst []) hhd
    refine ⟨_, rfl, (ds.length : Int), rfl, by omega, by omega, ?_⟩
    refine for_range (lo := 0) (n := ((ds.length : Int)).toNat) (fun i σ H' => (∃ y5 y6 y7 y9 y10 y11 y12, σ = jS a row t p ds.length y5 y6 y7 (some (.ref hd)) y9 y10 y11 y12) ∧ Same H12 H' ∧ Bj T.C H' t p dx td ts ds ss ∧ H' hd = some (.lst ((hl ds ss i).map V.int)))
      ⟨⟨_, _, _, _, _, _, _, rfl⟩, s13, B12.same s13, upd_same⟩ ?_ ?_
    · rintro i σ H14 hi ⟨⟨y5, y6, y7, y9, y10, y11, y12, rfl⟩, s14, B14, hh14⟩
      show tSeq _ _ _ (jS a row t p ds.length y5 y6 y7 (some (.ref hd)) (some (.int (0 + (i : Int)))) y10 y11 y12) H14
      rw [show (0 : Int) + (i : Int) = i by omega]
      have hil : i < ds.length := by omega
      have d0 := G.d1 _ (at_mem (l := ds) (by omega) (i : Int))
      refine v_c0 _ H14 a row t p dx td ts ds ss hd i H12 y5 y6 y7 y10 y11 y12 B14 hil hh14 s14 hhd fun H15 z10 s15 B15 hh15 => ?_
      refine v_c1 _ H15 a row t p dx td ts ds ss i y5 y6 y7 _ z10 y11 y12 B15 hil fun H16 mm s16 m1 m2 m3 m4 => ?_
      have B16 := B15.same s16
      refine v_c2 _ H16 a row t p dx td ts ds ss i mm y5 y6 y7 _ z10 y12 B16 hil (by omega) m2 m3 fun H17 s17 => ?_
      have B17 := B16.same s17
      refine v_c3 _ H17 a row t p dx td ts ds ss i mm y5 y6 y7 _ z10 y12 B17 hil m1 (by omega) m4 fun H18 s18 => ?_
      exact ⟨⟨_, _, _, _, _, _, _, rfl⟩, ((s15.trans s16).trans s17).trans s18, B17.same s18, s18 _ _ (s17 _ _ (s16 _ _ hh15))⟩
    · rintro σ H14 ⟨⟨y5, y6, y7, y9, y10, y11, y12, rfl⟩, s14, B14, hh14⟩
      rw [Int.toNat_natCast] at hh14
      exact v_b14 _ H14 a row t p dx td ts ds ss hd y5 y6 y7 y9 y10 y11 y12 B14 hh14 fun H' => q H'
end
end Rp
namespace Rp
open PySem PySem.Spec PyProof.Rows L2 Rz Rm
theorem all_mk {l : PySem.W.OpenLaw} {w : World} {K : PySem.W.Frag} {h : Heap} {mg : Str → Option Value} {fa C : Addr} (X : K.In h) (G : h.Ns mainGlobals mg) (hfa : mg "law" = some (.ref fa))
    {f_is_number : Addr} {od_is_number an_is_number : Option Addr} {sl_is_number : Array (Option Value)} {oc_is_number kV_is_number dc_is_number pm_is_number cd_is_number ct_is_number : Value}
    {f_lies_between : Addr} {od_lies_between an_lies_between : Option Addr} {sl_lies_between : Array (Option Value)} {oc_lies_between kV_lies_between dc_lies_between pm_lies_between cd_lies_between ct_lies_between : Value}
    {f_check_number : Addr} {od_check_number an_check_number : Option Addr} {sl_check_number : Array (Option Value)} {oc_check_number kV_check_number dc_check_number pm_check_number cd_check_number ct_check_number : Value}
    {f_check_reader : Addr} {od_check_reader an_check_reader : Option Addr} {sl_check_reader : Array (Option Value)} {oc_check_reader kV_check_reader dc_check_reader pm_check_reader cd_check_reader ct_check_reader : Value}
    {f_rinit : Addr} {od_rinit an_rinit : Option Addr} {sl_rinit : Array (Option Value)} {oc_rinit kV_rinit dc_rinit pm_rinit cd_rinit ct_rinit : Value}
    {f_rdays : Addr} {od_rdays an_rdays : Option Addr} {sl_rdays : Array (Option Value)} {oc_rdays kV_rdays dc_rdays pm_rdays cd_rdays ct_rdays : Value}
    {pp_rdays : Addr} {re_rdays : List Value}
    {f_rstarts : Addr} {od_rstarts an_rstarts : Option Addr} {sl_rstarts : Array (Option Value)} {oc_rstarts kV_rstarts dc_rstarts pm_rstarts cd_rstarts ct_rstarts : Value}
    {pp_rstarts : Addr} {re_rstarts : List Value}
    {f_rbooks : Addr} {od_rbooks an_rbooks : Option Addr} {sl_rbooks : Array (Option Value)} {oc_rbooks kV_rbooks dc_rbooks pm_rbooks cd_rbooks ct_rbooks : Value}
    {pp_rbooks : Addr} {re_rbooks : List Value}
    {f_rpace : Addr} {od_rpace an_rpace : Option Addr} {sl_rpace : Array (Option Value)} {oc_rpace kV_rpace dc_rpace pm_rpace cd_rpace ct_rpace : Value}
    {pp_rpace : Addr} {re_rpace : List Value}
    {f_rwith_days : Addr} {od_rwith_days an_rwith_days : Option Addr} {sl_rwith_days : Array (Option Value)} {oc_rwith_days kV_rwith_days dc_rwith_days pm_rwith_days cd_rwith_days ct_rwith_days : Value}
    {f_rlen : Addr} {od_rlen an_rlen : Option Addr} {sl_rlen : Array (Option Value)} {oc_rlen kV_rlen dc_rlen pm_rlen cd_rlen ct_rlen : Value}
    {f_rcall : Addr} {od_rcall an_rcall : Option Addr} {sl_rcall : Array (Option Value)} {oc_rcall kV_rcall dc_rcall pm_rcall cd_rcall ct_rcall : Value}
    {f_check_part : Addr} {od_check_part an_check_part : Option Addr} {sl_check_part : Array (Option Value)} {oc_check_part kV_check_part dc_check_part pm_check_part cd_check_part ct_check_part : Value}
    {f_slowest_decides : Addr} {od_slowest_decides an_slowest_decides : Option Addr} {sl_slowest_decides : Array (Option Value)} {oc_slowest_decides kV_slowest_decides dc_slowest_decides pm_slowest_decides cd_slowest_decides ct_slowest_decides : Value}
    {f_pace_of : Addr} {od_pace_of an_pace_of : Option Addr} {sl_pace_of : Array (Option Value)} {oc_pace_of kV_pace_of dc_pace_of pm_pace_of cd_pace_of ct_pace_of : Value}
    {f_round_pace : Addr} {od_round_pace an_round_pace : Option Addr} {sl_round_pace : Array (Option Value)} {oc_round_pace kV_round_pace dc_round_pace pm_round_pace cd_round_pace ct_round_pace : Value}
    {f_end_day : Addr} {od_end_day an_end_day : Option Addr} {sl_end_day : Array (Option Value)} {oc_end_day kV_end_day dc_end_day pm_end_day cd_end_day ct_end_day : Value}
    {f_reader_before : Addr} {od_reader_before an_reader_before : Option Addr} {sl_reader_before : Array (Option Value)} {oc_reader_before kV_reader_before dc_reader_before pm_reader_before cd_reader_before ct_reader_before : Value}
    {f_pace_readers : Addr} {od_pace_readers an_pace_readers : Option Addr} {sl_pace_readers : Array (Option Value)} {oc_pace_readers kV_pace_readers dc_pace_readers pm_pace_readers cd_pace_readers ct_pace_readers : Value}
    {f_judge_pace : Addr} {od_judge_pace an_judge_pace : Option Addr} {sl_judge_pace : Array (Option Value)} {oc_judge_pace kV_judge_pace dc_judge_pace pm_judge_pace cd_judge_pace ct_judge_pace : Value}
    {f_pace_with : Addr} {od_pace_with an_pace_with : Option Addr} {sl_pace_with : Array (Option Value)} {oc_pace_with kV_pace_with dc_pace_with pm_pace_with cd_pace_with ct_pace_with : Value}
    {f_fewest_books : Addr} {od_fewest_books an_fewest_books : Option Addr} {sl_fewest_books : Array (Option Value)} {oc_fewest_books kV_fewest_books dc_fewest_books pm_fewest_books cd_fewest_books ct_fewest_books : Value}
    {f_helpful_readers : Addr} {od_helpful_readers an_helpful_readers : Option Addr} {sl_helpful_readers : Array (Option Value)} {oc_helpful_readers kV_helpful_readers dc_helpful_readers pm_helpful_readers cd_helpful_readers ct_helpful_readers : Value}
    {f_slowest_days : Addr} {od_slowest_days an_slowest_days : Option Addr} {sl_slowest_days : Array (Option Value)} {oc_slowest_days kV_slowest_days dc_slowest_days pm_slowest_days cd_slowest_days ct_slowest_days : Value}
    {f_fewest_days_less : Addr} {od_fewest_days_less an_fewest_days_less : Option Addr} {sl_fewest_days_less : Array (Option Value)} {oc_fewest_days_less kV_fewest_days_less dc_fewest_days_less pm_fewest_days_less cd_fewest_days_less ct_fewest_days_less : Value}
    {f_is_helpful : Addr} {od_is_helpful an_is_helpful : Option Addr} {sl_is_helpful : Array (Option Value)} {oc_is_helpful kV_is_helpful dc_is_helpful pm_is_helpful cd_is_helpful ct_is_helpful : Value}
    {f_is_smaller : Addr} {od_is_smaller an_is_smaller : Option Addr} {sl_is_smaller : Array (Option Value)} {oc_is_smaller kV_is_smaller dc_is_smaller pm_is_smaller cd_is_smaller ct_is_smaller : Value}
    {f_ltaken : Addr} {od_ltaken an_ltaken : Option Addr} {sl_ltaken : Array (Option Value)} {oc_ltaken kV_ltaken dc_ltaken pm_ltaken cd_ltaken ct_ltaken : Value}
    {f_lparts : Addr} {od_lparts an_lparts : Option Addr} {sl_lparts : Array (Option Value)} {oc_lparts kV_lparts dc_lparts pm_lparts cd_lparts ct_lparts : Value}
    {f_law : Addr} {od_law an_law : Option Addr} {sl_law : Array (Option Value)} {oc_law kV_law dc_law pm_law cd_law ct_law : Value}
    {t_LATEST : Tok}
    {t_FEWEST_READERS : Tok}
    {t_MOST_READERS : Tok}
    {t_MOST_DAYS : Tok}
    {t_MOST_BOOKS : Tok}
    {t_MOST_PLANNED : Tok}
    (aC : PySem.W.nsIn K mainGlobals "Ring" = some (some (.ref C)))
    (x_is_number : PySem.W.nsIn K mainGlobals "is_number" = some (some (.ref f_is_number)))
    (l_is_number : K.lookup f_is_number = some ⟨oc_is_number, od_is_number, .func (PySem.W.fnOf "is_number" "is_number" (defArgs s_is_number) (defBody s_is_number) (defScope s_is_number) .none kV_is_number dc_is_number pm_is_number an_is_number cd_is_number ct_is_number), sl_is_number⟩)
    (c_is_number : PySem.W.codeIn K cd_is_number "is_number" = true)
    (k_is_number : PySem.W.keepIn K (.ref f_is_number) = true)
    (x_lies_between : PySem.W.nsIn K mainGlobals "lies_between" = some (some (.ref f_lies_between)))
    (l_lies_between : K.lookup f_lies_between = some ⟨oc_lies_between, od_lies_between, .func (PySem.W.fnOf "lies_between" "lies_between" (defArgs s_lies_between) (defBody s_lies_between) (defScope s_lies_between) .none kV_lies_between dc_lies_between pm_lies_between an_lies_between cd_lies_between ct_lies_between), sl_lies_between⟩)
    (c_lies_between : PySem.W.codeIn K cd_lies_between "lies_between" = true)
    (k_lies_between : PySem.W.keepIn K (.ref f_lies_between) = true)
    (x_check_number : PySem.W.nsIn K mainGlobals "check_number" = some (some (.ref f_check_number)))
    (l_check_number : K.lookup f_check_number = some ⟨oc_check_number, od_check_number, .func (PySem.W.fnOf "check_number" "check_number" (defArgs s_check_number) (defBody s_check_number) (defScope s_check_number) .none kV_check_number dc_check_number pm_check_number an_check_number cd_check_number ct_check_number), sl_check_number⟩)
    (c_check_number : PySem.W.codeIn K cd_check_number "check_number" = true)
    (k_check_number : PySem.W.keepIn K (.ref f_check_number) = true)
    (x_check_reader : PySem.W.nsIn K mainGlobals "check_reader" = some (some (.ref f_check_reader)))
    (l_check_reader : K.lookup f_check_reader = some ⟨oc_check_reader, od_check_reader, .func (PySem.W.fnOf "check_reader" "check_reader" (defArgs s_check_reader) (defBody s_check_reader) (defScope s_check_reader) .none kV_check_reader dc_check_reader pm_check_reader an_check_reader cd_check_reader ct_check_reader), sl_check_reader⟩)
    (c_check_reader : PySem.W.codeIn K cd_check_reader "check_reader" = true)
    (k_check_reader : PySem.W.keepIn K (.ref f_check_reader) = true)
    (x_rinit : PySem.W.findIn K (.ref C) "__init__" = some (some (.ref f_rinit)))
    (i_rinit : PySem.W.isFn K (.ref f_rinit) = true)
    (l_rinit : K.lookup f_rinit = some ⟨oc_rinit, od_rinit, .func (PySem.W.fnOf "__init__" "Ring.__init__" (defArgs s_rinit) (defBody s_rinit) (defScope s_rinit) .none kV_rinit dc_rinit pm_rinit an_rinit cd_rinit ct_rinit), sl_rinit⟩)
    (c_rinit : PySem.W.codeIn K cd_rinit "Ring.__init__" = true)
    (k_rinit : PySem.W.keepIn K (.ref f_rinit) = true)
    (pa_rdays : PySem.W.findIn K (.ref C) "days" = some (some (.ref pp_rdays)))
    (pg_rdays : PySem.W.specialIn K (.ref pp_rdays) "__get__" = some (some (.builtin "property.__get__")))
    (pt_rdays : PySem.W.takesIn K (.ref pp_rdays) = some true)
    (pr_rdays : PySem.W.recIn K pp_rdays "property" = some (.ref f_rdays :: re_rdays))
    (l_rdays : K.lookup f_rdays = some ⟨oc_rdays, od_rdays, .func (PySem.W.fnOf "days" "Ring.days" (defArgs s_rdays) (defBody s_rdays) (defScope s_rdays) .none kV_rdays dc_rdays pm_rdays an_rdays cd_rdays ct_rdays), sl_rdays⟩)
    (c_rdays : PySem.W.codeIn K cd_rdays "Ring.days" = true)
    (k_rdays : PySem.W.keepIn K (.ref f_rdays) = true)
    (pa_rstarts : PySem.W.findIn K (.ref C) "starts" = some (some (.ref pp_rstarts)))
    (pg_rstarts : PySem.W.specialIn K (.ref pp_rstarts) "__get__" = some (some (.builtin "property.__get__")))
    (pt_rstarts : PySem.W.takesIn K (.ref pp_rstarts) = some true)
    (pr_rstarts : PySem.W.recIn K pp_rstarts "property" = some (.ref f_rstarts :: re_rstarts))
    (l_rstarts : K.lookup f_rstarts = some ⟨oc_rstarts, od_rstarts, .func (PySem.W.fnOf "starts" "Ring.starts" (defArgs s_rstarts) (defBody s_rstarts) (defScope s_rstarts) .none kV_rstarts dc_rstarts pm_rstarts an_rstarts cd_rstarts ct_rstarts), sl_rstarts⟩)
    (c_rstarts : PySem.W.codeIn K cd_rstarts "Ring.starts" = true)
    (k_rstarts : PySem.W.keepIn K (.ref f_rstarts) = true)
    (pa_rbooks : PySem.W.findIn K (.ref C) "books" = some (some (.ref pp_rbooks)))
    (pg_rbooks : PySem.W.specialIn K (.ref pp_rbooks) "__get__" = some (some (.builtin "property.__get__")))
    (pt_rbooks : PySem.W.takesIn K (.ref pp_rbooks) = some true)
    (pr_rbooks : PySem.W.recIn K pp_rbooks "property" = some (.ref f_rbooks :: re_rbooks))
    (l_rbooks : K.lookup f_rbooks = some ⟨oc_rbooks, od_rbooks, .func (PySem.W.fnOf "books" "Ring.books" (defArgs s_rbooks) (defBody s_rbooks) (defScope s_rbooks) .none kV_rbooks dc_rbooks pm_rbooks an_rbooks cd_rbooks ct_rbooks), sl_rbooks⟩)
    (c_rbooks : PySem.W.codeIn K cd_rbooks "Ring.books" = true)
    (k_rbooks : PySem.W.keepIn K (.ref f_rbooks) = true)
    (pa_rpace : PySem.W.findIn K (.ref C) "pace" = some (some (.ref pp_rpace)))
    (pg_rpace : PySem.W.specialIn K (.ref pp_rpace) "__get__" = some (some (.builtin "property.__get__")))
    (pt_rpace : PySem.W.takesIn K (.ref pp_rpace) = some true)
    (pr_rpace : PySem.W.recIn K pp_rpace "property" = some (.ref f_rpace :: re_rpace))
    (l_rpace : K.lookup f_rpace = some ⟨oc_rpace, od_rpace, .func (PySem.W.fnOf "pace" "Ring.pace" (defArgs s_rpace) (defBody s_rpace) (defScope s_rpace) .none kV_rpace dc_rpace pm_rpace an_rpace cd_rpace ct_rpace), sl_rpace⟩)
    (c_rpace : PySem.W.codeIn K cd_rpace "Ring.pace" = true)
    (k_rpace : PySem.W.keepIn K (.ref f_rpace) = true)
    (x_rwith_days : PySem.W.findIn K (.ref C) "with_days" = some (some (.ref f_rwith_days)))
    (i_rwith_days : PySem.W.isFn K (.ref f_rwith_days) = true)
    (l_rwith_days : K.lookup f_rwith_days = some ⟨oc_rwith_days, od_rwith_days, .func (PySem.W.fnOf "with_days" "Ring.with_days" (defArgs s_rwith_days) (defBody s_rwith_days) (defScope s_rwith_days) .none kV_rwith_days dc_rwith_days pm_rwith_days an_rwith_days cd_rwith_days ct_rwith_days), sl_rwith_days⟩)
    (c_rwith_days : PySem.W.codeIn K cd_rwith_days "Ring.with_days" = true)
    (k_rwith_days : PySem.W.keepIn K (.ref f_rwith_days) = true)
    (x_rlen : PySem.W.findIn K (.ref C) "__len__" = some (some (.ref f_rlen)))
    (i_rlen : PySem.W.isFn K (.ref f_rlen) = true)
    (l_rlen : K.lookup f_rlen = some ⟨oc_rlen, od_rlen, .func (PySem.W.fnOf "__len__" "Ring.__len__" (defArgs s_rlen) (defBody s_rlen) (defScope s_rlen) .none kV_rlen dc_rlen pm_rlen an_rlen cd_rlen ct_rlen), sl_rlen⟩)
    (c_rlen : PySem.W.codeIn K cd_rlen "Ring.__len__" = true)
    (k_rlen : PySem.W.keepIn K (.ref f_rlen) = true)
    (x_rcall : PySem.W.findIn K (.ref C) "__call__" = some (some (.ref f_rcall)))
    (i_rcall : PySem.W.isFn K (.ref f_rcall) = true)
    (j_rcall : PySem.W.fnIn K f_rcall = true)
    (l_rcall : K.lookup f_rcall = some ⟨oc_rcall, od_rcall, .func (PySem.W.fnOf "__call__" "Ring.__call__" (defArgs s_rcall) (defBody s_rcall) (defScope s_rcall) .none kV_rcall dc_rcall pm_rcall an_rcall cd_rcall ct_rcall), sl_rcall⟩)
    (c_rcall : PySem.W.codeIn K cd_rcall "Ring.__call__" = true)
    (k_rcall : PySem.W.keepIn K (.ref f_rcall) = true)
    (x_check_part : PySem.W.nsIn K mainGlobals "check_part" = some (some (.ref f_check_part)))
    (l_check_part : K.lookup f_check_part = some ⟨oc_check_part, od_check_part, .func (PySem.W.fnOf "check_part" "check_part" (defArgs s_check_part) (defBody s_check_part) (defScope s_check_part) .none kV_check_part dc_check_part pm_check_part an_check_part cd_check_part ct_check_part), sl_check_part⟩)
    (c_check_part : PySem.W.codeIn K cd_check_part "check_part" = true)
    (k_check_part : PySem.W.keepIn K (.ref f_check_part) = true)
    (x_slowest_decides : PySem.W.nsIn K mainGlobals "slowest_decides" = some (some (.ref f_slowest_decides)))
    (l_slowest_decides : K.lookup f_slowest_decides = some ⟨oc_slowest_decides, od_slowest_decides, .func (PySem.W.fnOf "slowest_decides" "slowest_decides" (defArgs s_slowest_decides) (defBody s_slowest_decides) (defScope s_slowest_decides) .none kV_slowest_decides dc_slowest_decides pm_slowest_decides an_slowest_decides cd_slowest_decides ct_slowest_decides), sl_slowest_decides⟩)
    (c_slowest_decides : PySem.W.codeIn K cd_slowest_decides "slowest_decides" = true)
    (k_slowest_decides : PySem.W.keepIn K (.ref f_slowest_decides) = true)
    (x_pace_of : PySem.W.nsIn K mainGlobals "pace_of" = some (some (.ref f_pace_of)))
    (l_pace_of : K.lookup f_pace_of = some ⟨oc_pace_of, od_pace_of, .func (PySem.W.fnOf "pace_of" "pace_of" (defArgs s_pace_of) (defBody s_pace_of) (defScope s_pace_of) .none kV_pace_of dc_pace_of pm_pace_of an_pace_of cd_pace_of ct_pace_of), sl_pace_of⟩)
    (c_pace_of : PySem.W.codeIn K cd_pace_of "pace_of" = true)
    (k_pace_of : PySem.W.keepIn K (.ref f_pace_of) = true)
    (x_round_pace : PySem.W.nsIn K mainGlobals "round_pace" = some (some (.ref f_round_pace)))
    (l_round_pace : K.lookup f_round_pace = some ⟨oc_round_pace, od_round_pace, .func (PySem.W.fnOf "round_pace" "round_pace" (defArgs s_round_pace) (defBody s_round_pace) (defScope s_round_pace) .none kV_round_pace dc_round_pace pm_round_pace an_round_pace cd_round_pace ct_round_pace), sl_round_pace⟩)
    (c_round_pace : PySem.W.codeIn K cd_round_pace "round_pace" = true)
    (k_round_pace : PySem.W.keepIn K (.ref f_round_pace) = true)
    (x_end_day : PySem.W.nsIn K mainGlobals "end_day" = some (some (.ref f_end_day)))
    (l_end_day : K.lookup f_end_day = some ⟨oc_end_day, od_end_day, .func (PySem.W.fnOf "end_day" "end_day" (defArgs s_end_day) (defBody s_end_day) (defScope s_end_day) .none kV_end_day dc_end_day pm_end_day an_end_day cd_end_day ct_end_day), sl_end_day⟩)
    (c_end_day : PySem.W.codeIn K cd_end_day "end_day" = true)
    (k_end_day : PySem.W.keepIn K (.ref f_end_day) = true)
    (x_reader_before : PySem.W.nsIn K mainGlobals "reader_before" = some (some (.ref f_reader_before)))
    (l_reader_before : K.lookup f_reader_before = some ⟨oc_reader_before, od_reader_before, .func (PySem.W.fnOf "reader_before" "reader_before" (defArgs s_reader_before) (defBody s_reader_before) (defScope s_reader_before) .none kV_reader_before dc_reader_before pm_reader_before an_reader_before cd_reader_before ct_reader_before), sl_reader_before⟩)
    (c_reader_before : PySem.W.codeIn K cd_reader_before "reader_before" = true)
    (k_reader_before : PySem.W.keepIn K (.ref f_reader_before) = true)
    (x_pace_readers : PySem.W.nsIn K mainGlobals "pace_readers" = some (some (.ref f_pace_readers)))
    (l_pace_readers : K.lookup f_pace_readers = some ⟨oc_pace_readers, od_pace_readers, .func (PySem.W.fnOf "pace_readers" "pace_readers" (defArgs s_pace_readers) (defBody s_pace_readers) (defScope s_pace_readers) .none kV_pace_readers dc_pace_readers pm_pace_readers an_pace_readers cd_pace_readers ct_pace_readers), sl_pace_readers⟩)
    (c_pace_readers : PySem.W.codeIn K cd_pace_readers "pace_readers" = true)
    (k_pace_readers : PySem.W.keepIn K (.ref f_pace_readers) = true)
    (x_judge_pace : PySem.W.nsIn K mainGlobals "judge_pace" = some (some (.ref f_judge_pace)))
    (l_judge_pace : K.lookup f_judge_pace = some ⟨oc_judge_pace, od_judge_pace, .func (PySem.W.fnOf "judge_pace" "judge_pace" (defArgs s_judge_pace) (defBody s_judge_pace) (defScope s_judge_pace) .none kV_judge_pace dc_judge_pace pm_judge_pace an_judge_pace cd_judge_pace ct_judge_pace), sl_judge_pace⟩)
    (c_judge_pace : PySem.W.codeIn K cd_judge_pace "judge_pace" = true)
    (k_judge_pace : PySem.W.keepIn K (.ref f_judge_pace) = true)
    (x_pace_with : PySem.W.nsIn K mainGlobals "pace_with" = some (some (.ref f_pace_with)))
    (l_pace_with : K.lookup f_pace_with = some ⟨oc_pace_with, od_pace_with, .func (PySem.W.fnOf "pace_with" "pace_with" (defArgs s_pace_with) (defBody s_pace_with) (defScope s_pace_with) .none kV_pace_with dc_pace_with pm_pace_with an_pace_with cd_pace_with ct_pace_with), sl_pace_with⟩)
    (c_pace_with : PySem.W.codeIn K cd_pace_with "pace_with" = true)
    (k_pace_with : PySem.W.keepIn K (.ref f_pace_with) = true)
    (x_fewest_books : PySem.W.nsIn K mainGlobals "fewest_books" = some (some (.ref f_fewest_books)))
    (l_fewest_books : K.lookup f_fewest_books = some ⟨oc_fewest_books, od_fewest_books, .func (PySem.W.fnOf "fewest_books" "fewest_books" (defArgs s_fewest_books) (defBody s_fewest_books) (defScope s_fewest_books) .none kV_fewest_books dc_fewest_books pm_fewest_books an_fewest_books cd_fewest_books ct_fewest_books), sl_fewest_books⟩)
    (c_fewest_books : PySem.W.codeIn K cd_fewest_books "fewest_books" = true)
    (k_fewest_books : PySem.W.keepIn K (.ref f_fewest_books) = true)
    (x_helpful_readers : PySem.W.nsIn K mainGlobals "helpful_readers" = some (some (.ref f_helpful_readers)))
    (l_helpful_readers : K.lookup f_helpful_readers = some ⟨oc_helpful_readers, od_helpful_readers, .func (PySem.W.fnOf "helpful_readers" "helpful_readers" (defArgs s_helpful_readers) (defBody s_helpful_readers) (defScope s_helpful_readers) .none kV_helpful_readers dc_helpful_readers pm_helpful_readers an_helpful_readers cd_helpful_readers ct_helpful_readers), sl_helpful_readers⟩)
    (c_helpful_readers : PySem.W.codeIn K cd_helpful_readers "helpful_readers" = true)
    (k_helpful_readers : PySem.W.keepIn K (.ref f_helpful_readers) = true)
    (x_slowest_days : PySem.W.nsIn K mainGlobals "slowest_days" = some (some (.ref f_slowest_days)))
    (l_slowest_days : K.lookup f_slowest_days = some ⟨oc_slowest_days, od_slowest_days, .func (PySem.W.fnOf "slowest_days" "slowest_days" (defArgs s_slowest_days) (defBody s_slowest_days) (defScope s_slowest_days) .none kV_slowest_days dc_slowest_days pm_slowest_days an_slowest_days cd_slowest_days ct_slowest_days), sl_slowest_days⟩)
    (c_slowest_days : PySem.W.codeIn K cd_slowest_days "slowest_days" = true)
    (k_slowest_days : PySem.W.keepIn K (.ref f_slowest_days) = true)
    (x_fewest_days_less : PySem.W.nsIn K mainGlobals "fewest_days_less" = some (some (.ref f_fewest_days_less)))
    (l_fewest_days_less : K.lookup f_fewest_days_less = some ⟨oc_fewest_days_less, od_fewest_days_less, .func (PySem.W.fnOf "fewest_days_less" "fewest_days_less" (defArgs s_fewest_days_less) (defBody s_fewest_days_less) (defScope s_fewest_days_less) .none kV_fewest_days_less dc_fewest_days_less pm_fewest_days_less an_fewest_days_less cd_fewest_days_less ct_fewest_days_less), sl_fewest_days_less⟩)
    (c_fewest_days_less : PySem.W.codeIn K cd_fewest_days_less "fewest_days_less" = true)
    (k_fewest_days_less : PySem.W.keepIn K (.ref f_fewest_days_less) = true)
    (x_is_helpful : PySem.W.nsIn K mainGlobals "is_helpful" = some (some (.ref f_is_helpful)))
    (l_is_helpful : K.lookup f_is_helpful = some ⟨oc_is_helpful, od_is_helpful, .func (PySem.W.fnOf "is_helpful" "is_helpful" (defArgs s_is_helpful) (defBody s_is_helpful) (defScope s_is_helpful) .none kV_is_helpful dc_is_helpful pm_is_helpful an_is_helpful cd_is_helpful ct_is_helpful), sl_is_helpful⟩)
    (c_is_helpful : PySem.W.codeIn K cd_is_helpful "is_helpful" = true)
    (k_is_helpful : PySem.W.keepIn K (.ref f_is_helpful) = true)
    (x_is_smaller : PySem.W.nsIn K mainGlobals "is_smaller" = some (some (.ref f_is_smaller)))
    (l_is_smaller : K.lookup f_is_smaller = some ⟨oc_is_smaller, od_is_smaller, .func (PySem.W.fnOf "is_smaller" "is_smaller" (defArgs s_is_smaller) (defBody s_is_smaller) (defScope s_is_smaller) .none kV_is_smaller dc_is_smaller pm_is_smaller an_is_smaller cd_is_smaller ct_is_smaller), sl_is_smaller⟩)
    (c_is_smaller : PySem.W.codeIn K cd_is_smaller "is_smaller" = true)
    (k_is_smaller : PySem.W.keepIn K (.ref f_is_smaller) = true)
    (x_ltaken : PySem.W.nsIn K mainGlobals "_law_taken" = some (some (.ref f_ltaken)))
    (l_ltaken : K.lookup f_ltaken = some ⟨oc_ltaken, od_ltaken, .func (PySem.W.fnOf "_law_taken" "_law_taken" (defArgs s_ltaken) (defBody s_ltaken) (defScope s_ltaken) .none kV_ltaken dc_ltaken pm_ltaken an_ltaken cd_ltaken ct_ltaken), sl_ltaken⟩)
    (c_ltaken : PySem.W.codeIn K cd_ltaken "_law_taken" = true)
    (k_ltaken : PySem.W.keepIn K (.ref f_ltaken) = true)
    (x_lparts : PySem.W.nsIn K mainGlobals "_law_parts" = some (some (.ref f_lparts)))
    (l_lparts : K.lookup f_lparts = some ⟨oc_lparts, od_lparts, .func (PySem.W.fnOf "_law_parts" "_law_parts" (defArgs s_lparts) (defBody s_lparts) (defScope s_lparts) .none kV_lparts dc_lparts pm_lparts an_lparts cd_lparts ct_lparts), sl_lparts⟩)
    (c_lparts : PySem.W.codeIn K cd_lparts "_law_parts" = true)
    (k_lparts : PySem.W.keepIn K (.ref f_lparts) = true)
    (x_law : PySem.W.nsIn K mainGlobals "law" = some (some (.ref f_law)))
    (l_law : K.lookup f_law = some ⟨oc_law, od_law, .func (PySem.W.fnOf "law" "law" (defArgs s_law) (defBody s_law) (defScope s_law) .none kV_law dc_law pm_law an_law cd_law ct_law), sl_law⟩)
    (c_law : PySem.W.codeIn K cd_law "law" = true)
    (k_law : PySem.W.keepIn K (.ref f_law) = true)
    (pgC : PySem.W.plainGet K C Str.empty = true)
    (hdC : PySem.W.hasDictIn K C = true)
    (poC : PySem.W.plainOver K C = true)
    (saC : PySem.W.findIn K (.ref C) "__setattr__" = some (some (.builtin "object.__setattr__")))
    (mkC : PySem.W.makesIn K C = true)
    (kC : PySem.W.keepIn K (.ref C) = true)
    (nD : PySem.W.findIn K (.ref C) "_days" = some none)
    (nS : PySem.W.findIn K (.ref C) "_starts" = some none)
    (v_LATEST : PySem.W.nsIn K mainGlobals "LATEST" = some (some (.int 1000000000000000000 t_LATEST)))
    (v_FEWEST_READERS : PySem.W.nsIn K mainGlobals "FEWEST_READERS" = some (some (.int 2 t_FEWEST_READERS)))
    (v_MOST_READERS : PySem.W.nsIn K mainGlobals "MOST_READERS" = some (some (.int 8 t_MOST_READERS)))
    (v_MOST_DAYS : PySem.W.nsIn K mainGlobals "MOST_DAYS" = some (some (.int 30 t_MOST_DAYS)))
    (v_MOST_BOOKS : PySem.W.nsIn K mainGlobals "MOST_BOOKS" = some (some (.int 12 t_MOST_BOOKS)))
    (v_MOST_PLANNED : PySem.W.nsIn K mainGlobals "MOST_PLANNED" = some (some (.int 1000 t_MOST_PLANNED)))
    (v_gcd : PySem.W.nsIn K mainGlobals "gcd" = some (some (.builtin "math.gcd")))
    (z_len : PySem.W.nsIn K mainGlobals "len" = some none)
    (z_sum : PySem.W.nsIn K mainGlobals "sum" = some none)
    (z_max : PySem.W.nsIn K mainGlobals "max" = some none)
    (z_min : PySem.W.nsIn K mainGlobals "min" = some none)
    (z_range : PySem.W.nsIn K mainGlobals "range" = some none)
    (z_int : PySem.W.nsIn K mainGlobals "int" = some none)
    (z_bool : PySem.W.nsIn K mainGlobals "bool" = some none)
    (z_isinstance : PySem.W.nsIn K mainGlobals "isinstance" = some none)
    (z_tuple : PySem.W.nsIn K mainGlobals "tuple" = some none)
    (z_enumerate : PySem.W.nsIn K mainGlobals "enumerate" = some none)
    (z_list : PySem.W.nsIn K mainGlobals "list" = some none)
    (z_str : PySem.W.nsIn K mainGlobals "str" = some none)
    (z_sorted : PySem.W.nsIn K mainGlobals "sorted" = some none)
    : ∃ fd : FuncData, (∀ (s : Shared) (v : Value), BindsTo s fd ⟨[v], []⟩ [("_law_script", v)]) ∧ ∀ base : Heap, K.In base → base.Ns mainGlobals mg → FnOk l.prog w K mg base CX0 12 fa fd ["_law_script"] (spLaw K) := by
  have e := hfa.symm.trans (PySem.W.mg_of X G x_law)
  cases e
  have F_is_number := fun_mk (st := s_is_number) l_is_number c_is_number k_is_number
  have b_is_number := F_is_number.binds (ps := P_is_number) fun _ _ _ _ _ _ us hl => match us, hl with | [_], _ => rfl
  have F_lies_between := fun_mk (st := s_lies_between) l_lies_between c_lies_between k_lies_between
  have b_lies_between := F_lies_between.binds (ps := P_lies_between) fun _ _ _ _ _ _ us hl => match us, hl with | [_, _, _], _ => rfl
  have F_check_number := fun_mk (st := s_check_number) l_check_number c_check_number k_check_number
  have b_check_number := F_check_number.binds (ps := P_check_number) fun _ _ _ _ _ _ us hl => match us, hl with | [_, _, _], _ => rfl
  have F_check_reader := fun_mk (st := s_check_reader) l_check_reader c_check_reader k_check_reader
  have b_check_reader := F_check_reader.binds (ps := P_check_reader) fun _ _ _ _ _ _ us hl => match us, hl with | [_, _], _ => rfl
  have F_rinit := fun_mk (st := s_rinit) l_rinit c_rinit k_rinit
  have b_rinit := F_rinit.binds (ps := P_rinit) fun _ _ _ _ _ _ us hl => match us, hl with | [_, _, _], _ => rfl
  have F_rdays := fun_mk (st := s_rdays) l_rdays c_rdays k_rdays
  have b_rdays := F_rdays.binds (ps := P_rdays) fun _ _ _ _ _ _ us hl => match us, hl with | [_], _ => rfl
  have F_rstarts := fun_mk (st := s_rstarts) l_rstarts c_rstarts k_rstarts
  have b_rstarts := F_rstarts.binds (ps := P_rstarts) fun _ _ _ _ _ _ us hl => match us, hl with | [_], _ => rfl
  have F_rbooks := fun_mk (st := s_rbooks) l_rbooks c_rbooks k_rbooks
  have b_rbooks := F_rbooks.binds (ps := P_rbooks) fun _ _ _ _ _ _ us hl => match us, hl with | [_], _ => rfl
  have F_rpace := fun_mk (st := s_rpace) l_rpace c_rpace k_rpace
  have b_rpace := F_rpace.binds (ps := P_rpace) fun _ _ _ _ _ _ us hl => match us, hl with | [_], _ => rfl
  have F_rwith_days := fun_mk (st := s_rwith_days) l_rwith_days c_rwith_days k_rwith_days
  have b_rwith_days := F_rwith_days.binds (ps := P_rwith_days) fun _ _ _ _ _ _ us hl => match us, hl with | [_, _, _], _ => rfl
  have F_rlen := fun_mk (st := s_rlen) l_rlen c_rlen k_rlen
  have b_rlen := F_rlen.binds (ps := P_rlen) fun _ _ _ _ _ _ us hl => match us, hl with | [_], _ => rfl
  have F_rcall := fun_mk (st := s_rcall) l_rcall c_rcall k_rcall
  have b_rcall := F_rcall.binds (ps := P_rcall) fun _ _ _ _ _ _ us hl => match us, hl with | [_, _, _], _ => rfl
  have F_check_part := fun_mk (st := s_check_part) l_check_part c_check_part k_check_part
  have b_check_part := F_check_part.binds (ps := P_check_part) fun _ _ _ _ _ _ us hl => match us, hl with | [_, _, _, _], _ => rfl
  have F_slowest_decides := fun_mk (st := s_slowest_decides) l_slowest_decides c_slowest_decides k_slowest_decides
  have b_slowest_decides := F_slowest_decides.binds (ps := P_slowest_decides) fun _ _ _ _ _ _ us hl => match us, hl with | [_, _], _ => rfl
  have F_pace_of := fun_mk (st := s_pace_of) l_pace_of c_pace_of k_pace_of
  have b_pace_of := F_pace_of.binds (ps := P_pace_of) fun _ _ _ _ _ _ us hl => match us, hl with | [_, _], _ => rfl
  have F_round_pace := fun_mk (st := s_round_pace) l_round_pace c_round_pace k_round_pace
  have b_round_pace := F_round_pace.binds (ps := P_round_pace) fun _ _ _ _ _ _ us hl => match us, hl with | [_, _], _ => rfl
  have F_end_day := fun_mk (st := s_end_day) l_end_day c_end_day k_end_day
  have b_end_day := F_end_day.binds (ps := P_end_day) fun _ _ _ _ _ _ us hl => match us, hl with | [_, _, _], _ => rfl
  have F_reader_before := fun_mk (st := s_reader_before) l_reader_before c_reader_before k_reader_before
  have b_reader_before := F_reader_before.binds (ps := P_reader_before) fun _ _ _ _ _ _ us hl => match us, hl with | [_, _], _ => rfl
  have F_pace_readers := fun_mk (st := s_pace_readers) l_pace_readers c_pace_readers k_pace_readers
  have b_pace_readers := F_pace_readers.binds (ps := P_pace_readers) fun _ _ _ _ _ _ us hl => match us, hl with | [_], _ => rfl
  have F_judge_pace := fun_mk (st := s_judge_pace) l_judge_pace c_judge_pace k_judge_pace
  have b_judge_pace := F_judge_pace.binds (ps := P_judge_pace) fun _ _ _ _ _ _ us hl => match us, hl with | [_, _], _ => rfl
  have F_pace_with := fun_mk (st := s_pace_with) l_pace_with c_pace_with k_pace_with
  have b_pace_with := F_pace_with.binds (ps := P_pace_with) fun _ _ _ _ _ _ us hl => match us, hl with | [_, _], _ => rfl
  have F_fewest_books := fun_mk (st := s_fewest_books) l_fewest_books c_fewest_books k_fewest_books
  have b_fewest_books := F_fewest_books.binds (ps := P_fewest_books) fun _ _ _ _ _ _ us hl => match us, hl with | [_], _ => rfl
  have F_helpful_readers := fun_mk (st := s_helpful_readers) l_helpful_readers c_helpful_readers k_helpful_readers
  have b_helpful_readers := F_helpful_readers.binds (ps := P_helpful_readers) fun _ _ _ _ _ _ us hl => match us, hl with | [_], _ => rfl
  have F_slowest_days := fun_mk (st := s_slowest_days) l_slowest_days c_slowest_days k_slowest_days
  have b_slowest_days := F_slowest_days.binds (ps := P_slowest_days) fun _ _ _ _ _ _ us hl => match us, hl with | [_, _], _ => rfl
  have F_fewest_days_less := fun_mk (st := s_fewest_days_less) l_fewest_days_less c_fewest_days_less k_fewest_days_less
  have b_fewest_days_less := F_fewest_days_less.binds (ps := P_fewest_days_less) fun _ _ _ _ _ _ us hl => match us, hl with | [_, _, _], _ => rfl
  have F_is_helpful := fun_mk (st := s_is_helpful) l_is_helpful c_is_helpful k_is_helpful
  have b_is_helpful := F_is_helpful.binds (ps := P_is_helpful) fun _ _ _ _ _ _ us hl => match us, hl with | [_, _], _ => rfl
  have F_is_smaller := fun_mk (st := s_is_smaller) l_is_smaller c_is_smaller k_is_smaller
  have b_is_smaller := F_is_smaller.binds (ps := P_is_smaller) fun _ _ _ _ _ _ us hl => match us, hl with | [_, _], _ => rfl
  have F_ltaken := fun_mk (st := s_ltaken) l_ltaken c_ltaken k_ltaken
  have b_ltaken := F_ltaken.binds (ps := P_ltaken) fun _ _ _ _ _ _ us hl => match us, hl with | [_, _], _ => rfl
  have F_lparts := fun_mk (st := s_lparts) l_lparts c_lparts k_lparts
  have b_lparts := F_lparts.binds (ps := P_lparts) fun _ _ _ _ _ _ us hl => match us, hl with | [_, _], _ => rfl
  have F_law := fun_mk (st := s_law) l_law c_law k_law
  have b_law := F_law.binds (ps := P_law) fun _ _ _ _ _ _ us hl => match us, hl with | [_], _ => rfl
  exact ⟨_, fun s v => .of_eq rfl, fun base _ _ => ok_law (mg := mg) {
    C := C,
    a_is_number := f_is_number, d_is_number := _, F_is_number := F_is_number, b_is_number := b_is_number,
    g_is_number := PySem.W.mg_of X G x_is_number,
    a_lies_between := f_lies_between, d_lies_between := _, F_lies_between := F_lies_between, b_lies_between := b_lies_between,
    g_lies_between := PySem.W.mg_of X G x_lies_between,
    a_check_number := f_check_number, d_check_number := _, F_check_number := F_check_number, b_check_number := b_check_number,
    g_check_number := PySem.W.mg_of X G x_check_number,
    a_check_reader := f_check_reader, d_check_reader := _, F_check_reader := F_check_reader, b_check_reader := b_check_reader,
    g_check_reader := PySem.W.mg_of X G x_check_reader,
    a_rinit := f_rinit, d_rinit := _, F_rinit := F_rinit, b_rinit := b_rinit,
    a_rdays := f_rdays, d_rdays := _, F_rdays := F_rdays, b_rdays := b_rdays,
    a_rstarts := f_rstarts, d_rstarts := _, F_rstarts := F_rstarts, b_rstarts := b_rstarts,
    a_rbooks := f_rbooks, d_rbooks := _, F_rbooks := F_rbooks, b_rbooks := b_rbooks,
    a_rpace := f_rpace, d_rpace := _, F_rpace := F_rpace, b_rpace := b_rpace,
    a_rwith_days := f_rwith_days, d_rwith_days := _, F_rwith_days := F_rwith_days, b_rwith_days := b_rwith_days,
    a_rlen := f_rlen, d_rlen := _, F_rlen := F_rlen, b_rlen := b_rlen,
    a_rcall := f_rcall, d_rcall := _, F_rcall := F_rcall, b_rcall := b_rcall,
    a_check_part := f_check_part, d_check_part := _, F_check_part := F_check_part, b_check_part := b_check_part,
    g_check_part := PySem.W.mg_of X G x_check_part,
    a_slowest_decides := f_slowest_decides, d_slowest_decides := _, F_slowest_decides := F_slowest_decides, b_slowest_decides := b_slowest_decides,
    g_slowest_decides := PySem.W.mg_of X G x_slowest_decides,
    a_pace_of := f_pace_of, d_pace_of := _, F_pace_of := F_pace_of, b_pace_of := b_pace_of,
    g_pace_of := PySem.W.mg_of X G x_pace_of,
    a_round_pace := f_round_pace, d_round_pace := _, F_round_pace := F_round_pace, b_round_pace := b_round_pace,
    g_round_pace := PySem.W.mg_of X G x_round_pace,
    a_end_day := f_end_day, d_end_day := _, F_end_day := F_end_day, b_end_day := b_end_day,
    g_end_day := PySem.W.mg_of X G x_end_day,
    a_reader_before := f_reader_before, d_reader_before := _, F_reader_before := F_reader_before, b_reader_before := b_reader_before,
    g_reader_before := PySem.W.mg_of X G x_reader_before,
    a_pace_readers := f_pace_readers, d_pace_readers := _, F_pace_readers := F_pace_readers, b_pace_readers := b_pace_readers,
    g_pace_readers := PySem.W.mg_of X G x_pace_readers,
    a_judge_pace := f_judge_pace, d_judge_pace := _, F_judge_pace := F_judge_pace, b_judge_pace := b_judge_pace,
    g_judge_pace := PySem.W.mg_of X G x_judge_pace,
    a_pace_with := f_pace_with, d_pace_with := _, F_pace_with := F_pace_with, b_pace_with := b_pace_with,
    g_pace_with := PySem.W.mg_of X G x_pace_with,
    a_fewest_books := f_fewest_books, d_fewest_books := _, F_fewest_books := F_fewest_books, b_fewest_books := b_fewest_books,
    g_fewest_books := PySem.W.mg_of X G x_fewest_books,
    a_helpful_readers := f_helpful_readers, d_helpful_readers := _, F_helpful_readers := F_helpful_readers, b_helpful_readers := b_helpful_readers,
    g_helpful_readers := PySem.W.mg_of X G x_helpful_readers,
    a_slowest_days := f_slowest_days, d_slowest_days := _, F_slowest_days := F_slowest_days, b_slowest_days := b_slowest_days,
    g_slowest_days := PySem.W.mg_of X G x_slowest_days,
    a_fewest_days_less := f_fewest_days_less, d_fewest_days_less := _, F_fewest_days_less := F_fewest_days_less, b_fewest_days_less := b_fewest_days_less,
    g_fewest_days_less := PySem.W.mg_of X G x_fewest_days_less,
    a_is_helpful := f_is_helpful, d_is_helpful := _, F_is_helpful := F_is_helpful, b_is_helpful := b_is_helpful,
    g_is_helpful := PySem.W.mg_of X G x_is_helpful,
    a_is_smaller := f_is_smaller, d_is_smaller := _, F_is_smaller := F_is_smaller, b_is_smaller := b_is_smaller,
    g_is_smaller := PySem.W.mg_of X G x_is_smaller,
    a_ltaken := f_ltaken, d_ltaken := _, F_ltaken := F_ltaken, b_ltaken := b_ltaken,
    g_ltaken := PySem.W.mg_of X G x_ltaken,
    a_lparts := f_lparts, d_lparts := _, F_lparts := F_lparts, b_lparts := b_lparts,
    g_lparts := PySem.W.mg_of X G x_lparts,
    a_law := _, d_law := _, F_law := F_law, b_law := b_law,
    g_law := PySem.W.mg_of X G x_law,
    cl := ⟨pgC, hdC, poC, saC⟩, nD := nD, nS := nS, mkR := ⟨mkC, x_rinit, i_rinit, kC⟩, gC := PySem.W.mg_of X G aC,
    p_rdays := pp_rdays, q_rdays := ⟨pa_rdays, pg_rdays, pt_rdays, ⟨_, pr_rdays⟩⟩,
    p_rstarts := pp_rstarts, q_rstarts := ⟨pa_rstarts, pg_rstarts, pt_rstarts, ⟨_, pr_rstarts⟩⟩,
    p_rbooks := pp_rbooks, q_rbooks := ⟨pa_rbooks, pg_rbooks, pt_rbooks, ⟨_, pr_rbooks⟩⟩,
    p_rpace := pp_rpace, q_rpace := ⟨pa_rpace, pg_rpace, pt_rpace, ⟨_, pr_rpace⟩⟩,
    mW := ⟨x_rwith_days, i_rwith_days, k_rwith_days⟩,
    lenC := x_rlen, lenF := i_rlen, callC := ⟨x_rcall, i_rcall, j_rcall⟩,
    c_LATEST := ⟨_, PySem.W.mg_of X G v_LATEST⟩,
    c_FEWEST_READERS := ⟨_, PySem.W.mg_of X G v_FEWEST_READERS⟩,
    c_MOST_READERS := ⟨_, PySem.W.mg_of X G v_MOST_READERS⟩,
    c_MOST_DAYS := ⟨_, PySem.W.mg_of X G v_MOST_DAYS⟩,
    c_MOST_BOOKS := ⟨_, PySem.W.mg_of X G v_MOST_BOOKS⟩,
    c_MOST_PLANNED := ⟨_, PySem.W.mg_of X G v_MOST_PLANNED⟩,
    g_gcd := PySem.W.mg_of X G v_gcd,
    z_len := PySem.W.mg_none_of X G z_len,
    z_sum := PySem.W.mg_none_of X G z_sum,
    z_max := PySem.W.mg_none_of X G z_max,
    z_min := PySem.W.mg_none_of X G z_min,
    z_range := PySem.W.mg_none_of X G z_range,
    z_int := PySem.W.mg_none_of X G z_int,
    z_bool := PySem.W.mg_none_of X G z_bool,
    z_isinstance := PySem.W.mg_none_of X G z_isinstance,
    z_tuple := PySem.W.mg_none_of X G z_tuple,
    z_enumerate := PySem.W.mg_none_of X G z_enumerate,
    z_list := PySem.W.mg_none_of X G z_list,
    z_str := PySem.W.mg_none_of X G z_str,
    z_sorted := PySem.W.mg_none_of X G z_sorted }⟩
end Rp
open PySem PySem.W PyProof.Rows
set_option maxRecDepth 100000 in
set_option maxHeartbeats 0 in
theorem PySem.Challenge.cw_readingring_k56_whole_the_pace_with_evid_holds : PySem.Challenge.rw_readingring_k56_whole_the_pace_with_evid.Holds := by
  w_on; o_law; k_head; (case hw => w_witness2)
  k_fill
  refine L2.walk_of (l := PySem.Challenge.rw_readingring_k56_whole_the_pace_with_evid) (n := 63) (k := 12) (x := "_law_script") (CX := fun _ => L2.CX0) (sp := fun w => Rp.spLaw _) rfl (by decide) rfl ⟨rfl, by decide, by decide⟩ (fun w h Y => PySem.W.kIn_of Y) ?F (fun _ _ a ns hl _ hS => ⟨a, ns, rfl, hS, hl, fun _ => rfl⟩) (fun _ _ _ _ _ h => h)
  case F =>
    intro w mg fa h KX G hmg
    refine' Rp.all_mk KX G hmg ?aC ?x_is_number ?l_is_number ?c_is_number ?k_is_number ?x_lies_between ?l_lies_between ?c_lies_between ?k_lies_between ?x_check_number ?l_check_number ?c_check_number ?k_check_number ?x_check_reader ?l_check_reader ?c_check_reader ?k_check_reader ?x_rinit ?i_rinit ?l_rinit ?c_rinit ?k_rinit ?pa_rdays ?pg_rdays ?pt_rdays ?pr_rdays ?l_rdays ?c_rdays ?k_rdays ?pa_rstarts ?pg_rstarts ?pt_rstarts ?pr_rstarts ?l_rstarts ?c_rstarts ?k_rstarts ?pa_rbooks ?pg_rbooks ?pt_rbooks ?pr_rbooks ?l_rbooks ?c_rbooks ?k_rbooks ?pa_rpace ?pg_rpace ?pt_rpace ?pr_rpace ?l_rpace ?c_rpace ?k_rpace ?x_rwith_days ?i_rwith_days ?l_rwith_days ?c_rwith_days ?k_rwith_days ?x_rlen ?i_rlen ?l_rlen ?c_rlen ?k_rlen ?x_rcall ?i_rcall ?j_rcall ?l_rcall ?c_rcall ?k_rcall ?x_check_part ?l_check_part ?c_check_part ?k_check_part ?x_slowest_decides ?l_slowest_decides ?c_slowest_decides ?k_slowest_decides ?x_pace_of ?l_pace_of ?c_pace_of ?k_pace_of ?x_round_pace ?l_round_pace ?c_round_pace ?k_round_pace ?x_end_day ?l_end_day ?c_end_day ?k_end_day ?x_reader_before ?l_reader_before ?c_reader_before ?k_reader_before ?x_pace_readers ?l_pace_readers ?c_pace_readers ?k_pace_readers ?x_judge_pace ?l_judge_pace ?c_judge_pace ?k_judge_pace ?x_pace_with ?l_pace_with ?c_pace_with ?k_pace_with ?x_fewest_books ?l_fewest_books ?c_fewest_books ?k_fewest_books ?x_helpful_readers ?l_helpful_readers ?c_helpful_readers ?k_helpful_readers ?x_slowest_days ?l_slowest_days ?c_slowest_days ?k_slowest_days ?x_fewest_days_less ?l_fewest_days_less ?c_fewest_days_less ?k_fewest_days_less ?x_is_helpful ?l_is_helpful ?c_is_helpful ?k_is_helpful ?x_is_smaller ?l_is_smaller ?c_is_smaller ?k_is_smaller ?x_ltaken ?l_ltaken ?c_ltaken ?k_ltaken ?x_lparts ?l_lparts ?c_lparts ?k_lparts ?x_law ?l_law ?c_law ?k_law ?pgC ?hdC ?poC ?saC ?mkC ?kC ?nD ?nS ?v_LATEST ?v_FEWEST_READERS ?v_MOST_READERS ?v_MOST_DAYS ?v_MOST_BOOKS ?v_MOST_PLANNED ?v_gcd ?z_len ?z_sum ?z_max ?z_min ?z_range ?z_int ?z_bool ?z_isinstance ?z_tuple ?z_enumerate ?z_list ?z_str ?z_sorted
    (case aC => k_is); (case x_is_number => k_is); (case l_is_number => k_is); (case c_is_number => k_is); (case k_is_number => k_is); (case x_lies_between => k_is); (case l_lies_between => k_is); (case c_lies_between => k_is)
    (case k_lies_between => k_is); (case x_check_number => k_is); (case l_check_number => k_is); (case c_check_number => k_is); (case k_check_number => k_is); (case x_check_reader => k_is); (case l_check_reader => k_is); (case c_check_reader => k_is)
    (case k_check_reader => k_is); (case x_rinit => k_is); (case i_rinit => k_is); (case l_rinit => k_is); (case c_rinit => k_is); (case k_rinit => k_is); (case pa_rdays => k_is); (case pg_rdays => k_is)
    (case pt_rdays => k_is); (case pr_rdays => k_is); (case l_rdays => k_is); (case c_rdays => k_is); (case k_rdays => k_is); (case pa_rstarts => k_is); (case pg_rstarts => k_is); (case pt_rstarts => k_is)
    (case pr_rstarts => k_is); (case l_rstarts => k_is); (case c_rstarts => k_is); (case k_rstarts => k_is); (case pa_rbooks => k_is); (case pg_rbooks => k_is); (case pt_rbooks => k_is); (case pr_rbooks => k_is)
    (case l_rbooks => k_is); (case c_rbooks => k_is); (case k_rbooks => k_is); (case pa_rpace => k_is); (case pg_rpace => k_is); (case pt_rpace => k_is); (case pr_rpace => k_is); (case l_rpace => k_is)
    (case c_rpace => k_is); (case k_rpace => k_is); (case x_rwith_days => k_is); (case i_rwith_days => k_is); (case l_rwith_days => k_is); (case c_rwith_days => k_is); (case k_rwith_days => k_is); (case x_rlen => k_is)
    (case i_rlen => k_is); (case l_rlen => k_is); (case c_rlen => k_is); (case k_rlen => k_is); (case x_rcall => k_is); (case i_rcall => k_is); (case j_rcall => k_is); (case l_rcall => k_is)
    (case c_rcall => k_is); (case k_rcall => k_is); (case x_check_part => k_is); (case l_check_part => k_is); (case c_check_part => k_is); (case k_check_part => k_is); (case x_slowest_decides => k_is); (case l_slowest_decides => k_is)
    (case c_slowest_decides => k_is); (case k_slowest_decides => k_is); (case x_pace_of => k_is); (case l_pace_of => k_is); (case c_pace_of => k_is); (case k_pace_of => k_is); (case x_round_pace => k_is); (case l_round_pace => k_is)
    (case c_round_pace => k_is); (case k_round_pace => k_is); (case x_end_day => k_is); (case l_end_day => k_is); (case c_end_day => k_is); (case k_end_day => k_is); (case x_reader_before => k_is); (case l_reader_before => k_is)
    (case c_reader_before => k_is); (case k_reader_before => k_is); (case x_pace_readers => k_is); (case l_pace_readers => k_is); (case c_pace_readers => k_is); (case k_pace_readers => k_is); (case x_judge_pace => k_is); (case l_judge_pace => k_is)
    (case c_judge_pace => k_is); (case k_judge_pace => k_is); (case x_pace_with => k_is); (case l_pace_with => k_is); (case c_pace_with => k_is); (case k_pace_with => k_is); (case x_fewest_books => k_is); (case l_fewest_books => k_is)
    (case c_fewest_books => k_is); (case k_fewest_books => k_is); (case x_helpful_readers => k_is); (case l_helpful_readers => k_is); (case c_helpful_readers => k_is); (case k_helpful_readers => k_is); (case x_slowest_days => k_is); (case l_slowest_days => k_is)
    (case c_slowest_days => k_is); (case k_slowest_days => k_is); (case x_fewest_days_less => k_is); (case l_fewest_days_less => k_is); (case c_fewest_days_less => k_is); (case k_fewest_days_less => k_is); (case x_is_helpful => k_is); (case l_is_helpful => k_is)
    (case c_is_helpful => k_is); (case k_is_helpful => k_is); (case x_is_smaller => k_is); (case l_is_smaller => k_is); (case c_is_smaller => k_is); (case k_is_smaller => k_is); (case x_ltaken => k_is); (case l_ltaken => k_is)
    (case c_ltaken => k_is); (case k_ltaken => k_is); (case x_lparts => k_is); (case l_lparts => k_is); (case c_lparts => k_is); (case k_lparts => k_is); (case x_law => k_is); (case l_law => k_is)
    (case c_law => k_is); (case k_law => k_is); (case pgC => k_is); (case hdC => k_is); (case poC => k_is); (case saC => k_is); (case mkC => k_is); (case kC => k_is)
    (case nD => k_is); (case nS => k_is); (case v_LATEST => k_is); (case v_FEWEST_READERS => k_is); (case v_MOST_READERS => k_is); (case v_MOST_DAYS => k_is); (case v_MOST_BOOKS => k_is); (case v_MOST_PLANNED => k_is)
    (case v_gcd => k_is); (case z_len => k_is); (case z_sum => k_is); (case z_max => k_is); (case z_min => k_is); (case z_range => k_is); (case z_int => k_is); (case z_bool => k_is)
    (case z_isinstance => k_is); (case z_tuple => k_is); (case z_enumerate => k_is); (case z_list => k_is); (case z_str => k_is); (case z_sorted => k_is)
