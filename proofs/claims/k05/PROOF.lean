import PyProof.Rows.All
import Wide.All
import OpenK.AllK
import Wide.FinOn
import PyProof.EqAt
import PyProof.EqKinds
import PyProof.TupleCall
import HandS.ForMost
import HandS.Walk
import HandS.Property
import HandS.Star
import HandS.IsInst
import HandS.Gcd
import HandS.Flow
import KE.KTupSum
import KE.GoesEnum
import HandS.Strs
import HandS.Conv
import HandS.Sort
import HandS.TupAny
import KE.KEqDeep
import HandS.Style
import HandS.Nested
import HandS.Lambda
import KE.KDflt
import HandS.List
import HandS.SetFor
import HandS.Words
import HandS.ExcIs
import HandS.ExcCtx
import HandS.Iter
import HandS.WordsExc
import KE.DataMinMax
import HandS.EndOwn
import PySem.Challenge.RW_readingring_k05_books_that_meet
set_option Elab.async false
set_option linter.all false
set_option maxRecDepth 100000
set_option maxHeartbeats 8000000
/-! Rules beside the layer's: len of an own instance, enumerate over a tuple, sum and max of a tuple. -/
namespace Rz
open PySem PySem.Spec PyProof.Rows L2

section
variable {X : Cx}
/-! ### len(o), o an instance whose class defines it -/
def rLenI (C : Addr) (sp : Sp) (E : XK) : List V → Hp → VK → Prop := fun xs H Q => ∃ a dx fs, xs = [.ref a] ∧ H a = some (.ins C dx fs) ∧
  sp [.ref a] H (fun v H' => ∃ n : Int, v = .int n ∧ 0 ≤ n ∧ n < 2 ^ 63 ∧ Q (.int n) H') E
theorem call_lenI {CX : CXT} {k : Nat} {f C : Addr} {sp : Sp} {E : XK} (hs : PySem.W.findIn X.K (.ref C) "__len__" = some (some (.ref f))) (hf : PySem.W.isFn X.K (.ref f) = true)
    (F : FnR X.prog X.w X.K X.mg X.base CX k f sp) (hr : Room (k + 1) X.A) (hx : Passes CX X E) : CallR X (.builtin "len") (rLenI C sp E) := by
  intro pins s σ H xs us Q I r h
  obtain ⟨a, dx, fs, rfl, ea, q⟩ := h
  rw [Vals.ref1 r]
  obtain ⟨mA, O, _⟩ := ins_get I.hok ea
  obtain ⟨od, J, _⟩ := O.look
  have hc : wpAny (model X.prog X.w) X.A.in1 (call (.ref f) [.ref a]) (EP X pins σ (fun v H' => ∃ n : Int, v = .int n ∧ 0 ≤ n ∧ n < 2 ^ 63 ∧ Q (.int n) H')) X.xe s := by
    refine wpAny_call (codeAny_mono (F X.A.in1 X.stack s H [.ref a] [.ref a] _ E hr.in1 I.env0.in1 (.cons rfl .nil) q) fun r s' hq => ?_)
    cases r with
    | error e => exact hx pins σ H s e s' I hq
    | ok fl =>
      cases fl with
      | ret u => exact I.after hq
      | next => exact False.elim hq
      | brk => exact False.elim hq
      | cont => exact False.elim hq
  refine Calls.call_function_entry kind_len plain_len entry_len (args_len1 _) ?_
  unfold Builtin.«len»
  refine wpAny_bind (m := oneArg "len" _) (wpAny_pure ?_)
  refine wpAny_bind (m := callSpecial? (.ref a) (Str.ofString "__len__")) (PySem.W.special_fn I.kIn J hs (beq_iff_eq.mp hf) (wpAny_mono hc (fun r s' hr => ?_) fun _ _ y => y))
  obtain ⟨v, H', I', rv, n, rfl, h0, h1, hq⟩ := hr
  obtain ⟨t, rfl⟩ := rv
  refine wpAny_bind (wpAny_holding (wpAny_pure ?_))
  refine wpAny_bind (wpAny_letGo ?_)
  show wpAny _ _ (if n < 0 then _ else _) _ _ _
  rw [if_neg (by omega)]
  show wpAny _ _ (if n ≥ 2 ^ 63 then _ else _) _ _ _
  rw [if_neg (by omega)]
  exact wpAny_bind (wpAny_mkInt (wpAny_pure ⟨_, rfl, ⟨.int n, H', I'.tok _, ⟨_, rfl⟩, hq⟩⟩))

/-! ### sum, max of a tuple of ints -/
def rSumT (K : PySem.W.Frag) : List V → Hp → VK → Prop := fun vs H Q => ∃ (a : Addr) (ns : List Int), vs = [V.ref a] ∧ SqT K H a (ns.map V.int) ∧ Q (.int ns.sum) H
def rMaxT (K : PySem.W.Frag) : List V → Hp → VK → Prop := fun vs H Q => ∃ (a : Addr) (ns : List Int), vs = [V.ref a] ∧ SqT K H a (ns.map V.int) ∧ 0 < ns.length ∧
  ∀ m, m ∈ ns → (∀ y, y ∈ ns → y ≤ m) → Q (.int m) H
theorem cr_sumT (hc : X.calm = true) : CallR X (.builtin "sum") (rSumT X.K) := by
  intro pins s σ H vs us Q I r h
  obtain ⟨a, ns, rfl, hs, q⟩ := h
  obtain ⟨its, rv, hl, _⟩ := I.tuple hs
  rw [Vals.ref1 r]
  have hi := rv.ints
  have hl' : s.heap.IsTuple a its.toArray := hl
  obtain ⟨xs, e⟩ := hi.allInts.items
  have hn : numsOf (intItems xs).toList = ns := by rw [← e]; exact hi.numsOf
  rw [nums_intItems] at hn
  rw [e] at hl'
  refine PySem.W.ktm_sumG (I.ok.hd hc) hl' fun h' tk t' hk => ?_
  have J : Inv X pins σ H { s with heap := h', toks := tk } := I.kept hk
  refine ⟨.int ns.sum, H, J, ⟨t', ?_⟩, q⟩
  rw [preSum_eq, List.take_of_length_le (by simp), hn]
theorem max_tup {prog : Program} {w : World} {A : Around} {E : Value → Shared → Prop} {s : Shared} {l : Addr} {xs : Array (Int × Tok)} {Q : Value → Shared → Prop} (hh : A.handled = none) (ht : s.heap.IsTuple l (intItems xs)) (hne : 0 < xs.size)
    (h : ∀ v h' tk, (intItems xs)[argBest (fun i j => decide (numAt xs i > numAt xs j)) (xs.size - 1)]? = some v → (∀ b o, s.heap.get? b = some o → h'.get? b = some o) → Q v { s with heap := h', toks := tk }) :
    wpAny (model prog w) A (call (.builtin "max") [.ref l]) Q E s := by
  obtain ⟨o, ho, hc, n, hd⟩ := id ht
  have hlt : l < s.heap.objs.size := Heap.lt_size ho
  refine call_max_walk (wpAny_pyIter_tuple ht ?_)
  refine ⟨s.heap.objs.size, _, _, _, _, _, _, rfl, Walks.tuple (A := A.in1) hh _ l (Nat.ne_of_lt hlt) (intItems xs), ⟨⟨_, Heap.get?_push_size _ rfl, rfl, rfl⟩, ht.at fun o e => Heap.get?_push_of_some _ e⟩, fun b hb => ?_, by simpa [intItems] using hne,
    CmpOf.ints_gt (numAt xs) (fun _ _ => intItems_at), fun v h' tk hP hk => ?_⟩
  · rcases List.mem_cons.mp hb with rfl | hb
    · exact Heap.lt_size (Heap.get?_push_size _ rfl)
    · obtain rfl := List.mem_singleton.mp hb
      exact Heap.lt_size (Heap.get?_push_of_some _ ho)
  · refine h v h' tk (by simpa [intItems] using hP) fun b o e => ?_
    refine hk b o (fun hm => ?_) (Heap.get?_push_of_some _ e)
    have := List.mem_singleton.mp hm
    exact absurd (this ▸ Heap.lt_size e) (Nat.lt_irrefl _)
theorem cr_maxT (hc : X.calm = true) : CallR X (.builtin "max") (rMaxT X.K) := by
  intro pins s σ H vs us Q I r h
  obtain ⟨a, ns, rfl, hs, hne, q⟩ := h
  obtain ⟨its, rv, hl, _⟩ := I.tuple hs
  rw [Vals.ref1 r]
  have hi := rv.ints
  have hl' : s.heap.IsTuple a its.toArray := hl
  obtain ⟨xs, e⟩ := hi.allInts.items
  have hn : numsOf (intItems xs).toList = ns := by rw [← e]; exact hi.numsOf
  rw [nums_intItems] at hn
  subst hn
  rw [e] at hl'
  have hsz : 0 < xs.size := by simpa using hne
  refine max_tup (I.ok.hd hc) hl' hsz fun v h' tk hv hk => ?_
  obtain ⟨t, rfl⟩ := intItems_at hv
  obtain ⟨h1, h2⟩ := argBest_gt (numAt xs) (xs.size - 1)
  refine ⟨.int _, H, I.kept hk, ⟨t, rfl⟩, q _ ?_ fun a ha => ?_⟩
  · rw [numAt_eq]; exact PySem.getD_mem (by rw [List.length_map, Array.length_toList]; omega)
  · obtain ⟨j, hj, rfl⟩ := mem_getD ha
    rw [List.length_map, Array.length_toList] at hj
    rw [← numAt_eq]; exact h2 j (by omega)
end

/-! ### enumerate(t), t a tuple -/
theorem meets_enumerate_newT (l : Addr) (items : Array Value) (n : Nat) (dct : Option Addr) (sl : Array (Option Value)) :
    Meets (Builtin.«enumerate.__new__» ⟨[.type "enumerate", .ref l], []⟩) (fun _ R s => s.heap.get? l = some { cls := .type "tuple", dict := dct, data := .seq items n, slots := sl } ∧
      R (.ok (.ret (.ref (s.heap.push { cls := .type "tuple_iterator", data := .fields #[.ref l, .int 0 0] }).objs.size)))
        { s with heap := (s.heap.push { cls := .type "tuple_iterator", data := .fields #[.ref l, .int 0 0] }).push { cls := .type "enumerate", data := .fields #[.none, .bool false, .ref s.heap.objs.size, rawInt 0, .none, .none] } }) :=
  .of_wp fun prog w A R s h => by
    obtain ⟨hp, g, d, tk, os⟩ := s; obtain ⟨hl, h⟩ := h
    have hsub := sub_enumerate
    have hL : Heap.IsTuple (Shared.heap ⟨hp, g, d, tk, os⟩) l items := ⟨_, hl, rfl, n, rfl⟩
    wp_walk using AutoSeq1.wpAny_loadPart' hl
    refine wpAny_stack_any fun st => wpAny_pure ?_
    split
    · rename_i c _ _ _ _ _
      cases (c == Value.type "enumerate")
      · wp_walk using AutoSeq1.wpAny_loadPart' hl, wpAny_pyIter_tuple hL
        exact ⟨_, rfl, h⟩
      · wp_walk using AutoSeq1.wpAny_loadPart' hl, wpAny_pyIter_tuple hL
        exact ⟨_, rfl, h⟩
    · wp_walk using AutoSeq1.wpAny_loadPart' hl, wpAny_pyIter_tuple hL
      exact ⟨_, rfl, h⟩
theorem call_enumerate_tuple {prog : Program} {w : World} {A : Around} {E : Value → Shared → Prop} {s : Shared} {l : Addr} {items : Array Value} {Q : Value → Shared → Prop} (hL : s.heap.IsTuple l items)
    (h : ∀ h', IsEnum h' (s.heap.objs.size + 1) s.heap.objs.size 0 .none → h'.IsTupleIter s.heap.objs.size l 0 → h'.objs.size = s.heap.objs.size + 2 →
      (∀ b o, s.heap.get? b = some o → h'.get? b = some o) → Q (.ref (s.heap.objs.size + 1)) { s with heap := h' }) :
    wpAny (model prog w) A (call (.type "enumerate") [.ref l]) Q E s := by
  obtain ⟨⟨c, dct, dt, sl⟩, hl, hc, n, hd⟩ := hL
  replace hc : c = .type "tuple" := hc
  replace hd : dt = .seq items n := hd
  subst hc hd
  refine callType_new F.called_enumerate (by decide) (F.typeCall_enumerate_1 _) (F.newCall_enumerate_1 _) (fun obj => F.args_object_init_2 obj _) F.entry_enumerate_new
    (meets_enumerate_newT l items n dct sl) ⟨hl, ?_⟩
  have hz : (s.heap.push { cls := .type "tuple_iterator", data := .fields #[.ref l, .int 0 0] }).objs.size = s.heap.objs.size + 1 := Heap.size_push ..
  show _ ∧ _
  rw [hz]
  have he : IsEnum ((s.heap.push { cls := .type "tuple_iterator", data := .fields #[.ref l, .int 0 0] }).push
      { cls := .type "enumerate", data := .fields #[.none, .bool false, .ref s.heap.objs.size, rawInt 0, .none, .none] }) (s.heap.objs.size + 1) s.heap.objs.size 0 .none := by
    have := Heap.get?_push_size (s.heap.push { cls := .type "tuple_iterator", data := .fields #[.ref l, .int 0 0] })
      (o := { cls := .type "enumerate", data := .fields #[.none, .bool false, .ref s.heap.objs.size, rawInt 0, .none, .none] }) rfl
    rw [hz] at this; exact this
  refine ⟨⟨_, he, rfl⟩, h _ he ⟨_, Heap.get?_push_of_some _ (Heap.get?_push_size _ rfl), rfl, rfl⟩ (by rw [Heap.size_push, hz]) fun b o x => Heap.get?_push_of_some _ (Heap.get?_push_of_some _ x)⟩

/-- the tuple at a, each item in a new pair with its number -/
def IteT (K : PySem.W.Frag) (a : Addr) : It :=
  ⟨fun i H => ∃ (xs : List V) (x : V), SqT K H a xs ∧ xs[i]? = some x, fun i H v H' => ∃ T x, v = .ref T ∧ H T = none ∧ H' = upd H T (.tup [.int (i : Nat), x]) ∧ ∀ xs, SqT K H a xs → xs[i]? = some x, fun i H => ∃ xs : List V, SqT K H a xs ∧ xs.length = i⟩
theorem turn_enumT {P : Program} {w : World} {K : PySem.W.Frag} {elts : List Expr} {kk : Nat} {tpos : Pos} (a e it : Addr) :
    Turn P w K (.Tuple elts kk tpos) (IteT K a) [e, it] e (fun i h => (∃ old, IsEnum h e it ((i : Nat) : Int) old) ∧ h.IsTupleIter it a i ∧ e ≠ it ∧ e ≠ a ∧ it ≠ a) where
  mem := by simp
  obj := fun i h st b hb => by
    obtain ⟨⟨old, he⟩, ⟨o, ho, hc, hd⟩, _⟩ := st
    have e' : b = e ∨ b = it := by simpa using hb
    rcases e' with z | z
    · rw [z]; exact ⟨_, he, fun v q => nomatch q⟩
    · rw [z]; exact ⟨o, ho, fun v q => by rw [hd] at q; cases q⟩
  keep := fun i h h' st k => let ⟨⟨old, he⟩, hi, hne⟩ := st; ⟨⟨old, k e (by simp) _ he⟩, hi.at fun o q => k it (by simp) o q, hne⟩
  item := by
    intro X hP hw hK hc i pins s σ H E I hf st hg
    subst hP hw hK
    obtain ⟨⟨old, he⟩, hit, hne, hea, hia⟩ := st
    obtain ⟨xs, x, hq, hx⟩ := hg
    obtain ⟨its, rv, p, hz⟩ := I.tuple hq
    obtain ⟨u, hu, ru⟩ := rv.get hx
    have hel : e < s.heap.objs.size := Heap.lt_size he
    have hil : it < s.heap.objs.size := by obtain ⟨_, q, _⟩ := hit; exact Heap.lt_size q
    have hlt : i < its.toArray.size := by
      have := (List.getElem?_eq_some_iff.mp hu).1
      simpa using this
    refine wpAny_pyNext_enum_itemC (Draws.tuple (prog := X.prog) (w := X.w) (A := X.A.in1) (I.ok.hd hc) it a (Ne.symm hia) its.toArray) he ⟨hit, p⟩ hlt hne (by simp [hne, hea]) fun x' h' tk hPx ho hst' hT hsz hk => ?_
    have ex : x' = u := by
      have h1 : its.toArray[i]? = some u := by simpa using hu
      exact Option.some.inj (hPx.symm.trans h1)
    subst ex
    obtain ⟨hit', _⟩ := hst'
    refine ⟨_, rfl, wpAny_letOwnedTupleGo_enum (s := { s with heap := h', toks := tk + 1 }) ho fun h'' he' sb => ?_⟩
    have hT2 : h''.get? s.heap.objs.size = some { cls := .type "tuple", data := .seq #[.int i tk, x'] } := (sb.2 _ (Nat.ne_of_gt hel)).trans hT
    have new : ObjOk X.prog X.w (upd H s.heap.objs.size (.tup [.int (i : Nat), x])) h'' s.heap.objs.size (.tup [.int (i : Nat), x]) :=
      ⟨by show 2 ≤ sizeLine; decide, [.int i tk, x'], .cons ⟨_, rfl⟩ (.cons ru .nil), ⟨_, hT2, rfl, _, rfl⟩⟩
    have I1 : Inv X pins σ (upd H s.heap.objs.size (.tup [.int (i : Nat), x])) { s with heap := h'', toks := tk + 1 } :=
      I.turnedNew (ch := [e, it]) (fun b ob hb q => (sb.2 b (fun z => hb (by simp [z]))).trans (hk b ob (fun z => hb (by simp [z])) (fun z => hb (by simp [z])) q)) hf (Nat.le_refl _) new
    refine ⟨.ref s.heap.objs.size, _, I1, rfl, ⟨_, x, rfl, I.hok.fresh (Nat.le_refl _), rfl, fun ys hy => by rw [I.tuple_inj hy hq]; exact hx⟩, ⟨⟨x', ?_⟩, hit'.at fun o q => (sb.2 it (Ne.symm hne)).trans q, hne, hea, hia⟩, fun b hb => ?_⟩
    · have e1 : ((i + 1 : Nat) : Int) = (i : Int) + 1 := by omega
      rw [e1]; exact he'
    · have hb' : b < s.heap.objs.size := by
        have e' : b = e ∨ b = it := by simpa using hb
        rcases e' with z | z
        · rw [z]; exact hel
        · rw [z]; exact hil
      rw [upd_ne (Nat.ne_of_lt hb')]
      exact (hf b hb).1
  done := by
    intro X hP hw hK hc i pins s σ H E I hf st hg
    subst hP hw hK
    obtain ⟨⟨old, he⟩, hit, hne, hea, hia⟩ := st
    obtain ⟨xs, hq, hx⟩ := hg
    obtain ⟨its, rv, p, hz⟩ := I.tuple hq
    obtain ⟨f0, f1, f2, f3, f4, f5⟩ := hf it (by simp)
    have hl := rv.length
    have hn : i = its.toArray.size := by simp; omega
    subst hn
    exact wpAny_pyNext_enum_endD (Draws.tuple (prog := X.prog) (w := X.w) (A := X.A.in1) (I.ok.hd hc) it a (Ne.symm hia) its.toArray) he ⟨hit, p⟩ fun h' eb => ⟨rfl, I.turned (t' := s.toks) (fun b o hb q => eb b o hb q) f0 f1 f3 f4 f5⟩
  self := fun A i s Q E st h => let ⟨⟨_, he⟩, _⟩ := st; wpAny_pyIter_enum he h
def iEnumT (K : PySem.W.Frag) (ta : TA) : TI := fun σ H R => ta σ H fun vs H1 => ∃ a xs, vs = [.ref a] ∧ SqT K H1 a xs ∧ R (IteT K a) H1
theorem pi_enumT {X : Cx} {e : Expr} {ta : TA} {p pos tpos : Pos} {elts : List Expr} {kk : Nat} (hg : Gl X "enumerate") (hm : X.mg "enumerate" = none) (ha : PA X [e] ta) (hs : starEach [e] X.env = [(false, eval e X.env)] := by rfl) :
    PI X (.Tuple elts kk tpos) (.Call (.Name "enumerate" p) [e] [] pos) (iEnumT X.K ta) := by
  refine ⟨fun pins s σ H R I h => ?_⟩
  refine Call_ (ld_blt I hg hm boot_enumerate (PyProof.Rows.callWith_type1 (thn (ha.run pos pins s σ H _ I h) fun us s1 ⟨vs, H1, I1, r1, q1⟩ => ?_) hs rfl))
  obtain ⟨a, xs, ex, hq, q⟩ := q1
  subst ex
  cases r1 with
  | cons r rr =>
    cases rr
    cases r
    obtain ⟨its, rv, p', hz⟩ := I1.tuple hq
    have la : a < s1.heap.objs.size := by obtain ⟨_, y, _⟩ := p'; exact Heap.lt_size y
    refine call_enumerate_tuple (show s1.heap.IsTuple a its.toArray from p') fun h' he hit hsz hk => wpAny_pyIter_enum he ?_
    have I2 : Inv X pins σ H1 { s1 with heap := h' } := I1.kept (t' := s1.toks) hk
    refine ⟨s1.heap.objs.size + 1, [s1.heap.objs.size + 1, s1.heap.objs.size], _, _, H1, rfl, I2, turn_enumT a (s1.heap.objs.size + 1) s1.heap.objs.size, ⟨⟨.none, he⟩, hit, Nat.succ_ne_self _, Nat.ne_of_gt (Nat.lt_succ_of_lt la), Nat.ne_of_gt la⟩, fun b hb => ?_, q⟩
    have e' : b = s1.heap.objs.size + 1 ∨ b = s1.heap.objs.size := by simpa using hb
    have hle : s1.heap.objs.size ≤ b := by
      rcases e' with z | z
      · rw [z]; exact Nat.le_add_right _ _
      · rw [z]; exact Nat.le_refl _
    exact I1.fpOk hle (I1.hok.fresh hle)
theorem walk_enumT {K : PySem.W.Frag} {a : Addr} {xs : List V} : Walk (IteT K a) xs.length (fun H => SqT K H a xs) (YPair (fun i => some (.int (i : Nat))) (fun i => xs[i]?)) := by
  refine ⟨fun i _ hi q => ⟨xs, xs[i], q, by simp [hi]⟩, fun _ q => ⟨xs, q, rfl⟩, fun i H v H' _ q y => ?_⟩
  obtain ⟨T, x, h1, h2, h3, h4⟩ := y
  exact ⟨T, .int (i : Nat), x, h1, h2, h3, rfl, h4 xs q⟩
/-! ### f(e, ..), f an instance: a reading that speaks of no context -/
def tCallI (C : Addr) (sp : Sp) (E : XK) (tf : TE) (t : TA) : TE := fun σ H Q => tf σ H fun y H1 => ∃ a, y = V.ref a ∧ t σ H1 fun vs H2 => (∃ dx fs, H2 a = some (.ins C dx fs)) ∧ sp (V.ref a :: vs) H2 Q E
theorem pe_callI {X : Cx} {CX : CXT} {k : Nat} {C g : Addr} {sp : Sp} {E : XK} {fe e : Expr} {es : List Expr} {tf : TE} {t : TA} {pos : Pos} (hf : PE X fe tf) (c : StX.CallO X.K C g) (F : FnR X.prog X.w X.K X.mg X.base CX k g sp) (hr : Room k X.A) (hx : Passes CX X E) (ha : PA X (e :: es) t)
    (ht : eval (.Call fe (e :: es) [] pos) X.env = (do callWith pos (← eval fe X.env) [] (backTo pos (starEach (e :: es) X.env)) (backToKw pos (keywordEach [] X.env))) := by rfl)
    (he : starEach (e :: es) X.env = (false, eval e X.env) :: starEach es X.env := by rfl) (hpl : (backTo pos (starEach es X.env)).any (·.1) = false := by rfl) : PE X (.Call fe (e :: es) [] pos) (tCallI C sp E tf t) := by
  refine ⟨fun pins s σ H Q I h => ?_⟩
  refine Call_ (thn (hf.run pins s σ H _ I h) fun u s1 ⟨y, H1, I1, ry, a, ey, q⟩ => ?_) ht
  subst ey
  obtain rfl : u = Value.ref a := ry
  refine StX.callO_with (thn (ha.run pos pins s1 σ H1 _ I1 q) fun us s2 ⟨vs, H2, I2, r, hi, q2⟩ => ?_) he hpl
  have hi' : StX.InsC X H2 a C := .inr hi
  obtain ⟨ox, od, J, hd⟩ := StX.insC_at I2 hi'
  exact ⟨⟨C, ox, od, J, hd⟩, StX.run_callO c F hr hx I2 hi' r q2⟩
end Rz
/-! More rules beside the layer's: a range that stands in a slot, walked; a tuple's index of an int. -/
namespace Rz
open PySem PySem.Spec PyProof.Rows L2
section
variable {X : Cx}
def iRngV (te : TE) : TI := fun σ H R => te σ H fun x H1 => ∃ a lo hi, x = .ref a ∧ H1 a = some (.rng lo hi) ∧ (-(2 ^ 62) ≤ lo ∧ lo < 2 ^ 62 ∧ -(2 ^ 62) ≤ hi ∧ hi < 2 ^ 62) ∧ R (Itr lo (hi - lo).toNat) H1
theorem pi_rngV {tg e : Expr} {te : TE} (he : PE X e te) : PI X tg e (iRngV te) := by
  refine ⟨fun pins s σ H R I h => ?_⟩
  refine thn (he.run pins s σ H _ I h) fun v s1 ⟨x, H1, I1, r1, q1⟩ => ?_
  obtain ⟨a, lo, hi, ex, ha, ⟨h1, h2, h3, h4⟩, q⟩ := q1
  subst ex
  cases r1
  obtain ⟨t, u, v, ho⟩ := (show ObjOk X.prog X.w H1 s1.heap a (.rng lo hi) from I1.hok a _ ha)
  refine wpAny_pyIter_range (show IsRange s1.heap a lo hi 1 t u v from ho) (small_one h1 h2 h3 h4) ?_
  refine ⟨s1.heap.objs.size, [s1.heap.objs.size], _, _, H1, rfl, I1.kept (t' := s1.toks) fun b o e => Heap.get?_push_of_some _ e, turn_range _ lo (hi - lo).toNat, ?_, fun b hb => ?_, q⟩
  · have e1 : lo + ((0 : Nat) : Int) * 1 = lo := by simp
    have e2 : (((hi - lo).toNat : Nat) : Int) - ((0 : Nat) : Int) = Builtin.Range.rangeSize lo hi 1 := by rw [rangeSize_one]; split <;> omega
    show IsRangeIter _ _ (lo + ((0 : Nat) : Int) * 1) ((((hi - lo).toNat : Nat) : Int) - ((0 : Nat) : Int)) 1
    rw [e1, e2]
    exact Heap.get?_push_size _ rfl
  · have e : b = s1.heap.objs.size := by simpa using hb
    subst e
    exact I1.fpOk (Nat.le_refl _) (I1.hok.fresh (Nat.le_refl _))
/-- t.index(i), the first place -/
theorem mt_tup_indexI : MtR X "tuple.index" (fun x xs H Q => ∃ p, ∃ ys : List Int, ∃ z j, x = .ref p ∧ xs = [.int z] ∧ SqT X.K H p (ys.map V.int) ∧ ys[j]? = some z ∧ (∀ m y, m < j → ys[m]? = some y → y ≠ z) ∧ Q (.int (j : Nat)) H) := by
  intro pins s σ H x xs v us Q I rx rs h
  obtain ⟨p, ys, z, j, rfl, rfl, hq, hy, hno, q⟩ := h
  cases rx
  obtain ⟨u, rfl, t, rfl⟩ := vals1 rs
  obtain ⟨its, r, pl, hz⟩ := I.tuple hq
  obtain ⟨⟨cls, dd, dt, sl⟩, ho, hc, n, hd⟩ := pl
  simp only at hc hd
  subst hc
  subst hd
  have fl : (ys.map V.int).all flatV = true := by
    rw [List.all_eq_true]
    intro x hx
    obtain ⟨i, _, rfl⟩ := List.mem_map.mp hx
    rfl
  have hl : its.toArray.size = ys.length := by rw [List.size_toArray, ← r.length, List.length_map]
  have hj : j < its.toArray.size := by rw [hl]; exact (List.getElem?_eq_some_iff.mp hy).1
  have at' : ∀ (m : Nat) (hm : m < its.toArray.size), ∃ y t', ys[m]? = some y ∧ its.toArray[m] = Value.int y t' := fun m hm => by
    have hm' : m < ys.length := by rw [← hl]; exact hm
    obtain ⟨w, hw, t', hw'⟩ := r.get (i := m) (x := .int ys[m]) (by simp [hm'])
    refine ⟨ys[m], t', List.getElem?_eq_getElem hm', ?_⟩
    have e := (List.getElem?_eq_some_iff.mp hw).2
    rw [← hw', ← e]
    simp
  refine call_meets PySem.F.slot_tuple_index ⟨_, ho, rfl⟩ PySem.F.entry_tuple_index (PySem.F.args_tuple_index_2 _ _) (TI.tuple_indexAt p its.toArray n dd sl (.int z t) (eqU (.int z)) j hj ?_ ?_)
    ⟨ho, fun w hw => mem_eqAt (x := .int z) ⟨t, rfl⟩ rfl r fl w (by simpa using hw), ⟨.int (j : Nat), H, I.tok _, ⟨_, rfl⟩, q⟩⟩
  · obtain ⟨y, t', h1, h2⟩ := at' j hj
    rw [hy] at h1
    cases h1
    rw [h2]
    show (z == z) = true
    exact beq_self_eq_true z
  · intro m hm hmj
    obtain ⟨y, t', h1, h2⟩ := at' m hm
    rw [h2]
    show (y == z) = false
    exact beq_eq_false_iff_ne.mpr (hno m y hmj h1)
end
end Rz
/-! The mathematics of a ring: the ends as the greatest sum over chains, Bellman's equation, where ends repeat. -/
namespace Rm
/-- f r + f (r - 1) + .. , k terms -/
def sumBack (f : Int → Int) (r : Int) : Nat → Int
  | 0 => 0
  | k + 1 => sumBack f r k + f (r - k)
/-- the greatest of f r .. f (r - k) -/
def maxBack (f : Int → Int) (r : Int) : Nat → Int
  | 0 => f r
  | k + 1 => max (maxBack f r k) (f (r - (k + 1 : Nat)))
theorem sum_front (f : Int → Int) : ∀ (k : Nat) (r : Int), sumBack f r (k + 1) = f r + sumBack f (r - 1) k
  | 0, r => by simp [sumBack]
  | k + 1, r => by
    show sumBack f r (k + 1) + f (r - (k + 1 : Nat)) = f r + (sumBack f (r - 1) k + f (r - 1 - k))
    rw [sum_front f k r, show r - ((k + 1 : Nat) : Int) = r - 1 - k by omega]
    omega
theorem max_front (f : Int → Int) : ∀ (k : Nat) (r : Int), maxBack f r (k + 1) = max (f r) (maxBack f (r - 1) k)
  | 0, r => by simp [maxBack]
  | k + 1, r => by
    show max (maxBack f r (k + 1)) (f (r - (k + 1 + 1 : Nat))) = max (f r) (max (maxBack f (r - 1) k) (f (r - 1 - (k + 1 : Nat))))
    rw [max_front f k r, show r - ((k + 1 + 1 : Nat) : Int) = r - 1 - (k + 1 : Nat) by omega]
    omega
theorem sum_add (f : Int → Int) (r : Int) (k : Nat) : ∀ n : Nat, sumBack f r (k + n) = sumBack f r k + sumBack f (r - k) n
  | 0 => by simp [sumBack]
  | n + 1 => by
    show sumBack f r (k + n) + f (r - (k + n : Nat)) = sumBack f r k + (sumBack f (r - k) n + f (r - k - n))
    rw [sum_add f r k n, show r - ((k + n : Nat) : Int) = r - k - n by omega]
    omega
theorem sum_mono {f : Int → Int} (h : ∀ i, 0 ≤ f i) (r : Int) {j k : Nat} (hjk : j ≤ k) : sumBack f r j ≤ sumBack f r k := by
  induction k with
  | zero =>
    have : j = 0 := by omega
    subst this
    exact Int.le_refl _
  | succ k ih =>
    by_cases e : j = k + 1
    · subst e
      exact Int.le_refl _
    · have := ih (by omega)
      have h2 := h (r - k)
      show sumBack f r j ≤ sumBack f r k + f (r - k)
      omega
theorem sum_nn {f : Int → Int} (h : ∀ i, 0 ≤ f i) (r : Int) (k : Nat) : 0 ≤ sumBack f r k := sum_mono h r (Nat.zero_le k)
theorem max_ge {f : Int → Int} (r : Int) : ∀ {j k : Nat}, j ≤ k → f (r - j) ≤ maxBack f r k
  | j, 0, h => by
    have : j = 0 := by omega
    subst this
    simp [maxBack]
  | j, k + 1, h => by
    show f (r - j) ≤ max (maxBack f r k) (f (r - (k + 1 : Nat)))
    by_cases e : j = k + 1
    · subst e
      omega
    · have := max_ge (f := f) r (j := j) (k := k) (by omega)
      omega
theorem max_le {f : Int → Int} {M : Int} (h : ∀ i, f i ≤ M) (r : Int) : ∀ k : Nat, maxBack f r k ≤ M
  | 0 => h r
  | k + 1 => by
    have h1 := max_le h r k
    have h2 := h (r - (k + 1 : Nat))
    show max (maxBack f r k) (f (r - (k + 1 : Nat))) ≤ M
    omega
theorem max_mono {f : Int → Int} (r : Int) {j k : Nat} (h : j ≤ k) : maxBack f r j ≤ maxBack f r k := by
  induction k with
  | zero =>
    have : j = 0 := by omega
    subst this
    exact Int.le_refl _
  | succ k ih =>
    by_cases e : j = k + 1
    · subst e
      exact Int.le_refl _
    · have := ih (by omega)
      show maxBack f r j ≤ max (maxBack f r k) (f (r - (k + 1 : Nat)))
      omega

/-- readers in a ring: days, books at first, all books, all days, the slowest -/
structure Ring (N : Nat) (d s : Int → Int) (B T M : Int) : Prop where
  pos : 0 < N
  dper : ∀ i t : Int, d (i + N * t) = d i
  sper : ∀ i t : Int, s (i + N * t) = s i
  d1 : ∀ i, 1 ≤ d i
  s0 : ∀ i, 0 ≤ s i
  b : ∀ r, sumBack s r N = B
  b1 : 1 ≤ B
  t : ∀ r, sumBack d r N = T
  mu : ∀ i, d i ≤ M
  ma : ∃ i, d i = M

/-- the sum of the chain from reading x of reader r that goes k readers back -/
def ch (d s : Int → Int) (r : Int) (k : Nat) (x : Int) : Int := sumBack d r (k + 1) + (x - sumBack s r k) * maxBack d r k
/-- e is the greatest of them -/
def IsEnd (d s : Int → Int) (r x e : Int) : Prop := (∀ k, sumBack s r k ≤ x → ch d s r k x ≤ e) ∧ ∃ k, sumBack s r k ≤ x ∧ ch d s r k x = e
theorem IsEnd.inj {d s : Int → Int} {r x e e' : Int} (h : IsEnd d s r x e) (h' : IsEnd d s r x e') : e = e' := by
  obtain ⟨k, h1, h2⟩ := h.2
  obtain ⟨k', h1', h2'⟩ := h'.2
  have := h.1 k' h1'
  have := h'.1 k h1
  omega

section
variable {N : Nat} {d s : Int → Int} {B T M : Int} (R : Ring N d s B T M)
include R
theorem Ring.sumS (r : Int) (k : Nat) : ∀ m : Nat, sumBack s r (k + m * N) = sumBack s r k + m * B
  | 0 => by simp
  | m + 1 => by
    rw [show k + (m + 1) * N = k + m * N + N by rw [Nat.add_mul, Nat.one_mul, Nat.add_assoc], sum_add, Ring.sumS r k m, R.b, show ((m + 1 : Nat) : Int) = (m : Int) + 1 by omega, Int.add_mul]
    omega
theorem Ring.sumD (r : Int) (k : Nat) : ∀ m : Nat, sumBack d r (k + m * N) = sumBack d r k + m * T
  | 0 => by simp
  | m + 1 => by
    rw [show k + (m + 1) * N = k + m * N + N by rw [Nat.add_mul, Nat.one_mul, Nat.add_assoc], sum_add, Ring.sumD r k m, R.t, show ((m + 1 : Nat) : Int) = (m : Int) + 1 by omega, Int.add_mul]
    omega
theorem Ring.maxM (r : Int) {k : Nat} (h : N ≤ k + 1) : maxBack d r k = M := by
  obtain ⟨i, hi⟩ := R.ma
  have hN := R.pos
  have h0 : 0 ≤ (r - i) % (N : Int) := Int.emod_nonneg _ (by omega)
  have h1 : (r - i) % (N : Int) < N := Int.emod_lt_of_pos _ (by omega)
  have e : r - (((r - i) % (N : Int)).toNat : Nat) = i + N * ((r - i) / (N : Int)) := by
    have := Int.emod_add_mul_ediv (r - i) (N : Int)
    omega
  have h2 := max_ge (f := d) r (j := ((r - i) % (N : Int)).toNat) (k := k) (by omega)
  rw [e, R.dper, hi] at h2
  have h3 := max_le R.mu r k
  omega
theorem Ring.M1 : 1 ≤ M := by
  obtain ⟨i, hi⟩ := R.ma
  have := R.d1 i
  omega
theorem Ring.round (r x : Int) (k : Nat) {m : Nat} (hm : 1 ≤ m) : ch d s r (k + m * N) x = sumBack d r (k + 1) + (x - sumBack s r k) * M + m * (T - B * M) := by
  unfold ch
  have e1 : sumBack d r (k + m * N + 1) = sumBack d r (k + 1) + m * T := by
    rw [show k + m * N + 1 = k + 1 + m * N by omega, R.sumD]
  have e2 : N ≤ k + m * N + 1 := by
    have : 1 * N ≤ m * N := Nat.mul_le_mul_right N hm
    omega
  rw [e1, R.sumS, R.maxM r e2]
  have e3 : (x - (sumBack s r k + m * B)) * M = (x - sumBack s r k) * M - m * (B * M) := by
    rw [show x - (sumBack s r k + m * B) = (x - sumBack s r k) - m * B by omega, Int.sub_mul, Int.mul_assoc]
  rw [e3, Int.mul_sub]
  omega
end

/-- what the loop over the first i readers back has found -/
def Sofar (N : Nat) (d s : Int → Int) (r x : Int) (i : Nat) (L : Int) : Prop :=
  (∀ j m : Nat, j < i → sumBack s r (j + m * N) ≤ x → ch d s r (j + m * N) x ≤ L) ∧ ((i = 0 ∧ L = 0) ∨ ∃ k, sumBack s r k ≤ x ∧ ch d s r k x = L)
section
variable {N : Nat} {d s : Int → Int} {B T M : Int} (R : Ring N d s B T M)
include R
theorem Ring.ch_pos (r x : Int) (k : Nat) (h : sumBack s r k ≤ x) : 1 ≤ ch d s r k x := by
  unfold ch
  have h1 : d (r - k) ≤ sumBack d r (k + 1) := by
    have := sum_nn (f := d) (fun i => by have := R.d1 i; omega) r k
    show d (r - k) ≤ sumBack d r k + d (r - k)
    omega
  have h2 := R.d1 (r - k)
  have h3 : 0 ≤ maxBack d r k := by
    have := max_ge (f := d) r (j := 0) (k := k) (Nat.zero_le _)
    have := R.d1 (r - (0 : Nat))
    omega
  have h4 := Int.mul_nonneg (show 0 ≤ x - sumBack s r k by omega) h3
  omega
theorem Ring.step {r x L : Int} {i : Nat} (P : Sofar N d s r x i L) (hl : sumBack s r i ≤ x) {L2 : Int}
    (h2 : L2 = if B ≤ x - sumBack s r i then max (max L (ch d s r i x)) (sumBack d r (i + 1) + (x - sumBack s r i) * M + (if 0 < T - B * M then (x - sumBack s r i) / B else 1) * (T - B * M)) else max L (ch d s r i x)) :
    Sofar N d s r x (i + 1) L2 := by
  have P1 := P.1
  have hB := R.b1
  have hge : max L (ch d s r i x) ≤ L2 := by
    rw [h2]
    split <;> omega
  have key : ∀ m : Nat, 1 ≤ m → sumBack s r (i + m * N) ≤ x → ch d s r (i + m * N) x ≤ L2 := by
    intro m hm hv
    rw [R.round r x i hm]
    rw [R.sumS] at hv
    have hmB : (1 : Int) * B ≤ m * B := Int.mul_le_mul_of_nonneg_right (by omega) (by omega)
    have hBl : B ≤ x - sumBack s r i := by omega
    rw [if_pos hBl] at h2
    have hc : (m : Int) * (T - B * M) ≤ (if 0 < T - B * M then (x - sumBack s r i) / B else 1) * (T - B * M) := by
      split
      · rename_i hg
        refine Int.mul_le_mul_of_nonneg_right ?_ (by omega)
        exact (Int.le_ediv_iff_mul_le (by omega)).mpr (by omega)
      · rename_i hg
        have h5 : (0 : Int) ≤ ((m : Int) - 1) * (-(T - B * M)) := Int.mul_nonneg (by omega) (by omega)
        rw [Int.sub_mul, Int.mul_neg] at h5
        omega
    omega
  refine ⟨fun j m hj hv => ?_, ?_⟩
  · by_cases e : j = i
    · subst e
      cases m with
      | zero =>
        have e0 : j + 0 * N = j := by omega
        rw [e0]
        omega
      | succ m => exact key (m + 1) (by omega) hv
    · have := P1 j m (by omega) hv
      omega
  · right
    have hcp := R.ch_pos r x i hl
    have hL : ∃ k, sumBack s r k ≤ x ∧ ch d s r k x = max L (ch d s r i x) := by
      rcases P.2 with ⟨h0, hL0⟩ | ⟨k, hk, hk2⟩
      · exact ⟨i, hl, by omega⟩
      · by_cases hh : ch d s r i x ≤ L
        · exact ⟨k, hk, by omega⟩
        · exact ⟨i, hl, by omega⟩
    by_cases hBl : B ≤ x - sumBack s r i
    · rw [if_pos hBl] at h2
      -- the candidate of whole rounds is a chain too
      have hcand : ∃ k, sumBack s r k ≤ x ∧ ch d s r k x = sumBack d r (i + 1) + (x - sumBack s r i) * M + (if 0 < T - B * M then (x - sumBack s r i) / B else 1) * (T - B * M) := by
        by_cases hg : 0 < T - B * M
        · rw [if_pos hg]
          have hq1 : 1 ≤ (x - sumBack s r i) / B := (Int.le_ediv_iff_mul_le (by omega)).mpr (by omega)
          have hq2 : (x - sumBack s r i) / B * B ≤ x - sumBack s r i := Int.ediv_mul_le _ (by omega)
          have hqn : ((((x - sumBack s r i) / B).toNat : Nat) : Int) = (x - sumBack s r i) / B := by omega
          refine ⟨i + ((x - sumBack s r i) / B).toNat * N, ?_, ?_⟩
          · rw [R.sumS, hqn]
            omega
          · rw [R.round r x i (by omega), hqn]
        · rw [if_neg hg]
          refine ⟨i + 1 * N, ?_, ?_⟩
          · rw [R.sumS]
            omega
          · rw [R.round r x i (by omega)]
            simp
      obtain ⟨k1, a1, a2⟩ := hL
      obtain ⟨k2, c1, c2⟩ := hcand
      by_cases hh : max L (ch d s r i x) ≤ sumBack d r (i + 1) + (x - sumBack s r i) * M + (if 0 < T - B * M then (x - sumBack s r i) / B else 1) * (T - B * M)
      · exact ⟨k2, c1, by rw [c2, h2]; omega⟩
      · exact ⟨k1, a1, by rw [a2, h2]; omega⟩
    · rw [if_neg hBl] at h2
      rw [h2]
      exact hL
theorem Ring.fin {r x L : Int} {i : Nat} (P : Sofar N d s r x i L) (hi : i = N ∨ (0 < i ∧ x < sumBack s r i)) : IsEnd d s r x L := by
  have P1 := P.1
  have hN := R.pos
  refine ⟨fun k hk => ?_, ?_⟩
  · have ek : k = k % N + k / N * N := by
      have := Nat.mod_add_div k N
      rw [Nat.mul_comm] at this
      exact this.symm
    rw [ek] at hk ⊢
    refine P1 _ _ ?_ hk
    rcases hi with hi | ⟨_, hi⟩
    · rw [hi]
      exact Nat.mod_lt _ hN
    · rcases Nat.lt_or_ge (k % N) i with h | h
      · exact h
      · have := sum_mono R.s0 r h
        have h2 := R.sumS r (k % N) (k / N)
        have h3 : (0 : Int) ≤ ((k / N : Nat) : Int) * B := Int.mul_nonneg (Int.natCast_nonneg _) (by have := R.b1; omega)
        omega
  · rcases P.2 with ⟨h0, _⟩ | h
    · rcases hi with hi | ⟨hi, _⟩ <;> omega
    · exact h
theorem Ring.sofar0 (r x : Int) : Sofar N d s r x 0 0 := ⟨fun _ _ h => absurd h (Nat.not_lt_zero _), .inl ⟨rfl, rfl⟩⟩
theorem Ring.ends (r : Int) {x : Int} (hx : 0 ≤ x) : ∃ e, IsEnd d s r x e := by
  have go : ∀ n i L, i + n = N → sumBack s r i ≤ x → Sofar N d s r x i L → ∃ e, IsEnd d s r x e := by
    intro n
    induction n with
    | zero =>
      intro i L hi _ P
      exact ⟨L, R.fin P (.inl (by omega))⟩
    | succ n ih =>
      intro i L hi hl P
      have P' := R.step P hl rfl
      by_cases h : sumBack s r (i + 1) ≤ x
      · exact ih (i + 1) _ (by omega) h P'
      · exact ⟨_, R.fin P' (.inr ⟨by omega, by omega⟩)⟩
  exact go N 0 0 (by omega) (by show (0 : Int) ≤ x; exact hx) (R.sofar0 r x)
end
/-- the day on which reading x of reader r ends -/
noncomputable def E (d s : Int → Int) (r x : Int) : Int := open Classical in if h : ∃ e, IsEnd d s r x e then Classical.choose h else 0
section
variable {N : Nat} {d s : Int → Int} {B T M : Int} (R : Ring N d s B T M)
include R
theorem Ring.isE (r : Int) {x : Int} (hx : 0 ≤ x) : IsEnd d s r x (E d s r x) := by
  have h := R.ends r hx
  unfold E
  rw [dif_pos h]
  exact Classical.choose_spec h
theorem Ring.E_of {r x e : Int} (h : IsEnd d s r x e) : E d s r x = e := by
  have h' : ∃ e, IsEnd d s r x e := ⟨e, h⟩
  unfold E
  rw [dif_pos h']
  exact (Classical.choose_spec h').inj h
theorem Ring.E_per (r x t : Int) : E d s (r + N * t) x = E d s r x := by
  have hs : ∀ k, sumBack s (r + N * t) k = sumBack s r k := by
    intro k
    induction k with
    | zero => rfl
    | succ k ih =>
      show sumBack s (r + N * t) k + s (r + N * t - k) = sumBack s r k + s (r - k)
      rw [ih, show r + N * t - k = (r - k) + N * t by omega, R.sper]
  have hd : ∀ k, sumBack d (r + N * t) k = sumBack d r k := by
    intro k
    induction k with
    | zero => rfl
    | succ k ih =>
      show sumBack d (r + N * t) k + d (r + N * t - k) = sumBack d r k + d (r - k)
      rw [ih, show r + N * t - k = (r - k) + N * t by omega, R.dper]
  have hm : ∀ k, maxBack d (r + N * t) k = maxBack d r k := by
    intro k
    induction k with
    | zero => exact R.dper r t
    | succ k ih =>
      show max (maxBack d (r + N * t) k) (d (r + N * t - (k + 1 : Nat))) = max (maxBack d r k) (d (r - (k + 1 : Nat)))
      rw [ih, show r + N * t - ((k + 1 : Nat) : Int) = (r - (k + 1 : Nat)) + N * t by omega, R.dper]
  have he : IsEnd d s (r + N * t) x = IsEnd d s r x := by
    funext e
    unfold IsEnd ch
    simp only [hs, hd, hm]
  unfold E
  rw [he]
theorem Ring.E_mod (r x : Int) : E d s (r % N) x = E d s r x := by
  have h := R.E_per (r % N) x (r / N)
  rw [Int.emod_add_mul_ediv] at h
  exact h.symm
theorem Ring.ub (r : Int) {x : Int} (hx : 0 ≤ x) (k : Nat) (h : sumBack s r k ≤ x) : ch d s r k x ≤ E d s r x := (R.isE r hx).1 k h
theorem Ring.att (r : Int) {x : Int} (hx : 0 ≤ x) : ∃ k, sumBack s r k ≤ x ∧ ch d s r k x = E d s r x := (R.isE r hx).2
theorem Ring.low (r : Int) {x : Int} (hx : 0 ≤ x) : (x + 1) * d r ≤ E d s r x := by
  have h := R.ub r hx 0 hx
  have e : ch d s r 0 x = (x + 1) * d r := by
    unfold ch
    show 0 + d (r - (0 : Nat)) + (x - 0) * d r = _
    rw [show r - ((0 : Nat) : Int) = r by omega, Int.add_mul]
    simp
    omega
  omega
theorem Ring.E1 (r : Int) {x : Int} (hx : 0 ≤ x) : d r ≤ E d s r x := by
  have h := R.low r hx
  have h2 : (0 : Int) ≤ x * d r := Int.mul_nonneg hx (by have := R.d1 r; omega)
  rw [Int.add_mul] at h
  omega
/-- Bellman, from below -/
theorem Ring.next (r : Int) {x : Int} (hx : 0 ≤ x) : E d s r x + d r ≤ E d s r (x + 1) := by
  obtain ⟨k, hk, e⟩ := R.att r hx
  have h := R.ub r (x := x + 1) (by omega) k (by omega)
  have h2 := max_ge (f := d) r (j := 0) (k := k) (Nat.zero_le _)
  rw [show r - ((0 : Nat) : Int) = r by omega] at h2
  unfold ch at h e
  have e3 : (x + 1 - sumBack s r k) * maxBack d r k = (x - sumBack s r k) * maxBack d r k + maxBack d r k := by
    rw [show x + 1 - sumBack s r k = (x - sumBack s r k) + 1 by omega, Int.add_mul]
    omega
  omega
theorem Ring.from (r : Int) {x : Int} (hs : s r ≤ x) : E d s (r - 1) (x - s r) + d r ≤ E d s r x := by
  have hx : 0 ≤ x - s r := by omega
  have hx0 : 0 ≤ x := by have := R.s0 r; omega
  obtain ⟨k, hk, e⟩ := R.att (r - 1) hx
  have hS : sumBack s r (k + 1) = s r + sumBack s (r - 1) k := sum_front s k r
  have h := R.ub r hx0 (k + 1) (by omega)
  unfold ch at h e
  rw [sum_front d (k + 1) r, hS, max_front d k r] at h
  have e2 : x - (s r + sumBack s (r - 1) k) = x - s r - sumBack s (r - 1) k := by omega
  rw [e2] at h
  have h4 : (x - s r - sumBack s (r - 1) k) * maxBack d (r - 1) k ≤ (x - s r - sumBack s (r - 1) k) * max (d r) (maxBack d (r - 1) k) :=
    Int.mul_le_mul_of_nonneg_left (by omega) (by omega)
  omega
/-- .. from above -/
theorem Ring.bell (r : Int) {x : Int} (hx : 0 ≤ x) : E d s r x = d r ∨ (1 ≤ x ∧ E d s r x = E d s r (x - 1) + d r) ∨ (s r ≤ x ∧ E d s r x = E d s (r - 1) (x - s r) + d r) := by
  obtain ⟨k, hk, e⟩ := R.att r hx
  cases k with
  | zero =>
    have e0 : ch d s r 0 x = d r + x * d r := by
      unfold ch
      show 0 + d (r - (0 : Nat)) + (x - 0) * d r = _
      rw [show r - ((0 : Nat) : Int) = r by omega]
      simp
    by_cases h0 : x = 0
    · left
      subst h0
      simp at e0
      omega
    · right; left
      refine ⟨by omega, ?_⟩
      have h1 := R.ub r (x := x - 1) (by omega) 0 (by show (0 : Int) ≤ x - 1; omega)
      have e1 : ch d s r 0 (x - 1) = x * d r := by
        unfold ch
        show 0 + d (r - (0 : Nat)) + (x - 1 - 0) * d r = _
        rw [show r - ((0 : Nat) : Int) = r by omega, show x - 1 - 0 = x - 1 by omega, Int.sub_mul]
        omega
      have h2 := R.next r (x := x - 1) (by omega)
      rw [show x - 1 + 1 = x by omega] at h2
      omega
  | succ k =>
    have hS : sumBack s r (k + 1) = s r + sumBack s (r - 1) k := sum_front s k r
    have hnn := sum_nn R.s0 (r - 1) k
    have hsr : s r ≤ x := by omega
    have h1 := R.ub (r - 1) (x := x - s r) (by omega) k (by omega)
    have h3 := R.from r hsr
    have e' := e
    unfold ch at e' h1
    rw [sum_front d (k + 1) r, hS, max_front d k r, show x - (s r + sumBack s (r - 1) k) = x - s r - sumBack s (r - 1) k by omega] at e'
    by_cases hm : d r ≤ maxBack d (r - 1) k
    · right; right
      refine ⟨hsr, ?_⟩
      rw [show max (d r) (maxBack d (r - 1) k) = maxBack d (r - 1) k by omega] at e'
      omega
    · rw [show max (d r) (maxBack d (r - 1) k) = d r by omega] at e'
      by_cases hl : x - s r - sumBack s (r - 1) k = 0
      · right; right
        refine ⟨hsr, ?_⟩
        rw [hl] at e' h1
        simp at e' h1
        omega
      · right; left
        have hx1 : 1 ≤ x := by have := R.s0 r; omega
        refine ⟨hx1, ?_⟩
        have h5 := R.ub r (x := x - 1) (by omega) (k + 1) (by omega)
        unfold ch at h5
        rw [sum_front d (k + 1) r, hS, max_front d k r, show max (d r) (maxBack d (r - 1) k) = d r by omega,
          show x - 1 - (s r + sumBack s (r - 1) k) = (x - s r - sumBack s (r - 1) k) - 1 by omega, Int.sub_mul] at h5
        have h2 := R.next r (x := x - 1) (by omega)
        rw [show x - 1 + 1 = x by omega] at h2
        omega
end
end Rm
/-! Where ends repeat; counts by a day; heaps. -/
namespace Rm
def Rep (d s : Int → Int) (p q x : Int) : Prop := ∀ r, E d s r (x + p) = E d s r x + q
section
variable {N : Nat} {d s : Int → Int} {B T M : Int} (R : Ring N d s B T M)
include R
theorem Ring.T0 : 0 ≤ T := by
  have h := sum_nn (f := d) (fun i => by have := R.d1 i; omega) 0 N
  rw [R.t] at h
  exact h
theorem Ring.BM0 : 0 ≤ B * M := Int.mul_nonneg (by have := R.b1; omega) (by have := R.M1; omega)
theorem Ring.S_le (r : Int) {k m : Nat} (h : k ≤ m * N) : sumBack s r k ≤ m * B := by
  have h1 := sum_mono R.s0 r h
  have h2 := R.sumS r 0 m
  rw [Nat.zero_add] at h2
  rw [h2] at h1
  show sumBack s r k ≤ m * B
  have : sumBack s r 0 = 0 := rfl
  omega
/-- one more unit of x -/
theorem ch_succ (d s : Int → Int) (r : Int) (k : Nat) (x y : Int) : ch d s r k (x + y) = ch d s r k x + y * maxBack d r k := by
  unfold ch
  rw [show x + y - sumBack s r k = (x - sumBack s r k) + y by omega, Int.add_mul]
  omega
theorem Ring.rep_slow (hg : T ≤ B * M) {x : Int} (hx : 4 * B + B * M ≤ x) : Rep d s 1 M x := by
  intro r
  have hB := R.b1
  have hT := R.T0
  have hBM := R.BM0
  have hM := R.M1
  have hx0 : 0 ≤ x := by omega
  apply Int.le_antisymm
  · obtain ⟨k, hk, e⟩ := R.att r (x := x + 1) (by omega)
    by_cases hv : sumBack s r k ≤ x
    · have h1 := R.ub r hx0 k hv
      rw [ch_succ R d s r k x 1] at e
      have h2 := max_le R.mu r k
      omega
    · have hkN : 2 * N ≤ k := by
        rcases Nat.lt_or_ge k (2 * N) with h | h
        · have := R.S_le r (k := k) (m := 2) (by omega)
          omega
        · exact h
      obtain ⟨k', rfl⟩ : ∃ k', k = k' + 1 * N := ⟨k - 1 * N, by omega⟩
      rw [R.round r (x + 1) k' (by omega)] at e
      rw [R.sumS] at hk hv
      have h1 := R.ub r hx0 k' (by omega)
      unfold ch at h1
      rw [R.maxM r (k := k') (by omega)] at h1
      rw [show x + 1 - sumBack s r k' = (x - sumBack s r k') + 1 by omega, Int.add_mul] at e
      omega
  · obtain ⟨k, hk, e⟩ := R.att r hx0
    by_cases hm : maxBack d r k = M
    · have h1 := R.ub r (x := x + 1) (by omega) k (by omega)
      rw [ch_succ R d s r k x 1, hm] at h1
      omega
    · have hkN : k + 1 < N := by
        rcases Nat.lt_or_ge (k + 1) N with h | h
        · exact h
        · exact absurd (R.maxM r h) hm
      have hS := R.S_le r (k := k) (m := 1) (by omega)
      have h1 := R.ub r (x := x + 1) (by omega) (k + 1 * N) (by rw [R.sumS]; omega)
      rw [R.round r (x + 1) k (by omega)] at h1
      have h2 := max_le R.mu r k
      unfold ch at e
      have h3 : (x - sumBack s r k) * (maxBack d r k + 1) ≤ (x - sumBack s r k) * M := Int.mul_le_mul_of_nonneg_left (by omega) (by omega)
      rw [Int.mul_add] at h3
      rw [show x + 1 - sumBack s r k = (x - sumBack s r k) + 1 by omega, Int.add_mul] at h1
      omega
theorem Ring.rep_fast (hg : B * M < T) {x : Int} (hx : 4 * B + B * M ≤ x) : Rep d s B T x := by
  intro r
  have hB := R.b1
  have hBM := R.BM0
  have hx0 : 0 ≤ x := by omega
  apply Int.le_antisymm
  · obtain ⟨k, hk, e⟩ := R.att r (x := x + B) (by omega)
    by_cases hkN : 2 * N ≤ k + 1
    · obtain ⟨k', rfl⟩ : ∃ k', k = k' + 1 * N := ⟨k - 1 * N, by have := R.pos; omega⟩
      rw [R.round r (x + B) k' (by omega)] at e
      rw [R.sumS] at hk
      have h1 := R.ub r hx0 k' (by omega)
      unfold ch at h1
      rw [R.maxM r (k := k') (by omega)] at h1
      rw [show x + B - sumBack s r k' = (x - sumBack s r k') + B by omega, Int.add_mul] at e
      omega
    · have hS := R.S_le r (k := k) (m := 2) (by omega)
      have h1 := R.ub r hx0 (k + 1 * N) (by rw [R.sumS]; omega)
      rw [R.round r x k (by omega)] at h1
      unfold ch at e
      have h2 := max_le R.mu r k
      have h3 : (x + B - sumBack s r k) * maxBack d r k ≤ (x + B - sumBack s r k) * M := Int.mul_le_mul_of_nonneg_left h2 (by omega)
      rw [show x + B - sumBack s r k = (x - sumBack s r k) + B by omega, Int.add_mul, Int.add_mul] at h3
      rw [show x + B - sumBack s r k = (x - sumBack s r k) + B by omega, Int.add_mul] at e
      omega
  · obtain ⟨k, hk, e⟩ := R.att r hx0
    have h1 := R.ub r (x := x + B) (by omega) (k + 1 * N) (by rw [R.sumS]; omega)
    rw [R.round r (x + B) k (by omega)] at h1
    have h2 := max_le R.mu r k
    unfold ch at e
    have h3 : (x - sumBack s r k) * maxBack d r k ≤ (x - sumBack s r k) * M := Int.mul_le_mul_of_nonneg_left h2 (by omega)
    rw [show x + B - sumBack s r k = (x - sumBack s r k) + B by omega, Int.add_mul] at h1
    omega
theorem Ring.claim {p q m r : Int} (hp : 1 ≤ p) (hm : 1 ≤ m) (hsm : s r ≤ m) (h1 : E d s r (m - 1 + p) = E d s r (m - 1) + q) (h2 : E d s (r - 1) (m - s r + p) = E d s (r - 1) (m - s r) + q) : E d s r (m + p) = E d s r m + q := by
  have n1 := R.next r (x := m - 1) (by omega)
  have n2 := R.next r (x := m - 1 + p) (by omega)
  have f1 := R.from r (x := m) hsm
  have f2 := R.from r (x := m + p) (by omega)
  have b1 := R.bell r (x := m) (by omega)
  have b2 := R.bell r (x := m + p) (by omega)
  have e1 := R.E1 r (x := m - 1) (by omega)
  have e2 := R.E1 r (x := m - 1 + p) (by omega)
  have d1 := R.d1 r
  rw [show m - 1 + 1 = m by omega] at n1
  rw [show m - 1 + p + 1 = m + p by omega] at n2
  rw [show m + p - s r = m - s r + p by omega] at f2 b2
  rw [show m + p - 1 = m - 1 + p by omega] at b2
  rcases b1 with b1 | ⟨_, b1⟩ | ⟨_, b1⟩ <;> rcases b2 with b2 | ⟨_, b2⟩ | ⟨_, b2⟩ <;> omega
/-- as many in a row as the greatest number of books at first: then all later ones -/
theorem Ring.later {w p q n : Int} (hw : ∀ i, s i ≤ w) (hw1 : ∃ i, s i = w) (w1 : 1 ≤ w) (hp : 1 ≤ p) (hn : 0 ≤ n) (h : ∀ j, 0 ≤ j → j < w → Rep d s p q (n + j)) : ∀ m, n ≤ m → Rep d s p q m := by
  have go : ∀ k : Nat, ∀ m, n ≤ m → m - n < k → Rep d s p q m := by
    intro k
    induction k with
    | zero => intro m h1 h2; omega
    | succ k ih =>
      intro m h1 h2
      by_cases hmw : m < n + w
      · have := h (m - n) (by omega) (by omega)
        rw [show n + (m - n) = m by omega] at this
        exact this
      · obtain ⟨r0, hr0⟩ := hw1
        -- around the ring from r0
        have around : ∀ j : Nat, E d s (r0 + j) (m + p) = E d s (r0 + j) m + q := by
          intro j
          induction j with
          | zero =>
            have hs := hw r0
            refine R.claim hp (by omega) (by rw [show r0 + ((0 : Nat) : Int) = r0 by omega]; omega) (ih (m - 1) (by omega) (by omega) _) ?_
            rw [show r0 + ((0 : Nat) : Int) = r0 by omega]
            exact ih (m - s r0) (by omega) (by omega) _
          | succ j ihj =>
            have hs := hw (r0 + (j + 1 : Nat))
            have hs0 := R.s0 (r0 + (j + 1 : Nat))
            refine R.claim hp (by omega) (by omega) (ih (m - 1) (by omega) (by omega) _) ?_
            rw [show r0 + ((j + 1 : Nat) : Int) - 1 = r0 + j by omega]
            by_cases hz : s (r0 + (j + 1 : Nat)) = 0
            · rw [hz, show m - 0 = m by omega]
              exact ihj
            · exact ih (m - s (r0 + (j + 1 : Nat))) (by omega) (by omega) _
        intro r
        have hN := R.pos
        have a0 : 0 ≤ (r - r0) % (N : Int) := Int.emod_nonneg _ (by omega)
        have h3 := around ((r - r0) % (N : Int)).toNat
        have e3 : r0 + ((((r - r0) % (N : Int)).toNat : Nat) : Int) = r + N * (-((r - r0) / (N : Int))) := by
          have := Int.emod_add_mul_ediv (r - r0) (N : Int)
          rw [Int.mul_neg]
          omega
        rw [e3, R.E_per, R.E_per] at h3
        exact h3
  intro m hm
  exact go ((m - n).toNat + 1) m hm (by omega)
theorem Ring.rounds {p q n : Int} (hp : 1 ≤ p) (h : ∀ m, n ≤ m → Rep d s p q m) (r : Int) {x : Int} (hx : n ≤ x) : ∀ k : Nat, E d s r (x + k * p) = E d s r x + k * q
  | 0 => by simp
  | k + 1 => by
    have ih := Ring.rounds hp h r hx k
    have h0 : (0 : Int) ≤ (k : Int) * p := Int.mul_nonneg (Int.natCast_nonneg _) (by omega)
    have h1 := h (x + k * p) (by omega) r
    rw [show ((k + 1 : Nat) : Int) = (k : Int) + 1 by omega, Int.add_mul, Int.add_mul, Int.one_mul, Int.one_mul, ← Int.add_assoc, h1, ih]
    omega
theorem Ring.mono (r : Int) {x : Int} (hx : 0 ≤ x) : ∀ k : Nat, E d s r x + (k + 1) * d r ≤ E d s r (x + (k + 1))
  | 0 => by
    have := R.next r hx
    simpa using this
  | k + 1 => by
    have ih := Ring.mono r hx k
    have h1 := R.next r (x := x + (k + 1)) (by omega)
    rw [show ((k + 1 : Nat) : Int) = (k : Int) + 1 by omega, show x + ((k : Int) + 1 + 1) = x + ((k : Int) + 1) + 1 by omega, Int.add_mul ((k : Int) + 1) 1]
    omega
theorem Ring.lt (r : Int) {x y : Int} (hx : 0 ≤ x) (h : x < y) : E d s r x + d r ≤ E d s r y := by
  have h1 := R.mono r hx (y - x - 1).toNat
  rw [show ((((y - x - 1).toNat : Nat) : Int) + 1) = y - x by omega, show x + (y - x) = y by omega] at h1
  have h2 : (1 : Int) * d r ≤ (y - x) * d r := Int.mul_le_mul_of_nonneg_right (by omega) (by have := R.d1 r; omega)
  omega
theorem Ring.le (r : Int) {x y : Int} (hx : 0 ≤ x) (h : x ≤ y) : E d s r x ≤ E d s r y := by
  by_cases e : x = y
  · subst e
    exact Int.le_refl _
  · have := R.lt r hx (show x < y by omega)
    have := R.d1 r
    omega
end

/-- c readings of reader r have ended by day D -/
def Cnt (d s : Int → Int) (r D c : Int) : Prop := 0 ≤ c ∧ (c = 0 ∨ E d s r (c - 1) ≤ D) ∧ D < E d s r c
noncomputable def Cn (d s : Int → Int) (r D : Int) : Int := open Classical in if h : ∃ c, Cnt d s r D c then Classical.choose h else 0
section
variable {N : Nat} {d s : Int → Int} {B T M : Int} (R : Ring N d s B T M)
include R
theorem Ring.cnt_inj {r D c c' : Int} (h : Cnt d s r D c) (h' : Cnt d s r D c') : c = c' := by
  obtain ⟨a0, a1, a2⟩ := h
  obtain ⟨b0, b1, b2⟩ := h'
  rcases Int.lt_trichotomy c c' with z | z | z
  · have := R.le r (x := c) (y := c' - 1) a0 (by omega)
    omega
  · exact z
  · have := R.le r (x := c') (y := c - 1) b0 (by omega)
    omega
theorem Ring.cnt_ex (r D : Int) : ∃ c, Cnt d s r D c := by
  have go : ∀ n : Nat, D < E d s r n → ∃ c, Cnt d s r D c := by
    intro n
    induction n with
    | zero => intro h; exact ⟨0, by omega, .inl rfl, h⟩
    | succ n ih =>
      intro h
      by_cases hh : E d s r n ≤ D
      · exact ⟨((n + 1 : Nat) : Int), by omega, .inr (by rw [show ((n + 1 : Nat) : Int) - 1 = n by omega]; exact hh), h⟩
      · exact ih (by omega)
  refine go D.toNat ?_
  have h := R.low r (x := (D.toNat : Nat)) (by omega)
  have h2 : (((D.toNat : Nat) : Int) + 1) * 1 ≤ (((D.toNat : Nat) : Int) + 1) * d r := Int.mul_le_mul_of_nonneg_left (R.d1 r) (by omega)
  omega
theorem Ring.cn (r D : Int) : Cnt d s r D (Cn d s r D) := by
  have h := R.cnt_ex r D
  unfold Cn
  rw [dif_pos h]
  exact Classical.choose_spec h
theorem Ring.cn_of {r D c : Int} (h : Cnt d s r D c) : Cn d s r D = c := R.cnt_inj (R.cn r D) h
theorem Ring.cn_per (r D t : Int) : Cn d s (r + N * t) D = Cn d s r D := by
  refine R.cn_of ?_
  have h := R.cn r D
  unfold Cnt at h ⊢
  rw [R.E_per, R.E_per]
  exact h
theorem Ring.cn_mod (r D : Int) : Cn d s (r % N) D = Cn d s r D := by
  have h := R.cn_per (r % N) D (r / N)
  rw [Int.emod_add_mul_ediv] at h
  exact h.symm
theorem Ring.cn_end (r : Int) {x : Int} (hx : 0 ≤ x) : Cn d s r (E d s r x) = x + 1 := by
  refine R.cn_of ⟨by omega, .inr (by rw [show x + 1 - 1 = x by omega]; exact Int.le_refl _), ?_⟩
  have := R.lt r hx (show x < x + 1 by omega)
  have := R.d1 r
  omega
theorem Ring.cn_before (r : Int) {x : Int} (hx : 0 ≤ x) : Cn d s r (E d s r x - 1) = x := by
  refine R.cn_of ⟨hx, ?_, by omega⟩
  by_cases h : x = 0
  · exact .inl h
  · right
    have := R.lt r (x := x - 1) (y := x) (by omega) (by omega)
    have := R.d1 r
    omega
theorem Ring.cn_next (r D : Int) : Cn d s r D ≤ Cn d s r (D + d r) ∧ Cn d s r (D + d r) ≤ Cn d s r D + 1 := by
  obtain ⟨a0, a1, a2⟩ := R.cn r D
  obtain ⟨b0, b1, b2⟩ := R.cn r (D + d r)
  have d1 := R.d1 r
  constructor
  · rcases Int.lt_or_le (Cn d s r (D + d r)) (Cn d s r D) with z | z
    · rcases a1 with a1 | a1
      · omega
      · have := R.le r (x := Cn d s r (D + d r)) (y := Cn d s r D - 1) b0 (by omega)
        omega
    · exact z
  · rcases Int.lt_or_le (Cn d s r D + 1) (Cn d s r (D + d r)) with z | z
    · rcases b1 with b1 | b1
      · omega
      · have := R.lt r (x := Cn d s r D) (y := Cn d s r (D + d r) - 1) a0 (by omega)
        omega
    · exact z
/-- a reader who has a book and is not reading begins -/
theorem Ring.cn_reads {r D : Int} (hD : 0 ≤ D) (h : Cn d s r D < s r + Cn d s (r - 1) D) : Cn d s r D + 1 ≤ Cn d s r (D + d r) := by
  obtain ⟨a0, a1, a2⟩ := R.cn r D
  obtain ⟨b0, b1, b2⟩ := R.cn r (D + d r)
  obtain ⟨c0, c1, c2⟩ := R.cn (r - 1) D
  have hs := R.s0 r
  rcases Int.lt_or_le (Cn d s r (D + d r)) (Cn d s r D + 1) with z | z
  · have h1 := R.le r (x := Cn d s r (D + d r)) (y := Cn d s r D) b0 (by omega)
    have b := R.bell r (x := Cn d s r D) a0
    rcases b with b | ⟨h2, b⟩ | ⟨h2, b⟩
    · omega
    · rcases a1 with a1 | a1 <;> omega
    · rcases c1 with c1 | c1
      · omega
      · have h3 := R.le (r - 1) (x := Cn d s r D - s r) (y := Cn d s (r - 1) D - 1) (by omega) (by omega)
        omega
  · exact z
end
theorem sum_lin (f g h : Int → Int) (r : Int) : ∀ n : Nat, sumBack (fun j => f j + g (j - 1) - h j) r n = sumBack f r n + sumBack g (r - 1) n - sumBack h r n
  | 0 => by simp [sumBack]
  | n + 1 => by
    show sumBack (fun j => f j + g (j - 1) - h j) r n + (f (r - n) + g (r - n - 1) - h (r - n)) = sumBack f r n + f (r - n) + (sumBack g (r - 1) n + g (r - 1 - n)) - (sumBack h r n + h (r - n))
    rw [sum_lin f g h r n, show r - 1 - (n : Int) = r - n - 1 by omega]
    omega
theorem sum_win {f : Int → Int} {N : Nat} (hp : ∀ i t : Int, f (i + N * t) = f i) (r : Int) : sumBack f (r - 1) N = sumBack f r N := by
  have h1 := sum_front f N r
  have h2 : sumBack f r (N + 1) = sumBack f r N + f (r - N) := rfl
  have h3 := hp (r - N) 1
  rw [show r - (N : Int) + N * 1 = r by omega] at h3
  omega
theorem sum_le {f g : Int → Int} (h : ∀ i, f i ≤ g i) (r : Int) : ∀ n : Nat, sumBack f r n ≤ sumBack g r n
  | 0 => Int.le_refl _
  | n + 1 => by
    have h1 := sum_le h r n
    have h2 := h (r - n)
    show sumBack f r n + f (r - n) ≤ sumBack g r n + g (r - n)
    omega
theorem sum_lt {f g : Int → Int} (h : ∀ i, f i ≤ g i) (r : Int) : ∀ {n j : Nat}, j < n → f (r - j) < g (r - j) → sumBack f r n < sumBack g r n
  | 0, j, hj, _ => absurd hj (Nat.not_lt_zero _)
  | n + 1, j, hj, hh => by
    show sumBack f r n + f (r - n) < sumBack g r n + g (r - n)
    by_cases e : j = n
    · subst e
      have := sum_le h r j
      omega
    · have h1 := sum_lt h r (n := n) (j := j) (by omega) hh
      have h2 := h (r - n)
      omega
theorem sum_shift (f : Int → Int) (r c : Int) : ∀ n : Nat, sumBack (fun i => f i + c) r n = sumBack f r n + n * c
  | 0 => by simp [sumBack]
  | n + 1 => by
    show sumBack (fun i => f i + c) r n + (f (r - n) + c) = sumBack f r n + f (r - n) + ((n + 1 : Nat) : Int) * c
    rw [sum_shift f r c n, show ((n + 1 : Nat) : Int) = (n : Int) + 1 by omega, Int.add_mul]
    omega
section
variable {N : Nat} {d s : Int → Int} {B T M : Int} (R : Ring N d s B T M)
include R
/-- the heaps of a day, all together: fewer than all books, as at least one is being read; at most one a reader is -/
theorem Ring.heaps {D : Int} (hD : 0 ≤ D) (r : Int) : B - N ≤ sumBack (fun j => s j + Cn d s (j - 1) D - Cn d s j (D + d j)) r N ∧ sumBack (fun j => s j + Cn d s (j - 1) D - Cn d s j (D + d j)) r N < B := by
  rw [sum_lin s (fun j => Cn d s j D) (fun j => Cn d s j (D + d j)) r N, R.b, sum_win (f := fun j => Cn d s j D) (N := N) (fun i t => R.cn_per i D t)]
  have h1 := sum_le (f := fun j => Cn d s j D) (g := fun j => Cn d s j (D + d j)) (fun i => (R.cn_next i D).1) r N
  have h2 := sum_le (f := fun j => Cn d s j (D + d j)) (g := fun j => Cn d s j D + 1) (fun i => (R.cn_next i D).2) r N
  rw [sum_shift (fun j => Cn d s j D) r 1 N] at h2
  refine ⟨by omega, ?_⟩
  -- someone reads
  have some_reads : ∃ j : Nat, j < N ∧ Cn d s (r - j) D < Cn d s (r - j) (D + d (r - j)) := by
    apply Classical.byContradiction
    intro hno
    have hall : ∀ j : Nat, j < N → s (r - j) + Cn d s (r - j - 1) D ≤ Cn d s (r - j) D := by
      intro j hj
      apply Classical.byContradiction
      intro hh
      have := R.cn_reads (r := r - j) hD (by omega)
      exact hno ⟨j, hj, by omega⟩
    have go : ∀ n : Nat, n ≤ N → sumBack s r n + sumBack (fun j => Cn d s j D) (r - 1) n ≤ sumBack (fun j => Cn d s j D) r n := by
      intro n
      induction n with
      | zero => intro _; show (0 : Int) + 0 ≤ 0; omega
      | succ n ih =>
        intro hn
        have h3 := ih (by omega)
        have h4 := hall n (by omega)
        show sumBack s r n + s (r - n) + (sumBack (fun j => Cn d s j D) (r - 1) n + Cn d s (r - 1 - n) D) ≤ sumBack (fun j => Cn d s j D) r n + Cn d s (r - n) D
        rw [show r - 1 - (n : Int) = r - n - 1 by omega]
        omega
    have h5 := go N (Nat.le_refl _)
    rw [R.b, sum_win (f := fun j => Cn d s j D) (N := N) (fun i t => R.cn_per i D t)] at h5
    have := R.b1
    omega
  obtain ⟨j, hj, hjr⟩ := some_reads
  have h6 := sum_lt (f := fun j => Cn d s j D) (g := fun j => Cn d s j (D + d j)) (fun i => (R.cn_next i D).1) r hj hjr
  omega
end

/-! ### from lists -/
/-- round the list, from any index -/
def at' (l : List Int) (i : Int) : Int := l.getD (i % (l.length : Int)).toNat 0
theorem at_per (l : List Int) (i t : Int) : at' l (i + (l.length : Int) * t) = at' l i := by
  unfold at'
  rw [Int.add_mul_emod_self_left]
theorem at_nat {l : List Int} {j : Nat} {v : Int} (h : l[j]? = some v) : at' l (j : Int) = v := by
  have hj := (List.getElem?_eq_some_iff.mp h).1
  unfold at'
  rw [Int.emod_eq_of_lt (by omega) (by omega), List.getD_eq_getElem?_getD, Int.toNat_natCast, h]
  rfl
theorem at_mem {l : List Int} (hl : 0 < l.length) (i : Int) : at' l i ∈ l := by
  unfold at'
  have h0 : 0 ≤ i % (l.length : Int) := Int.emod_nonneg _ (by omega)
  have h1 : i % (l.length : Int) < l.length := Int.emod_lt_of_pos _ (by omega)
  rw [List.getD_eq_getElem?_getD, List.getElem?_eq_getElem (show (i % (l.length : Int)).toNat < l.length by omega)]
  exact List.getElem_mem _
theorem mem_at {l : List Int} {v : Int} (h : v ∈ l) : ∃ i, at' l i = v := by
  obtain ⟨j, hj, e⟩ := List.getElem_of_mem h
  exact ⟨j, at_nat (by rw [List.getElem?_eq_getElem hj, e])⟩
theorem sum_list (l : List Int) : sumBack (at' l) ((l.length : Int) - 1) l.length = l.sum := by
  have go : ∀ n : Nat, n ≤ l.length → sumBack (at' l) ((n : Int) - 1) n = (l.take n).sum := by
    intro n
    induction n with
    | zero => intro _; simp [sumBack]
    | succ n ih =>
      intro hn
      rw [show ((n + 1 : Nat) : Int) - 1 = n by omega, sum_front, ih (by omega), List.take_add_one, List.sum_append, at_nat (List.getElem?_eq_getElem (show n < l.length by omega)), List.getElem?_eq_getElem (show n < l.length by omega)]
      simp
      omega
  have h := go l.length (Nat.le_refl _)
  rw [List.take_length] at h
  exact h
theorem sum_any {f : Int → Int} {N : Nat} (hp : ∀ i t : Int, f (i + N * t) = f i) (p q : Int) : sumBack f p N = sumBack f q N := by
  have go : ∀ (n : Nat) (r : Int), sumBack f (r - n) N = sumBack f r N := by
    intro n
    induction n with
    | zero => intro r; rw [show r - ((0 : Nat) : Int) = r by omega]
    | succ n ih =>
      intro r
      rw [show r - ((n + 1 : Nat) : Int) = r - n - 1 by omega, sum_win hp, ih]
  rcases Int.le_total p q with h | h
  · have := go (q - p).toNat q
    rw [show q - ((q - p).toNat : Int) = p by omega] at this
    exact this
  · have := go (p - q).toNat p
    rw [show p - ((p - q).toNat : Int) = q by omega] at this
    exact this.symm
theorem ring_of {ds ss : List Int} {M : Int} (hl : 0 < ds.length) (hls : ss.length = ds.length) (h1 : ∀ y ∈ ds, 1 ≤ y) (h2 : ∀ y ∈ ss, 0 ≤ y) (hB : 1 ≤ ss.sum) (hM : M ∈ ds) (hMu : ∀ y ∈ ds, y ≤ M) :
    Ring ds.length (at' ds) (at' ss) ss.sum ds.sum M where
  pos := hl
  dper := at_per ds
  sper := by rw [← hls]; exact at_per ss
  d1 := fun i => h1 _ (at_mem hl i)
  s0 := fun i => h2 _ (at_mem (by omega) i)
  b := fun r => by
    rw [sum_any (f := at' ss) (N := ds.length) (by rw [← hls]; exact at_per ss) r ((ss.length : Int) - 1), ← hls]
    exact sum_list ss
  b1 := hB
  t := fun r => by
    rw [sum_any (f := at' ds) (N := ds.length) (at_per ds) r ((ds.length : Int) - 1)]
    exact sum_list ds
  mu := fun i => hMu _ (at_mem hl i)
  ma := mem_at hM
end Rm
namespace Rp
open PySem PySem.Spec PyProof.Rows L2
def topS (i : Nat) : Stmt := PySem.Challenge.pw_readingring_k05_books_that_meet.main.body.getD i (.Pass ⟨0, 0, 0, 0⟩)
abbrev s_is_number : Stmt := topS 13
abbrev s_lies_between : Stmt := topS 14
abbrev s_check_number : Stmt := topS 15
abbrev s_check_reader : Stmt := topS 16
abbrev s_rinit : Stmt := inClass (topS 22) 0
abbrev s_rdays : Stmt := inClass (topS 22) 2
abbrev s_rstarts : Stmt := inClass (topS 22) 3
abbrev s_rbooks : Stmt := inClass (topS 22) 4
abbrev s_rpace : Stmt := inClass (topS 22) 5
abbrev s_rlen : Stmt := inClass (topS 22) 7
abbrev s_rcall : Stmt := inClass (topS 22) 10
abbrev s_check_part : Stmt := topS 23
abbrev s_slowest_decides : Stmt := topS 24
abbrev s_pace_of : Stmt := topS 25
abbrev s_round_pace : Stmt := topS 26
abbrev s_end_day : Stmt := topS 27
abbrev s_settled : Stmt := topS 29
abbrev s_first_meeting : Stmt := topS 30
abbrev s_check_book : Stmt := topS 31
abbrev s_reader_after : Stmt := topS 32
abbrev s_repetition : Stmt := topS 33
abbrev s_row_repeats : Stmt := topS 34
abbrev s_last_new_day : Stmt := topS 35
abbrev s_first_stay : Stmt := topS 36
abbrev s_next_stay : Stmt := topS 37
abbrev s_ldice : Stmt := topS 39
abbrev s_lnext : Stmt := topS 40
abbrev s_llike : Stmt := topS 41
abbrev s_lpick : Stmt := topS 42
abbrev s_ltold : Stmt := topS 43
abbrev s_lring : Stmt := topS 44
abbrev s_ldays : Stmt := topS 45
abbrev s_lshared : Stmt := topS 46
abbrev s_law : Stmt := topS 47
abbrev N_is_number : List Str := ["value"]
abbrev P_is_number : List Str := ["value"]
theorem sc_is_number : FnScope N_is_number P_is_number (defScope s_is_number) := ⟨rfl, rfl, rfl, by decide +kernel, rfl, by decide +kernel, by decide +kernel⟩
abbrev N_lies_between : List Str := ["value", "low", "high"]
abbrev P_lies_between : List Str := ["value", "low", "high"]
theorem sc_lies_between : FnScope N_lies_between P_lies_between (defScope s_lies_between) := ⟨rfl, rfl, rfl, by decide +kernel, rfl, by decide +kernel, by decide +kernel⟩
abbrev N_check_number : List Str := ["value", "low", "high"]
abbrev P_check_number : List Str := ["value", "low", "high"]
theorem sc_check_number : FnScope N_check_number P_check_number (defScope s_check_number) := ⟨rfl, rfl, rfl, by decide +kernel, rfl, by decide +kernel, by decide +kernel⟩
abbrev N_check_reader : List Str := ["ring", "reader"]
abbrev P_check_reader : List Str := ["ring", "reader"]
theorem sc_check_reader : FnScope N_check_reader P_check_reader (defScope s_check_reader) := ⟨rfl, rfl, rfl, by decide +kernel, rfl, by decide +kernel, by decide +kernel⟩
abbrev N_rinit : List Str := ["self", "days", "starts"]
abbrev P_rinit : List Str := ["self", "days", "starts"]
theorem sc_rinit : FnScope N_rinit P_rinit (defScope s_rinit) := ⟨rfl, rfl, rfl, by decide +kernel, rfl, by decide +kernel, by decide +kernel⟩
abbrev N_rdays : List Str := ["self"]
abbrev P_rdays : List Str := ["self"]
theorem sc_rdays : FnScope N_rdays P_rdays (defScope s_rdays) := ⟨rfl, rfl, rfl, by decide +kernel, rfl, by decide +kernel, by decide +kernel⟩
abbrev N_rstarts : List Str := ["self"]
abbrev P_rstarts : List Str := ["self"]
theorem sc_rstarts : FnScope N_rstarts P_rstarts (defScope s_rstarts) := ⟨rfl, rfl, rfl, by decide +kernel, rfl, by decide +kernel, by decide +kernel⟩
abbrev N_rbooks : List Str := ["self"]
abbrev P_rbooks : List Str := ["self"]
theorem sc_rbooks : FnScope N_rbooks P_rbooks (defScope s_rbooks) := ⟨rfl, rfl, rfl, by decide +kernel, rfl, by decide +kernel, by decide +kernel⟩
abbrev N_rpace : List Str := ["self"]
abbrev P_rpace : List Str := ["self"]
theorem sc_rpace : FnScope N_rpace P_rpace (defScope s_rpace) := ⟨rfl, rfl, rfl, by decide +kernel, rfl, by decide +kernel, by decide +kernel⟩
abbrev N_rlen : List Str := ["self"]
abbrev P_rlen : List Str := ["self"]
theorem sc_rlen : FnScope N_rlen P_rlen (defScope s_rlen) := ⟨rfl, rfl, rfl, by decide +kernel, rfl, by decide +kernel, by decide +kernel⟩
abbrev N_rcall : List Str := ["self", "reader", "number"]
abbrev P_rcall : List Str := ["self", "reader", "number"]
theorem sc_rcall : FnScope N_rcall P_rcall (defScope s_rcall) := ⟨rfl, rfl, rfl, by decide +kernel, rfl, by decide +kernel, by decide +kernel⟩
abbrev N_check_part : List Str := ["part", "values", "limits", "lengths", "low", "high", "fewest", "most", "index", "value"]
abbrev P_check_part : List Str := ["part", "values", "limits", "lengths"]
theorem sc_check_part : FnScope N_check_part P_check_part (defScope s_check_part) := ⟨rfl, rfl, rfl, by decide +kernel, rfl, by decide +kernel, by decide +kernel⟩
abbrev N_slowest_decides : List Str := ["days", "books"]
abbrev P_slowest_decides : List Str := ["days", "books"]
theorem sc_slowest_decides : FnScope N_slowest_decides P_slowest_decides (defScope s_slowest_decides) := ⟨rfl, rfl, rfl, by decide +kernel, rfl, by decide +kernel, by decide +kernel⟩
abbrev N_pace_of : List Str := ["days", "books"]
abbrev P_pace_of : List Str := ["days", "books"]
theorem sc_pace_of : FnScope N_pace_of P_pace_of (defScope s_pace_of) := ⟨rfl, rfl, rfl, by decide +kernel, rfl, by decide +kernel, by decide +kernel⟩
abbrev N_round_pace : List Str := ["days", "books", "common"]
abbrev P_round_pace : List Str := ["days", "books"]
theorem sc_round_pace : FnScope N_round_pace P_round_pace (defScope s_round_pace) := ⟨rfl, rfl, rfl, by decide +kernel, rfl, by decide +kernel, by decide +kernel⟩
abbrev N_end_day : List Str := ["ring", "reader", "number", "books", "slowest", "gain", "latest", "total", "slowest_met", "left", "step", "rounds"]
abbrev P_end_day : List Str := ["ring", "reader", "number"]
theorem sc_end_day : FnScope N_end_day P_end_day (defScope s_end_day) := ⟨rfl, rfl, rfl, by decide +kernel, rfl, by decide +kernel, by decide +kernel⟩
abbrev N_settled : List Str := ["ring", "readings", "days", "needed", "number", "found"]
abbrev P_settled : List Str := ["ring"]
theorem sc_settled : FnScope N_settled P_settled (defScope s_settled) := ⟨rfl, rfl, rfl, by decide +kernel, rfl, by decide +kernel, by decide +kernel⟩
abbrev N_first_meeting : List Str := ["ring", "one", "other", "last", "stays", "day", "ends", "reader", "number", "stay", "end"]
abbrev P_first_meeting : List Str := ["ring", "one", "other"]
theorem sc_first_meeting : FnScope N_first_meeting P_first_meeting (defScope s_first_meeting) := ⟨rfl, rfl, rfl, by decide +kernel, rfl, by decide +kernel, by decide +kernel⟩
abbrev N_check_book : List Str := ["ring", "book"]
abbrev P_check_book : List Str := ["ring", "book"]
theorem sc_check_book : FnScope N_check_book P_check_book (defScope s_check_book) := ⟨rfl, rfl, rfl, by decide +kernel, rfl, by decide +kernel, by decide +kernel⟩
abbrev N_reader_after : List Str := ["ring", "reader"]
abbrev P_reader_after : List Str := ["ring", "reader"]
theorem sc_reader_after : FnScope N_reader_after P_reader_after (defScope s_reader_after) := ⟨rfl, rfl, rfl, by decide +kernel, rfl, by decide +kernel, by decide +kernel⟩
abbrev N_repetition : List Str := ["ring"]
abbrev P_repetition : List Str := ["ring"]
theorem sc_repetition : FnScope N_repetition P_repetition (defScope s_repetition) := ⟨rfl, rfl, rfl, by decide +kernel, rfl, by decide +kernel, by decide +kernel⟩
abbrev N_row_repeats : List Str := ["ring", "number", "readings", "days", "reader"]
abbrev P_row_repeats : List Str := ["ring", "number", "readings", "days"]
theorem sc_row_repeats : FnScope N_row_repeats P_row_repeats (defScope s_row_repeats) := ⟨rfl, rfl, rfl, by decide +kernel, rfl, by decide +kernel, by decide +kernel⟩
abbrev N_last_new_day : List Str := ["ring", "number", "readings", "days", "settled_day", "reader"]
abbrev P_last_new_day : List Str := ["ring"]
theorem sc_last_new_day : FnScope N_last_new_day P_last_new_day (defScope s_last_new_day) := ⟨rfl, rfl, rfl, by decide +kernel, rfl, by decide +kernel, by decide +kernel⟩
abbrev N_first_stay : List Str := ["ring", "book", "reader"]
abbrev P_first_stay : List Str := ["ring", "book"]
theorem sc_first_stay : FnScope N_first_stay P_first_stay (defScope s_first_stay) := ⟨rfl, rfl, rfl, by decide +kernel, rfl, by decide +kernel, by decide +kernel⟩
abbrev N_next_stay : List Str := ["ring", "stay", "reader", "number", "after"]
abbrev P_next_stay : List Str := ["ring", "stay"]
theorem sc_next_stay : FnScope N_next_stay P_next_stay (defScope s_next_stay) := ⟨rfl, rfl, rfl, by decide +kernel, rfl, by decide +kernel, by decide +kernel⟩
abbrev N_ldice : List Str := ["_law_script", "_law_mixed", "_law_cell"]
abbrev P_ldice : List Str := ["_law_script"]
theorem sc_ldice : FnScope N_ldice P_ldice (defScope s_ldice) := ⟨rfl, rfl, rfl, by decide +kernel, rfl, by decide +kernel, by decide +kernel⟩
abbrev N_lnext : List Str := ["_law_dice_here", "_law_many", "_law_found", "_law_cell"]
abbrev P_lnext : List Str := ["_law_dice_here", "_law_many"]
theorem sc_lnext : FnScope N_lnext P_lnext (defScope s_lnext) := ⟨rfl, rfl, rfl, by decide +kernel, rfl, by decide +kernel, by decide +kernel⟩
abbrev N_llike : List Str := ["_law_found", "_law_due", "_law_k"]
abbrev P_llike : List Str := ["_law_found", "_law_due"]
theorem sc_llike : FnScope N_llike P_llike (defScope s_llike) := ⟨rfl, rfl, rfl, by decide +kernel, rfl, by decide +kernel, by decide +kernel⟩
abbrev N_lpick : List Str := ["_law_d", "_law_some"]
abbrev P_lpick : List Str := ["_law_d", "_law_some"]
theorem sc_lpick : FnScope N_lpick P_lpick (defScope s_lpick) := ⟨rfl, rfl, rfl, by decide +kernel, rfl, by decide +kernel, by decide +kernel⟩
abbrev N_ltold : List Str := ["_law_work", "e", "_law_some", "_law_k"]
abbrev P_ltold : List Str := ["_law_work"]
theorem sc_ltold : FnScope N_ltold P_ltold (defScope s_ltold) := ⟨rfl, rfl, rfl, by decide +kernel, rfl, by decide +kernel, by decide +kernel⟩
abbrev N_lring : List Str := ["_law_d", "_law_size", "_law_most", "_law_count", "_law_days_here", "_law_starts", "_law_k"]
abbrev P_lring : List Str := ["_law_d", "_law_size", "_law_most"]
theorem sc_lring : FnScope N_lring P_lring (defScope s_lring) := ⟨rfl, rfl, rfl, by decide +kernel, rfl, by decide +kernel, by decide +kernel⟩
abbrev N_ldays : List Str := ["_law_days_here", "_law_starts", "_law_last", "_law_size", "_law_book", "_law_heaps", "_law_reading", "_law_rows", "_law_sights", "_law_k", "_law_day", "_law_number", "_law_came", "_law_heap"]
abbrev P_ldays : List Str := ["_law_days_here", "_law_starts", "_law_last"]
theorem sc_ldays : FnScope N_ldays P_ldays (defScope s_ldays) := ⟨rfl, rfl, rfl, by decide +kernel, rfl, by decide +kernel, by decide +kernel⟩
abbrev N_lshared : List Str := ["_law_rows", "_law_one", "_law_two", "_law_found", "_law_row", "_law_x", "_law_begin", "_law_other"]
abbrev P_lshared : List Str := ["_law_rows", "_law_one", "_law_two"]
theorem sc_lshared : FnScope N_lshared P_lshared (defScope s_lshared) := ⟨rfl, rfl, rfl, by decide +kernel, rfl, by decide +kernel, by decide +kernel⟩
abbrev N_law : List Str := ["_law_script", "_law_d", "_law_turn", "_law_days_here", "_law_starts", "_law_ring_here", "_law_books", "_law_rows", "_law_one", "_law_two", "_law_bad", "_law_work", "_law_found", "_law_reader", "_law_due", "_law_last", "_law_late", "_law_day", "_law_call"]
abbrev P_law : List Str := ["_law_script"]
theorem sc_law : FnScope N_law P_law (defScope s_law) := ⟨rfl, rfl, rfl, by decide +kernel, rfl, by decide +kernel, by decide +kernel⟩
/-- what the top has written: the defs where they stand, the class, constants, built-ins that are still so -/
structure Tx (K : PySem.W.Frag) (mg : Str → Option Value) where
  C : Addr
  a_is_number : Addr
  d_is_number : FuncData
  F_is_number : Fun K "is_number" "is_number" s_is_number a_is_number d_is_number
  b_is_number : Binds K d_is_number P_is_number []
  g_is_number : mg "is_number" = some (.ref a_is_number)
  a_lies_between : Addr
  d_lies_between : FuncData
  F_lies_between : Fun K "lies_between" "lies_between" s_lies_between a_lies_between d_lies_between
  b_lies_between : Binds K d_lies_between P_lies_between []
  g_lies_between : mg "lies_between" = some (.ref a_lies_between)
  a_check_number : Addr
  d_check_number : FuncData
  F_check_number : Fun K "check_number" "check_number" s_check_number a_check_number d_check_number
  b_check_number : Binds K d_check_number P_check_number []
  g_check_number : mg "check_number" = some (.ref a_check_number)
  a_check_reader : Addr
  d_check_reader : FuncData
  F_check_reader : Fun K "check_reader" "check_reader" s_check_reader a_check_reader d_check_reader
  b_check_reader : Binds K d_check_reader P_check_reader []
  g_check_reader : mg "check_reader" = some (.ref a_check_reader)
  a_rinit : Addr
  d_rinit : FuncData
  F_rinit : Fun K "__init__" "Ring.__init__" s_rinit a_rinit d_rinit
  b_rinit : Binds K d_rinit P_rinit []
  a_rdays : Addr
  d_rdays : FuncData
  F_rdays : Fun K "days" "Ring.days" s_rdays a_rdays d_rdays
  b_rdays : Binds K d_rdays P_rdays []
  a_rstarts : Addr
  d_rstarts : FuncData
  F_rstarts : Fun K "starts" "Ring.starts" s_rstarts a_rstarts d_rstarts
  b_rstarts : Binds K d_rstarts P_rstarts []
  a_rbooks : Addr
  d_rbooks : FuncData
  F_rbooks : Fun K "books" "Ring.books" s_rbooks a_rbooks d_rbooks
  b_rbooks : Binds K d_rbooks P_rbooks []
  a_rpace : Addr
  d_rpace : FuncData
  F_rpace : Fun K "pace" "Ring.pace" s_rpace a_rpace d_rpace
  b_rpace : Binds K d_rpace P_rpace []
  a_rlen : Addr
  d_rlen : FuncData
  F_rlen : Fun K "__len__" "Ring.__len__" s_rlen a_rlen d_rlen
  b_rlen : Binds K d_rlen P_rlen []
  a_rcall : Addr
  d_rcall : FuncData
  F_rcall : Fun K "__call__" "Ring.__call__" s_rcall a_rcall d_rcall
  b_rcall : Binds K d_rcall P_rcall []
  a_check_part : Addr
  d_check_part : FuncData
  F_check_part : Fun K "check_part" "check_part" s_check_part a_check_part d_check_part
  b_check_part : Binds K d_check_part P_check_part []
  g_check_part : mg "check_part" = some (.ref a_check_part)
  a_slowest_decides : Addr
  d_slowest_decides : FuncData
  F_slowest_decides : Fun K "slowest_decides" "slowest_decides" s_slowest_decides a_slowest_decides d_slowest_decides
  b_slowest_decides : Binds K d_slowest_decides P_slowest_decides []
  g_slowest_decides : mg "slowest_decides" = some (.ref a_slowest_decides)
  a_pace_of : Addr
  d_pace_of : FuncData
  F_pace_of : Fun K "pace_of" "pace_of" s_pace_of a_pace_of d_pace_of
  b_pace_of : Binds K d_pace_of P_pace_of []
  g_pace_of : mg "pace_of" = some (.ref a_pace_of)
  a_round_pace : Addr
  d_round_pace : FuncData
  F_round_pace : Fun K "round_pace" "round_pace" s_round_pace a_round_pace d_round_pace
  b_round_pace : Binds K d_round_pace P_round_pace []
  g_round_pace : mg "round_pace" = some (.ref a_round_pace)
  a_end_day : Addr
  d_end_day : FuncData
  F_end_day : Fun K "end_day" "end_day" s_end_day a_end_day d_end_day
  b_end_day : Binds K d_end_day P_end_day []
  g_end_day : mg "end_day" = some (.ref a_end_day)
  a_settled : Addr
  d_settled : FuncData
  F_settled : Fun K "settled" "settled" s_settled a_settled d_settled
  b_settled : Binds K d_settled P_settled []
  g_settled : mg "settled" = some (.ref a_settled)
  a_first_meeting : Addr
  d_first_meeting : FuncData
  F_first_meeting : Fun K "first_meeting" "first_meeting" s_first_meeting a_first_meeting d_first_meeting
  b_first_meeting : Binds K d_first_meeting P_first_meeting []
  g_first_meeting : mg "first_meeting" = some (.ref a_first_meeting)
  a_check_book : Addr
  d_check_book : FuncData
  F_check_book : Fun K "check_book" "check_book" s_check_book a_check_book d_check_book
  b_check_book : Binds K d_check_book P_check_book []
  g_check_book : mg "check_book" = some (.ref a_check_book)
  a_reader_after : Addr
  d_reader_after : FuncData
  F_reader_after : Fun K "reader_after" "reader_after" s_reader_after a_reader_after d_reader_after
  b_reader_after : Binds K d_reader_after P_reader_after []
  g_reader_after : mg "reader_after" = some (.ref a_reader_after)
  a_repetition : Addr
  d_repetition : FuncData
  F_repetition : Fun K "repetition" "repetition" s_repetition a_repetition d_repetition
  b_repetition : Binds K d_repetition P_repetition []
  g_repetition : mg "repetition" = some (.ref a_repetition)
  a_row_repeats : Addr
  d_row_repeats : FuncData
  F_row_repeats : Fun K "row_repeats" "row_repeats" s_row_repeats a_row_repeats d_row_repeats
  b_row_repeats : Binds K d_row_repeats P_row_repeats []
  g_row_repeats : mg "row_repeats" = some (.ref a_row_repeats)
  a_last_new_day : Addr
  d_last_new_day : FuncData
  F_last_new_day : Fun K "last_new_day" "last_new_day" s_last_new_day a_last_new_day d_last_new_day
  b_last_new_day : Binds K d_last_new_day P_last_new_day []
  g_last_new_day : mg "last_new_day" = some (.ref a_last_new_day)
  a_first_stay : Addr
  d_first_stay : FuncData
  F_first_stay : Fun K "first_stay" "first_stay" s_first_stay a_first_stay d_first_stay
  b_first_stay : Binds K d_first_stay P_first_stay []
  g_first_stay : mg "first_stay" = some (.ref a_first_stay)
  a_next_stay : Addr
  d_next_stay : FuncData
  F_next_stay : Fun K "next_stay" "next_stay" s_next_stay a_next_stay d_next_stay
  b_next_stay : Binds K d_next_stay P_next_stay []
  g_next_stay : mg "next_stay" = some (.ref a_next_stay)
  a_ldice : Addr
  d_ldice : FuncData
  F_ldice : Fun K "_law_dice" "_law_dice" s_ldice a_ldice d_ldice
  b_ldice : Binds K d_ldice P_ldice []
  g_ldice : mg "_law_dice" = some (.ref a_ldice)
  a_lnext : Addr
  d_lnext : FuncData
  F_lnext : Fun K "_law_next" "_law_next" s_lnext a_lnext d_lnext
  b_lnext : Binds K d_lnext P_lnext []
  g_lnext : mg "_law_next" = some (.ref a_lnext)
  a_llike : Addr
  d_llike : FuncData
  F_llike : Fun K "_law_like" "_law_like" s_llike a_llike d_llike
  b_llike : Binds K d_llike P_llike []
  g_llike : mg "_law_like" = some (.ref a_llike)
  a_lpick : Addr
  d_lpick : FuncData
  F_lpick : Fun K "_law_pick" "_law_pick" s_lpick a_lpick d_lpick
  b_lpick : Binds K d_lpick P_lpick []
  g_lpick : mg "_law_pick" = some (.ref a_lpick)
  a_ltold : Addr
  d_ltold : FuncData
  F_ltold : Fun K "_law_told" "_law_told" s_ltold a_ltold d_ltold
  b_ltold : Binds K d_ltold P_ltold []
  g_ltold : mg "_law_told" = some (.ref a_ltold)
  a_lring : Addr
  d_lring : FuncData
  F_lring : Fun K "_law_ring" "_law_ring" s_lring a_lring d_lring
  b_lring : Binds K d_lring P_lring []
  g_lring : mg "_law_ring" = some (.ref a_lring)
  a_ldays : Addr
  d_ldays : FuncData
  F_ldays : Fun K "_law_days" "_law_days" s_ldays a_ldays d_ldays
  b_ldays : Binds K d_ldays P_ldays []
  g_ldays : mg "_law_days" = some (.ref a_ldays)
  a_lshared : Addr
  d_lshared : FuncData
  F_lshared : Fun K "_law_shared" "_law_shared" s_lshared a_lshared d_lshared
  b_lshared : Binds K d_lshared P_lshared []
  g_lshared : mg "_law_shared" = some (.ref a_lshared)
  a_law : Addr
  d_law : FuncData
  F_law : Fun K "law" "law" s_law a_law d_law
  b_law : Binds K d_law P_law []
  g_law : mg "law" = some (.ref a_law)
  cl : Cls K C
  nD : NoAttr K C "_days"
  nS : NoAttr K C "_starts"
  mkR : Mk K C a_rinit
  gC : mg "Ring" = some (.ref C)
  p_rdays : Addr
  q_rdays : PropOf K C "days" p_rdays a_rdays
  p_rstarts : Addr
  q_rstarts : PropOf K C "starts" p_rstarts a_rstarts
  p_rbooks : Addr
  q_rbooks : PropOf K C "books" p_rbooks a_rbooks
  p_rpace : Addr
  q_rpace : PropOf K C "pace" p_rpace a_rpace
  lenC : PySem.W.findIn K (.ref C) "__len__" = some (some (.ref a_rlen))
  lenF : PySem.W.isFn K (.ref a_rlen) = true
  callC : StX.CallO K C a_rcall
  c_LATEST : ∃ t, mg "LATEST" = some (.int 1000000000000000000 t)
  c_FEWEST_READERS : ∃ t, mg "FEWEST_READERS" = some (.int 2 t)
  c_MOST_READERS : ∃ t, mg "MOST_READERS" = some (.int 8 t)
  c_MOST_DAYS : ∃ t, mg "MOST_DAYS" = some (.int 30 t)
  c_MOST_BOOKS : ∃ t, mg "MOST_BOOKS" = some (.int 12 t)
  g_gcd : mg "gcd" = some (.builtin "math.gcd")
  z_len : mg "len" = none
  z_sum : mg "sum" = none
  z_max : mg "max" = none
  z_min : mg "min" = none
  z_range : mg "range" = none
  z_int : mg "int" = none
  z_bool : mg "bool" = none
  z_isinstance : mg "isinstance" = none
  z_tuple : mg "tuple" = none
  z_enumerate : mg "enumerate" = none
  z_list : mg "list" = none
  z_str : mg "str" = none
  z_sorted : mg "sorted" = none
  z_zip : mg "zip" = none
end Rp
namespace Rp
open PySem PySem.Spec PyProof.Rows L2 Rz Rm
/-! ### a ring as it stands -/
theorem ds_ne : ¬ (("_days" : Str) = "_starts") := by decide +kernel
def flds (td ts : Addr) : List (Str × V) := putF "_starts" (.ref ts) (putF "_days" (.ref td) [])
theorem flds_days (td ts : Addr) : (flds td ts).lookup ("_days" : Str) = some (.ref td) := by
  unfold flds
  rw [lookup_putF, if_neg ds_ne, lookup_putF, if_pos rfl]
theorem flds_starts (td ts : Addr) : (flds td ts).lookup ("_starts" : Str) = some (.ref ts) := by
  unfold flds
  rw [lookup_putF, if_pos rfl]
/-- days and books at first that make a ring -/
structure Good (ds ss : List Int) : Prop where
  l2 : 2 ≤ ds.length
  l8 : ds.length ≤ 8
  ls : ss.length = ds.length
  d1 : ∀ y ∈ ds, 1 ≤ y ∧ y ≤ 30
  s0 : ∀ y ∈ ss, 0 ≤ y ∧ y ≤ 12
  b1 : 1 ≤ ss.sum
  b12 : ss.sum ≤ 12
structure RingAt (C : Addr) (H : Hp) (p dx td ts : Addr) (ds ss : List Int) : Prop where
  ob : H p = some (.ins C dx (flds td ts))
  td : H td = some (.tup (ds.map V.int))
  ts : H ts = some (.tup (ss.map V.int))
  ok : Good ds ss
theorem RingAt.same {C : Addr} {H H' : Hp} {p dx td ts : Addr} {ds ss : List Int} (R : RingAt C H p dx td ts ds ss) (s : Same H H') : RingAt C H' p dx td ts ds ss :=
  ⟨s _ _ R.ob, s _ _ R.td, s _ _ R.ts, R.ok⟩
theorem sq_same {K : PySem.W.Frag} {H H' : Hp} {a : Addr} {xs : List V} (e : Same H H') (h : H a = some (.tup xs)) : SqT K H' a xs := .of (e _ _ h)
theorem same_upd {H : Hp} {p : Addr} {o : HO} (h : H p = none) : Same H (upd H p o) := fun b x e => by
  rw [upd_ne (ne_of_none e h)]
  exact e
section
variable {P : Program} {w : World} {K : PySem.W.Frag} {mg : Str → Option Value} {base : Heap}
/-! ### checks -/
/-- a number is one -/
def spIsNum : Sp := fun vs H Q _ => ∃ i : Int, vs = [.int i] ∧ Q (.bl true) H
theorem ok_is_number (T : Tx K mg) : FnOk P w K mg base CX0 1 T.a_is_number T.d_is_number P_is_number spIsNum := by
  refine T.F_is_number.ok sc_is_number (fun vs H Q E h => ?_) (fun cdv A outer s H vs Q E hr h => ?_)
  · obtain ⟨i, rfl, _⟩ := h
    rfl
  · obtain ⟨i, rfl, q⟩ := h
    refine ⟨_, pss_one (ps_ret (pe_and (pe_callB call_isi (by rfl) T.z_isinstance (by decide +kernel) (pa_cons (pv 0) (pa_cons (pe_bltn (v := .ty "int") (u := .type "int") (by rfl) T.z_int (by decide +kernel) rfl) pa_nil)))
      (pe_one (pe_not (pe_callB call_isi (by rfl) T.z_isinstance (by decide +kernel) (pa_cons (pv 0) (pa_cons (pe_bltn (v := .ty "bool") (u := .type "bool") (by rfl) T.z_bool (by decide +kernel) rfl) pa_nil))))))), ?_⟩
    refine ⟨.int i, rfl, .int i, .ty "int", .type "int", .type "int", true, rfl, .ty _, .base (.int i), kit_ty (by decide +kernel), true, rfl, iteT ?_⟩
    exact ⟨.int i, rfl, .int i, .ty "bool", .type "int", .type "bool", false, rfl, .ty _, .base (.int i), kit_ty (by decide +kernel), false, rfl, q⟩
def spLies : Sp := fun vs H Q _ => ∃ v lo hi : Int, vs = [.int v, .int lo, .int hi] ∧ Q (.bl (decide (lo ≤ v) && decide (v ≤ hi))) H
theorem ok_lies (T : Tx K mg) : FnOk P w K mg base CX0 2 T.a_lies_between T.d_lies_between P_lies_between spLies := by
  refine T.F_lies_between.ok sc_lies_between (fun vs H Q E h => ?_) (fun cdv A outer s H vs Q E hr h => ?_)
  · obtain ⟨v, lo, hi, rfl, _⟩ := h
    rfl
  · obtain ⟨v, lo, hi, rfl, q⟩ := h
    refine ⟨_, pss_one (ps_ret (pe_and (pe_call (ok_is_number T) hr (by rfl) T.g_is_number T.F_is_number.kp T.b_is_number .nil pass0 (pa_cons (pv 0) pa_nil)) (pe_one (pe_chain op_le op_le (pv 1) (pv 0) (pv 2))))), ?_⟩
    refine ⟨.int v, rfl, v, rfl, true, rfl, iteT ?_⟩
    refine ⟨.int lo, rfl, .int v, rfl, lo, v, rfl, rfl, decide (lo ≤ v), rfl, ?_⟩
    by_cases h : lo ≤ v
    · rw [decide_eq_true h] at q ⊢
      exact iteT ⟨.int hi, rfl, v, hi, rfl, rfl, q⟩
    · rw [decide_eq_false h] at q ⊢
      exact iteF q
theorem in_lim {v lo hi : Int} (h1 : lo ≤ v) (h2 : v ≤ hi) : (decide (lo ≤ v) && decide (v ≤ hi)) = true := by
  rw [decide_eq_true h1, decide_eq_true h2] <;> rfl
def spChk : Sp := fun vs H Q _ => ∃ v lo hi : Int, vs = [.int v, .int lo, .int hi] ∧ lo ≤ v ∧ v ≤ hi ∧ Q .non H
theorem ok_chk (T : Tx K mg) : FnOk P w K mg base CX0 3 T.a_check_number T.d_check_number P_check_number spChk := by
  refine T.F_check_number.ok sc_check_number (fun vs H Q E h => ?_) (fun cdv A outer s H vs Q E hr h => ?_)
  · obtain ⟨v, lo, hi, rfl, _⟩ := h
    rfl
  · obtain ⟨v, lo, hi, rfl, h1, h2, q⟩ := h
    refine ⟨_, pss_one (ps_if (pt_not (pt_val (pe_call (ok_lies T) hr (by rfl) T.g_lies_between T.F_lies_between.kp T.b_lies_between .nil pass0 (pa_cons (pv 0) (pa_cons (pv 1) (pa_cons (pv 2) pa_nil)))))) (pss_one ps_never) pss_nil), ?_⟩
    refine ⟨.int v, rfl, .int lo, rfl, .int hi, rfl, v, lo, hi, rfl, _, rfl, ?_⟩
    rw [in_lim h1 h2]
    exact iteF q
/-! ### the ring's own -/
def spLen (C : Addr) : Sp := fun vs H Q _ => ∃ p dx td ts ds ss, vs = [.ref p] ∧ RingAt C H p dx td ts ds ss ∧ Q (.int ds.length) H
theorem ok_len (T : Tx K mg) : FnOk P w K mg base CX0 1 T.a_rlen T.d_rlen P_rlen (spLen T.C) := by
  refine T.F_rlen.ok sc_rlen (fun vs H Q E h => ?_) (fun cdv A outer s H vs Q E hr h => ?_)
  · obtain ⟨p, dx, td, ts, ds, ss, rfl, _⟩ := h
    rfl
  · obtain ⟨p, dx, td, ts, ds, ss, rfl, R, q⟩ := h
    refine ⟨_, pss_one (ps_ret (pe_callB call_len_seq (by rfl) T.z_len PySem.boot_len (pa_cons (pe_fld (pv 0) rfl) pa_nil))), ?_⟩
    refine ⟨_, rfl, p, _, dx, _, _, rfl, R.ob, T.cl, T.nD, flds_days _ _, td, _, rfl, .inr (.of R.td), ?_⟩
    rw [List.length_map]
    exact q
def spDays (C : Addr) : Sp := fun vs H Q _ => ∃ p dx td ts ds ss, vs = [.ref p] ∧ RingAt C H p dx td ts ds ss ∧ Q (.ref td) H
def spStarts (C : Addr) : Sp := fun vs H Q _ => ∃ p dx td ts ds ss, vs = [.ref p] ∧ RingAt C H p dx td ts ds ss ∧ Q (.ref ts) H
def spBooks (C : Addr) : Sp := fun vs H Q _ => ∃ p dx td ts ds ss, vs = [.ref p] ∧ RingAt C H p dx td ts ds ss ∧ Q (.int ss.sum) H
theorem ok_days (T : Tx K mg) : FnOk P w K mg base CX0 1 T.a_rdays T.d_rdays P_rdays (spDays T.C) := by
  refine T.F_rdays.ok sc_rdays (fun vs H Q E h => ?_) (fun cdv A outer s H vs Q E hr h => ?_)
  · obtain ⟨p, dx, td, ts, ds, ss, rfl, _⟩ := h
    rfl
  · obtain ⟨p, dx, td, ts, ds, ss, rfl, R, q⟩ := h
    refine ⟨_, pss_one (ps_ret (pe_fld (pv 0) rfl)), ?_⟩
    exact ⟨_, rfl, p, _, dx, _, _, rfl, R.ob, T.cl, T.nD, flds_days _ _, q⟩
theorem ok_starts (T : Tx K mg) : FnOk P w K mg base CX0 1 T.a_rstarts T.d_rstarts P_rstarts (spStarts T.C) := by
  refine T.F_rstarts.ok sc_rstarts (fun vs H Q E h => ?_) (fun cdv A outer s H vs Q E hr h => ?_)
  · obtain ⟨p, dx, td, ts, ds, ss, rfl, _⟩ := h
    rfl
  · obtain ⟨p, dx, td, ts, ds, ss, rfl, R, q⟩ := h
    refine ⟨_, pss_one (ps_ret (pe_fld (pv 0) rfl)), ?_⟩
    exact ⟨_, rfl, p, _, dx, _, _, rfl, R.ob, T.cl, T.nS, flds_starts _ _, q⟩
theorem ok_books (T : Tx K mg) : FnOk P w K mg base CX0 1 T.a_rbooks T.d_rbooks P_rbooks (spBooks T.C) := by
  refine T.F_rbooks.ok sc_rbooks (fun vs H Q E h => ?_) (fun cdv A outer s H vs Q E hr h => ?_)
  · obtain ⟨p, dx, td, ts, ds, ss, rfl, _⟩ := h
    rfl
  · obtain ⟨p, dx, td, ts, ds, ss, rfl, R, q⟩ := h
    refine ⟨_, pss_one (ps_ret (pe_callB (cr_sumT rfl) (by rfl) T.z_sum (by decide +kernel) (pa_cons (pe_fld (pv 0) rfl) pa_nil))), ?_⟩
    exact ⟨_, rfl, p, _, dx, _, _, rfl, R.ob, T.cl, T.nS, flds_starts _ _, ts, ss, rfl, .of R.ts, q⟩
/-! ### check_reader -/
def spReader (C : Addr) : Sp := fun vs H Q _ => ∃ p dx td ts ds ss, ∃ r : Int, vs = [.ref p, .int r] ∧ RingAt C H p dx td ts ds ss ∧ 0 ≤ r ∧ r < ds.length ∧ Q .non H
theorem ok_reader (T : Tx K mg) : FnOk P w K mg base CX0 3 T.a_check_reader T.d_check_reader P_check_reader (spReader T.C) := by
  refine T.F_check_reader.ok sc_check_reader (fun vs H Q E h => ?_) (fun cdv A outer s H vs Q E hr h => ?_)
  · obtain ⟨p, dx, td, ts, ds, ss, r, rfl, _⟩ := h
    rfl
  · obtain ⟨p, dx, td, ts, ds, ss, r, rfl, R, h1, h2, q⟩ := h
    refine ⟨_, pss_one (ps_if (pt_not (pt_val (pe_call (ok_lies T) hr (by rfl) T.g_lies_between T.F_lies_between.kp T.b_lies_between .nil pass0
      (pa_cons (pv 1) (pa_cons pe_int (pa_cons (pe_op op_sub (pe_callB (call_lenI T.lenC T.lenF ((ok_len T).raw T.b_rlen .nil) hr pass0) (by rfl) T.z_len PySem.boot_len (pa_cons (pv 0) pa_nil)) pe_int) pa_nil)))))) (pss_one ps_never) pss_nil), ?_⟩
    have hl := R.ok.l8
    refine ⟨.int r, rfl, .ref p, rfl, p, dx, _, rfl, R.ob, p, dx, td, ts, ds, ss, rfl, R, (ds.length : Int), rfl, by omega, by omega, _, _, rfl, rfl, ?_⟩
    refine ⟨r, 0, (ds.length : Int) - 1, rfl, _, rfl, ?_⟩
    rw [in_lim h1 (show r ≤ (ds.length : Int) - 1 by omega)]
    exact iteF q
end
end Rp
namespace Rp
open PySem PySem.Spec PyProof.Rows L2 Rz Rm
/-! ### the pace -/
/-- days that readers need -/
structure Dys (ds : List Int) : Prop where
  ne : 0 < ds.length
  d1 : ∀ y ∈ ds, 1 ≤ y
theorem Good.dys {ds ss : List Int} (G : Good ds ss) : Dys ds := ⟨by have := G.l2; omega, fun y h => (G.d1 y h).1⟩
def mx (ds : List Int) : Int := ds.foldr max 0
theorem mx_nn : ∀ ds : List Int, 0 ≤ mx ds
  | [] => Int.le_refl _
  | a :: r => by
    have := mx_nn r
    show 0 ≤ max a (mx r)
    omega
theorem le_mx : ∀ {ds : List Int} {y : Int}, y ∈ ds → y ≤ mx ds
  | a :: r, y, h => by
    show y ≤ max a (mx r)
    rcases List.mem_cons.mp h with e | e
    · omega
    · have := le_mx e
      omega
theorem mx_le : ∀ {ds : List Int} {M : Int}, 0 ≤ M → (∀ y ∈ ds, y ≤ M) → mx ds ≤ M
  | [], _, h, _ => h
  | a :: r, M, h, hu => by
    have h1 := hu a List.mem_cons_self
    have h2 := mx_le (ds := r) h fun y hy => hu y (List.mem_cons_of_mem _ hy)
    show max a (mx r) ≤ M
    omega
theorem mx_eq {ds : List Int} {M : Int} (D : Dys ds) (hM : M ∈ ds) (hMu : ∀ y ∈ ds, y ≤ M) : mx ds = M :=
  Int.le_antisymm (mx_le (by have := D.d1 M hM; omega) hMu) (le_mx hM)
theorem mx_mem : ∀ {ds : List Int}, ds ≠ [] → (∀ y ∈ ds, 0 ≤ y) → mx ds ∈ ds
  | [], h, _ => absurd rfl h
  | [a], _, h => by
    have h1 := h a (by simp)
    show max a 0 ∈ [a]
    rw [show max a 0 = a by omega]
    simp
  | a :: b :: r, _, h => by
    have ih := mx_mem (ds := b :: r) (by simp) fun y hy => h y (List.mem_cons_of_mem _ hy)
    show max a (mx (b :: r)) ∈ a :: b :: r
    by_cases c : a ≤ mx (b :: r)
    · rw [show max a (mx (b :: r)) = mx (b :: r) by omega]
      exact List.mem_cons_of_mem _ ih
    · rw [show max a (mx (b :: r)) = a by omega]
      exact List.mem_cons_self
theorem Dys.mem {ds : List Int} (D : Dys ds) : mx ds ∈ ds := mx_mem (fun e => by
  have := D.ne
  rw [e] at this
  exact absurd this (Nat.lt_irrefl _)) fun y h => by have := D.d1 y h; omega
def gq (ds : List Int) (b : Int) : Int := ((Nat.gcd ds.sum.natAbs b.natAbs : Nat) : Int)
/-- the pace's two numbers -/
def pX (ds : List Int) (b : Int) : Int := if ds.sum ≤ mx ds * b then mx ds else ds.sum / gq ds b
def pY (ds : List Int) (b : Int) : Int := if ds.sum ≤ mx ds * b then 1 else b / gq ds b
theorem gq_facts {ds : List Int} {b : Int} (h : 1 ≤ b) : 1 ≤ gq ds b ∧ gq ds b ≤ b ∧ gq ds b ∣ ds.sum ∧ gq ds b ∣ b := by
  have g0 : 0 < Nat.gcd ds.sum.natAbs b.natAbs := Nat.gcd_pos_of_pos_right _ (by omega)
  have gle : Nat.gcd ds.sum.natAbs b.natAbs ≤ b.natAbs := Nat.le_of_dvd (by omega) (Nat.gcd_dvd_right _ _)
  unfold gq
  exact ⟨by omega, by omega, Int.ofNat_dvd_left.mpr (Nat.gcd_dvd_left _ _), Int.ofNat_dvd_left.mpr (Nat.gcd_dvd_right _ _)⟩
section
variable {P : Program} {w : World} {K : PySem.W.Frag} {mg : Str → Option Value} {base : Heap}
/-! ### check_part -/
def spPart : Sp := fun vs H Q _ => ∃ (part : Str) (v l n : Addr) (ns : List Int) (lo hi f m : Int), vs = [.str part, .ref v, .ref l, .ref n] ∧ H v = some (.tup (ns.map V.int)) ∧ H l = some (.tup [.int lo, .int hi]) ∧ H n = some (.tup [.int f, .int m]) ∧
  (∀ y ∈ ns, lo ≤ y ∧ y ≤ hi) ∧ f ≤ ns.length ∧ (ns.length : Int) ≤ m ∧ ∀ H', Same H H' → Q .non H'
theorem get_int {ns : List Int} {i : Nat} {y : V} (h : (ns.map V.int)[i]? = some y) : ∃ z, ns[i]? = some z ∧ y = .int z := by
  rw [List.getElem?_map] at h
  cases e : ns[i]? with
  | none =>
    rw [e] at h
    cases h
  | some z =>
    rw [e] at h
    exact ⟨z, rfl, (Option.some.inj h).symm⟩
theorem ok_part (T : Tx K mg) : FnOk P w K mg base CX0 3 T.a_check_part T.d_check_part P_check_part spPart := by
  refine T.F_check_part.ok sc_check_part (fun vs H Q E h => ?_) (fun cdv A outer s H vs Q E hr h => ?_)
  · obtain ⟨part, v, l, n, ns, lo, hi, f, m, rfl, _⟩ := h
    rfl
  · obtain ⟨part, v, l, n, ns, lo, hi, f, m, rfl, hv, hl, hn, hall, hf, hm, q⟩ := h
    have nd := sc_check_part.nd
    refine ⟨_, pss_cons (ps_if (pt_not (pt_val (pe_callB call_isi (by rfl) T.z_isinstance (by decide +kernel) (pa_cons (pv 1) (pa_cons (pe_bltn (v := .ty "tuple") (u := .type "tuple") (by rfl) T.z_tuple (by decide +kernel) rfl) pa_nil))))) (pss_one ps_never) pss_nil)
      (pss_cons (ps_asg (pv 2) (pg_tup rfl (pgs_cons (pg_name (i := 4) nd rfl (.inl rfl)) (pgs_cons (pg_name (i := 5) nd rfl (.inl rfl)) pgs_nil))))
      (pss_cons (ps_asg (pv 3) (pg_tup rfl (pgs_cons (pg_name (i := 6) nd rfl (.inl rfl)) (pgs_cons (pg_name (i := 7) nd rfl (.inl rfl)) pgs_nil))))
      (pss_cons (ps_for PassesOwn.never rfl (pi_enumT (by rfl) T.z_enumerate (pa_cons (pv 1) pa_nil)) (pg_tup rfl (pgs_cons (pg_name (i := 8) nd rfl (.inl rfl)) (pgs_cons (pg_name (i := 9) nd rfl (.inl rfl)) pgs_nil)))
        (pss_one (ps_if (PW.pt (pw_or (pt_cmpR op_ge (pv 8) (pv 7) (nomark _)) (pw_or1 (pt_not (pt_val (pe_call (ok_lies T) hr (by rfl) T.g_lies_between T.F_lies_between.kp T.b_lies_between .nil pass0 (pa_cons (pv 9) (pa_cons (pv 4) (pa_cons (pv 5) pa_nil)))))))))
          (pss_one ps_never) pss_nil)))
      (pss_one (ps_if (pt_cmpR op_lt (pe_callB call_len_seq (by rfl) T.z_len PySem.boot_len (pa_cons (pv 1) pa_nil)) (pv 6) (nomark _)) (pss_one ps_never) pss_nil))))), ?_⟩
    -- isinstance(values, tuple)
    refine ⟨.ref v, rfl, .ref v, .ty "tuple", .type "tuple", .type "tuple", true, rfl, .ty _, .base (.tup hv), kit_ty (by decide +kernel), true, rfl, iteF ?_⟩
    -- low, high = limits; fewest, most = lengths
    refine ⟨.ref l, rfl, l, _, rfl, .of hl, rfl, _, _, rfl, _, _, rfl, rfl, ?_⟩
    refine ⟨.ref n, rfl, n, _, rfl, .of hn, rfl, _, _, rfl, _, _, rfl, rfl, ?_⟩
    -- for index, value in enumerate(values)
    refine ⟨.ref v, rfl, v, _, rfl, .of hv, for_it walk_enumT (fun i σ H' => ∃ y8 y9, σ = [some (.str part), some (.ref v), some (.ref l), some (.ref n), some (.int lo), some (.int hi), some (.int f), some (.int m), y8, y9] ∧ Same H H')
      ⟨none, none, rfl, Same.refl H⟩ (fun i σ H' _ ⟨_, _, _, sm⟩ => sq_same sm hv) ?_ ?_⟩
    · rintro i x σ H1 H2 hi1 ⟨y8, y9, rfl, sm⟩ ⟨t, a, b, rfl, nt, rfl, ha, hb⟩
      have ha' : a = .int (i : Nat) := (Option.some.inj ha).symm
      subst ha'
      obtain ⟨z, hz, rfl⟩ := get_int hb
      rw [List.length_map] at hi1
      have hz2 := hall z (List.mem_of_getElem? hz)
      refine ⟨t, _, rfl, .of upd_same, rfl, _, _, rfl, _, _, rfl, rfl, ?_⟩
      refine ⟨.int (i : Nat), rfl, .int m, rfl, _, _, rfl, rfl, _, rfl, ?_⟩
      rw [decide_eq_false (show ¬ m ≤ ((i : Nat) : Int) by omega)]
      refine iteF ?_
      refine ⟨.int z, rfl, .int lo, rfl, .int hi, rfl, z, lo, hi, rfl, _, rfl, ?_⟩
      rw [in_lim hz2.1 hz2.2]
      exact iteF ⟨_, _, rfl, sm.trans (same_upd nt)⟩
    · rintro σ H1 ⟨y8, y9, rfl, sm⟩
      refine ⟨.ref v, rfl, v, _, rfl, .inr (sq_same sm hv), .int f, rfl, _, _, rfl, rfl, _, rfl, ?_⟩
      rw [List.length_map, decide_eq_false (show ¬ (ns.length : Int) < f by omega)]
      exact iteF (q H1 sm)
/-! ### Ring.__init__ -/
def spInit (C : Addr) : Sp := fun vs H Q _ => ∃ (p dx td ts : Addr) (ds ss : List Int), vs = [.ref p, .ref td, .ref ts] ∧ H p = some (.ins C dx []) ∧ H td = some (.tup (ds.map V.int)) ∧ H ts = some (.tup (ss.map V.int)) ∧ Good ds ss ∧
  ∀ H', RingAt C H' p dx td ts ds ss → (∀ b o, H b = some o → b ≠ p → H' b = some o) → Q .non H'
theorem ok_init (T : Tx K mg) : FnOk P w K mg base CX0 4 T.a_rinit T.d_rinit P_rinit (spInit T.C) := by
  refine T.F_rinit.ok sc_rinit (fun vs H Q E h => ?_) (fun cdv A outer s H vs Q E hr h => ?_)
  · obtain ⟨p, dx, td, ts, ds, ss, rfl, _⟩ := h
    rfl
  · obtain ⟨p, dx, td, ts, ds, ss, rfl, hp, hd, hs, G, q⟩ := h
    obtain ⟨u1, c1⟩ := T.c_MOST_DAYS
    obtain ⟨u2, c2⟩ := T.c_FEWEST_READERS
    obtain ⟨u3, c3⟩ := T.c_MOST_READERS
    obtain ⟨u4, c4⟩ := T.c_MOST_BOOKS
    have l2 := G.l2
    have l8 := G.l8
    have ls := G.ls
    refine ⟨_, pss_cons (ps_expr (pe_call (ok_part T) hr (by rfl) T.g_check_part T.F_check_part.kp T.b_check_part .nil pass0 (pa_cons pe_str (pa_cons (pv 1) (pa_cons (pe_tup (pa_cons pe_int (pa_cons (pe_glob (v := .int 30) (by rfl) c1 ⟨_, rfl⟩) pa_nil))) (pa_cons (pe_tup (pa_cons (pe_glob (v := .int 2) (by rfl) c2 ⟨_, rfl⟩) (pa_cons (pe_glob (v := .int 8) (by rfl) c3 ⟨_, rfl⟩) pa_nil))) pa_nil))))))
      (pss_cons (ps_expr (pe_call (ok_part T) hr (by rfl) T.g_check_part T.F_check_part.kp T.b_check_part .nil pass0 (pa_cons pe_str (pa_cons (pv 2) (pa_cons (pe_tup (pa_cons pe_int (pa_cons (pe_glob (v := .int 12) (by rfl) c4 ⟨_, rfl⟩) pa_nil)))
        (pa_cons (pe_tup (pa_cons (pe_callB call_len_seq (by rfl) T.z_len PySem.boot_len (pa_cons (pv 1) pa_nil)) (pa_cons (pe_callB call_len_seq (by rfl) T.z_len PySem.boot_len (pa_cons (pv 1) pa_nil)) pa_nil))) pa_nil))))))
      (pss_cons (ps_if (pt_not (pt_chain op_le op_le pe_int (pe_callB (cr_sumT rfl) (by rfl) T.z_sum (by decide +kernel) (pa_cons (pv 2) pa_nil)) (pe_glob (v := .int 12) (by rfl) c4 ⟨_, rfl⟩))) (pss_one ps_never) pss_nil)
      (pss_cons (ps_fld (pv 0) (pe_callTy call_tupleT (by rfl) T.z_tuple (by decide +kernel) (pa_cons (pv 1) pa_nil)) rfl)
      (pss_one (ps_fld (pv 0) (pe_callTy call_tupleT (by rfl) T.z_tuple (by decide +kernel) (pa_cons (pv 2) pa_nil)) rfl))))), ?_⟩
    -- check_part("days", ..)
    refine ⟨.ref td, rfl, (by show 2 ≤ sizeLine; decide), fun a1 h1 => ⟨(by show 2 ≤ sizeLine; decide), fun a2 h2 => ?_⟩⟩
    have s1 := same_upd (o := .tup [.int 1, .int 30]) h1
    have s2 := same_upd (o := .tup [.int 2, .int 8]) h2
    refine ⟨_, td, a1, a2, ds, 1, 30, 2, 8, rfl, s2 _ _ (s1 _ _ hd), s2 _ _ upd_same, upd_same, G.d1, by omega, by omega, fun H1 s3 => ?_⟩
    have t1 : Same H H1 := (s1.trans s2).trans s3
    -- check_part("starts", ..)
    refine ⟨.ref ts, rfl, (by show 2 ≤ sizeLine; decide), fun a3 h3 => ?_⟩
    have s4 := same_upd (o := .tup [.int 0, .int 12]) h3
    refine ⟨.ref td, rfl, td, _, rfl, .inr (sq_same (t1.trans s4) hd), .ref td, rfl, td, _, rfl, .inr (sq_same (t1.trans s4) hd), (by show 2 ≤ sizeLine; decide), fun a4 h4 => ?_⟩
    have s5 := same_upd (o := .tup [.int ((ds.map V.int).length : Nat), .int ((ds.map V.int).length : Nat)]) h4
    refine ⟨_, ts, a3, a4, ss, 0, 12, ((ds.map V.int).length : Nat), ((ds.map V.int).length : Nat), rfl, s5 _ _ (s4 _ _ (t1 _ _ hs)), s5 _ _ upd_same, upd_same, G.s0, by rw [List.length_map]; omega, by rw [List.length_map]; omega, fun H2 s6 => ?_⟩
    have t2 : Same H H2 := ((t1.trans s4).trans s5).trans s6
    -- not 1 <= sum(starts) <= MOST_BOOKS
    refine ⟨.ref ts, rfl, ts, ss, rfl, sq_same t2 hs, _, _, rfl, rfl, _, rfl, ?_⟩
    rw [decide_eq_true G.b1]
    refine iteT ⟨_, _, rfl, rfl, _, rfl, ?_⟩
    rw [decide_eq_true G.b12]
    refine iteF ?_
    -- the two attributes
    refine ⟨.ref td, rfl, td, _, rfl, sq_same t2 hd, _, rfl, p, T.C, dx, [], rfl, t2 _ _ hp, T.cl, T.nD, (by show 0 < 1000; decide), ?_⟩
    have npt : ts ≠ p := ne_of hs hp (by intro z; cases z)
    have npd : td ≠ p := ne_of hd hp (by intro z; cases z)
    refine ⟨.ref ts, rfl, ts, ss.map V.int, rfl, .of (by rw [upd_ne npt]; exact t2 _ _ hs), _, rfl, p, T.C, dx, _, rfl, upd_same, T.cl, T.nS, (by show 1 < 1000; decide), ?_⟩
    refine q _ ⟨upd_same, by rw [upd_ne npd, upd_ne npd]; exact t2 _ _ hd, by rw [upd_ne npt, upd_ne npt]; exact t2 _ _ hs, G⟩ fun b o e hb => ?_
    rw [upd_ne hb, upd_ne hb]
    exact t2 _ _ e
end
end Rp
namespace Rp
open PySem PySem.Spec PyProof.Rows L2 Rz Rm
section
variable {P : Program} {w : World} {K : PySem.W.Frag} {mg : Str → Option Value} {base : Heap}
def spSlow : Sp := fun vs H Q _ => ∃ (td : Addr) (ds : List Int) (b : Int), vs = [.ref td, .int b] ∧ H td = some (.tup (ds.map V.int)) ∧ Dys ds ∧ 0 ≤ b ∧ b < 2 ^ 64 ∧ Q (.bl (decide (ds.sum ≤ mx ds * b))) H
theorem ok_slow (T : Tx K mg) : FnOk P w K mg base CX0 1 T.a_slowest_decides T.d_slowest_decides P_slowest_decides spSlow := by
  refine T.F_slowest_decides.ok sc_slowest_decides (fun vs H Q E h => ?_) (fun cdv A outer s H vs Q E hr h => ?_)
  · obtain ⟨td, ds, b, rfl, _⟩ := h
    rfl
  · obtain ⟨td, ds, b, rfl, hd, D, b0, b1, q⟩ := h
    refine ⟨_, pss_one (ps_ret (pe_cmpR op_ge (pe_op op_mul (pe_callB (cr_maxT rfl) (by rfl) T.z_max (by decide +kernel) (pa_cons (pv 0) pa_nil)) (pv 1)) (pe_callB (cr_sumT rfl) (by rfl) T.z_sum (by decide +kernel) (pa_cons (pv 0) pa_nil)) (nomark _))), ?_⟩
    refine ⟨.ref td, rfl, td, ds, rfl, .of hd, D.ne, fun M hM hMu => ⟨.int b, rfl, M, b, rfl, rfl, .inr ⟨by omega, b1⟩, .ref td, rfl, td, ds, rfl, .of hd, _, _, rfl, rfl, ?_⟩⟩
    rw [mx_eq D hM hMu] at q
    exact q
def spRound : Sp := fun vs H Q _ => ∃ (td : Addr) (ds : List Int) (b : Int), vs = [.ref td, .int b] ∧ H td = some (.tup (ds.map V.int)) ∧ 1 ≤ b ∧ b ≤ 1000 ∧ ∀ H' t, Same H H' → H' t = some (.tup [.int (ds.sum / gq ds b), .int (b / gq ds b)]) → Q (.ref t) H'
theorem ok_round (T : Tx K mg) : FnOk P w K mg base CX0 1 T.a_round_pace T.d_round_pace P_round_pace spRound := by
  refine T.F_round_pace.ok sc_round_pace (fun vs H Q E h => ?_) (fun cdv A outer s H vs Q E hr h => ?_)
  · obtain ⟨td, ds, b, rfl, _⟩ := h
    rfl
  · obtain ⟨td, ds, b, rfl, hd, b1, b2, q⟩ := h
    have nd := sc_round_pace.nd
    refine ⟨_, pss_cons (ps_set (i := 2) nd rfl (.inl rfl) (pe_callBfun cr_gcd (by rfl) T.g_gcd (pa_cons (pe_callB (cr_sumT rfl) (by rfl) T.z_sum (by decide +kernel) (pa_cons (pv 0) pa_nil)) (pa_cons (pv 1) pa_nil))))
      (pss_one (ps_ret (pe_tup (pa_cons (pe_op op_fdiv (pe_callB (cr_sumT rfl) (by rfl) T.z_sum (by decide +kernel) (pa_cons (pv 0) pa_nil)) (pv 2)) (pa_cons (pe_op op_fdiv (pv 1) (pv 2)) pa_nil))))), ?_⟩
    refine ⟨.ref td, rfl, td, ds, rfl, .of hd, .int b, rfl, ds.sum, b, rfl, ?_⟩
    obtain ⟨g0, gle, _, _⟩ := gq_facts (ds := ds) b1
    unfold gq at g0 gle q
    generalize ((Nat.gcd ds.sum.natAbs b.natAbs : Nat) : Int) = g at g0 gle q ⊢
    refine ⟨.ref td, rfl, td, ds, rfl, .of hd, .int g, rfl, _, _, rfl, rfl, ⟨by omega, by omega⟩, .int b, rfl, .int g, rfl, _, _, rfl, rfl, ⟨by omega, by omega⟩, (by show 2 ≤ sizeLine; decide), fun t ht => ?_⟩
    exact q _ t (same_upd ht) upd_same
def spPace : Sp := fun vs H Q _ => ∃ (td : Addr) (ds : List Int) (b : Int), vs = [.ref td, .int b] ∧ H td = some (.tup (ds.map V.int)) ∧ Dys ds ∧ 1 ≤ b ∧ b ≤ 1000 ∧
  ∀ H' t, Same H H' → H' t = some (.tup [.int (pX ds b), .int (pY ds b)]) → Q (.ref t) H'
theorem ok_pace_of (T : Tx K mg) : FnOk P w K mg base CX0 2 T.a_pace_of T.d_pace_of P_pace_of spPace := by
  refine T.F_pace_of.ok sc_pace_of (fun vs H Q E h => ?_) (fun cdv A outer s H vs Q E hr h => ?_)
  · obtain ⟨td, ds, b, rfl, _⟩ := h
    rfl
  · obtain ⟨td, ds, b, rfl, hd, D, b1, b12, q⟩ := h
    have nd := sc_pace_of.nd
    refine ⟨_, pss_cons (ps_if (pt_val (pe_call (ok_slow T) hr (by rfl) T.g_slowest_decides T.F_slowest_decides.kp T.b_slowest_decides .nil pass0 (pa_cons (pv 0) (pa_cons (pv 1) pa_nil))))
        (pss_one (ps_ret (pe_tup (pa_cons (pe_callB (cr_maxT rfl) (by rfl) T.z_max (by decide +kernel) (pa_cons (pv 0) pa_nil)) (pa_cons pe_int pa_nil))))) pss_nil)
      (pss_one (ps_ret (pe_call (ok_round T) hr (by rfl) T.g_round_pace T.F_round_pace.kp T.b_round_pace .nil pass0 (pa_cons (pv 0) (pa_cons (pv 1) pa_nil))))), ?_⟩
    refine ⟨.ref td, rfl, .int b, rfl, td, ds, b, rfl, hd, D, by omega, by omega, _, rfl, ?_⟩
    by_cases hc : ds.sum ≤ mx ds * b
    · rw [decide_eq_true hc]
      refine iteT ?_
      refine ⟨.ref td, rfl, td, ds, rfl, .of hd, D.ne, fun M' hM' hMu' => ⟨(by show 2 ≤ sizeLine; decide), fun t ht => ?_⟩⟩
      refine q _ t (same_upd ht) ?_
      rw [upd_same, pX, pY, if_pos hc, if_pos hc, mx_eq D hM' hMu']
    · rw [decide_eq_false hc]
      refine iteF ?_
      refine ⟨.ref td, rfl, .int b, rfl, td, ds, b, rfl, hd, b1, b12, fun H' t s0 ht => q H' t s0 ?_⟩
      rw [ht, pX, pY, if_neg hc, if_neg hc]
def spRPace (C : Addr) : Sp := fun vs H Q _ => ∃ p dx td ts ds ss, vs = [.ref p] ∧ RingAt C H p dx td ts ds ss ∧ ∀ H' t, Same H H' → H' t = some (.tup [.int (pX ds ss.sum), .int (pY ds ss.sum)]) → Q (.ref t) H'
theorem ok_rpace (T : Tx K mg) : FnOk P w K mg base CX0 3 T.a_rpace T.d_rpace P_rpace (spRPace T.C) := by
  refine T.F_rpace.ok sc_rpace (fun vs H Q E h => ?_) (fun cdv A outer s H vs Q E hr h => ?_)
  · obtain ⟨p, dx, td, ts, ds, ss, rfl, _⟩ := h
    rfl
  · obtain ⟨p, dx, td, ts, ds, ss, rfl, R, q⟩ := h
    have b12 := R.ok.b12
    refine ⟨_, pss_one (ps_ret (pe_call (ok_pace_of T) hr (by rfl) T.g_pace_of T.F_pace_of.kp T.b_pace_of .nil pass0 (pa_cons (pe_fld (pv 0) rfl) (pa_cons (pe_callB (cr_sumT rfl) (by rfl) T.z_sum (by decide +kernel) (pa_cons (pe_fld (pv 0) rfl) pa_nil)) pa_nil)))), ?_⟩
    exact ⟨_, rfl, p, _, dx, _, _, rfl, R.ob, T.cl, T.nD, flds_days _ _, _, rfl, p, _, dx, _, _, rfl, R.ob, T.cl, T.nS, flds_starts _ _, ts, ss, rfl, .of R.ts, td, ds, ss.sum, rfl, R.td, R.ok.dys, R.ok.b1, by omega, q⟩
end
end Rp
namespace Rp
open PySem PySem.Spec PyProof.Rows L2 Rz Rm
theorem at_ix {ds : List Int} {z : Int} (h1 : -(ds.length : Int) ≤ z) (h2 : z < ds.length) : atI (ds.map V.int) z = some (.int (at' ds z)) := by
  have hl : 0 < ds.length := by omega
  have h0 := Int.emod_nonneg z (show (ds.length : Int) ≠ 0 by omega)
  have hlt := Int.emod_lt_of_pos z (show (0 : Int) < ds.length by omega)
  have e : ixN (ds.map V.int).length z = some (z % (ds.length : Int)).toNat := by
    unfold ixN
    rw [List.length_map]
    by_cases h : 0 ≤ z
    · rw [if_pos h, if_pos h2, Int.emod_eq_of_lt h h2]
    · rw [if_neg h, if_pos h1]
      have e2 := Int.add_mul_emod_self_left z (ds.length : Int) 1
      rw [Int.mul_one, Int.emod_eq_of_lt (a := z + ds.length) (by omega) (by omega)] at e2
      rw [e2]
  unfold atI
  rw [e]
  show (ds.map V.int)[(z % (ds.length : Int)).toNat]? = _
  rw [List.getElem?_map]
  unfold at'
  rw [List.getD_eq_getElem?_getD, List.getElem?_eq_getElem (show (z % (ds.length : Int)).toNat < ds.length by omega)]
  rfl
theorem Good.ring {ds ss : List Int} (G : Good ds ss) {M : Int} (hM : M ∈ ds) (hMu : ∀ y ∈ ds, y ≤ M) : Rm.Ring ds.length (at' ds) (at' ss) ss.sum ds.sum M :=
  ring_of (by have := G.l2; omega) G.ls (fun y h => (G.d1 y h).1) (fun y h => (G.s0 y h).1) G.b1 hM hMu
theorem exists_max : ∀ {ds : List Int}, ds ≠ [] → ∃ M, M ∈ ds ∧ ∀ y ∈ ds, y ≤ M
  | [], h => absurd rfl h
  | [a], _ => ⟨a, by simp, by simp⟩
  | a :: b :: r, _ => by
    obtain ⟨M, h1, h2⟩ := exists_max (ds := b :: r) (by simp)
    by_cases h : a ≤ M
    · exact ⟨M, List.mem_cons_of_mem _ h1, fun y hy => by
        rcases List.mem_cons.mp hy with e | e
        · omega
        · exact h2 y e⟩
    · exact ⟨a, List.mem_cons_self, fun y hy => by
        rcases List.mem_cons.mp hy with e | e
        · omega
        · have := h2 y e; omega⟩
theorem Good.max {ds ss : List Int} (G : Good ds ss) : ∃ M, M ∈ ds ∧ ∀ y ∈ ds, y ≤ M := exists_max (by
  intro e
  have := G.l2
  rw [e] at this
  simp at this)
theorem sum_bounds : ∀ {ds : List Int}, (∀ y ∈ ds, 1 ≤ y ∧ y ≤ 30) → (ds.length : Int) ≤ ds.sum ∧ ds.sum ≤ 30 * ds.length
  | [], _ => by simp
  | a :: r, h => by
    have h1 := h a List.mem_cons_self
    have ih := sum_bounds (ds := r) fun y hy => h y (List.mem_cons_of_mem _ hy)
    rw [List.sum_cons, List.length_cons]
    omega
theorem max_if (i j : Int) : (if j > i then j else i) = max i j := by
  by_cases h : j > i
  · rw [if_pos h]
    omega
  · rw [if_neg h]
    omega
section
variable {P : Program} {w : World} {K : PySem.W.Frag} {mg : Str → Option Value} {base : Heap}
/-! ### end_day -/
def spEnd (C : Addr) : Sp := fun vs H Q _ => ∃ p dx td ts ds ss, ∃ r x : Int, vs = [.ref p, .int r, .int x] ∧ RingAt C H p dx td ts ds ss ∧ 0 ≤ r ∧ r < ds.length ∧ 0 ≤ x ∧ Q (.int (Rm.E (at' ds) (at' ss) r x)) H
/-- the loop's slots ahead of step i -/
def edS (p : Addr) (r x B M g L : Int) (ds ss : List Int) (i : Nat) (y10 y11 : Option V) : L2.St :=
  [some (.ref p), some (.int r), some (.int x), some (.int B), some (.int M), some (.int g), some (.int L), some (.int (sumBack (at' ds) r i)), some (.int (if i = 0 then 0 else maxBack (at' ds) r (i - 1))), some (.int (x - sumBack (at' ss) r i)), y10, y11]
theorem met_next {ds : List Int} (h1 : ∀ i, 1 ≤ at' ds i) (r : Int) (i : Nat) : (if at' ds (r - i) > (if i = 0 then 0 else maxBack (at' ds) r (i - 1)) then at' ds (r - i) else (if i = 0 then 0 else maxBack (at' ds) r (i - 1))) = maxBack (at' ds) r i := by
  rw [max_if]
  cases i with
  | zero =>
    have := h1 (r - (0 : Nat))
    show max 0 (at' ds (r - (0 : Nat))) = at' ds r
    rw [show r - ((0 : Nat) : Int) = r by omega] at this ⊢
    omega
  | succ i =>
    rw [if_neg (Nat.succ_ne_zero i)]
    show max (maxBack (at' ds) r i) (at' ds (r - (i + 1 : Nat))) = max (maxBack (at' ds) r i) (at' ds (r - (i + 1 : Nat)))
    rfl
theorem ok_end (T : Tx K mg) : FnOk P w K mg base CX0 3 T.a_end_day T.d_end_day P_end_day (spEnd T.C) := by
  refine T.F_end_day.ok sc_end_day (fun vs H Q E h => ?_) (fun cdv A outer s H vs Q E hr h => ?_)
  · obtain ⟨p, dx, td, ts, ds, ss, r, x, rfl, _⟩ := h
    rfl
  · obtain ⟨p, dx, td, ts, ds, ss, r, x, rfl, R, r0, r1, x0, q⟩ := h
    have nd := sc_end_day.nd
    have G := R.ok
    have l2 := G.l2
    have l8 := G.l8
    have ls := G.ls
    have rdD : ∀ {Q' : VK} {E' : XK}, Q' (.ref td) H → spDays T.C [.ref p] H Q' E' := fun z => ⟨p, dx, td, ts, ds, ss, rfl, R, z⟩
    have rdS : ∀ {Q' : VK} {E' : XK}, Q' (.ref ts) H → spStarts T.C [.ref p] H Q' E' := fun z => ⟨p, dx, td, ts, ds, ss, rfl, R, z⟩
    refine ⟨_, pss_cons (ps_set (i := 3) nd rfl (.inl rfl) (pe_prop (pv 0) T.cl T.q_rbooks (ok_books T) hr T.b_rbooks .nil pass0 rfl))
      (pss_cons (ps_set (i := 4) nd rfl (.inl rfl) (pe_callB (cr_maxT rfl) (by rfl) T.z_max (by decide +kernel) (pa_cons (pe_prop (pv 0) T.cl T.q_rdays (ok_days T) hr T.b_rdays .nil pass0 rfl) pa_nil)))
      (pss_cons (ps_set (i := 5) nd rfl (.inl rfl) (pe_op op_sub (pe_callB (cr_sumT rfl) (by rfl) T.z_sum (by decide +kernel) (pa_cons (pe_prop (pv 0) T.cl T.q_rdays (ok_days T) hr T.b_rdays .nil pass0 rfl) pa_nil)) (pe_op op_mul (pv 3) (pv 4))))
      (pss_cons (ps_asg3 pe_int (pg_name (i := 6) nd rfl (.inl rfl)) (pg_name (i := 7) nd rfl (.inl rfl)) (pg_name (i := 8) nd rfl (.inl rfl)))
      (pss_cons (ps_set (i := 9) nd rfl (.inl rfl) (pv 2))
      (pss_cons (ps_for PassesOwn.never rfl (pi_range1 (by rfl) T.z_range (pa_cons (pe_callB (call_lenI T.lenC T.lenF ((ok_len T).raw T.b_rlen .nil) hr pass0) (by rfl) T.z_len PySem.boot_len (pa_cons (pv 0) pa_nil)) pa_nil)) (pg_name (i := 10) nd rfl (.inl rfl))
        (pss_cons (ps_aug (i := 7) nd rfl (.inl rfl) (pe_ix ix_tup (pe_prop (pv 0) T.cl T.q_rdays (ok_days T) hr T.b_rdays .nil pass0 rfl) (pe_op op_sub (pv 1) (pv 10)) (fun _ _ => rfl)) ip_add)
        (pss_cons (ps_set (i := 8) nd rfl (.inl rfl) (pe_callB (call_max2 rfl) (by rfl) T.z_max (by decide +kernel) (pa_cons (pv 8) (pa_cons (pe_ix ix_tup (pe_prop (pv 0) T.cl T.q_rdays (ok_days T) hr T.b_rdays .nil pass0 rfl) (pe_op op_sub (pv 1) (pv 10)) (fun _ _ => rfl)) pa_nil))))
        (pss_cons (ps_set (i := 6) nd rfl (.inl rfl) (pe_callB (call_max2 rfl) (by rfl) T.z_max (by decide +kernel) (pa_cons (pv 6) (pa_cons (pe_op op_add (pv 7) (pe_op op_mul (pv 9) (pv 8))) pa_nil))))
        (pss_cons (ps_if (pt_cmpR op_ge (pv 9) (pv 3) (nomark _))
          (pss_cons (ps_set (i := 11) nd rfl (.inl rfl) (pe_ifExp (pt_cmpR op_gt (pv 5) pe_int (nomark _)) (pe_op op_fdiv (pv 9) (pv 3)) pe_int))
          (pss_one (ps_set (i := 6) nd rfl (.inl rfl) (pe_callB (call_max2 rfl) (by rfl) T.z_max (by decide +kernel) (pa_cons (pv 6) (pa_cons (pe_op op_add (pe_op op_add (pv 7) (pe_op op_mul (pv 9) (pv 4))) (pe_op op_mul (pv 11) (pv 5))) pa_nil)))))) pss_nil)
        (pss_cons (ps_aug (i := 9) nd rfl (.inl rfl) (pe_ix ix_tup (pe_prop (pv 0) T.cl T.q_rstarts (ok_starts T) hr T.b_rstarts .nil pass0 rfl) (pe_op op_sub (pv 1) (pv 10)) (fun _ _ => rfl)) ip_sub)
        (pss_one (ps_if (pt_cmpR op_lt (pv 9) pe_int (nomark _)) (pss_one ps_break) pss_nil))))))))
      (pss_one (ps_ret (pv 6)))))))), ?_⟩
    -- books, slowest, gain
    refine ⟨.ref p, rfl, p, dx, _, rfl, R.ob, p, dx, td, ts, ds, ss, rfl, R, ?_⟩
    refine ⟨.ref p, rfl, p, dx, _, rfl, R.ob, rdD ⟨td, ds, rfl, .of R.td, by omega, fun M hM hMu => ?_⟩⟩
    have RR := G.ring hM hMu
    have b1 := G.b1
    have b12 := G.b12
    have hM30 := G.d1 M hM
    have hT := sum_bounds G.d1
    have hBM : 0 ≤ ss.sum * M ∧ ss.sum * M ≤ 360 := by
      constructor
      · exact Int.mul_nonneg (by omega) (by omega)
      · have := Int.mul_le_mul_of_nonneg_right b12 (show 0 ≤ M by omega)
        omega
    refine ⟨.ref p, rfl, p, dx, _, rfl, R.ob, rdD ⟨td, ds, rfl, .of R.td, .int ss.sum, rfl, .int M, rfl, _, _, rfl, rfl, .inl ⟨by omega, by omega⟩, _, _, rfl, rfl, ?_⟩⟩
    -- latest = total = slowest_met = 0; left = number
    refine ⟨.int x, rfl, ?_⟩
    -- for step in range(len(ring))
    refine ⟨.ref p, rfl, p, dx, _, rfl, R.ob, p, dx, td, ts, ds, ss, rfl, R, (ds.length : Int), rfl, by omega, by omega, (ds.length : Int), rfl, by omega, by omega, for_range (lo := 0) (n := ((ds.length : Int) - 0).toNat)
      (fun i σ H' => H' = H ∧ ∃ L y10 y11, σ = edS p r x ss.sum M (ds.sum - ss.sum * M) L ds ss i y10 y11 ∧ sumBack (at' ss) r i ≤ x ∧ Sofar ds.length (at' ds) (at' ss) r x i L)
      ⟨rfl, 0, none, none, ?_, ?_, RR.sofar0 r x⟩ ?_ ?_⟩
    · show _ = ([some (.ref p), some (.int r), some (.int x), some (.int ss.sum), some (.int M), some (.int (ds.sum - ss.sum * M)), some (.int 0), some (.int 0), some (.int 0), some (.int (x - 0)), none, none] : L2.St)
      rw [show x - 0 = x by omega]
      rfl
    · show (0 : Int) ≤ x
      exact x0
    · rintro i σ H1 hi ⟨rfl, L, y10, y11, rfl, hle, SF⟩
      have hin : i < ds.length := by omega
      have e0 : (0 : Int) + (i : Int) = i := by omega
      have hix : atI (ds.map V.int) (r - (0 + (i : Int))) = some (.int (at' ds (r - i))) := by
        rw [e0]
        exact at_ix (by omega) (by omega)
      have hix2 : atI (ss.map V.int) (r - (0 + (i : Int))) = some (.int (at' ss (r - i))) := by
        rw [e0]
        exact at_ix (by omega) (by omega)
      -- total
      refine ⟨.int (sumBack (at' ds) r i), rfl, .ref p, rfl, p, dx, _, rfl, R.ob, rdD ⟨.int r, rfl, _, rfl, _, _, rfl, rfl, td, _, _, _, rfl, rfl, .of R.td, hix, _, _, rfl, rfl, ?_⟩⟩
      -- slowest_met
      refine ⟨_, rfl, .ref p, rfl, p, dx, _, rfl, R.ob, rdD ⟨.int r, rfl, _, rfl, _, _, rfl, rfl, td, _, _, _, rfl, rfl, .of R.td, hix, _, _, rfl, ?_⟩⟩
      rw [met_next RR.d1 r i]
      have hm1 : maxBack (at' ds) r i ≤ M := max_le RR.mu r i
      have hm0 : 1 ≤ maxBack (at' ds) r i := by
        have h1 := max_ge (f := at' ds) r (j := 0) (k := i) (Nat.zero_le _)
        have h2 := RR.d1 (r - (0 : Nat))
        omega
      -- latest
      refine ⟨.int L, rfl, .int (sumBack (at' ds) r (i + 1)), rfl, .int (x - sumBack (at' ss) r i), rfl, .int (maxBack (at' ds) r i), rfl, _, _, rfl, rfl, .inr ⟨by omega, by omega⟩, _, _, rfl, rfl, _, _, rfl, ?_⟩
      rw [max_if]
      have hch : sumBack (at' ds) r (i + 1) + (x - sumBack (at' ss) r i) * maxBack (at' ds) r i = ch (at' ds) (at' ss) r i x := rfl
      rw [hch]
      have hs : sumBack (at' ss) r (i + 1) = sumBack (at' ss) r i + at' ss (r - i) := rfl
      -- the end of a turn
      have fin : ∀ (L2 : Int) (y11' : Option V), Sofar ds.length (at' ds) (at' ss) r x (i + 1) L2 → tSeq (tAug 9 (tOp (rIxT K) (tProp T.C (spStarts T.C) [] E0 (tVar 0)) (tOp (rI0 fun i j => .int (i - j)) (tVar 1) (tVar 10))) (ipI fun i j => i - j)) (tIfS (tTest (tOp (rI0 fun i j => .bl (decide (i < j))) (tVar 9) (tC (.int 0)))) tBreak tNext)
          { nx := fun σ H' => H' = H1 ∧ ∃ L y10 y11, σ = edS p r x ss.sum M (ds.sum - ss.sum * M) L ds ss (i + 1) y10 y11 ∧ sumBack (at' ss) r (i + 1) ≤ x ∧ Sofar ds.length (at' ds) (at' ss) r x (i + 1) L,
            ct := fun σ H' => H' = H1 ∧ ∃ L y10 y11, σ = edS p r x ss.sum M (ds.sum - ss.sum * M) L ds ss (i + 1) y10 y11 ∧ sumBack (at' ss) r (i + 1) ≤ x ∧ Sofar ds.length (at' ds) (at' ss) r x (i + 1) L,
            rt := Q, bk := fun σ H' => tRet (tVar 6) { nx := fun _ H' => Q .non H', rt := Q } σ H' }
          [some (.ref p), some (.int r), some (.int x), some (.int ss.sum), some (.int M), some (.int (ds.sum - ss.sum * M)), some (.int L2), some (.int (sumBack (at' ds) r (i + 1))), some (.int (maxBack (at' ds) r i)), some (.int (x - sumBack (at' ss) r i)), some (.int (0 + (i : Int))), y11'] H1 := by
        intro L2 y11' SF2
        refine ⟨_, rfl, .ref p, rfl, p, dx, _, rfl, R.ob, rdS ⟨.int r, rfl, _, rfl, _, _, rfl, rfl, ts, _, _, _, rfl, rfl, .of R.ts, hix2, _, _, rfl, rfl, ?_⟩⟩
        have el : x - sumBack (at' ss) r i - at' ss (r - i) = x - sumBack (at' ss) r (i + 1) := by omega
        refine ⟨.int (x - sumBack (at' ss) r i - at' ss (r - i)), rfl, _, _, rfl, rfl, _, rfl, ?_⟩
        by_cases hb : x - sumBack (at' ss) r i - at' ss (r - i) < 0
        · rw [decide_eq_true hb]
          refine iteT ⟨.int L2, rfl, ?_⟩
          have := RR.E_of (RR.fin SF2 (.inr ⟨by omega, by omega⟩))
          rw [this] at q
          exact q
        · rw [decide_eq_false hb]
          refine iteF ⟨rfl, L2, some (.int (0 + (i : Int))), y11', ?_, by omega, SF2⟩
          unfold edS
          rw [← el]
          rfl
      -- if left >= books
      refine ⟨.int (x - sumBack (at' ss) r i), rfl, .int ss.sum, rfl, _, _, rfl, rfl, _, rfl, ?_⟩
      by_cases hb : ss.sum ≤ x - sumBack (at' ss) r i
      · rw [decide_eq_true hb]
        refine iteT ?_
        have go : ∀ rounds : Int, rounds = (if 0 < ds.sum - ss.sum * M then (x - sumBack (at' ss) r i) / ss.sum else 1) → _ := fun rounds hrd =>
          fin (max (max L (ch (at' ds) (at' ss) r i x)) (sumBack (at' ds) r (i + 1) + (x - sumBack (at' ss) r i) * M + rounds * (ds.sum - ss.sum * M))) (some (.int rounds)) (RR.step SF hle (by rw [if_pos hb, hrd]))
        -- rounds
        refine ⟨.int (ds.sum - ss.sum * M), rfl, _, _, rfl, rfl, _, rfl, ?_⟩
        by_cases hg : 0 < ds.sum - ss.sum * M
        · rw [decide_eq_true hg]
          refine iteT ⟨.int (x - sumBack (at' ss) r i), rfl, .int ss.sum, rfl, _, _, rfl, rfl, ⟨by omega, by omega⟩, ?_⟩
          refine ⟨_, rfl, .int (sumBack (at' ds) r (i + 1)), rfl, .int (x - sumBack (at' ss) r i), rfl, .int M, rfl, _, _, rfl, rfl, .inr ⟨by omega, by omega⟩, _, _, rfl, rfl, _, rfl, .int (ds.sum - ss.sum * M), rfl, _, _, rfl, rfl, .inr ⟨by omega, by omega⟩, _, _, rfl, rfl, _, _, rfl, ?_⟩
          rw [max_if]
          exact go _ (by rw [if_pos hg])
        · rw [decide_eq_false hg]
          refine iteF ?_
          refine ⟨_, rfl, .int (sumBack (at' ds) r (i + 1)), rfl, .int (x - sumBack (at' ss) r i), rfl, .int M, rfl, _, _, rfl, rfl, .inr ⟨by omega, by omega⟩, _, _, rfl, rfl, _, rfl, .int (ds.sum - ss.sum * M), rfl, _, _, rfl, rfl, .inr ⟨by omega, by omega⟩, _, _, rfl, rfl, _, _, rfl, ?_⟩
          rw [max_if]
          exact go _ (by rw [if_neg hg])
      · rw [decide_eq_false hb]
        refine iteF ?_
        exact fin _ y11 (RR.step SF hle (by rw [if_neg hb]))
    · rintro σ H1 ⟨rfl, L, y10, y11, rfl, hle, SF⟩
      have := RR.E_of (RR.fin SF (.inl (by omega)))
      rw [this] at q
      exact ⟨.int L, rfl, q⟩
end
end Rp
namespace Rp
open PySem PySem.Spec PyProof.Rows L2 Rz Rm
/-- readings and days of a repetition -/
def RepIs (T B M p q : Int) : Prop := (T ≤ M * B ∧ p = 1 ∧ q = M) ∨ (¬ T ≤ M * B ∧ p = B ∧ q = T)
theorem at_emod {ss : List Int} (i : Int) : at' ss (i % (ss.length : Int)) = at' ss i := by
  unfold at'
  rw [Int.emod_emod_of_dvd _ (Int.dvd_refl _)]
theorem emod_pred (z n : Int) : (z % n - 1) % n = (z - 1) % n := by
  have h := Int.emod_add_mul_ediv z n
  have e : z - 1 = (z % n - 1) + n * (z / n) := by omega
  rw [e, Int.add_mul_emod_self_left]
/-- the book of place q at reader r -/
def Bk (ss : List Int) (r q v : Int) : Prop := ∃ i : Nat, i < ss.length ∧ sumBack (at' ss) r i ≤ q ∧ q < sumBack (at' ss) r (i + 1) ∧ v = (ss.take ((r - i) % (ss.length : Int)).toNat).sum + (q - sumBack (at' ss) r i)
theorem Bk.inj {ss : List Int} (h0 : ∀ i, 0 ≤ at' ss i) {r q v v' : Int} (h : Bk ss r q v) (h' : Bk ss r q v') : v = v' := by
  obtain ⟨i, _, a1, a2, rfl⟩ := h
  obtain ⟨j, _, b1, b2, rfl⟩ := h'
  have e : i = j := by
    rcases Nat.lt_trichotomy i j with z | z | z
    · have := sum_mono h0 r (show i + 1 ≤ j by omega)
      omega
    · exact z
    · have := sum_mono h0 r (show j + 1 ≤ i by omega)
      omega
  rw [e]
section
variable {P : Program} {w : World} {K : PySem.W.Frag} {mg : Str → Option Value} {base : Heap}
/-! ### ring(reader, number) -/
def spCall (C : Addr) : Sp := fun vs H Q _ => ∃ p dx td ts ds ss, ∃ r x : Int, vs = [.ref p, .int r, .int x] ∧ RingAt C H p dx td ts ds ss ∧ 0 ≤ r ∧ r < ds.length ∧ 0 ≤ x ∧ x ≤ 1000000000000000000 ∧ Q (.int (Rm.E (at' ds) (at' ss) r x)) H
theorem ok_call (T : Tx K mg) : FnOk P w K mg base CX0 4 T.a_rcall T.d_rcall P_rcall (spCall T.C) := by
  refine T.F_rcall.ok sc_rcall (fun vs H Q E h => ?_) (fun cdv A outer s H vs Q E hr h => ?_)
  · obtain ⟨p, dx, td, ts, ds, ss, r, x, rfl, _⟩ := h
    rfl
  · obtain ⟨p, dx, td, ts, ds, ss, r, x, rfl, R, r0, r1, x0, x1, q⟩ := h
    obtain ⟨u1, c1⟩ := T.c_LATEST
    refine ⟨_, pss_cons (ps_expr (pe_call (ok_reader T) hr (by rfl) T.g_check_reader T.F_check_reader.kp T.b_check_reader .nil pass0 (pa_cons (pv 0) (pa_cons (pv 1) pa_nil))))
      (pss_cons (ps_expr (pe_call (ok_chk T) hr (by rfl) T.g_check_number T.F_check_number.kp T.b_check_number .nil pass0 (pa_cons (pv 2) (pa_cons pe_int (pa_cons (pe_glob (v := .int 1000000000000000000) (by rfl) c1 ⟨_, rfl⟩) pa_nil)))))
      (pss_one (ps_ret (pe_call (ok_end T) hr (by rfl) T.g_end_day T.F_end_day.kp T.b_end_day .nil pass0 (pa_cons (pv 0) (pa_cons (pv 1) (pa_cons (pv 2) pa_nil))))))), ?_⟩
    refine ⟨_, rfl, _, rfl, p, dx, td, ts, ds, ss, r, rfl, R, r0, r1, ?_⟩
    refine ⟨_, rfl, x, 0, 1000000000000000000, rfl, x0, x1, ?_⟩
    exact ⟨_, rfl, _, rfl, _, rfl, p, dx, td, ts, ds, ss, r, x, rfl, R, r0, r1, x0, q⟩
/-! ### repetition -/
def spRepn (C : Addr) : Sp := fun vs H Q _ => ∃ p dx td ts ds ss, vs = [.ref p] ∧ RingAt C H p dx td ts ds ss ∧ ∀ M, M ∈ ds → (∀ y ∈ ds, y ≤ M) → ∀ H' t x y, Same H H' → H' t = some (.tup [.int x, .int y]) → RepIs ds.sum ss.sum M x y → Q (.ref t) H'
theorem ok_repn (T : Tx K mg) : FnOk P w K mg base CX0 3 T.a_repetition T.d_repetition P_repetition (spRepn T.C) := by
  refine T.F_repetition.ok sc_repetition (fun vs H Q E h => ?_) (fun cdv A outer s H vs Q E hr h => ?_)
  · obtain ⟨p, dx, td, ts, ds, ss, rfl, _⟩ := h
    rfl
  · obtain ⟨p, dx, td, ts, ds, ss, rfl, R, q⟩ := h
    have hr1 : Room 1 _ := hr.mono (by decide)
    have l2 := R.ok.l2
    have b1 := R.ok.b1
    have b12 := R.ok.b12
    have rdD : ∀ {Q' : VK} {E' : XK}, Q' (.ref td) H → spDays T.C [.ref p] H Q' E' := fun z => ⟨p, dx, td, ts, ds, ss, rfl, R, z⟩
    have rdB : ∀ {Q' : VK} {E' : XK}, Q' (.int ss.sum) H → spBooks T.C [.ref p] H Q' E' := fun z => ⟨p, dx, td, ts, ds, ss, rfl, R, z⟩
    refine ⟨_, pss_cons (ps_if (pt_val (pe_call (ok_slow T) hr1 (by rfl) T.g_slowest_decides T.F_slowest_decides.kp T.b_slowest_decides .nil pass0 (pa_cons (pe_prop (pv 0) T.cl T.q_rdays (ok_days T) hr T.b_rdays .nil pass0 rfl) (pa_cons (pe_prop (pv 0) T.cl T.q_rbooks (ok_books T) hr T.b_rbooks .nil pass0 rfl) pa_nil))))
        (pss_one (ps_ret (pe_tup (pa_cons pe_int (pa_cons (pe_callB (cr_maxT rfl) (by rfl) T.z_max (by decide +kernel) (pa_cons (pe_prop (pv 0) T.cl T.q_rdays (ok_days T) hr T.b_rdays .nil pass0 rfl) pa_nil)) pa_nil))))) pss_nil)
      (pss_one (ps_ret (pe_tup (pa_cons (pe_prop (pv 0) T.cl T.q_rbooks (ok_books T) hr T.b_rbooks .nil pass0 rfl) (pa_cons (pe_callB (cr_sumT rfl) (by rfl) T.z_sum (by decide +kernel) (pa_cons (pe_prop (pv 0) T.cl T.q_rdays (ok_days T) hr T.b_rdays .nil pass0 rfl) pa_nil)) pa_nil))))), ?_⟩
    refine ⟨_, rfl, p, dx, _, rfl, R.ob, rdD ⟨_, rfl, p, dx, _, rfl, R.ob, rdB ⟨td, ds, ss.sum, rfl, R.td, R.ok.dys, by omega, by omega, _, rfl, ?_⟩⟩⟩
    obtain ⟨M, hM, hMu, eM⟩ : ∃ M, M ∈ ds ∧ (∀ y ∈ ds, y ≤ M) ∧ mx ds = M := ⟨mx ds, R.ok.dys.mem, fun y h => le_mx h, rfl⟩
    rw [eM]
    by_cases hc : ds.sum ≤ M * ss.sum
    · rw [decide_eq_true hc]
      refine iteT ⟨_, rfl, p, dx, _, rfl, R.ob, rdD ⟨td, ds, rfl, .of R.td, by omega, fun M' hM' hMu' => ⟨(by show 2 ≤ sizeLine; decide), fun t ht => ?_⟩⟩⟩
      have e : M' = M := Int.le_antisymm (hMu M' hM') (hMu' M hM)
      subst e
      exact q M' hM hMu _ t _ _ (same_upd ht) upd_same (.inl ⟨hc, rfl, rfl⟩)
    · rw [decide_eq_false hc]
      refine iteF ⟨_, rfl, p, dx, _, rfl, R.ob, rdB ⟨_, rfl, p, dx, _, rfl, R.ob, rdD ⟨td, ds, rfl, .of R.td, (by show 2 ≤ sizeLine; decide), fun t ht => ?_⟩⟩⟩
      exact q M hM hMu _ t _ _ (same_upd ht) upd_same (.inr ⟨hc, rfl, rfl⟩)
/-! ### row_repeats -/
def RepAt (ds ss : List Int) (p q n : Int) : Prop := ∀ r : Int, 0 ≤ r → r < ds.length → Rm.E (at' ds) (at' ss) r (n + p) = Rm.E (at' ds) (at' ss) r n + q
def spRow (C : Addr) : Sp := fun vs H Q _ => ∃ o dx td ts ds ss, ∃ n p q : Int, vs = [.ref o, .int n, .int p, .int q] ∧ RingAt C H o dx td ts ds ss ∧ 0 ≤ n ∧ 0 ≤ p ∧
  (RepAt ds ss p q n → Q (.bl true) H) ∧ ((∃ r : Int, 0 ≤ r ∧ r < ds.length ∧ Rm.E (at' ds) (at' ss) r (n + p) ≠ Rm.E (at' ds) (at' ss) r n + q) → Q (.bl false) H)
theorem ok_row (T : Tx K mg) : FnOk P w K mg base CX0 4 T.a_row_repeats T.d_row_repeats P_row_repeats (spRow T.C) := by
  refine T.F_row_repeats.ok sc_row_repeats (fun vs H Q E h => ?_) (fun cdv A outer s H vs Q E hr h => ?_)
  · obtain ⟨p, dx, td, ts, ds, ss, _, _, _, rfl, _⟩ := h
    rfl
  · obtain ⟨o, dx, td, ts, ds, ss, n, p, q, rfl, R, n0, p0, k1, k2⟩ := h
    have hr2 : Room 2 _ := hr.mono (by decide)
    have l8 := R.ok.l8
    have nd := sc_row_repeats.nd
    refine ⟨_, pss_cons (ps_for PassesOwn.never rfl (pi_range1 (by rfl) T.z_range (pa_cons (pe_callB (call_lenI T.lenC T.lenF ((ok_len T).raw T.b_rlen .nil) hr2 pass0) (by rfl) T.z_len PySem.boot_len (pa_cons (pv 0) pa_nil)) pa_nil)) (pg_name (i := 4) nd rfl (.inl rfl))
        (pss_one (ps_if (pt_cmpR op_ne (pe_call (ok_end T) hr (by rfl) T.g_end_day T.F_end_day.kp T.b_end_day .nil pass0 (pa_cons (pv 0) (pa_cons (pv 4) (pa_cons (pe_op op_add (pv 1) (pv 2)) pa_nil))))
          (pe_op op_add (pe_call (ok_end T) hr (by rfl) T.g_end_day T.F_end_day.kp T.b_end_day .nil pass0 (pa_cons (pv 0) (pa_cons (pv 4) (pa_cons (pv 1) pa_nil)))) (pv 3)) (nomark _)) (pss_one (ps_ret pe_bl)) pss_nil)))
      (pss_one (ps_ret pe_bl)), ?_⟩
    refine ⟨_, rfl, o, dx, _, rfl, R.ob, o, dx, td, ts, ds, ss, rfl, R, (ds.length : Int), rfl, by omega, by omega, (ds.length : Int), rfl, by omega, by omega, ?_⟩
    refine for_range (lo := 0) (n := ((ds.length : Int) - 0).toNat) (g := gName 4) (D := { ({ nx := fun _ H' => Q .non H', rt := Q } : Ends) with nx := tRet (tC (.bl true)) { nx := fun _ H' => Q .non H', rt := Q } })
      (fun i σ H' => H' = H ∧ ∃ y4, σ = [some (.ref o), some (.int n), some (.int p), some (.int q), y4] ∧ ∀ r : Int, 0 ≤ r → r < i → Rm.E (at' ds) (at' ss) r (n + p) = Rm.E (at' ds) (at' ss) r n + q)
      ⟨rfl, none, rfl, fun r h1 h2 => by omega⟩ ?_ ?_
    · rintro i σ H1 hi ⟨rfl, y4, rfl, hall⟩
      have e0 : (0 : Int) + (i : Int) = i := by omega
      refine ⟨_, rfl, _, rfl, _, rfl, _, rfl, _, _, rfl, rfl, o, dx, td, ts, ds, ss, 0 + (i : Int), n + p, rfl, R, by omega, by omega, by omega, ?_⟩
      refine ⟨_, rfl, _, rfl, _, rfl, o, dx, td, ts, ds, ss, 0 + (i : Int), n, rfl, R, by omega, by omega, by omega, _, rfl, _, _, rfl, rfl, rfl, _, rfl, ?_⟩
      rw [e0]
      by_cases hc : Rm.E (at' ds) (at' ss) i (n + p) = Rm.E (at' ds) (at' ss) i n + q
      · rw [hc]
        refine iteNS rfl ⟨rfl, _, rfl, fun r h1 h2 => ?_⟩
        by_cases e : r = i
        · subst e
          exact hc
        · exact hall r h1 (by omega)
      · rw [decide_eq_false (show ¬ V.int (Rm.E (at' ds) (at' ss) i (n + p)) = V.int (Rm.E (at' ds) (at' ss) i n + q) from fun z => hc (V.int.inj z))]
        exact iteT (k2 ⟨i, by omega, by omega, hc⟩)
    · rintro σ H1 ⟨rfl, y4, rfl, hall⟩
      exact k1 fun r h1 h2 => hall r h1 (by omega)
end
end Rp
namespace Rp
open PySem PySem.Spec PyProof.Rows L2 Rz Rm
theorem cut_front {xs : List V} {r : Int} (h0 : 0 ≤ r) (h1 : r < xs.length) : cutV xs none (some r) = xs.take r.toNat ∧ ¬ (HT.sIx xs.length 0 none = 0 ∧ HT.sIx xs.length xs.length (some r) = xs.length) := by
  have e : r = ((r.toNat : Nat) : Int) := by omega
  have e1 : HT.sIx xs.length xs.length (some r) = r.toNat := by
    rw [e, HT.sIx_nat]
    omega
  constructor
  · unfold cutV
    rw [HT.sIx_none, e1]
    simp
  · rw [e1]
    omega
theorem sum_le_zero : ∀ {l : List Int}, (∀ y ∈ l, y ≤ 0) → l.sum ≤ 0
  | [], _ => by simp
  | a :: r, h => by
    have h1 := h a List.mem_cons_self
    have ih := sum_le_zero (l := r) fun y hy => h y (List.mem_cons_of_mem _ hy)
    rw [List.sum_cons]
    omega
section
variable {N : Nat} {d s : Int → Int} {B T M : Int} (R : Rm.Ring N d s B T M)
include R
theorem _root_.Rm.Ring.rep_big {p q x : Int} (h : RepIs T B M p q) (hx : 4 * B + B * M ≤ x) : Rep d s p q x := by
  rw [RepIs, Int.mul_comm M B] at h
  rcases h with ⟨h1, rfl, rfl⟩ | ⟨h1, rfl, rfl⟩
  · exact R.rep_slow h1 hx
  · exact R.rep_fast (by omega) hx
theorem _root_.Rm.Ring.p1 {p q : Int} (h : RepIs T B M p q) : 1 ≤ p := by
  have := R.b1
  rcases h with ⟨_, rfl, _⟩ | ⟨_, rfl, _⟩ <;> omega
end
theorem rep_all {ds ss : List Int} {M : Int} (RR : Rm.Ring ds.length (at' ds) (at' ss) ss.sum ds.sum M) {p q n : Int} (h : RepAt ds ss p q n) : Rep (at' ds) (at' ss) p q n := by
  intro r
  have hN := RR.pos
  have h1 := h (r % (ds.length : Int)) (Int.emod_nonneg _ (by omega)) (Int.emod_lt_of_pos _ (by omega))
  rw [RR.E_mod, RR.E_mod] at h1
  exact h1
/-- from n on ends repeat, and not sooner -/
structure SettledIs (ds ss : List Int) (n p q : Int) : Prop where
  n0 : 0 ≤ n
  n1 : n ≤ 1000
  all : ∀ m, n ≤ m → Rep (at' ds) (at' ss) p q m
  least : n = 0 ∨ ∃ r : Int, 0 ≤ r ∧ r < ds.length ∧ Rm.E (at' ds) (at' ss) r (n - 1 + p) ≠ Rm.E (at' ds) (at' ss) r (n - 1) + q
section
variable {P : Program} {w : World} {K : PySem.W.Frag} {mg : Str → Option Value} {base : Heap}
/-! ### settled -/
def spSettled (C : Addr) : Sp := fun vs H Q _ => ∃ o dx td ts ds ss, vs = [.ref o] ∧ RingAt C H o dx td ts ds ss ∧ ∀ M, M ∈ ds → (∀ y ∈ ds, y ≤ M) → ∀ H' t n p q, Same H H' → H' t = some (.tup [.int n, .int p, .int q]) → RepIs ds.sum ss.sum M p q → SettledIs ds ss n p q → Q (.ref t) H'
theorem ok_settled (T : Tx K mg) : FnOk P w K mg base CX0 5 T.a_settled T.d_settled P_settled (spSettled T.C) := by
  refine T.F_settled.ok sc_settled (fun vs H Q E h => ?_) (fun cdv A outer s H vs Q E hr h => ?_)
  · obtain ⟨o, dx, td, ts, ds, ss, rfl, _⟩ := h
    rfl
  · obtain ⟨o, dx, td, ts, ds, ss, rfl, R, k⟩ := h
    have hr3 : Room 3 _ := hr.mono (by decide)
    have hr2 : Room 2 _ := hr.mono (by decide)
    have nd := sc_settled.nd
    have l2 := R.ok.l2
    have ls := R.ok.ls
    have b1 := R.ok.b1
    have b12 := R.ok.b12
    refine ⟨_, pss_cons (ps_asg (pe_call (ok_repn T) hr3 (by rfl) T.g_repetition T.F_repetition.kp T.b_repetition .nil pass0 (pa_cons (pv 0) pa_nil)) (pg_tup rfl (pgs_cons (pg_name (i := 1) nd rfl (.inl rfl)) (pgs_cons (pg_name (i := 2) nd rfl (.inl rfl)) pgs_nil))))
      (pss_cons (ps_set (i := 3) nd rfl (.inl rfl) (pe_callB (cr_maxT rfl) (by rfl) T.z_max (by decide +kernel) (pa_cons (pe_prop (pv 0) T.cl T.q_rstarts (ok_starts T) hr2 T.b_rstarts .nil pass0 rfl) pa_nil)))
      (pss_cons (ps_set (i := 4) nd rfl (.inl rfl) pe_int)
      (pss_cons (ps_set (i := 5) nd rfl (.inl rfl) pe_int)
      (pss_cons (ps_while PassesOwn.never (pt_cmpR op_lt (pv 5) (pv 3) (nomark _))
        (pss_one (ps_if (pt_val (pe_call (ok_row T) hr (by rfl) T.g_row_repeats T.F_row_repeats.kp T.b_row_repeats .nil pass0 (pa_cons (pv 0) (pa_cons (pe_op op_add (pv 4) (pv 5)) (pa_cons (pv 1) (pa_cons (pv 2) pa_nil))))))
          (pss_one (ps_aug (i := 5) nd rfl (.inl rfl) pe_int ip_add))
          (pss_cons (ps_aug (i := 4) nd rfl (.inl rfl) (pe_op op_add (pv 5) pe_int) ip_add) (pss_one (ps_set (i := 5) nd rfl (.inl rfl) pe_int))))))
      (pss_one (ps_ret (pe_tup (pa_cons (pv 4) (pa_cons (pv 1) (pa_cons (pv 2) pa_nil)))))))))), ?_⟩
    refine ⟨_, rfl, o, dx, td, ts, ds, ss, rfl, R, fun M hM hMu H1 t p q sm ht hrep => ⟨t, _, rfl, .of ht, rfl, _, _, rfl, _, _, rfl, rfl, ?_⟩⟩
    have RR := R.ok.ring hM hMu
    have R1 := R.same sm
    have hM30 := R.ok.d1 M hM
    have hBM : ss.sum * M ≤ 360 := by
      have := Int.mul_le_mul_of_nonneg_right b12 (show 0 ≤ M by omega)
      omega
    have p1 := RR.p1 hrep
    refine ⟨_, rfl, o, dx, _, rfl, R1.ob, o, dx, td, ts, ds, ss, rfl, R1, ts, ss, rfl, .of R1.ts, by omega, fun wm hw hwu => ?_⟩
    have w12 := (R.ok.s0 wm hw).2
    have w1 : 1 ≤ wm := by
      rcases Int.lt_or_le wm 1 with z | z
      · have := sum_le_zero (l := ss) fun y hy => by have := hwu y hy; omega
        omega
      · exact z
    -- how far the number goes
    have bound : ∀ n : Int, 0 ≤ n → (n = 0 ∨ ∃ r : Int, 0 ≤ r ∧ r < ds.length ∧ Rm.E (at' ds) (at' ss) r (n - 1 + p) ≠ Rm.E (at' ds) (at' ss) r (n - 1) + q) → n ≤ 408 := by
      intro n n0 hn
      rcases hn with hn | ⟨r, _, _, hr'⟩
      · omega
      · rcases Int.lt_or_le 408 n with z | z
        · exact absurd (RR.rep_big hrep (x := n - 1) (by omega) r) hr'
        · exact z
    refine while_by (fun σ H' => H' = H1 ∧ ∃ n f : Int, σ = [some (.ref o), some (.int p), some (.int q), some (.int wm), some (.int n), some (.int f)] ∧ 0 ≤ n ∧ 0 ≤ f ∧ f ≤ wm ∧ (∀ j, 0 ≤ j → j < f → Rep (at' ds) (at' ss) p q (n + j)) ∧
        (n = 0 ∨ ∃ r : Int, 0 ≤ r ∧ r < ds.length ∧ Rm.E (at' ds) (at' ss) r (n - 1 + p) ≠ Rm.E (at' ds) (at' ss) r (n - 1) + q))
      (fun (σ : L2.St) (_ : Hp) => match σ[4]?, σ[5]? with | some (some (V.int n)), some (some (V.int f)) => (1000 - (n + f)).toNat | _, _ => 0) ?_ ?_ ?_
    · exact ⟨rfl, 0, 0, rfl, by omega, by omega, by omega, fun j h1 h2 => by omega, .inl rfl⟩
    · rintro σ H2 ⟨rfl, n, f, rfl, n0, f0, fw, hall, hlast⟩
      have hb := bound n n0 hlast
      refine ⟨_, rfl, _, rfl, _, _, rfl, rfl, _, rfl, ?_⟩
      by_cases hc : f < wm
      · rw [decide_eq_true hc]
        refine iteT ?_
        refine ⟨_, rfl, _, rfl, _, rfl, _, _, rfl, rfl, _, rfl, _, rfl, o, dx, td, ts, ds, ss, n + f, p, q, rfl, R1, by omega, by omega, fun hrow => ⟨_, rfl, iteT ?_⟩, fun hbad => ⟨_, rfl, iteF ?_⟩⟩
        · refine ⟨_, rfl, _, _, rfl, rfl, ⟨rfl, n, f + 1, rfl, n0, by omega, by omega, fun j h1 h2 => ?_, hlast⟩, ?_⟩
          · by_cases e : j = f
            · subst e
              exact rep_all RR hrow
            · exact hall j h1 (by omega)
          · show (1000 - (n + (f + 1))).toNat < (1000 - (n + f)).toNat
            omega
        · refine ⟨_, rfl, _, rfl, _, _, rfl, rfl, _, _, rfl, rfl, ⟨rfl, n + (f + 1), 0, rfl, by omega, by omega, by omega, fun j h1 h2 => by omega, .inr ?_⟩, ?_⟩
          · rw [show n + (f + 1) - 1 = n + f by omega]
            exact hbad
          · show (1000 - (n + (f + 1) + 0)).toNat < (1000 - (n + f)).toNat
            omega
      · rw [decide_eq_false hc]
        have e : f = wm := by omega
        subst e
        refine iteF ⟨_, rfl, _, rfl, _, rfl, (by show 3 ≤ sizeLine; decide), fun t2 ht2 => ?_⟩
        refine k M hM hMu _ t2 n p q (sm.trans (same_upd ht2)) upd_same hrep ⟨n0, by omega, ?_, hlast⟩
        exact RR.later (w := f) (fun i => hwu _ (at_mem (by omega) i)) (mem_at hw) w1 p1 n0 hall
    · rintro σ H2 Q1 Q2 i ⟨v, e, v', e', a, b, r1, r2, k', ek, z⟩
      exact ⟨v, e, v', e', a, b, r1, r2, k', ek, i _ _ z⟩
end
end Rp
namespace Rp
open PySem PySem.Spec PyProof.Rows L2 Rz Rm
/-! ### the drawn row -/
/-- all that was tracked but the row is as it was -/
def Kp (row : Addr) (H H' : Hp) : Prop := ∀ b o, H b = some o → b ≠ row → H' b = some o
theorem Kp.refl (row : Addr) (H : Hp) : Kp row H H := fun _ _ h _ => h
theorem Kp.trans {row : Addr} {H H1 H2 : Hp} (a : Kp row H H1) (b : Kp row H1 H2) : Kp row H H2 := fun c o h n => b c o (a c o h n) n
theorem Same.kp {row : Addr} {H H' : Hp} (s : Same H H') : Kp row H H' := fun b o h _ => s b o h
/-- the script stands in the written part -/
def Wr (K : PySem.W.Frag) (a : Addr) (xs : List V) : Prop := ∃ (o : Obj) (its : Array Value) (n : Nat), K.lookup a = some o ∧ o.cls = .type "list" ∧ o.dict = none ∧ o.data = .seq its n ∧ its.size ≤ sizeLine ∧ Vals xs its.toList
theorem far_of {K : PySem.W.Frag} {H : Hp} {D a : Addr} {xs : List V} (h : SqL K H a xs) (hD : H D = none) : D ≠ a ∨ Wr K a xs := by
  rcases h with (h | ⟨o, h⟩) | h
  · exact .inl fun e => by rw [e, h] at hD; cases hD
  · exact .inl fun e => by rw [e, h] at hD; cases hD
  · exact .inr h
theorem sq_upd {K : PySem.W.Frag} {H : Hp} {D a : Addr} {xs : List V} {o : HO} (h : SqL K H a xs) (f : D ≠ a ∨ Wr K a xs) : SqL K (upd H D o) a xs := by
  rcases f with f | f
  · rcases h with (h | ⟨u, h⟩) | h
    · exact .inl (.inl (by rw [upd_ne f.symm]; exact h))
    · exact .inl (.inr ⟨u, by rw [upd_ne f.symm]; exact h⟩)
    · exact .inr h
  · exact .inr f
structure RowAt (K : PySem.W.Frag) (H : Hp) (row a : Addr) (ns : List Int) : Prop where
  ob : ∃ i m q : Int, H row = some (.lst [.ref a, .int i, .int m, .int q]) ∧ 0 ≤ i
  sc : SqL K H a (ns.map V.int)
  ne : row ≠ a ∨ Wr K a (ns.map V.int)
theorem RowAt.same {K : PySem.W.Frag} {H H' : Hp} {row a : Addr} {ns : List Int} (R : RowAt K H row a ns) (s : Same H H') : RowAt K H' row a ns := by
  obtain ⟨i, m, q, h, h0⟩ := R.ob
  exact ⟨⟨i, m, q, s _ _ h, h0⟩, s.seq R.sc, R.ne⟩
theorem kp_upd {row : Addr} {H : Hp} {o : HO} : Kp row H (upd H row o) := fun b z h n => by
  rw [upd_ne n]
  exact h
/-- the row is written -/
theorem RowAt.put {K : PySem.W.Frag} {H : Hp} {row a : Addr} {ns : List Int} (R : RowAt K H row a ns) {i m q : Int} (h : 0 ≤ i) : RowAt K (upd H row (.lst [.ref a, .int i, .int m, .int q])) row a ns :=
  ⟨⟨i, m, q, upd_same, h⟩, sq_upd R.sc R.ne, R.ne⟩
theorem first_ix : ∀ {l : List Int} {m : Int}, m ∈ l → ∃ j : Nat, l[j]? = some m ∧ ∀ k z, k < j → l[k]? = some z → z ≠ m
  | a :: r, m, h => by
    by_cases e : a = m
    · exact ⟨0, by simp [e], fun k z hk => absurd hk (Nat.not_lt_zero _)⟩
    · obtain ⟨j, h1, h2⟩ := first_ix (l := r) (m := m) (by
        rcases List.mem_cons.mp h with q | q
        · exact absurd q.symm e
        · exact q)
      refine ⟨j + 1, by simpa using h1, fun k z hk hz => ?_⟩
      cases k with
      | zero =>
        simp at hz
        rw [← hz]
        exact e
      | succ k => exact h2 k z (by omega) (by simpa using hz)
theorem mem_le_sum : ∀ {l : List Int}, (∀ y ∈ l, 0 ≤ y) → ∀ x ∈ l, x ≤ l.sum
  | a :: r, h, x, hx => by
    have ha := h a List.mem_cons_self
    have hr : ∀ y ∈ r, 0 ≤ y := fun y hy => h y (List.mem_cons_of_mem _ hy)
    have hs : 0 ≤ r.sum := sum_nonneg' hr
    rw [List.sum_cons]
    rcases List.mem_cons.mp hx with e | e
    · omega
    · have := mem_le_sum hr x e
      omega
where sum_nonneg' : ∀ {l : List Int}, (∀ y ∈ l, 0 ≤ y) → 0 ≤ l.sum
  | [], _ => by simp
  | a :: r, h => by
    have h1 := h a List.mem_cons_self
    have h2 := sum_nonneg' (l := r) fun y hy => h y (List.mem_cons_of_mem _ hy)
    rw [List.sum_cons]
    omega
theorem mem_set {l : List Int} {j : Nat} {v y : Int} (h : y ∈ l.set j v) : y ∈ l ∨ y = v := List.mem_or_eq_of_mem_set h
theorem flat_ints (l : List Int) : (l.map V.int).all flatV = true := by
  rw [List.all_eq_true]
  intro x hx
  obtain ⟨i, _, rfl⟩ := List.mem_map.mp hx
  rfl
theorem lc_keep {σ : L2.St} {H : Hp} {F G : Hp → Prop} (h : F H) : tYes σ H (fun b H3 => if b = true then F H3 else G H3) := by
  show if true = true then F H else G H
  rw [if_pos rfl]
  exact h
theorem map_snoc (l : List Int) (v : Int) : l.map V.int ++ [V.int v] = (l ++ [v]).map V.int := by
  rw [List.map_append]
  rfl
theorem RowAt.upd' {K : PySem.W.Frag} {H : Hp} {D row a : Addr} {ns : List Int} {o : HO} (R : RowAt K H row a ns) (n : D ≠ row) (f : D ≠ a ∨ Wr K a (ns.map V.int)) : RowAt K (upd H D o) row a ns := by
  obtain ⟨i, m, q, h, h0⟩ := R.ob
  exact ⟨⟨i, m, q, by rw [upd_ne n.symm]; exact h, h0⟩, sq_upd R.sc f, R.ne⟩
theorem RowAt.nn {K : PySem.W.Frag} {H : Hp} {D row a : Addr} {ns : List Int} (R : RowAt K H row a ns) (h : H D = none) : D ≠ row := fun e => by
  obtain ⟨i, m, q, h2, _⟩ := R.ob
  rw [e, h2] at h
  cases h
theorem kp_new {row D : Addr} {H0 H : Hp} {o : HO} (k : Kp row H0 H) (h : H0 D = none) : Kp row H0 (upd H D o) := fun b z e n => by
  rw [upd_ne (ne_of_none e h)]
  exact k b z e n
end Rp
/-! Equal values are alike, whatever their depth. -/
namespace Rp
open PySem PySem.Spec PyProof.Rows L2 Rz Rm
/-- equal values: ints, None; tuples and lists of such -/
def LkD : Nat → Hp → V → V → Prop
  | 0, _, v, w => (∃ x, v = .int x ∧ w = .int x) ∨ (v = .non ∧ w = .non)
  | n + 1, H, v, w => LkD n H v w ∨ ∃ (f g : Addr) (xs ys : List V), v = .ref f ∧ w = .ref g ∧ ((H f = some (.tup xs) ∧ H g = some (.tup ys)) ∨ (H f = some (.lst xs) ∧ H g = some (.lst ys))) ∧ ys.length = xs.length ∧ xs.length ≤ 1000 ∧
      ∀ (i : Nat) (x y : V), xs[i]? = some x → ys[i]? = some y → LkD n H x y
theorem LkD.same {H H' : Hp} (s : Same H H') : ∀ {n : Nat} {v w : V}, LkD n H v w → LkD n H' v w
  | 0, _, _, h => h
  | n + 1, _, _, h => by
    rcases h with h | ⟨f, g, xs, ys, e1, e2, ho, hl, h1, ht⟩
    · exact .inl (LkD.same s h)
    · refine .inr ⟨f, g, xs, ys, e1, e2, ?_, hl, h1, fun i x y hx hy => LkD.same s (ht i x y hx hy)⟩
      rcases ho with ⟨a, b⟩ | ⟨a, b⟩
      · exact .inl ⟨s _ _ a, s _ _ b⟩
      · exact .inr ⟨s _ _ a, s _ _ b⟩
theorem LkD.ints {H : Hp} {f g : Addr} {l : List Int} (h : (H f = some (.tup (l.map V.int)) ∧ H g = some (.tup (l.map V.int))) ∨ (H f = some (.lst (l.map V.int)) ∧ H g = some (.lst (l.map V.int)))) (hl : l.length ≤ 1000) : LkD 1 H (.ref f) (.ref g) := by
  refine .inr ⟨f, g, _, _, rfl, rfl, h, rfl, by rw [List.length_map]; exact hl, fun i x y hx hy => ?_⟩
  rw [hx] at hy
  cases hy
  rw [List.getElem?_map] at hx
  cases e : l[i]? with
  | none => rw [e] at hx; cases hx
  | some z => rw [e] at hx; cases hx; exact .inl ⟨z, rfl, rfl⟩
section
variable {P : Program} {w : World} {K : PySem.W.Frag} {mg : Str → Option Value} {base : Heap}
def spLikeD (n : Nat) : Sp := fun vs H Q _ => ∃ v y : V, vs = [v, y] ∧ LkD n H v y ∧ ∀ H', Same H H' → Q (.bl true) H'
theorem ok_like0 (T : Tx K mg) : FnOk P w K mg base CX0 1 T.a_llike T.d_llike P_llike (spLikeD 0) := by
  refine T.F_llike.ok sc_llike (fun vs H Q E h => ?_) (fun cdv A outer s H vs Q E hr h => ?_)
  · obtain ⟨x, y, rfl, _⟩ := h
    rfl
  · obtain ⟨v, y, rfl, hv, q⟩ := h
    have q := q H (fun _ _ z => z)
    refine ⟨_, pss_cons (ps_if (PW.pt (pw_or (pt_val (pe_callB call_isi (by rfl) T.z_isinstance (by decide +kernel) (pa_cons (pv 1) (pa_cons (pe_bltn (v := .ty "tuple") (u := .type "tuple") (by rfl) T.z_tuple (by decide +kernel) rfl) pa_nil))))
        (pw_or1 (pt_val (pe_callB call_isi (by rfl) T.z_isinstance (by decide +kernel) (pa_cons (pv 1) (pa_cons (pe_bltn (v := .ty "list") (u := .type "list") (by rfl) T.z_list (by decide +kernel) rfl) pa_nil))))))) pss_never pss_nil)
      (pss_cons (ps_if (pt_cmpR op_ne (pe_callB call_isi (by rfl) T.z_isinstance (by decide +kernel) (pa_cons (pv 0) (pa_cons (pe_bltn (v := .ty "bool") (u := .type "bool") (by rfl) T.z_bool (by decide +kernel) rfl) pa_nil)))
        (pe_callB call_isi (by rfl) T.z_isinstance (by decide +kernel) (pa_cons (pv 1) (pa_cons (pe_bltn (v := .ty "bool") (u := .type "bool") (by rfl) T.z_bool (by decide +kernel) rfl) pa_nil))) (nomark _)) (pss_one (ps_ret pe_bl)) pss_nil)
      (pss_cons (ps_if (PW.pt (pw_or (pt_cmpR op_ne (pe_callB call_isi (by rfl) T.z_isinstance (by decide +kernel) (pa_cons (pv 0) (pa_cons (pe_bltn (v := .ty "int") (u := .type "int") (by rfl) T.z_int (by decide +kernel) rfl) pa_nil)))
        (pe_callB call_isi (by rfl) T.z_isinstance (by decide +kernel) (pa_cons (pv 1) (pa_cons (pe_bltn (v := .ty "int") (u := .type "int") (by rfl) T.z_int (by decide +kernel) rfl) pa_nil))) (nomark _))
        (pw_or1 (pt_cmpR op_ne (pe_callB call_isi (by rfl) T.z_isinstance (by decide +kernel) (pa_cons (pv 0) (pa_cons (pe_bltn (v := .ty "str") (u := .type "str") (by rfl) T.z_str (by decide +kernel) rfl) pa_nil)))
        (pe_callB call_isi (by rfl) T.z_isinstance (by decide +kernel) (pa_cons (pv 1) (pa_cons (pe_bltn (v := .ty "str") (u := .type "str") (by rfl) T.z_str (by decide +kernel) rfl) pa_nil))) (nomark _))))) (pss_one (ps_ret pe_bl)) pss_nil)
      (pss_one (ps_ret (pe_cmpR op_eq (pv 0) (pv 1) (nomark _)))))), ?_⟩
    rcases hv with ⟨x, rfl, rfl⟩ | ⟨rfl, rfl⟩
    · refine ⟨_, rfl, .int x, .ty "tuple", .type "int", .type "tuple", false, rfl, .ty _, .base (.int x), kit_ty (by decide +kernel), _, rfl, iteF ?_⟩
      refine ⟨_, rfl, .int x, .ty "list", .type "int", .type "list", false, rfl, .ty _, .base (.int x), kit_ty (by decide +kernel), _, rfl, iteF ?_⟩
      refine ⟨_, rfl, .int x, .ty "bool", .type "int", .type "bool", false, rfl, .ty _, .base (.int x), kit_ty (by decide +kernel), _, rfl, .int x, .ty "bool", .type "int", .type "bool", false, rfl, .ty _, .base (.int x), kit_ty (by decide +kernel), rfl, _, rfl, iteNS rfl ?_⟩
      refine ⟨_, rfl, .int x, .ty "int", .type "int", .type "int", true, rfl, .ty _, .base (.int x), kit_ty (by decide +kernel), _, rfl, .int x, .ty "int", .type "int", .type "int", true, rfl, .ty _, .base (.int x), kit_ty (by decide +kernel), rfl, _, rfl, iteNS rfl ?_⟩
      refine ⟨_, rfl, .int x, .ty "str", .type "int", .type "str", false, rfl, .ty _, .base (.int x), kit_ty (by decide +kernel), _, rfl, .int x, .ty "str", .type "int", .type "str", false, rfl, .ty _, .base (.int x), kit_ty (by decide +kernel), rfl, _, rfl, iteNS rfl ?_⟩
      exact ⟨_, rfl, _, rfl, rfl, by rw [decide_eq_true rfl]; exact q⟩
    · refine ⟨_, rfl, .non, .ty "tuple", .type "NoneType", .type "tuple", false, rfl, .ty _, .base (.non), kit_ty (by decide +kernel), _, rfl, iteF ?_⟩
      refine ⟨_, rfl, .non, .ty "list", .type "NoneType", .type "list", false, rfl, .ty _, .base (.non), kit_ty (by decide +kernel), _, rfl, iteF ?_⟩
      refine ⟨_, rfl, .non, .ty "bool", .type "NoneType", .type "bool", false, rfl, .ty _, .base (.non), kit_ty (by decide +kernel), _, rfl, .non, .ty "bool", .type "NoneType", .type "bool", false, rfl, .ty _, .base (.non), kit_ty (by decide +kernel), rfl, _, rfl, iteNS rfl ?_⟩
      refine ⟨_, rfl, .non, .ty "int", .type "NoneType", .type "int", false, rfl, .ty _, .base (.non), kit_ty (by decide +kernel), _, rfl, .non, .ty "int", .type "NoneType", .type "int", false, rfl, .ty _, .base (.non), kit_ty (by decide +kernel), rfl, _, rfl, iteNS rfl ?_⟩
      refine ⟨_, rfl, .non, .ty "str", .type "NoneType", .type "str", false, rfl, .ty _, .base (.non), kit_ty (by decide +kernel), _, rfl, .non, .ty "str", .type "NoneType", .type "str", false, rfl, .ty _, .base (.non), kit_ty (by decide +kernel), rfl, _, rfl, iteNS rfl ?_⟩
      exact ⟨_, rfl, _, rfl, rfl, q⟩
theorem ok_likeS {n : Nat} (T : Tx K mg) (IH : FnOk P w K mg base CX0 (n + 1) T.a_llike T.d_llike P_llike (spLikeD n)) : FnOk P w K mg base CX0 (n + 2) T.a_llike T.d_llike P_llike (fun vs H Q _ => ∃ (f g : Addr) (xs ys : List V), vs = [.ref f, .ref g] ∧ (H f = some (.tup xs) ∧ H g = some (.tup ys)) ∧ ys.length = xs.length ∧ xs.length ≤ 1000 ∧
      (∀ (i : Nat) (x y : V), xs[i]? = some x → ys[i]? = some y → LkD n H x y) ∧ ∀ H', Same H H' → Q (.bl true) H') := by
  refine T.F_llike.ok sc_llike (fun vs H Q E h => ?_) (fun cdv A outer s H vs Q E hr h => ?_)
  · obtain ⟨f, g, xs, ys, rfl, _⟩ := h
    rfl
  · obtain ⟨f, g, xs, ys, rfl, ⟨hf, hg⟩, hl, h1000, ht, q⟩ := h
    have nd := sc_llike.nd
    refine ⟨_, pss_cons (ps_if (PW.pt (pw_or (pt_val (pe_callB call_isi (by rfl) T.z_isinstance (by decide +kernel) (pa_cons (pv 1) (pa_cons (pe_bltn (v := .ty "tuple") (u := .type "tuple") (by rfl) T.z_tuple (by decide +kernel) rfl) pa_nil))))
        (pw_or1 (pt_val (pe_callB call_isi (by rfl) T.z_isinstance (by decide +kernel) (pa_cons (pv 1) (pa_cons (pe_bltn (v := .ty "list") (u := .type "list") (by rfl) T.z_list (by decide +kernel) rfl) pa_nil)))))))
        (pss_cons (ps_if (pt_cmpR op_ne (pe_callB call_isi (by rfl) T.z_isinstance (by decide +kernel) (pa_cons (pv 0) (pa_cons (pe_bltn (v := .ty "tuple") (u := .type "tuple") (by rfl) T.z_tuple (by decide +kernel) rfl) pa_nil)))
          (pe_callB call_isi (by rfl) T.z_isinstance (by decide +kernel) (pa_cons (pv 1) (pa_cons (pe_bltn (v := .ty "tuple") (u := .type "tuple") (by rfl) T.z_tuple (by decide +kernel) rfl) pa_nil))) (nomark _)) (pss_one (ps_ret pe_bl)) pss_nil)
        (pss_cons (ps_if (PW.pt (pw_or (pt_cmpR op_ne (pe_callB call_isi (by rfl) T.z_isinstance (by decide +kernel) (pa_cons (pv 0) (pa_cons (pe_bltn (v := .ty "list") (u := .type "list") (by rfl) T.z_list (by decide +kernel) rfl) pa_nil)))
          (pe_callB call_isi (by rfl) T.z_isinstance (by decide +kernel) (pa_cons (pv 1) (pa_cons (pe_bltn (v := .ty "list") (u := .type "list") (by rfl) T.z_list (by decide +kernel) rfl) pa_nil))) (nomark _))
          (pw_or1 (pt_cmpR op_ne (pe_callB call_len_seq (by rfl) T.z_len PySem.boot_len (pa_cons (pv 0) pa_nil)) (pe_callB call_len_seq (by rfl) T.z_len PySem.boot_len (pa_cons (pv 1) pa_nil)) (nomark _))))) (pss_one (ps_ret pe_bl)) pss_nil)
        (pss_one (ps_ret (pe_cmpR (op_eqD hr.units) (pe_lc (own := [("_law_k", 2)]) rfl nd (pi_range1 (by rfl) T.z_range (pa_cons (pe_callB call_len_seq (by rfl) T.z_len PySem.boot_len (pa_cons (pv 1) pa_nil)) pa_nil)) (blkOk_by (N := N_llike) (sc := defScope s_llike) (by decide +kernel))
          (fun _ _ _ _ _ => pg_name (i := 2) nd rfl (.inl rfl))
          (fun _ _ _ _ _ => pts_one (pt_not (pt_val (pe_call (IH) hr (by rfl) T.g_llike T.F_llike.kp T.b_llike .nil pass0 (pa_cons (pe_ix (r := rIxT K) ix_tup (pv 0) (pv 2) (fun _ _ => rfl)) (pa_cons (pe_ix (r := rIxT K) ix_tup (pv 1) (pv 2) (fun _ _ => rfl)) pa_nil))))))
          (fun _ _ _ _ _ => pv 2)) (pe_lst pa_nil) (nomark _)))))) pss_nil) pss_never, ?_⟩
    refine ⟨_, rfl, .ref g, .ty "tuple", .type "tuple", .type "tuple", true, rfl, .ty _, .base (.tup hg), kit_ty (by decide +kernel), _, rfl, iteT ?_⟩
    refine ⟨_, rfl, .ref f, .ty "tuple", .type "tuple", .type "tuple", true, rfl, .ty _, .base (.tup hf), kit_ty (by decide +kernel), _, rfl, .ref g, .ty "tuple", .type "tuple", .type "tuple", true, rfl, .ty _, .base (.tup hg), kit_ty (by decide +kernel), rfl, _, rfl, iteNS rfl ?_⟩
    refine ⟨_, rfl, .ref f, .ty "list", .type "tuple", .type "list", false, rfl, .ty _, .base (.tup hf), kit_ty (by decide +kernel), _, rfl, .ref g, .ty "list", .type "tuple", .type "list", false, rfl, .ty _, .base (.tup hg), kit_ty (by decide +kernel), rfl, _, rfl, iteNS rfl ?_⟩
    refine ⟨_, rfl, f, _, rfl, .inr (.of hf), _, rfl, g, _, rfl, .inr (.of hg), rfl, _, rfl, iteNS (by rw [hl]) ?_⟩
    refine ⟨_, rfl, g, _, rfl, .inr (.of hg), _, rfl, by omega, by omega, fun D hD => lc_range (lo := 0) (n := (((ys.length : Nat) : Int)).toNat) (fun i H' => H' D = some (.lst []) ∧ Same H H') ⟨upd_same, same_upd hD⟩ ?_ ?_⟩
    · rintro i H1 hi ⟨h1, s1⟩
      have hi' : i < xs.length := by omega
      have hi2 : i < ys.length := by omega
      refine ⟨rfl, ?_⟩
      refine ⟨_, rfl, _, rfl, f, _, _, _, rfl, rfl, sq_same s1 hf, at_of (j := i) (by omega) (List.getElem?_eq_getElem hi'), _, rfl, _, rfl, g, _, _, _, rfl, rfl, sq_same s1 hg, at_of (j := i) (by omega) (List.getElem?_eq_getElem hi2), _, _, rfl, (ht i _ _ (List.getElem?_eq_getElem hi') (List.getElem?_eq_getElem hi2)).same s1, fun H2 s2 => ⟨_, rfl, ?_⟩⟩
      exact iteF ⟨s2 _ _ h1, s1.trans s2⟩
    · rintro H1 ⟨h1, s1⟩
      refine ⟨Nat.zero_le _, fun e he => ?_⟩
      have s2 := same_upd (o := .lst []) he
      exact ⟨.list [], .list [], .lst (.of (s2 _ _ h1)) .nil, .lst (.of upd_same) .nil, rfl, rfl, q _ (s1.trans s2)⟩
theorem ok_likeSL {n : Nat} (T : Tx K mg) (IH : FnOk P w K mg base CX0 (n + 1) T.a_llike T.d_llike P_llike (spLikeD n)) : FnOk P w K mg base CX0 (n + 2) T.a_llike T.d_llike P_llike (fun vs H Q _ => ∃ (f g : Addr) (xs ys : List V), vs = [.ref f, .ref g] ∧ (H f = some (.lst xs) ∧ H g = some (.lst ys)) ∧ ys.length = xs.length ∧ xs.length ≤ 1000 ∧
      (∀ (i : Nat) (x y : V), xs[i]? = some x → ys[i]? = some y → LkD n H x y) ∧ ∀ H', Same H H' → Q (.bl true) H') := by
  refine T.F_llike.ok sc_llike (fun vs H Q E h => ?_) (fun cdv A outer s H vs Q E hr h => ?_)
  · obtain ⟨f, g, xs, ys, rfl, _⟩ := h
    rfl
  · obtain ⟨f, g, xs, ys, rfl, ⟨hf, hg⟩, hl, h1000, ht, q⟩ := h
    have nd := sc_llike.nd
    refine ⟨_, pss_cons (ps_if (PW.pt (pw_or (pt_val (pe_callB call_isi (by rfl) T.z_isinstance (by decide +kernel) (pa_cons (pv 1) (pa_cons (pe_bltn (v := .ty "tuple") (u := .type "tuple") (by rfl) T.z_tuple (by decide +kernel) rfl) pa_nil))))
        (pw_or1 (pt_val (pe_callB call_isi (by rfl) T.z_isinstance (by decide +kernel) (pa_cons (pv 1) (pa_cons (pe_bltn (v := .ty "list") (u := .type "list") (by rfl) T.z_list (by decide +kernel) rfl) pa_nil)))))))
        (pss_cons (ps_if (pt_cmpR op_ne (pe_callB call_isi (by rfl) T.z_isinstance (by decide +kernel) (pa_cons (pv 0) (pa_cons (pe_bltn (v := .ty "tuple") (u := .type "tuple") (by rfl) T.z_tuple (by decide +kernel) rfl) pa_nil)))
          (pe_callB call_isi (by rfl) T.z_isinstance (by decide +kernel) (pa_cons (pv 1) (pa_cons (pe_bltn (v := .ty "tuple") (u := .type "tuple") (by rfl) T.z_tuple (by decide +kernel) rfl) pa_nil))) (nomark _)) (pss_one (ps_ret pe_bl)) pss_nil)
        (pss_cons (ps_if (PW.pt (pw_or (pt_cmpR op_ne (pe_callB call_isi (by rfl) T.z_isinstance (by decide +kernel) (pa_cons (pv 0) (pa_cons (pe_bltn (v := .ty "list") (u := .type "list") (by rfl) T.z_list (by decide +kernel) rfl) pa_nil)))
          (pe_callB call_isi (by rfl) T.z_isinstance (by decide +kernel) (pa_cons (pv 1) (pa_cons (pe_bltn (v := .ty "list") (u := .type "list") (by rfl) T.z_list (by decide +kernel) rfl) pa_nil))) (nomark _))
          (pw_or1 (pt_cmpR op_ne (pe_callB call_len_seq (by rfl) T.z_len PySem.boot_len (pa_cons (pv 0) pa_nil)) (pe_callB call_len_seq (by rfl) T.z_len PySem.boot_len (pa_cons (pv 1) pa_nil)) (nomark _))))) (pss_one (ps_ret pe_bl)) pss_nil)
        (pss_one (ps_ret (pe_cmpR (op_eqD hr.units) (pe_lc (own := [("_law_k", 2)]) rfl nd (pi_range1 (by rfl) T.z_range (pa_cons (pe_callB call_len_seq (by rfl) T.z_len PySem.boot_len (pa_cons (pv 1) pa_nil)) pa_nil)) (blkOk_by (N := N_llike) (sc := defScope s_llike) (by decide +kernel))
          (fun _ _ _ _ _ => pg_name (i := 2) nd rfl (.inl rfl))
          (fun _ _ _ _ _ => pts_one (pt_not (pt_val (pe_call (IH) hr (by rfl) T.g_llike T.F_llike.kp T.b_llike .nil pass0 (pa_cons (pe_ix (r := rIxL K) ix_list (pv 0) (pv 2) (fun _ _ => rfl)) (pa_cons (pe_ix (r := rIxL K) ix_list (pv 1) (pv 2) (fun _ _ => rfl)) pa_nil))))))
          (fun _ _ _ _ _ => pv 2)) (pe_lst pa_nil) (nomark _)))))) pss_nil) pss_never, ?_⟩
    refine ⟨_, rfl, .ref g, .ty "tuple", .type "list", .type "tuple", false, rfl, .ty _, .base (.lst hg), kit_ty (by decide +kernel), _, rfl, iteF ?_⟩
    refine ⟨_, rfl, .ref g, .ty "list", .type "list", .type "list", true, rfl, .ty _, .base (.lst hg), kit_ty (by decide +kernel), _, rfl, iteT ?_⟩
    refine ⟨_, rfl, .ref f, .ty "tuple", .type "list", .type "tuple", false, rfl, .ty _, .base (.lst hf), kit_ty (by decide +kernel), _, rfl, .ref g, .ty "tuple", .type "list", .type "tuple", false, rfl, .ty _, .base (.lst hg), kit_ty (by decide +kernel), rfl, _, rfl, iteNS rfl ?_⟩
    refine ⟨_, rfl, .ref f, .ty "list", .type "list", .type "list", true, rfl, .ty _, .base (.lst hf), kit_ty (by decide +kernel), _, rfl, .ref g, .ty "list", .type "list", .type "list", true, rfl, .ty _, .base (.lst hg), kit_ty (by decide +kernel), rfl, _, rfl, iteNS rfl ?_⟩
    refine ⟨_, rfl, f, _, rfl, .inl (.of hf), _, rfl, g, _, rfl, .inl (.of hg), rfl, _, rfl, iteNS (by rw [hl]) ?_⟩
    refine ⟨_, rfl, g, _, rfl, .inl (.of hg), _, rfl, by omega, by omega, fun D hD => lc_range (lo := 0) (n := (((ys.length : Nat) : Int)).toNat) (fun i H' => H' D = some (.lst []) ∧ Same H H') ⟨upd_same, same_upd hD⟩ ?_ ?_⟩
    · rintro i H1 hi ⟨h1, s1⟩
      have hi' : i < xs.length := by omega
      have hi2 : i < ys.length := by omega
      refine ⟨rfl, ?_⟩
      refine ⟨_, rfl, _, rfl, f, _, _, _, rfl, rfl, .of (s1 _ _ hf), at_of (j := i) (by omega) (List.getElem?_eq_getElem hi'), _, rfl, _, rfl, g, _, _, _, rfl, rfl, .of (s1 _ _ hg), at_of (j := i) (by omega) (List.getElem?_eq_getElem hi2), _, _, rfl, (ht i _ _ (List.getElem?_eq_getElem hi') (List.getElem?_eq_getElem hi2)).same s1, fun H2 s2 => ⟨_, rfl, ?_⟩⟩
      exact iteF ⟨s2 _ _ h1, s1.trans s2⟩
    · rintro H1 ⟨h1, s1⟩
      refine ⟨Nat.zero_le _, fun e he => ?_⟩
      have s2 := same_upd (o := .lst []) he
      exact ⟨.list [], .list [], .lst (.of (s2 _ _ h1)) .nil, .lst (.of upd_same) .nil, rfl, rfl, q _ (s1.trans s2)⟩
theorem ok_likeD (T : Tx K mg) : ∀ n : Nat, FnOk P w K mg base CX0 (n + 1) T.a_llike T.d_llike P_llike (spLikeD n)
  | 0 => ok_like0 T
  | n + 1 => by
    have IH := ok_likeD T n
    have h0 := IH.mono (show n + 1 ≤ n + 2 by omega)
    have hT := ok_likeS T IH
    have hL := ok_likeSL T IH
    refine ⟨fun vs H Q E h => ?_, fun A outer s H args us vs Q E hr e b r h => ?_⟩
    · obtain ⟨v, y, rfl, _⟩ := h
      rfl
    · obtain ⟨v, y, rfl, hv, q⟩ := h
      rcases hv with hv | ⟨f, g, xs, ys, rfl, rfl, ho | ho, hl, h1, ht⟩
      · exact h0.run A outer s H args us _ Q E hr e b r ⟨v, y, rfl, hv, q⟩
      · exact hT.run A outer s H args us _ Q E hr e b r ⟨f, g, xs, ys, rfl, ho, hl, h1, ht, q⟩
      · exact hL.run A outer s H args us _ Q E hr e b r ⟨f, g, xs, ys, rfl, ho, hl, h1, ht, q⟩
end
end Rp
namespace Rp
open PySem PySem.Spec PyProof.Rows L2 Rz Rm
/-! ### which book, when it came -/
section
variable {ds ss : List Int} {M : Int} (RR : Rm.Ring ds.length (at' ds) (at' ss) ss.sum ds.sum M) (hl : ss.length = ds.length)
include RR hl
theorem bk_ex (k : Int) {q : Int} (q0 : 0 ≤ q) (q1 : q < ss.sum) : ∃ v, Bk ss k q v := by
  have go : ∀ n : Nat, n ≤ ss.length → q < sumBack (at' ss) k n → ∃ v, Bk ss k q v := by
    intro n
    induction n with
    | zero => intro _ h; exact absurd h (by show ¬ q < 0; omega)
    | succ n ih =>
      intro hn h
      by_cases hh : q < sumBack (at' ss) k n
      · exact ih (by omega) hh
      · exact ⟨_, n, by omega, by omega, h, rfl⟩
  refine go ss.length (Nat.le_refl _) ?_
  rw [hl, RR.b]
  exact q1
end
noncomputable def bk (ss : List Int) (k n : Int) : Int := open Classical in if h : ∃ v, Bk ss k (n % ss.sum) v then Classical.choose h else 0
noncomputable def cm (ds ss : List Int) (k n : Int) : Int := if n < at' ss k then 0 else Rm.E (at' ds) (at' ss) (k - 1) (n - at' ss k)
section
variable {ds ss : List Int} {M : Int} (RR : Rm.Ring ds.length (at' ds) (at' ss) ss.sum ds.sum M) (hl : ss.length = ds.length)
include RR hl
theorem bk_is (k n : Int) : Bk ss k (n % ss.sum) (bk ss k n) := by
  have hB := RR.b1
  have h := bk_ex RR hl k (q := n % ss.sum) (Int.emod_nonneg _ (by omega)) (Int.emod_lt_of_pos _ (by omega))
  unfold bk
  rw [dif_pos h]
  exact Classical.choose_spec h
theorem bk_of {k n v : Int} (h : Bk ss k (n % ss.sum) v) : bk ss k n = v := (bk_is RR hl k n).inj RR.s0 h
theorem s_le (k : Int) : at' ss k ≤ ss.sum := by
  have hN := RR.pos
  have h := sum_mono RR.s0 k (show 1 ≤ ds.length by omega)
  rw [RR.b] at h
  have e : sumBack (at' ss) k 1 = at' ss k := by
    show 0 + at' ss (k - (0 : Nat)) = _
    rw [show k - ((0 : Nat) : Int) = k by omega]
    omega
  omega
theorem bk_first {k : Nat} (hk : k < ds.length) {n : Int} (n0 : 0 ≤ n) (n1 : n < at' ss k) : bk ss k n = (ss.take k).sum + n := by
  have h1 := s_le RR hl k
  refine bk_of RR hl ⟨0, by omega, ?_, ?_, ?_⟩
  · show (0 : Int) ≤ _
    exact Int.emod_nonneg _ (by have := RR.b1; omega)
  · rw [Int.emod_eq_of_lt n0 (by omega)]
    show n < 0 + at' ss ((k : Int) - (0 : Nat))
    rw [show (k : Int) - ((0 : Nat) : Int) = k by omega]
    omega
  · rw [Int.emod_eq_of_lt n0 (by omega), show (k : Int) - ((0 : Nat) : Int) = k by omega, Int.emod_eq_of_lt (by omega) (by omega), Int.toNat_natCast]
    show _ = _ + (n - 0)
    omega
theorem bk_rec (k : Int) {n : Int} (h : at' ss k ≤ n) : bk ss k n = bk ss (k - 1) (n - at' ss k) := by
  have hB := RR.b1
  have hs0 := RR.s0 k
  have hsB := s_le RR hl k
  have hN := RR.pos
  symm
  apply bk_of RR hl
  have q0 : 0 ≤ n % ss.sum := Int.emod_nonneg _ (by omega)
  have q1 : n % ss.sum < ss.sum := Int.emod_lt_of_pos _ (by omega)
  have hdm := Int.emod_add_mul_ediv n ss.sum
  obtain ⟨i, hi, a1, a2, a3⟩ := bk_is RR hl k n
  have hf : ∀ j : Nat, sumBack (at' ss) k (j + 1) = at' ss k + sumBack (at' ss) (k - 1) j := fun j => sum_front (at' ss) j k
  by_cases hq : at' ss k ≤ n % ss.sum
  · have hi0 : i ≠ 0 := fun e => by
      subst e
      have := hf 0
      have e0 : sumBack (at' ss) (k - 1) 0 = 0 := rfl
      have : sumBack (at' ss) k (0 + 1) = sumBack (at' ss) k 1 := rfl
      omega
    obtain ⟨i', rfl⟩ : ∃ i', i = i' + 1 := ⟨i - 1, by omega⟩
    have em : (n - at' ss k) % ss.sum = n % ss.sum - at' ss k := by
      have e1 : n - at' ss k = (n % ss.sum - at' ss k) + ss.sum * (n / ss.sum) := by omega
      rw [e1, Int.add_mul_emod_self_left, Int.emod_eq_of_lt (by omega) (by omega)]
    have h1 := hf i'
    have h2 := hf (i' + 1)
    refine ⟨i', by omega, by omega, by omega, ?_⟩
    rw [em, a3, show k - 1 - (i' : Int) = k - ((i' + 1 : Nat) : Int) by omega]
    omega
  · have hi0 : i = 0 := by
      rcases Nat.eq_zero_or_pos i with z | z
      · exact z
      · have := sum_mono RR.s0 k (show 1 ≤ i by omega)
        have h1 := hf 0
        have e0 : sumBack (at' ss) (k - 1) 0 = 0 := rfl
        have : sumBack (at' ss) k (0 + 1) = sumBack (at' ss) k 1 := rfl
        omega
    subst hi0
    have hdiv : 1 ≤ n / ss.sum := by
      rcases Int.lt_or_le (n / ss.sum) 1 with z | z
      · have : ss.sum * (n / ss.sum) ≤ 0 := Int.mul_nonpos_of_nonneg_of_nonpos (by omega) (by omega)
        omega
      · exact z
    have em : (n - at' ss k) % ss.sum = n % ss.sum - at' ss k + ss.sum := by
      have e1 : n - at' ss k = (n % ss.sum - at' ss k + ss.sum) + ss.sum * (n / ss.sum - 1) := by
        rw [Int.mul_sub]
        omega
      rw [e1, Int.add_mul_emod_self_left, Int.emod_eq_of_lt (by omega) (by omega)]
    have hlast : sumBack (at' ss) (k - 1) (ds.length - 1 + 1) = sumBack (at' ss) (k - 1) (ds.length - 1) + at' ss (k - 1 - (ds.length - 1 : Nat)) := rfl
    rw [show ds.length - 1 + 1 = ds.length by omega, RR.b] at hlast
    have hper := RR.sper (k - ds.length) 1
    rw [show k - (ds.length : Int) + ds.length * 1 = k by omega] at hper
    rw [show k - 1 - ((ds.length - 1 : Nat) : Int) = k - ds.length by omega, ← hper] at hlast
    have hfull : sumBack (at' ss) (k - 1) (ds.length - 1 + 1) = ss.sum := by
      rw [show ds.length - 1 + 1 = ds.length by omega, RR.b]
    refine ⟨ds.length - 1, by omega, by omega, by omega, ?_⟩
    have ek : (k - 1 - ((ds.length - 1 : Nat) : Int)) % (ss.length : Int) = (k - (0 : Nat)) % (ss.length : Int) := by
      rw [show k - 1 - ((ds.length - 1 : Nat) : Int) = k + (ss.length : Int) * (-1) by omega, Int.add_mul_emod_self_left, show k - ((0 : Nat) : Int) = k by omega]
    rw [em, ek, a3]
    have e0 : sumBack (at' ss) k 0 = 0 := rfl
    omega
theorem bk_per (k t n : Int) : bk ss (k + ds.length * t) n = bk ss k n := by
  have hS : ∀ i, sumBack (at' ss) (k + ds.length * t) i = sumBack (at' ss) k i := by
    intro i
    induction i with
    | zero => rfl
    | succ i ih =>
      show sumBack (at' ss) (k + ds.length * t) i + at' ss (k + ds.length * t - i) = sumBack (at' ss) k i + at' ss (k - i)
      rw [ih, show k + ds.length * t - (i : Int) = (k - i) + ds.length * t by omega, RR.sper]
  apply bk_of RR hl
  obtain ⟨i, hi, a1, a2, a3⟩ := bk_is RR hl k n
  refine ⟨i, hi, by rw [hS]; exact a1, by rw [hS]; exact a2, ?_⟩
  rw [hS, a3, show k + ds.length * t - (i : Int) = (k - i) + ss.length * t by rw [hl]; omega, Int.add_mul_emod_self_left]
end
/-! ### what lies in heaps, on lists -/
/-- f b, f (b + 1), .. below c -/
def seg (f : Int → List Int) (b c : Int) : List (List Int) := (List.range (c - b).toNat).map fun (i : Nat) => f (b + (i : Int))
theorem seg_nil {f : Int → List Int} {b c : Int} (h : c ≤ b) : seg f b c = [] := by
  unfold seg
  rw [show (c - b).toNat = 0 by omega]
  rfl
theorem seg_snoc {f : Int → List Int} {b c : Int} (h : b ≤ c) : seg f b (c + 1) = seg f b c ++ [f c] := by
  unfold seg
  rw [show (c + 1 - b).toNat = (c - b).toNat + 1 by omega, List.range_succ, List.map_append]
  show _ ++ [f (b + ((c - b).toNat : Int))] = _
  rw [show b + ((c - b).toNat : Int) = c by omega]
theorem seg_cons {f : Int → List Int} {b c : Int} (h : b < c) : seg f b c = f b :: seg f (b + 1) c := by
  unfold seg
  rw [show (c - b).toNat = (c - (b + 1)).toNat + 1 by omega, List.range_succ_eq_map, List.map_cons, List.map_map, show b + ((0 : Nat) : Int) = b by omega]
  congr 1
  apply List.map_congr_left
  intro i _
  show f (b + ((i + 1 : Nat) : Int)) = f (b + 1 + (i : Int))
  rw [show b + ((i + 1 : Nat) : Int) = b + 1 + (i : Int) by omega]
theorem seg_length (f : Int → List Int) (b c : Int) : (seg f b c).length = (c - b).toNat := by
  unfold seg
  rw [List.length_map, List.length_range]
theorem seg_get {f : Int → List Int} {b c : Int} {i : Nat} (h : i < (c - b).toNat) : (seg f b c)[i]? = some (f (b + i)) := by
  unfold seg
  rw [List.getElem?_map, List.getElem?_range h]
  rfl
/-- tuples of ints at addresses -/
def Tups (H : Hp) : List V → List (List Int) → Prop := Paired fun v l => ∃ t, v = V.ref t ∧ H t = some (.tup (l.map V.int))
theorem Tups.snoc {H : Hp} {v : V} {l : List Int} (h2 : ∃ t, v = V.ref t ∧ H t = some (.tup (l.map V.int))) : ∀ {xs : List V} {ls : List (List Int)}, Tups H xs ls → Tups H (xs ++ [v]) (ls ++ [l])
  | _, _, .nil => .cons h2 .nil
  | _, _, .cons r t => .cons r (Tups.snoc h2 t)
theorem Tups.mono {H H' : Hp} (k : ∀ b xs, H b = some (.tup xs) → H' b = some (.tup xs)) : ∀ {xs : List V} {ls : List (List Int)}, Tups H xs ls → Tups H' xs ls
  | _, _, .nil => .nil
  | _, _, .cons ⟨t, e, h⟩ r => .cons ⟨t, e, k _ _ h⟩ (Tups.mono k r)
theorem Tups.length {H : Hp} {xs : List V} {ls : List (List Int)} (h : Tups H xs ls) : xs.length = ls.length := Paired.length h
theorem Tups.get {H : Hp} : ∀ {xs : List V} {ls : List (List Int)} {i : Nat} {l : List Int}, Tups H xs ls → ls[i]? = some l → ∃ t, xs[i]? = some (.ref t) ∧ H t = some (.tup (l.map V.int))
  | _, _, i, l, .nil, h => by simp at h
  | _, _, 0, l, .cons ⟨t, e, h2⟩ r, h => by
    simp at h
    subst h
    exact ⟨t, by rw [e]; rfl, h2⟩
  | _, _, i + 1, l, .cons _ r, h => by
    obtain ⟨t, h1, h2⟩ := Tups.get (i := i) (l := l) r (by simpa using h)
    exact ⟨t, by simpa using h1, h2⟩
/-- as data, for == -/
theorem dp_is {K : PySem.W.Frag} {H : Hp} : ∀ l : List Int, DpAll K H (l.map V.int) (l.map PyData.int)
  | [] => .nil
  | x :: r => .cons (.int x) (dp_is r)
theorem Tups.data {K : PySem.W.Frag} {H : Hp} : ∀ {xs : List V} {ls : List (List Int)}, Tups H xs ls → DpAll K H xs (ls.map fun l => PyData.tuple (l.map PyData.int))
  | _, _, .nil => .nil
  | _, _, .cons ⟨t, e, h⟩ r => .cons (by subst e; exact .tup (.of h) (dp_is _)) (Tups.data r)
theorem lay_tups : ∀ ls : List (List Int), PyData.canLayAll0 (ls.map fun l => PyData.tuple (l.map PyData.int)) = true ∧ PyData.depthAll (ls.map fun l => PyData.tuple (l.map PyData.int)) ≤ 1
  | [] => ⟨rfl, Nat.zero_le _⟩
  | l :: r => by
    obtain ⟨h1, h2⟩ := lay_tups r
    constructor
    · simp [PyData.canLayAll0, PyData.canLay0, PySem.W.ke_canLayAll0 l, h1]
    · simp only [List.map_cons, PyData.depthAll, PyData.depth, PySem.W.ke_depthAll l]
      omega
theorem shaped_tups (ls : List (List Int)) : SeqAt.shaped (.list (ls.map fun l => PyData.tuple (l.map PyData.int))) = true := by
  obtain ⟨h1, h2⟩ := lay_tups ls
  simp only [SeqAt.shaped, PyData.canLay0, PyData.depth, h1, Bool.true_and]
  exact decide_eq_true (by omega)
end Rp
namespace Rp
open PySem PySem.Spec PyProof.Rows L2 Rz Rm
def nx (N j : Nat) : Nat := if j + 1 = N then 0 else j + 1
def prv (N j : Nat) : Nat := if j = 0 then N - 1 else j - 1
theorem nx_lt {N j : Nat} (h : j < N) : nx N j < N := by
  unfold nx
  split <;> omega
theorem prv_lt {N j : Nat} (h : j < N) : prv N j < N := by
  unfold prv
  split <;> omega
theorem prv_nx {N j : Nat} (h : j < N) : prv N (nx N j) = j := by
  unfold prv nx
  split <;> split <;> omega
theorem prv_inj {N i j : Nat} (hi : i < N) (hj : j < N) (h : prv N i = j) : i = nx N j := by
  unfold prv at h
  unfold nx
  split at h <;> split <;> omega
theorem nx_mod {N j : Nat} (h : j < N) : ((j : Int) + 1) % (N : Int) = (nx N j : Int) := by
  unfold nx
  split
  · rename_i e
    rw [show (j : Int) + 1 = N by omega, Int.emod_self]
    rfl
  · rw [Int.emod_eq_of_lt (by omega) (by omega)]
    omega
noncomputable def item (ds ss : List Int) (j n : Int) : List Int := [bk ss j n, cm ds ss j n]
noncomputable def rowOf (ds ss : List Int) (j n : Int) : List Int := [Rm.E (at' ds) (at' ss) j n - at' ds j, Rm.E (at' ds) (at' ss) j n, bk ss j n, cm ds ss j n]
/-- the ends, counts of the reader before, by its index -/
theorem E_prv {ds ss : List Int} {M : Int} (RR : Rm.Ring ds.length (at' ds) (at' ss) ss.sum ds.sum M) {j : Nat} (hj : j < ds.length) (x : Int) : Rm.E (at' ds) (at' ss) (prv ds.length j : Nat) x = Rm.E (at' ds) (at' ss) ((j : Int) - 1) x := by
  unfold prv
  split
  · rename_i e
    have h := RR.E_per ((j : Int) - 1) x 1
    rw [show (j : Int) - 1 + ds.length * 1 = ((ds.length - 1 : Nat) : Int) by omega] at h
    exact h
  · rw [show ((j - 1 : Nat) : Int) = (j : Int) - 1 by omega]
theorem Cn_prv {ds ss : List Int} {M : Int} (RR : Rm.Ring ds.length (at' ds) (at' ss) ss.sum ds.sum M) {j : Nat} (hj : j < ds.length) (x : Int) : Cn (at' ds) (at' ss) (prv ds.length j : Nat) x = Cn (at' ds) (at' ss) ((j : Int) - 1) x := by
  unfold prv
  split
  · rename_i e
    have h := RR.cn_per ((j : Int) - 1) x 1
    rw [show (j : Int) - 1 + ds.length * 1 = ((ds.length - 1 : Nat) : Int) by omega] at h
    exact h
  · rw [show ((j - 1 : Nat) : Int) = (j : Int) - 1 by omega]
theorem item_next {ds ss : List Int} {M : Int} (RR : Rm.Ring ds.length (at' ds) (at' ss) ss.sum ds.sum M) (hl : ss.length = ds.length) {j : Nat} (hj : j < ds.length) {n : Int} (n0 : 0 ≤ n) :
    item ds ss (nx ds.length j : Nat) (at' ss (nx ds.length j : Nat) + n) = [bk ss j n, Rm.E (at' ds) (at' ss) j n] := by
  have hb := bk_rec RR hl (nx ds.length j : Nat) (n := at' ss (nx ds.length j : Nat) + n) (by omega)
  rw [show at' ss (nx ds.length j : Nat) + n - at' ss (nx ds.length j : Nat) = n by omega] at hb
  have hp := E_prv RR (nx_lt hj) n
  rw [prv_nx hj] at hp
  have hbp : bk ss (((nx ds.length j : Nat) : Int) - 1) n = bk ss j n := by
    unfold nx
    split
    · rename_i e
      have h := bk_per RR hl (((0 : Nat) : Int) - 1) 1 n
      rw [show ((0 : Nat) : Int) - 1 + ds.length * 1 = j by omega] at h
      exact h.symm
    · rw [show ((j + 1 : Nat) : Int) - 1 = j by omega]
  unfold item cm
  rw [if_neg (by omega), hb, hbp, show at' ss (nx ds.length j : Nat) + n - at' ss (nx ds.length j : Nat) = n by omega, hp]
/-- where the play's lists stand: apart, and new -/
structure Ad (H0 : Hp) (N : Nat) (hl rd rl sl : Addr) (ha ra : List Addr) : Prop where
  f1 : H0 hl = none
  f2 : H0 rd = none
  f3 : H0 rl = none
  f4 : H0 sl = none
  fh : ∀ a ∈ ha, H0 a = none
  fr : ∀ a ∈ ra, H0 a = none
  n1 : hl ≠ rd
  n2 : hl ≠ rl
  n3 : hl ≠ sl
  n4 : rd ≠ rl
  n5 : rd ≠ sl
  n6 : rl ≠ sl
  nh : ∀ a ∈ ha, a ≠ hl ∧ a ≠ rd ∧ a ≠ rl ∧ a ≠ sl
  nr : ∀ a ∈ ra, a ≠ hl ∧ a ≠ rd ∧ a ≠ rl ∧ a ≠ sl
  nhr : ∀ a ∈ ha, ∀ c ∈ ra, a ≠ c
  dh : ha.Nodup
  dr : ra.Nodup
  lh : ha.length = N
  lr : ra.length = N
/-- what a reader is reading -/
def RdOk (H : Hp) (ds ss : List Int) (v : V) (j : Int) (b e : Int) : Prop := (v = .non ∧ b = e) ∨ (∃ t, v = .ref t ∧ H t = some (.tup [.int (Rm.E (at' ds) (at' ss) j e), .int (bk ss j e)]) ∧ b = e + 1)
/-- the play: so many readings of each reader have begun, so many have ended -/
structure Sim (ds ss : List Int) (H0 H : Hp) (hl rd rl sl : Addr) (ha ra : List Addr) (b e : Nat → Int) : Prop where
  sm : Same H0 H
  ohl : H hl = some (.lst (ha.map V.ref))
  orl : H rl = some (.lst (ra.map V.ref))
  oh : ∀ (j : Nat) (a : Addr), ha[j]? = some a → ∃ xs, H a = some (.lst xs) ∧ Tups H xs (seg (item ds ss j) (b j) (at' ss j + e (prv ds.length j)))
  orr : ∀ (j : Nat) (a : Addr), ra[j]? = some a → ∃ xs, H a = some (.lst xs) ∧ Tups H xs (seg (rowOf ds ss j) 0 (b j))
  ord : ∃ vs, H rd = some (.lst vs) ∧ vs.length = ds.length ∧ ∀ j, j < ds.length → ∃ v, vs[j]? = some v ∧ RdOk H ds ss v j (b j) (e j)
  b0 : ∀ j, j < ds.length → 0 ≤ b j
  e0 : ∀ j, j < ds.length → 0 ≤ e j
  le : ∀ j, j < ds.length → b j ≤ at' ss j + e (prv ds.length j)
theorem RdOk.mono {H H' : Hp} {ds ss : List Int} {v : V} {j b e : Int} (k : ∀ b xs, H b = some (.tup xs) → H' b = some (.tup xs)) (h : RdOk H ds ss v j b e) : RdOk H' ds ss v j b e := by
  rcases h with h | ⟨t, h1, h2, h3⟩
  · exact .inl h
  · exact .inr ⟨t, h1, k _ _ h2, h3⟩
section
variable {ds ss : List Int} {H0 H H' : Hp} {hl rd rl sl : Addr} {ha ra : List Addr} {b e : Nat → Int}
theorem Sim.same (S : Sim ds ss H0 H hl rd rl sl ha ra b e) (s : Same H H') : Sim ds ss H0 H' hl rd rl sl ha ra b e := by
  have k : ∀ b xs, H b = some (.tup xs) → H' b = some (.tup xs) := fun b xs h => s _ _ h
  refine ⟨S.sm.trans s, s _ _ S.ohl, s _ _ S.orl, fun j a h => ?_, fun j a h => ?_, ?_, S.b0, S.e0, S.le⟩
  · obtain ⟨xs, h1, h2⟩ := S.oh j a h
    exact ⟨xs, s _ _ h1, h2.mono k⟩
  · obtain ⟨xs, h1, h2⟩ := S.orr j a h
    exact ⟨xs, s _ _ h1, h2.mono k⟩
  · obtain ⟨vs, h1, h2, h3⟩ := S.ord
    refine ⟨vs, s _ _ h1, h2, fun j hj => ?_⟩
    obtain ⟨v, a1, a2⟩ := h3 j hj
    exact ⟨v, a1, a2.mono k⟩
/-- sights are written -/
theorem Sim.sight (A : Ad H0 ds.length hl rd rl sl ha ra) (S : Sim ds ss H0 H hl rd rl sl ha ra b e) (hs : ∃ ys, H sl = some (.lst ys)) (k : ∀ x o, H x = some o → x ≠ sl → H' x = some o) : Sim ds ss H0 H' hl rd rl sl ha ra b e := by
  obtain ⟨ys, hs⟩ := hs
  have kt : ∀ b xs, H b = some (.tup xs) → H' b = some (.tup xs) := fun b xs h => k _ _ h (ne_of h hs (by intro z; cases z))
  refine ⟨fun x o h => k _ _ (S.sm _ _ h) (ne_of_none h A.f4), k _ _ S.ohl A.n3, k _ _ S.orl A.n6, fun j a h => ?_, fun j a h => ?_, ?_, S.b0, S.e0, S.le⟩
  · obtain ⟨xs, h1, h2⟩ := S.oh j a h
    exact ⟨xs, k _ _ h1 (A.nh a (List.mem_of_getElem? h)).2.2.2, h2.mono kt⟩
  · obtain ⟨xs, h1, h2⟩ := S.orr j a h
    exact ⟨xs, k _ _ h1 (A.nr a (List.mem_of_getElem? h)).2.2.2, h2.mono kt⟩
  · obtain ⟨vs, h1, h2, h3⟩ := S.ord
    refine ⟨vs, k _ _ h1 A.n5, h2, fun j hj => ?_⟩
    obtain ⟨v, a1, a2⟩ := h3 j hj
    exact ⟨v, a1, a2.mono kt⟩
/-- reader j's reading ends; the book comes to the next one -/
theorem Sim.ends {M : Int} (RR : Rm.Ring ds.length (at' ds) (at' ss) ss.sum ds.sum M) (hss : ss.length = ds.length) (A : Ad H0 ds.length hl rd rl sl ha ra) (S : Sim ds ss H0 H hl rd rl sl ha ra b e) {j : Nat} (hj : j < ds.length) (hb : b j = e j + 1)
    {a : Addr} {xs vs : List V} {t : Addr} (ga : ha[nx ds.length j]? = some a) (gx : H a = some (.lst xs)) (gv : H rd = some (.lst vs))
    (k : ∀ x o, H x = some o → x ≠ a → x ≠ rd → H' x = some o) (hx : H' a = some (.lst (xs ++ [.ref t]))) (hv : H' rd = some (.lst (vs.set j .non))) (ht : H' t = some (.tup [.int (bk ss j (e j)), .int (Rm.E (at' ds) (at' ss) j (e j))])) :
    Sim ds ss H0 H' hl rd rl sl ha ra b (fun i => if i = j then e j + 1 else e i) := by
  have kt : ∀ b xs, H b = some (.tup xs) → H' b = some (.tup xs) := fun b xs h => k _ _ h (ne_of h gx (by intro z; cases z)) (ne_of h gv (by intro z; cases z))
  have ama := List.mem_of_getElem? ga
  refine ⟨fun x o h => k _ _ (S.sm _ _ h) (ne_of_none h (A.fh a ama)) (ne_of_none h A.f2), k _ _ S.ohl (A.nh a ama).1.symm A.n1, k _ _ S.orl (A.nh a ama).2.2.1.symm A.n4.symm, fun i c h => ?_, fun i c h => ?_, ?_, S.b0, fun i hi => ?_, fun i hi => ?_⟩
  · have hi : i < ds.length := by rw [← A.lh]; exact (List.getElem?_eq_some_iff.mp h).1
    obtain ⟨ys, h1, h2⟩ := S.oh i c h
    by_cases ei : i = nx ds.length j
    · subst ei
      rw [ga] at h
      cases h
      rw [gx] at h1
      cases h1
      refine ⟨_, hx, ?_⟩
      rw [prv_nx hj] at h2 ⊢
      have hle := S.le _ hi
      rw [prv_nx hj] at hle
      show Tups H' _ (seg _ _ (_ + (if j = j then e j + 1 else e j)))
      rw [if_pos rfl, show at' ss (nx ds.length j : Nat) + (e j + 1) = at' ss (nx ds.length j : Nat) + e j + 1 by omega, seg_snoc hle, item_next RR hss hj (S.e0 j hj)]
      exact Tups.snoc ⟨t, rfl, ht⟩ (h2.mono kt)
    · have hc : c ≠ a := fun z => by
        subst z
        exact ei (nd_ix A.dh h ga)
      have hp : prv ds.length i ≠ j := fun z => ei (prv_inj hi hj z)
      refine ⟨ys, k _ _ h1 hc (A.nh c (List.mem_of_getElem? h)).2.1, ?_⟩
      show Tups H' _ (seg _ _ (_ + (if prv ds.length i = j then e j + 1 else e (prv ds.length i))))
      rw [if_neg hp]
      exact h2.mono kt
  · obtain ⟨ys, h1, h2⟩ := S.orr i c h
    have cm := List.mem_of_getElem? h
    exact ⟨ys, k _ _ h1 (A.nhr a ama c cm).symm (A.nr c cm).2.1, h2.mono kt⟩
  · obtain ⟨ws, h1, h2, h3⟩ := S.ord
    rw [gv] at h1
    cases h1
    refine ⟨_, hv, by rw [List.length_set]; exact h2, fun i hi => ?_⟩
    obtain ⟨v, a1, a2⟩ := h3 i hi
    by_cases ei : i = j
    · subst ei
      refine ⟨.non, by rw [List.getElem?_set_self (by omega)], .inl ⟨rfl, ?_⟩⟩
      show b i = if i = i then e i + 1 else e i
      rw [if_pos rfl, hb]
    · refine ⟨v, by rw [List.getElem?_set_ne (Ne.symm ei)]; exact a1, ?_⟩
      show RdOk H' ds ss v i (b i) (if i = j then e j + 1 else e i)
      rw [if_neg ei]
      exact a2.mono kt
  · show 0 ≤ if i = j then e j + 1 else e i
    have h1 := S.e0 i hi
    have h2 := S.e0 j hj
    split <;> omega
  · have h1 := S.le i hi
    show b i ≤ _ + if prv ds.length i = j then e j + 1 else e (prv ds.length i)
    split
    · rename_i z
      rw [z] at h1
      omega
    · exact h1
/-- reader j begins -/
theorem Sim.begins (A : Ad H0 ds.length hl rd rl sl ha ra) (S : Sim ds ss H0 H hl rd rl sl ha ra b e) {j : Nat} (hj : j < ds.length) (hb : b j = e j) (hlt : b j < at' ss j + e (prv ds.length j))
    {a c : Addr} {x : V} {xs vs ys : List V} {t t2 : Addr} (ga : ha[j]? = some a) (gx : H a = some (.lst (x :: xs))) (gv : H rd = some (.lst vs)) (gc : ra[j]? = some c) (gy : H c = some (.lst ys))
    (k : ∀ z o, H z = some o → z ≠ a → z ≠ rd → z ≠ c → H' z = some o) (hx : H' a = some (.lst xs)) (hv : H' rd = some (.lst (vs.set j (.ref t)))) (hy : H' c = some (.lst (ys ++ [.ref t2])))
    (ht : H' t = some (.tup [.int (Rm.E (at' ds) (at' ss) j (e j)), .int (bk ss j (e j))])) (ht2 : H' t2 = some (.tup ((rowOf ds ss j (b j)).map V.int))) :
    Sim ds ss H0 H' hl rd rl sl ha ra (fun i => if i = j then b j + 1 else b i) e := by
  have ama := List.mem_of_getElem? ga
  have cmm := List.mem_of_getElem? gc
  have kt : ∀ b xs, H b = some (.tup xs) → H' b = some (.tup xs) := fun b xs h => k _ _ h (ne_of h gx (by intro z; cases z)) (ne_of h gv (by intro z; cases z)) (ne_of h gy (by intro z; cases z))
  refine ⟨fun x o h => k _ _ (S.sm _ _ h) (ne_of_none h (A.fh a ama)) (ne_of_none h A.f2) (ne_of_none h (A.fr c cmm)), k _ _ S.ohl (A.nh a ama).1.symm A.n1 (A.nr c cmm).1.symm, k _ _ S.orl (A.nh a ama).2.2.1.symm A.n4.symm (A.nr c cmm).2.2.1.symm, fun i c' h => ?_, fun i c' h => ?_, ?_, fun i hi => ?_, S.e0, fun i hi => ?_⟩
  · have hi : i < ds.length := by rw [← A.lh]; exact (List.getElem?_eq_some_iff.mp h).1
    obtain ⟨zs, h1, h2⟩ := S.oh i c' h
    by_cases ei : i = j
    · subst ei
      rw [ga] at h
      cases h
      rw [gx] at h1
      cases h1
      refine ⟨_, hx, ?_⟩
      rw [seg_cons hlt] at h2
      show Tups H' _ (seg _ (if i = i then b i + 1 else b i) _)
      rw [if_pos rfl]
      cases h2 with
      | cons _ r => exact Tups.mono kt r
    · have hc : c' ≠ a := fun z => by
        subst z
        exact ei (nd_ix A.dh h ga)
      have m := List.mem_of_getElem? h
      refine ⟨zs, k _ _ h1 hc (A.nh c' m).2.1 (A.nhr c' m c cmm), ?_⟩
      show Tups H' _ (seg _ (if i = j then b j + 1 else b i) _)
      rw [if_neg ei]
      exact h2.mono kt
  · have hi : i < ds.length := by rw [← A.lr]; exact (List.getElem?_eq_some_iff.mp h).1
    obtain ⟨zs, h1, h2⟩ := S.orr i c' h
    by_cases ei : i = j
    · subst ei
      rw [gc] at h
      cases h
      rw [gy] at h1
      cases h1
      refine ⟨_, hy, ?_⟩
      show Tups H' _ (seg _ 0 (if i = i then b i + 1 else b i))
      rw [if_pos rfl, seg_snoc (S.b0 i hi)]
      exact Tups.snoc ⟨t2, rfl, ht2⟩ (h2.mono kt)
    · have hc : c' ≠ c := fun z => by
        subst z
        exact ei (nd_ix A.dr h gc)
      have m := List.mem_of_getElem? h
      refine ⟨zs, k _ _ h1 (A.nhr a ama c' m).symm (A.nr c' m).2.1 hc, ?_⟩
      show Tups H' _ (seg _ 0 (if i = j then b j + 1 else b i))
      rw [if_neg ei]
      exact h2.mono kt
  · obtain ⟨ws, h1, h2, h3⟩ := S.ord
    rw [gv] at h1
    cases h1
    refine ⟨_, hv, by rw [List.length_set]; exact h2, fun i hi => ?_⟩
    obtain ⟨v, a1, a2⟩ := h3 i hi
    by_cases ei : i = j
    · subst ei
      refine ⟨.ref t, by rw [List.getElem?_set_self (by omega)], .inr ⟨t, rfl, ht, ?_⟩⟩
      show (if i = i then b i + 1 else b i) = e i + 1
      rw [if_pos rfl, hb]
    · refine ⟨v, by rw [List.getElem?_set_ne (Ne.symm ei)]; exact a1, ?_⟩
      show RdOk H' ds ss v i (if i = j then b j + 1 else b i) (e i)
      rw [if_neg ei]
      exact a2.mono kt
  · show 0 ≤ if i = j then b j + 1 else b i
    have h1 := S.b0 i hi
    have h2 := S.b0 j hj
    split <;> omega
  · have h1 := S.le i hi
    show (if i = j then b j + 1 else b i) ≤ _
    split
    · rename_i z
      subst z
      omega
    · exact h1
theorem Sim.congr (S : Sim ds ss H0 H hl rd rl sl ha ra b e) {b' e' : Nat → Int} (hss : ha.length = ds.length) (hr : ra.length = ds.length) (hb : ∀ j, j < ds.length → b' j = b j) (he : ∀ j, j < ds.length → e' j = e j) : Sim ds ss H0 H hl rd rl sl ha ra b' e' := by
  have hp : ∀ j, j < ds.length → e' (prv ds.length j) = e (prv ds.length j) := fun j hj => he _ (prv_lt hj)
  refine ⟨S.sm, S.ohl, S.orl, fun j a h => ?_, fun j a h => ?_, ?_, fun j hj => by rw [hb j hj]; exact S.b0 j hj, fun j hj => by rw [he j hj]; exact S.e0 j hj, fun j hj => by rw [hb j hj, hp j hj]; exact S.le j hj⟩
  · have hj : j < ds.length := by rw [← hss]; exact (List.getElem?_eq_some_iff.mp h).1
    rw [hb j hj, hp j hj]
    exact S.oh j a h
  · have hj : j < ds.length := by rw [← hr]; exact (List.getElem?_eq_some_iff.mp h).1
    rw [hb j hj]
    exact S.orr j a h
  · obtain ⟨vs, h1, h2, h3⟩ := S.ord
    refine ⟨vs, h1, h2, fun j hj => ?_⟩
    rw [hb j hj, he j hj]
    exact h3 j hj
end
/-! ### days -/
section
variable {ds ss : List Int} {M : Int} (RR : Rm.Ring ds.length (at' ds) (at' ss) ss.sum ds.sum M)
include RR
/-- ended by D - 1; a reading ends on D or none does -/
theorem cn_day (j D : Int) : (Rm.E (at' ds) (at' ss) j (Cn (at' ds) (at' ss) j (D - 1)) = D ∧ Cn (at' ds) (at' ss) j D = Cn (at' ds) (at' ss) j (D - 1) + 1) ∨ (Rm.E (at' ds) (at' ss) j (Cn (at' ds) (at' ss) j (D - 1)) ≠ D ∧ Cn (at' ds) (at' ss) j D = Cn (at' ds) (at' ss) j (D - 1)) := by
  obtain ⟨a0, a1, a2⟩ := RR.cn j (D - 1)
  by_cases h : Rm.E (at' ds) (at' ss) j (Cn (at' ds) (at' ss) j (D - 1)) = D
  · refine .inl ⟨h, RR.cn_of ⟨by omega, .inr ?_, ?_⟩⟩
    · rw [show Cn (at' ds) (at' ss) j (D - 1) + 1 - 1 = Cn (at' ds) (at' ss) j (D - 1) by omega]
      omega
    · have := RR.next j a0
      have := RR.d1 j
      omega
  · refine .inr ⟨h, RR.cn_of ⟨a0, ?_, by omega⟩⟩
    rcases a1 with a1 | a1
    · exact .inl a1
    · exact .inr (by omega)
/-- who isn't reading and has a book begins, nobody else does -/
theorem cn_begin {j D : Int} (hD : 0 ≤ D) (h : Cn (at' ds) (at' ss) j (D - 1 + at' ds j) = Cn (at' ds) (at' ss) j D) (hlt : Cn (at' ds) (at' ss) j D < at' ss j + Cn (at' ds) (at' ss) (j - 1) D) :
    Rm.E (at' ds) (at' ss) j (Cn (at' ds) (at' ss) j D) = D + at' ds j ∧ Cn (at' ds) (at' ss) j (D + at' ds j) = Cn (at' ds) (at' ss) j D + 1 := by
  have h1 := RR.cn_reads (r := j) hD hlt
  have h2 := (RR.cn_next j D).2
  obtain ⟨a0, a1, a2⟩ := RR.cn j (D - 1 + at' ds j)
  obtain ⟨b0, b1, b2⟩ := RR.cn j (D + at' ds j)
  rw [h] at a2
  have e : Cn (at' ds) (at' ss) j (D + at' ds j) = Cn (at' ds) (at' ss) j D + 1 := by omega
  rw [e] at b1
  rcases b1 with b1 | b1
  · have := (RR.cn j D).1
    omega
  · rw [show Cn (at' ds) (at' ss) j D + 1 - 1 = Cn (at' ds) (at' ss) j D by omega] at b1
    exact ⟨by omega, e⟩
theorem cn_waits {j D : Int} (h : Cn (at' ds) (at' ss) j D = at' ss j + Cn (at' ds) (at' ss) (j - 1) D) : Cn (at' ds) (at' ss) j (D + at' ds j) = Cn (at' ds) (at' ss) j D := by
  have h1 := RR.cn_next j D
  obtain ⟨b0, b1, b2⟩ := RR.cn j (D + at' ds j)
  obtain ⟨c0, c1, c2⟩ := RR.cn (j - 1) D
  rcases b1 with b1 | b1
  · have := (RR.cn j D).1
    omega
  · rcases Int.lt_or_le (Cn (at' ds) (at' ss) j D) (Cn (at' ds) (at' ss) j (D + at' ds j)) with z | z
    · have e : Cn (at' ds) (at' ss) j (D + at' ds j) - 1 = Cn (at' ds) (at' ss) j D := by omega
      rw [e] at b1
      have h2 := RR.from j (x := Cn (at' ds) (at' ss) j D) (by omega)
      rw [show Cn (at' ds) (at' ss) j D - at' ss j = Cn (at' ds) (at' ss) (j - 1) D by omega] at h2
      omega
    · omega
/-- begun by D - 1: as many as have ended by D, or one more -/
theorem cn_busy (j D : Int) : Cn (at' ds) (at' ss) j (D - 1) ≤ Cn (at' ds) (at' ss) j (D - 1 + at' ds j) ∧ Cn (at' ds) (at' ss) j (D - 1 + at' ds j) ≤ Cn (at' ds) (at' ss) j (D - 1) + 1 := RR.cn_next j (D - 1)
end
end Rp
namespace Rp
open PySem PySem.Spec PyProof.Rows L2 Rz Rm
section
variable {K : PySem.W.Frag} {H : Hp} {Q : VK} {a b : Addr} {xs ys : List V}
theorem sl_from {k : Int} (ha : H a = some (.tup xs)) (k0 : 0 ≤ k) (k1 : k ≤ xs.length) (h : ∀ H' p, Same H H' → H' p = some (.tup (xs.drop k.toNat)) → Q (.ref p) H') : rSlA K (.ref a) (some k) none H Q := by
  have e : k = ((k.toNat : Nat) : Int) := by omega
  have e0 : HT.sIx xs.length 0 (some k) = k.toNat := by
    rw [e, HT.sIx_nat]
    omega
  have e1 : cutV xs (some k) none = xs.drop k.toNat := by
    unfold cutV
    rw [e0, HT.sIx_none, List.take_of_length_le (by rw [List.length_drop]; omega)]
  refine ⟨a, xs, rfl, .of ha, fun z => h H a (fun _ _ q => q) ?_, fun _ p hp => h _ p (same_upd hp) (by rw [upd_same, e1])⟩
  rw [e0] at z
  rw [ha, z.1]
  rfl
theorem sl_to {k : Int} (ha : H a = some (.tup xs)) (k0 : 0 ≤ k) (k1 : k ≤ xs.length) (h : ∀ H' p, Same H H' → H' p = some (.tup (xs.take k.toNat)) → Q (.ref p) H') : rSlA K (.ref a) none (some k) H Q := by
  have e : k = ((k.toNat : Nat) : Int) := by omega
  have e0 : HT.sIx xs.length xs.length (some k) = k.toNat := by
    rw [e, HT.sIx_nat]
    omega
  have e1 : cutV xs none (some k) = xs.take k.toNat := by
    unfold cutV
    rw [e0, HT.sIx_none, List.drop_zero, Nat.sub_zero]
  refine ⟨a, xs, rfl, .of ha, fun z => h H a (fun _ _ q => q) ?_, fun _ p hp => h _ p (same_upd hp) (by rw [upd_same, e1])⟩
  rw [e0] at z
  rw [ha, z.2, List.take_length]
theorem cat_any (ha : H a = some (.tup xs)) (hb : H b = some (.tup ys)) (hl : xs.length + ys.length ≤ sizeLine) (h : ∀ H' p, Same H H' → H' p = some (.tup (xs ++ ys)) → Q (.ref p) H') : rCatA K (.ref a) (.ref b) H Q := by
  refine ⟨a, b, xs, ys, rfl, rfl, .of ha, .of hb, hl, fun z => h H b (fun _ _ q => q) ?_, fun _ z => h H a (fun _ _ q => q) ?_, fun _ _ p hp => h _ p (same_upd hp) upd_same⟩
  · rw [z, hb]
    rfl
  · rw [z, ha, List.append_nil]
end
theorem noPart {σ : L2.St} {H : Hp} {Q : Option Int → Hp → Prop} (h : Q none H) : tNoPart σ H Q := h
end Rp
namespace Rp
open PySem PySem.Spec PyProof.Rows L2 Rz Rm
/-- as data, for == -/
theorem RingAt.kp {C : Addr} {K : PySem.W.Frag} {H H' : Hp} {p dx td ts row a : Addr} {ds ss ns : List Int} (R : RingAt C H p dx td ts ds ss) (RA : RowAt K H row a ns) (k : Kp row H H') : RingAt C H' p dx td ts ds ss := by
  obtain ⟨i, m, q, h, _⟩ := RA.ob
  exact ⟨k _ _ R.ob (ne_of R.ob h (by intro z; cases z)), k _ _ R.td (ne_of R.td h (by intro z; cases z)), k _ _ R.ts (ne_of R.ts h (by intro z; cases z)), R.ok⟩
theorem tup_kp {K : PySem.W.Frag} {H H' : Hp} {t row a : Addr} {xs : List V} {ns : List Int} (ht : H t = some (.tup xs)) (RA : RowAt K H row a ns) (k : Kp row H H') : H' t = some (.tup xs) := by
  obtain ⟨i, m, q, h, _⟩ := RA.ob
  exact k _ _ ht (ne_of ht h (by intro z; cases z))
theorem up {N : Nat} {d s : Int → Int} {B T M : Int} (R : Rm.Ring N d s B T M) (r : Int) {x : Int} (hx : 0 ≤ x) : Rm.E d s r x ≤ (x + 1) * T + x * M := by
  obtain ⟨k, hk, e⟩ := R.att r hx
  have hN := R.pos
  have hB := R.b1
  have hT := R.T0
  have ek : k = k % N + k / N * N := by
    have := Nat.mod_add_div k N
    rw [Nat.mul_comm] at this
    exact this.symm
  have hj := Nat.mod_lt k hN
  have hS := R.sumS r (k % N) (k / N)
  have hD := R.sumD r (k % N + 1) (k / N)
  rw [← ek] at hS
  rw [show k % N + 1 + k / N * N = k + 1 by omega] at hD
  have hm : ((k / N : Nat) : Int) ≤ x := by
    have h1 := sum_nn R.s0 r (k % N)
    have h2 : ((k / N : Nat) : Int) * 1 ≤ ((k / N : Nat) : Int) * B := Int.mul_le_mul_of_nonneg_left hB (Int.natCast_nonneg _)
    omega
  have hd0 : sumBack d r (k % N + 1) ≤ T := by
    have := sum_mono (f := d) (fun i => by have := R.d1 i; omega) r (show k % N + 1 ≤ N by omega)
    rw [R.t] at this
    exact this
  have h3 : ((k / N : Nat) : Int) * T ≤ x * T := Int.mul_le_mul_of_nonneg_right hm hT
  have h4 := max_le R.mu r k
  have h40 : 0 ≤ maxBack d r k := by
    have h1 := max_ge (f := d) r (j := 0) (k := k) (Nat.zero_le _)
    have h2 := R.d1 (r - (0 : Nat))
    omega
  have h5 : (x - sumBack s r k) * maxBack d r k ≤ x * M := by
    have a1 : (x - sumBack s r k) * maxBack d r k ≤ x * maxBack d r k := Int.mul_le_mul_of_nonneg_right (by have := sum_nn R.s0 r k; omega) h40
    have a2 : x * maxBack d r k ≤ x * M := Int.mul_le_mul_of_nonneg_left h4 hx
    omega
  unfold ch at e
  rw [Int.add_mul]
  omega
theorem and_go {c : Bool} {u : TT} {σ : L2.St} {H : Hp} {F : Bool → Hp → Prop} (G : Hp → Prop) (next : ∀ H9, G H9 → F false H9) (hH : G H) (h1 : c = true → (∀ H9, G H9 → F false H9) → u σ H F) : if c = true then u σ H F else F false H := by
  cases c with
  | true => exact iteT (h1 rfl next)
  | false => exact iteF (next H hH)
theorem dp_ints {K : PySem.W.Frag} {H : Hp} : ∀ l : List Int, DpAll K H (l.map V.int) (l.map PyData.int)
  | [] => .nil
  | x :: r => .cons (.int x) (dp_ints r)
theorem Tups.rev {H : Hp} : ∀ {xs : List V} {ls : List (List Int)}, Tups H xs ls → Tups H xs.reverse ls.reverse
  | _, _, .nil => .nil
  | _, _, .cons r t => by
    rw [List.reverse_cons, List.reverse_cons]
    exact Tups.snoc r (Tups.rev t)
theorem Tups.drop {H : Hp} : ∀ {xs : List V} {ls : List (List Int)} (k : Nat), Tups H xs ls → Tups H (xs.drop k) (ls.drop k)
  | _, _, 0, h => h
  | _, _, k + 1, .nil => .nil
  | _, _, k + 1, .cons _ t => Tups.drop k t
theorem Tups.same {H H' : Hp} (s : Same H H') {xs : List V} {ls : List (List Int)} (h : Tups H xs ls) : Tups H' xs ls := h.mono fun b xs e => s _ _ e
/-- two tuples of ints are compared -/
theorem eqv_tup (as bs : List Int) : PyData.eqv (.tuple (as.map PyData.int)) (.tuple (bs.map PyData.int)) = decide (as = bs) := PySem.W.ked_eqvAll _ _
theorem eqv_lst (as bs : List Int) : PyData.eqv (.list (as.map PyData.int)) (.list (bs.map PyData.int)) = decide (as = bs) := PySem.W.ked_eqvAll _ _
theorem shaped_tup (as : List Int) : SeqAt.shaped (.tuple (as.map PyData.int)) = true := by
  simp only [SeqAt.shaped, PyData.canLay0, PyData.depth, PySem.W.ke_canLayAll0 as, PySem.W.ke_depthAll as, Bool.true_and]
  exact decide_eq_true (by omega)
theorem shaped_lst (as : List Int) : SeqAt.shaped (.list (as.map PyData.int)) = true := by
  simp only [SeqAt.shaped, PyData.canLay0, PyData.depth, PySem.W.ke_canLayAll0 as, PySem.W.ke_depthAll as, Bool.true_and]
  exact decide_eq_true (by omega)
section
variable {K : PySem.W.Frag} {H : Hp} {a b : Addr} {as bs : List Int} {Q : VK}
theorem tup_eq (ha : H a = some (.tup (as.map V.int))) (hb : H b = some (.tup (bs.map V.int))) (q : Q (.bl (decide (as = bs))) H) : rEqD K (.ref a) (.ref b) H Q :=
  ⟨_, _, .tup (.of ha) (dp_is as), .tup (.of hb) (dp_is bs), shaped_tup as, shaped_tup bs, by rw [eqv_tup]; exact q⟩
theorem tup_ne (ha : H a = some (.tup (as.map V.int))) (hb : H b = some (.tup (bs.map V.int))) (q : Q (.bl (!decide (as = bs))) H) : rNeD K (.ref a) (.ref b) H Q :=
  ⟨_, _, .tup (.of ha) (dp_is as), .tup (.of hb) (dp_is bs), shaped_tup as, shaped_tup bs, by rw [eqv_tup]; exact q⟩
theorem lst_ne (ha : SqL K H a (as.map V.int)) (hb : SqL K H b (bs.map V.int)) (q : Q (.bl (!decide (as = bs))) H) : rNeD K (.ref a) (.ref b) H Q :=
  ⟨_, _, .lst ha (dp_is as), .lst hb (dp_is bs), shaped_lst as, shaped_lst bs, by rw [eqv_lst]; exact q⟩
theorem lst_eq (ha : SqL K H a (as.map V.int)) (hb : SqL K H b (bs.map V.int)) (q : Q (.bl (decide (as = bs))) H) : rEqD K (.ref a) (.ref b) H Q :=
  ⟨_, _, .lst ha (dp_is as), .lst hb (dp_is bs), shaped_lst as, shaped_lst bs, by rw [eqv_lst]; exact q⟩
end
end Rp
namespace Rp
open PySem PySem.Spec PyProof.Rows L2 Rz Rm
section
variable {P : Program} {w : World} {K : PySem.W.Frag} {mg : Str → Option Value} {base : Heap}
/-! ### the dice -/
def spDice (K : PySem.W.Frag) : Sp := fun vs H Q _ => ∃ (a : Addr) (ns : List Int), vs = [.ref a] ∧ SqL K H a (ns.map V.int) ∧ ∀ H' row, RowAt K H' row a ns → Same H H' → Q (.ref row) H'
theorem ok_dice (T : Tx K mg) : FnOk P w K mg base CX0 1 T.a_ldice T.d_ldice P_ldice (spDice K) := by
  refine T.F_ldice.ok sc_ldice (fun vs H Q E h => ?_) (fun cdv A outer s H vs Q E hr h => ?_)
  · obtain ⟨a, ns, rfl, _⟩ := h
    rfl
  · obtain ⟨a, ns, rfl, hS, q⟩ := h
    have nd := sc_ldice.nd
    refine ⟨_, pss_cons (ps_set (i := 1) nd rfl (.inl rfl) pe_int)
      (pss_cons (ps_for PassesOwn.never rfl (pi_list (pv 0)) (pg_name (i := 2) nd rfl (.inl rfl))
        (pss_one (ps_set (i := 1) nd rfl (.inl rfl) (pe_op op_mod (pe_callTy call_int1 (by rfl) T.z_int (by decide +kernel) (pa_cons (pe_op op_add (pe_op op_add (pe_op op_mul (pv 1) pe_int)
          (pe_op op_mul (pe_op op_mod (pe_callTy call_int1 (by rfl) T.z_int (by decide +kernel) (pa_cons (pv 2) pa_nil)) pe_int) pe_int)) pe_int) pa_nil)) pe_int))))
      (pss_one (ps_ret (pe_lst (pa_cons (pv 0) (pa_cons pe_int (pa_cons (pe_op op_mul (pv 1) (pe_callTy call_int1 (by rfl) T.z_int (by decide +kernel) (pa_cons (pe_cmpR op_gt (pe_callB call_len_seq (by rfl) T.z_len PySem.boot_len (pa_cons (pv 0) pa_nil)) pe_int (nomark _)) pa_nil))) (pa_cons pe_int pa_nil)))))))), ?_⟩
    refine ⟨_, rfl, a, rfl, ⟨_, hS⟩, for_list (K := K) (a := a) (xs := ns.map V.int) (fun i σ H' => H' = H ∧ ∃ m y2, σ = [some (.ref a), some (.int m), y2]) ⟨rfl, 0, none, rfl⟩ (fun i σ H' _ ⟨e, _⟩ => by rw [e]; exact hS) ?_ ?_⟩
    · rintro i y σ H1 hi ⟨rfl, m, y2, rfl⟩
      obtain ⟨z, _, rfl⟩ := get_int hi
      refine ⟨_, rfl, _, _, rfl, rfl, .inr ⟨by decide, by decide⟩, _, rfl, .inl ⟨_, rfl, _, _, rfl, rfl, (by show (0 : Int) < 2147483647; decide), _, _, rfl, rfl, .inr ⟨by decide, by decide⟩, _, _, rfl, rfl, _, _, rfl, rfl, .inl ⟨_, rfl, _, _, rfl, rfl, (by show (0 : Int) < 2147483647; decide), ?_⟩⟩⟩
      exact ⟨rfl, _, _, rfl⟩
    · rintro σ H1 ⟨rfl, m, y2, rfl⟩
      refine ⟨_, rfl, _, rfl, _, rfl, a, _, rfl, .inl hS, _, _, rfl, rfl, .inr ⟨_, rfl, _, _, rfl, rfl, .inr (by split <;> exact ⟨by decide, by decide⟩), (by show 4 ≤ sizeLine; decide), fun row hrow => ?_⟩⟩
      exact q _ row ⟨⟨_, _, _, upd_same, Int.le_refl _⟩, (same_upd hrow).seq hS, far_of hS hrow⟩ (same_upd hrow)
def spNext (K : PySem.W.Frag) : Sp := fun vs H Q _ => ∃ (row a : Addr) (ns : List Int) (many : Int), vs = [.ref row, .int many] ∧ RowAt K H row a ns ∧ 1 ≤ many ∧ many < 1073741824 ∧
  ∀ v H', 0 ≤ v → v < many → RowAt K H' row a ns → Kp row H H' → Q (.int v) H'
theorem ok_next (T : Tx K mg) : FnOk P w K mg base CX0 1 T.a_lnext T.d_lnext P_lnext (spNext K) := by
  refine T.F_lnext.ok sc_lnext (fun vs H Q E h => ?_) (fun cdv A outer s H vs Q E hr h => ?_)
  · obtain ⟨row, a, ns, many, rfl, _⟩ := h
    rfl
  · obtain ⟨row, a, ns, many, rfl, RA, m1, m2, q⟩ := h
    obtain ⟨i, m, c, hrow, i0⟩ := RA.ob
    have nd := sc_lnext.nd
    refine ⟨_, pss_cons (ps_if (pt_cmpR op_gt (pe_ix ix_list (pv 0) pe_int (fun _ _ => rfl)) pe_int (nomark _))
        (pss_cons (ps_set (i := 2) nd rfl (.inl rfl) (pe_op op_mod (pe_callTy call_int1 (by rfl) T.z_int (by decide +kernel) (pa_cons (pe_ix ix_list (pv 0) pe_int (fun _ _ => rfl)) pa_nil)) (pv 1)))
        (pss_cons (ps_asg (pe_op op_fdiv (pe_ix ix_list (pv 0) pe_int (fun _ _ => rfl)) (pv 1)) (pg_sub (pv 0) pe_int set_list))
        (pss_one (ps_ret (pv 2))))) pss_nil)
      (pss_cons (ps_asg (pe_op op_add (pe_ix ix_list (pv 0) pe_int (fun _ _ => rfl)) pe_int) (pg_sub (pv 0) pe_int set_list))
      (pss_cons (ps_if (pt_cmpR op_le (pe_ix ix_list (pv 0) pe_int (fun _ _ => rfl)) (pe_callB call_len_seq (by rfl) T.z_len PySem.boot_len (pa_cons (pe_ix ix_list (pv 0) pe_int (fun _ _ => rfl)) pa_nil)) (nomark _))
        (pss_cons (ps_set (i := 3) nd rfl (.inl rfl) (pe_ix ix_list (pe_ix ix_list (pv 0) pe_int (fun _ _ => rfl)) (pe_op op_sub (pe_ix ix_list (pv 0) pe_int (fun _ _ => rfl)) pe_int) (fun _ _ => rfl)))
        (pss_cons (ps_asg (pe_ifExp (pt_cmpR op_ge (pv 3) (pe_op op_pow pe_int pe_int) (nomark _)) (pe_op op_fdiv (pv 3) (pv 1)) pe_int) (pg_sub (pv 0) pe_int set_list))
        (pss_one (ps_ret (pe_op op_mod (pe_callTy call_int1 (by rfl) T.z_int (by decide +kernel) (pa_cons (pv 3) pa_nil)) (pv 1)))))) pss_nil)
      (pss_cons (ps_asg (pe_op op_mod (pe_callTy call_int1 (by rfl) T.z_int (by decide +kernel) (pa_cons (pe_op op_mul (pe_ix ix_list (pv 0) pe_int (fun _ _ => rfl)) pe_int) pa_nil)) pe_int) (pg_sub (pv 0) pe_int set_list))
      (pss_one (ps_ret (pe_op op_mod (pe_callTy call_int1 (by rfl) T.z_int (by decide +kernel) (pa_cons (pe_op op_fdiv (pe_ix ix_list (pv 0) pe_int (fun _ _ => rfl)) pe_int) pa_nil)) (pv 1))))))), ?_⟩
    have mod0 : ∀ z : Int, 0 ≤ z % many := fun z => Int.emod_nonneg _ (by omega)
    have mod1 : ∀ z : Int, z % many < many := fun z => Int.emod_lt_of_pos _ (by omega)
    refine ⟨_, rfl, row, _, 3, _, rfl, rfl, .of hrow, atI_nat (j := 3) rfl, _, _, rfl, rfl, _, rfl, ?_⟩
    by_cases hc : 0 < c
    · rw [decide_eq_true hc]
      refine iteT ?_
      refine ⟨_, rfl, row, _, 3, _, rfl, rfl, .of hrow, atI_nat (j := 3) rfl, .inl ⟨_, rfl, _, rfl, _, _, rfl, rfl, by show (0 : Int) < many; omega, ?_⟩⟩
      refine ⟨_, rfl, row, _, 3, _, rfl, rfl, .of hrow, atI_nat (j := 3) rfl, _, rfl, _, _, rfl, rfl, ⟨by omega, by omega⟩, ?_⟩
      refine ⟨_, rfl, row, _, 3, 3, rfl, rfl, hrow, rfl, ?_⟩
      exact ⟨_, rfl, q _ _ (mod0 c) (mod1 c) (RA.put i0) kp_upd⟩
    · rw [decide_eq_false hc]
      refine iteF ?_
      refine ⟨_, rfl, row, _, 1, _, rfl, rfl, .of hrow, atI_nat (j := 1) rfl, _, _, rfl, rfl, ?_⟩
      refine ⟨_, rfl, row, _, 1, 1, rfl, rfl, hrow, rfl, ?_⟩
      have RA1 : RowAt K (upd H row (.lst [.ref a, .int (i + 1), .int m, .int c])) row a ns := RA.put (by omega)
      have hrow1 : (upd H row (.lst [.ref a, .int (i + 1), .int m, .int c])) row = some (.lst [.ref a, .int (i + 1), .int m, .int c]) := upd_same
      have kp1 : Kp row H (upd H row (.lst [.ref a, .int (i + 1), .int m, .int c])) := kp_upd
      show tSeq _ _ _ _ (upd H row (.lst [.ref a, .int (i + 1), .int m, .int c]))
      generalize (upd H row (.lst [.ref a, .int (i + 1), .int m, .int c])) = H1 at RA1 hrow1 kp1
      refine ⟨_, rfl, row, _, 1, _, rfl, rfl, .of hrow1, atI_nat (j := 1) rfl, _, rfl, row, _, 0, _, rfl, rfl, .of hrow1, atI_nat (j := 0) rfl, a, _, rfl, .inl RA1.sc, _, _, rfl, rfl, _, rfl, ?_⟩
      rw [List.length_map]
      by_cases hl : i + 1 ≤ (ns.length : Int)
      · rw [decide_eq_true hl]
        refine iteT ?_
        have hi : i.toNat < ns.length := by omega
        have hg : atI (ns.map V.int) (i + 1 - 1) = some (.int ns[i.toNat]) := by
          refine at_of (j := i.toNat) (by omega) ?_
          rw [List.getElem?_map, List.getElem?_eq_getElem hi]
          rfl
        refine ⟨_, rfl, row, _, 0, _, rfl, rfl, .of hrow1, atI_nat (j := 0) rfl, _, rfl, row, _, 1, _, rfl, rfl, .of hrow1, atI_nat (j := 1) rfl, _, _, rfl, rfl, a, _, _, _, rfl, rfl, RA1.sc, hg, ?_⟩
        generalize ns[i.toNat] = cell
        refine ⟨_, rfl, _, _, rfl, rfl, ⟨by decide, by decide, by decide⟩, _, _, rfl, rfl, _, rfl, ?_⟩
        refine ite2 (fun _ => ?_) (fun _ => ?_)
        · refine ⟨_, rfl, _, rfl, _, _, rfl, rfl, ⟨by omega, by omega⟩, ?_⟩
          refine ⟨_, rfl, row, _, 3, 3, rfl, rfl, hrow1, rfl, ?_⟩
          refine ⟨_, rfl, .inl ⟨_, rfl, _, rfl, _, _, rfl, rfl, by show (0 : Int) < many; omega, ?_⟩⟩
          exact q _ _ (mod0 _) (mod1 _) (RA1.put (by omega)) (kp1.trans kp_upd)
        · refine ⟨_, rfl, row, _, 3, 3, rfl, rfl, hrow1, rfl, ?_⟩
          refine ⟨_, rfl, .inl ⟨_, rfl, _, rfl, _, _, rfl, rfl, by show (0 : Int) < many; omega, ?_⟩⟩
          exact q _ _ (mod0 _) (mod1 _) (RA1.put (by omega)) (kp1.trans kp_upd)
      · rw [decide_eq_false hl]
        refine iteF ?_
        refine ⟨_, rfl, row, _, 2, _, rfl, rfl, .of hrow1, atI_nat (j := 2) rfl, _, _, rfl, rfl, .inr ⟨by decide, by decide⟩, .inl ⟨_, rfl, _, _, rfl, rfl, (by show (0 : Int) < 2147483647; decide), ?_⟩⟩
        refine ⟨_, rfl, row, _, 2, 2, rfl, rfl, hrow1, rfl, ?_⟩
        refine ⟨_, rfl, row, _, 2, _, rfl, rfl, .of upd_same, atI_nat (j := 2) rfl, _, _, rfl, rfl, ⟨by decide, by decide⟩, .inl ⟨_, rfl, _, rfl, _, _, rfl, rfl, by show (0 : Int) < many; omega, ?_⟩⟩
        exact q _ _ (mod0 _) (mod1 _) (RA1.put (by omega)) (kp1.trans kp_upd)
/-! ### a pick of anything -/
def spPickV (K : PySem.W.Frag) : Sp := fun vs H Q _ => ∃ (row a sm : Addr) (ns : List Int) (l : List V), vs = [.ref row, .ref sm] ∧ RowAt K H row a ns ∧ H sm = some (.lst l) ∧ sm ≠ row ∧ 1 ≤ l.length ∧ l.length ≤ 1000 ∧
  ∀ v H', v ∈ l → RowAt K H' row a ns → Kp row H H' → Q v H'
theorem ok_pickV (T : Tx K mg) : FnOk P w K mg base CX0 2 T.a_lpick T.d_lpick P_lpick (spPickV K) := by
  refine T.F_lpick.ok sc_lpick (fun vs H Q E h => ?_) (fun cdv A outer s H vs Q E hr h => ?_)
  · obtain ⟨row, a, sm, ns, l, rfl, _⟩ := h
    rfl
  · obtain ⟨row, a, sm, ns, l, rfl, RA, hsm, hne, l1, l2, q⟩ := h
    refine ⟨_, pss_one (ps_ret (pe_ix ix_list (pv 1) (pe_call (ok_next T) hr (by rfl) T.g_lnext T.F_lnext.kp T.b_lnext .nil pass0 (pa_cons (pv 0) (pa_cons (pe_callB call_len_seq (by rfl) T.z_len PySem.boot_len (pa_cons (pv 1) pa_nil)) pa_nil))) (fun _ _ => rfl))), ?_⟩
    refine ⟨_, rfl, _, rfl, _, rfl, sm, _, rfl, .inl (.of hsm), row, a, ns, _, rfl, RA, by omega, by omega, fun v H' v0 v1 RA' k => ?_⟩
    have hv : v.toNat < l.length := by omega
    exact ⟨sm, _, v, l[v.toNat], rfl, rfl, .of (k _ _ hsm hne), at_of (j := v.toNat) (by omega) (List.getElem?_eq_getElem hv), q _ H' (List.getElem_mem hv) RA' k⟩
end
end Rp
namespace Rp
open PySem PySem.Spec PyProof.Rows L2 Rz Rm
theorem sum_le_len : ∀ {l : List Int}, (∀ y ∈ l, y ≤ 1) → l.sum ≤ l.length
  | [], _ => by simp
  | a :: r, h => by
    have h1 := h a List.mem_cons_self
    have ih := sum_le_len (l := r) fun y hy => h y (List.mem_cons_of_mem _ hy)
    rw [List.sum_cons, List.length_cons]
    omega
section
variable {P : Program} {w : World} {K : PySem.W.Frag} {mg : Str → Option Value} {base : Heap}
def Acc (K : PySem.W.Frag) (H0 : Hp) (row a D : Addr) (ns : List Int) (lo hi : Int) (i : Nat) (H : Hp) : Prop :=
  ∃ acc : List Int, acc.length = i ∧ (∀ y ∈ acc, lo ≤ y ∧ y ≤ hi) ∧ H D = some (.lst (acc.map V.int)) ∧ RowAt K H row a ns ∧ Kp row H0 H
theorem acc_next {H0 H H' : Hp} {row a D : Addr} {ns : List Int} {lo hi v : Int} {i : Nat} (hD : H0 D = none) (nD : D ≠ row) (f : D ≠ a ∨ Wr K a (ns.map V.int)) {acc : List Int} (hlen : acc.length = i) (hall : ∀ y ∈ acc, lo ≤ y ∧ y ≤ hi)
    (hacc : H D = some (.lst (acc.map V.int))) (k : Kp row H0 H) (RA : RowAt K H' row a ns) (k' : Kp row H H') (v0 : lo ≤ v) (v1 : v ≤ hi) : Acc K H0 row a D ns lo hi (i + 1) (upd H' D (.lst (acc.map V.int ++ [V.int v]))) := by
  refine ⟨acc ++ [v], by rw [List.length_append, hlen]; rfl, fun y hy => ?_, by rw [upd_same, map_snoc], RA.upd' nD f, kp_new (k.trans k') hD⟩
  rcases List.mem_append.mp hy with z | z
  · exact hall y z
  · have := List.mem_singleton.mp z
    omega
/-- two new tuples that make a ring -/
def spRing (K : PySem.W.Frag) : Sp := fun vs H Q _ => ∃ (row a : Addr) (ns : List Int) (size most : Int), vs = [.ref row, .int size, .int most] ∧ RowAt K H row a ns ∧ 2 ≤ size ∧ size ≤ 8 ∧ 1 ≤ most ∧ most ≤ 30 ∧
  ∀ H' t td ts ds ss, Good ds ss → (ds.length : Int) ≤ size → (∀ y ∈ ds, y ≤ most) → RowAt K H' row a ns → Kp row H H' → H' t = some (.tup [.ref td, .ref ts]) → H' td = some (.tup (ds.map V.int)) → H' ts = some (.tup (ss.map V.int)) → Q (.ref t) H'
theorem ok_ring (T : Tx K mg) : FnOk P w K mg base CX0 2 T.a_lring T.d_lring P_lring (spRing K) := by
  refine T.F_lring.ok sc_lring (fun vs H Q E h => ?_) (fun cdv A outer s H vs Q E hr h => ?_)
  · obtain ⟨row, a, ns, size, most, rfl, _⟩ := h
    rfl
  · obtain ⟨row, a, ns, size, most, rfl, RA, z2, z8, m1, m30, q⟩ := h
    have nd := sc_lring.nd
    refine ⟨_, pss_cons (ps_set (i := 3) nd rfl (.inl rfl) (pe_op op_add pe_int (pe_call (ok_next T) hr (by rfl) T.g_lnext T.F_lnext.kp T.b_lnext .nil pass0 (pa_cons (pv 0) (pa_cons (pe_op op_sub (pv 1) pe_int) pa_nil)))))
      (pss_cons (ps_setLc (i := 4) (own := [("_law_k", 6)]) rfl nd rfl rfl (sw_true rfl rfl rfl (by decide +kernel)) (pi_range1 (by rfl) T.z_range (pa_cons (pv 3) pa_nil)) (blkOk_by (N := N_lring) (sc := defScope s_lring) (by decide +kernel))
        (fun _ _ _ _ _ => pg_name (i := 6) nd rfl (.inl rfl)) (fun _ _ _ _ _ => pts_nil)
        (fun _ _ _ _ _ => pe_op op_add pe_int (pe_call (ok_next T) hr (by rfl) T.g_lnext T.F_lnext.kp T.b_lnext .nil pass0 (pa_cons (pv 0) (pa_cons (pv 2) pa_nil)))))
      (pss_cons (ps_setLc (i := 5) (own := [("_law_k", 6)]) rfl nd rfl rfl (sw_true rfl rfl rfl (by decide +kernel)) (pi_range1 (by rfl) T.z_range (pa_cons (pv 3) pa_nil)) (blkOk_by (N := N_lring) (sc := defScope s_lring) (by decide +kernel))
        (fun _ _ _ _ _ => pg_name (i := 6) nd rfl (.inl rfl)) (fun _ _ _ _ _ => pts_nil)
        (fun _ _ _ _ _ => pe_call (ok_next T) hr (by rfl) T.g_lnext T.F_lnext.kp T.b_lnext .nil pass0 (pa_cons (pv 0) (pa_cons (pe_ix (r := rIxL K) ix_list (pe_lst (pa_cons pe_int (pa_cons pe_int pa_nil))) (pe_call (ok_next T) hr (by rfl) T.g_lnext T.F_lnext.kp T.b_lnext .nil pass0 (pa_cons (pv 0) (pa_cons pe_int pa_nil))) (fun _ _ => rfl)) pa_nil))))
      (pss_cons (ps_set (i := 6) nd rfl (.inl rfl) (pe_call (ok_next T) hr (by rfl) T.g_lnext T.F_lnext.kp T.b_lnext .nil pass0 (pa_cons (pv 0) (pa_cons (pv 3) pa_nil))))
      (pss_cons (ps_asg (pe_callB (call_max2 rfl) (by rfl) T.z_max (by decide +kernel) (pa_cons pe_int (pa_cons (pe_ix ix_list (pv 5) (pv 6) (fun _ _ => rfl)) pa_nil))) (pg_sub (pv 5) (pv 6) set_list))
      (pss_cons (ps_while PassesOwn.never (pt_cmpR op_gt (pe_callB (cr_sum rfl) (by rfl) T.z_sum (by decide +kernel) (pa_cons (pv 5) pa_nil)) pe_int (nomark _))
        (pss_one (ps_asg pe_int
          (pg_sub (pv 5) (pe_bm PySem.F.plainAttrs_list PySem.F.slot_list_index PySem.F.type_list_index mt_index (pv 5) (pa_cons (pe_callB (cr_max rfl) (by rfl) T.z_max (by decide +kernel) (pa_cons (pv 5) pa_nil)) pa_nil)) set_list))))
      (pss_one (ps_ret (pe_tup (pa_cons (pe_callTy call_tuple_of (by rfl) T.z_tuple (by decide +kernel) (pa_cons (pv 4) pa_nil)) (pa_cons (pe_callTy call_tuple_of (by rfl) T.z_tuple (by decide +kernel) (pa_cons (pv 5) pa_nil)) pa_nil)))))))))), ?_⟩
    -- count
    refine ⟨_, rfl, _, rfl, _, _, rfl, rfl, row, a, ns, _, rfl, RA, by omega, by omega, fun v1 H3 v10 v11 RA3 k3 => ⟨_, _, rfl, rfl, ?_⟩⟩
    -- days
    refine ⟨_, rfl, _, rfl, by omega, by omega, fun D hD => lc_range (lo := 0) (n := (2 + v1).toNat) (Acc K H3 row a D ns 1 most) ?_ ?_ ?_⟩
    · exact ⟨[], rfl, fun y hy => absurd hy (by simp), upd_same, RA3.same (same_upd hD), Same.kp (same_upd hD)⟩
    · rintro i H4 hi ⟨acc, hlen, hall, hacc, RA4, k4⟩
      have nD := RA3.nn hD
      refine ⟨rfl, lc_keep ?_⟩
      refine ⟨_, rfl, _, rfl, row, a, ns, _, rfl, RA4, m1, by omega, fun v H5 v0 v1' RA5 k5 => ?_⟩
      exact ⟨_, _, rfl, rfl, acc.map V.int, k5 _ _ hacc nD, by rw [List.length_map]; exact small1000 (by omega), acc_next hD nD (far_of RA3.sc hD) hlen hall hacc k4 RA5 k5 (by omega) (by omega)⟩
    rintro H4 ⟨ds, dlen, dall, hds, RA4, k4⟩
    have nD := RA3.nn hD
    have k04 := k3.trans k4
    -- starts
    refine ⟨_, rfl, _, rfl, by omega, by omega, fun D2 hD2 => lc_range (lo := 0) (n := (2 + v1).toNat) (Acc K H4 row a D2 ns 0 3) ?_ ?_ ?_⟩
    · exact ⟨[], rfl, fun y hy => absurd hy (by simp), upd_same, RA4.same (same_upd hD2), Same.kp (same_upd hD2)⟩
    · rintro i H5 hi ⟨acc, hlen, hall, hacc, RA5, k5⟩
      have nD2 := RA4.nn hD2
      refine ⟨rfl, lc_keep ?_⟩
      refine ⟨_, rfl, (by show 2 ≤ sizeLine; decide), fun l3 hl3 => ?_⟩
      have s1 := same_upd (o := .lst [.int 2, .int 4]) hl3
      have nl3 := RA5.nn hl3
      refine ⟨_, rfl, row, a, ns, _, rfl, RA5.same s1, by decide, by decide, fun v2 H6 v20 v21 RA6 k6 => ?_⟩
      have hl3' : H6 l3 = some (.lst [.int 2, .int 4]) := k6 _ _ upd_same nl3
      have k56 : Kp row H5 H6 := (Same.kp s1).trans k6
      obtain ⟨far, hfar, f1, f4⟩ : ∃ far : Int, atI [V.int 2, V.int 4] v2 = some (.int far) ∧ 1 ≤ far ∧ far ≤ 4 := by
        have : v2 = 0 ∨ v2 = 1 := by omega
        rcases this with rfl | rfl
        · exact ⟨2, rfl, by omega, by omega⟩
        · exact ⟨4, rfl, by omega, by omega⟩
      refine ⟨l3, _, v2, _, rfl, rfl, .of hl3', hfar, row, a, ns, _, rfl, RA6, f1, by omega, fun v H7 v0 v1' RA7 k7 => ?_⟩
      have k57 := k56.trans k7
      exact ⟨acc.map V.int, k57 _ _ hacc nD2, by rw [List.length_map]; exact small1000 (by omega), acc_next hD2 nD2 (far_of RA4.sc hD2) hlen hall hacc k5 RA7 k57 (by omega) (by omega)⟩
    rintro H5 ⟨ss0, slen0, sall0, hss0, RA5, k5⟩
    have nD2 := RA4.nn hD2
    have nDD : D ≠ D2 := ne_of_none hds hD2
    have fD2 := far_of RA4.sc hD2
    have hds5 : H5 D = some (.lst (ds.map V.int)) := k5 _ _ hds nD
    have k05 := k04.trans k5
    have hD20 : ∀ b o, H b = some o → b ≠ row → b ≠ D2 := fun b o e n => ne_of_none (k04 b o e n) hD2
    -- k
    refine ⟨_, rfl, _, rfl, row, a, ns, _, rfl, RA5, by omega, by omega, fun kk H6 kk0 kk1 RA6 k6 => ?_⟩
    have hss6 : H6 D2 = some (.lst (ss0.map V.int)) := k6 _ _ hss0 nD2
    have hds6 : H6 D = some (.lst (ds.map V.int)) := k6 _ _ hds5 nD
    have hkk : kk.toNat < ss0.length := by omega
    have hix : atI (ss0.map V.int) kk = some (.int ss0[kk.toNat]) := by
      refine at_of (j := kk.toNat) (by omega) ?_
      rw [List.getElem?_map, List.getElem?_eq_getElem hkk]
      rfl
    have hixn : ixN (ss0.map V.int).length kk = some kk.toNat := by
      unfold ixN
      rw [List.length_map, if_pos (by omega), if_pos (by omega)]
    -- starts[k] = max(1, starts[k])
    refine ⟨_, rfl, _, rfl, D2, _, kk, _, rfl, rfl, .of hss6, hix, _, _, rfl, ?_⟩
    rw [max_if]
    refine ⟨_, rfl, _, rfl, D2, _, kk, kk.toNat, rfl, rfl, hss6, hixn, ?_⟩
    have hzz := sall0 _ (List.getElem_mem hkk)
    generalize ss0[kk.toNat] = zz at hzz
    have hmem : max 1 zz ∈ ss0.set kk.toNat (max 1 zz) := List.mem_set hkk _
    have hall1 : ∀ y ∈ ss0.set kk.toNat (max 1 zz), 0 ≤ y ∧ y ≤ 12 := fun y hy => by
      rcases mem_set hy with z | z
      · have := sall0 y z; omega
      · omega
    have hsum1 := mem_le_sum (fun y hy => (hall1 y hy).1) _ hmem
    refine ⟨fun m σ H' => σ = [some (.ref row), some (.int size), some (.int most), some (.int (2 + v1)), some (.ref D), some (.ref D2), some (.int kk)] ∧ ∃ ss : List Int, m = ss.sum.toNat ∧ ss.length = (2 + v1).toNat ∧ (∀ y ∈ ss, 0 ≤ y ∧ y ≤ 12) ∧ 1 ≤ ss.sum ∧ H' D2 = some (.lst (ss.map V.int)) ∧ H' D = some (.lst (ds.map V.int)) ∧ RowAt K H' row a ns ∧ Kp row H H',
      ⟨_, rfl, ss0.set kk.toNat (max 1 zz), rfl, by rw [List.length_set]; exact slen0, hall1, by omega, by rw [upd_same, List.map_set], by rw [upd_ne nDD]; exact hds6, RA6.upd' nD2 fD2, fun b o e n => by rw [upd_ne (hD20 b o e n)]; exact (k05.trans k6) b o e n⟩, ?_⟩
    rintro m σ H7 ⟨rfl, ss, rfl, slen, sall, ssum, hss, hdd, RA7, k7⟩
    refine ⟨_, rfl, D2, ss, rfl, .of hss, _, _, rfl, rfl, _, rfl, ?_⟩
    by_cases hc : 12 < ss.sum
    · rw [decide_eq_true hc]
      refine iteT ⟨fun σ' H' => σ' = [some (.ref row), some (.int size), some (.int most), some (.int (2 + v1)), some (.ref D), some (.ref D2), some (.int kk)] ∧ ∃ ss' : List Int, ss'.sum < ss.sum ∧ 1 ≤ ss'.sum ∧ ss'.length = (2 + v1).toNat ∧ (∀ y ∈ ss', 0 ≤ y ∧ y ≤ 12) ∧ H' D2 = some (.lst (ss'.map V.int)) ∧ H' D = some (.lst (ds.map V.int)) ∧ RowAt K H' row a ns ∧ Kp row H H',
        fun σ' H' ⟨e1, ss', e2, e20, e3, e4, e5, e6, e7, e8⟩ => ⟨ss'.sum.toNat, by omega, e1, ss', rfl, e3, e4, e20, e5, e6, e7, e8⟩, ?_⟩
      refine ⟨_, rfl, _, rfl, .inl ⟨rfl, _, .of hss⟩, _, rfl, D2, ss, rfl, .of hss, by omega, fun mm hm hmu => ?_⟩
      obtain ⟨j, hj, hno⟩ := first_ix hm
      have hjl : j < ss.length := (List.getElem?_eq_some_iff.mp hj).1
      refine ⟨D2, ss.map V.int, .int mm, j, .int mm, rfl, rfl, .of hss, rfl, flat_ints ss, by rw [List.getElem?_map, hj]; rfl, beq_self_eq_true mm, fun k z' hk hz => ?_, ?_⟩
      · obtain ⟨z, hz2, rfl⟩ := get_int hz
        exact beq_eq_false_iff_ne.mpr (hno k z hk hz2)
      · have hixn2 : ixN (ss.map V.int).length ((j : Nat) : Int) = some j := by
          unfold ixN
          rw [List.length_map, if_pos (by omega), if_pos (by omega), Int.toNat_natCast]
        have hm2 : 2 ≤ mm := by
          rcases Int.lt_or_le mm 2 with z | z
          · have := sum_le_len (l := ss) fun y hy => by have := hmu _ hy; omega
            omega
          · exact z
        have hall2 : ∀ y ∈ ss.set j 1, 0 ≤ y ∧ y ≤ 12 := fun y hy => by
          rcases mem_set hy with z | z
          · exact sall y z
          · omega
        refine ⟨D2, _, ((j : Nat) : Int), j, rfl, rfl, hss, hixn2, rfl, ss.set j 1, ?_, ?_, by rw [List.length_set]; exact slen, hall2, by rw [upd_same, List.map_set], by rw [upd_ne nDD]; exact hdd, RA7.upd' nD2 fD2, fun b o e n => by rw [upd_ne (hD20 b o e n)]; exact k7 b o e n⟩
        · rw [sum_set hj]
          omega
        · exact mem_le_sum (fun y hy => (hall2 y hy).1) 1 (List.mem_set hjl 1)
    · rw [decide_eq_false hc]
      refine iteF ?_
      refine ⟨_, rfl, D, _, rfl, .inl ⟨.of hdd, fun l1 hl1 => ?_⟩⟩
      have u1 := same_upd (o := .tup (ds.map V.int)) hl1
      refine ⟨_, rfl, D2, _, rfl, .inl ⟨.of (u1 _ _ hss), fun l2 hl2 => ⟨(by show 2 ≤ sizeLine; decide), fun t ht => ?_⟩⟩⟩
      have u2 := same_upd (o := .tup (ss.map V.int)) hl2
      have u3 := same_upd (o := .tup [.ref l1, .ref l2]) ht
      exact q _ t l1 l2 ds ss ⟨by omega, by omega, by omega, fun y hy => ⟨(dall y hy).1, by have := (dall y hy).2; omega⟩, sall, ssum, by omega⟩ (by omega) (fun y hy => (dall y hy).2) (((RA7.same u1).same u2).same u3) (((k7.trans (Same.kp u1)).trans (Same.kp u2)).trans (Same.kp u3)) upd_same (u3 _ _ (u2 _ _ upd_same)) (u3 _ _ upd_same)
end
end Rp
namespace Rp
open PySem PySem.Spec PyProof.Rows L2 Rz Rm
/-! ### the longest heap -/
noncomputable def hpo (ds ss : List Int) (r D : Int) : Int := at' ss r + Cn (at' ds) (at' ss) (r - 1) D - Cn (at' ds) (at' ss) r (D + at' ds r)
noncomputable def gx (ds ss : List Int) (r x : Int) : Int := at' ss r + x + 1 - Cn (at' ds) (at' ss) r (Rm.E (at' ds) (at' ss) (r - 1) x + at' ds r)
section
variable {ds ss : List Int} {M : Int} (RR : Rm.Ring ds.length (at' ds) (at' ss) ss.sum ds.sum M)
include RR
theorem cn_le {j D : Int} (h : 0 ≤ D) : Cn (at' ds) (at' ss) j D ≤ D := by
  obtain ⟨a0, a1, a2⟩ := RR.cn j D
  rcases a1 with a1 | a1
  · omega
  · rcases Int.lt_or_le (Cn (at' ds) (at' ss) j D) 1 with z | z
    · omega
    · have h1 := RR.low j (x := Cn (at' ds) (at' ss) j D - 1) (by omega)
      have h2 := RR.d1 j
      have h3 : (Cn (at' ds) (at' ss) j D - 1 + 1) * 1 ≤ (Cn (at' ds) (at' ss) j D - 1 + 1) * at' ds j := Int.mul_le_mul_of_nonneg_left h2 (by omega)
      omega
theorem cn_mono (j : Int) {D D' : Int} (h : D ≤ D') : Cn (at' ds) (at' ss) j D ≤ Cn (at' ds) (at' ss) j D' := by
  obtain ⟨a0, a1, a2⟩ := RR.cn j D
  obtain ⟨b0, b1, b2⟩ := RR.cn j D'
  rcases Int.lt_or_le (Cn (at' ds) (at' ss) j D') (Cn (at' ds) (at' ss) j D) with z | z
  · rcases a1 with a1 | a1
    · omega
    · have := RR.le j b0 (show Cn (at' ds) (at' ss) j D' ≤ Cn (at' ds) (at' ss) j D - 1 by omega)
      omega
  · exact z
theorem cn_zero {j D : Int} (h : D < at' ds j) : Cn (at' ds) (at' ss) j D = 0 := by
  refine RR.cn_of ⟨Int.le_refl _, .inl rfl, ?_⟩
  have := RR.E1 j (x := 0) (Int.le_refl _)
  omega
theorem cn_cap (r D : Int) : Cn (at' ds) (at' ss) r (D + at' ds r) ≤ at' ss r + Cn (at' ds) (at' ss) (r - 1) D := by
  obtain ⟨a0, a1, a2⟩ := RR.cn r (D + at' ds r)
  obtain ⟨b0, b1, b2⟩ := RR.cn (r - 1) D
  have hs := RR.s0 r
  rcases Int.lt_or_le (at' ss r + Cn (at' ds) (at' ss) (r - 1) D) (Cn (at' ds) (at' ss) r (D + at' ds r)) with z | z
  · rcases a1 with a1 | a1
    · omega
    · have h1 := RR.from r (x := Cn (at' ds) (at' ss) r (D + at' ds r) - 1) (by omega)
      have h2 := RR.le (r - 1) b0 (show Cn (at' ds) (at' ss) (r - 1) D ≤ Cn (at' ds) (at' ss) r (D + at' ds r) - 1 - at' ss r by omega)
      omega
  · exact z
theorem hpo_bounds (r : Int) {D : Int} (h : 0 ≤ D) : 0 ≤ hpo ds ss r D ∧ hpo ds ss r D ≤ ss.sum := by
  have h0 : ∀ j, 0 ≤ at' ss j + Cn (at' ds) (at' ss) (j - 1) D - Cn (at' ds) (at' ss) j (D + at' ds j) := fun j => by
    have := cn_cap RR j D
    omega
  have h1 := (RR.heaps h r).2
  have hN := RR.pos
  have h2 := sum_mono (f := fun j => at' ss j + Cn (at' ds) (at' ss) (j - 1) D - Cn (at' ds) (at' ss) j (D + at' ds j)) h0 r (show 1 ≤ ds.length by omega)
  have h3 : sumBack (fun j => at' ss j + Cn (at' ds) (at' ss) (j - 1) D - Cn (at' ds) (at' ss) j (D + at' ds j)) r 1 = hpo ds ss r D := by
    show 0 + (at' ss (r - (0 : Nat)) + Cn (at' ds) (at' ss) (r - (0 : Nat) - 1) D - Cn (at' ds) (at' ss) (r - (0 : Nat)) (D + at' ds (r - (0 : Nat)))) = _
    rw [show r - ((0 : Nat) : Int) = r by omega]
    unfold hpo
    omega
  refine ⟨by have := h0 r; unfold hpo; omega, by omega⟩
theorem gx_hpo (r : Int) {x : Int} (h : 0 ≤ x) : gx ds ss r x = hpo ds ss r (Rm.E (at' ds) (at' ss) (r - 1) x) := by
  unfold gx hpo
  rw [RR.cn_end (r - 1) h]
  omega
theorem gx_per (r : Int) {p q n x : Int} (p1 : 1 ≤ p) (hall : ∀ m, n ≤ m → Rep (at' ds) (at' ss) p q m) (n0 : 0 ≤ n) (hx : n + ss.sum ≤ x) : gx ds ss r (x + p) = gx ds ss r x := by
  have hB := RR.b1
  have hs := RR.s0 r
  have h1 := hall x (by omega) (r - 1)
  have hb := (hpo_bounds RR r (D := Rm.E (at' ds) (at' ss) (r - 1) x) (by have := RR.E1 (r - 1) (x := x) (by omega); have := RR.d1 (r - 1); omega)).2
  rw [← gx_hpo RR r (by omega)] at hb
  unfold gx at hb ⊢
  rw [h1]
  obtain ⟨c, hc⟩ : ∃ c, c = Cn (at' ds) (at' ss) r (Rm.E (at' ds) (at' ss) (r - 1) x + at' ds r) := ⟨_, rfl⟩
  obtain ⟨a0, a1, a2⟩ := RR.cn r (Rm.E (at' ds) (at' ss) (r - 1) x + at' ds r)
  rw [← hc] at hb a0 a1 a2 ⊢
  have h2 := hall (c - 1) (by omega) r
  have h3 := hall c (by omega) r
  have : Cn (at' ds) (at' ss) r (Rm.E (at' ds) (at' ss) (r - 1) x + q + at' ds r) = c + p := by
    refine RR.cn_of ⟨by omega, .inr ?_, by omega⟩
    rw [show c + p - 1 = c - 1 + p by omega, h2]
    rcases a1 with a1 | a1
    · omega
    · omega
  rw [this]
  omega
theorem gx_all (r : Int) {p q n L : Int} (p1 : 1 ≤ p) (pB : p ≤ ss.sum) (hall : ∀ m, n ≤ m → Rep (at' ds) (at' ss) p q m) (n0 : 0 ≤ n) (h : ∀ x, 0 ≤ x → x ≤ n + 2 * ss.sum → gx ds ss r x ≤ L) : ∀ k : Nat, gx ds ss r k ≤ L := by
  intro k
  induction k using Nat.strongRecOn with
  | _ k ih =>
    by_cases hk : (k : Int) ≤ n + 2 * ss.sum
    · exact h k (by omega) hk
    · have h1 := gx_per RR r p1 hall n0 (x := (k : Int) - p) (by omega)
      have h2 := ih (k - p.toNat) (by omega)
      rw [show ((k - p.toNat : Nat) : Int) = (k : Int) - p by omega] at h2
      rw [show (k : Int) - p + p = k by omega] at h1
      omega
theorem hpo_all (r : Int) {p q n L : Int} (p1 : 1 ≤ p) (pB : p ≤ ss.sum) (hall : ∀ m, n ≤ m → Rep (at' ds) (at' ss) p q m) (n0 : 0 ≤ n) (h0 : at' ss r - min (at' ss r) 1 ≤ L) (h : ∀ x, 0 ≤ x → x ≤ n + 2 * ss.sum → gx ds ss r x ≤ L) {D : Int} (hD : 0 ≤ D) : hpo ds ss r D ≤ L := by
  obtain ⟨a0, a1, a2⟩ := RR.cn (r - 1) D
  have hs := RR.s0 r
  have hd := RR.d1 r
  by_cases c0 : Cn (at' ds) (at' ss) (r - 1) D = 0
  · unfold hpo
    rw [c0]
    obtain ⟨b0, b1, b2⟩ := RR.cn r (D + at' ds r)
    rcases Int.lt_or_le (at' ss r) 1 with z | z
    · omega
    · have hE : Rm.E (at' ds) (at' ss) r 0 = at' ds r := by
        rcases RR.bell r (x := 0) (Int.le_refl _) with e | ⟨e, _⟩ | ⟨e, _⟩
        · exact e
        · omega
        · omega
      have : Cn (at' ds) (at' ss) r (D + at' ds r) ≠ 0 := fun z => by
        rw [z, hE] at b2
        omega
      omega
  · have h1 : Rm.E (at' ds) (at' ss) (r - 1) (Cn (at' ds) (at' ss) (r - 1) D - 1) ≤ D := by
      rcases a1 with a1 | a1
      · exact absurd a1 c0
      · exact a1
    have h2 := gx_all RR r p1 pB hall n0 h (Cn (at' ds) (at' ss) (r - 1) D - 1).toNat
    rw [show (((Cn (at' ds) (at' ss) (r - 1) D - 1).toNat : Nat) : Int) = Cn (at' ds) (at' ss) (r - 1) D - 1 by omega] at h2
    have h3 := cn_mono RR r (show Rm.E (at' ds) (at' ss) (r - 1) (Cn (at' ds) (at' ss) (r - 1) D - 1) + at' ds r ≤ D + at' ds r by omega)
    unfold gx at h2
    unfold hpo
    omega
end
end Rp
namespace Rp
open PySem PySem.Spec PyProof.Rows L2 Rz Rm
theorem ixN_nat {n j : Nat} (h : j < n) : ixN n (j : Int) = some j := by
  unfold ixN
  rw [if_pos (by omega), if_pos (by omega), Int.toNat_natCast]
section
variable {P : Program} {w : World} {K : PySem.W.Frag} {mg : Str → Option Value} {base : Heap}
abbrev XD (P : Program) (w : World) (K : PySem.W.Frag) (mg : Str → Option Value) (base : Heap) (f : Addr) (cdv : Value) (A : Around) (outer : List Env) (s : Shared) (H0 : Hp) (E : XK) : Cx := (cxOf CX0 P w K mg base N_ldays "_law_days" (defScope s_ldays) f cdv A outer s H0 E).nox
def stB : Stmt → List Stmt
  | .For _ _ b _ _ => b
  | _ => []
abbrev db (j : Nat) : Stmt := (defBody s_ldays).getD j (.Pass ⟨0, 0, 0, 0⟩)
abbrev dy (j : Nat) : Stmt := (stB (db 3)).getD j (.Pass ⟨0, 0, 0, 0⟩)
abbrev dS (td ts : Addr) (last N book : Int) (hl rd rl sl : Addr) (y9 y10 y11 y12 : Option V) : L2.St :=
  [some (.ref td), some (.ref ts), some (.int last), some (.int N), some (.int book), some (.ref hl), some (.ref rd), some (.ref rl), some (.ref sl), y9, y10, y11, y12, none]
variable {f : Addr} {cdv : Value} {A : Around} {outer : List Env} {s : Shared} {H0' : Hp} {E : XK}
theorem ld0 (T : Tx K mg) (hr : Room 2 (XD P w K mg base f cdv A outer s H0' E).A) : ∃ tt : TS, PS (XD P w K mg base f cdv A outer s H0' E) (dy 0) tt ∧
    ∀ (D : Ends) (H0 H : Hp) (td ts hl rd rl sl : Addr) (ha ra : List Addr) (ds ss : List Int) (M last book day : Int) (y9 y11 y12 : Option V), Rm.Ring ds.length (at' ds) (at' ss) ss.sum ds.sum M → ss.length = ds.length → ds.length ≤ 8 → (∀ y ∈ ss, y ≤ 12) → Ad H0 ds.length hl rd rl sl ha ra → 0 ≤ day → day ≤ 900 →
      Sim ds ss H0 H hl rd rl sl ha ra (fun j => Cn (at' ds) (at' ss) j (day - 1 + at' ds j)) (fun j => Cn (at' ds) (at' ss) j (day - 1)) → (∃ ys, H sl = some (.lst ys) ∧ ys.length = day.toNat) →
      (∀ H' y9', Sim ds ss H0 H' hl rd rl sl ha ra (fun j => Cn (at' ds) (at' ss) j (day - 1 + at' ds j)) (fun j => Cn (at' ds) (at' ss) j day) → (∃ ys, H' sl = some (.lst ys) ∧ ys.length = day.toNat) → D.nx (dS td ts last ds.length book hl rd rl sl y9' (some (.int day)) y11 y12) H') →
      tt D (dS td ts last ds.length book hl rd rl sl y9 (some (.int day)) y11 y12) H := by
  have nd := sc_ldays.nd
  refine ⟨_, ps_for PassesOwn.never rfl (pi_range1 (by rfl) T.z_range (pa_cons (pv 3) pa_nil)) (pg_name (i := 9) nd rfl (.inl rfl))
    (pss_one (ps_if (PW.pt (pw_and (pt_cmpR op_notN (pe_ix ix_list (pv 6) (pv 9) (fun _ _ => rfl)) pe_non (nomark _)) (pw_and1 (pt_cmpR op_eq (pe_ix ix_tup (pe_ix ix_list (pv 6) (pv 9) (fun _ _ => rfl)) pe_int (fun _ _ => rfl)) (pv 10) (nomark _)))))
      (pss_cons (ps_expr (pe_bm PySem.F.plainAttrs_list PySem.F.slot_list_append PySem.F.type_list_append mt_append (pe_ix ix_list (pv 5) (pe_op op_mod (pe_callTy call_int1 (by rfl) T.z_int (by decide +kernel) (pa_cons (pe_op op_add (pv 9) pe_int) pa_nil)) (pv 3)) (fun _ _ => rfl))
        (pa_cons (pe_tup (pa_cons (pe_ix ix_tup (pe_ix ix_list (pv 6) (pv 9) (fun _ _ => rfl)) pe_int (fun _ _ => rfl)) (pa_cons (pv 10) pa_nil))) pa_nil)))
      (pss_one (ps_asg pe_non (pg_sub (pv 6) (pv 9) set_list)))) pss_nil)), ?_⟩
  intro D H0 H td ts hl rd rl sl ha ra ds ss M last book day y9 y11 y12 RR hss l8 s12 AD d0 d1 S hsl nx
  have hN := RR.pos
  refine ⟨_, rfl, _, rfl, by omega, by omega, ?_⟩
  refine for_range (lo := 0) (n := ((ds.length : Nat) : Int).toNat) (fun i σ H' => (∃ z9, σ = dS td ts last ds.length book hl rd rl sl z9 (some (.int day)) y11 y12) ∧
    Sim ds ss H0 H' hl rd rl sl ha ra (fun j => Cn (at' ds) (at' ss) j (day - 1 + at' ds j)) (fun j => if j < i then Cn (at' ds) (at' ss) j day else Cn (at' ds) (at' ss) j (day - 1)) ∧ (∃ ys, H' sl = some (.lst ys) ∧ ys.length = day.toNat)) ⟨⟨y9, rfl⟩, ?_, hsl⟩ ?_ ?_
  · exact S.congr AD.lh AD.lr (fun j _ => rfl) (fun j _ => if_neg (Nat.not_lt_zero _))
  · rintro i σ H1 hi ⟨⟨z9, rfl⟩, S1, hsl1⟩
    have hi' : i < ds.length := by omega
    obtain ⟨vs, gv, lv, hv⟩ := S1.ord
    obtain ⟨v, v1, v2⟩ := hv i hi'
    have ei : (0 : Int) + (i : Int) = i := by omega
    have hat : atI vs (0 + (i : Int)) = some v := by rw [ei]; exact atI_nat v1
    show tIfS _ _ _ _ (dS td ts last ds.length book hl rd rl sl (some (.int (0 + (i : Int)))) (some (.int day)) y11 y12) H1
    have c1 := cn_day RR (i : Int) day
    obtain ⟨p0, p1, p2⟩ := RR.cn i (day - 1 + at' ds i)
    have hdd := RR.d1 i
    have stay : Cn (at' ds) (at' ss) i day = Cn (at' ds) (at' ss) i (day - 1) → Sim ds ss H0 H1 hl rd rl sl ha ra (fun j => Cn (at' ds) (at' ss) j (day - 1 + at' ds j)) (fun j => if j < i + 1 then Cn (at' ds) (at' ss) j day else Cn (at' ds) (at' ss) j (day - 1)) := fun e => by
      refine S1.congr AD.lh AD.lr (fun j _ => rfl) (fun j hj => ?_)
      show (if j < i + 1 then _ else _) = if j < i then _ else _
      by_cases e1 : j = i
      · subst e1
        rw [if_pos (by omega), if_neg (by omega)]
        exact e
      · by_cases e2 : j < i
        · rw [if_pos (by omega), if_pos e2]
        · rw [if_neg (by omega), if_neg e2]
    have v2' : RdOk H1 ds ss v i (Cn (at' ds) (at' ss) i (day - 1 + at' ds i)) (if i < i then Cn (at' ds) (at' ss) i day else Cn (at' ds) (at' ss) i (day - 1)) := v2
    rw [if_neg (Nat.lt_irrefl i)] at v2'
    refine ⟨_, rfl, _, rfl, rd, vs, _, v, rfl, rfl, .of gv, hat, rfl, _, rfl, ?_⟩
    rcases v2' with ⟨rfl, hbe⟩ | ⟨t, rfl, ht, hbe⟩
    · refine iteF (iteF ⟨⟨_, rfl⟩, stay ?_, hsl1⟩)
      rw [hbe] at p2
      rcases c1 with ⟨c1, _⟩ | ⟨_, c2⟩
      · omega
      · exact c2
    · refine iteT ?_
      refine ⟨_, rfl, _, rfl, rd, vs, _, _, rfl, rfl, .of gv, hat, t, _, 0, _, rfl, rfl, .of ht, atI_nat (j := 0) rfl, _, rfl, rfl, _, rfl, ?_⟩
      rcases c1 with ⟨c1, c2⟩ | ⟨c1, c2⟩
      · rw [decide_eq_true (congrArg V.int c1)]
        refine iteT ?_
        have hnx := Rp.nx_lt hi'
        obtain ⟨a, ga⟩ : ∃ a, ha[Rp.nx ds.length i]? = some a := ⟨_, List.getElem?_eq_getElem (by rw [AD.lh]; exact hnx)⟩
        obtain ⟨xs, gx, tx⟩ := S1.oh _ a ga
        have hatA : atI (ha.map V.ref) ((0 + (i : Int) + 1) % (ds.length : Int)) = some (.ref a) := by
          rw [ei, nx_mod hi']
          exact atI_nat (by rw [List.getElem?_map, ga]; rfl)
        refine ⟨_, rfl, _, rfl, _, _, rfl, rfl, .inl ⟨_, rfl, _, rfl, _, _, rfl, rfl, by show (0 : Int) < ((ds.length : Nat) : Int); omega, hl, _, _, _, rfl, rfl, .of S1.ohl, hatA, ?_⟩⟩
        refine ⟨.inl ⟨rfl, _, SqL.of gx⟩, _, rfl, _, rfl, rd, vs, _, _, rfl, rfl, .of gv, hat, t, _, 1, _, rfl, rfl, .of ht, atI_nat (j := 1) rfl, _, rfl, (by show 2 ≤ sizeLine; decide), fun t2 ht2 => ?_⟩
        have s2 := same_upd (o := .tup [.int (bk ss i (Cn (at' ds) (at' ss) i (day - 1))), .int day]) ht2
        have lx : xs.length < sizeLine := by
          rw [tx.length, seg_length]
          refine small1000 ?_
          have q1 : at' ss (Rp.nx ds.length i : Nat) ≤ 12 := s12 _ (at_mem (by omega) _)
          have q2 : (if prv ds.length (Rp.nx ds.length i) < i then Cn (at' ds) (at' ss) (prv ds.length (Rp.nx ds.length i)) day else Cn (at' ds) (at' ss) (prv ds.length (Rp.nx ds.length i)) (day - 1)) ≤ day := by
            split
            · exact cn_le RR d0
            · exact Int.le_trans (cn_mono RR _ (by omega)) (cn_le RR d0)
          have q3 := S1.b0 _ hnx
          omega
        refine ⟨a, xs, _, rfl, rfl, s2 _ _ gx, lx, ?_⟩
        have na : rd ≠ a := (AD.nh a (List.mem_of_getElem? ga)).2.1.symm
        refine ⟨_, rfl, _, rfl, rd, vs, _, i, rfl, rfl, ?_, ?_, ?_⟩
        · rw [upd_ne na]
          exact s2 _ _ gv
        · rw [ei]
          exact ixN_nat (by omega)
        · rw [ei]
          have nt : t2 ≠ a ∧ t2 ≠ rd := ⟨(ne_of_none gx ht2).symm, (ne_of_none gv ht2).symm⟩
          have S2 := S1.ends RR hss AD hi' (H' := upd (upd (upd H1 t2 (.tup [.int (bk ss i (Cn (at' ds) (at' ss) i (day - 1))), .int day])) a (.lst (xs ++ [.ref t2]))) rd (.lst (vs.set i .non))) (j := i) (by show Cn _ _ _ _ = (if i < i then _ else _) + 1; rw [if_neg (Nat.lt_irrefl i)]; exact hbe) ga gx gv
            (fun x o h n1 n2 => by rw [upd_ne n2, upd_ne n1]; exact s2 _ _ h) (by rw [upd_ne na.symm, upd_same]) upd_same
            (by
              rw [upd_ne nt.2, upd_ne nt.1, upd_same]
              show _ = some (HO.tup [.int (bk ss i (if i < i then _ else Cn (at' ds) (at' ss) i (day - 1))), .int (Rm.E (at' ds) (at' ss) i (if i < i then _ else Cn (at' ds) (at' ss) i (day - 1)))])
              rw [if_neg (Nat.lt_irrefl i), c1])
          refine ⟨⟨_, rfl⟩, S2.congr AD.lh AD.lr (fun j _ => rfl) (fun j hj => ?_), ?_⟩
          · show (if j < i + 1 then _ else _) = if j = i then (if i < i then _ else _) + 1 else if j < i then _ else _
            by_cases e1 : j = i
            · subst e1
              rw [if_pos (by omega), if_pos rfl, if_neg (Nat.lt_irrefl j)]
              exact c2
            · by_cases e2 : j < i
              · rw [if_pos (by omega), if_neg e1, if_pos e2]
              · rw [if_neg (by omega), if_neg e1, if_neg e2]
          · obtain ⟨ys, h1, h2⟩ := hsl1
            refine ⟨ys, ?_, h2⟩
            rw [upd_ne AD.n5.symm, upd_ne (AD.nh a (List.mem_of_getElem? ga)).2.2.2.symm]
            exact s2 _ _ h1
      · rw [decide_eq_false (fun z => c1 (V.int.inj z))]
        exact iteF ⟨⟨_, rfl⟩, stay c2, hsl1⟩
  · rintro σ H1 ⟨⟨z9, rfl⟩, S1, hsl1⟩
    refine nx H1 z9 (S1.congr AD.lh AD.lr (fun j _ => rfl) (fun j hj => ?_)) hsl1
    show _ = if j < _ then _ else _
    rw [if_pos (by omega)]
end
end Rp
namespace Rp
open PySem PySem.Spec PyProof.Rows L2 Rz Rm
section
variable {P : Program} {w : World} {K : PySem.W.Frag} {mg : Str → Option Value} {base : Heap}
variable {f : Addr} {cdv : Value} {A : Around} {outer : List Env} {s : Shared} {H0' : Hp} {E : XK}
theorem ld1 (T : Tx K mg) (hr : Room 2 (XD P w K mg base f cdv A outer s H0' E).A) : ∃ tt : TS, PS (XD P w K mg base f cdv A outer s H0' E) (dy 1) tt ∧
    ∀ (D : Ends) (H0 H : Hp) (td ts hl rd rl sl : Addr) (ha ra : List Addr) (ds ss : List Int) (M last book day : Int) (y9 y11 y12 : Option V), Rm.Ring ds.length (at' ds) (at' ss) ss.sum ds.sum M → ss.length = ds.length → ds.length ≤ 8 → Ad H0 ds.length hl rd rl sl ha ra → 0 ≤ day → day ≤ 900 → H0 td = some (.tup (ds.map V.int)) → (∀ j, at' ds j ≤ 30) →
      Sim ds ss H0 H hl rd rl sl ha ra (fun j => Cn (at' ds) (at' ss) j (day - 1 + at' ds j)) (fun j => Cn (at' ds) (at' ss) j day) → (∃ ys, H sl = some (.lst ys) ∧ ys.length = day.toNat) →
      (∀ H' y9' y11' y12', Sim ds ss H0 H' hl rd rl sl ha ra (fun j => Cn (at' ds) (at' ss) j (day + at' ds j)) (fun j => Cn (at' ds) (at' ss) j day) → (∃ ys, H' sl = some (.lst ys) ∧ ys.length = day.toNat) → D.nx (dS td ts last ds.length book hl rd rl sl y9' (some (.int day)) y11' y12') H') →
      tt D (dS td ts last ds.length book hl rd rl sl y9 (some (.int day)) y11 y12) H := by
  have nd := sc_ldays.nd
  refine ⟨_, ps_for PassesOwn.never rfl (pi_range1 (by rfl) T.z_range (pa_cons (pv 3) pa_nil)) (pg_name (i := 9) nd rfl (.inl rfl))
    (pss_one (ps_if (PW.pt (pw_and (pt_cmpR op_isN (pe_ix ix_list (pv 6) (pv 9) (fun _ _ => rfl)) pe_non (nomark _)) (pw_and1 (pt_cmpR (op_neD hr.units) (pe_ix ix_list (pv 5) (pv 9) (fun _ _ => rfl)) (pe_lst pa_nil) (nomark _)))))
      (pss_cons (ps_asg (pe_bm PySem.F.plainAttrs_list PySem.F.slot_list_pop PySem.F.type_list_pop mt_popAt (pe_ix ix_list (pv 5) (pv 9) (fun _ _ => rfl)) (pa_cons pe_int pa_nil)) (pg_tup rfl (pgs_cons (pg_name (i := 11) nd rfl (.inl rfl)) (pgs_cons (pg_name (i := 12) nd rfl (.inl rfl)) pgs_nil))))
      (pss_cons (ps_asg (pe_tup (pa_cons (pe_op op_add (pv 10) (pe_ix ix_tup (pv 0) (pv 9) (fun _ _ => rfl))) (pa_cons (pv 11) pa_nil))) (pg_sub (pv 6) (pv 9) set_list))
      (pss_one (ps_expr (pe_bm PySem.F.plainAttrs_list PySem.F.slot_list_append PySem.F.type_list_append mt_append (pe_ix ix_list (pv 7) (pv 9) (fun _ _ => rfl))
        (pa_cons (pe_tup (pa_cons (pv 10) (pa_cons (pe_op op_add (pv 10) (pe_ix ix_tup (pv 0) (pv 9) (fun _ _ => rfl))) (pa_cons (pv 11) (pa_cons (pv 12) pa_nil))))) pa_nil)))))) pss_nil)), ?_⟩
  intro D H0 H td ts hl rd rl sl ha ra ds ss M last book day y9 y11 y12 RR hss l8 AD d0 d1 htd d30 S hsl nx
  have hN := RR.pos
  refine ⟨_, rfl, _, rfl, by omega, by omega, ?_⟩
  refine for_range (lo := 0) (n := ((ds.length : Nat) : Int).toNat) (fun i σ H' => (∃ z9 z11 z12, σ = dS td ts last ds.length book hl rd rl sl z9 (some (.int day)) z11 z12) ∧
    Sim ds ss H0 H' hl rd rl sl ha ra (fun j => if j < i then Cn (at' ds) (at' ss) j (day + at' ds j) else Cn (at' ds) (at' ss) j (day - 1 + at' ds j)) (fun j => Cn (at' ds) (at' ss) j day) ∧ (∃ ys, H' sl = some (.lst ys) ∧ ys.length = day.toNat)) ⟨⟨y9, y11, y12, rfl⟩, ?_, hsl⟩ ?_ ?_
  · exact S.congr AD.lh AD.lr (fun j _ => if_neg (Nat.not_lt_zero _)) (fun j _ => rfl)
  · rintro i σ H1 hi ⟨⟨z9, z11, z12, rfl⟩, S1, hsl1⟩
    have hi' : i < ds.length := by omega
    obtain ⟨vs, gv, lv, hv⟩ := S1.ord
    obtain ⟨v, v1, v2⟩ := hv i hi'
    have ei : (0 : Int) + (i : Int) = i := by omega
    have hat : atI vs (0 + (i : Int)) = some v := by rw [ei]; exact atI_nat v1
    show tIfS _ _ _ _ (dS td ts last ds.length book hl rd rl sl (some (.int (0 + (i : Int)))) (some (.int day)) z11 z12) H1
    have c1 := cn_busy RR (i : Int) day
    have c2 := RR.cn_next i day
    have c3 := cn_mono RR (i : Int) (show day - 1 + at' ds i ≤ day + at' ds i by omega)
    have hdd := RR.d1 i
    have stay : ∀ Hx, Same H1 Hx → Cn (at' ds) (at' ss) i (day + at' ds i) = Cn (at' ds) (at' ss) i (day - 1 + at' ds i) → Sim ds ss H0 Hx hl rd rl sl ha ra (fun j => if j < i + 1 then Cn (at' ds) (at' ss) j (day + at' ds j) else Cn (at' ds) (at' ss) j (day - 1 + at' ds j)) (fun j => Cn (at' ds) (at' ss) j day) := fun Hx sx e => by
      refine (S1.same sx).congr AD.lh AD.lr (fun j hj => ?_) (fun j _ => rfl)
      show (if j < i + 1 then _ else _) = if j < i then _ else _
      by_cases e1 : j = i
      · subst e1
        rw [if_pos (by omega), if_neg (by omega)]
        exact e
      · by_cases e2 : j < i
        · rw [if_pos (by omega), if_pos e2]
        · rw [if_neg (by omega), if_neg e2]
    have v2' : RdOk H1 ds ss v i (if i < i then Cn (at' ds) (at' ss) i (day + at' ds i) else Cn (at' ds) (at' ss) i (day - 1 + at' ds i)) (Cn (at' ds) (at' ss) i day) := v2
    rw [if_neg (Nat.lt_irrefl i)] at v2'
    refine ⟨_, rfl, _, rfl, rd, vs, _, v, rfl, rfl, .of gv, hat, rfl, _, rfl, ?_⟩
    rcases v2' with ⟨rfl, hbe⟩ | ⟨t, rfl, ht, hbe⟩
    · refine iteT ?_
      obtain ⟨a, ga⟩ : ∃ a, ha[i]? = some a := ⟨_, List.getElem?_eq_getElem (by rw [AD.lh]; exact hi')⟩
      obtain ⟨xs, gx, tx⟩ := S1.oh _ a ga
      have tx' : Tups H1 xs (seg (item ds ss i) (if i < i then Cn (at' ds) (at' ss) i (day + at' ds i) else Cn (at' ds) (at' ss) i (day - 1 + at' ds i)) (at' ss i + Cn (at' ds) (at' ss) (prv ds.length i : Nat) day)) := tx
      rw [if_neg (Nat.lt_irrefl i), hbe, Cn_prv RR hi'] at tx'
      have hle := S1.le i hi'
      have hle' : (if i < i then Cn (at' ds) (at' ss) i (day + at' ds i) else Cn (at' ds) (at' ss) i (day - 1 + at' ds i)) ≤ at' ss i + Cn (at' ds) (at' ss) (prv ds.length i : Nat) day := hle
      rw [if_neg (Nat.lt_irrefl i), hbe, Cn_prv RR hi'] at hle'
      have hatA : atI (ha.map V.ref) (0 + (i : Int)) = some (.ref a) := by
        rw [ei]
        exact atI_nat (by rw [List.getElem?_map, ga]; rfl)
      refine ⟨_, rfl, _, rfl, hl, _, _, _, rfl, rfl, .of S1.ohl, hatA, Nat.zero_le _, fun e he => ?_⟩
      have s1 := same_upd (o := .lst []) he
      refine ⟨_, .list [], .lst (.of (s1 _ _ gx)) (Tups.data (tx'.mono fun b xs h => s1 _ _ h)), .lst (.of upd_same) .nil, shaped_tups _, shaped_tups [], _, rfl, ?_⟩
      rcases Int.lt_or_le (Cn (at' ds) (at' ss) i day) (at' ss i + Cn (at' ds) (at' ss) (i - 1) day) with hlt | hge
      · obtain ⟨c4, c5⟩ := cn_begin RR d0 hbe hlt
        rw [seg_cons hlt] at tx' ⊢
        refine iteT ?_
        cases tx' with
        | cons hx rx =>
          rename_i x xs
          obtain ⟨tt, rfl, htt⟩ := hx
          have S2 := S1.same s1
          have gx2 := s1 _ _ gx
          have gv2 := s1 _ _ gv
          have htt2 := s1 _ _ htt
          have htd2 : (upd H1 e (.lst [])) td = some (.tup (ds.map V.int)) := S2.sm _ _ htd
          obtain ⟨c, gc⟩ : ∃ c, ra[i]? = some c := ⟨_, List.getElem?_eq_getElem (by rw [AD.lr]; exact hi')⟩
          obtain ⟨ys, gy, ty⟩ := S2.orr _ c gc
          have hatC : atI (ra.map V.ref) (0 + (i : Int)) = some (.ref c) := by
            rw [ei]
            exact atI_nat (by rw [List.getElem?_map, gc]; rfl)
          have hatD : atI (ds.map V.int) (0 + (i : Int)) = some (.int (at' ds i)) := by
            rw [ei]
            exact at_ix (by omega) (by omega)
          have ly : ys.length < sizeLine := by
            rw [ty.length, seg_length]
            refine small1000 ?_
            have q1 : (if i < i then Cn (at' ds) (at' ss) i (day + at' ds i) else Cn (at' ds) (at' ss) i (day - 1 + at' ds i)) ≤ 1000 := by
              rw [if_neg (Nat.lt_irrefl i)]
              have := cn_le RR (j := i) (D := day - 1 + at' ds i) (by omega)
              have := d30 i
              omega
            omega
          have hohl := S2.ohl
          have horl := S2.orl
          obtain ⟨zs, hz1, hz2⟩ := hsl1
          have hz1 := s1 _ _ hz1
          generalize (upd H1 e (.lst [])) = H2 at S2 gx2 gv2 htt2 htd2 gy ty hohl horl hz1
          have am := List.mem_of_getElem? ga
          have cmm := List.mem_of_getElem? gc
          refine ⟨_, rfl, _, rfl, hl, _, _, _, rfl, rfl, .of hohl, hatA, .inl ⟨rfl, _, SqL.of gx2⟩, a, _, 0, 0, _, rfl, rfl, gx2, by decide, by decide, ?_, rfl, ?_⟩
          · show (if (0 ≤ (0 : Int)) && ((0 : Int) < ((V.ref tt :: xs).length : Nat)) then some (0 : Int).toNat else none) = some 0
            rw [if_pos (by rw [List.length_cons]; simp)]
            rfl
          have nat : tt ≠ a := ne_of htt2 gx2 (by intro z; cases z)
          have ntd : td ≠ a := ne_of htd2 gx2 (by intro z; cases z)
          have htt3 : (upd H2 a (.lst (List.eraseIdx (V.ref tt :: xs) 0))) tt = some (.tup [.int (bk ss i (Cn (at' ds) (at' ss) i day)), .int (cm ds ss i (Cn (at' ds) (at' ss) i day))]) := by
            rw [upd_ne nat]
            exact htt2
          refine ⟨tt, _, rfl, .of htt3, rfl, _, _, rfl, _, _, rfl, rfl, ?_⟩
          have htd3 : (upd H2 a (.lst (List.eraseIdx (V.ref tt :: xs) 0))) td = some (.tup (ds.map V.int)) := by
            rw [upd_ne ntd]
            exact htd2
          refine ⟨_, rfl, _, rfl, _, rfl, td, _, _, _, rfl, rfl, .of htd3, hatD, _, _, rfl, rfl, _, rfl, (by show 2 ≤ sizeLine; decide), fun t hT => ?_⟩
          have s3 := same_upd (o := .tup [.int (day + at' ds i), .int (bk ss i (Cn (at' ds) (at' ss) i day))]) hT
          have nrd : rd ≠ a := (AD.nh a am).2.1.symm
          have gv4 := s3 _ _ (show (upd H2 a (.lst (List.eraseIdx (V.ref tt :: xs) 0))) rd = some (.lst vs) by rw [upd_ne nrd]; exact gv2)
          refine ⟨_, rfl, _, rfl, rd, vs, _, i, rfl, rfl, gv4, by rw [ei]; exact ixN_nat (by omega), ?_⟩
          have nrl : rl ≠ a := (AD.nh a am).2.2.1.symm
          have nca : c ≠ a := (AD.nhr a am c cmm).symm
          have ncrd : c ≠ rd := (AD.nr c cmm).2.1
          have htd4 := s3 _ _ htd3
          have ntr : td ≠ rd := ne_of htd2 gv2 (by intro z; cases z)
          have K4 : ∀ z o, H2 z = some o → z ≠ a → z ≠ rd → (upd (upd (upd H2 a (.lst (List.eraseIdx (V.ref tt :: xs) 0))) t (.tup [.int (day + at' ds i), .int (bk ss i (Cn (at' ds) (at' ss) i day))])) rd (.lst (vs.set i (.ref t)))) z = some o := fun z o h n1 n2 => by
            rw [upd_ne n2]
            exact s3 _ _ (by rw [upd_ne n1]; exact h)
          have hor4 := K4 _ _ horl nrl AD.n4.symm
          have gy4 := K4 _ _ gy nca ncrd
          have gz4 := K4 _ _ hz1 (AD.nh a am).2.2.2.symm AD.n5.symm
          have gd4 := K4 _ _ htd2 ntd ntr
          have ga4 : (upd (upd (upd H2 a (.lst (List.eraseIdx (V.ref tt :: xs) 0))) t (.tup [.int (day + at' ds i), .int (bk ss i (Cn (at' ds) (at' ss) i day))])) rd (.lst (vs.set i (.ref t)))) a = some (.lst xs) := by
            rw [upd_ne nrd.symm]
            exact s3 _ _ upd_same
          have gr4 : (upd (upd (upd H2 a (.lst (List.eraseIdx (V.ref tt :: xs) 0))) t (.tup [.int (day + at' ds i), .int (bk ss i (Cn (at' ds) (at' ss) i day))])) rd (.lst (vs.set i (.ref t)))) rd = some (.lst (vs.set i (.ref t))) := upd_same
          have ntr2 : t ≠ rd := (ne_of_none (show (upd H2 a (.lst (List.eraseIdx (V.ref tt :: xs) 0))) rd = some (.lst vs) by rw [upd_ne nrd]; exact gv2) hT).symm
          have gt4 : (upd (upd (upd H2 a (.lst (List.eraseIdx (V.ref tt :: xs) 0))) t (.tup [.int (day + at' ds i), .int (bk ss i (Cn (at' ds) (at' ss) i day))])) rd (.lst (vs.set i (.ref t)))) t = some (.tup [.int (day + at' ds i), .int (bk ss i (Cn (at' ds) (at' ss) i day))]) := by
            rw [upd_ne ntr2, upd_same]
          generalize (upd (upd (upd H2 a (.lst (List.eraseIdx (V.ref tt :: xs) 0))) t (.tup [.int (day + at' ds i), .int (bk ss i (Cn (at' ds) (at' ss) i day))])) rd (.lst (vs.set i (.ref t)))) = H4 at K4 hor4 gy4 gz4 gd4 ga4 gr4 gt4
          refine ⟨_, rfl, _, rfl, rl, _, _, _, rfl, rfl, .of hor4, hatC, .inl ⟨rfl, _, SqL.of gy4⟩, _, rfl, _, rfl, _, rfl, _, rfl, td, _, _, _, rfl, rfl, .of gd4, hatD, _, _, rfl, rfl, _, rfl, _, rfl, (by show 4 ≤ sizeLine; decide), fun t2 hT2 => ?_⟩
          have s5 := same_upd (o := .tup [.int day, .int (day + at' ds i), .int (bk ss i (Cn (at' ds) (at' ss) i day)), .int (cm ds ss i (Cn (at' ds) (at' ss) i day))]) hT2
          refine ⟨c, ys, _, rfl, rfl, s5 _ _ gy4, ly, ?_⟩
          have nt2c : t2 ≠ c := (ne_of_none gy4 hT2).symm
          have nac := nca.symm
          have S3 := S2.begins AD hi' (H' := upd (upd H4 t2 (.tup [.int day, .int (day + at' ds i), .int (bk ss i (Cn (at' ds) (at' ss) i day)), .int (cm ds ss i (Cn (at' ds) (at' ss) i day))])) c (.lst (ys ++ [.ref t2])))
            (by show (if i < i then _ else _) = _; rw [if_neg (Nat.lt_irrefl i)]; exact hbe)
            (by show (if i < i then _ else _) < at' ss i + Cn (at' ds) (at' ss) (prv ds.length i : Nat) day; rw [if_neg (Nat.lt_irrefl i), hbe, Cn_prv RR hi']; exact hlt)
            ga gx2 gv2 gc gy (t := t) (t2 := t2) (fun z o h n1 n2 n3 => by rw [upd_ne n3]; exact s5 _ _ (K4 z o h n1 n2)) (by rw [upd_ne nac]; exact s5 _ _ ga4) (by rw [upd_ne ncrd.symm]; exact s5 _ _ gr4) upd_same
            (by
              rw [upd_ne (ne_of gt4 gy4 (by intro z; cases z))]
              rw [c4]
              exact s5 _ _ gt4)
            (by
              rw [upd_ne nt2c, upd_same]
              show _ = some (HO.tup ((rowOf ds ss i (if i < i then _ else Cn (at' ds) (at' ss) i (day - 1 + at' ds i))).map V.int))
              rw [if_neg (Nat.lt_irrefl i), hbe]
              show _ = some (HO.tup [.int (Rm.E (at' ds) (at' ss) i (Cn (at' ds) (at' ss) i day) - at' ds i), .int (Rm.E (at' ds) (at' ss) i (Cn (at' ds) (at' ss) i day)), _, _])
              rw [c4, show day + at' ds i - at' ds i = day by omega])
          refine ⟨⟨_, _, _, rfl⟩, S3.congr AD.lh AD.lr (fun j hj => ?_) (fun j _ => rfl), zs, ?_, hz2⟩
          · show (if j < i + 1 then _ else _) = if j = i then (if i < i then _ else _) + 1 else if j < i then _ else _
            by_cases e1 : j = i
            · subst e1
              rw [if_pos (by omega), if_pos rfl, if_neg (Nat.lt_irrefl j), hbe]
              exact c5
            · by_cases e2 : j < i
              · rw [if_pos (by omega), if_neg e1, if_pos e2]
              · rw [if_neg (by omega), if_neg e1, if_neg e2]
          · rw [upd_ne (AD.nr c cmm).2.2.2.symm]
            exact s5 _ _ gz4
      · rw [seg_nil hge] at tx' ⊢
        refine iteF ⟨⟨_, _, _, rfl⟩, stay _ s1 ?_, ?_⟩
        · have := cn_waits RR (j := i) (D := day) (by omega)
          omega
        · obtain ⟨ys, h1, h2⟩ := hsl1
          exact ⟨ys, s1 _ _ h1, h2⟩
    · refine iteF (iteF ⟨⟨_, _, _, rfl⟩, stay _ (fun _ _ h => h) (by omega), hsl1⟩)
  · rintro σ H1 ⟨⟨z9, z11, z12, rfl⟩, S1, hsl1⟩
    refine nx H1 z9 z11 z12 (S1.congr AD.lh AD.lr (fun j hj => ?_) (fun j hj => rfl)) hsl1
    show _ = if j < _ then _ else _
    rw [if_pos (by omega)]
end
end Rp
namespace Rp
open PySem PySem.Spec PyProof.Rows L2 Rz Rm
section
variable {P : Program} {w : World} {K : PySem.W.Frag} {mg : Str → Option Value} {base : Heap}
variable {f : Addr} {cdv : Value} {A : Around} {outer : List Env} {s : Shared} {H0' : Hp} {E : XK}
theorem ld2 (T : Tx K mg) (hr : Room 2 (XD P w K mg base f cdv A outer s H0' E).A) : ∃ tt : TS, PS (XD P w K mg base f cdv A outer s H0' E) (dy 2) tt ∧
    ∀ (D : Ends) (H0 H : Hp) (td ts hl rd rl sl : Addr) (ha ra : List Addr) (ds ss : List Int) (last book day : Int) (b e : Nat → Int) (y9 y11 y12 : Option V), ds.length ≤ 8 → Ad H0 ds.length hl rd rl sl ha ra → 0 ≤ day → day ≤ 900 →
      Sim ds ss H0 H hl rd rl sl ha ra b e → (∃ ys, H sl = some (.lst ys) ∧ ys.length = day.toNat) →
      (∀ H', Sim ds ss H0 H' hl rd rl sl ha ra b e → (∃ ys, H' sl = some (.lst ys) ∧ ys.length = day.toNat + 1) → D.nx (dS td ts last ds.length book hl rd rl sl y9 (some (.int day)) y11 y12) H') →
      tt D (dS td ts last ds.length book hl rd rl sl y9 (some (.int day)) y11 y12) H := by
  have nd := sc_ldays.nd
  refine ⟨_, ps_expr (pe_bm PySem.F.plainAttrs_list PySem.F.slot_list_append PySem.F.type_list_append mt_append (pv 8) (pa_cons (pe_lc (own := [("_law_heap", 13)]) rfl nd (pi_list (pv 5)) (blkOk_by (N := N_ldays) (sc := defScope s_ldays) (by decide +kernel))
      (fun _ _ _ _ _ => pg_name (i := 13) nd rfl (.inl rfl)) (fun _ _ _ _ _ => pts_nil)
      (fun _ _ _ _ _ => pe_callB (r := fun xs H Q => ∃ p ys, xs = [.ref p] ∧ (SqL K H p ys ∨ SqT K H p ys) ∧ Q (.int ys.length) H) call_len_seq (by rfl) T.z_len PySem.boot_len (pa_cons (pv 13) pa_nil))) pa_nil)), ?_⟩
  intro D H0 H td ts hl rd rl sl ha ra ds ss last book day b e y9 y11 y12 l8 AD d0 d1 S hsl nx
  obtain ⟨ys, hsl, lys⟩ := hsl
  refine ⟨_, rfl, .inl ⟨rfl, _, SqL.of hsl⟩, _, rfl, hl, rfl, ⟨_, .of S.ohl⟩, fun L hL => lc_list (xs := ha.map V.ref) (fun i H' => Same H H' ∧ ∃ acc, H' L = some (.lst acc) ∧ acc.length = i) ⟨same_upd hL, [], upd_same, rfl⟩ (fun i H' _ p => .of (p.1 _ _ S.ohl)) ?_ ?_⟩
  · rintro i x H1 hx ⟨s1, acc, hacc, lacc⟩
    have hi : i < (ha.map V.ref).length := (List.getElem?_eq_some_iff.mp hx).1
    rw [List.length_map, AD.lh] at hi
    obtain ⟨a, ga, rfl⟩ : ∃ a, ha[i]? = some a ∧ V.ref a = x := by
      rw [List.getElem?_map] at hx
      cases h : ha[i]? with
      | none => rw [h] at hx; cases hx
      | some a => rw [h] at hx; exact ⟨a, rfl, Option.some.inj hx⟩
    obtain ⟨xs, gx, _⟩ := S.oh i a ga
    refine ⟨rfl, lc_keep ?_⟩
    refine ⟨_, rfl, a, xs, rfl, .inl (.of (s1 _ _ gx)), acc, hacc, small1000 (by omega), fun z o h => ?_, _, upd_same, by rw [List.length_append, lacc]; rfl⟩
    rw [upd_ne (ne_of_none h hL)]
    exact s1 _ _ h
  · rintro H1 ⟨s1, acc, hacc, _⟩
    refine ⟨sl, ys, _, rfl, rfl, s1 _ _ hsl, small1000 (by omega), ?_⟩
    refine nx _ ((S.same s1).sight AD ⟨ys, s1 _ _ hsl⟩ fun x o h n => by rw [upd_ne n]; exact h) ⟨_, upd_same, by rw [List.length_append, lys]; rfl⟩
theorem ld3 (T : Tx K mg) (hr : Room 2 (XD P w K mg base f cdv A outer s H0' E).A) : ∃ tt : TS, PS (XD P w K mg base f cdv A outer s H0' E) (db 3) tt ∧
    ∀ (D : Ends) (H0 H : Hp) (td ts hl rd rl sl : Addr) (ha ra : List Addr) (ds ss : List Int) (M last book : Int) (y9 y10 y11 y12 : Option V), Rm.Ring ds.length (at' ds) (at' ss) ss.sum ds.sum M → ss.length = ds.length → ds.length ≤ 8 → (∀ y ∈ ss, y ≤ 12) → (∀ j, at' ds j ≤ 30) → Ad H0 ds.length hl rd rl sl ha ra → H0 td = some (.tup (ds.map V.int)) → 0 ≤ last → last ≤ 800 →
      Sim ds ss H0 H hl rd rl sl ha ra (fun j => 0) (fun j => 0) → H sl = some (.lst []) →
      (∀ H' y9' y10' y11' y12', Sim ds ss H0 H' hl rd rl sl ha ra (fun j => Cn (at' ds) (at' ss) j (last + at' ds j)) (fun j => Cn (at' ds) (at' ss) j last) → D.nx (dS td ts last ds.length book hl rd rl sl y9' y10' y11' y12') H') →
      tt D (dS td ts last ds.length book hl rd rl sl y9 y10 y11 y12) H := by
  have nd := sc_ldays.nd
  obtain ⟨t0, p0, r0⟩ := ld0 (P := P) (w := w) (base := base) (f := f) (cdv := cdv) (A := A) (outer := outer) (s := s) (H0' := H0') (E := E) T hr
  obtain ⟨t1, p1, r1⟩ := ld1 (P := P) (w := w) (base := base) (f := f) (cdv := cdv) (A := A) (outer := outer) (s := s) (H0' := H0') (E := E) T hr
  obtain ⟨t2, p2, r2⟩ := ld2 (P := P) (w := w) (base := base) (f := f) (cdv := cdv) (A := A) (outer := outer) (s := s) (H0' := H0') (E := E) T hr
  refine ⟨_, ps_for PassesOwn.never rfl (pi_range1 (by rfl) T.z_range (pa_cons (pe_op op_add (pv 2) pe_int) pa_nil)) (pg_name (i := 10) nd rfl (.inl rfl)) (pss_cons p0 (pss_cons p1 (pss_one p2))), ?_⟩
  intro D H0 H td ts hl rd rl sl ha ra ds ss M last book y9 y10 y11 y12 RR hss l8 s12 d30 AD htd l0 l1 S hsl nx
  refine ⟨_, rfl, _, _, rfl, rfl, _, rfl, by omega, by omega, ?_⟩
  refine for_range (lo := 0) (n := (last + 1).toNat) (fun i σ H' => (∃ z9 z10 z11 z12, σ = dS td ts last ds.length book hl rd rl sl z9 z10 z11 z12) ∧
    Sim ds ss H0 H' hl rd rl sl ha ra (fun j => Cn (at' ds) (at' ss) j ((i : Int) - 1 + at' ds j)) (fun j => Cn (at' ds) (at' ss) j ((i : Int) - 1)) ∧ ∃ ys, H' sl = some (.lst ys) ∧ ys.length = i) ⟨⟨y9, y10, y11, y12, rfl⟩, ?_, [], hsl, rfl⟩ ?_ ?_
  · refine S.congr AD.lh AD.lr (fun j _ => ?_) (fun j _ => ?_)
    · exact cn_zero RR (by omega)
    · have := RR.d1 j
      exact cn_zero RR (by omega)
  · rintro i σ H1 hi ⟨⟨z9, z10, z11, z12, rfl⟩, S1, ys, hys, lys⟩
    have ei : (0 : Int) + (i : Int) = i := by omega
    show tSeq _ _ _ (dS td ts last ds.length book hl rd rl sl z9 (some (.int (0 + (i : Int)))) z11 z12) H1
    rw [ei]
    refine r0 _ H0 H1 td ts hl rd rl sl ha ra ds ss M last book i z9 z11 z12 RR hss l8 s12 AD (by omega) (by omega) S1 ⟨ys, hys, by omega⟩ fun H2 x9 S2 hs2 => ?_
    refine r1 _ H0 H2 td ts hl rd rl sl ha ra ds ss M last book i x9 z11 z12 RR hss l8 AD (by omega) (by omega) htd d30 S2 hs2 fun H3 w9 w11 w12 S3 hs3 => ?_
    refine r2 _ H0 H3 td ts hl rd rl sl ha ra ds ss last book i _ _ w9 w11 w12 l8 AD (by omega) (by omega) S3 hs3 fun H4 S4 hs4 => ?_
    obtain ⟨ys4, h41, h42⟩ := hs4
    refine ⟨⟨_, _, _, _, rfl⟩, S4.congr AD.lh AD.lr (fun j _ => ?_) (fun j _ => ?_), ys4, h41, by omega⟩
    · show Cn _ _ _ (((i + 1 : Nat) : Int) - 1 + _) = _
      rw [show ((i + 1 : Nat) : Int) - 1 = i by omega]
    · show Cn _ _ _ (((i + 1 : Nat) : Int) - 1) = _
      rw [show ((i + 1 : Nat) : Int) - 1 = i by omega]
  · rintro σ H1 ⟨⟨z9, z10, z11, z12, rfl⟩, S1, _⟩
    refine nx H1 z9 z10 z11 z12 (S1.congr AD.lh AD.lr (fun j _ => ?_) (fun j _ => ?_))
    · show _ = Cn _ _ _ ((((last + 1).toNat : Nat) : Int) - 1 + _)
      rw [show ((((last + 1).toNat : Nat) : Int)) - 1 = last by omega]
    · show _ = Cn _ _ _ ((((last + 1).toNat : Nat) : Int) - 1)
      rw [show ((((last + 1).toNat : Nat) : Int)) - 1 = last by omega]
end
end Rp
namespace Rp
open PySem PySem.Spec PyProof.Rows L2 Rz Rm
theorem nodup_snoc {l : List Addr} {a : Addr} (h : l.Nodup) (n : a ∉ l) : (l ++ [a]).Nodup := by
  rw [List.nodup_append]
  refine ⟨h, List.nodup_cons.mpr ⟨List.not_mem_nil, List.nodup_nil⟩, fun x hx y hy e => ?_⟩
  have := List.mem_singleton.mp hy
  subst this
  subst e
  exact n hx
theorem get_snoc {α : Type} {l : List α} {x y : α} {j : Nat} (h : (l ++ [x])[j]? = some y) : l[j]? = some y ∨ (j = l.length ∧ x = y) := by
  by_cases c : j < l.length
  · rw [List.getElem?_append_left c] at h
    exact .inl h
  · rw [List.getElem?_append_right (by omega)] at h
    obtain ⟨h1, h2⟩ := List.getElem?_eq_some_iff.mp h
    rw [List.length_singleton] at h1
    refine .inr ⟨by omega, ?_⟩
    simpa [show j - l.length = 0 by omega] using h2
theorem rep_one (n : Nat) : (List.replicate n [V.non]).flatten = List.replicate n V.non := by
  induction n with
  | zero => rfl
  | succ n ih =>
    rw [List.replicate_succ, List.flatten_cons, ih, List.replicate_succ]
    rfl
theorem take_succ {l : List Int} {i : Nat} (h : i < l.length) : (l.take (i + 1)).sum = (l.take i).sum + at' l i := by
  rw [List.take_add_one, List.getElem?_eq_getElem h, List.sum_append]
  have : at' l i = l[i] := at_nat (List.getElem?_eq_getElem h)
  rw [this]
  simp
theorem take_le {l : List Int} (h0 : ∀ y ∈ l, 0 ≤ y) (i : Nat) : 0 ≤ (l.take i).sum ∧ (l.take i).sum ≤ l.sum := by
  induction l generalizing i with
  | nil => simp
  | cons a r ih =>
    have ha := h0 a List.mem_cons_self
    have hr : ∀ y ∈ r, 0 ≤ y := fun y hy => h0 y (List.mem_cons_of_mem _ hy)
    cases i with
    | zero =>
      have := (ih hr r.length).2
      have := (ih hr r.length).1
      have := mem_le_sum.sum_nonneg' hr
      simp
      omega
    | succ i =>
      have := ih hr i
      rw [List.take_succ_cons, List.sum_cons, List.sum_cons]
      omega
section
variable {P : Program} {w : World} {K : PySem.W.Frag} {mg : Str → Option Value} {base : Heap}
variable {f : Addr} {cdv : Value} {A : Around} {outer : List Env} {s : Shared} {H0' : Hp} {E : XK}
structure Ini (H0 H : Hp) (N : Nat) (hl rd rl sl : Addr) (ra : List Addr) : Prop where
  sm : Same H0 H
  ohl : H hl = some (.lst [])
  ord : H rd = some (.lst (List.replicate N V.non))
  orl : H rl = some (.lst (ra.map V.ref))
  osl : H sl = some (.lst [])
  ora : ∀ a ∈ ra, H a = some (.lst [])
  f1 : H0 hl = none
  f2 : H0 rd = none
  f3 : H0 rl = none
  f4 : H0 sl = none
  fr : ∀ a ∈ ra, H0 a = none
  n1 : hl ≠ rd
  n2 : hl ≠ rl
  n3 : hl ≠ sl
  n4 : rd ≠ rl
  n5 : rd ≠ sl
  n6 : rl ≠ sl
  nr : ∀ a ∈ ra, a ≠ hl ∧ a ≠ rd ∧ a ≠ rl ∧ a ≠ sl
  dr : ra.Nodup
  lr : ra.length = N
theorem li1 (T : Tx K mg) (hr : Room 2 (XD P w K mg base f cdv A outer s H0' E).A) : ∃ tt : TS, PS (XD P w K mg base f cdv A outer s H0' E) (db 1) tt ∧
    ∀ (D : Ends) (H : Hp) (td ts : Addr) (last book : Int) (N : Nat), N ≤ 8 →
      (∀ H' hl rd rl sl ra, Ini H H' N hl rd rl sl ra → D.nx (dS td ts last N book hl rd rl sl none none none none) H') →
      tt D [some (.ref td), some (.ref ts), some (.int last), some (.int N), some (.int book), none, none, none, none, none, none, none, none, none] H := by
  have nd := sc_ldays.nd
  refine ⟨_, ps_asg (pe_tup (pa_cons (pe_lst pa_nil) (pa_cons (pe_op op_rep (pe_lst (pa_cons pe_non pa_nil)) (pv 3)) (pa_cons (pe_lc (own := [("_law_k", 9)]) rfl nd (pi_range1 (by rfl) T.z_range (pa_cons (pv 3) pa_nil)) (blkOk_by (N := N_ldays) (sc := defScope s_ldays) (by decide +kernel))
      (fun _ _ _ _ _ => pg_name (i := 9) nd rfl (.inl rfl)) (fun _ _ _ _ _ => pts_nil) (fun _ _ _ _ _ => pe_lst pa_nil)) (pa_cons (pe_lst pa_nil) pa_nil)))))
    (pg_tup rfl (pgs_cons (pg_name (i := 5) nd rfl (.inl rfl)) (pgs_cons (pg_name (i := 6) nd rfl (.inl rfl)) (pgs_cons (pg_name (i := 7) nd rfl (.inl rfl)) (pgs_cons (pg_name (i := 8) nd rfl (.inl rfl)) pgs_nil))))), ?_⟩
  intro D H td ts last book N l8 nx
  refine ⟨Nat.zero_le _, fun hl hhl => ?_⟩
  have s1 := same_upd (o := .lst []) hhl
  have g1 : (upd H hl (.lst [])) hl = some (.lst []) := upd_same
  generalize (upd H hl (.lst [])) = H1 at s1 g1
  refine ⟨(by show 1 ≤ sizeLine; decide), fun l0 hl0 => ?_⟩
  have s2 := same_upd (o := .lst [.non]) hl0
  have g2 : (upd H1 l0 (.lst [.non])) l0 = some (.lst [.non]) := upd_same
  generalize (upd H1 l0 (.lst [.non])) = H2 at s2 g2
  refine ⟨_, rfl, l0, _, _, rfl, rfl, g2, by omega, by omega, ?_, fun rd hrd => ?_⟩
  · show 1 * _ ≤ sizeLine
    have := small1000 (n := 1 * ((N : Nat) : Int).toNat) (by omega)
    omega
  rw [rep_one, show ((N : Nat) : Int).toNat = N by omega]
  have s3 := same_upd (o := .lst (List.replicate N V.non)) hrd
  have g3 : (upd H2 rd (.lst (List.replicate N V.non))) rd = some (.lst (List.replicate N V.non)) := upd_same
  generalize (upd H2 rd (.lst (List.replicate N V.non))) = H3 at s3 g3
  refine ⟨_, rfl, _, rfl, by omega, by omega, fun rl hrl => lc_range (lo := 0) (n := ((N : Nat) : Int).toNat) (fun i H' => ∃ ra : List Addr, H' rl = some (.lst (ra.map V.ref)) ∧ ra.length = i ∧ ra.Nodup ∧ (∀ a ∈ ra, H3 a = none ∧ a ≠ rl ∧ H' a = some (.lst [])) ∧ Same H3 H') ?_ ?_ ?_⟩
  · exact ⟨[], upd_same, rfl, List.nodup_nil, fun a ha => absurd ha List.not_mem_nil, same_upd hrl⟩
  · rintro i H4 hi ⟨ra, hra, lra, dra, era, s4⟩
    refine ⟨rfl, lc_keep ?_⟩
    refine ⟨Nat.zero_le _, fun a ha => ?_⟩
    have narl : a ≠ rl := (ne_of_none hra ha).symm
    refine ⟨_, by rw [upd_ne narl.symm]; exact hra, by rw [List.length_map]; exact small1000 (by omega), ra ++ [a], by rw [upd_same, List.map_append]; rfl, by rw [List.length_append, lra]; rfl, nodup_snoc dra fun m => ?_, fun b hb => ?_, fun b o e => ?_⟩
    · exact ne_of_none (era a m).2.2 ha rfl
    · rcases List.mem_append.mp hb with m | m
      · obtain ⟨e1, e2, e3⟩ := era b m
        exact ⟨e1, e2, by rw [upd_ne e2, upd_ne (ne_of_none e3 ha)]; exact e3⟩
      · have := List.mem_singleton.mp m
        subst this
        refine ⟨?_, narl, by rw [upd_ne narl, upd_same]⟩
        cases h : H3 b with
        | none => rfl
        | some o =>
          have := s4 _ _ h
          rw [ha] at this
          cases this
    · rw [upd_ne (ne_of_none e hrl), upd_ne (ne_of_none (s4 _ _ e) ha)]
      exact s4 _ _ e
  · rintro H4 ⟨ra, hra, lra, dra, era, s4⟩
    refine ⟨Nat.zero_le _, fun sl hsl => ⟨(by show 4 ≤ sizeLine; decide), fun t ht => ?_⟩⟩
    have s5 := same_upd (o := .lst []) hsl
    have g5 : (upd H4 sl (.lst [])) sl = some (.lst []) := upd_same
    generalize (upd H4 sl (.lst [])) = H5 at s5 g5 ht
    have s6 := same_upd (o := .tup [.ref hl, .ref rd, .ref rl, .ref sl]) ht
    refine ⟨t, _, rfl, .of upd_same, rfl, _, _, rfl, _, _, rfl, _, _, rfl, _, _, rfl, rfl, ?_⟩
    have up : ∀ {x o}, H4 x = some o → (upd H5 t (.tup [.ref hl, .ref rd, .ref rl, .ref sl])) x = some o := fun h => s6 _ _ (s5 _ _ h)
    have dn : ∀ {x}, H4 x = none → H x = none := fun {x} h => by
      cases e : H x with
      | none => rfl
      | some o =>
        have := s4 _ _ (s3 _ _ (s2 _ _ (s1 _ _ e)))
        rw [h] at this
        cases this
    have dn3 : ∀ {x}, H3 x = none → H x = none := fun {x} h => by
      cases e : H x with
      | none => rfl
      | some o =>
        have := s3 _ _ (s2 _ _ (s1 _ _ e))
        rw [h] at this
        cases this
    have dn2 : ∀ {x}, H2 x = none → H x = none := fun {x} h => by
      cases e : H x with
      | none => rfl
      | some o =>
        have := s2 _ _ (s1 _ _ e)
        rw [h] at this
        cases this
    have a1 := s3 _ _ (s2 _ _ g1)
    refine nx _ hl rd rl sl ra ⟨((((s1.trans s2).trans s3).trans s4).trans s5).trans s6, up (s4 _ _ a1), up (s4 _ _ g3), up hra, s6 _ _ g5, fun a m => up (era a m).2.2, hhl, dn2 hrd, dn3 hrl, dn hsl, fun a m => dn3 (era a m).1,
      ne_of_none (s2 _ _ g1) hrd, ne_of_none a1 hrl, ne_of_none (s4 _ _ a1) hsl, ne_of_none g3 hrl, ne_of_none (s4 _ _ g3) hsl, ne_of_none hra hsl, fun a m => ⟨(ne_of_none a1 (era a m).1).symm, (ne_of_none g3 (era a m).1).symm, (era a m).2.1, ne_of_none (era a m).2.2 hsl⟩, dra, by omega⟩
theorem li2 (T : Tx K mg) (hr : Room 2 (XD P w K mg base f cdv A outer s H0' E).A) : ∃ tt : TS, PS (XD P w K mg base f cdv A outer s H0' E) (db 2) tt ∧
    ∀ (D : Ends) (H0 H : Hp) (td ts hl rd rl sl : Addr) (ra : List Addr) (ds ss : List Int) (M last : Int), Rm.Ring ds.length (at' ds) (at' ss) ss.sum ds.sum M → ss.length = ds.length → ds.length ≤ 8 → (∀ y ∈ ss, 0 ≤ y ∧ y ≤ 12) → ss.sum ≤ 12 → H0 ts = some (.tup (ss.map V.int)) → Ini H0 H ds.length hl rd rl sl ra →
      (∀ H' ha y9 book, Ad H0 ds.length hl rd rl sl ha ra → Sim ds ss H0 H' hl rd rl sl ha ra (fun j => 0) (fun j => 0) → H' sl = some (.lst []) → D.nx (dS td ts last ds.length book hl rd rl sl y9 none none none) H') →
      tt D (dS td ts last ds.length 0 hl rd rl sl none none none none) H := by
  have nd := sc_ldays.nd
  refine ⟨_, ps_for PassesOwn.never rfl (pi_range1 (by rfl) T.z_range (pa_cons (pv 3) pa_nil)) (pg_name (i := 9) nd rfl (.inl rfl))
    (pss_cons (ps_expr (pe_bm PySem.F.plainAttrs_list PySem.F.slot_list_append PySem.F.type_list_append mt_append (pv 5) (pa_cons (pe_lc (own := [("_law_number", 11)]) rfl nd (pi_range2 (by rfl) T.z_range (pa_cons (pv 4) (pa_cons (pe_op op_add (pv 4) (pe_ix ix_tup (pv 1) (pv 9) (fun _ _ => rfl))) pa_nil))) (blkOk_by (N := N_ldays) (sc := defScope s_ldays) (by decide +kernel))
        (fun _ _ _ _ _ => pg_name (i := 11) nd rfl (.inl rfl)) (fun _ _ _ _ _ => pts_nil) (fun _ _ _ _ _ => pe_tup (pa_cons (pv 11) (pa_cons pe_int pa_nil)))) pa_nil)))
      (pss_one (ps_set (i := 4) nd rfl (.inl rfl) (pe_op op_add (pv 4) (pe_ix ix_tup (pv 1) (pv 9) (fun _ _ => rfl)))))), ?_⟩
  intro D H0 H td ts hl rd rl sl ra ds ss M last RR hss l8 s12 b12 hts I nx
  have hN := RR.pos
  refine ⟨_, rfl, _, rfl, by omega, by omega, ?_⟩
  refine for_range (lo := 0) (n := ((ds.length : Nat) : Int).toNat) (fun i σ H' => (∃ z9, σ = dS td ts last ds.length (ss.take i).sum hl rd rl sl z9 none none none) ∧ (∀ x o, H x = some o → x ≠ hl → H' x = some o) ∧
    ∃ ha : List Addr, H' hl = some (.lst (ha.map V.ref)) ∧ ha.length = i ∧ ha.Nodup ∧ (∀ a ∈ ha, H a = none) ∧ ∀ (j : Nat) (a : Addr), ha[j]? = some a → ∃ xs, H' a = some (.lst xs) ∧ Tups H' xs (seg (item ds ss j) 0 (at' ss j))) ⟨⟨none, rfl⟩, fun x o h _ => h, [], I.ohl, rfl, List.nodup_nil, fun a m => absurd m List.not_mem_nil, fun j a h => by simp at h⟩ ?_ ?_
  · rintro i σ H1 hi ⟨⟨z9, rfl⟩, k1, ha, hha, lha, dha, fha, oha⟩
    have hi' : i < ds.length := by omega
    have ei : (0 : Int) + (i : Int) = i := by omega
    have hb := take_le (l := ss) (fun y hy => (s12 y hy).1) i
    have hsi := s12 _ (at_mem (l := ss) (by omega) i)
    have hat : atI (ss.map V.int) (0 + (i : Int)) = some (.int (at' ss i)) := by
      rw [ei]
      exact at_ix (by omega) (by omega)
    have hts1 : H1 ts = some (.tup (ss.map V.int)) := k1 _ _ (I.sm _ _ hts) (ne_of (I.sm _ _ hts) I.ohl (by intro z; cases z))
    obtain ⟨bk0, hbk⟩ : ∃ b, b = (ss.take i).sum := ⟨_, rfl⟩
    show tSeq _ _ _ (dS td ts last ds.length (ss.take i).sum hl rd rl sl (some (.int (0 + (i : Int)))) none none none) H1
    rw [← hbk] at hb ⊢
    refine ⟨_, rfl, .inl ⟨rfl, _, SqL.of hha⟩, _, rfl, _, rfl, _, rfl, _, rfl, ts, _, _, _, rfl, rfl, .of hts1, hat, _, _, rfl, rfl, _, _, rfl, ⟨by omega, by omega, by omega, by omega⟩, fun L hL => ?_⟩
    refine lc_range (lo := bk0) (n := (bk0 + at' ss i - bk0).toNat) (fun n H' => Same H1 H' ∧ ∃ xs, H' L = some (.lst xs) ∧ Tups H' xs (seg (item ds ss i) 0 n)) ⟨same_upd hL, [], upd_same, by rw [seg_nil (by omega)]; exact .nil⟩ ?_ ?_
    · rintro n H2 hn ⟨s2, xs, hxs, txs⟩
      refine ⟨rfl, lc_keep ?_⟩
      refine ⟨_, rfl, (by show 2 ≤ sizeLine; decide), fun t ht => ?_⟩
      have s3 := same_upd (o := .tup [.int (bk0 + (n : Int)), .int 0]) ht
      have lx : xs.length = n := by rw [txs.length, seg_length]; omega
      refine ⟨xs, s3 _ _ hxs, small1000 (by omega), fun x o h => ?_, _, upd_same, ?_⟩
      · rw [upd_ne (ne_of_none h hL)]
        exact s3 _ _ (s2 _ _ h)
      · have nt : t ≠ L := (ne_of_none hxs ht).symm
        rw [show ((n + 1 : Nat) : Int) = (n : Int) + 1 by omega, seg_snoc (by omega)]
        refine Tups.snoc ⟨t, rfl, ?_⟩ (txs.mono fun b ys h => ?_)
        · rw [upd_ne nt, upd_same]
          show _ = some (HO.tup [.int (bk ss i n), .int (cm ds ss i n)])
          have e1 := bk_first RR hss hi' (n := n) (by omega) (by omega)
          unfold cm
          rw [if_pos (by omega), e1, hbk]
        · rw [upd_ne (ne_of h hxs (by intro z; cases z))]
          exact s3 _ _ h
    · rintro H2 ⟨s2, xs, hxs, txs⟩
      rw [show (((bk0 + at' ss i - bk0).toNat : Nat) : Int) = at' ss i by omega] at txs
      refine ⟨hl, _, _, rfl, rfl, s2 _ _ hha, by rw [List.length_map]; exact small1000 (by omega), ?_⟩
      have hts2 := s2 _ _ hts1
      refine ⟨_, rfl, _, rfl, _, rfl, ts, _, _, _, rfl, rfl, .of (show (upd H2 hl _) ts = _ by rw [upd_ne (ne_of hts2 (s2 _ _ hha) (by intro z; cases z))]; exact hts2), hat, _, _, rfl, rfl, ?_⟩
      refine ⟨⟨_, by rw [take_succ (by omega), ← hbk]; rfl⟩, fun x o h n => ?_, ha ++ [L], by rw [upd_same, List.map_append]; rfl, by rw [List.length_append, lha]; rfl, nodup_snoc dha fun m => ?_, fun a m => ?_, fun j a h => ?_⟩
      · rw [upd_ne n]
        exact s2 _ _ (k1 _ _ h n)
      · obtain ⟨j, hj⟩ := List.getElem?_of_mem m
        obtain ⟨ys, h1, _⟩ := oha j L hj
        rw [h1] at hL
        cases hL
      · rcases List.mem_append.mp m with m | m
        · exact fha a m
        · have := List.mem_singleton.mp m
          subst this
          cases e : H a with
          | none => rfl
          | some o =>
            by_cases c : a = hl
            · subst c
              rw [hha] at hL
              cases hL
            · have := k1 _ _ e c
              rw [hL] at this
              cases this
      · have kt : ∀ b ys, H2 b = some (.tup ys) → (upd H2 hl (.lst (ha.map V.ref ++ [.ref L]))) b = some (.tup ys) := fun b ys h => by
          rw [upd_ne (ne_of h (s2 _ _ hha) (by intro z; cases z))]
          exact h
        rcases get_snoc h with h | ⟨h1, rfl⟩
        · obtain ⟨ys, h1, h2⟩ := oha j a h
          have : a ≠ hl := fun z => by
            have h3 := fha a (List.mem_of_getElem? h)
            rw [z, I.ohl] at h3
            cases h3
          exact ⟨ys, by rw [upd_ne this]; exact s2 _ _ h1, (h2.mono fun b ys h => s2 _ _ h).mono kt⟩
        · have : L ≠ hl := (ne_of_none hha hL).symm
          refine ⟨xs, by rw [upd_ne this]; exact hxs, ?_⟩
          rw [h1, lha]
          exact txs.mono kt
  · rintro σ H1 ⟨⟨z9, rfl⟩, k1, ha, hha, lha, dha, fha, oha⟩
    have lN : ha.length = ds.length := by omega
    have nn : ∀ {a x o}, a ∈ ha → H x = some o → a ≠ x := fun {a x o} m h z => by
      have := fha a m
      rw [z, h] at this
      cases this
    have fh0 : ∀ a ∈ ha, H0 a = none := fun a m => by
      cases e : H0 a with
      | none => rfl
      | some o =>
        have := I.sm _ _ e
        rw [fha a m] at this
        cases this
    have sm : Same H0 H1 := fun x o h => k1 _ _ (I.sm _ _ h) (ne_of_none h I.f1)
    refine nx H1 ha z9 _ ⟨I.f1, I.f2, I.f3, I.f4, fh0, I.fr, I.n1, I.n2, I.n3, I.n4, I.n5, I.n6, fun a m => ⟨nn m I.ohl, nn m I.ord, nn m I.orl, nn m I.osl⟩, I.nr, fun a m c mc => nn m (I.ora c mc), dha, I.dr, lN, I.lr⟩ ⟨sm, hha, k1 _ _ I.orl I.n2.symm, fun j a h => ?_, fun j a h => ?_, ?_, fun _ _ => Int.le_refl _, fun _ _ => Int.le_refl _, fun j _ => ?_⟩ (k1 _ _ I.osl I.n3.symm)
    · obtain ⟨xs, h1, h2⟩ := oha j a h
      refine ⟨xs, h1, ?_⟩
      rw [show at' ss j + 0 = at' ss j by omega]
      exact h2
    · have m := List.mem_of_getElem? h
      exact ⟨[], k1 _ _ (I.ora a m) (I.nr a m).1, by rw [seg_nil (Int.le_refl _)]; exact .nil⟩
    · refine ⟨_, k1 _ _ I.ord I.n1.symm, List.length_replicate, fun j hj => ⟨.non, ?_, .inl ⟨rfl, rfl⟩⟩⟩
      rw [List.getElem?_replicate, if_pos hj]
    · have := RR.s0 j
      show (0 : Int) ≤ _ + 0
      omega
end
end Rp
namespace Rp
open PySem PySem.Spec PyProof.Rows L2 Rz Rm
section
variable {P : Program} {w : World} {K : PySem.W.Frag} {mg : Str → Option Value} {base : Heap}
/-- the play up to a last day -/
def spPlay : Sp := fun vs H Q _ => ∃ (td ts : Addr) (ds ss : List Int) (last : Int), vs = [.ref td, .ref ts, .int last] ∧ H td = some (.tup (ds.map V.int)) ∧ H ts = some (.tup (ss.map V.int)) ∧ Good ds ss ∧ 0 ≤ last ∧ last ≤ 800 ∧
  ∀ (H' : Hp) (t rl sl : Addr) (ra : List Addr), Same H H' → H' t = some (.tup [.ref rl, .ref sl]) → H' rl = some (.lst (ra.map V.ref)) → ra.length = ds.length →
    (∀ (j : Nat) (a : Addr), ra[j]? = some a → ∃ xs, H' a = some (.lst xs) ∧ Tups H' xs (seg (rowOf ds ss j) 0 (Cn (at' ds) (at' ss) j (last + at' ds j)))) → Q (.ref t) H'
theorem ok_play (T : Tx K mg) : FnOk P w K mg base CX0 3 T.a_ldays T.d_ldays P_ldays spPlay := by
  refine T.F_ldays.ok sc_ldays (fun vs H Q E h => ?_) (fun cdv A outer s H vs Q E hr h => ?_)
  · obtain ⟨td, ts, ds, ss, last, rfl, _⟩ := h
    rfl
  · obtain ⟨td, ts, ds, ss, last, rfl, htd, hts, G, l0, l1, q⟩ := h
    have nd := sc_ldays.nd
    obtain ⟨t1, p1, r1⟩ := li1 (P := P) (w := w) (base := base) (f := T.a_ldays) (cdv := cdv) (A := A) (outer := outer) (s := s) (H0' := H) (E := E) T hr
    obtain ⟨t2, p2, r2⟩ := li2 (P := P) (w := w) (base := base) (f := T.a_ldays) (cdv := cdv) (A := A) (outer := outer) (s := s) (H0' := H) (E := E) T hr
    obtain ⟨t3, p3, r3⟩ := ld3 (P := P) (w := w) (base := base) (f := T.a_ldays) (cdv := cdv) (A := A) (outer := outer) (s := s) (H0' := H) (E := E) T hr
    refine ⟨_, pss_cons (ps_par (i := 3) (j := 4) rfl nd rfl rfl (by decide) rfl rfl (pa_cons (pe_callB call_len_seq (by rfl) T.z_len PySem.boot_len (pa_cons (pv 0) pa_nil)) (pa_cons pe_int pa_nil)) rfl)
      (pss_cons p1 (pss_cons p2 (pss_cons p3 (pss_one (ps_ret (pe_tup (pa_cons (pv 7) (pa_cons (pv 8) pa_nil)))))))), ?_⟩
    obtain ⟨M, hM, hMu⟩ := G.max
    have RR := G.ring hM hMu
    have d30 : ∀ j, at' ds j ≤ 30 := fun j => (G.d1 _ (at_mem (by have := G.l2; omega) j)).2
    refine ⟨_, rfl, td, _, rfl, .inr (.of htd), _, _, rfl, ?_⟩
    rw [List.length_map]
    refine r1 _ H td ts last 0 ds.length G.l8 fun H1 hl rd rl sl ra I => ?_
    refine r2 _ H H1 td ts hl rd rl sl ra ds ss M last RR G.ls G.l8 G.s0 G.b12 hts I fun H2 ha y9 book AD S hsl => ?_
    refine r3 _ H H2 td ts hl rd rl sl ha ra ds ss M last book y9 none none none RR G.ls G.l8 (fun y hy => (G.s0 y hy).2) d30 AD htd l0 l1 S hsl fun H3 x9 x10 x11 x12 S3 => ?_
    refine ⟨_, rfl, _, rfl, (by show 2 ≤ sizeLine; decide), fun t ht => ?_⟩
    have s4 := same_upd (o := .tup [.ref rl, .ref sl]) ht
    refine q _ t rl sl ra (S3.sm.trans s4) upd_same (s4 _ _ S3.orl) AD.lr fun j a h => ?_
    obtain ⟨xs, h1, h2⟩ := S3.orr j a h
    exact ⟨xs, s4 _ _ h1, h2.mono fun b ys h => s4 _ _ h⟩
end
end Rp
/-! Lambdas as values: made and kept (in lists, in slots), with or without a default value. -/
namespace Rl
open PySem PySem.Spec PyProof.Rows L2 LamX
/-- what a lambda is -/
structure LF where
  q : Str
  params : Arguments
  body : Expr
  scope : Scope
  cl : List (Str × Addr)
  dV : Value
  c : Addr
def LamO (f : Addr) (F : LF) : HO := .ext fun h => ∃ (doc pm ctv : Value), h.get? f = some (PySem.W.kdv_obj "<lambda>" F.q F.params (.expr F.body) F.scope F.cl F.dV doc pm F.c ctv)
theorem lamO_ne {f : Addr} {F : LF} (ps : Array Value) : LamO f F ≠ .tbl ps := fun z => by
  unfold LamO at z
  cases z
section
variable {X : Cx} {pins : List (Addr × Obj)} {σ : L2.St} {H : Hp} {s : Shared}
theorem inv_lam {F : LF} {o : Obj} {t' : Nat} {doc pm ctv : Value} (I : Inv X pins σ H s) (ho : o = PySem.W.kdv_obj "<lambda>" F.q F.params (.expr F.body) F.scope F.cl F.dV doc pm F.c ctv) :
    Inv X pins σ (upd H s.heap.objs.size (LamO s.heap.objs.size F)) { s with heap := s.heap.push o, toks := t' } := by
  subst ho
  have e : (s.heap.push (PySem.W.kdv_obj "<lambda>" F.q F.params (.expr F.body) F.scope F.cl F.dV doc pm F.c ctv)).get? s.heap.objs.size = some (PySem.W.kdv_obj "<lambda>" F.q F.params (.expr F.body) F.scope F.cl F.dV doc pm F.c ctv) := Heap.get?_push_size _ rfl
  exact I.laid (a := s.heap.objs.size) (fun b u g => Heap.get?_push_of_some _ g) (Nat.le_refl _) ⟨⟨doc, pm, ctv, e⟩, ⟨_, e⟩, fun h1 h2 ⟨d1, p1, v1, z⟩ st => ⟨d1, p1, v1, st _ z⟩⟩
/-- the rest of the making, the default values evaluated -/
theorem lam_tail {T : List (Addr × Str)} {c P : Addr} {params : Arguments} {body : Expr} {scope : Scope} {pos : Pos} {dV : Value} {E : Value → Shared → Prop} {Q : Value → Shared → Prop} (I : Inv X pins σ H s) (TB : TabB X.base X.mg c P) (hcode : X.env.code = .ref c)
    (hm : (P, X.env.qual ++ "<lambda>") ∈ T) (hu : ∀ p ∈ T, p.1 = P → p.2 = X.env.qual ++ "<lambda>") (hT : Tabs T H) (hfree : ∀ y ∈ scope.names, y.2 = .free → ∃ c, X.env.cells.lookup y.1 = some c)
    (h : ∀ (f c' : Addr) (H1 : Hp) (s' : Shared), Inv X pins σ H1 s' → ExtN H H1 → Tabs T H1 → H f = none → H1 f = some (LamO f ⟨X.env.qual ++ "<lambda>", params, body, scope, cloFrom X.env.cells scope.names [], dV, c'⟩) → H1 c' = some (CodeO c' (X.env.qual ++ "<lambda>")) → Q (.ref f) s') :
    wpAny (model X.prog X.w) X.A (makeTail "<lambda>" (X.env.qual ++ "<lambda>") params (.expr body) scope X.env dV .none none pos pos.line) Q E s := by
  obtain ⟨ps, hP, ht, ha⟩ := hT _ hm
  have bP : s.heap.BuiltinsAt X.mg P := TB.bm.keeps I.bk
  have gP : s.heap.get? P = some { cls := .none, data := .fields ps } := I.hok P _ hP
  cases hc : codeAmong pos ps.toList with
  | none =>
    refine PySem.W.kdv_makeTail (mg := X.mg) (c := c) (P := P) (ps := ps) (closure_ok hfree) I.ok.glob (I.mod.glob.keeps I.bk) hcode (TB.code.keeps I.bk) gP ht hc TB.gP bP fun c' ctv doc h' tk hx hge hlt hrec htb => ?_
    obtain ⟨c2, oc, vs, t, e2, r1, r2, r3⟩ := hrec
    cases e2
    have nC := I.hok.fresh hge
    have J := inv_table (t' := tk) (more := #[rawInt pos.line, rawInt pos.col, .ref c']) (h' := h') I hP (fun b o n e => hx b o n e) htb hge ⟨oc, vs, t, r1, r2, r3⟩
    obtain ⟨H1, hH1⟩ : ∃ H1, H1 = upd (upd H P (.tbl (ps ++ #[rawInt pos.line, rawInt pos.col, .ref c']))) c' (CodeO c' (X.env.qual ++ "<lambda>")) := ⟨_, rfl⟩
    have ext1 : ExtN H H1 := fun b o e n => by
      rw [hH1, upd_ne (ne_of_none e nC), upd_ne (fun z => by subst z; rw [hP] at e; exact n ps (Option.some.inj e).symm)]
      exact e
    have atC : H1 c' = some (CodeO c' (X.env.qual ++ "<lambda>")) := by rw [hH1, upd_same]
    have tabs1 : Tabs T H1 := fun p hp => by
      by_cases hb : p.1 = P
      · rw [hu p hp hb, hb]
        refine ⟨ps ++ #[rawInt pos.line, rawInt pos.col, .ref c'], by rw [hH1, upd_ne (ne_of_none hP nC), upd_same], ?_, fun p' cv hcv => ?_⟩
        · rw [Array.toList_append]
          exact PySem.TriplesOk_snoc _ _ _ _ ht
        · rw [Array.toList_append] at hcv
          rcases among_app _ ht hcv with z | z
          · obtain ⟨c0, e1, e2⟩ := ha p' cv z
            exact ⟨c0, e1, ext1 _ _ e2 codeO_ne⟩
          · exact ⟨c', z, atC⟩
      · obtain ⟨ps', a1, a2, a3⟩ := hT p hp
        refine ⟨ps', by rw [hH1, upd_ne (ne_of_none a1 nC), upd_ne hb]; exact a1, a2, fun p' cv hcv => ?_⟩
        obtain ⟨c0, e1, e2⟩ := a3 p' cv hcv
        exact ⟨c0, e1, ext1 _ _ e2 codeO_ne⟩
    rw [← hH1] at J
    have nF := J.hok.fresh (Nat.le_refl _)
    have J2 := inv_lam (F := ⟨X.env.qual ++ "<lambda>", params, body, scope, cloFrom X.env.cells scope.names [], dV, c'⟩) (t' := tk) (doc := doc) (pm := (X.mg "__name__").getD .none) (ctv := ctv) J rfl
    have kp : ∀ {b o}, H1 b = some o → (upd H1 h'.objs.size (LamO h'.objs.size ⟨X.env.qual ++ "<lambda>", params, body, scope, cloFrom X.env.cells scope.names [], dV, c'⟩)) b = some o := fun e => (upd_ne (ne_of_none e nF)).trans e
    exact h h'.objs.size c' _ _ J2 (fun b o e n => kp (ext1 b o e n)) (tabs1.ext fun b o e => kp e) (I.hok.fresh (Nat.le_trans hge (Nat.le_of_lt hlt))) upd_same (kp atC)
  | some cv =>
    obtain ⟨c', e, hco⟩ := ha pos cv hc
    subst e
    refine PySem.W.kdv_makeTailHit (mg := X.mg) (c := c) (P := P) (ps := ps) (closure_ok hfree) I.ok.glob (I.mod.glob.keeps I.bk) hcode (TB.code.keeps I.bk) gP ht hc bP fun ctv doc h' tk hx hsz => ?_
    have J : Inv X pins σ H { s with heap := h', toks := tk } := I.kept hx
    have nF : H h'.objs.size = none := J.hok.fresh (Nat.le_refl _)
    have J2 := inv_lam (F := ⟨X.env.qual ++ "<lambda>", params, body, scope, cloFrom X.env.cells scope.names [], dV, c'⟩) (t' := tk) (doc := doc) (pm := (X.mg "__name__").getD .none) (ctv := ctv) J rfl
    have kp : ∀ {b o}, H b = some o → (upd H h'.objs.size (LamO h'.objs.size ⟨X.env.qual ++ "<lambda>", params, body, scope, cloFrom X.env.cells scope.names [], dV, c'⟩)) b = some o := fun e => (upd_ne (ne_of_none e nF)).trans e
    exact h h'.objs.size c' _ _ J2 (fun b o e n => kp e) (hT.ext fun b o e => kp e) nF upd_same (kp hco)
end
/-- the value of a lambda -/
def tLamV (T : List (Addr × Str)) (mk : Addr → LF) : TE := fun _ H Q => Tabs T H ∧ ∀ (f c' : Addr) (H1 : Hp), ExtN H H1 → Tabs T H1 → H f = none → H1 f = some (LamO f (mk c')) → H1 c' = some (CodeO c' (mk c').q) → Q (.ref f) H1
/-- the same, one int by default: the tuple of the values is told, too -/
def tLamD (T : List (Addr × Str)) (d : Int) (mk : Addr → Addr → LF) : TE := fun _ H Q => Tabs T H ∧ ∀ (f c' t : Addr) (H1 : Hp), ExtN H H1 → Tabs T H1 → H f = none → H1 t = some (.tup [.int d]) → H1 f = some (LamO f (mk t c')) → H1 c' = some (CodeO c' (mk t c').q) → Q (.ref f) H1
section
variable {X : Cx} {T : List (Addr × Str)} {c P : Addr} {params : Arguments} {body : Expr} {scope : Scope} {pos : Pos}
theorem pe_lam0 (TB : TabB X.base X.mg c P) (hcode : X.env.code = .ref c) (hm : (P, X.env.qual ++ "<lambda>") ∈ T) (hu : ∀ p ∈ T, p.1 = P → p.2 = X.env.qual ++ "<lambda>")
    (hF : ∀ y ∈ scope.names, y.2 = .free → X.env.scope.names.lookup y.1 = some .cell ∨ X.env.scope.names.lookup y.1 = some .free) (hdef : defaultsOf params X.env = ([], [])) :
    PE X (.Lambda params body scope pos) (tLamV T fun c' => ⟨X.env.qual ++ "<lambda>", params, body, scope, cloFrom X.env.cells scope.names [], .none, c'⟩) := by
  refine ⟨fun pins s σ H Q I h => ?_⟩
  obtain ⟨hT, h⟩ := h
  have hfree : ∀ y ∈ scope.names, y.2 = .free → ∃ c, X.env.cells.lookup y.1 = some c := fun y hy e => (hF y hy e).elim (fun z => I.ok.has _ (.inl z)) fun z => I.ok.has _ (.inr z)
  refine PySem.W.kla_eval hdef ?_
  simp only [makeFunction_eq, List.isEmpty_nil, List.filterMap_nil, List.zip_nil_right, pure_bind, if_true]
  exact lam_tail I TB hcode hm hu hT hfree fun f c' H1 s' I1 x1 t1 hf e1 e2 => ⟨.ref f, H1, I1, rfl, h f c' H1 x1 t1 hf e1 e2⟩
theorem pe_lam1 {d : Int} {j : Nat} {dp : Pos} (TB : TabB X.base X.mg c P) (hcode : X.env.code = .ref c) (hm : (P, X.env.qual ++ "<lambda>") ∈ T) (hu : ∀ p ∈ T, p.1 = P → p.2 = X.env.qual ++ "<lambda>")
    (hF : ∀ y ∈ scope.names, y.2 = .free → X.env.scope.names.lookup y.1 = some .cell ∨ X.env.scope.names.lookup y.1 = some .free) (hd : params.defaults = [.Constant (.int d) j dp]) (hk : params.kw_defaults = []) :
    PE X (.Lambda params body scope pos) (tLamD T d fun t c' => ⟨X.env.qual ++ "<lambda>", params, body, scope, cloFrom X.env.cells scope.names [], .ref t, c'⟩) := by
  refine ⟨fun pins s σ H Q I h => ?_⟩
  obtain ⟨hT, h⟩ := h
  have hfree : ∀ y ∈ scope.names, y.2 = .free → ∃ c, X.env.cells.lookup y.1 = some c := fun y hy e => (hF y hy e).elim (fun z => I.ok.has _ (.inl z)) fun z => I.ok.has _ (.inr z)
  refine PySem.W.kdv_lam (by rw [hd]; rfl) hk ?_
  rw [hd]
  refine PySem.W.kdv_all1 (thn ((pe_int (X := X) (i := d) (j := j) (pos := dp)).run pins s σ H (fun v H1 => v = .int d ∧ H1 = H) I ⟨rfl, rfl⟩) fun u s1 ⟨v, H1, I1, rv, e1, e2⟩ => PySem.W.kdv_all0 ?_)
  subst e1
  subst e2
  obtain ⟨tk, rfl⟩ := rv
  simp only [makeFunction_eq, List.isEmpty_nil, List.isEmpty_cons, List.filterMap_nil, List.zip_nil_right, pure_bind, if_true, Bool.false_eq_true, if_false]
  refine wpAny_bind (wpAny_newTextTuple ?_)
  have nt := I1.hok.fresh (Nat.le_refl _)
  have I2 : Inv X pins σ (upd H1 s1.heap.objs.size (.tup [.int d])) { s1 with heap := s1.heap.push { cls := .type "tuple", data := .seq [Value.int d tk].toArray } } :=
    I1.laid (t' := s1.toks) (fun b u e => Heap.get?_push_of_some _ e) (Nat.le_refl _) ⟨by show 1 ≤ sizeLine; decide, [.int d tk], .cons ⟨_, rfl⟩ .nil, ⟨_, Heap.get?_push_size _ rfl, rfl, _, rfl⟩⟩
  have kp : ∀ {b o}, H1 b = some o → (upd H1 s1.heap.objs.size (.tup [.int d])) b = some o := fun e => (upd_ne (ne_of_none e nt)).trans e
  refine lam_tail I2 TB hcode hm hu (hT.ext fun b o e => kp e) hfree fun f c' H3 s' I3 x1 t1 hf e1 e2 => ⟨.ref f, H3, I3, rfl, h f c' s1.heap.objs.size H3 (fun b o e n => x1 b o (kp e) n) t1 ?_ (x1 _ _ upd_same (by intro ps z; cases z)) e1 e2⟩
  unfold upd at hf
  split at hf
  · cases hf
  · exact hf
end
end Rl
/-! A kept lambda is called, in a def that the maker calls. -/
namespace Rl
open PySem PySem.Spec PyProof.Rows L2 LamX
/-- its names: captured ones, globals, parameters that the maker's slots don't name -/
structure LamP (N : List Str) (sc scope : Scope) : Prop where
  kind : scope.kind = .function
  co : scope.isCoroutine = false
  gen : scope.isGenerator = false
  nocell : ∀ y ∈ scope.names, y.2 ≠ .cell
  own : ∀ y ∈ scope.names, y.2 = .local → y.1 ∉ N
  free : ∀ y ∈ scope.names, y.2 = .free → sc.names.lookup y.1 = some .cell ∨ sc.names.lookup y.1 = some .free
def lamPB (N : List Str) (sc scope : Scope) : Bool :=
  decide (scope.kind = .function) && !scope.isCoroutine && !scope.isGenerator && scope.names.all fun y => !decide (y.2 = .cell) && (!decide (y.2 = .local) || !decide (y.1 ∈ N)) && (!decide (y.2 = .free) || (decide (sc.names.lookup y.1 = some .cell) || decide (sc.names.lookup y.1 = some .free)))
theorem lamP_by {N : List Str} {sc scope : Scope} (h : lamPB N sc scope = true) : LamP N sc scope := by
  unfold lamPB at h
  simp only [Bool.and_eq_true, List.all_eq_true, Bool.not_eq_true', Bool.or_eq_true, decide_eq_false_iff_not, decide_eq_true_eq] at h
  obtain ⟨⟨⟨k1, k2⟩, k3⟩, k4⟩ := h
  refine ⟨k1, k2, k3, fun y hy => (k4 y hy).1.1, fun y hy e => ?_, fun y hy e => ?_⟩
  · rcases (k4 y hy).1.2 with z | z
    · exact absurd e z
    · exact z
  · rcases (k4 y hy).2 with z | z
    · exact absurd e z
    · exact z
section
variable {X : Cx} {pins : List (Addr × Obj)} {σ : L2.St} {H HZ : Hp} {s s1 : Shared}
theorem LamP.has {scope : Scope} (L : LamP X.N X.env.scope scope) (ok : X.Ok) : ∀ y ∈ scope.names, y.2 = .free → ∃ c, X.env.cells.lookup y.1 = some c := fun y hy e => (L.free y hy e).elim (fun z => ok.has _ (.inl z)) fun z => ok.has _ (.inr z)
theorem lam_enter {ex : List Addr} {A : Around} {outer : List Env} {E : XK} {scope : Scope} {f c' : Addr} {g : Heap} {tk : Nat} {m1 : Str → Option Value} (I : Inv X pins σ H s) (L : LamP X.N X.env.scope scope) (e0 : Env0 X.prog X.w X.K X.mg X.base A outer s1 HZ) (hd : A.handled = none) (hex : ∀ y d, X.env.cells.lookup y = some d → d ∉ ex)
    (un : Un (frs X.stack) ex H HZ s.heap s1.heap) (hns : g.Ns s1.heap.objs.size m1) (kp : ∀ b o, s1.heap.get? b = some o → g.get? b = some o) :
    Inv (lamCx X A outer s1 HZ E scope f c') [] σ HZ { s1 with heap := g, toks := tk } := by
  have hfree := L.has I.ok
  have back : ∀ {y d}, (cloFrom X.env.cells scope.names []).lookup y = some d → X.env.cells.lookup y = some d := fun {y d} e => NdefX.clo_cm hfree e
  have there : ∀ {y}, scope.names.lookup y = some .free → ∃ d, (cloFrom X.env.cells scope.names []).lookup y = some d := fun {y} hl => mem_lookup (cloFrom_has (cells := X.env.cells) (acc := []) (PySem.mem_of_lookup hl))
  have cellK : ∀ {d : Addr} {v : Option Value}, H d = none → d ∉ ex → s.heap.IsCell d v → g.IsCell d v := fun {d v} n nx z => by
    obtain ⟨o, ho, hv⟩ := z
    obtain ⟨sl, q⟩ := un.any ho n nx
    exact ⟨_, kp _ _ q, hv⟩
  have none1 : ∀ b : Addr, b ∉ (lamCx X A outer s1 HZ E scope f c').ex := fun b z => absurd (show b ∈ ([] : List Addr) from z) (by simp)
  refine ⟨⟨e0.mod, L.kind, rfl, rfl, Nat.le_refl _, fun y z d e1 e2 => I.ok.inj y z d (back e1) (back e2), fun y hy => ?_, fun y d z _ => ?_, fun _ => hd, Around.frames_deeper e0.frames, .inr ⟨rfl, rfl⟩, fun b z => absurd z (none1 b), e0.bs, e0.bsz, fun b _ _ => none1 b, fun b z => absurd z (none1 b), e0.funs, e0.frf⟩,
    rfl, e0.bare, Un.kept kp, ⟨_, hns, fun i y v e1 e2 e3 => ?_⟩, fun y d e => ?_, e0.hok.fresh (Nat.le_refl _), fun y d e => ?_, fun q hq => absurd (show q ∈ ([] : List (Addr × Obj)) ++ [] from hq) (by simp), e0.hok.kept kp, I.len⟩
  · have hy : scope.names.lookup y = some .cell ∨ scope.names.lookup y = some .free := hy
    rcases hy with hy | hy
    · exact absurd rfl (L.nocell _ (PySem.mem_of_lookup hy))
    · exact there hy
  · have z : false = true := z
    cases z
  · have e3 : Vis scope y := e3
    have e1 : X.N[i]? = some y := e1
    rcases e3 with k | k | k
    · exact absurd (List.mem_of_getElem? e1) (L.own _ (PySem.mem_of_lookup k) rfl)
    · exact absurd rfl (L.nocell _ (PySem.mem_of_lookup k))
    · obtain ⟨m, hn, hl⟩ := I.loc
      have vis : Vis X.env.scope y := (L.free _ (PySem.mem_of_lookup k) rfl).elim (fun z => .inr (.inl z)) fun z => .inr (.inr z)
      obtain ⟨w', r, q⟩ := hl i y v e1 e2 vis
      obtain ⟨d, h2⟩ := there k
      refine ⟨w', r, .inr ⟨.inr k, d, h2, ?_⟩⟩
      have h3 := back h2
      rcases q with ⟨k', _⟩ | ⟨_, d3, e', z⟩
      · have k' : X.env.scope.names.lookup y = some .local := k'
        rcases L.free _ (PySem.mem_of_lookup k) rfl with k2 | k2
        · rw [show X.env.scope.names.lookup y = _ from k2] at k'
          cases k'
        · rw [show X.env.scope.names.lookup y = _ from k2] at k'
          cases k'
      · rw [h3] at e'
        cases e'
        exact cellK (I.freeC y _ h3) (hex y _ h3) z
  · obtain ⟨w', z⟩ := I.cell y d (back e)
    exact ⟨w', cellK (I.freeC y d (back e)) (hex y d (back e)) z⟩
  · obtain ⟨v, o, ho, hv⟩ := I.cell y d (back e)
    exact un.free d o ho (I.freeC y d (back e)) (hex y d (back e))
/-- a(), in the def that the maker calls and that got the lambda -/
theorem un_more {fs ex : List Addr} {H H' : Hp} {h h' : Heap} (u : Un fs [] H H' h h') : Un fs ex H H' h h' :=
  ⟨fun b o e n k _ => u.keep b o e n k (by simp), fun b o e n k _ => u.slot b o e n k (by simp), fun b o e n _ => u.free b o e n (by simp), fun b o e _ => u.there b o e (by simp), u.tups, u.frzs, u.tbls⟩
theorem pe_actVB {ex : List Addr} {sC : Shared} {HC : Hp} {CXg : CXT} {Eg : XK} {Ng : List Str} {qg : Str} {sg : Scope} {g f : Addr} {cdg : Value} {k i : Nat} {a : Str} {pn : List (Addr × Obj)} {xe : Value → Shared → Prop} {W : WX} {E : L2.St → XK} {tb : XK → TE} {p1 p2 : Pos} {F : LF} {G : Hp → Prop}
    (I : Inv X pins σ H s) (hex : ∀ y d, X.env.cells.lookup y = some d → d ∉ ex) (unB : Un (frs X.stack) ex H HC s.heap sC.heap) (L : LamP X.N X.env.scope F.scope) (hcl : F.cl = cloFrom X.env.cells F.scope.names []) (hq : F.q = X.env.qual ++ "<lambda>")
    (hbind : ∀ (doc pm ctv : Value) (sZ : Shared) (HZ : Hp), HOk X.prog X.w HZ sZ.heap → G HZ → ∃ binds, BindsTo sZ (PySem.W.kdv_fn "<lambda>" F.q F.params (.expr F.body) F.scope F.cl F.dV doc pm (.ref F.c) ctv) ⟨[], []⟩ binds ∧ ∀ y ∈ binds, F.scope.names.lookup y.1 = some .local)
    (tk : Takes ((cxOf CXg X.prog X.w X.K X.mg X.base Ng qg sg g cdg X.A X.stack sC HC Eg).tr pn xe) W) (hW : ∀ cls d σ' H', E σ' cls d H' → W cls d σ' H') (hr : Room (k + 1) (X.A.deeper (envOfC qg sg sC.heap.objs.size g cdg)))
    (hbody : ∀ (E' : XK) (A : Around) (outer : List Env) (s : Shared) (H : Hp), Room k (A.deeper (lamEnv X F.scope s.heap.objs.size f F.c)) → PE (lamCx X A outer s H E' F.scope f F.c) F.body (tb E'))
    (hN : Ng[i]? = some a) (hv : Vis sg a) (hd : (a == ("__debug__" : Str)) = false := by decide) (hcd : (a == ("__classdict__" : Str)) = false := by decide) :
    PE ((cxOf CXg X.prog X.w X.K X.mg X.base Ng qg sg g cdg X.A X.stack sC HC Eg).tr pn xe) (.Call (.Name a p1) [] [] p2)
      (fun σZ HZ Q => σZ[i]? = some (some (.ref f)) ∧ HZ f = some (LamO f F) ∧ HZ F.c = some (CodeO F.c F.q) ∧ G HZ ∧ tb (E σZ) σ HZ Q) := by
  refine ⟨fun pinsZ sZ σZ HZ Q IZ h => ?_⟩
  obtain ⟨hs, hf, hc, hg, ht⟩ := h
  refine wpAny_Call_Name_kw (thn ((pe_var (pos := p1) (i := i) hN hv hd hcd).run pinsZ sZ σZ HZ (fun v H1 => v = .ref f ∧ H1 = HZ) IZ ⟨.ref f, hs, rfl, rfl⟩) fun u s2 ⟨v, H2, I2, rv, e1, e2⟩ => ?_)
  subst e1
  rw [e2] at I2
  obtain rfl : u = Value.ref f := rv
  obtain ⟨⟨doc, pm, ctv, of1⟩, _, _⟩ := I2.hok f _ hf
  obtain ⟨⟨oc, vs, t, c1, c2, c3⟩, _, _⟩ := I2.hok F.c _ hc
  refine PySem.W.callWith_F0 ⟨_, _, _, _, of1⟩ ?_
  have un : Un (frs X.stack) ex H HZ s.heap s2.heap := unB.trans (un_more I2.base)
  obtain ⟨binds, hbi, hloc⟩ := hbind doc pm ctv s2 HZ I2.hok hg
  have rc : codeAny (model X.prog X.w) (X.A.deeper (envOfC qg sg sC.heap.objs.size g cdg)) (.call (.ref f) ⟨[], []⟩) (CR (L2.CX X.prog X.w) (envOfC qg sg sC.heap.objs.size g cdg :: X.stack) X.prog X.w HZ s2 Q (E σZ)) s2 := by
    refine PySem.W.kla_callFunE hr.depth of1 rfl L.co L.gen rfl ⟨F.c, oc, vs, t, rfl, c1, c2, c3⟩ (hbi _ _ _ _ ?_)
    refine wpAny_newFunctionEnv L.nocell hloc (fun h1 hns hsb => ⟨I2.nolimit.fresh _ hsb, ?_⟩) L.kind
    have ee : PySem.W.envX F.q F.scope s2.heap.objs.size f (.ref F.c) F.cl = lamEnv X F.scope s2.heap.objs.size f F.c := by rw [hq, hcl]
    show codeAny _ _ (.expr F.body (PySem.W.envX F.q F.scope s2.heap.objs.size f (.ref F.c) F.cl)) _ _
    rw [ee]
    have kp : ∀ b o, s2.heap.get? b = some o → h1.get? b = some o := fun b o e => hsb.extBut b o (Nat.ne_of_lt (Heap.lt_size e)) (Heap.get?_push_of_some _ e)
    have J := lam_enter (E := E σZ) (scope := F.scope) (f := f) (c' := F.c) (tk := s2.toks + binds.length) I L I2.env0 hr.hd hex un hns kp
    refine PySem.W.kla_codeExpr (wpAny_mono ((hbody (E σZ) _ _ s2 HZ (hr.deeper _)).run [] _ _ HZ Q J ht) (fun v s' hh => ?_) fun e s' hh => hh)
    obtain ⟨w', H', J', r', q'⟩ := hh
    exact ⟨w', H', J'.os, J'.bare, J'.base, J'.hok, r', q'⟩
  refine wpAny_call (codeAny_mono rc fun r s' hh => ?_)
  cases r with
  | error e => exact tk e s' (XE.of_call I2 (fun cls d H' z => hW cls d σZ H' z) hh)
  | ok fl =>
    cases fl with
    | ret u => exact I2.after hh
    | next => exact hh.elim
    | brk => exact hh.elim
    | cont => exact hh.elim
/-- a(), in the def that the maker calls and that got the lambda -/
theorem pe_actV {CXg : CXT} {Eg : XK} {Ng : List Str} {qg : Str} {sg : Scope} {g f : Addr} {cdg : Value} {k i : Nat} {a : Str} {pn : List (Addr × Obj)} {xe : Value → Shared → Prop} {W : WX} {E : L2.St → XK} {tb : XK → TE} {p1 p2 : Pos} {F : LF} {G : Hp → Prop}
    (I : Inv X pins σ H s) (L : LamP X.N X.env.scope F.scope) (hcl : F.cl = cloFrom X.env.cells F.scope.names []) (hq : F.q = X.env.qual ++ "<lambda>")
    (hbind : ∀ (doc pm ctv : Value) (sZ : Shared) (HZ : Hp), HOk X.prog X.w HZ sZ.heap → G HZ → ∃ binds, BindsTo sZ (PySem.W.kdv_fn "<lambda>" F.q F.params (.expr F.body) F.scope F.cl F.dV doc pm (.ref F.c) ctv) ⟨[], []⟩ binds ∧ ∀ y ∈ binds, F.scope.names.lookup y.1 = some .local)
    (tk : Takes ((cxOf CXg X.prog X.w X.K X.mg X.base Ng qg sg g cdg X.A X.stack s H Eg).tr pn xe) W) (hW : ∀ cls d σ' H', E σ' cls d H' → W cls d σ' H') (hr : Room (k + 1) (X.A.deeper (envOfC qg sg s.heap.objs.size g cdg)))
    (hbody : ∀ (E' : XK) (A : Around) (outer : List Env) (s : Shared) (H : Hp), Room k (A.deeper (lamEnv X F.scope s.heap.objs.size f F.c)) → PE (lamCx X A outer s H E' F.scope f F.c) F.body (tb E'))
    (hN : Ng[i]? = some a) (hv : Vis sg a) (hd : (a == ("__debug__" : Str)) = false := by decide) (hcd : (a == ("__classdict__" : Str)) = false := by decide) :
    PE ((cxOf CXg X.prog X.w X.K X.mg X.base Ng qg sg g cdg X.A X.stack s H Eg).tr pn xe) (.Call (.Name a p1) [] [] p2)
      (fun σZ HZ Q => σZ[i]? = some (some (.ref f)) ∧ HZ f = some (LamO f F) ∧ HZ F.c = some (CodeO F.c F.q) ∧ G HZ ∧ tb (E σZ) σ HZ Q) :=
  pe_actVB (ex := []) I (fun _ _ _ => by simp) Un.refl L hcl hq hbind tk hW hr hbody hN hv hd hcd
end
end Rl
/-! x(e), e a kept lambda, x a def that calls what it gets. -/
namespace Rl
open PySem PySem.Spec PyProof.Rows L2 LamX
/-- the def that calls what it got: a calls it; R: what must be true of the abstract heap at the call; TT: what the def makes of the lambda's reading -/
def GivesV (X : Cx) (Ng : List Str) (x : Str) (sg : Scope) (g : Addr) (cdg : Value) (bg : List Stmt) (a : Str) (TT : (XK → Hp → VK → Prop) → Hp → VK → Prop) : Prop :=
  ∀ (f : Addr) (R : Hp → Prop) (s : Shared) (H : Hp) (Q : VK) (tl : XK → Hp → VK → Prop),
    (∀ (W : WX) (pn : List (Addr × Obj)) (xe : Value → Shared → Prop) (p1 p2 : Pos), Takes ((cxOf C8.CX0 X.prog X.w X.K X.mg X.base Ng x sg g cdg X.A X.stack s H C8.E0).tr pn xe) W →
      PE ((cxOf C8.CX0 X.prog X.w X.K X.mg X.base Ng x sg g cdg X.A X.stack s H C8.E0).tr pn xe) (.Call (.Name a p1) [] [] p2) (fun σZ HZ Q => σZ[0]? = some (some (.ref f)) ∧ R HZ ∧ tl (fun cls d H' => W cls d σZ H') HZ Q)) →
    R H → TT tl H Q →
    ∃ t, PSs (cxOf C8.CX0 X.prog X.w X.K X.mg X.base Ng x sg g cdg X.A X.stack s H C8.E0).nox bg t ∧ t { nx := fun _ H' => Q .non H', rt := Q } (L2.start Ng [.ref f]) H
/-- one of a family of lambdas, all made where X stands -/
structure Fam (X : Cx) (ι : Type) (F : ι → LF) (G : ι → Hp → Prop) : Prop where
  nm : ∀ i, LamP X.N X.env.scope (F i).scope
  cl : ∀ i, (F i).cl = cloFrom X.env.cells (F i).scope.names []
  q : ∀ i, (F i).q = X.env.qual ++ "<lambda>"
  bind : ∀ i (doc pm ctv : Value) (sZ : Shared) (HZ : Hp), HOk X.prog X.w HZ sZ.heap → G i HZ → ∃ binds, BindsTo sZ (PySem.W.kdv_fn "<lambda>" (F i).q (F i).params (.expr (F i).body) (F i).scope (F i).cl (F i).dV doc pm (.ref (F i).c) ctv) ⟨[], []⟩ binds ∧ ∀ y ∈ binds, (F i).scope.names.lookup y.1 = some .local
def tLamC {ι : Type} (F : ι → LF) (G : ι → Hp → Prop) (TT : (XK → Hp → VK → Prop) → Hp → VK → Prop) (ta : TA) (t : ι → XK → TE) : TE := fun σ H Q => ta σ H fun vs H1 => ∃ (f : Addr) (i : ι), vs = [.ref f] ∧ H1 f = some (LamO f (F i)) ∧ H1 (F i).c = some (CodeO (F i).c (F i).q) ∧ G i H1 ∧ TT (fun E H' Q' => t i E σ H' Q') H1 Q
section
variable {X : Cx}
theorem pe_lamcallV {ι : Type} {F : ι → LF} {G : ι → Hp → Prop} {TT : (XK → Hp → VK → Prop) → Hp → VK → Prop} {x a : Str} {g : Addr} {k : Nat} {pg : Arguments} {bg : List Stmt} {sg : Scope} {dV kV doc pm cdv ct oc : Value} {an od : Option Addr} {osl : Array (Option Value)} {Ng : List Str}
    {e : Expr} {ta : TA} {t : ι → XK → TE} {p pos : Pos} (hg : Gl X x) (hm : X.mg x = some (.ref g)) (hk : PySem.W.keepIn X.K (.ref g) = true)
    (lk : X.K.lookup g = some ⟨oc, od, .func (PySem.W.fnOf x x pg bg sg dV kV doc pm an cdv ct), osl⟩) (hcg : PySem.W.codeIn X.K cdv x = true) (hb : L2.Binds X.K (PySem.W.fnOf x x pg bg sg dV kV doc pm an cdv ct) [a] []) (Sg : FnScope Ng [a] sg) (hNg : Ng[0]? = some a) (hva : Vis sg a)
    (hG : GivesV X Ng x sg g cdv bg a TT) (fam : Fam X ι F G) (ha : PA X [e] ta) (hr : Room (k + 2) X.A)
    (hbody : ∀ (i : ι) (A : Around) (outer : List Env) (s : Shared) (H : Hp) (E : XK) (f : Addr), Room k (A.deeper (lamEnv X (F i).scope s.heap.objs.size f (F i).c)) → PE (lamCx X A outer s H E (F i).scope f (F i).c) (F i).body (t i E))
    (hst : starEach [e] X.env = (false, eval e X.env) :: starEach [] X.env := by rfl) (hpl : (backTo pos (starEach ([] : List Expr) X.env)).any (·.1) = false := by rfl)
    (hdb : (x == ("__debug__" : Str)) = false := by decide) (hd : (a == ("__debug__" : Str)) = false := by decide) (hcd : (a == ("__classdict__" : Str)) = false := by decide) :
    PE X (.Call (.Name x p) [e] [] pos) (tLamC F G TT ta t) := by
  refine ⟨fun pins s σ H Q I h => ?_⟩
  refine wpAny_Call_Name_kw (ld_glob I hg hm ?_ hdb)
  refine PySem.W.callWith_K (h₀ := X.base) I.ok.mod.kin hk (thn (ha.run pos pins s σ H _ I h) fun us s1 ⟨vs, H1, I1, r, q⟩ => ⟨I1.kIn, ?_⟩) hst hpl
  obtain ⟨f, i, rfl, e1, e2, e3, q⟩ := q
  rw [Vals.ref1 r]
  have rc : codeAny (model X.prog X.w) X.A (.call (.ref g) ⟨[.ref f], []⟩) (CR C8.CX0 X.stack X.prog X.w H1 s1 Q C8.E0) s1 := by
    refine run_ofS (N := Ng) (ps := [a]) (us := [.ref f]) (vs := [.ref f]) lk hcg Sg hr I1.env0 (hb s1 [.ref f] I1.kIn rfl) (.cons rfl .nil) rfl fun hr2 => ?_
    have go := hG f (fun HZ => HZ f = some (LamO f (F i)) ∧ HZ (F i).c = some (CodeO (F i).c (F i).q) ∧ G i HZ) s1 H1 Q (fun E H' Q' => t i E σ H' Q') (fun W pn xe p1 p2 tk => by
      have act := pe_actV (i := 0) (p1 := p1) (p2 := p2) (E := fun σ' cls d H' => W cls d σ' H') (tb := t i) I1 (fam.nm i) (fam.cl i) (fam.q i) (fam.bind i) tk (fun _ _ _ _ z => z) hr2 (fun E' A outer s H hr3 => hbody i A outer s H E' f hr3) hNg hva hd hcd
      exact ⟨fun pins2 s2 σ2 H2 Q2 I2 ⟨a1, ⟨a2, a3, a4⟩, a5⟩ => act.run pins2 s2 σ2 H2 Q2 I2 ⟨a1, a2, a3, a4, a5⟩⟩) ⟨e1, e2, e3⟩ q
    obtain ⟨t', ht', hq'⟩ := go
    exact ⟨t', ht'.nox, hq'⟩
  refine wpAny_call (codeAny_mono rc fun r s2 hh => ?_)
  cases r with
  | error e => exact (show False from hh).elim
  | ok fl =>
    cases fl with
    | ret u => exact I1.after hh
    | next => exact hh.elim
    | brk => exact hh.elim
    | cont => exact hh.elim
end
end Rl
/-! A comprehension whose element may use what the def's slots held when the block began: kept lambdas are called in it. -/
namespace Rl
open PySem PySem.Spec PyProof.Rows L2 LamX
section
variable {X : Cx}
/-- the block of a comprehension that begins at z -/
abbrev bCx (X : Cx) (z : Shared) (Z : Hp) (sc : Scope) (L : Addr) (cl : List (Str × Addr)) (fp : List Addr) : Cx := X.blk z Z sc (compEnvC sc cl L X.env) fp
/-- the element is read in a block that began where the def's slots are τ -/
def ElB (X : Cx) (τ : L2.St) (sc : Scope) (e : Expr) (te : TE) : Prop :=
  ∀ (pins : List (Addr × Obj)) (z : Shared) (Z : Hp) (L : Addr) (cl : List (Str × Addr)) (fp : List Addr), Inv X pins τ Z z → (∀ b ∈ fp, FpOk X pins Z b) → PE (bCx X z Z sc L cl fp) e te
theorem lcB_loop {pins : List (Addr × Obj)} {τ : L2.St} {Q : VK} {e tg it0 : Expr} {sc : Scope} {own : List (Str × Nat)} {pos : Pos} {g : TG} {te : TE} {R : Result → Shared → Prop} {it D L : Addr} {cl : List (Str × Addr)} {fp : List Addr} {tn : Nat → Heap → Prop} {J : It} {z zs : Shared} {Z : Hp}
    (hc : X.calm = true) (T : Turn X.prog X.w X.K tg J fp it tn) (IZ : Inv X pins τ Z z) (fZ : ∀ b ∈ fp, FpOk X pins Z b) (hL : (compEnvC sc cl L X.env).locals = L) (hLz : z.heap.objs.size ≤ L)
    (pg : PG (bCx X z Z sc L cl fp) tg g) (pe : PE (bCx X z Z sc L cl fp) e te)
    (IS : Inv (bCx X z Z sc L cl fp) [] (wipe τ (own.map (·.2))) Z zs) (tS : tn 0 zs.heap)
    {W : Nat → Nat → Hp → Prop} {m₀ : Nat} (w₀ : W 0 m₀ Z)
    (turn : ∀ i m H, W i m H → (J.stop i H ∧ Q (.ref D) H) ∨ (J.go i H ∧ ∃ Nx : Hp → Prop, (∀ H', Nx H' → ∃ m', m' < m ∧ W (i + 1) m' H') ∧ ∀ x H', J.yld i H x H' → g x (wipe τ (own.map (·.2))) H' fun σ2 H2 => wipe σ2 (own.map (·.2)) = wipe τ (own.map (·.2)) ∧ tYes σ2 H2 fun b H3 =>
      if b = true then te σ2 H3 fun y H4 => ∃ acc, H4 D = some (.lst acc) ∧ acc.length < sizeLine ∧ Nx (upd H4 D (.lst (acc ++ [y]))) else Nx H3))
    (fin : ∀ s' m H', Inv X pins τ H' s' → Q (.ref D) H' → s'.heap.Ns L m → FpOk X pins H' L → R (.ok .next) s') :
    codeAny (model X.prog X.w) X.A (.compLoop (.ListComp e [⟨tg, it0, [], 0⟩] sc pos) 0 (.ref it) (.ref D) (compEnvC sc cl L X.env)) R zs := by
  have ofB : ∀ {σ' : L2.St} {H' : Hp} {s' : Shared}, Inv (bCx X z Z sc L cl fp) [] σ' H' s' → (∀ b ∈ fp, H' b = none) → ∀ b ∈ fp, FpOk (bCx X z Z sc L cl fp) [] H' b := fun {σ' H' s'} J0 nn b hb =>
    ⟨nn b hb, (J0.ok.exf b hb).1, J0.ok.exfs b hb, .inl hb, fun y d k => (J0.ok.exf b hb).2 y d k, fun p hp => by
      have hp : p ∈ ([] : List (Addr × Obj)) ++ [] := hp
      simp at hp⟩
  refine compLoop_any (fun m s' => ∃ i H', Inv (bCx X z Z sc L cl fp) [] (wipe τ (own.map (·.2))) H' s' ∧ tn i s'.heap ∧ (∀ b ∈ fp, H' b = none) ∧ W i m H') ?_ m₀ ⟨0, Z, IS, tS, fun b hb => (fZ b hb).1, w₀⟩
  intro m s1 ⟨i, H1, I1, t1, n1, w1⟩
  cases turn i m H1 w1 with
  | inl hs =>
    refine thnF (T.done (bCx X z Z sc L cl fp) rfl rfl rfl hc i [] s1 _ H1 (fun _ _ => False) I1 (ofB I1 n1) t1 hs.1) fun r s2 hr => ?_
    rw [hr.1]
    have IX : Inv X pins τ H1 s2 := IZ.call' (ch := fp) hr.2.os hr.2.base hr.2.hok hr.2.bare fun b hb => by
      obtain ⟨_, q1, _, q3, q4, q5⟩ := fZ b hb
      exact ⟨q3, q1, q4, q5⟩
    have nL : H1 L = none := by
      have q := hr.2.free
      rw [show (bCx X z Z sc L cl fp).env.locals = L from hL] at q
      exact q
    obtain ⟨mm, hmm, _⟩ := hr.2.loc
    rw [show (bCx X z Z sc L cl fp).env.locals = L from hL] at hmm
    exact fin s2 mm H1 IX hs.2 hmm (IZ.fpOk hLz nL)
  | inr hg =>
    obtain ⟨hgo, Nx, hNx, hstep⟩ := hg
    refine thnF (T.item (bCx X z Z sc L cl fp) rfl rfl rfl hc i [] s1 _ H1 (fun _ _ => False) I1 (ofB I1 n1) t1 hgo) fun r s2 ⟨u, hr, q2⟩ => ?_
    rw [hr]
    refine thnF q2 fun _ s3 ⟨x, H3, I3, r3, y3, t3, n3⟩ => ?_
    refine thnF (pg.run _ s3 _ H3 x u _ (I3.pinned (ofB I3 n3) (T.obj _ _ t3)) r3 (hstep x H3 y3)) fun _ s4 ⟨σ4, H4, I4, hw, q4⟩ => ?_
    refine thnF ((pts_nil (X := bCx X z Z sc L cl fp)).run _ s4 σ4 H4 _ I4 q4) fun b s5 ⟨H5, I5, q5⟩ => ?_
    have back : ∀ {s' : Shared} {H' : Hp}, Inv (bCx X z Z sc L cl fp) ([] ++ pinsAt fp s3.heap) σ4 H' s' → Nx H' → ∃ k, k < m ∧ ∃ i H', Inv (bCx X z Z sc L cl fp) [] (wipe τ (own.map (·.2))) H' s' ∧ tn i s'.heap ∧ (∀ b ∈ fp, H' b = none) ∧ W i k H' := fun {s' H'} JJ nx => by
      obtain ⟨k, hk, wk⟩ := hNx H' nx
      have pn : ∀ b ∈ fp, ∀ o, s3.heap.get? b = some o → s'.heap.get? b = some o ∧ H' b = none := fun b hb o ho => by
        obtain ⟨p1, p2, _⟩ := JJ.pin (b, o) (List.mem_append_right _ (List.mem_append_right _ (mem_pinsAt hb ho)))
        exact ⟨p1, p2⟩
      refine ⟨k, hk, i + 1, H', (JJ.unpinned (pins := [])).weak (by rw [← hw, wipe_length]) (fun j v hj => ?_), T.keep _ _ _ t3 fun b hb o ho => (pn b hb o ho).1, fun b hb => ?_, wk⟩
      · rw [← hw] at hj
        exact (wipe_some hj).1
      · obtain ⟨o, ho, _⟩ := T.obj _ _ t3 b hb
        exact (pn b hb o ho).2
    cases b with
    | false =>
      rw [if_neg Bool.false_ne_true] at q5
      rw [if_neg Bool.false_ne_true]
      exact back I5 q5
    | true =>
      rw [if_pos rfl] at q5
      rw [if_pos rfl]
      refine thnF (pe.run _ s5 σ4 H5 _ I5 q5) fun v s6 ⟨y, H6, I6, r6, acc, hD, hz, nx⟩ => ?_
      exact app_ok (X := bCx X z Z sc L cl fp) I6 hD hz r6 fun s7 I7 => back I7 nx
theorem lcB_core {pins : List (Addr × Obj)} {s : Shared} {τ : L2.St} {H : Hp} {Q : VK} {e tg iter : Expr} {sc : Scope} {own : List (Str × Nat)} {pos pos' : Pos} {wi : TI} {g : TG} {te : TE} {use : Option (Value → Sem Unit)} {Qf : Value → Shared → Prop}
    (hc : X.calm = true) (hN : X.N.Nodup) (I : Inv X pins τ H s) (hi : PI X tg iter wi) (ok : BlkOk X.N X.env.scope sc own)
    (hg : ∀ (z : Shared) (Z : Hp) (L : Addr) (cl : List (Str × Addr)) (fp : List Addr), PG (bCx X z Z sc L cl fp) tg g) (he : ElB X τ sc e te) (hs : ∀ x, foldedSetIterable iter X.env x = pure x)
    (h : tLc wi g tYes te (own.map (·.2)) τ H Q)
    (hR : ∀ D L s' m H', Inv X pins τ H' s' → Q (.ref D) H' → s'.heap.Ns L m → FpOk X pins H' L → compPost (model X.prog X.w) X.A X.xe use Qf (.ref D) L (.ok .next) s') :
    wpAny (model X.prog X.w) X.A (comprehension (.ListComp e [⟨tg, iter, [], 0⟩] sc pos) sc X.env pos' (newList []) false (eval iter X.env) use) Qf X.xe s := by
  have hf : ∀ y ∈ sc.names, y.2 = .free → ∃ d, X.env.cells.lookup y.1 = some d := fun y hy k => (ok.free y hy k).elim (fun q => I.ok.has _ (.inl q)) fun q => I.ok.has _ (.inr q)
  refine wpAny_comprehension_free (use := use) rfl hs (closure_ok hf) ok.kind (fun y hy k => by rw [ok.uniq y hy, k]) ?_
  refine thn (hi.run pins s τ H _ I h) fun _ s1 h1 => thn h1 fun itv s2 h2 => ?_
  obtain ⟨it, fp, tn, J, H2, rfl, I2, T, t2, f2, q⟩ := h2
  refine wpAny_newObj_type (newEnv_comp ?_) (by show 0 ≤ sizeLine; decide)
  have nD : H2 s2.heap.objs.size = none := I2.hok.fresh (Nat.le_refl _)
  obtain ⟨W, ⟨m₀, w₀⟩, turn⟩ := q _ nD
  obtain ⟨D, eD⟩ : ∃ D, D = s2.heap.objs.size := ⟨_, rfl⟩
  have push : ∀ b o, s2.heap.get? b = some o → (s2.heap.push { cls := .type "list", data := .seq ([] : List Value).toArray }).get? b = some o := fun b o k => Heap.get?_push_of_some _ k
  have I3 : Inv X pins τ (upd H2 s2.heap.objs.size (.lst [])) { s2 with heap := s2.heap.push { cls := .type "list", data := .seq ([] : List Value).toArray } } :=
    I2.laid (t' := s2.toks) push (Nat.le_refl _) ⟨Nat.zero_le _, [], 0, .nil, Heap.get?_push_size _ rfl⟩
  have f3 : ∀ b ∈ fp, FpOk X pins (upd H2 s2.heap.objs.size (.lst [])) b ∧ b < (s2.heap.push { cls := .type "list", data := .seq ([] : List Value).toArray }).objs.size := fun b hb => by
    obtain ⟨o, ho, _⟩ := T.obj _ _ t2 b hb
    have lt := Heap.lt_size ho
    refine ⟨⟨?_, (f2 b hb).2⟩, ?_⟩
    · rw [upd_ne (Nat.ne_of_lt lt)]
      exact (f2 b hb).1
    · rw [Heap.size_push]
      exact Nat.lt_succ_of_lt lt
  have IS := block_start I3 ok hN f3
  have t3 := T.keep _ _ (pushCells ((s2.heap.push { cls := .type "list", data := .seq ([] : List Value).toArray }).push { cls := .type "dict", data := .dict #[] }) sc.names) t2 fun b _ o ho => pushCells_keeps _ _ _ _ (Heap.get?_push_of_some _ (push b o ho))
  have go := lcB_loop (own := own) (e := e) (it0 := iter) (pos := pos) (Q := Q) (D := s2.heap.objs.size) (R := compPost (model X.prog X.w) X.A X.xe use Qf (.ref s2.heap.objs.size) (s2.heap.push { cls := .type "list", data := .seq ([] : List Value).toArray }).objs.size) hc T I3 (fun b hb => (f3 b hb).1) rfl (Nat.le_refl _) (hg _ _ _ _ _) (he pins _ _ _ _ _ I3 fun b hb => (f3 b hb).1) IS t3 w₀ turn
    (fun s' m H' I' q' hm hl => hR _ _ s' m H' I' q' hm hl)
  exact codeAny_compStart_list go (T.self X.A 0 _ _ _ t3 go)
/-- as a value -/
theorem pe_lcB {e tg iter : Expr} {sc : Scope} {own : List (Str × Nat)} {pos : Pos} {wi : TI} {g : TG} {te : L2.St → TE} (hc : X.calm = true) (hN : X.N.Nodup) (hi : PI X tg iter wi) (ok : BlkOk X.N X.env.scope sc own)
    (hg : ∀ (z : Shared) (Z : Hp) (L : Addr) (cl : List (Str × Addr)) (fp : List Addr), PG (bCx X z Z sc L cl fp) tg g) (he : ∀ τ, ElB X τ sc e (te τ)) (hs : ∀ x, foldedSetIterable iter X.env x = pure x := by intro _; rfl) :
    PE X (.ListComp e [⟨tg, iter, [], 0⟩] sc pos) (fun σ H Q => tLc wi g tYes (te σ) (own.map (·.2)) σ H Q) := by
  refine ⟨fun pins s σ H Q I h => ?_⟩
  rw [eval_ListComp]
  refine lcB_core hc hN I hi ok hg (he σ) hs h fun D L s' m H' I' q hn f => ⟨m, hn, fun h'' sb => ?_⟩
  obtain ⟨f0, f1, _, f3, f4, f5⟩ := f
  exact ⟨.ref D, H', I'.turned (t' := s'.toks) (fun b o hb k => (sb.2 b hb).trans k) f0 f1 f3 f4 f5, rfl, q⟩
end
end Rl
/-! Kept lambdas are called in a comprehension's block: x(e) with x a def that calls what it gets, and a(). -/
namespace Rl
open PySem PySem.Spec PyProof.Rows L2 LamX
def tLamB {ι : Type} (F : ι → LF) (G : ι → Hp → Prop) (TT : (XK → Hp → VK → Prop) → Hp → VK → Prop) (ta : TA) (t : ι → XK → TE) (τ : L2.St) : TE := fun σ H Q => ta σ H fun vs H1 => ∃ (f : Addr) (i : ι), vs = [.ref f] ∧ H1 f = some (LamO f (F i)) ∧ H1 (F i).c = some (CodeO (F i).c (F i).q) ∧ G i H1 ∧ TT (fun E H' Q' => t i E τ H' Q') H1 Q
section
variable {X : Cx}
theorem el_lamB {ι : Type} {F : ι → LF} {G : ι → Hp → Prop} {TT : (XK → Hp → VK → Prop) → Hp → VK → Prop} {x a : Str} {g : Addr} {k : Nat} {pg : Arguments} {bg : List Stmt} {sg : Scope} {dV kV doc pm cdv ct oc : Value} {an od : Option Addr} {osl : Array (Option Value)} {Ng : List Str}
    {sc : Scope} {e : Expr} {ta : TA} {t : ι → XK → TE} {p pos : Pos} (hg : ∀ (z : Shared) (Z : Hp) (L : Addr) (cl : List (Str × Addr)) (fp : List Addr), Gl (bCx X z Z sc L cl fp) x) (hm : X.mg x = some (.ref g)) (hk : PySem.W.keepIn X.K (.ref g) = true)
    (lk : X.K.lookup g = some ⟨oc, od, .func (PySem.W.fnOf x x pg bg sg dV kV doc pm an cdv ct), osl⟩) (hcg : PySem.W.codeIn X.K cdv x = true) (hb : L2.Binds X.K (PySem.W.fnOf x x pg bg sg dV kV doc pm an cdv ct) [a] []) (Sg : FnScope Ng [a] sg) (hNg : Ng[0]? = some a) (hva : Vis sg a)
    (hG : GivesV X Ng x sg g cdv bg a TT) (fam : Fam X ι F G) (ha : ∀ (z : Shared) (Z : Hp) (L : Addr) (cl : List (Str × Addr)) (fp : List Addr), PA (bCx X z Z sc L cl fp) [e] ta) (hr : Room (k + 2) X.A)
    (hbody : ∀ (i : ι) (A : Around) (outer : List Env) (s : Shared) (H : Hp) (E : XK) (f : Addr), Room k (A.deeper (lamEnv X (F i).scope s.heap.objs.size f (F i).c)) → PE (lamCx X A outer s H E (F i).scope f (F i).c) (F i).body (t i E))
    (hst : ∀ (L : Addr) (cl : List (Str × Addr)), starEach [e] (compEnvC sc cl L X.env) = (false, eval e (compEnvC sc cl L X.env)) :: starEach [] (compEnvC sc cl L X.env) := by intros; rfl)
    (hpl : ∀ (L : Addr) (cl : List (Str × Addr)), (backTo pos (starEach ([] : List Expr) (compEnvC sc cl L X.env))).any (·.1) = false := by intros; rfl)
    (hdb : (x == ("__debug__" : Str)) = false := by decide) (hd : (a == ("__debug__" : Str)) = false := by decide) (hcd : (a == ("__classdict__" : Str)) = false := by decide) (τ : L2.St) :
    ElB X τ sc (.Call (.Name x p) [e] [] pos) (tLamB F G TT ta t τ) := by
  intro pinsX z Z L cl fp IX fpo
  refine ⟨fun pins s σ H Q I h => ?_⟩
  have hex : ∀ y d, X.env.cells.lookup y = some d → d ∉ fp := fun y d hy hd => (fpo d hd).2.2.2.2.1 y d hy rfl
  refine wpAny_Call_Name_kw (ld_glob I (hg z Z L cl fp) hm ?_ hdb)
  refine PySem.W.callWith_K (h₀ := X.base) I.ok.mod.kin hk (thn ((ha z Z L cl fp).run pos pins s σ H _ I h) fun us s1 ⟨vs, H1, I1, r, q⟩ => ⟨I1.kIn, ?_⟩) (hst L cl) (hpl L cl)
  obtain ⟨f, i, rfl, e1, e2, e3, q⟩ := q
  rw [Vals.ref1 r]
  have rc : codeAny (model X.prog X.w) X.A (.call (.ref g) ⟨[.ref f], []⟩) (CR C8.CX0 X.stack X.prog X.w H1 s1 Q C8.E0) s1 := by
    refine run_ofS (N := Ng) (ps := [a]) (us := [.ref f]) (vs := [.ref f]) lk hcg Sg hr I1.env0 (hb s1 [.ref f] I1.kIn rfl) (.cons rfl .nil) rfl fun hr2 => ?_
    have go := hG f (fun HZ => HZ f = some (LamO f (F i)) ∧ HZ (F i).c = some (CodeO (F i).c (F i).q) ∧ G i HZ) s1 H1 Q (fun E H' Q' => t i E τ H' Q') (fun W pn xe p1 p2 tk => by
      have act := pe_actVB (i := 0) (p1 := p1) (p2 := p2) (E := fun σ' cls d H' => W cls d σ' H') (tb := t i) IX hex I1.base (fam.nm i) (fam.cl i) (fam.q i) (fam.bind i) tk (fun _ _ _ _ z => z) hr2 (fun E' A outer s H hr3 => hbody i A outer s H E' f hr3) hNg hva hd hcd
      exact ⟨fun pins2 s2 σ2 H2 Q2 I2 ⟨a1, ⟨a2, a3, a4⟩, a5⟩ => act.run pins2 s2 σ2 H2 Q2 I2 ⟨a1, a2, a3, a4, a5⟩⟩) ⟨e1, e2, e3⟩ q
    obtain ⟨t', ht', hq'⟩ := go
    exact ⟨t', ht'.nox, hq'⟩
  refine wpAny_call (codeAny_mono rc fun r s2 hh => ?_)
  cases r with
  | error e => exact (show False from hh).elim
  | ok fl =>
    cases fl with
    | ret u => exact I1.after hh
    | next => exact hh.elim
    | brk => exact hh.elim
    | cont => exact hh.elim
/-- a() in the block, a its own name -/
theorem el_actB {ι : Type} {F : ι → LF} {G : ι → Hp → Prop} {sc : Scope} {j k : Nat} {a : Str} {t : ι → TE} {p1 p2 : Pos} (fam : Fam X ι F G) (hr : Room (k + 1) X.A)
    (hbody : ∀ (i : ι) (A : Around) (outer : List Env) (s : Shared) (H : Hp) (f : Addr), Room k (A.deeper (lamEnv X (F i).scope s.heap.objs.size f (F i).c)) → PE (lamCx X A outer s H C8.E0 (F i).scope f (F i).c) (F i).body (t i))
    (hN : X.N[j]? = some a) (hv : ∀ (L : Addr) (cl : List (Str × Addr)), Vis (compEnvC sc cl L X.env).scope a) (hd : (a == ("__debug__" : Str)) = false := by decide) (hcd : (a == ("__classdict__" : Str)) = false := by decide) (τ : L2.St) :
    ElB X τ sc (.Call (.Name a p1) [] [] p2) (fun σ H Q => ∃ (f : Addr) (i : ι), σ[j]? = some (some (.ref f)) ∧ H f = some (LamO f (F i)) ∧ H (F i).c = some (CodeO (F i).c (F i).q) ∧ G i H ∧ t i τ H Q) := by
  intro pinsX z Z L cl fp IX fpo
  refine ⟨fun pins s σ H Q I h => ?_⟩
  have hex : ∀ y d, X.env.cells.lookup y = some d → d ∉ fp := fun y d hy hd => (fpo d hd).2.2.2.2.1 y d hy rfl
  obtain ⟨f, i, hs, hf, hc, hg, ht⟩ := h
  refine wpAny_Call_Name_kw (thn ((pe_var (X := bCx X z Z sc L cl fp) (pos := p1) (i := j) hN (hv L cl) hd hcd).run pins s σ H (fun v H1 => v = .ref f ∧ H1 = H) I ⟨.ref f, hs, rfl, rfl⟩) fun u s2 ⟨v, H2, I2, rv, e1, e2⟩ => ?_)
  subst e1
  rw [e2] at I2
  obtain rfl : u = Value.ref f := rv
  obtain ⟨⟨doc, pm, ctv, of1⟩, _, _⟩ := I2.hok f _ hf
  obtain ⟨⟨oc, vs, tt, c1, c2, c3⟩, _, _⟩ := I2.hok (F i).c _ hc
  refine PySem.W.callWith_F0 ⟨_, _, _, _, of1⟩ ?_
  have un : Un (frs X.stack) fp Z H z.heap s2.heap := I2.base
  obtain ⟨binds, hbi, hloc⟩ := fam.bind i doc pm ctv s2 H I2.hok hg
  have rc : codeAny (model X.prog X.w) X.A (.call (.ref f) ⟨[], []⟩) (CR (L2.CX X.prog X.w) X.stack X.prog X.w H s2 Q C8.E0) s2 := by
    refine PySem.W.kla_callFunE hr.depth of1 rfl (fam.nm i).co (fam.nm i).gen rfl ⟨(F i).c, oc, vs, tt, rfl, c1, c2, c3⟩ (hbi _ _ _ _ ?_)
    refine wpAny_newFunctionEnv (fam.nm i).nocell hloc (fun h1 hns hsb => ⟨I2.nolimit.fresh _ hsb, ?_⟩) (fam.nm i).kind
    have ee : PySem.W.envX (F i).q (F i).scope s2.heap.objs.size f (.ref (F i).c) (F i).cl = lamEnv X (F i).scope s2.heap.objs.size f (F i).c := by rw [fam.q i, fam.cl i]
    show codeAny _ _ (.expr (F i).body (PySem.W.envX (F i).q (F i).scope s2.heap.objs.size f (.ref (F i).c) (F i).cl)) _ _
    rw [ee]
    have kp : ∀ b o, s2.heap.get? b = some o → h1.get? b = some o := fun b o q => hsb.extBut b o (Nat.ne_of_lt (Heap.lt_size q)) (Heap.get?_push_of_some _ q)
    have J := lam_enter (E := C8.E0) (scope := (F i).scope) (f := f) (c' := (F i).c) (tk := s2.toks + binds.length) IX (fam.nm i) I2.env0 hr.hd hex un hns kp
    refine PySem.W.kla_codeExpr (wpAny_mono ((hbody i _ _ s2 H f (hr.deeper _)).run [] _ _ H Q J ht) (fun v s' hh => ?_) fun q s' hh => hh)
    obtain ⟨w', H', J', r', q'⟩ := hh
    exact ⟨w', H', J'.os, J'.bare, J'.base, J'.hok, r', q'⟩
  refine wpAny_call (codeAny_mono rc fun r s3 hh => ?_)
  cases r with
  | error q =>
    obtain ⟨_, _, _, _, _, _, _, _, _, _, _, _, z⟩ := (show L2.CX X.prog X.w X.stack H s2 C8.E0 q s3 from hh)
    exact (show False from z).elim
  | ok fl =>
    cases fl with
    | ret u => exact I2.after hh
    | next => exact hh.elim
    | brk => exact hh.elim
    | cont => exact hh.elim
end
end Rl
/-! xs.count(y) of flat items; what a suite that knows the class of its error wants. -/
namespace Rt
open PySem PySem.Spec PyProof.Rows L2
section
variable {X : Cx}
def rCntV (K : PySem.W.Frag) : V → List V → Hp → VK → Prop := fun x xs H Q => ∃ (p : Addr) (ys : List V) (y : V), x = .ref p ∧ xs = [y] ∧ SqL K H p ys ∧ flatV y = true ∧ ys.all flatV = true ∧ Q (.int (ys.countP (fun z => eqV z y) : Nat)) H
theorem cntV_eq {y : V} : ∀ {ys : List V} {its : List Value}, Vals ys its → ys.all flatV = true → its.countP (eqU y) = ys.countP (fun z => eqV z y)
  | [], _, .nil, _ => rfl
  | z :: ys, _, .cons r rr, f => by
    simp only [List.all_cons, Bool.and_eq_true] at f
    rw [List.countP_cons, List.countP_cons, cntV_eq rr f.2, eqU_of r f.1]
theorem mt_countV : MtR X "list.count" (rCntV X.K) := by
  intro pins s σ H x xs v us Q I rx rxs h
  obtain ⟨p, ys, y, rfl, rfl, hs, fy, fys, q⟩ := h
  cases rx
  cases rxs with
  | cons ry rt =>
    rename_i uy ut
    cases rt
    obtain ⟨its, rv, ⟨⟨cls, dd, data, sl⟩, n, ho, hc, hdn, hd⟩, hlen⟩ := I.list hs
    simp only at hc hd
    subst hc hd
    refine call_meets PySem.F.slot_list_count ⟨_, ho, rfl⟩ PySem.F.entry_list_count (PySem.F.args_list_count_2 _ _)
      (SeqAt.list_countAt p its.toArray n dd sl uy (eqU y)) ⟨ho, fun u' hu' => mem_eqAt ry fy rv fys u' (by simpa using hu'), ?_⟩
    have ec : its.toArray.toList.countP (eqU y) = ys.countP (fun z => eqV z y) := cntV_eq rv fys
    rw [ec]
    exact ⟨.int _, H, I.kept (t' := s.toks + 1) fun _ _ z => z, ⟨_, rfl⟩, q⟩
/-- the classes that the suite asks for -/
structure TdS (K : PySem.W.Frag) (mg : Str → Option Value) where
  c0 : Addr
  c1 : Addr
  c2 : Addr
  c3 : Addr
  c4 : Addr
  c5 : Addr
  c6 : Addr
  cE : Addr
  g0 : mg "InvalidRing" = some (.ref c0)
  g1 : mg "InvalidChain" = some (.ref c1)
  g2 : mg "UnknownReader" = some (.ref c2)
  g3 : mg "UnknownBook" = some (.ref c3)
  g4 : mg "InvalidNumber" = some (.ref c4)
  g5 : mg "SameBook" = some (.ref c5)
  g6 : mg "OtherRing" = some (.ref c6)
  gE : mg "ReadingError" = some (.ref cE)
  zV : mg "ValueError" = none
  zI : mg "isinstance" = none
/-- the class at D is the j-th of them, without fields -/
structure TdR {K : PySem.W.Frag} {mg : Str → Option Value} (S : TdS K mg) (D : Addr) (j : Nat) : Prop where
  lo : 2 ≤ j
  hi : j ≤ 6
  ex : ExcC K D
  ee : PySem.W.exmOne K (.ref D) (.ref S.cE) = some true
  k0 : PySem.W.kitOne K (.ref D) (.ref S.c0) = some (decide (j = 0))
  k1 : PySem.W.kitOne K (.ref D) (.ref S.c1) = some (decide (j = 1))
  k2 : PySem.W.kitOne K (.ref D) (.ref S.c2) = some (decide (j = 2))
  k3 : PySem.W.kitOne K (.ref D) (.ref S.c3) = some (decide (j = 3))
  k4 : PySem.W.kitOne K (.ref D) (.ref S.c4) = some (decide (j = 4))
  k5 : PySem.W.kitOne K (.ref D) (.ref S.c5) = some (decide (j = 5))
  k6 : PySem.W.kitOne K (.ref D) (.ref S.c6) = some (decide (j = 6))
  kv : PySem.W.kitOne K (.ref D) (.type "ValueError") = some true
/-- the same class, as the program raises it by its name -/
structure TdE {K : PySem.W.Frag} {mg : Str → Option Value} (S : TdS K mg) (x : Str) (D : Addr) (j : Nat) : Prop where
  r : TdR S D j
  g : mg x = some (.ref D)
  xF : PySem.W.excIn K D [.type "ValueError", .type "Exception", .type "BaseException", .type "object"] "ValueError.__new__" = true
  bF : PySem.W.subIn K (.ref D) (.type "BaseException") = some true
  tF : PySem.W.typeIn K (.ref D) = some (.type "type")
  kF : PySem.W.keepIn K (.ref D) = true
/-- a def whose code object is known -/
structure FunC (K : PySem.W.Frag) (x qual : Str) (st : Stmt) (f : Addr) (fd : FuncData) (cd : Value) : Prop where
  ex : ∃ (oc : Value) (od : Option Addr) (kV doc pm : Value) (an : Option Addr) (ct : Value) (osl : Array (Option Value)),
    fd = PySem.W.fnOf x qual (defArgs st) (defBody st) (defScope st) .none kV doc pm an cd ct ∧ K.lookup f = some ⟨oc, od, .func fd, osl⟩ ∧ PySem.W.codeIn K cd qual = true
theorem FunC.ok {P : Program} {w : World} {K : PySem.W.Frag} {mg : Str → Option Value} {base : Heap} {x qual : Str} {st : Stmt} {f : Addr} {fd : FuncData} {cd : Value} {N ps : List Str} {k : Nat} {sp : Sp} (F : FunC K x qual st f fd cd) (S : FnScope N ps (defScope st)) (len : ∀ vs H Q E, sp vs H Q E → vs.length = ps.length)
    (hbody : ∀ (A : Around) (outer : List Env) (s : Shared) (H : Hp) (vs : List V) (Q : VK) (E : XK), Room k (A.deeper (envOfC qual (defScope st) s.heap.objs.size f cd)) → sp vs H Q E →
      ∃ t, PSs (cxOf CX0 P w K mg base N qual (defScope st) f cd A outer s H E).nox (defBody st) t ∧ t { nx := fun _ H' => Q .non H', rt := Q } (start N vs) H) : FnOk P w K mg base CX0 (k + 1) f fd ps sp := by
  obtain ⟨oc, od, kV, doc, pm, an, ct, osl, rfl, lk, hcd⟩ := F.ex
  refine fn_of lk hcd S len fun A outer s H vs Q E hr hsp => ?_
  obtain ⟨t, h, q⟩ := hbody A outer s H vs Q E hr hsp
  exact ⟨t, h.nox, q⟩
/-- what told says of the j-th -/
def tdNm (j : Nat) : Str := (["UnknownReader", "UnknownBook", "InvalidNumber", "SameBook", "OtherRing", "other"] : List Str).getD (j - 2) ""
/-- the end of told at an error: its reading -/
def TO {K : PySem.W.Frag} {mg : Str → Option Value} (S : TdS K mg) (Q : VK) : XK := fun cls d H => ∃ (D : Addr) (j : Nat), cls = .ref D ∧ d = none ∧ TdR S D j ∧
  ∀ (p : Addr) (H' : Hp), (∀ b o, H b = some o → H' b = some o) → H p = none → H' p = some (.tup [.str "error", .str (tdNm j)]) → Q (.ref p) H'
end
end Rt
/-! told: a kept lambda is called, its error is told. -/
namespace Rp
open PySem PySem.Spec PyProof.Rows L2 Rz Rm Rt Rl
section
variable {X : Cx} {g f : Addr} {cdg : Value} {s : Shared} {H : Hp} {K : PySem.W.Frag} {mg : Str → Option Value}
abbrev toldCx (X : Cx) (g : Addr) (cdg : Value) (s : Shared) (H : Hp) : Cx := (cxOf C8.CX0 X.prog X.w X.K X.mg X.base N_ltold "_law_told" (defScope s_ltold) g cdg X.A X.stack s H C8.E0).nox
/-- the suite of told's except clause -/
abbrev toldSuite : List Stmt := match (defBody s_ltold).getLast? with
  | some (.Try _ [.ExceptHandler _ _ st _] _ _ _) => st
  | _ => []
theorem told_suite (S : TdS X.K X.mg) {D : Addr} {j : Nat} (R : TdR S D j) {a : Addr} {oe : Obj} {pn : List (Addr × Obj)} (hz : Zc (.ref D) none oe) (hf : ∃ vs, oe.data = .fields vs)
    {DD : Ends} {wv y2 y3 : Option V} {H1 : Hp} {Q : VK} (hrt : DD.rt = Q)
    (q : ∀ (p : Addr) (H' : Hp), (∀ b o, H1 b = some o → H' b = some o) → H1 p = none → H' p = some (.tup [.str "error", .str (tdNm j)]) → Q (.ref p) H') :
    ∃ t, PSs ((toldCx X g cdg s H).suite a ((a, oe) :: pn)) toldSuite t ∧ t DD [wv, some (.ref a), y2, y3] H1 := by
  have nd := sc_ltold.nd
  subst hrt
  refine ⟨_, pss_cons (ps_set (i := 2) nd rfl (.inl rfl) (pe_lst (pa_cons (pe_callB (call_isE R.ex hz hf) (by rfl) S.zI (by decide +kernel) (pa_cons (pv 1) (pa_cons (pe_glob (v := .ref S.c0) (by rfl) S.g0 rfl) pa_nil))) (pa_cons (pe_callB (call_isE R.ex hz hf) (by rfl) S.zI (by decide +kernel) (pa_cons (pv 1) (pa_cons (pe_glob (v := .ref S.c1) (by rfl) S.g1 rfl) pa_nil))) (pa_cons (pe_callB (call_isE R.ex hz hf) (by rfl) S.zI (by decide +kernel) (pa_cons (pv 1) (pa_cons (pe_glob (v := .ref S.c2) (by rfl) S.g2 rfl) pa_nil))) pa_nil)))))
    (pss_cons (ps_set (i := 2) nd rfl (.inl rfl) (pe_op op_cat (pv 2) (pe_lst (pa_cons (pe_callB (call_isE R.ex hz hf) (by rfl) S.zI (by decide +kernel) (pa_cons (pv 1) (pa_cons (pe_glob (v := .ref S.c3) (by rfl) S.g3 rfl) pa_nil))) (pa_cons (pe_callB (call_isE R.ex hz hf) (by rfl) S.zI (by decide +kernel) (pa_cons (pv 1) (pa_cons (pe_glob (v := .ref S.c4) (by rfl) S.g4 rfl) pa_nil))) (pa_cons (pe_callB (call_isE R.ex hz hf) (by rfl) S.zI (by decide +kernel) (pa_cons (pv 1) (pa_cons (pe_glob (v := .ref S.c5) (by rfl) S.g5 rfl) pa_nil))) pa_nil))))))
    (pss_cons (ps_expr (pe_bm PySem.F.plainAttrs_list PySem.F.slot_list_append PySem.F.type_list_append mt_append (pv 2) (pa_cons (pe_callB (call_isE R.ex hz hf) (by rfl) S.zI (by decide +kernel) (pa_cons (pv 1) (pa_cons (pe_glob (v := .ref S.c6) (by rfl) S.g6 rfl) pa_nil))) pa_nil)))
    (pss_cons (ps_set (i := 3) nd rfl (.inl rfl) (pe_ifExp (PW.pt (pw_and (pt_cmpR op_eq (pe_bm PySem.F.plainAttrs_list PySem.F.slot_list_count PySem.F.type_list_count mt_countV (pv 2) (pa_cons pe_bl pa_nil)) pe_int (nomark _))
        (pw_and1 (pt_val (pe_callB (call_isE R.ex hz hf) (by rfl) S.zI (by decide +kernel) (pa_cons (pv 1) (pa_cons (pe_bltn (v := .ty "ValueError") (u := .type "ValueError") (by rfl) S.zV (by decide +kernel) rfl) pa_nil)))))))
      (pe_bm PySem.F.plainAttrs_list PySem.F.slot_list_index PySem.F.type_list_index mt_index (pv 2) (pa_cons pe_bl pa_nil)) pe_int))
    (pss_cons (ps_if (pt_cmpR op_eq (pv 3) pe_int (nomark _)) (pss_one ps_never) pss_nil)
    (pss_cons (ps_if (pt_cmpR op_eq (pv 3) pe_int (nomark _)) (pss_one ps_never) pss_nil)
    (pss_one (ps_ret (pe_tup (pa_cons pe_str (pa_cons (pe_ix ix_list (pe_lst (pa_cons pe_str (pa_cons pe_str (pa_cons pe_str (pa_cons pe_str (pa_cons pe_str (pa_cons pe_str pa_nil))))))) (pe_op op_sub (pv 3) pe_int) (fun _ _ => rfl)) pa_nil)))))))))), ?_⟩
  have lo := R.lo
  have hi := R.hi
  refine ⟨.ref a, rfl, .ref S.c0, .ref S.c0, _, rfl, fun u h => h, R.k0, .ref a, rfl, .ref S.c1, .ref S.c1, _, rfl, fun u h => h, R.k1, .ref a, rfl, .ref S.c2, .ref S.c2, _, rfl, fun u h => h, R.k2, (by show 3 ≤ sizeLine; decide), fun p1 hp1 => ?_⟩
  refine ⟨.ref p1, rfl, .ref a, rfl, .ref S.c3, .ref S.c3, _, rfl, fun u h => h, R.k3, .ref a, rfl, .ref S.c4, .ref S.c4, _, rfl, fun u h => h, R.k4, .ref a, rfl, .ref S.c5, .ref S.c5, _, rfl, fun u h => h, R.k5, (by show 3 ≤ sizeLine; decide), fun p2 hp2 => ⟨p1, p2, _, _, rfl, rfl, (upd_ne (ne_of_none upd_same hp2)).trans upd_same, upd_same, (by show 3 + 3 ≤ sizeLine; decide), fun p3 hp3 => ?_⟩⟩
  have s3 : ∀ b o, H1 b = some o → (upd (upd (upd H1 p1 (.lst [.bl (decide (j = 0)), .bl (decide (j = 1)), .bl (decide (j = 2))])) p2 (.lst [.bl (decide (j = 3)), .bl (decide (j = 4)), .bl (decide (j = 5))])) p3 (.lst [.bl (decide (j = 0)), .bl (decide (j = 1)), .bl (decide (j = 2)), .bl (decide (j = 3)), .bl (decide (j = 4)), .bl (decide (j = 5))])) b = some o := fun b o e => by
    have e1 : (upd H1 p1 (.lst [.bl (decide (j = 0)), .bl (decide (j = 1)), .bl (decide (j = 2))])) b = some o := (upd_ne (ne_of_none e hp1)).trans e
    exact (upd_ne (ne_of_none ((upd_ne (ne_of_none e1 hp2)).trans e1) hp3)).trans ((upd_ne (ne_of_none e1 hp2)).trans e1)
  have n3 : H1 p3 = none := by
    cases e : H1 p3 with
    | none => rfl
    | some o =>
      have e1 : (upd H1 p1 (.lst [.bl (decide (j = 0)), .bl (decide (j = 1)), .bl (decide (j = 2))])) p3 = some o := (upd_ne (ne_of_none e hp1)).trans e
      have z := hp3.symm.trans ((upd_ne (ne_of_none e1 hp2)).trans e1)
      cases z
  have g3 : (upd (upd (upd H1 p1 (.lst [.bl (decide (j = 0)), .bl (decide (j = 1)), .bl (decide (j = 2))])) p2 (.lst [.bl (decide (j = 3)), .bl (decide (j = 4)), .bl (decide (j = 5))])) p3 (.lst [.bl (decide (j = 0)), .bl (decide (j = 1)), .bl (decide (j = 2)), .bl (decide (j = 3)), .bl (decide (j = 4)), .bl (decide (j = 5))])) p3 = some (.lst [.bl (decide (j = 0)), .bl (decide (j = 1)), .bl (decide (j = 2)), .bl (decide (j = 3)), .bl (decide (j = 4)), .bl (decide (j = 5))]) := upd_same
  show tSeq _ _ _ [wv, some (.ref a), some (.ref p3), y3] (upd (upd (upd H1 p1 (.lst [.bl (decide (j = 0)), .bl (decide (j = 1)), .bl (decide (j = 2))])) p2 (.lst [.bl (decide (j = 3)), .bl (decide (j = 4)), .bl (decide (j = 5))])) p3 (.lst [.bl (decide (j = 0)), .bl (decide (j = 1)), .bl (decide (j = 2)), .bl (decide (j = 3)), .bl (decide (j = 4)), .bl (decide (j = 5))]))
  generalize (upd (upd (upd H1 p1 (.lst [.bl (decide (j = 0)), .bl (decide (j = 1)), .bl (decide (j = 2))])) p2 (.lst [.bl (decide (j = 3)), .bl (decide (j = 4)), .bl (decide (j = 5))])) p3 (.lst [.bl (decide (j = 0)), .bl (decide (j = 1)), .bl (decide (j = 2)), .bl (decide (j = 3)), .bl (decide (j = 4)), .bl (decide (j = 5))])) = H3 at s3 g3
  refine ⟨.ref p3, rfl, .inl ⟨rfl, _, SqL.of g3⟩, .ref a, rfl, .ref S.c6, .ref S.c6, _, rfl, fun u h => h, R.k6, p3, _, _, rfl, rfl, g3, (by show 6 < sizeLine; decide), ?_⟩
  have hj : j = 2 ∨ j = 3 ∨ j = 4 ∨ j = 5 ∨ j = 6 := by omega
  have s4 : ∀ b o, H1 b = some o → (upd H3 p3 (.lst ([.bl (decide (j = 0)), .bl (decide (j = 1)), .bl (decide (j = 2)), .bl (decide (j = 3)), .bl (decide (j = 4)), .bl (decide (j = 5))] ++ [.bl (decide (j = 6))]))) b = some o := fun b o e => (upd_ne (ne_of_none e n3)).trans (s3 b o e)
  have g4 : (upd H3 p3 (.lst ([.bl (decide (j = 0)), .bl (decide (j = 1)), .bl (decide (j = 2)), .bl (decide (j = 3)), .bl (decide (j = 4)), .bl (decide (j = 5))] ++ [.bl (decide (j = 6))]))) p3 = some (.lst ([.bl (decide (j = 0)), .bl (decide (j = 1)), .bl (decide (j = 2)), .bl (decide (j = 3)), .bl (decide (j = 4)), .bl (decide (j = 5))] ++ [.bl (decide (j = 6))])) := upd_same
  show tSeq _ _ _ [wv, some (.ref a), some (.ref p3), y3] (upd H3 p3 (.lst ([.bl (decide (j = 0)), .bl (decide (j = 1)), .bl (decide (j = 2)), .bl (decide (j = 3)), .bl (decide (j = 4)), .bl (decide (j = 5))] ++ [.bl (decide (j = 6))])))
  generalize (upd H3 p3 (.lst ([.bl (decide (j = 0)), .bl (decide (j = 1)), .bl (decide (j = 2)), .bl (decide (j = 3)), .bl (decide (j = 4)), .bl (decide (j = 5))] ++ [.bl (decide (j = 6))]))) = H4 at s4 g4
  have hcnt : List.countP (fun z => eqV z (.bl true)) (([.bl (decide (j = 0)), .bl (decide (j = 1)), .bl (decide (j = 2)), .bl (decide (j = 3)), .bl (decide (j = 4)), .bl (decide (j = 5))] ++ [.bl (decide (j = 6))]) : List V) = 1 := by
    rcases hj with rfl | rfl | rfl | rfl | rfl <;> rfl
  have hget : (([.bl (decide (j = 0)), .bl (decide (j = 1)), .bl (decide (j = 2)), .bl (decide (j = 3)), .bl (decide (j = 4)), .bl (decide (j = 5))] ++ [.bl (decide (j = 6))]) : List V)[j]? = some (.bl true) := by
    rcases hj with rfl | rfl | rfl | rfl | rfl <;> rfl
  have hno : ∀ (m : Nat) (z' : V), m < j → (([.bl (decide (j = 0)), .bl (decide (j = 1)), .bl (decide (j = 2)), .bl (decide (j = 3)), .bl (decide (j = 4)), .bl (decide (j = 5))] ++ [.bl (decide (j = 6))]) : List V)[m]? = some z' → eqV z' (.bl true) = false := by
    intro m z' hm e
    have hm' : m = 0 ∨ m = 1 ∨ m = 2 ∨ m = 3 ∨ m = 4 ∨ m = 5 := by omega
    have ez : z' = .bl (decide (j = m)) := by
      rcases hm' with rfl | rfl | rfl | rfl | rfl | rfl <;> (cases e; rfl)
    rw [ez, decide_eq_false (by omega)]
    rfl
  have hnm : atI ([.str "UnknownReader", .str "UnknownBook", .str "InvalidNumber", .str "SameBook", .str "OtherRing", .str "other"] : List V) ((j : Int) - 2) = some (.str (tdNm j)) := by
    rcases hj with rfl | rfl | rfl | rfl | rfl <;> rfl
  refine ⟨.ref p3, rfl, .inl ⟨rfl, _, SqL.of g4⟩, p3, _, .bl true, rfl, rfl, SqL.of g4, rfl, rfl, ?_⟩
  rw [hcnt]
  refine ⟨rfl, true, rfl, ?_⟩
  refine iteT ?_
  refine ⟨.ref a, rfl, .ty "ValueError", .type "ValueError", true, rfl, fun u h => h, R.kv, true, rfl, ?_⟩
  refine iteT ?_
  refine ⟨.ref p3, rfl, .inl ⟨rfl, _, SqL.of g4⟩, p3, _, .bl true, j, .bl true, rfl, rfl, SqL.of g4, rfl, rfl, hget, rfl, hno, ?_⟩
  show tSeq _ _ _ [wv, some (.ref a), some (.ref p3), some (.int (j : Int))] H4
  refine ⟨_, rfl, rfl, _, rfl, ?_⟩
  rw [decide_eq_false (show ¬ V.int (j : Int) = V.int 0 from fun z => by injection z with z; omega)]
  refine iteF ?_
  refine ⟨_, rfl, rfl, _, rfl, ?_⟩
  rw [decide_eq_false (show ¬ V.int (j : Int) = V.int 1 from fun z => by injection z with z; omega)]
  refine iteF ?_
  refine ⟨(by show 6 ≤ sizeLine; decide), fun p5 hp5 => ?_⟩
  refine ⟨_, rfl, _, _, rfl, rfl, ?_⟩
  refine ⟨p5, _, _, _, rfl, rfl, SqL.of upd_same, hnm, ?_⟩
  refine ⟨(by show 2 ≤ sizeLine; decide), fun p6 hp6 => ?_⟩
  have s5 : ∀ b o, H1 b = some o → (upd H4 p5 (.lst [.str "UnknownReader", .str "UnknownBook", .str "InvalidNumber", .str "SameBook", .str "OtherRing", .str "other"])) b = some o := fun b o e => (upd_ne (ne_of_none (s4 b o e) hp5)).trans (s4 b o e)
  refine q p6 _ (fun b o e => (upd_ne (ne_of_none (s5 b o e) hp6)).trans (s5 b o e)) ?_ upd_same
  cases e : H1 p6 with
  | none => rfl
  | some o =>
    have z := hp6.symm.trans (s5 _ _ e)
    cases z
/-- told's end: what the lambda gives, or what is told of its error -/
def TTold {K : PySem.W.Frag} {mg : Str → Option Value} (S : TdS K mg) : (XK → Hp → VK → Prop) → Hp → VK → Prop := fun tl H Q => ∀ E : XK, (∀ cls d H', TO S Q cls d H' → E cls d H') → tl E H Q
theorem gives_told (S : TdS X.K X.mg) : GivesV X N_ltold "_law_told" (defScope s_ltold) g cdg (defBody s_ltold) "_law_work" (TTold S) := by
  intro f R s H Q tl hact hR ht
  have nd := sc_ltold.nd
  refine ⟨_, pss_one (ps_try_as (i := 1) (c := .ref S.cE) (Wout := fun _ _ _ _ => False)
    (ts := fun a cls d DD σ1 H1 => ∀ (oe : Obj) (pn : List (Addr × Obj)), Zc cls d oe → (∃ vs, oe.data = .fields vs) → ∃ t, PSs ((toldCx X g cdg s H).suite a ((a, oe) :: pn)) toldSuite t ∧ t DD σ1 H1)
    rfl rfl nd rfl rfl ⟨rfl, by decide, Or.inl S.gE⟩ LamX.takes0
    (fun W pn xe tk _ => pss_one (ps_ret (hact W pn xe _ _ tk)))
    (fun a oe cls d pn hz hf => ⟨fun pins s1 σ1 H1 DD I h => by
      obtain ⟨t, ht, hh⟩ := h oe pn hz hf
      exact ht.run pins s1 σ1 H1 DD I hh⟩)), ?_⟩
  refine ⟨rfl, hR, ht _ fun cls d H' hto => ?_⟩
  obtain ⟨D, j, rfl, rfl, RR, q⟩ := hto
  refine ⟨true, RR.ee, fun _ a ha oe pn hz hf => ?_, fun z => Bool.noConfusion z⟩
  exact told_suite S RR hz hf rfl q
end
end Rp
namespace Rp
open PySem PySem.Spec PyProof.Rows L2 Rz Rm
/-! ### meetings, their mathematics -/
/-- the stay behind -/
def nxs (ds ss : List Int) (u : Int × Int) : Int × Int := ((u.1 + 1) % (ds.length : Int), u.2 + at' ss ((u.1 + 1) % (ds.length : Int)))
noncomputable def goes (ds ss : List Int) (e : Int) (u : Int × Int) : Int × Int := if Rm.E (at' ds) (at' ss) u.1 u.2 = e then nxs ds ss u else u
/-- two books from two stays on, until the last day -/
inductive Mt (ds ss : List Int) (L : Int) : Int × Int → Int × Int → Int → Option (Int × Int) → Prop
  | done {u v : Int × Int} {D : Int} (h : L < D) : Mt ds ss L u v D none
  | hit {u v : Int × Int} {D : Int} (h : D ≤ L) (e : u.1 = v.1) : Mt ds ss L u v D (some (D, u.1))
  | step {u v : Int × Int} {D : Int} {r : Option (Int × Int)} (h : D ≤ L) (ne : u.1 ≠ v.1) (m : Mt ds ss L (goes ds ss (min (Rm.E (at' ds) (at' ss) u.1 u.2) (Rm.E (at' ds) (at' ss) v.1 v.2)) u) (goes ds ss (min (Rm.E (at' ds) (at' ss) u.1 u.2) (Rm.E (at' ds) (at' ss) v.1 v.2)) v) (min (Rm.E (at' ds) (at' ss) u.1 u.2) (Rm.E (at' ds) (at' ss) v.1 v.2)) r) : Mt ds ss L u v D r
theorem Mt.det {ds ss : List Int} {L : Int} {u v : Int × Int} {D : Int} {r r' : Option (Int × Int)} (h : Mt ds ss L u v D r) : Mt ds ss L u v D r' → r = r' := by
  induction h with
  | done h =>
    intro h'
    cases h' with
    | done _ => rfl
    | hit h2 _ => omega
    | step h2 _ _ => omega
  | hit h e =>
    intro h'
    cases h' with
    | done h2 => omega
    | hit _ _ => rfl
    | step _ ne _ => exact absurd e ne
  | step h ne m ih =>
    intro h'
    cases h' with
    | done h2 => omega
    | hit _ e => exact absurd e ne
    | step _ _ m' => exact ih m'
theorem Mt.symm {ds ss : List Int} {L : Int} {u v : Int × Int} {D : Int} {r : Option (Int × Int)} (h : Mt ds ss L u v D r) : Mt ds ss L v u D r := by
  induction h with
  | done h => exact .done h
  | hit h e =>
    rw [e]
    exact .hit h e.symm
  | step h ne m ih =>
    refine .step h (Ne.symm ne) ?_
    rw [Int.min_comm]
    exact ih
structure Sty (ds : List Int) (u : Int × Int) : Prop where
  r0 : 0 ≤ u.1
  r1 : u.1 < ds.length
  x0 : 0 ≤ u.2
theorem nxs_ok {ds ss : List Int} (G : Good ds ss) {u : Int × Int} (h : Sty ds u) : Sty ds (nxs ds ss u) := by
  have l2 := G.l2
  obtain ⟨M, hM, hMu⟩ := G.max
  have RR := G.ring hM hMu
  have s0 := RR.s0 ((u.1 + 1) % (ds.length : Int))
  have x0 := h.x0
  exact ⟨Int.emod_nonneg _ (by omega), Int.emod_lt_of_pos _ (by omega), by show 0 ≤ u.2 + _; omega⟩
theorem goes_ok {ds ss : List Int} (G : Good ds ss) {u : Int × Int} (h : Sty ds u) (e : Int) : Sty ds (goes ds ss e u) := by
  unfold goes
  split
  · exact nxs_ok G h
  · exact h
theorem nxs_later {ds ss : List Int} (G : Good ds ss) {u : Int × Int} (h : Sty ds u) : Rm.E (at' ds) (at' ss) u.1 u.2 < Rm.E (at' ds) (at' ss) (nxs ds ss u).1 (nxs ds ss u).2 := by
  have l2 := G.l2
  obtain ⟨M, hM, hMu⟩ := G.max
  have RR := G.ring hM hMu
  have x0 := h.x0
  have d0 := RR.d1 ((u.1 + 1) % (ds.length : Int))
  have h1 := RR.from ((u.1 + 1) % (ds.length : Int)) (x := u.2 + at' ss ((u.1 + 1) % (ds.length : Int))) (by omega)
  rw [show u.2 + at' ss ((u.1 + 1) % (ds.length : Int)) - at' ss ((u.1 + 1) % (ds.length : Int)) = u.2 by omega] at h1
  have h2 : Rm.E (at' ds) (at' ss) ((u.1 + 1) % (ds.length : Int) - 1) u.2 = Rm.E (at' ds) (at' ss) u.1 u.2 := by
    have e1 := Int.emod_add_mul_ediv (u.1 + 1) (ds.length : Int)
    have e2 := RR.E_per ((u.1 + 1) % (ds.length : Int) - 1) u.2 ((u.1 + 1) / (ds.length : Int))
    rw [← e2]
    rw [show (u.1 + 1) % (ds.length : Int) - 1 + (ds.length : Int) * ((u.1 + 1) / (ds.length : Int)) = u.1 by omega]
  show Rm.E (at' ds) (at' ss) u.1 u.2 < Rm.E (at' ds) (at' ss) ((u.1 + 1) % (ds.length : Int)) (u.2 + at' ss ((u.1 + 1) % (ds.length : Int)))
  omega
theorem goes_later {ds ss : List Int} (G : Good ds ss) {u : Int × Int} (h : Sty ds u) {e : Int} (he : e ≤ Rm.E (at' ds) (at' ss) u.1 u.2) : e < Rm.E (at' ds) (at' ss) (goes ds ss e u).1 (goes ds ss e u).2 := by
  unfold goes
  by_cases c : Rm.E (at' ds) (at' ss) u.1 u.2 = e
  · rw [if_pos c]
    have := nxs_later G h
    omega
  · rw [if_neg c]
    omega
/-- where a book is at first -/
structure Fst (ds ss : List Int) (b : Int) (u : Int × Int) : Prop where
  r0 : 0 ≤ u.1
  r1 : u.1 < ds.length
  x0 : 0 ≤ u.2
  x1 : u.2 < at' ss u.1
  e : b = (ss.take u.1.toNat).sum + u.2
theorem Fst.sty {ds ss : List Int} {b : Int} {u : Int × Int} (h : Fst ds ss b u) : Sty ds u := ⟨h.r0, h.r1, h.x0⟩
theorem take_mono' {ss : List Int} (h0 : ∀ y ∈ ss, 0 ≤ y) : ∀ {i j : Nat}, i ≤ j → (ss.take i).sum ≤ (ss.take j).sum := by
  intro i j hij
  have e : ss.take i = (ss.take j).take i := by rw [List.take_take, Nat.min_eq_left hij]
  have h2 : ((ss.take j).take i).sum + ((ss.take j).drop i).sum = (ss.take j).sum := by rw [← List.sum_append, List.take_append_drop]
  have h3 := mem_le_sum.sum_nonneg' (l := (ss.take j).drop i) fun y hy => h0 y (List.mem_of_mem_take (List.mem_of_mem_drop hy))
  rw [e]
  omega
theorem take_step' {ss : List Int} {i : Nat} (hi : i < ss.length) : (ss.take (i + 1)).sum = (ss.take i).sum + at' ss (i : Int) := by
  have h := List.getElem?_eq_getElem hi
  have := at_nat h
  rw [List.take_add_one, h, List.sum_append, this]
  simp
theorem Fst.inj {ds ss : List Int} (G : Good ds ss) {b : Int} {u v : Int × Int} (h : Fst ds ss b u) (h' : Fst ds ss b v) : u = v := by
  have h0 : ∀ y ∈ ss, 0 ≤ y := fun y hy => (G.s0 y hy).1
  have ls := G.ls
  obtain ⟨a0, a1, a2, a3, a4⟩ := h
  obtain ⟨b0, b1, b2, b3, b4⟩ := h'
  have s1 := take_step' (ss := ss) (i := u.1.toNat) (by omega)
  have s2 := take_step' (ss := ss) (i := v.1.toNat) (by omega)
  rw [show ((u.1.toNat : Nat) : Int) = u.1 by omega] at s1
  rw [show ((v.1.toNat : Nat) : Int) = v.1 by omega] at s2
  have e : u.1 = v.1 := by
    rcases Int.lt_trichotomy u.1 v.1 with z | z | z
    · have := take_mono' h0 (show u.1.toNat + 1 ≤ v.1.toNat by omega)
      omega
    · exact z
    · have := take_mono' h0 (show v.1.toNat + 1 ≤ u.1.toNat by omega)
      omega
  refine Prod.ext e ?_
  rw [e] at a4
  omega
theorem Fst.in {ds ss : List Int} (G : Good ds ss) {b : Int} {u : Int × Int} (h : Fst ds ss b u) : 0 ≤ b ∧ b < ss.sum := by
  have h0 : ∀ y ∈ ss, 0 ≤ y := fun y hy => (G.s0 y hy).1
  have ls := G.ls
  obtain ⟨a0, a1, a2, a3, a4⟩ := h
  have s1 := take_step' (ss := ss) (i := u.1.toNat) (by omega)
  rw [show ((u.1.toNat : Nat) : Int) = u.1 by omega] at s1
  have m1 := take_mono' h0 (show 0 ≤ u.1.toNat by omega)
  have m2 := take_mono' h0 (show u.1.toNat + 1 ≤ ss.length by omega)
  rw [List.take_length] at m2
  rw [List.take_zero, List.sum_nil] at m1
  omega
/-- the day from which on nothing new comes -/
def Lst (ds ss : List Int) (L : Int) : Prop := ∃ n p q M mE : Int, M ∈ ds ∧ (∀ y ∈ ds, y ≤ M) ∧ RepIs ds.sum ss.sum M p q ∧ SettledIs ds ss n p q ∧ (∃ r : Int, 0 ≤ r ∧ r < ds.length ∧ Rm.E (at' ds) (at' ss) r n = mE) ∧ (∀ r : Int, 0 ≤ r → r < ds.length → Rm.E (at' ds) (at' ss) r n ≤ mE) ∧ L = mE + q * (ss.sum / p)
theorem E_pred {ds ss : List Int} (G : Good ds ss) (r x : Int) : Rm.E (at' ds) (at' ss) ((r - 1) % (ds.length : Int)) x = Rm.E (at' ds) (at' ss) (r - 1) x := by
  obtain ⟨M, hM, hMu⟩ := G.max
  exact (G.ring hM hMu).E_mod _ _
/-! ### where books are -/
/-- a book is at a reader on a day, by a reading -/
structure On (ds ss : List Int) (b D : Int) (u : Int × Int) : Prop where
  st : Sty ds u
  bk : bk ss u.1 u.2 = b
  c : cm ds ss u.1 u.2 ≤ D
  e : D < Rm.E (at' ds) (at' ss) u.1 u.2
def stn (ds ss : List Int) (u0 : Int × Int) : Nat → Int × Int
  | 0 => u0
  | n + 1 => nxs ds ss (stn ds ss u0 n)
section
variable {ds ss : List Int} (G : Good ds ss) {b : Int} {u0 : Int × Int} (F : Fst ds ss b u0)
include G
theorem nxs_pred {u : Int × Int} (h : Sty ds u) : Rm.E (at' ds) (at' ss) ((nxs ds ss u).1 - 1) ((nxs ds ss u).2 - at' ss (nxs ds ss u).1) = Rm.E (at' ds) (at' ss) u.1 u.2 ∧ Rp.bk ss (nxs ds ss u).1 (nxs ds ss u).2 = Rp.bk ss u.1 u.2 := by
  have l2 := G.l2
  obtain ⟨M, hM, hMu⟩ := G.max
  have RR := G.ring hM hMu
  have e1 := Int.emod_add_mul_ediv (u.1 + 1) (ds.length : Int)
  have r0 := h.r0
  have x0 := h.x0
  have e0 : (u.1 + 1) % (ds.length : Int) - 1 + (ds.length : Int) * ((u.1 + 1) / (ds.length : Int)) = u.1 := by omega
  have es : (nxs ds ss u).2 - at' ss (nxs ds ss u).1 = u.2 := by show u.2 + at' ss ((u.1 + 1) % (ds.length : Int)) - at' ss ((u.1 + 1) % (ds.length : Int)) = u.2; omega
  refine ⟨?_, ?_⟩
  · rw [es]
    have e2 := RR.E_per ((u.1 + 1) % (ds.length : Int) - 1) u.2 ((u.1 + 1) / (ds.length : Int))
    rw [e0] at e2
    exact e2.symm
  · rw [bk_rec RR G.ls (nxs ds ss u).1 (n := (nxs ds ss u).2) (by show at' ss ((u.1 + 1) % (ds.length : Int)) ≤ u.2 + at' ss ((u.1 + 1) % (ds.length : Int)); omega), es]
    have e2 := bk_per RR G.ls ((u.1 + 1) % (ds.length : Int) - 1) ((u.1 + 1) / (ds.length : Int)) u.2
    rw [e0] at e2
    exact e2.symm
theorem nxs_cm {u : Int × Int} (h : Sty ds u) : cm ds ss (nxs ds ss u).1 (nxs ds ss u).2 = Rm.E (at' ds) (at' ss) u.1 u.2 := by
  have x0 := h.x0
  unfold cm
  rw [if_neg (show ¬ (nxs ds ss u).2 < at' ss (nxs ds ss u).1 from by show ¬ u.2 + at' ss ((u.1 + 1) % (ds.length : Int)) < at' ss ((u.1 + 1) % (ds.length : Int)); omega)]
  exact (nxs_pred G h).1
include F
theorem stn_ok : ∀ n, Sty ds (stn ds ss u0 n) ∧ Rp.bk ss (stn ds ss u0 n).1 (stn ds ss u0 n).2 = b
  | 0 => by
    obtain ⟨M, hM, hMu⟩ := G.max
    have RR := G.ring hM hMu
    have r0 := F.r0
    have r1 := F.r1
    refine ⟨F.sty, ?_⟩
    have h := bk_first RR G.ls (k := u0.1.toNat) (by omega) F.x0 (by rw [Int.toNat_of_nonneg r0]; exact F.x1)
    rw [Int.toNat_of_nonneg r0] at h
    show Rp.bk ss u0.1 u0.2 = b
    rw [h, F.e]
  | n + 1 => by
    obtain ⟨h1, h2⟩ := stn_ok n
    exact ⟨nxs_ok G h1, (nxs_pred G h1).2.trans h2⟩
theorem stn_lt {i : Nat} : ∀ k, Rm.E (at' ds) (at' ss) (stn ds ss u0 i).1 (stn ds ss u0 i).2 ≤ cm ds ss (stn ds ss u0 (i + (k + 1))).1 (stn ds ss u0 (i + (k + 1))).2
  | 0 => Int.le_of_eq (nxs_cm G (stn_ok G F i).1).symm
  | k + 1 => by
    have h1 := stn_lt (i := i) k
    have h2 := nxs_cm G (stn_ok G F (i + (k + 1))).1
    have hs := (stn_ok G F (i + (k + 1))).1
    have h3 : cm ds ss (stn ds ss u0 (i + (k + 1))).1 (stn ds ss u0 (i + (k + 1))).2 ≤ Rm.E (at' ds) (at' ss) (stn ds ss u0 (i + (k + 1))).1 (stn ds ss u0 (i + (k + 1))).2 := by
      obtain ⟨M, hM, hMu⟩ := G.max
      have RR := G.ring hM hMu
      have x0 := hs.x0
      have d1 := RR.d1 (stn ds ss u0 (i + (k + 1))).1
      have e1 := RR.E1 (stn ds ss u0 (i + (k + 1))).1 x0
      unfold cm
      split
      · omega
      · have := RR.from (stn ds ss u0 (i + (k + 1))).1 (x := (stn ds ss u0 (i + (k + 1))).2) (by omega)
        omega
    show _ ≤ cm ds ss (nxs ds ss (stn ds ss u0 (i + (k + 1)))).1 (nxs ds ss (stn ds ss u0 (i + (k + 1)))).2
    rw [h2]
    omega
omit F in
theorem cm_lt (r : Int) {x : Int} (x0 : 0 ≤ x) : cm ds ss r x + at' ds r ≤ Rm.E (at' ds) (at' ss) r x ∧ 0 ≤ cm ds ss r x := by
  obtain ⟨M, hM, hMu⟩ := G.max
  have RR := G.ring hM hMu
  have e1 := RR.E1 r x0
  unfold cm
  split
  · exact ⟨by omega, Int.le_refl _⟩
  · have := RR.from r (x := x) (by omega)
    have h2 := RR.E1 (r - 1) (x := x - at' ss r) (by omega)
    have h3 := RR.d1 (r - 1)
    omega
theorem stn_all : ∀ (m : Nat) (u : Int × Int), Sty ds u → Rp.bk ss u.1 u.2 = b → Rm.E (at' ds) (at' ss) u.1 u.2 ≤ m → ∃ n, u = stn ds ss u0 n
  | 0, u, h, _, hm => by
    obtain ⟨M, hM, hMu⟩ := G.max
    have RR := G.ring hM hMu
    have := RR.E1 u.1 h.x0
    have := RR.d1 u.1
    omega
  | m + 1, u, h, hb, hm => by
    obtain ⟨M, hM, hMu⟩ := G.max
    have RR := G.ring hM hMu
    have l2 := G.l2
    have r0 := h.r0
    have r1 := h.r1
    have x0 := h.x0
    by_cases hx : u.2 < at' ss u.1
    · refine ⟨0, Fst.inj G ⟨r0, r1, x0, hx, ?_⟩ F⟩
      have hf := bk_first RR G.ls (k := u.1.toNat) (by omega) x0 (by rw [Int.toNat_of_nonneg r0]; exact hx)
      rw [Int.toNat_of_nonneg r0] at hf
      rw [← hf, hb]
    · have hp0 := Int.emod_nonneg (u.1 - 1) (show (ds.length : Int) ≠ 0 by omega)
      have hp1 := Int.emod_lt_of_pos (u.1 - 1) (show (0 : Int) < ds.length by omega)
      have ep : ((u.1 - 1) % (ds.length : Int) + 1) % (ds.length : Int) = u.1 := by
        have e1 := Int.emod_add_mul_ediv (u.1 - 1) (ds.length : Int)
        rw [show (u.1 - 1) % (ds.length : Int) + 1 = u.1 + (ds.length : Int) * (- ((u.1 - 1) / (ds.length : Int))) by rw [Int.mul_neg]; omega, Int.add_mul_emod_self_left, Int.emod_eq_of_lt r0 r1]
      have V : Sty ds ((u.1 - 1) % (ds.length : Int), u.2 - at' ss u.1) := ⟨hp0, hp1, by show 0 ≤ u.2 - at' ss u.1; omega⟩
      have en : nxs ds ss ((u.1 - 1) % (ds.length : Int), u.2 - at' ss u.1) = u := by
        unfold nxs
        simp only [ep]
        refine Prod.ext rfl ?_
        show u.2 - at' ss u.1 + at' ss u.1 = u.2
        omega
      have hl := nxs_later G V
      have hbk := (nxs_pred G V).2
      rw [en] at hl hbk
      obtain ⟨n, hn⟩ := stn_all m ((u.1 - 1) % (ds.length : Int), u.2 - at' ss u.1) V (by rw [← hbk]; exact hb) (by omega)
      refine ⟨n + 1, ?_⟩
      show u = nxs ds ss (stn ds ss u0 n)
      rw [← hn, en]
/-- a book is at one reader only -/
theorem on_one {D : Int} {u v : Int × Int} (h : On ds ss b D u) (h' : On ds ss b D v) : u = v := by
  obtain ⟨i, rfl⟩ := stn_all G F (Rm.E (at' ds) (at' ss) u.1 u.2).toNat u h.st h.bk (by omega)
  obtain ⟨j, rfl⟩ := stn_all G F (Rm.E (at' ds) (at' ss) v.1 v.2).toNat v h'.st h'.bk (by omega)
  have c1 := h.c
  have c2 := h'.c
  have e1 := h.e
  have e2 := h'.e
  rcases Nat.lt_trichotomy i j with z | z | z
  · have := stn_lt G F (i := i) (j - i - 1)
    rw [show i + (j - i - 1 + 1) = j by omega] at this
    omega
  · rw [z]
  · have := stn_lt G F (i := j) (i - j - 1)
    rw [show j + (i - j - 1 + 1) = i by omega] at this
    omega
omit F
theorem on_goes {D : Int} {u : Int × Int} (h : On ds ss b D u) {e : Int} (he : e ≤ Rm.E (at' ds) (at' ss) u.1 u.2) (hD : D ≤ e) : On ds ss b e (goes ds ss e u) := by
  refine ⟨goes_ok G h.st e, ?_, ?_, goes_later G h.st he⟩
  · unfold goes
    split
    · exact (nxs_pred G h.st).2.trans h.bk
    · exact h.bk
  · unfold goes
    split
    · rename_i z
      rw [nxs_cm G h.st, z]
      exact Int.le_refl _
    · have := h.c
      omega
/-- both are at the reader -/
def Mee (ds ss : List Int) (b c D r : Int) : Prop := ∃ x y : Int, On ds ss b D (r, x) ∧ On ds ss c D (r, y)
theorem mt_ok {c : Int} {v0 : Int × Int} (F : Fst ds ss b u0) (F' : Fst ds ss c v0) {L : Int} {u v : Int × Int} {D : Int} {r : Option (Int × Int)} (h : Mt ds ss L u v D r) (hu : On ds ss b D u) (hv : On ds ss c D v) (no : ∀ D' r', 0 ≤ D' → D' < D → ¬ Mee ds ss b c D' r') :
    (r = none ∧ ∀ D' r', 0 ≤ D' → D' ≤ L → ¬ Mee ds ss b c D' r') ∨ ∃ D' r', r = some (D', r') ∧ D' ≤ L ∧ Mee ds ss b c D' r' ∧ ∀ D2 r2, 0 ≤ D2 → D2 < D' → ¬ Mee ds ss b c D2 r2 := by
  induction h with
  | done h => exact .inl ⟨rfl, fun D' r' h0 h1 => no D' r' h0 (by omega)⟩
  | @hit u v D h e => exact .inr ⟨D, u.1, rfl, h, ⟨u.2, v.2, hu, by rw [e]; exact hv⟩, no⟩
  | @step u v D r h ne m ih =>
    have e1 := hu.e
    have e2 := hv.e
    refine ih (on_goes G hu (by omega) (by omega)) (on_goes G hv (by omega) (by omega)) fun D' r' h0 h1 hm => ?_
    rcases Int.lt_or_le D' D with z | z
    · exact no D' r' h0 z hm
    · obtain ⟨x, y, hx, hy⟩ := hm
      have c1 := hu.c
      have c2 := hv.c
      have a1 := on_one G F hx ⟨hu.st, hu.bk, by omega, by omega⟩
      have a2 := on_one G F' hy ⟨hv.st, hv.bk, by omega, by omega⟩
      exact ne (by rw [← a1, ← a2])
/-- later than the last new day all is as a period before -/
theorem on_before {L : Int} (h : Lst ds ss L) : ∃ per : Int, 1 ≤ per ∧ per ≤ L ∧ (∀ D, L < D → ∀ b u, On ds ss b D u → On ds ss b (D - per) (u.1, u.2 - ss.sum)) := by
  obtain ⟨n, p, q, M, mE, hM, hMu, hr, hs, ⟨r1, a1, a2, a3⟩, au, rfl⟩ := h
  have RR := G.ring hM hMu
  have l2 := G.l2
  have b1 := G.b1
  have M1 := RR.M1
  have T1 : ds.sum ≥ 1 := by
    have := mem_le_sum (fun y hy => by have := (G.d1 y hy).1; omega) M hM
    omega
  have pp : (p = 1 ∨ p = ss.sum) ∧ 1 ≤ q := by
    rcases hr with ⟨_, rfl, rfl⟩ | ⟨_, rfl, rfl⟩
    · exact ⟨.inl rfl, M1⟩
    · exact ⟨.inr rfl, T1⟩
  have hk : 1 ≤ ss.sum / p ∧ ((ss.sum / p).toNat : Int) * p = ss.sum := by
    rcases pp.1 with rfl | rfl
    · rw [Int.ediv_one]
      omega
    · rw [Int.ediv_self (by omega)]
      exact ⟨by decide, by show ((1 : Nat) : Int) * ss.sum = ss.sum; omega⟩
  have hper : 1 ≤ q * (ss.sum / p) := by
    exact Int.le_trans (by decide) (Int.mul_le_mul pp.2 hk.1 (by decide) (by omega))
  have hp1 : 1 ≤ p := by rcases pp.1 with rfl | rfl <;> omega
  have shift : ∀ (r : Int) {x : Int}, n ≤ x → Rm.E (at' ds) (at' ss) r (x + ss.sum) = Rm.E (at' ds) (at' ss) r x + q * (ss.sum / p) := fun r x hx => by
    have e := RR.rounds hp1 hs.all r hx (ss.sum / p).toNat
    rw [hk.2] at e
    rw [e, show ((ss.sum / p).toNat : Int) = ss.sum / p by omega, Int.mul_comm]
  have n0 := hs.n0
  have mE0 : 0 ≤ mE := by
    have := RR.E1 r1 n0
    have := RR.d1 r1
    omega
  refine ⟨q * (ss.sum / p), hper, by omega, fun D hD b u hu => ?_⟩
  obtain ⟨⟨r0, r1', x0⟩, hb, hc, he⟩ := hu
  have hnb : n + ss.sum < u.2 := by
    rcases Int.lt_or_le (n + ss.sum) u.2 with z | z
    · exact z
    · have h1 := RR.le u.1 x0 z
      rw [shift u.1 (Int.le_refl n)] at h1
      have h2 := au u.1 r0 r1'
      omega
  have hE := shift u.1 (x := u.2 - ss.sum) (by omega)
  rw [show u.2 - ss.sum + ss.sum = u.2 by omega] at hE
  refine ⟨⟨r0, r1', by show 0 ≤ u.2 - ss.sum; omega⟩, ?_, ?_, by show D - _ < Rm.E (at' ds) (at' ss) u.1 (u.2 - ss.sum); omega⟩
  · show Rp.bk ss u.1 (u.2 - ss.sum) = b
    rw [← hb]
    unfold Rp.bk
    rw [show (u.2 - ss.sum) % ss.sum = u.2 % ss.sum by rw [show u.2 - ss.sum = u.2 + ss.sum * (-1) by omega, Int.add_mul_emod_self_left]]
  · show cm ds ss u.1 (u.2 - ss.sum) ≤ D - q * (ss.sum / p)
    have sB := s_le RR G.ls u.1
    have s0 := RR.s0 u.1
    have hcm : cm ds ss u.1 u.2 = Rm.E (at' ds) (at' ss) (u.1 - 1) (u.2 - at' ss u.1) := by
      unfold cm
      rw [if_neg (by omega)]
    rw [hcm] at hc
    unfold cm
    split
    · omega
    · rcases Int.lt_or_le (u.2 - ss.sum - at' ss u.1) n with z | z
      · have h1 := RR.le (u.1 - 1) (x := u.2 - ss.sum - at' ss u.1) (y := n) (by omega) (by omega)
        have h2 := au ((u.1 - 1) % (ds.length : Int)) (Int.emod_nonneg _ (by omega)) (Int.emod_lt_of_pos _ (by omega))
        rw [E_pred G] at h2
        omega
      · have h1 := shift (u.1 - 1) z
        rw [show u.2 - ss.sum - at' ss u.1 + ss.sum = u.2 - at' ss u.1 by omega] at h1
        omega
/-- if they meet, they do so by the last new day -/
theorem mee_least {c L : Int} (h : Lst ds ss L) : ∀ (m : Nat) (D r : Int), 0 ≤ D → D ≤ m → Mee ds ss b c D r → ∃ D' r', 0 ≤ D' ∧ D' ≤ D ∧ D' ≤ L ∧ Mee ds ss b c D' r'
  | 0, D, r, h0, h1, hm => by
    obtain ⟨per, p1, pL, _⟩ := on_before G h
    exact ⟨D, r, h0, Int.le_refl _, by omega, hm⟩
  | m + 1, D, r, h0, h1, hm => by
    obtain ⟨per, p1, pL, hp⟩ := on_before G h
    rcases Int.lt_or_le L D with z | z
    · obtain ⟨x, y, hx, hy⟩ := hm
      obtain ⟨D', r', a1, a2, a3, a4⟩ := mee_least h m (D - per) r (by omega) (by omega) ⟨_, _, hp D z _ _ hx, hp D z _ _ hy⟩
      exact ⟨D', r', a1, by omega, a3, a4⟩
    · exact ⟨D, r, h0, Int.le_refl _, z, hm⟩
end
end Rp
namespace Rp
open PySem PySem.Spec PyProof.Rows L2 Rz Rm
/-- a shared time that the play's rows show -/
def Fnd (ds ss : List Int) (b c D r : Int) : Prop := ∃ x y : Nat, (x : Int) < Cn (at' ds) (at' ss) r (200 + at' ds r) ∧ (y : Int) < Cn (at' ds) (at' ss) r (200 + at' ds r) ∧ bk ss r x = b ∧ bk ss r y = c ∧
  max (cm ds ss r x) (cm ds ss r y) = D ∧ D < min (Rm.E (at' ds) (at' ss) r x) (Rm.E (at' ds) (at' ss) r y)
theorem settled_one {ds ss : List Int} {n n' p q : Int} (h : SettledIs ds ss n p q) (h' : SettledIs ds ss n' p q) : n = n' := by
  have a0 := h.n0
  have b0 := h'.n0
  rcases Int.lt_trichotomy n n' with z | z | z
  · rcases h'.least with l | ⟨r, _, _, l⟩
    · omega
    · exact absurd (h.all (n' - 1) (by omega) r) l
  · exact z
  · rcases h.least with l | ⟨r, _, _, l⟩
    · omega
    · exact absurd (h'.all (n - 1) (by omega) r) l
theorem rep_uni {ds ss : List Int} (G : Good ds ss) {M M' p p' q q' : Int} (hM : M ∈ ds) (hMu : ∀ y ∈ ds, y ≤ M) (hM' : M' ∈ ds) (hMu' : ∀ y ∈ ds, y ≤ M') (h : RepIs ds.sum ss.sum M p q) (h' : RepIs ds.sum ss.sum M' p' q') : p = p' ∧ q = q' := by
  have e : M = M' := Int.le_antisymm (hMu' M hM) (hMu M' hM')
  subst e
  rcases h with ⟨a, rfl, rfl⟩ | ⟨a, rfl, rfl⟩ <;> rcases h' with ⟨b, rfl, rfl⟩ | ⟨b, rfl, rfl⟩
  · exact ⟨rfl, rfl⟩
  · exact absurd a b
  · exact absurd b a
  · exact ⟨rfl, rfl⟩
section
variable {ds ss : List Int} (G : Good ds ss) {b c : Int} {u0 v0 : Int × Int} (F : Fst ds ss b u0) (F' : Fst ds ss c v0) {L : Int} (hL : Lst ds ss L)
include G
theorem end_cn {r D : Int} {x : Nat} (h : (x : Int) < Cn (at' ds) (at' ss) r D) : Rm.E (at' ds) (at' ss) r x ≤ D := by
  obtain ⟨M, hM, hMu⟩ := G.max
  have RR := G.ring hM hMu
  obtain ⟨c0, c1, c2⟩ := RR.cn r D
  rcases c1 with c1 | c1
  · omega
  · have := RR.le r (x := (x : Int)) (y := Cn (at' ds) (at' ss) r D - 1) (by omega) (by omega)
    omega
theorem cn_end' {r D x : Int} (x0 : 0 ≤ x) (h : Rm.E (at' ds) (at' ss) r x ≤ D) : x < Cn (at' ds) (at' ss) r D := by
  obtain ⟨M, hM, hMu⟩ := G.max
  have RR := G.ring hM hMu
  obtain ⟨c0, c1, c2⟩ := RR.cn r D
  rcases Int.lt_or_le x (Cn (at' ds) (at' ss) r D) with z | z
  · exact z
  · have := RR.le r c0 z
    omega
theorem fnd_mee {D r : Int} (r0 : 0 ≤ r) (r1 : r < ds.length) (h : Fnd ds ss b c D r) : 0 ≤ D ∧ D ≤ 200 ∧ ∃ x y : Int, On ds ss b D (r, x) ∧ On ds ss c D (r, y) ∧ Rm.E (at' ds) (at' ss) r x ≤ 200 + at' ds r ∧ Rm.E (at' ds) (at' ss) r y ≤ 200 + at' ds r := by
  obtain ⟨x, y, hx, hy, bx, byy, hD, he⟩ := h
  have e1 := end_cn G hx
  have e2 := end_cn G hy
  have c1 := cm_lt G r (x := (x : Int)) (by omega)
  have c2 := cm_lt G r (x := (y : Int)) (by omega)
  refine ⟨by omega, by omega, x, y, ⟨⟨r0, r1, by show (0 : Int) ≤ x; omega⟩, bx, by show cm ds ss r x ≤ D; omega, by show D < Rm.E (at' ds) (at' ss) r x; omega⟩, ⟨⟨r0, r1, by show (0 : Int) ≤ y; omega⟩, byy, by show cm ds ss r y ≤ D; omega, by show D < Rm.E (at' ds) (at' ss) r y; omega⟩, e1, e2⟩
theorem on_fst (F : Fst ds ss b u0) : On ds ss b 0 u0 := by
  have h := (stn_ok G F 0).2
  obtain ⟨M, hM, hMu⟩ := G.max
  have RR := G.ring hM hMu
  have e1 := RR.E1 u0.1 F.x0
  have d1 := RR.d1 u0.1
  refine ⟨F.sty, h, ?_, by omega⟩
  unfold cm
  rw [if_pos F.x1]
  exact Int.le_refl _
/-- the first day of a time that both share -/
theorem mee_day {D r : Int} (h : Mee ds ss b c D r) (D0 : 0 ≤ D) (no : ∀ D2 r2, 0 ≤ D2 → D2 < D → ¬ Mee ds ss b c D2 r2) : ∃ x y : Int, On ds ss b D (r, x) ∧ On ds ss c D (r, y) ∧ max (cm ds ss r x) (cm ds ss r y) = D := by
  obtain ⟨x, y, hx, hy⟩ := h
  refine ⟨x, y, hx, hy, ?_⟩
  have c1 := hx.c
  have c2 := hy.c
  have e1 := hx.e
  have e2 := hy.e
  have z1 := (cm_lt G r (x := x) hx.st.x0).2
  have z2 := (cm_lt G r (x := y) hy.st.x0).2
  simp only at c1 c2 e1 e2
  rcases Int.lt_or_le (max (cm ds ss r x) (cm ds ss r y)) D with z | z
  · exact absurd ⟨x, y, ⟨hx.st, hx.bk, by show cm ds ss r x ≤ D - 1; omega, by show D - 1 < Rm.E (at' ds) (at' ss) r x; omega⟩, ⟨hy.st, hy.bk, by show cm ds ss r y ≤ D - 1; omega, by show D - 1 < Rm.E (at' ds) (at' ss) r y; omega⟩⟩ (no (D - 1) r (by omega) (by omega))
  · omega
include F F' hL
/-- what first_meeting gives is the least of the rows' shared times, if there is one -/
theorem due_found {res : Option (Int × Int)} (m : Mt ds ss L u0 v0 0 res) {D1 r1 : Int} (a0 : 0 ≤ r1) (a1 : r1 < ds.length) (h : Fnd ds ss b c D1 r1) :
    ∃ D r : Int, res = some (D, r) ∧ 0 ≤ r ∧ r < ds.length ∧ Fnd ds ss b c D r ∧ ∀ D' r' : Int, 0 ≤ r' → r' < ds.length → Fnd ds ss b c D' r' → D < D' ∨ (D' = D ∧ r' = r) := by
  obtain ⟨d0, d1, x1, y1, ox1, oy1, ex1, ey1⟩ := fnd_mee G a0 a1 h
  obtain ⟨D3, r3, b0, b1, b2, b3⟩ := mee_least G (b := b) (c := c) hL D1.toNat D1 r1 d0 (by omega) ⟨x1, y1, ox1, oy1⟩
  rcases mt_ok G F F' m (on_fst G F) (on_fst G F') (fun D' r' z1 z2 => absurd z2 (by omega)) with ⟨_, hno⟩ | ⟨D, r, rfl, hl, hm, hno⟩
  · exact absurd b3 (hno D3 r3 b0 b2)
  · have D0 : 0 ≤ D := by
      obtain ⟨x, y, hx, hy⟩ := hm
      have := (cm_lt G r (x := x) hx.st.x0).2
      have := hx.c
      simp only at this
      omega
    have DD : D ≤ D1 := by
      rcases Int.lt_or_le D1 D with z | z
      · exact absurd ⟨x1, y1, ox1, oy1⟩ (hno D1 r1 d0 z)
      · exact z
    obtain ⟨x, y, hx, hy, hD⟩ := mee_day G hm D0 hno
    have lim : ∀ {b' : Int} {w0 : Int × Int}, Fst ds ss b' w0 → ∀ {z z1 : Int}, On ds ss b' D (r, z) → On ds ss b' D1 (r1, z1) → Rm.E (at' ds) (at' ss) r1 z1 ≤ 200 + at' ds r1 → Rm.E (at' ds) (at' ss) r z ≤ 200 + at' ds r := fun {b' w0} FF {z z1} h1 h2 h3 => by
      rcases Int.lt_or_le (200 + at' ds r) (Rm.E (at' ds) (at' ss) r z) with q | q
      · have c1 := h1.c
        have dr : 0 ≤ at' ds r := by
          obtain ⟨M, hM, hMu⟩ := G.max
          have := (G.ring hM hMu).d1 r
          omega
        have e := on_one G FF (D := D1) ⟨h1.st, h1.bk, by omega, by show D1 < Rm.E (at' ds) (at' ss) r z; omega⟩ h2
        have er : r = r1 := congrArg Prod.fst e
        have ez : z = z1 := congrArg Prod.snd e
        subst er ez
        omega
      · exact q
    have l1 := lim F hx ox1 ex1
    have l2 := lim F' hy oy1 ey1
    have x0 := hx.st.x0
    have y0 := hy.st.x0
    simp only at x0 y0
    have r0 := hx.st.r0
    have rN := hx.st.r1
    simp only at r0 rN
    have ee1 := hx.e
    have ee2 := hy.e
    simp only at ee1 ee2
    refine ⟨D, r, rfl, r0, rN, ⟨x.toNat, y.toNat, ?_, ?_, ?_, ?_, ?_, ?_⟩, fun D' r' q0 q1 hf => ?_⟩
    · rw [Int.toNat_of_nonneg x0]; exact cn_end' G x0 l1
    · rw [Int.toNat_of_nonneg y0]; exact cn_end' G y0 l2
    · rw [Int.toNat_of_nonneg x0]; exact hx.bk
    · rw [Int.toNat_of_nonneg y0]; exact hy.bk
    · rw [Int.toNat_of_nonneg x0, Int.toNat_of_nonneg y0]; exact hD
    · rw [Int.toNat_of_nonneg x0, Int.toNat_of_nonneg y0]; omega
    · obtain ⟨f0, f1, x2, y2, ox2, oy2, _, _⟩ := fnd_mee G q0 q1 hf
      rcases Int.lt_trichotomy D D' with z | z | z
      · exact .inl z
      · subst z
        exact .inr ⟨rfl, (congrArg Prod.fst (on_one G F ox2 hx))⟩
      · exact absurd ⟨x2, y2, ox2, oy2⟩ (hno D' r' f0 z)
/-- the rows show none, and all is settled within them: there is none -/
theorem due_none {res : Option (Int × Int)} (m : Mt ds ss L u0 v0 0 res) {n p q M : Int} (hM : M ∈ ds) (hMu : ∀ y ∈ ds, y ≤ M) (hr : RepIs ds.sum ss.sum M p q) (hs : SettledIs ds ss n p q)
    (no : ∀ D r : Int, 0 ≤ r → r < ds.length → ¬ Fnd ds ss b c D r) (late : ∀ r : Int, 0 ≤ r → r < ds.length → Rm.E (at' ds) (at' ss) r (n + 3 * ss.sum) ≤ 190) : res = none := by
  rcases mt_ok G F F' m (on_fst G F) (on_fst G F') (fun D' r' z1 z2 => absurd z2 (by omega)) with ⟨e, _⟩ | ⟨D, r, rfl, hl, hm, hno⟩
  · exact e
  · exfalso
    have D0 : 0 ≤ D := by
      obtain ⟨x, y, hx, hy⟩ := hm
      have := (cm_lt G r (x := x) hx.st.x0).2
      have := hx.c
      simp only at this
      omega
    obtain ⟨x, y, hx, hy, hD⟩ := mee_day G hm D0 hno
    have RR := G.ring hM hMu
    have l2 := G.l2
    have b1 := G.b1
    obtain ⟨n', p', q', M', mE, hM', hMu', hr', hs', ⟨r1, a1, a2, a3⟩, au, eL⟩ := hL
    obtain ⟨rfl, rfl⟩ := rep_uni G hM' hMu' hM hMu hr' hr
    have en := settled_one hs' hs
    subst en
    have M1 := RR.M1
    have T1 : ds.sum ≥ 1 := by
      have := mem_le_sum (fun y hy => by have := (G.d1 y hy).1; omega) M hM
      omega
    have pp : (p' = 1 ∨ p' = ss.sum) ∧ 1 ≤ q' := by
      rcases hr with ⟨_, e1, e2⟩ | ⟨_, e1, e2⟩
      · exact ⟨.inl e1, by omega⟩
      · exact ⟨.inr e1, by omega⟩
    have hk : 1 ≤ ss.sum / p' ∧ ((ss.sum / p').toNat : Int) * p' = ss.sum := by
      rcases pp.1 with e | e
      · rw [e, Int.ediv_one]
        omega
      · rw [e, Int.ediv_self (by omega)]
        exact ⟨by decide, by show ((1 : Nat) : Int) * ss.sum = ss.sum; omega⟩
    have hp1 : 1 ≤ p' := by rcases pp.1 with e | e <;> omega
    have hper : 1 ≤ q' * (ss.sum / p') := Int.le_trans (by decide) (Int.mul_le_mul pp.2 hk.1 (by decide) (by omega))
    have n0 := hs.n0
    have shift : ∀ (r : Int) {x : Int}, n' ≤ x → Rm.E (at' ds) (at' ss) r (x + ss.sum) = Rm.E (at' ds) (at' ss) r x + q' * (ss.sum / p') := fun r x hx => by
      have e := RR.rounds hp1 hs.all r hx (ss.sum / p').toNat
      rw [hk.2] at e
      rw [e, show ((ss.sum / p').toNat : Int) = ss.sum / p' by omega, Int.mul_comm]
    have hL190 : L + 2 * (q' * (ss.sum / p')) ≤ 190 := by
      have h1 := late r1 a1 a2
      have s1 := shift r1 (x := n') (Int.le_refl _)
      have s2 := shift r1 (x := n' + ss.sum) (by omega)
      have s3 := shift r1 (x := n' + ss.sum + ss.sum) (by omega)
      rw [show n' + 3 * ss.sum = n' + ss.sum + ss.sum + ss.sum by omega] at h1
      omega
    have lim : ∀ {b' z : Int}, On ds ss b' D (r, z) → Rm.E (at' ds) (at' ss) r z ≤ 200 + at' ds r := fun {b' z} h1 => by
      have z0 := h1.st.x0
      have c1 := h1.c
      have r0 := h1.st.r0
      have rN := h1.st.r1
      simp only at z0 c1 r0 rN
      have dr := RR.d1 r
      rcases Int.lt_or_le (n' + 3 * ss.sum) z with q | q
      · have sB := s_le RR G.ls r
        have s0 := RR.s0 r
        have hb := (hpo_bounds RR r D0).2
        unfold hpo at hb
        unfold cm at c1
        rw [if_neg (by omega)] at c1
        have k1 := cn_end' G (r := r - 1) (D := D) (x := z - at' ss r) (by omega) c1
        have k2 : z - ss.sum < Cn (at' ds) (at' ss) r (D + at' ds r) := by omega
        have k3 := end_cn G (r := r) (D := D + at' ds r) (x := (z - ss.sum).toNat) (by omega)
        rw [Int.toNat_of_nonneg (by omega)] at k3
        have s1 := shift r (x := z - ss.sum) (by omega)
        rw [show z - ss.sum + ss.sum = z by omega] at s1
        omega
      · have h2 := RR.le r z0 q
        have h3 := late r r0 rN
        omega
    have l1 := lim hx
    have l2 := lim hy
    have x0 := hx.st.x0
    have y0 := hy.st.x0
    simp only at x0 y0
    have ee1 := hx.e
    have ee2 := hy.e
    simp only at ee1 ee2
    refine no D r hx.st.r0 hx.st.r1 ⟨x.toNat, y.toNat, ?_, ?_, ?_, ?_, ?_, ?_⟩
    · rw [Int.toNat_of_nonneg x0]; exact cn_end' G x0 l1
    · rw [Int.toNat_of_nonneg y0]; exact cn_end' G y0 l2
    · rw [Int.toNat_of_nonneg x0]; exact hx.bk
    · rw [Int.toNat_of_nonneg y0]; exact hy.bk
    · rw [Int.toNat_of_nonneg x0, Int.toNat_of_nonneg y0]; exact hD
    · rw [Int.toNat_of_nonneg x0, Int.toNat_of_nonneg y0]; omega
end
end Rp
namespace Rp
open PySem PySem.Spec PyProof.Rows L2 Rz Rm
section
variable {P : Program} {w : World} {K : PySem.W.Frag} {mg : Str → Option Value} {base : Heap}
/-! ### check_book -/
def spCkB (C : Addr) : Sp := fun vs H Q _ => ∃ p dx td ts ds ss, ∃ b : Int, vs = [.ref p, .int b] ∧ RingAt C H p dx td ts ds ss ∧ 0 ≤ b ∧ b < ss.sum ∧ Q .non H
theorem ok_ckb (T : Tx K mg) : FnOk P w K mg base CX0 3 T.a_check_book T.d_check_book P_check_book (spCkB T.C) := by
  refine T.F_check_book.ok sc_check_book (fun vs H Q E h => ?_) (fun cdv A outer s H vs Q E hr h => ?_)
  · obtain ⟨p, dx, td, ts, ds, ss, b, rfl, _⟩ := h
    rfl
  · obtain ⟨p, dx, td, ts, ds, ss, b, rfl, R, b0, b1, q⟩ := h
    refine ⟨_, pss_one (ps_if (pt_not (pt_val (pe_call (ok_lies T) hr (by rfl) T.g_lies_between T.F_lies_between.kp T.b_lies_between .nil pass0 (pa_cons (pv 1) (pa_cons pe_int (pa_cons (pe_op op_sub (pe_prop (pv 0) T.cl T.q_rbooks (ok_books T) hr T.b_rbooks .nil pass0 rfl) pe_int) pa_nil)))))) (pss_one ps_never) pss_nil), ?_⟩
    refine ⟨_, rfl, _, rfl, p, dx, _, rfl, R.ob, p, dx, td, ts, ds, ss, rfl, R, _, _, rfl, rfl, b, 0, ss.sum - 1, rfl, _, rfl, ?_⟩
    rw [in_lim b0 (show b ≤ ss.sum - 1 by omega)]
    exact iteF q
/-! ### reader_after -/
def spAfter (C : Addr) : Sp := fun vs H Q _ => ∃ p dx td ts ds ss, ∃ r : Int, vs = [.ref p, .int r] ∧ RingAt C H p dx td ts ds ss ∧ Q (.int ((r + 1) % (ds.length : Int))) H
theorem ok_after (T : Tx K mg) : FnOk P w K mg base CX0 3 T.a_reader_after T.d_reader_after P_reader_after (spAfter T.C) := by
  refine T.F_reader_after.ok sc_reader_after (fun vs H Q E h => ?_) (fun cdv A outer s H vs Q E hr h => ?_)
  · obtain ⟨p, dx, td, ts, ds, ss, r, rfl, _⟩ := h
    rfl
  · obtain ⟨p, dx, td, ts, ds, ss, r, rfl, R, q⟩ := h
    have l2 := R.ok.l2
    have l8 := R.ok.l8
    refine ⟨_, pss_one (ps_ret (pe_op op_mod (pe_callTy call_int1 (by rfl) T.z_int (by decide +kernel) (pa_cons (pe_op op_add (pv 1) pe_int) pa_nil))
      (pe_callB (call_lenI T.lenC T.lenF ((ok_len T).raw T.b_rlen .nil) hr pass0) (by rfl) T.z_len PySem.boot_len (pa_cons (pv 0) pa_nil)))), ?_⟩
    exact ⟨_, rfl, _, _, rfl, rfl, .inl ⟨_, rfl, _, rfl, p, dx, _, rfl, R.ob, p, dx, td, ts, ds, ss, rfl, R, _, rfl, by omega, by omega, _, _, rfl, rfl, by show (0 : Int) < ds.length; omega, q⟩⟩
/-! ### next_stay -/
def spNxS (C : Addr) : Sp := fun vs H Q _ => ∃ p dx td ts ds ss, ∃ (a : Addr) (u : Int × Int), vs = [.ref p, .ref a] ∧ RingAt C H p dx td ts ds ss ∧ H a = some (.tup [.int u.1, .int u.2]) ∧ ∀ H' b, Same H H' → H' b = some (.tup [.int (nxs ds ss u).1, .int (nxs ds ss u).2]) → Q (.ref b) H'
theorem ok_nxs (T : Tx K mg) : FnOk P w K mg base CX0 4 T.a_next_stay T.d_next_stay P_next_stay (spNxS T.C) := by
  refine T.F_next_stay.ok sc_next_stay (fun vs H Q E h => ?_) (fun cdv A outer s H vs Q E hr h => ?_)
  · obtain ⟨p, dx, td, ts, ds, ss, a, u, rfl, _⟩ := h
    rfl
  · obtain ⟨p, dx, td, ts, ds, ss, a, ⟨r, x⟩, rfl, R, ha, q⟩ := h
    simp only at ha
    have hr2 : Room 2 _ := hr.mono (by decide)
    have nd := sc_next_stay.nd
    have l2 := R.ok.l2
    have ls := R.ok.ls
    have j0 := Int.emod_nonneg (r + 1) (show (ds.length : Int) ≠ 0 by omega)
    have j1 := Int.emod_lt_of_pos (r + 1) (show (0 : Int) < ds.length by omega)
    refine ⟨_, pss_cons (ps_asg (pv 1) (pg_tup rfl (pgs_cons (pg_name (i := 2) nd rfl (.inl rfl)) (pgs_cons (pg_name (i := 3) nd rfl (.inl rfl)) pgs_nil))))
      (pss_cons (ps_set (i := 4) nd rfl (.inl rfl) (pe_call (ok_after T) hr (by rfl) T.g_reader_after T.F_reader_after.kp T.b_reader_after .nil pass0 (pa_cons (pv 0) (pa_cons (pv 2) pa_nil))))
      (pss_one (ps_ret (pe_tup (pa_cons (pv 4) (pa_cons (pe_op op_add (pv 3) (pe_ix ix_tup (pe_prop (pv 0) T.cl T.q_rstarts (ok_starts T) hr2 T.b_rstarts .nil pass0 rfl) (pv 4) (fun _ _ => rfl))) pa_nil)))))), ?_⟩
    refine ⟨.ref a, rfl, a, _, rfl, .of ha, rfl, _, _, rfl, _, _, rfl, rfl, ?_⟩
    refine ⟨.ref p, rfl, .int r, rfl, p, dx, td, ts, ds, ss, r, rfl, R, ?_⟩
    refine ⟨_, rfl, _, rfl, .ref p, rfl, p, dx, _, rfl, R.ob, p, dx, td, ts, ds, ss, rfl, R, _, rfl, ts, _, _, _, rfl, rfl, .of R.ts, at_ix (by omega) (by omega), _, _, rfl, rfl, (by show 2 ≤ sizeLine; decide), fun b hb => ?_⟩
    exact q _ b (same_upd hb) upd_same
/-! ### first_stay -/
def spFsS (C : Addr) : Sp := fun vs H Q _ => ∃ p dx td ts ds ss, ∃ b : Int, vs = [.ref p, .int b] ∧ RingAt C H p dx td ts ds ss ∧ 0 ≤ b ∧ b < ss.sum ∧ ∀ H' t (u : Int × Int), Same H H' → H' t = some (.tup [.int u.1, .int u.2]) → Fst ds ss b u → Q (.ref t) H'
theorem ok_fst (T : Tx K mg) : FnOk P w K mg base CX0 3 T.a_first_stay T.d_first_stay P_first_stay (spFsS T.C) := by
  refine T.F_first_stay.ok sc_first_stay (fun vs H Q E h => ?_) (fun cdv A outer s H vs Q E hr h => ?_)
  · obtain ⟨p, dx, td, ts, ds, ss, b, rfl, _⟩ := h
    rfl
  · obtain ⟨p, dx, td, ts, ds, ss, b, rfl, R, b0, b1, q⟩ := h
    have nd := sc_first_stay.nd
    have ls := R.ok.ls
    have h0 : ∀ y ∈ ss, 0 ≤ y := fun y hy => (R.ok.s0 y hy).1
    refine ⟨_, pss_cons (ps_set (i := 2) nd rfl (.inl rfl) pe_int)
      (pss_cons (ps_while PassesOwn.never (pt_cmpR op_ge (pv 1) (pe_ix ix_tup (pe_prop (pv 0) T.cl T.q_rstarts (ok_starts T) hr T.b_rstarts .nil pass0 rfl) (pv 2) (fun _ _ => rfl)) (nomark _))
        (pss_cons (ps_aug (i := 1) nd rfl (.inl rfl) (pe_ix ix_tup (pe_prop (pv 0) T.cl T.q_rstarts (ok_starts T) hr T.b_rstarts .nil pass0 rfl) (pv 2) (fun _ _ => rfl)) ip_sub)
        (pss_one (ps_aug (i := 2) nd rfl (.inl rfl) pe_int ip_add))))
      (pss_one (ps_ret (pe_tup (pa_cons (pv 2) (pa_cons (pv 1) pa_nil)))))), ?_⟩
    refine ⟨fun m σ H' => H' = H ∧ ∃ (i : Nat) (x : Int), m = ss.length - i ∧ i < ss.length ∧ 0 ≤ x ∧ b = (ss.take i).sum + x ∧ σ = [some (.ref p), some (.int x), some (.int (i : Int))],
      ⟨ss.length - 0, rfl, 0, b, rfl, by have := R.ok.l2; omega, b0, by simp, rfl⟩, ?_⟩
    rintro m σ H7 ⟨rfl, i, x, rfl, hi, x0, e, rfl⟩
    have st := take_step' hi
    have hix : atI (ss.map V.int) (i : Int) = some (.int (at' ss (i : Int))) := at_ix (by omega) (by omega)
    refine ⟨_, rfl, _, rfl, p, dx, _, rfl, R.ob, p, dx, td, ts, ds, ss, rfl, R, _, rfl, ts, _, _, _, rfl, rfl, .of R.ts, hix, _, _, rfl, rfl, _, rfl, ?_⟩
    by_cases hc : at' ss (i : Int) ≤ x
    · rw [decide_eq_true hc]
      have hi2 : i + 1 < ss.length := by
        rcases Nat.lt_or_ge (i + 1) ss.length with z | z
        · exact z
        · have ei : i + 1 = ss.length := by omega
          rw [ei, List.take_length] at st
          omega
      refine iteT ⟨fun σ' H' => H' = H7 ∧ σ' = [some (.ref p), some (.int (x - at' ss (i : Int))), some (.int ((i : Int) + 1))], fun σ' H' ⟨e1, e2⟩ => ⟨ss.length - (i + 1), by omega, e1, i + 1, x - at' ss (i : Int), rfl, hi2, by omega, by omega, by rw [e2, show ((i + 1 : Nat) : Int) = (i : Int) + 1 by omega]⟩, ?_⟩
      exact ⟨_, rfl, _, rfl, p, dx, _, rfl, R.ob, p, dx, td, ts, ds, ss, rfl, R, _, rfl, ts, _, _, _, rfl, rfl, .of R.ts, hix, _, _, rfl, rfl, _, rfl, _, _, rfl, rfl, rfl, rfl⟩
    · rw [decide_eq_false hc]
      refine iteF ⟨_, rfl, _, rfl, (by show 2 ≤ sizeLine; decide), fun t ht => ?_⟩
      exact q _ t ((i : Int), x) (same_upd ht) upd_same ⟨by show (0 : Int) ≤ (i : Int); omega, by show (i : Int) < _; omega, x0, by show x < at' ss (i : Int); omega, by show b = (ss.take (i : Int).toNat).sum + x; rw [Int.toNat_natCast]; exact e⟩
/-! ### last_new_day -/
def spLnd (C : Addr) : Sp := fun vs H Q _ => ∃ p dx td ts ds ss, vs = [.ref p] ∧ RingAt C H p dx td ts ds ss ∧ ∀ H' L, Same H H' → Lst ds ss L → Q (.int L) H'
theorem ok_lnd (T : Tx K mg) : FnOk P w K mg base CX0 6 T.a_last_new_day T.d_last_new_day P_last_new_day (spLnd T.C) := by
  refine T.F_last_new_day.ok sc_last_new_day (fun vs H Q E h => ?_) (fun cdv A outer s H vs Q E hr h => ?_)
  · obtain ⟨p, dx, td, ts, ds, ss, rfl, _⟩ := h
    rfl
  · obtain ⟨p, dx, td, ts, ds, ss, rfl, R, q⟩ := h
    have hr3 : Room 3 _ := hr.mono (by decide)
    have hr2 : Room 2 _ := hr.mono (by decide)
    have nd := sc_last_new_day.nd
    have l2 := R.ok.l2
    have l8 := R.ok.l8
    have b1 := R.ok.b1
    have b12 := R.ok.b12
    refine ⟨_, pss_cons (ps_asg (pe_call (ok_settled T) hr (by rfl) T.g_settled T.F_settled.kp T.b_settled .nil pass0 (pa_cons (pv 0) pa_nil)) (pg_tup rfl (pgs_cons (pg_name (i := 1) nd rfl (.inr rfl)) (pgs_cons (pg_name (i := 2) nd rfl (.inl rfl)) (pgs_cons (pg_name (i := 3) nd rfl (.inl rfl)) pgs_nil)))))
      (pss_cons (ps_set (i := 4) nd rfl (.inl rfl) (pe_callB (cr_max rfl) (by rfl) T.z_max (by decide +kernel) (pa_cons (pe_lc (own := [("reader", 5)]) rfl nd (pi_range1 (by rfl) T.z_range (pa_cons (pe_callB (call_lenI T.lenC T.lenF ((ok_len T).raw T.b_rlen .nil) hr2 pass0) (by rfl) T.z_len PySem.boot_len (pa_cons (pv 0) pa_nil)) pa_nil)) (blkOk_by (N := N_last_new_day) (sc := defScope s_last_new_day) (by decide +kernel))
        (fun _ _ _ _ _ => pg_name (i := 5) nd rfl (.inl rfl)) (fun _ _ _ _ _ => pts_nil)
        (fun _ _ _ _ _ => pe_call (ok_end T) hr3 (by rfl) T.g_end_day T.F_end_day.kp T.b_end_day .nil pass0 (pa_cons (pv 0) (pa_cons (pv 5) (pa_cons (pv 1) pa_nil))))) pa_nil)))
      (pss_one (ps_ret (pe_op op_add (pv 4) (pe_op op_mul (pv 3) (pe_op op_fdiv (pe_prop (pv 0) T.cl T.q_rbooks (ok_books T) hr2 T.b_rbooks .nil pass0 rfl) (pv 2))))))), ?_⟩
    refine ⟨_, rfl, p, dx, td, ts, ds, ss, rfl, R, fun M hM hMu H1 t1 n pp qq s1 ht1 hrep hset => ⟨t1, _, rfl, .of ht1, rfl, _, _, rfl, _, _, rfl, _, _, rfl, rfl, ?_⟩⟩
    have R1 := R.same s1
    have n0 := hset.n0
    have hT := sum_bounds R.ok.d1
    have hM30 := R.ok.d1 M hM
    have pq : 1 ≤ pp ∧ pp ≤ 12 ∧ 1 ≤ qq ∧ qq ≤ 240 := by
      rcases hrep with ⟨_, rfl, rfl⟩ | ⟨_, rfl, rfl⟩ <;> omega
    refine ⟨_, rfl, p, dx, _, rfl, R1.ob, p, dx, td, ts, ds, ss, rfl, R1, (ds.length : Int), rfl, by omega, by omega, (ds.length : Int), rfl, by omega, by omega, fun D hD => lc_range (lo := 0) (n := ((ds.length : Int)).toNat)
      (fun i H' => H' D = some (.lst (((List.range i).map fun (r : Nat) => Rm.E (at' ds) (at' ss) (r : Int) n).map V.int)) ∧ Same H1 H') ?_ ?_ ?_⟩
    · exact ⟨by rw [upd_same]; rfl, same_upd hD⟩
    · rintro i H2 hi ⟨hacc, s2⟩
      have R2 := R1.same s2
      refine ⟨rfl, lc_keep ⟨_, rfl, _, rfl, _, rfl, p, dx, td, ts, ds, ss, 0 + (i : Int), n, rfl, R2, by omega, by omega, n0, ?_⟩⟩
      refine ⟨_, hacc, by rw [List.length_map, List.length_map, List.length_range]; exact small1000 (by omega), ?_, ?_⟩
      · have ev : ((List.range (i + 1)).map fun (r : Nat) => Rm.E (at' ds) (at' ss) (r : Int) n) = ((List.range i).map fun (r : Nat) => Rm.E (at' ds) (at' ss) (r : Int) n) ++ [Rm.E (at' ds) (at' ss) (i : Int) n] := by
          rw [List.range_succ, List.map_append]
          rfl
        rw [upd_same, map_snoc, ev, show (0 : Int) + (i : Int) = i by omega]
      · exact fun b x e => by
          rw [upd_ne (ne_of_none e hD)]
          exact s2 b x e
    · rintro H2 ⟨hacc, s2⟩
      have R2 := R1.same s2
      rw [Int.toNat_natCast] at hacc
      refine ⟨D, _, rfl, .of hacc, by rw [List.length_map, List.length_range]; omega, fun mE hm hmu => ?_⟩
      refine ⟨_, rfl, _, rfl, _, rfl, p, dx, _, rfl, R2.ob, p, dx, td, ts, ds, ss, rfl, R2, _, rfl, _, _, rfl, rfl, ⟨by omega, by omega⟩, _, _, rfl, rfl, .inl ⟨by omega, by omega⟩, _, _, rfl, rfl, ?_⟩
      refine q H2 _ (s1.trans s2) ⟨n, pp, qq, M, mE, hM, hMu, hrep, hset, ?_, fun r r0 r1 => ?_, rfl⟩
      · obtain ⟨r, hr1, hr2⟩ := List.mem_map.mp hm
        have := List.mem_range.mp hr1
        exact ⟨(r : Int), by omega, by omega, hr2⟩
      · refine hmu _ (List.mem_map.mpr ⟨r.toNat, List.mem_range.mpr (by omega), ?_⟩)
        rw [show ((r.toNat : Nat) : Int) = r by omega]
end
end Rp
namespace Rp
open PySem PySem.Spec PyProof.Rows L2 Rz Rm
/-- a result that stands in H -/
def Res (H : Hp) (v : V) : Option (Int × Int) → Prop
  | none => v = .non
  | some (d, j) => ∃ t, v = .ref t ∧ H t = some (.tup [.int d, .int j])
theorem pg_two {X : Cx} {K : PySem.W.Frag} {x y : Str} {p1 p2 pos : Pos} {k i j : Nat} (hc : X.calm = true) (hN : X.N.Nodup) (hi : X.N[i]? = some x) (hj : X.N[j]? = some y) (hx : X.env.scope.names.lookup x = some .local) (hy : X.env.scope.names.lookup y = some .local) (hK : X.K = K) :
    PG X (.Tuple [.Name x p1, .Name y p2] k pos) (gTup K 2 (gCons (gName i) (gCons (gName j) gNil))) := by
  subst hK
  exact pg_tup hc (pgs_cons (pg_name hN hi (.inl hx) (.inr hx)) (pgs_cons (pg_name hN hj (.inl hy) (.inr hy)) pgs_nil))
theorem dec_eqI3 {a b : Int} : decide (V.int a = V.int b) = decide (a = b) := by
  by_cases h : a = b
  · rw [decide_eq_true h, decide_eq_true (congrArg V.int h)]
  · rw [decide_eq_false h, decide_eq_false fun z => h (V.int.inj z)]
def toP (u : Int × Int) : List Int := [u.1, u.2]
theorem Same.put2 {H H' : Hp} {D : Addr} {o : HO} (s : Same H H') (h : H D = none) : Same H (upd H' D o) := fun b x e => by
  rw [upd_ne (ne_of_none e h)]
  exact s b x e
theorem Tups.put2 {H : Hp} {D : Addr} {l : List V} {o : HO} {xs : List V} {ls : List (List Int)} (T : Tups H xs ls) (h : H D = some (.lst l)) : Tups (upd H D o) xs ls := T.mono fun b ys e => by
  rw [upd_ne (ne_of e h (by intro z; cases z))]
  exact e
theorem tups_two {H : Hp} {xs : List V} {u v : Int × Int} (h : Tups H xs [toP u, toP v]) : ∃ a b, xs = [.ref a, .ref b] ∧ H a = some (.tup [.int u.1, .int u.2]) ∧ H b = some (.tup [.int v.1, .int v.2]) := by
  cases h with
  | cons h1 t =>
    cases t with
    | cons h2 t =>
      cases t
      obtain ⟨a, rfl, ha⟩ := h1
      obtain ⟨b, rfl, hb⟩ := h2
      exact ⟨a, b, rfl, ha, hb⟩
theorem two_get {α : Type} {a b x : α} {i : Nat} (h : [a, b][i]? = some x) : (i = 0 ∧ x = a) ∨ (i = 1 ∧ x = b) := by
  match i, h with
  | 0, h => exact .inl ⟨rfl, by simpa using h.symm⟩
  | 1, h => exact .inr ⟨rfl, by simpa using h.symm⟩
section
variable {P : Program} {w : World} {K : PySem.W.Frag} {mg : Str → Option Value} {base : Heap}
def spMeet (C : Addr) : Sp := fun vs H Q _ => ∃ p dx td ts ds ss, ∃ b c : Int, vs = [.ref p, .int b, .int c] ∧ RingAt C H p dx td ts ds ss ∧ 0 ≤ b ∧ b < ss.sum ∧ 0 ≤ c ∧ c < ss.sum ∧ b ≠ c ∧
  ∀ H' v r L u1 u2, Same H H' → Res H' v r → Lst ds ss L → Fst ds ss b u1 → Fst ds ss c u2 → Mt ds ss L u1 u2 0 r → Q v H'
theorem ok_meet (T : Tx K mg) : FnOk P w K mg base CX0 7 T.a_first_meeting T.d_first_meeting P_first_meeting (spMeet T.C) := by
  refine T.F_first_meeting.ok sc_first_meeting (fun vs H Q E h => ?_) (fun cdv A outer s H vs Q E hr h => ?_)
  · obtain ⟨p, dx, td, ts, ds, ss, b, c, rfl, _⟩ := h
    rfl
  · obtain ⟨p, dx, td, ts, ds, ss, b, c, rfl, R, b0, b1, c0, c1, bc, q⟩ := h
    have hr4 : Room 4 _ := hr.mono (by decide)
    have hr3 : Room 3 _ := hr.mono (by decide)
    have nd := sc_first_meeting.nd
    refine ⟨_, pss_cons (ps_expr (pe_call (ok_ckb T) hr3 (by rfl) T.g_check_book T.F_check_book.kp T.b_check_book .nil pass0 (pa_cons (pv 0) (pa_cons (pv 1) pa_nil))))
      (pss_cons (ps_expr (pe_call (ok_ckb T) hr3 (by rfl) T.g_check_book T.F_check_book.kp T.b_check_book .nil pass0 (pa_cons (pv 0) (pa_cons (pv 2) pa_nil))))
      (pss_cons (ps_if (pt_cmpR op_eq (pv 1) (pv 2) (nomark _)) (pss_one ps_never) pss_nil)
      (pss_cons (ps_set (i := 3) nd rfl (.inl rfl) (pe_call (ok_lnd T) hr (by rfl) T.g_last_new_day T.F_last_new_day.kp T.b_last_new_day .nil pass0 (pa_cons (pv 0) pa_nil)))
      (pss_cons (ps_set (i := 4) nd rfl (.inl rfl) (pe_lst (pa_cons (pe_call (ok_fst T) hr3 (by rfl) T.g_first_stay T.F_first_stay.kp T.b_first_stay .nil pass0 (pa_cons (pv 0) (pa_cons (pv 1) pa_nil))) (pa_cons (pe_call (ok_fst T) hr3 (by rfl) T.g_first_stay T.F_first_stay.kp T.b_first_stay .nil pass0 (pa_cons (pv 0) (pa_cons (pv 2) pa_nil))) pa_nil))))
      (pss_cons (ps_set (i := 5) nd rfl (.inr rfl) pe_int)
      (pss_cons (ps_while PassesOwn.never (pt_cmpR op_le (pv 5) (pv 3) (nomark _))
        (pss_cons (ps_if (pt_cmpR op_eq (pe_ix ix_tup (pe_ix ix_list (pv 4) pe_int (fun _ _ => rfl)) pe_int (fun _ _ => rfl)) (pe_ix ix_tup (pe_ix ix_list (pv 4) pe_int (fun _ _ => rfl)) pe_int (fun _ _ => rfl)) (nomark _))
          (pss_one (ps_ret (pe_tup (pa_cons (pv 5) (pa_cons (pe_ix ix_tup (pe_ix ix_list (pv 4) pe_int (fun _ _ => rfl)) pe_int (fun _ _ => rfl)) pa_nil))))) pss_nil)
        (pss_cons (ps_setLc (i := 6) (own := [("reader", 7), ("number", 8)]) rfl nd rfl rfl (sw_true rfl rfl rfl (by decide +kernel)) (pi_list (pv 4)) (blkOk_by (N := N_first_meeting) (sc := defScope s_first_meeting) (by decide +kernel))
          (fun _ _ _ _ _ => pg_two (K := K) (i := 7) (j := 8) rfl nd rfl rfl rfl rfl rfl) (fun _ _ _ _ _ => pts_nil)
          (fun _ _ _ _ _ => pe_call (ok_end T) hr3 (by rfl) T.g_end_day T.F_end_day.kp T.b_end_day .nil pass0 (pa_cons (pv 0) (pa_cons (pv 7) (pa_cons (pv 8) pa_nil)))))
        (pss_cons (ps_set (i := 5) nd rfl (.inr rfl) (pe_callB (cr_min rfl) (by rfl) T.z_min (by decide +kernel) (pa_cons (pv 6) pa_nil)))
        (pss_one (ps_setLc (i := 4) (own := [("stay", 9), ("end", 10)]) rfl nd rfl rfl (sw_true rfl rfl rfl (by decide +kernel)) (pi_zip (by rfl) T.z_zip (pa_cons (pv 4) (pa_cons (pv 6) pa_nil))) (blkOk_by (N := N_first_meeting) (sc := defScope s_first_meeting) (by decide +kernel))
          (fun _ _ _ _ _ => pg_two (K := K) (i := 9) (j := 10) rfl nd rfl rfl rfl rfl rfl) (fun _ _ _ _ _ => pts_nil)
          (fun _ _ _ _ _ => pe_ifExp (pt_cmpR op_eq (pv 10) (pv 5) (nomark _)) (pe_call (ok_nxs T) hr4 (by rfl) T.g_next_stay T.F_next_stay.kp T.b_next_stay .nil pass0 (pa_cons (pv 0) (pa_cons (pv 9) pa_nil))) (pv 9))))))))
      (pss_one (ps_ret pe_non)))))))), ?_⟩
    -- check_book, check_book, one == other
    refine ⟨_, rfl, _, rfl, p, dx, td, ts, ds, ss, b, rfl, R, b0, b1, ?_⟩
    refine ⟨_, rfl, _, rfl, p, dx, td, ts, ds, ss, c, rfl, R, c0, c1, ?_⟩
    refine ⟨_, rfl, _, rfl, rfl, _, rfl, ?_⟩
    rw [dec_eqI3, decide_eq_false bc]
    refine iteF ?_
    -- last, stays, day
    refine ⟨_, rfl, p, dx, td, ts, ds, ss, rfl, R, fun H1 L s1 hL => ?_⟩
    have R1 := R.same s1
    refine ⟨_, rfl, _, rfl, p, dx, td, ts, ds, ss, b, rfl, R1, b0, b1, fun H2 t1 u1 s2 ht1 F1 => ?_⟩
    have R2 := R1.same s2
    refine ⟨_, rfl, _, rfl, p, dx, td, ts, ds, ss, c, rfl, R2, c0, c1, fun H3 t2 u2 s3 ht2 F2 => ⟨(by show 2 ≤ sizeLine; decide), fun S hS => ?_⟩⟩
    have s4 := same_upd (o := .lst [.ref t1, .ref t2]) hS
    have R3 := (R2.same s3).same s4
    obtain ⟨M, hM, hMu⟩ := R.ok.max
    have RR := R.ok.ring hM hMu
    have G := R.ok
    have z1 := RR.E1 u1.1 F1.x0
    have z2 := RR.E1 u2.1 F2.x0
    have d1 := RR.d1 u1.1
    have d2 := RR.d1 u2.1
    refine ⟨fun m σ H' => ∃ (S a1 a2 : Addr) (u v : Int × Int) (D : Int) (y6 y7 y8 y9 y10 : Option V), m = (L + 1 - D).toNat ∧ σ = [some (.ref p), some (.int b), some (.int c), some (.int L), some (.ref S), some (.int D), y6, y7, y8, y9, y10] ∧ Same H H' ∧ H' S = some (.lst [.ref a1, .ref a2]) ∧ H' a1 = some (.tup [.int u.1, .int u.2]) ∧ H' a2 = some (.tup [.int v.1, .int v.2]) ∧
        Sty ds u ∧ Sty ds v ∧ D < Rm.E (at' ds) (at' ss) u.1 u.2 ∧ D < Rm.E (at' ds) (at' ss) v.1 v.2 ∧ ∀ r, Mt ds ss L u v D r → Mt ds ss L u1 u2 0 r,
      ⟨_, S, t1, t2, u1, u2, 0, none, none, none, none, none, rfl, rfl, ((s1.trans s2).trans s3).trans s4, upd_same, s4 _ _ (s3 _ _ ht1), s4 _ _ ht2, F1.sty, F2.sty, by omega, by omega, fun r h => h⟩, ?_⟩
    rintro m σ H7 ⟨S, a1, a2, u, v, D, y6, y7, y8, y9, y10, rfl, rfl, s7, hS7, ha1, ha2, hu, hv, du, dv, hM7⟩
    have R7 := R.same s7
    refine ⟨_, rfl, _, rfl, _, _, rfl, rfl, _, rfl, ?_⟩
    by_cases hc : D ≤ L
    · rw [decide_eq_true hc]
      refine iteT ⟨fun σ' H' => ∃ (S a1 a2 : Addr) (u v : Int × Int) (D' : Int) (y6 y7 y8 y9 y10 : Option V), (L + 1 - D').toNat < (L + 1 - D).toNat ∧ σ' = [some (.ref p), some (.int b), some (.int c), some (.int L), some (.ref S), some (.int D'), y6, y7, y8, y9, y10] ∧ Same H H' ∧ H' S = some (.lst [.ref a1, .ref a2]) ∧ H' a1 = some (.tup [.int u.1, .int u.2]) ∧ H' a2 = some (.tup [.int v.1, .int v.2]) ∧
          Sty ds u ∧ Sty ds v ∧ D' < Rm.E (at' ds) (at' ss) u.1 u.2 ∧ D' < Rm.E (at' ds) (at' ss) v.1 v.2 ∧ ∀ r, Mt ds ss L u v D' r → Mt ds ss L u1 u2 0 r,
        fun σ' H' ⟨S, a1, a2, u, v, D', y6, y7, y8, y9, y10, e1, e2⟩ => ⟨_, e1, S, a1, a2, u, v, D', y6, y7, y8, y9, y10, rfl, e2⟩, ?_⟩
      refine ⟨_, rfl, S, _, 0, _, rfl, rfl, .of hS7, atI_nat (j := 0) rfl, a1, _, 0, _, rfl, rfl, .of ha1, atI_nat (j := 0) rfl, _, rfl, S, _, 1, _, rfl, rfl, .of hS7, atI_nat (j := 1) rfl, a2, _, 0, _, rfl, rfl, .of ha2, atI_nat (j := 0) rfl, rfl, _, rfl, ?_⟩
      rw [dec_eqI3]
      by_cases he : u.1 = v.1
      · rw [decide_eq_true he]
        refine iteT ⟨_, rfl, _, rfl, S, _, 0, _, rfl, rfl, .of hS7, atI_nat (j := 0) rfl, a1, _, 0, _, rfl, rfl, .of ha1, atI_nat (j := 0) rfl, (by show 2 ≤ sizeLine; decide), fun t ht => ?_⟩
        exact q _ (.ref t) (some (D, u.1)) L u1 u2 (s7.trans (same_upd ht)) ⟨t, rfl, upd_same⟩ hL F1 F2 (hM7 _ (.hit hc he))
      · rw [decide_eq_false he]
        refine iteF ?_
        -- ends
        refine ⟨_, rfl, S, rfl, ⟨_, .of hS7⟩, fun D1 hD1 => lc_list (K := K) (a := S) (xs := [.ref a1, .ref a2]) (fun i H' => H' D1 = some (.lst ((([Rm.E (at' ds) (at' ss) u.1 u.2, Rm.E (at' ds) (at' ss) v.1 v.2]).take i).map V.int)) ∧ Same H7 H') ?_ ?_ ?_ ?_⟩
        · exact ⟨by rw [upd_same]; rfl, same_upd hD1⟩
        · exact fun i H' _ h => .of (h.2 _ _ hS7)
        · rintro i z H8 hz ⟨hacc, s8⟩
          have R8 := R7.same s8
          rcases two_get hz with ⟨rfl, rfl⟩ | ⟨rfl, rfl⟩
          · refine ⟨a1, _, rfl, .of (s8 _ _ ha1), rfl, _, _, rfl, _, _, rfl, rfl, rfl, lc_keep ?_⟩
            refine ⟨_, rfl, _, rfl, _, rfl, p, dx, td, ts, ds, ss, u.1, u.2, rfl, R8, hu.r0, hu.r1, hu.x0, ?_⟩
            exact ⟨_, hacc, (by show 0 < sizeLine; decide), by rw [upd_same]; rfl, Same.put2 s8 hD1⟩
          · refine ⟨a2, _, rfl, .of (s8 _ _ ha2), rfl, _, _, rfl, _, _, rfl, rfl, rfl, lc_keep ?_⟩
            refine ⟨_, rfl, _, rfl, _, rfl, p, dx, td, ts, ds, ss, v.1, v.2, rfl, R8, hv.r0, hv.r1, hv.x0, ?_⟩
            exact ⟨_, hacc, (by show 1 < sizeLine; decide), by rw [upd_same]; rfl, Same.put2 s8 hD1⟩
        · rintro H8 ⟨hacc, s8⟩
          have hE8 : H8 D1 = some (.lst ([Rm.E (at' ds) (at' ss) u.1 u.2, Rm.E (at' ds) (at' ss) v.1 v.2].map V.int)) := hacc
          -- day
          refine ⟨_, rfl, D1, [Rm.E (at' ds) (at' ss) u.1 u.2, Rm.E (at' ds) (at' ss) v.1 v.2], rfl, .of hE8, (by show 0 < 2; decide), fun e hm hmu => ?_⟩
          have e1 := hmu (Rm.E (at' ds) (at' ss) u.1 u.2) (by simp)
          have e2 := hmu (Rm.E (at' ds) (at' ss) v.1 v.2) (by simp)
          have ee : e = min (Rm.E (at' ds) (at' ss) u.1 u.2) (Rm.E (at' ds) (at' ss) v.1 v.2) := by
            rcases List.mem_cons.mp hm with z | z
            · omega
            · have := List.mem_singleton.mp z
              omega
          have hS8 := s8 _ _ hS7
          have R8 := R7.same s8
          -- stays
          refine ⟨_, rfl, _, rfl, S, D1, _, _, rfl, .of hS8, .of hE8, fun D2 hD2 => lc_it (walk_zip (xs := [.ref a1, .ref a2]) (ys := [.int (Rm.E (at' ds) (at' ss) u.1 u.2), .int (Rm.E (at' ds) (at' ss) v.1 v.2)]) (n := 2) rfl) (fun i H' => ∃ xs, H' D2 = some (.lst xs) ∧ Tups H' xs ((([goes ds ss e u, goes ds ss e v]).take i).map toP) ∧ Same H8 H') ?_ ?_ ?_ ?_⟩
          · exact ⟨[], upd_same, .nil, same_upd hD2⟩
          · exact fun i H' _ ⟨_, _, _, h⟩ => ⟨.of (h _ _ hS8), .of (h _ _ hE8)⟩
          · rintro i z H9 H10 hi ⟨xs, hxs, htt, s9⟩ ⟨t, x, y, rfl, nt, rfl, hx, hy⟩
            have hx' : ([.ref a1, .ref a2] : List V)[i]? = some x := hx
            have hy' : ([.int (Rm.E (at' ds) (at' ss) u.1 u.2), .int (Rm.E (at' ds) (at' ss) v.1 v.2)] : List V)[i]? = some y := hy
            have lx := htt.length
            have fin : ∀ (H11 : Hp) (a' : Addr) (w2 : Int × Int), Same H9 H11 → H11 a' = some (.tup [.int (goes ds ss e w2).1, .int (goes ds ss e w2).2]) → ((([goes ds ss e u, goes ds ss e v]).take (i + 1)).map toP = (([goes ds ss e u, goes ds ss e v]).take i).map toP ++ [toP (goes ds ss e w2)]) →
                ∃ acc, H11 D2 = some (.lst acc) ∧ acc.length < sizeLine ∧ ∃ xs, (upd H11 D2 (.lst (acc ++ [.ref a']))) D2 = some (.lst xs) ∧ Tups (upd H11 D2 (.lst (acc ++ [.ref a']))) xs ((([goes ds ss e u, goes ds ss e v]).take (i + 1)).map toP) ∧ Same H8 (upd H11 D2 (.lst (acc ++ [.ref a']))) := fun H11 a' w2 s11 ha' htk => by
              have hxs' := s11 _ _ hxs
              refine ⟨xs, hxs', ?_, xs ++ [.ref a'], upd_same, ?_, Same.put2 (s9.trans s11) hD2⟩
              · rw [lx, List.length_map, List.length_take]
                exact small1000 (by omega)
              · rw [htk]
                refine Tups.snoc ⟨a', rfl, ?_⟩ ((htt.same s11).put2 hxs')
                rw [upd_ne (ne_of ha' hxs' (by intro z; cases z))]
                exact ha'
            obtain ⟨a, w2, ex, ey, ha, htk⟩ : ∃ (a : Addr) (w2 : Int × Int), x = .ref a ∧ y = .int (Rm.E (at' ds) (at' ss) w2.1 w2.2) ∧ H8 a = some (.tup [.int w2.1, .int w2.2]) ∧ ((([goes ds ss e u, goes ds ss e v]).take (i + 1)).map toP = (([goes ds ss e u, goes ds ss e v]).take i).map toP ++ [toP (goes ds ss e w2)]) := by
              rcases two_get hx' with ⟨e0, ex⟩ | ⟨e0, ex⟩
              · subst e0
                exact ⟨a1, u, ex, by simpa using hy'.symm, s8 _ _ ha1, rfl⟩
              · subst e0
                exact ⟨a2, v, ex, by simpa using hy'.symm, s8 _ _ ha2, rfl⟩
            subst ex ey
            have sn := same_upd (o := .tup [.ref a, .int (Rm.E (at' ds) (at' ss) w2.1 w2.2)]) nt
            refine ⟨t, _, rfl, .of upd_same, rfl, _, _, rfl, _, _, rfl, rfl, rfl, lc_keep ?_⟩
            generalize (upd H9 t (.tup [.ref a, .int (Rm.E (at' ds) (at' ss) w2.1 w2.2)])) = H10 at sn ⊢
            have R10 := (R8.same s9).same sn
            have ha10 := sn _ _ (s9 _ _ ha)
            refine ⟨_, rfl, _, rfl, rfl, _, rfl, ?_⟩
            rw [dec_eqI3]
            by_cases cc : Rm.E (at' ds) (at' ss) w2.1 w2.2 = e
            · rw [decide_eq_true cc]
              have eg : goes ds ss e w2 = nxs ds ss w2 := if_pos cc
              refine iteT ⟨_, rfl, _, rfl, p, dx, td, ts, ds, ss, a, w2, rfl, R10, ha10, fun H11 b11 s11 hb11 => ?_⟩
              exact fin H11 b11 w2 (sn.trans s11) (by rw [eg]; exact hb11) htk
            · rw [decide_eq_false cc]
              have eg : goes ds ss e w2 = w2 := if_neg cc
              exact iteF ⟨_, rfl, fin H10 a w2 sn (by rw [eg]; exact ha10) htk⟩
          · rintro H9 ⟨xs, hxs, htt, s9⟩
            obtain ⟨c1', c2', rfl, hc1, hc2⟩ := tups_two htt
            have s79 := s7.trans (s8.trans s9)
            refine ⟨D2, c1', c2', goes ds ss e u, goes ds ss e v, e, _, _, _, _, _, by omega, rfl, s79, hxs, hc1, hc2, goes_ok G hu e, goes_ok G hv e, goes_later G hu e1, goes_later G hv e2, fun r hr2 => hM7 r ?_⟩
            refine .step hc he ?_
            rw [← ee]
            exact hr2
    · rw [decide_eq_false hc]
      refine iteF ?_
      exact q H7 .non none L u1 u2 s7 rfl hL F1 F2 (hM7 _ (.done (by omega)))
end
end Rp
/-! Checks that raise: any value. -/
namespace Rp
open PySem PySem.Spec PyProof.Rows L2 Rz Rm Rt Rl
/-- v is a number or not -/
def NumV (K : PySem.W.Frag) (H : Hp) (v : V) (b : Bool) : Prop := (∃ i, v = .int i ∧ b = true) ∨ (∃ y, v = .bl y ∧ b = false) ∨ (∃ t : String, TyX K H v (.type t) ∧ kitB t "int" = some false ∧ b = false)
/-- v lies between lo and hi, or not -/
def LieV (K : PySem.W.Frag) (H : Hp) (v : V) (lo hi : Int) (b : Bool) : Prop := (∃ i, v = .int i ∧ b = (decide (lo ≤ i) && decide (i ≤ hi))) ∨ (NumV K H v false ∧ b = false)
section
variable {P : Program} {w : World} {K : PySem.W.Frag} {mg : Str → Option Value} {base : Heap}
def spIsNumV (K : PySem.W.Frag) : Sp := fun vs H Q _ => ∃ (v : V) (b : Bool), vs = [v] ∧ NumV K H v b ∧ Q (.bl b) H
theorem ok_is_numberV (T : Tx K mg) : FnOk P w K mg base CX0 1 T.a_is_number T.d_is_number P_is_number (spIsNumV K) := by
  refine T.F_is_number.ok sc_is_number (fun vs H Q E h => ?_) (fun cdv A outer s H vs Q E hr h => ?_)
  · obtain ⟨i, b, rfl, _⟩ := h
    rfl
  · obtain ⟨v, b, rfl, hv, q⟩ := h
    refine ⟨_, pss_one (ps_ret (pe_and (pe_callB call_isi (by rfl) T.z_isinstance (by decide +kernel) (pa_cons (pv 0) (pa_cons (pe_bltn (v := .ty "int") (u := .type "int") (by rfl) T.z_int (by decide +kernel) rfl) pa_nil)))
      (pe_one (pe_not (pe_callB call_isi (by rfl) T.z_isinstance (by decide +kernel) (pa_cons (pv 0) (pa_cons (pe_bltn (v := .ty "bool") (u := .type "bool") (by rfl) T.z_bool (by decide +kernel) rfl) pa_nil))))))), ?_⟩
    rcases hv with ⟨i, rfl, rfl⟩ | ⟨y, rfl, rfl⟩ | ⟨t, ht, hk, rfl⟩
    · refine ⟨.int i, rfl, .int i, .ty "int", .type "int", .type "int", true, rfl, .ty _, .base (.int i), kit_ty (by decide +kernel), true, rfl, iteT ?_⟩
      exact ⟨.int i, rfl, .int i, .ty "bool", .type "int", .type "bool", false, rfl, .ty _, .base (.int i), kit_ty (by decide +kernel), false, rfl, q⟩
    · refine ⟨.bl y, rfl, .bl y, .ty "int", .type "bool", .type "int", true, rfl, .ty _, .base (.bl y), kit_ty (by decide +kernel), true, rfl, iteT ?_⟩
      exact ⟨.bl y, rfl, .bl y, .ty "bool", .type "bool", .type "bool", true, rfl, .ty _, .base (.bl y), kit_ty (by decide +kernel), true, rfl, q⟩
    · exact ⟨v, rfl, v, .ty "int", .type t, .type "int", false, rfl, .ty _, ht, kit_ty hk, false, rfl, iteF q⟩
def spLiesV (K : PySem.W.Frag) : Sp := fun vs H Q _ => ∃ (v : V) (lo hi : Int) (b : Bool), vs = [v, .int lo, .int hi] ∧ LieV K H v lo hi b ∧ Q (.bl b) H
theorem ok_liesV (T : Tx K mg) : FnOk P w K mg base CX0 2 T.a_lies_between T.d_lies_between P_lies_between (spLiesV K) := by
  refine T.F_lies_between.ok sc_lies_between (fun vs H Q E h => ?_) (fun cdv A outer s H vs Q E hr h => ?_)
  · obtain ⟨v, lo, hi, b, rfl, _⟩ := h
    rfl
  · obtain ⟨v, lo, hi, b, rfl, hv, q⟩ := h
    refine ⟨_, pss_one (ps_ret (pe_and (pe_call (ok_is_numberV T) hr (by rfl) T.g_is_number T.F_is_number.kp T.b_is_number .nil pass0 (pa_cons (pv 0) pa_nil)) (pe_one (pe_chain op_le op_le (pv 1) (pv 0) (pv 2))))), ?_⟩
    rcases hv with ⟨i, rfl, rfl⟩ | ⟨hn, rfl⟩
    · refine ⟨.int i, rfl, .int i, true, rfl, .inl ⟨i, rfl, rfl⟩, true, rfl, iteT ?_⟩
      refine ⟨.int lo, rfl, .int i, rfl, lo, i, rfl, rfl, decide (lo ≤ i), rfl, ?_⟩
      by_cases h : lo ≤ i
      · rw [decide_eq_true h] at q ⊢
        exact iteT ⟨.int hi, rfl, i, hi, rfl, rfl, q⟩
      · rw [decide_eq_false h] at q ⊢
        exact iteF q
    · exact ⟨v, rfl, v, false, rfl, hn, false, rfl, iteF q⟩
/-- check_number: passes, or raises InvalidNumber -/
def spChkX (K : PySem.W.Frag) (CN : Addr) : Sp := fun vs H Q E => ∃ (v : V) (lo hi : Int) (b : Bool), vs = [v, .int lo, .int hi] ∧ LieV K H v lo hi b ∧ (b = true → Q .non H) ∧ (b = false → E (.ref CN) none H)
theorem ok_chkX {S : TdS K mg} {CN : Addr} (T : Tx K mg) (E4 : TdE S "InvalidNumber" CN 4) : FnOk P w K mg base (L2.CX P w) 3 T.a_check_number T.d_check_number P_check_number (spChkX K CN) := by
  refine T.F_check_number.okX sc_check_number (fun vs H Q E h => ?_) (fun cdv A outer s H vs Q E hr h => ?_)
  · obtain ⟨v, lo, hi, b, rfl, _⟩ := h
    rfl
  · obtain ⟨v, lo, hi, b, rfl, hv, q1, q2⟩ := h
    refine ⟨_, pss_one (ps_if (pt_not (pt_val (pe_call (ok_liesV T) hr (by rfl) T.g_lies_between T.F_lies_between.kp T.b_lies_between .nil pass0 (pa_cons (pv 0) (pa_cons (pv 1) (pa_cons (pv 2) pa_nil))))))
      (pss_one (ps_raise rfl (takes_of rfl rfl rfl rfl) (pmk_own PySem.F.excBase_ValueError E4.xF E4.g E4.kF (raises_own E4.bF E4.tF) (by exact rfl)))) pss_nil), ?_⟩
    refine ⟨v, rfl, .int lo, rfl, .int hi, rfl, v, lo, hi, b, rfl, hv, b, rfl, ?_⟩
    cases b with
    | true => exact iteF (q1 rfl)
    | false => exact iteT (q2 rfl)
/-- check_reader: passes, or raises UnknownReader -/
def spRdX (K : PySem.W.Frag) (C CU : Addr) : Sp := fun vs H Q E => ∃ (p dx td ts : Addr) (ds ss : List Int) (v : V) (b : Bool), vs = [.ref p, v] ∧ RingAt C H p dx td ts ds ss ∧ LieV K H v 0 ((ds.length : Int) - 1) b ∧ (b = true → Q .non H) ∧ (b = false → E (.ref CU) none H)
theorem ok_rdX {S : TdS K mg} {CU : Addr} (T : Tx K mg) (E2 : TdE S "UnknownReader" CU 2) : FnOk P w K mg base (L2.CX P w) 3 T.a_check_reader T.d_check_reader P_check_reader (spRdX K T.C CU) := by
  refine T.F_check_reader.okX sc_check_reader (fun vs H Q E h => ?_) (fun cdv A outer s H vs Q E hr h => ?_)
  · obtain ⟨p, dx, td, ts, ds, ss, v, b, rfl, _⟩ := h
    rfl
  · obtain ⟨p, dx, td, ts, ds, ss, v, b, rfl, R, hv, q1, q2⟩ := h
    have hl := R.ok.l8
    refine ⟨_, pss_one (ps_if (pt_not (pt_val (pe_call (ok_liesV T) hr (by rfl) T.g_lies_between T.F_lies_between.kp T.b_lies_between .nil pass0
      (pa_cons (pv 1) (pa_cons pe_int (pa_cons (pe_op op_sub (pe_callB (call_lenI T.lenC T.lenF ((ok_len T).raw T.b_rlen .nil) hr pass0) (by rfl) T.z_len PySem.boot_len (pa_cons (pv 0) pa_nil)) pe_int) pa_nil))))))
      (pss_one (ps_raise rfl (takes_of rfl rfl rfl rfl) (pmk_own PySem.F.excBase_ValueError E2.xF E2.g E2.kF (raises_own E2.bF E2.tF) (by exact rfl)))) pss_nil), ?_⟩
    refine ⟨v, rfl, .ref p, rfl, p, dx, _, rfl, R.ob, p, dx, td, ts, ds, ss, rfl, R, (ds.length : Int), rfl, by omega, by omega, _, _, rfl, rfl, ?_⟩
    refine ⟨v, 0, (ds.length : Int) - 1, b, rfl, hv, b, rfl, ?_⟩
    cases b with
    | true => exact iteF (q1 rfl)
    | false => exact iteT (q2 rfl)
theorem lie_int {K : PySem.W.Frag} {H : Hp} {r lo hi : Int} (h0 : lo ≤ r) (h1 : r ≤ hi) : LieV K H (.int r) lo hi true := .inl ⟨r, rfl, by rw [decide_eq_true h0, decide_eq_true h1]; rfl⟩
theorem lie_no {K : PySem.W.Frag} {H : Hp} {v : V} {lo hi : Int} (h : (∃ r, v = .int r ∧ (r < lo ∨ hi < r)) ∨ v = .non ∨ v = .bl true) : LieV K H v lo hi false := by
  rcases h with ⟨r, rfl, h⟩ | rfl | rfl
  · refine .inl ⟨r, rfl, ?_⟩
    rcases h with h | h
    · rw [decide_eq_false (by omega)]; rfl
    · rw [decide_eq_false (show ¬ r ≤ hi by omega), Bool.and_false]
  · exact .inr ⟨.inr (.inr ⟨"NoneType", .base .non, by decide +kernel, rfl⟩), rfl⟩
  · exact .inr ⟨.inr (.inl ⟨true, rfl, rfl⟩), rfl⟩
/-! ### E2: rcall book_of -/
end
end Rp
/-! Lists of kept lambdas, each of which is told: [_law_told(f) for f in fs]. -/
namespace Rp
open PySem PySem.Spec PyProof.Rows L2 Rz Rm Rt Rl LamX
def lpA : Expr → Arguments
  | .Lambda p _ _ _ => p
  | _ => ⟨[], [], none, [], [], none, []⟩
def lpB : Expr → Expr
  | .Lambda _ b _ _ => b
  | e => e
def lpS : Expr → Scope
  | .Lambda _ _ s _ => s
  | _ => ⟨.function, [], false, false, []⟩
def dfV : Option Addr → Value
  | none => .none
  | some t => .ref t
def mkF (q : Str) (cells : List (Str × Addr)) (e : Expr) (t : Option Addr) (c : Addr) : LF := ⟨q, lpA e, lpB e, lpS e, cloFrom cells (lpS e).names [], dfV t, c⟩
/-- without parameters -/
def Bd0 (e : Expr) : Prop := ∀ (q : Str) (cl : List (Str × Addr)) (c doc pm ctv : Value) (sZ : Shared), BindsTo sZ (PySem.W.kdv_fn "<lambda>" q (lpA e) (.expr (lpB e)) (lpS e) cl .none doc pm c ctv) ⟨[], []⟩ []
/-- one parameter with a default value -/
def Bd1 (e : Expr) : Prop := ∃ x : Str, (lpS e).names.lookup x = some .local ∧ ∀ (q : Str) (cl : List (Str × Addr)) (t : Addr) (c doc pm ctv : Value) (sZ : Shared) (o : Obj) (v : Value) (n : Nat), sZ.heap.get? t = some o → o.data = .seq #[v] n →
  BindsTo sZ (PySem.W.kdv_fn "<lambda>" q (lpA e) (.expr (lpB e)) (lpS e) cl (.ref t) doc pm c ctv) ⟨[], []⟩ [(x, v)]
def GD (e : Expr) (t : Option Addr) (H : Hp) : Prop := match t with
  | none => Bd0 e
  | some t => Bd1 e ∧ H t = some (.tup [.int 0])
/-- f is the lambda e, kept -/
def KLat (q : Str) (cells : List (Str × Addr)) (H : Hp) (e : Expr) (f : Addr) : Prop := ∃ (t : Option Addr) (c : Addr), H f = some (LamO f (mkF q cells e t c)) ∧ H c = some (CodeO c q) ∧ GD e t H
theorem KLat.extN {q : Str} {cells : List (Str × Addr)} {H H' : Hp} {e : Expr} {f : Addr} (k : KLat q cells H e f) (x : ExtN H H') : KLat q cells H' e f := by
  obtain ⟨t, c, h1, h2, h3⟩ := k
  refine ⟨t, c, x _ _ h1 (lamO_ne), x _ _ h2 codeO_ne, ?_⟩
  cases t with
  | none => exact h3
  | some t => exact ⟨h3.1, x _ _ h3.2 (by intro ps z; cases z)⟩
section
variable {X : Cx}
def lFam (X : Cx) (le : Nat → Expr) : Nat × Option Addr × Addr → LF := fun i => mkF (X.env.qual ++ "<lambda>") X.env.cells (le i.1) i.2.1 i.2.2
theorem fam_ok {le : Nat → Expr} (hl : ∀ j, LamP X.N X.env.scope (lpS (le j))) : Fam X (Nat × Option Addr × Addr) (lFam X le) (fun i H => GD (le i.1) i.2.1 H) where
  nm := fun i => hl i.1
  cl := fun _ => rfl
  q := fun _ => rfl
  bind := fun ⟨j, t, c⟩ doc pm ctv sZ HZ hok hg => by
    cases t with
    | none => exact ⟨[], hg _ _ _ _ _ _ _, fun y hy => by cases hy⟩
    | some t =>
      obtain ⟨⟨x, hx, hb⟩, ht⟩ := hg
      obtain ⟨_, its, rv, o, ho, _, n, hd⟩ := hok t _ ht
      cases rv with
      | cons r1 r2 =>
        rename_i v vs
        cases r2
        exact ⟨[(x, v)], hb _ _ _ _ _ _ _ _ _ _ _ ho hd, fun y hy => by
          obtain rfl := List.mem_singleton.mp hy
          exact hx⟩
/-- what the j-th gives: an error of the class at cls j -/
def Errs (ts : Nat → XK → TE) (n : Nat) (cls : Nat → Addr) (τ : L2.St) (H : Hp) : Prop := ∀ j, j < n → ∀ H', Same H H' → ∀ (E : XK) (Q : VK), E (.ref (cls j)) none H' → ts j E τ H' Q
theorem pe_tolds {k iw ic : Nat} {sc : Scope} {le : Nat → Expr} {ts : Nat → XK → TE} {p1 p2 p3 p4 pos cpos : Pos} {xw xc : Str} (T : Tx X.K X.mg) (S : TdS X.K X.mg) (hc : X.calm = true) (hN : X.N.Nodup)
    (hg : ∀ (z : Shared) (Z : Hp) (L : Addr) (cl : List (Str × Addr)) (fp : List Addr), Gl (bCx X z Z sc L cl fp) "_law_told") (hl : ∀ j, LamP X.N X.env.scope (lpS (le j))) (hr : Room (k + 2) X.A)
    (hbody : ∀ (j : Nat) (A : Around) (outer : List Env) (s : Shared) (H : Hp) (E : XK) (f c : Addr), Room k (A.deeper (lamEnv X (lpS (le j)) s.heap.objs.size f c)) → PE (lamCx X A outer s H E (lpS (le j)) f c) (lpB (le j)) (ts j E))
    (hw : PE X (.Name xw p4) (tVar iw)) (ok : BlkOk X.N X.env.scope sc [(xc, ic)])
    (ht : ∀ (z : Shared) (Z : Hp) (L : Addr) (cl : List (Str × Addr)) (fp : List Addr), PG (bCx X z Z sc L cl fp) (.Name xc p3) (gName ic))
    (ha : ∀ (z : Shared) (Z : Hp) (L : Addr) (cl : List (Str × Addr)) (fp : List Addr), PA (bCx X z Z sc L cl fp) [.Name xc p2] (tCons (tVar ic) tNil))
    (hst : ∀ (L : Addr) (cl : List (Str × Addr)), starEach [.Name xc p2] (compEnvC sc cl L X.env) = (false, eval (.Name xc p2) (compEnvC sc cl L X.env)) :: starEach [] (compEnvC sc cl L X.env))
    (hpl : ∀ (L : Addr) (cl : List (Str × Addr)), (backTo pos (starEach ([] : List Expr) (compEnvC sc cl L X.env))).any (·.1) = false)
    (hic : ic < X.N.length) (hs : ∀ x, foldedSetIterable (.Name xw p4) X.env x = pure x) :
    PE X (.ListComp (.Call (.Name "_law_told" p1) [.Name xc p2] [] pos) [⟨.Name xc p3, .Name xw p4, [], 0⟩] sc cpos) (fun σ H Q => ∃ (wl : Addr) (fs : List Addr) (cls jn : Nat → Nat), σ.length = X.N.length ∧ σ[iw]? = some (some (.ref wl)) ∧ H wl = some (.lst (fs.map V.ref)) ∧ fs.length ≤ 1000 ∧
      (∀ (j : Nat) (f : Addr), fs[j]? = some f → KLat (X.env.qual ++ "<lambda>") X.env.cells H (le j) f) ∧ (∀ j, j < fs.length → TdR S (cls j) (jn j)) ∧ Errs ts fs.length cls σ H ∧
      ∀ (H' : Hp) (D : Addr) (ps : List Addr), Same H H' → H' D = some (.lst (ps.map V.ref)) → ps.length = fs.length → (∀ (j : Nat) (p : Addr), ps[j]? = some p → H' p = some (.tup [.str "error", .str (tdNm (jn j))])) → Q (.ref D) H') := by
  obtain ⟨oc, od, kV, doc, pm, an, cdv, ct, osl, e, lk, hcd⟩ := T.F_ltold.ex
  have bt := T.b_ltold
  rw [e] at lk bt
  have go := pe_lcB (X := X) (own := [(xc, ic)]) (pos := cpos) hc hN (pi_list (tg := .Name xc p3) hw) ok ht
    (fun τ => el_lamB (X := X) (sc := sc) (F := lFam X le) (G := fun i H => GD (le i.1) i.2.1 H) (TT := TTold S) (x := "_law_told") (a := "_law_work") (k := k) (t := fun i => ts i.1) (p := p1) (pos := pos)
      hg T.g_ltold T.F_ltold.kp lk hcd bt sc_ltold rfl (.inl rfl) (gives_told S) (fam_ok hl) ha hr (fun i A outer s H E f hr2 => hbody i.1 A outer s H E f i.2.2 hr2) hst hpl (by decide) (by decide) (by decide) τ) hs
  refine ⟨fun pins s σ H Q I h => go.run pins s σ H Q I ?_⟩
  obtain ⟨wl, fs, cls, jn, hlen, hwl, hL, h1000, hK, hcl, hE, q⟩ := h
  refine ⟨_, hwl, wl, rfl, ⟨_, SqL.of hL⟩, fun D hD => ?_⟩
  refine lc_list (xs := fs.map V.ref) (fun i H' => Same H H' ∧ ∃ ps : List Addr, H' D = some (.lst (ps.map V.ref)) ∧ ps.length = i ∧ ∀ (j : Nat) (p : Addr), ps[j]? = some p → H' p = some (.tup [.str "error", .str (tdNm (jn j))]))
    ⟨same_upd hD, [], upd_same, rfl, fun j p hp => by simp at hp⟩ (fun i H' _ hP => SqL.of (hP.1 _ _ hL)) ?_ ?_
  · rintro i x H1 hx ⟨s1, ps, hD1, hps, hall⟩
    have hi : i < fs.length := by
      have := (List.getElem?_eq_some_iff.mp hx).1
      rwa [List.length_map] at this
    have hfx : x = .ref fs[i] := by
      rw [List.getElem?_map, List.getElem?_eq_getElem hi] at hx
      exact (Option.some.inj hx).symm
    subst hfx
    refine ⟨?_, ?_⟩
    · show (((σ.set ic none).set ic (some (.ref fs[i]))).set ic none) = σ.set ic none
      rw [List.set_set, List.set_set]
    · refine lc_keep ?_
      obtain ⟨t, c, k1, k2, k3⟩ := (hK i _ (List.getElem?_eq_getElem hi)).extN (ExtN.of s1)
      refine ⟨.ref fs[i], ?_, fs[i], (i, t, c), rfl, k1, k2, k3, ?_⟩
      · show ((wipe σ [ic]).set ic (some (.ref fs[i])))[ic]? = _
        exact List.getElem?_set_self (by rw [wipe_length, hlen]; exact hic)
      · intro E' hE'
        refine hE i hi H1 s1 E' _ (hE' _ _ _ ⟨cls i, jn i, rfl, rfl, hcl i hi, fun p H2 s2 hn hp => ?_⟩)
        refine ⟨_, s2 _ _ hD1, by rw [List.length_map, hps]; exact small1000 (by omega), fun b o hb => (upd_ne (ne_of_none hb hD)).trans (s2 _ _ (s1 _ _ hb)), ps ++ [p], ?_, ?_, ?_⟩
        · rw [upd_same, List.map_append]; rfl
        · rw [List.length_append, hps]; rfl
        · intro j p' hp'
          have nD : ∀ r xs, H2 r = some (.tup xs) → r ≠ D := fun r xs hr2 => ne_of hr2 (s2 _ _ hD1) (by intro z; cases z)
          rcases Nat.lt_or_ge j ps.length with hj | hj
          · rw [List.getElem?_append_left hj] at hp'
            have h2 := s2 _ _ (hall j p' hp')
            exact (upd_ne (nD _ _ h2)).trans h2
          · rw [List.getElem?_append_right hj] at hp'
            have hj0 : j - ps.length = 0 := by
              rcases Nat.eq_zero_or_pos (j - ps.length) with z | z
              · exact z
              · rw [List.getElem?_eq_none (by show 1 ≤ j - ps.length; omega)] at hp'; cases hp'
            rw [hj0] at hp'
            cases hp'
            have ej : j = i := by omega
            subst ej
            exact (upd_ne (nD _ _ hp)).trans hp
  · rintro H1 ⟨s1, ps, hD1, hps, hall⟩
    rw [List.length_map] at hps
    exact q H1 D ps s1 hD1 hps hall
end
end Rp
/-! told(lambda x=0: ..) as an expression. -/
namespace Rp
open PySem PySem.Spec PyProof.Rows L2 Rz Rm Rt Rl LamX
section
variable {X : Cx}
/-- told(lambda: e), t being e's reading: Q at e's value, and at what is told of its error -/
def tTold {K : PySem.W.Frag} {mg : Str → Option Value} (S : TdS K mg) (Tb : List (Addr × Str)) (t : XK → TE) : TE := fun σ H Q => Tabs Tb H ∧ ∀ H1, ExtN H H1 → Tabs Tb H1 → ∀ E : XK, (∀ cls d H', TO S Q cls d H' → E cls d H') → t E σ H1 Q
theorem pe_toldD {c PT : Addr} {k : Nat} {params : Arguments} {body : Expr} {scope : Scope} {p lp pos : Pos} {t : XK → TE} {j : Nat} {dp : Pos} (T : Tx X.K X.mg) (S : TdS X.K X.mg) (TB : TabB X.base X.mg c PT) (hcode : X.env.code = .ref c) (hg : Gl X "_law_told")
    (L : LamP X.N X.env.scope scope) (hd : params.defaults = [.Constant (.int 0) j dp]) (hk : params.kw_defaults = []) (hb : Bd1 (.Lambda params body scope lp)) (hr : Room (k + 2) X.A)
    (hbody : ∀ (A : Around) (outer : List Env) (s : Shared) (H : Hp) (E : XK) (f c' : Addr), Room k (A.deeper (lamEnv X scope s.heap.objs.size f c')) → PE (lamCx X A outer s H E scope f c') body (t E))
    (hst : starEach [.Lambda params body scope lp] X.env = (false, eval (.Lambda params body scope lp) X.env) :: starEach [] X.env := by rfl) (hpl : (backTo pos (starEach ([] : List Expr) X.env)).any (·.1) = false := by rfl) :
    PE X (.Call (.Name "_law_told" p) [.Lambda params body scope lp] [] pos) (tTold S [(PT, X.env.qual ++ "<lambda>")] t) := by
  obtain ⟨oc, od, kV, doc, pm, an, cdv, ct, osl, e, lk, hcd⟩ := T.F_ltold.ex
  have bt := T.b_ltold
  rw [e] at lk bt
  have go := pe_lamcallV (X := X) (ι := Nat × Option Addr × Addr) (F := lFam X fun _ => .Lambda params body scope lp) (G := fun i H => GD (.Lambda params body scope lp) i.2.1 H) (TT := TTold S) (x := "_law_told") (a := "_law_work") (k := k) (t := fun _ => t) (p := p) (pos := pos)
    hg T.g_ltold T.F_ltold.kp lk hcd bt sc_ltold rfl (.inl rfl) (gives_told S) (fam_ok fun _ => L)
    (pa_cons (pe_lam1 (pos := lp) TB hcode (List.mem_singleton.mpr rfl) (fun q hq _ => by rw [List.mem_singleton.mp hq]) (fun y hy z => L.free y hy z) hd hk) pa_nil) hr
    (fun i A outer s H E f hr2 => hbody A outer s H E f i.2.2 hr2) hst hpl
  refine ⟨fun pins s σ H Q I h => go.run pins s σ H Q I ?_⟩
  obtain ⟨hT, h⟩ := h
  exact ⟨hT, fun f c' t1 H1 x1 t1' hf et e1 e2 => ⟨f, (0, some t1, c'), rfl, e1, e2, ⟨hb, et⟩, fun E hE => h H1 x1 t1' E hE⟩⟩
end
end Rp
/-! check_book and first_meeting that raise -/
namespace Rp
open PySem PySem.Spec PyProof.Rows L2 Rz Rm Rt Rl LamX
section
variable {P : Program} {w : World} {K : PySem.W.Frag} {mg : Str → Option Value} {base : Heap}
def spCkX (K : PySem.W.Frag) (C CB : Addr) : Sp := fun vs H Q E => ∃ (p dx td ts : Addr) (ds ss : List Int) (v : V) (b : Bool), vs = [.ref p, v] ∧ RingAt C H p dx td ts ds ss ∧ LieV K H v 0 (ss.sum - 1) b ∧ (b = true → Q .non H) ∧ (b = false → E (.ref CB) none H)
theorem ok_ckX {S : TdS K mg} {CB : Addr} (T : Tx K mg) (E3 : TdE S "UnknownBook" CB 3) : FnOk P w K mg base (L2.CX P w) 3 T.a_check_book T.d_check_book P_check_book (spCkX K T.C CB) := by
  refine T.F_check_book.okX sc_check_book (fun vs H Q E h => ?_) (fun cdv A outer s H vs Q E hr h => ?_)
  · obtain ⟨p, dx, td, ts, ds, ss, v, b, rfl, _⟩ := h
    rfl
  · obtain ⟨p, dx, td, ts, ds, ss, v, b, rfl, R, hv, q1, q2⟩ := h
    refine ⟨_, pss_one (ps_if (pt_not (pt_val (pe_call (ok_liesV T) hr (by rfl) T.g_lies_between T.F_lies_between.kp T.b_lies_between .nil pass0
      (pa_cons (pv 1) (pa_cons pe_int (pa_cons (pe_op op_sub (pe_prop (pv 0) T.cl T.q_rbooks (ok_books T) (hr.mono (by decide)) T.b_rbooks .nil pass0 rfl) pe_int) pa_nil))))))
      (pss_one (ps_raise rfl (takes_of rfl rfl rfl rfl) (pmk_own PySem.F.excBase_ValueError E3.xF E3.g E3.kF (raises_own E3.bF E3.tF) (by exact rfl)))) pss_nil), ?_⟩
    refine ⟨v, rfl, .ref p, rfl, p, dx, _, rfl, R.ob, p, dx, td, ts, ds, ss, rfl, R, _, _, rfl, rfl, ?_⟩
    refine ⟨v, 0, ss.sum - 1, b, rfl, hv, b, rfl, ?_⟩
    cases b with
    | true => exact iteF (q1 rfl)
    | false => exact iteT (q2 rfl)
def spMeetX (K : PySem.W.Frag) (C CB CS : Addr) : Sp := fun vs H Q E => ∃ (p dx td ts : Addr) (ds ss : List Int) (v x : V), vs = [.ref p, v, x] ∧ RingAt C H p dx td ts ds ss ∧
  ((LieV K H v 0 (ss.sum - 1) false ∧ E (.ref CB) none H) ∨ ((∃ b, v = .int b ∧ 0 ≤ b ∧ b < ss.sum) ∧ LieV K H x 0 (ss.sum - 1) false ∧ E (.ref CB) none H) ∨ ((∃ b, v = .int b ∧ x = .int b ∧ 0 ≤ b ∧ b < ss.sum) ∧ E (.ref CS) none H))
theorem ok_meetX {S : TdS K mg} {CB CS : Addr} (T : Tx K mg) (E3 : TdE S "UnknownBook" CB 3) (E5 : TdE S "SameBook" CS 5) : FnOk P w K mg base (L2.CX P w) 5 T.a_first_meeting T.d_first_meeting P_first_meeting (spMeetX K T.C CB CS) := by
  refine T.F_first_meeting.okX sc_first_meeting (fun vs H Q E h => ?_) (fun cdv A outer s H vs Q E hr h => ?_)
  · obtain ⟨p, dx, td, ts, ds, ss, v, x, rfl, _⟩ := h
    rfl
  · obtain ⟨p, dx, td, ts, ds, ss, v, x, rfl, R, hh⟩ := h
    have hr3 : Room 3 _ := hr.mono (by decide)
    refine ⟨_, pss_cons (ps_expr (pe_callS (ok_ckX T E3) hr3 (by rfl) T.g_check_book T.F_check_book.kp T.b_check_book (fun σ => passAt (takes_of rfl rfl rfl rfl) σ) (pa_cons (pv 0) (pa_cons (pv 1) pa_nil))))
      (pss_cons (ps_expr (pe_callS (ok_ckX T E3) hr3 (by rfl) T.g_check_book T.F_check_book.kp T.b_check_book (fun σ => passAt (takes_of rfl rfl rfl rfl) σ) (pa_cons (pv 0) (pa_cons (pv 2) pa_nil))))
      (pss_cons (ps_if (pt_cmpR op_eq (pv 1) (pv 2) (nomark _)) (pss_one (ps_raise rfl (takes_of rfl rfl rfl rfl) (pmk_own PySem.F.excBase_ValueError E5.xF E5.g E5.kF (raises_own E5.bF E5.tF) (by exact rfl)))) pss_nil)
      pss_never)), ?_⟩
    rcases hh with ⟨hv, q⟩ | ⟨⟨b, rfl, b0, b1⟩, hx, q⟩ | ⟨⟨b, rfl, rfl, b0, b1⟩, q⟩
    · exact ⟨_, rfl, v, rfl, p, dx, td, ts, ds, ss, v, false, rfl, R, hv, fun z => Bool.noConfusion z, fun _ => q⟩
    · exact ⟨_, rfl, _, rfl, p, dx, td, ts, ds, ss, _, true, rfl, R, lie_int b0 (by omega), fun _ => ⟨_, rfl, x, rfl, p, dx, td, ts, ds, ss, x, false, rfl, R, hx, fun z => Bool.noConfusion z, fun _ => q⟩, fun z => Bool.noConfusion z⟩
    · refine ⟨_, rfl, _, rfl, p, dx, td, ts, ds, ss, _, true, rfl, R, lie_int b0 (by omega), fun _ => ⟨_, rfl, _, rfl, p, dx, td, ts, ds, ss, _, true, rfl, R, lie_int b0 (by omega), fun _ => ?_, fun z => Bool.noConfusion z⟩, fun z => Bool.noConfusion z⟩
      refine ⟨_, rfl, _, rfl, rfl, _, rfl, ?_⟩
      rw [decide_eq_true rfl]
      exact iteT q
end
end Rp
/-! the law's shared times -/
namespace Rp
open PySem PySem.Spec PyProof.Rows L2 Rz Rm
def kx (p : Nat → Bool) (i : Nat) : List Nat := (List.range i).filter p
theorem kx_yes {p : Nat → Bool} {i : Nat} (h : p i = true) : kx p (i + 1) = kx p i ++ [i] := by
  unfold kx
  rw [List.range_succ, List.filter_append, List.filter_cons, if_pos h]
  rfl
theorem kx_no {p : Nat → Bool} {i : Nat} (h : p i = false) : kx p (i + 1) = kx p i := by
  unfold kx
  rw [List.range_succ, List.filter_append, List.filter_cons, if_neg (by rw [h]; decide)]
  simp
theorem kx_len (p : Nat → Bool) (i : Nat) : (kx p i).length ≤ i := by
  have := List.length_filter_le p (List.range i)
  rw [List.length_range] at this
  exact this
theorem kx_mem {p : Nat → Bool} {i k : Nat} : k ∈ kx p i ↔ k < i ∧ p k = true := by
  unfold kx
  rw [List.mem_filter, List.mem_range]
structure Fl (H1 H : Hp) (D : Addr) (f : Int → List Int) (p : Nat → Bool) (i : Nat) : Prop where
  mk0 ::
  ex : ∃ ys, H D = some (.lst ys) ∧ Tups H ys ((kx p i).map fun k : Nat => f (k : Int))
  sm : Same H1 H
theorem mem_take_succ {α : Type} {l : List α} {i : Nat} {x k : α} (h : l[i]? = some x) : k ∈ l.take (i + 1) ↔ k ∈ l.take i ∨ k = x := by
  rw [List.take_add_one, h, List.mem_append]
  simp
/-- the shared time of two readings begins on the day -/
def Cd (ds ss : List Int) (j : Int) (x y : Nat) (D : Int) : Prop := max (cm ds ss j x) (cm ds ss j y) = D ∧ D < min (Rm.E (at' ds) (at' ss) j x) (Rm.E (at' ds) (at' ss) j y)
noncomputable def pB (ss : List Int) (j b : Int) (k : Nat) : Bool := decide (bk ss j k = b)
theorem min_if (i j : Int) : (if j < i then j else i) = min i j := by
  split <;> omega
section
variable {P : Program} {w : World} {K : PySem.W.Frag} {mg : Str → Option Value} {base : Heap}
def spShared : Sp := fun vs H Q _ => ∃ (rl : Addr) (b c : Int) (xs : List V) (ds ss : List Int) (j c0 : Int), vs = [.ref rl, .int b, .int c] ∧ H rl = some (.lst xs) ∧ Tups H xs (seg (rowOf ds ss j) 0 c0) ∧ 0 ≤ c0 ∧ c0 ≤ 240 ∧
  ∀ (H' : Hp) (l : Addr) (zs : List Int), Same H H' → H' l = some (.lst (zs.map V.int)) → (zs.length : Int) ≤ c0 * c0 → (∀ D, D ∈ zs ↔ ∃ x y : Nat, (x : Int) < c0 ∧ (y : Int) < c0 ∧ bk ss j x = b ∧ bk ss j y = c ∧ Cd ds ss j x y D) → Q (.ref l) H'
theorem ok_shared (T : Tx K mg) : FnOk P w K mg base CX0 1 T.a_lshared T.d_lshared P_lshared spShared := by
  refine T.F_lshared.ok sc_lshared (fun vs H Q E h => ?_) (fun cdv A outer s H vs Q E hr h => ?_)
  · obtain ⟨rl, b, c, xs, ds, ss, j, c0, rfl, _⟩ := h
    rfl
  · obtain ⟨rl, b, c, xs, ds, ss, j, c0, rfl, hrl, tx, c00, c01, q⟩ := h
    have nd := sc_lshared.nd
    have lx := tx.length
    rw [seg_length] at lx
    refine ⟨_, pss_cons (ps_set (i := 3) nd rfl (.inl rfl) (pe_lst pa_nil)) (pss_cons (ps_for PassesOwn.never rfl (pi_list (pe_lc (own := [("_law_x", 5)]) rfl nd (pi_list (pv 0)) (blkOk_by (N := N_lshared) (sc := defScope s_lshared) (by decide +kernel)) (fun _ _ _ _ _ => pg_name (i := 5) nd rfl (.inl rfl)) (fun _ _ _ _ _ => pts_one (pt_cmpR op_eq (pe_ix (r := rIxT K) ix_tup (pv 5) pe_int (fun _ _ => rfl)) (pv 1) (nomark _))) (fun _ _ _ _ _ => pv 5))) (pg_name (i := 4) nd rfl (.inl rfl)) (pss_one (ps_for PassesOwn.never rfl (pi_list (pe_lc (own := [("_law_other", 7)]) rfl nd (pi_list (pv 0)) (blkOk_by (N := N_lshared) (sc := defScope s_lshared) (by decide +kernel)) (fun _ _ _ _ _ => pg_name (i := 7) nd rfl (.inl rfl)) (fun _ _ _ _ _ => pts_one (pt_cmpR op_eq (pe_ix (r := rIxT K) ix_tup (pv 7) pe_int (fun _ _ => rfl)) (pv 2) (nomark _))) (fun _ _ _ _ _ => pv 7))) (pg_name (i := 5) nd rfl (.inl rfl)) (pss_cons (ps_set (i := 6) nd rfl (.inl rfl) (pe_callB (call_max2 rfl) (by rfl) T.z_max (by decide +kernel) (pa_cons (pe_ix ix_tup (pv 4) pe_int (fun _ _ => rfl)) (pa_cons (pe_ix ix_tup (pv 5) pe_int (fun _ _ => rfl)) pa_nil)))) (pss_one (ps_set (i := 3) nd rfl (.inl rfl) (pe_op op_cat (pv 3) (pe_ifExp (pt_cmpR op_lt (pv 6) (pe_callB (call_min2 rfl) (by rfl) T.z_min (by decide +kernel) (pa_cons (pe_ix ix_tup (pv 4) pe_int (fun _ _ => rfl)) (pa_cons (pe_ix ix_tup (pv 5) pe_int (fun _ _ => rfl)) pa_nil))) (nomark _)) (pe_lst (pa_cons (pv 6) pa_nil)) (pe_lst pa_nil))))))))) (pss_one (ps_ret (pv 3)))), ?_⟩
    refine ⟨(by show 0 ≤ sizeLine; decide), fun f0 hf0 => ?_⟩
    have s0 := same_upd (o := .lst []) hf0
    have hf1 : (upd H f0 (.lst [])) f0 = some (.lst (([] : List Int).map V.int)) := upd_same
    show tSeq _ _ _ [some (.ref rl), some (.int b), some (.int c), some (.ref f0), none, none, none, none] (upd H f0 (.lst []))
    generalize (upd H f0 (.lst [])) = H1 at s0 hf1 ⊢
    refine ⟨_, rfl, rl, rfl, ⟨_, .of (s0 _ _ hrl)⟩, fun D1 hD1 => lc_list (K := K) (a := rl) (xs := xs) (fun i H' => Fl H1 H' D1 (rowOf ds ss j) (pB ss j b) i) ⟨⟨[], upd_same, .nil⟩, same_upd hD1⟩ (fun i H' _ h => .of (h.sm _ _ (s0 _ _ hrl))) ?_ ?_⟩
    · rintro i x H8 hx ⟨⟨ys, hys, hT⟩, s8⟩
      have hi : i < xs.length := (List.getElem?_eq_some_iff.mp hx).1
      obtain ⟨t, e1, e2⟩ := (tx.same (s0.trans s8)).get (seg_get (f := rowOf ds ss j) (b := 0) (c := c0) (i := i) (by omega))
      rw [hx] at e1
      cases e1
      rw [Int.zero_add] at e2
      have lys := hT.length
      rw [List.length_map] at lys
      have lkx := kx_len (pB ss j b) i
      refine ⟨rfl, ?_⟩
      refine ⟨_, rfl, t, _, 2, _, rfl, rfl, .of e2, atI_nat (j := 2) rfl, _, rfl, rfl, _, rfl, ?_⟩
      rw [dec_eqI3]
      by_cases hp : bk ss j i = b
      · rw [decide_eq_true hp]
        show if true = true then _ else _
        rw [if_pos rfl]
        refine ⟨_, rfl, ys, hys, small1000 (by omega), ⟨ys ++ [.ref t], upd_same, ?_⟩, Same.put2 s8 hD1⟩
        rw [kx_yes (show (pB ss j b) i = true from decide_eq_true hp), List.map_append]
        refine Tups.snoc ⟨t, rfl, ?_⟩ (hT.put2 hys)
        rw [upd_ne (ne_of e2 hys (by intro z; cases z))]
        exact e2
      · rw [decide_eq_false hp]
        show if false = true then _ else _
        rw [if_neg (by decide)]
        refine ⟨⟨ys, hys, ?_⟩, s8⟩
        rw [kx_no (show (pB ss j b) i = false from decide_eq_false hp)]
        exact hT
    rintro H2 ⟨⟨ys, hys, hT⟩, s2⟩
    have lys := hT.length
    rw [List.length_map] at lys
    have lk1 := kx_len (pB ss j b) xs.length
    refine ⟨D1, rfl, ⟨_, .of hys⟩, for_list (K := K) (a := D1) (xs := ys) (fun i σ H' => ∃ (fd : Addr) (zs : List Int) (y4 y5 y6 y7 : Option V), σ = [some (.ref rl), some (.int b), some (.int c), some (.ref fd), y4, y5, y6, y7] ∧ Same H2 H' ∧ H' fd = some (.lst (zs.map V.int)) ∧ zs.length ≤ i * xs.length ∧
        ∀ D, D ∈ zs ↔ ∃ x ∈ (kx (pB ss j b) xs.length).take i, ∃ y ∈ kx (pB ss j c) xs.length, Cd ds ss j x y D) ⟨f0, [], _, _, _, _, rfl, Same.refl H2, s2 _ _ hf1, by simp, fun D => by simp⟩ (fun i σ H' _ ⟨_, _, _, _, _, _, _, h, _⟩ => .of (h _ _ hys)) ?_ ?_⟩
    · rintro i x σ H3 hx ⟨fd, zs, y4, y5, y6, y7, rfl, s3, hfd, hlen, hmem⟩
      have hi : i < ys.length := (List.getElem?_eq_some_iff.mp hx).1
      have s03 := (s0.trans s2).trans s3
      obtain ⟨k1, hk1⟩ : ∃ k, (kx (pB ss j b) xs.length)[i]? = some k := ⟨_, List.getElem?_eq_getElem (by omega)⟩
      obtain ⟨t1, e1, ht1⟩ := (hT.same s3).get (i := i) (l := rowOf ds ss j (k1 : Int)) (by rw [List.getElem?_map, hk1]; rfl)
      rw [hx] at e1
      cases e1
      refine ⟨_, rfl, rl, rfl, ⟨_, .of (s03 _ _ hrl)⟩, fun D2 hD2 => lc_list (K := K) (a := rl) (xs := xs) (fun i H' => Fl H3 H' D2 (rowOf ds ss j) (pB ss j c) i) ⟨⟨[], upd_same, .nil⟩, same_upd hD2⟩ (fun i H' _ h => .of (h.sm _ _ (s03 _ _ hrl))) ?_ ?_⟩
      · clear hx hi hk1
        rintro i x H8 hx ⟨⟨ws, hws, hT'⟩, s8⟩
        have hi : i < xs.length := (List.getElem?_eq_some_iff.mp hx).1
        obtain ⟨t, e1, e2⟩ := (tx.same (s03.trans s8)).get (seg_get (f := rowOf ds ss j) (b := 0) (c := c0) (i := i) (by omega))
        rw [hx] at e1
        cases e1
        rw [Int.zero_add] at e2
        have lys := hT'.length
        rw [List.length_map] at lys
        have lkx := kx_len (pB ss j c) i
        refine ⟨rfl, ?_⟩
        refine ⟨_, rfl, t, _, 2, _, rfl, rfl, .of e2, atI_nat (j := 2) rfl, _, rfl, rfl, _, rfl, ?_⟩
        rw [dec_eqI3]
        by_cases hp : bk ss j i = c
        · rw [decide_eq_true hp]
          show if true = true then _ else _
          rw [if_pos rfl]
          refine ⟨_, rfl, ws, hws, small1000 (by omega), ⟨ws ++ [.ref t], upd_same, ?_⟩, Same.put2 s8 hD2⟩
          rw [kx_yes (show (pB ss j c) i = true from decide_eq_true hp), List.map_append]
          refine Tups.snoc ⟨t, rfl, ?_⟩ (hT'.put2 hws)
          rw [upd_ne (ne_of e2 hws (by intro z; cases z))]
          exact e2
        · rw [decide_eq_false hp]
          show if false = true then _ else _
          rw [if_neg (by decide)]
          refine ⟨⟨ws, hws, ?_⟩, s8⟩
          rw [kx_no (show (pB ss j c) i = false from decide_eq_false hp)]
          exact hT'
      rintro H4 ⟨⟨ws, hws, hT2⟩, s4⟩
      have lws := hT2.length
      rw [List.length_map] at lws
      have lk2 := kx_len (pB ss j c) xs.length
      have hmul : i * xs.length ≤ 240 * 240 := Nat.mul_le_mul (by omega) (by omega)
      refine ⟨D2, rfl, ⟨_, .of hws⟩, for_list (K := K) (a := D2) (xs := ws) (fun m σ H' => ∃ (fd : Addr) (zs' : List Int) (y5 y6 y7 : Option V), σ = [some (.ref rl), some (.int b), some (.int c), some (.ref fd), some (.ref t1), y5, y6, y7] ∧ Same H4 H' ∧ H' fd = some (.lst (zs'.map V.int)) ∧ zs'.length ≤ i * xs.length + m ∧
          ∀ D, D ∈ zs' ↔ D ∈ zs ∨ ∃ y ∈ (kx (pB ss j c) xs.length).take m, Cd ds ss j k1 y D) ⟨fd, zs, _, _, _, rfl, Same.refl H4, s4 _ _ hfd, by omega, fun D => by simp⟩ (fun m σ H' _ ⟨_, _, _, _, _, _, h, _⟩ => .of (h _ _ hws)) ?_ ?_⟩
      · rintro m x σ H5 hx2 ⟨fd2, zs2, z5, z6, z7, rfl, s5, hfd2, hlen2, hmem2⟩
        have hm : m < ws.length := (List.getElem?_eq_some_iff.mp hx2).1
        obtain ⟨k2, hk2⟩ : ∃ k, (kx (pB ss j c) xs.length)[m]? = some k := ⟨_, List.getElem?_eq_getElem (by omega)⟩
        obtain ⟨t2, e1, ht2⟩ := (hT2.same s5).get (i := m) (l := rowOf ds ss j (k2 : Int)) (by rw [List.getElem?_map, hk2]; rfl)
        rw [hx2] at e1
        cases e1
        have ht1' := s5 _ _ (s4 _ _ ht1)
        show tSeq _ _ _ [some (.ref rl), some (.int b), some (.int c), some (.ref fd2), some (.ref t1), some (.ref t2), z6, z7] H5
        refine ⟨_, rfl, t1, _, 3, _, rfl, rfl, .of ht1', atI_nat (j := 3) rfl, _, rfl, t2, _, 3, _, rfl, rfl, .of ht2, atI_nat (j := 3) rfl, _, _, rfl, ?_⟩
        rw [max_if]
        refine ⟨_, rfl, _, rfl, _, rfl, t1, _, 1, _, rfl, rfl, .of ht1', atI_nat (j := 1) rfl, _, rfl, t2, _, 1, _, rfl, rfl, .of ht2, atI_nat (j := 1) rfl, _, _, rfl, ?_⟩
        rw [min_if]
        refine ⟨_, _, rfl, rfl, _, rfl, ?_⟩
        by_cases hc : max (cm ds ss j k1) (cm ds ss j k2) < min (Rm.E (at' ds) (at' ss) j k1) (Rm.E (at' ds) (at' ss) j k2)
        · rw [decide_eq_true hc]
          refine iteT ⟨_, rfl, (by show 1 ≤ sizeLine; decide), fun l1 hl1 => ?_⟩
          have s6 := same_upd (o := .lst [.int (max (cm ds ss j k1) (cm ds ss j k2))]) hl1
          refine ⟨fd2, l1, _, _, rfl, rfl, s6 _ _ hfd2, upd_same, (by rw [sizeLine_eq, List.length_map]; show _ + 1 ≤ _; omega), fun l2 hl2 => ?_⟩
          have s7 := same_upd (o := .lst (zs2.map V.int ++ [.int (max (cm ds ss j k1) (cm ds ss j k2))])) hl2
          refine ⟨l2, zs2 ++ [max (cm ds ss j k1) (cm ds ss j k2)], _, _, _, rfl, (s5.trans s6).trans s7, by rw [upd_same, map_snoc], by rw [List.length_append]; show _ + 1 ≤ _; omega, fun D => ?_⟩
          rw [List.mem_append, hmem2 D, List.mem_singleton]
          constructor
          · rintro ((h | ⟨y, hy, h⟩) | h)
            · exact .inl h
            · exact .inr ⟨y, (mem_take_succ hk2).mpr (.inl hy), h⟩
            · exact .inr ⟨k2, (mem_take_succ hk2).mpr (.inr rfl), h.symm, by rw [h]; exact hc⟩
          · rintro (h | ⟨y, hy, h⟩)
            · exact .inl (.inl h)
            · rcases (mem_take_succ hk2).mp hy with z | rfl
              · exact .inl (.inr ⟨y, z, h⟩)
              · exact .inr h.1.symm
        · rw [decide_eq_false hc]
          refine iteF ⟨(by show 0 ≤ sizeLine; decide), fun l1 hl1 => ?_⟩
          have s6 := same_upd (o := .lst []) hl1
          refine ⟨fd2, l1, _, _, rfl, rfl, s6 _ _ hfd2, upd_same, (by rw [sizeLine_eq, List.length_map]; show _ + 0 ≤ _; omega), fun l2 hl2 => ?_⟩
          have s7 := same_upd (o := .lst (zs2.map V.int ++ [])) hl2
          refine ⟨l2, zs2, _, _, _, rfl, (s5.trans s6).trans s7, by rw [upd_same, List.append_nil], by omega, fun D => ?_⟩
          rw [hmem2 D]
          constructor
          · rintro (h | ⟨y, hy, h⟩)
            · exact .inl h
            · exact .inr ⟨y, (mem_take_succ hk2).mpr (.inl hy), h⟩
          · rintro (h | ⟨y, hy, h⟩)
            · exact .inl h
            · rcases (mem_take_succ hk2).mp hy with z | rfl
              · exact .inr ⟨y, z, h⟩
              · exact absurd (by rw [h.1]; exact h.2) hc
      · rintro σ H5 ⟨fd2, zs2, z5, z6, z7, rfl, s5, hfd2, hlen2, hmem2⟩
        refine ⟨fd2, zs2, _, _, _, _, rfl, (s3.trans s4).trans s5, hfd2, ?_, fun D => ?_⟩
        · rw [Nat.succ_mul]
          omega
        · rw [hmem2 D, hmem D, List.take_of_length_le (l := kx (pB ss j c) xs.length) (by omega)]
          constructor
          · rintro (⟨x, hx, h⟩ | h)
            · exact ⟨x, (mem_take_succ hk1).mpr (.inl hx), h⟩
            · exact ⟨k1, (mem_take_succ hk1).mpr (.inr rfl), h⟩
          · rintro ⟨x, hx, h⟩
            rcases (mem_take_succ hk1).mp hx with z | rfl
            · exact .inl ⟨x, z, h⟩
            · exact .inr h
    · rintro σ H3 ⟨fd, zs, y4, y5, y6, y7, rfl, s3, hfd, hlen, hmem⟩
      refine ⟨_, rfl, q H3 fd zs ((s0.trans s2).trans s3) hfd ?_ fun D => ?_⟩
      · have h1 : ys.length * xs.length ≤ xs.length * xs.length := Nat.mul_le_mul_right _ (by omega)
        have h2 : ((xs.length * xs.length : Nat) : Int) = c0 * c0 := by rw [Int.natCast_mul, show (xs.length : Int) = c0 by omega]
        omega
      · rw [hmem D, List.take_of_length_le (l := kx (pB ss j b) xs.length) (by omega)]
        constructor
        · rintro ⟨x, hx, y, hy, h⟩
          obtain ⟨x1, x2⟩ := kx_mem.mp hx
          obtain ⟨y1, y2⟩ := kx_mem.mp hy
          exact ⟨x, y, by omega, by omega, of_decide_eq_true x2, of_decide_eq_true y2, h⟩
        · rintro ⟨x, y, hx, hy, bx, byy, h⟩
          exact ⟨x, kx_mem.mpr ⟨by omega, decide_eq_true bx⟩, y, kx_mem.mpr ⟨by omega, decide_eq_true byy⟩, h⟩
end
end Rp
/-! min of a list of pairs of ints -/
namespace Rp
open PySem PySem.Spec PyProof.Rows L2 Rz Rm
section
variable {X : Cx}
def rMinP (K : PySem.W.Frag) : List V → Hp → VK → Prop := fun vs H Q => ∃ (a : Addr) (xs : List V) (ps : List (Int × Int)), vs = [V.ref a] ∧ SqL K H a xs ∧ Tups H xs (ps.map toP) ∧ 0 < ps.length ∧ (∀ u ∈ ps, 0 ≤ u.2 ∧ u.2 < 16) ∧
  ∀ (i : Nat) (v : V) (u : Int × Int), xs[i]? = some v → ps[i]? = some u → (∀ y ∈ ps, u.1 * 16 + u.2 ≤ y.1 * 16 + y.2) → Q v H
def nmP (ps : List (Int × Int)) (i : Nat) : Int := (ps.getD i (0, 0)).1 * 16 + (ps.getD i (0, 0)).2
theorem lex_nm {a b : Int × Int} (h1 : 0 ≤ a.2 ∧ a.2 < 16) (h2 : 0 ≤ b.2 ∧ b.2 < 16) : HT.lexLt [a.1, a.2] [b.1, b.2] = decide (a.1 * 16 + a.2 < b.1 * 16 + b.2) := by
  rw [HT.lexLt_cons]
  split
  · rename_i e
    rw [HT.lexLt_cons]
    split
    · rename_i e2
      rw [HT.lexLt_nil_nil, decide_eq_false (by omega)]
    · rename_i e2
      by_cases c : a.2 < b.2
      · rw [decide_eq_true c, decide_eq_true (by omega)]
      · rw [decide_eq_false c, decide_eq_false (by omega)]
  · rename_i e
    by_cases c : a.1 < b.1
    · rw [decide_eq_true c, decide_eq_true (by omega)]
    · rw [decide_eq_false c, decide_eq_false (by omega)]
theorem cr_minP (hc : X.calm = true) (hu : X.A.units + 1 < cLine) : CallR X (.builtin "min") (rMinP X.K) := by
  intro pins s σ H vs us Q I r h
  obtain ⟨a, xs, ps, rfl, hs, ht, hne, h16, q⟩ := h
  obtain ⟨its, rv, hl, _⟩ := I.list hs
  rw [Vals.ref1 r]
  have lt := ht.length
  rw [List.length_map] at lt
  have lv := rv.length
  -- the items, as tuples
  have item : ∀ (i : Nat) (v : Value), its.toArray[i]? = some v → ∃ (u : Int × Int) (t : Addr) (jt : List Value), ps[i]? = some u ∧ xs[i]? = some (.ref t) ∧ v = .ref t ∧ IsTup s.heap t jt.toArray ∧ IntsAre jt.toArray.toList [u.1, u.2] := fun i v hv => by
    have hv : its[i]? = some v := by rw [← hv]; simp
    have hi : i < its.length := (List.getElem?_eq_some_iff.mp hv).1
    obtain ⟨u, hu⟩ : ∃ u, ps[i]? = some u := ⟨_, List.getElem?_eq_getElem (by omega)⟩
    obtain ⟨t, e1, e2⟩ := ht.get (i := i) (l := toP u) (by rw [List.getElem?_map, hu]; rfl)
    obtain ⟨v', h1, h2⟩ := rv.get e1
    rw [hv] at h1
    cases h1
    cases h2
    obtain ⟨jt, r1, p1, _⟩ := I.tuple (SqT.of (K := X.K) e2)
    exact ⟨u, t, jt, hu, e1, rfl, p1, intsAre_of r1⟩
  refine call_min_walkH (PySem.W.iter_listW (A := X.A.in1) (I.ok.hd hc) hl.isList fun s₂ e W st hfp hw hk => ?_)
  refine ⟨_, _, _, _, _, _, _, s.heap, (fun i j => decide (nmP ps i < nmP ps j)), rfl, W, st, hfp, ?_, hw, hk, ?_, fun v s' hP m => ?_⟩
  · show 0 < its.toArray.size
    rw [List.size_toArray]
    omega
  · intro i j vi vj s' Q' E' hk' hi hj hq
    obtain ⟨u1, t1, j1, a1, _, rfl, p1, i1⟩ := item i vi hi
    obtain ⟨u2, t2, j2, a2, _, rfl, p2, i2⟩ := item j vj hj
    refine HT.lt_tupInts (p1.keeps hk') (p2.keeps hk') i1 i2 (by show X.A.units + 1 < cLine; exact hu) ?_
    rw [lex_nm (h16 u1 (List.mem_of_getElem? a1)) (h16 u2 (List.mem_of_getElem? a2))]
    unfold nmP at hq
    dsimp only at hq
    rw [show ps.getD i (0, 0) = u1 by rw [List.getD_eq_getElem?_getD, a1]; rfl, show ps.getD j (0, 0) = u2 by rw [List.getD_eq_getElem?_getD, a2]; rfl] at hq
    exact hq
  · obtain ⟨h', tk, rfl, hk'⟩ := PySem.W.moved_old e rfl m
    obtain ⟨u, t, _, a1, a2, rfl, _, _⟩ := item _ v hP
    obtain ⟨b1, b2⟩ := argBest_lt (nmP ps) (its.toArray.size - 1)
    refine ⟨.ref t, H, I.kept hk', rfl, q _ _ u a2 a1 fun y hy => ?_⟩
    obtain ⟨j, hj⟩ := List.getElem?_of_mem hy
    have hjl := (List.getElem?_eq_some_iff.mp hj).1
    have := b2 j (by rw [List.size_toArray]; omega)
    unfold nmP at this
    rw [show ps.getD j (0, 0) = y by rw [List.getD_eq_getElem?_getD, hj]; rfl] at this
    have e2 : ps.getD (argBest (fun i j => decide (nmP ps i < nmP ps j)) (its.toArray.size - 1)) (0, 0) = u := by rw [List.getD_eq_getElem?_getD, a1]; rfl
    unfold nmP at e2
    rw [e2] at this
    exact this
end
end Rp
namespace Rp
open PySem PySem.Spec PyProof.Rows L2 Rz Rm Rt Rl LamX
def stBody : Stmt → List Stmt
  | .For _ _ b _ _ => b
  | _ => []
abbrev bs (j : Nat) : Stmt := (defBody s_law).getD j (.Pass ⟨0, 0, 0, 0⟩)
abbrev fl (j : Nat) : Stmt := (stBody (bs 1)).getD j (.Pass ⟨0, 0, 0, 0⟩)
abbrev XL (P : Program) (w : World) (K : PySem.W.Frag) (mg : Str → Option Value) (base : Heap) (f : Addr) (cdv : Value) (A : Around) (outer : List Env) (s : Shared) (H0 : Hp) (E : XK) : Cx := (cxOf CX0 P w K mg base N_law "law" (defScope s_law) f cdv A outer s H0 E).nox
abbrev p0 : Pos := ⟨0, 0, 0, 0⟩
def asgV : Stmt → Expr
  | .Assign _ v _ => v
  | _ => .Name "" p0
def lstE : Expr → List Expr
  | .List es _ => es
  | _ => []
def binR : Expr → Expr
  | .BinOp _ _ r _ => r
  | e => e
def exA : Stmt → Expr
  | .Expr (.Call _ (a :: _) _ _) _ => a
  | _ => .Name "" p0
def le : Nat → Expr
  | 0 => (lstE (asgV (fl 5))).getD 0 (.Name "" p0)
  | _ => (lstE (asgV (fl 5))).getD 1 (.Name "" p0)
theorem le_ok : ∀ j, LamP N_law (defScope s_law) (lpS (le j))
  | 0 => lamP_by (by decide +kernel)
  | _ + 1 => (lamP_by (by decide +kernel) : LamP N_law (defScope s_law) (lpS ((lstE (asgV (fl 5))).getD 1 (.Name "" p0))))
theorem bd0 : Bd0 (le 0) := fun _ _ _ _ _ _ _ => .of_eq rfl
theorem bd1 : Bd1 (le 1) := ⟨"_law_a", by decide +kernel, fun _ _ _ _ _ _ _ _ _ _ _ ho hd => BindsTo.of_defaults rfl ho hd rfl rfl⟩
theorem Tabs_kp {K : PySem.W.Frag} {H H' : Hp} {row a : Addr} {ns : List Int} {Tb : List (Addr × Str)} (RA : RowAt K H row a ns) (k : Kp row H H') (t : Tabs Tb H) : Tabs Tb H' := fun p hp => by
  obtain ⟨_, _, _, hrow, _⟩ := RA.ob
  obtain ⟨ps, h1, h2, h3⟩ := t p hp
  refine ⟨ps, k _ _ h1 (fun e => by rw [e, hrow] at h1; cases h1), h2, fun pos cv hc => ?_⟩
  obtain ⟨c, e1, e2⟩ := h3 pos cv hc
  refine ⟨c, e1, k _ _ e2 (fun e => ?_)⟩
  rw [e, hrow] at e2
  unfold CodeO at e2
  cases e2
theorem kp_of {K : PySem.W.Frag} {H H' : Hp} {row a b : Addr} {ns : List Int} {o : HO} (RA : RowAt K H row a ns) (k : Kp row H H') (h : H b = some o) (n : ∀ i m q : Int, o ≠ .lst [.ref a, .int i, .int m, .int q]) : H' b = some o := by
  obtain ⟨i, m, q, hrow, _⟩ := RA.ob
  refine k _ _ h fun e => ?_
  rw [e, hrow] at h
  exact n i m q (Option.some.inj h).symm
theorem RowAt.extN {K : PySem.W.Frag} {H H' : Hp} {row a : Addr} {ns : List Int} (R : RowAt K H row a ns) (s : ExtN H H') : RowAt K H' row a ns := by
  obtain ⟨i, m, q, h, h0⟩ := R.ob
  refine ⟨⟨i, m, q, s _ _ h (by intro ps z; cases z), h0⟩, ?_, R.ne⟩
  rcases R.sc with (z | ⟨o, z⟩) | z
  · exact .inl (.inl (s _ _ z (by intro ps z; cases z)))
  · exact .inl (.inr ⟨o, s _ _ z (by intro ps z; cases z)⟩)
  · exact .inr z
theorem RingAt.kp8 {K : PySem.W.Frag} {C : Addr} {H H' : Hp} {row a p dx td ts : Addr} {ns ds ss : List Int} (RA : RowAt K H row a ns) (k : Kp row H H') (R : RingAt C H p dx td ts ds ss) : RingAt C H' p dx td ts ds ss :=
  ⟨kp_of RA k R.ob (fun _ _ _ z => by cases z), kp_of RA k R.td (fun _ _ _ z => by cases z), kp_of RA k R.ts (fun _ _ _ z => by cases z), R.ok⟩
theorem RingAt.extN {C : Addr} {H H' : Hp} {p dx td ts : Addr} {ds ss : List Int} (R : RingAt C H p dx td ts ds ss) (s : ExtN H H') : RingAt C H' p dx td ts ds ss :=
  ⟨s _ _ R.ob (by intro ps z; cases z), s _ _ R.td (by intro ps z; cases z), s _ _ R.ts (by intro ps z; cases z), R.ok⟩
structure B7 (K : PySem.W.Frag) (C : Addr) (Tb : List (Addr × Str)) (H : Hp) (row a : Addr) (ns : List Int) (p dx td ts : Addr) (ds ss : List Int) : Prop where
  RA : RowAt K H row a ns
  R : RingAt C H p dx td ts ds ss
  tb : Tabs Tb H
noncomputable def ct (ds ss : List Int) (j : Nat) : Int := Cn (at' ds) (at' ss) j (200 + at' ds j)
structure Pl (H : Hp) (rl : Addr) (ra : List Addr) (ds ss : List Int) : Prop where
  hl : H rl = some (.lst (ra.map V.ref))
  len : ra.length = ds.length
  rows : ∀ (j : Nat) (a : Addr), ra[j]? = some a → ∃ xs, H a = some (.lst xs) ∧ Tups H xs (seg (rowOf ds ss j) 0 (ct ds ss j))
theorem ct_le {ds ss : List Int} (G : Good ds ss) (j : Nat) : 0 ≤ ct ds ss j ∧ ct ds ss j ≤ 230 := by
  obtain ⟨M, hM, hMu⟩ := G.max
  have RR := G.ring hM hMu
  have h1 := (G.d1 _ (at_mem (by have := G.l2; omega) j)).2
  have h2 := RR.d1 j
  have h3 := cn_le RR (j := j) (D := 200 + at' ds j) (by omega)
  have h4 := (RR.cn j (200 + at' ds j)).1
  unfold ct
  omega
/-- the shared times of the first readers -/
structure Fo (H : Hp) (ds ss : List Int) (b c : Int) (n : Nat) (fd : Addr) (xs : List V) (ps : List (Int × Int)) : Prop where
  h : H fd = some (.lst xs)
  t : Tups H xs (ps.map toP)
  le : ps.length ≤ n * 52900
  mem : ∀ D r : Int, (D, r) ∈ ps ↔ 0 ≤ r ∧ r < n ∧ Fnd ds ss b c D r
/-- what is due: the first shared time, or none is shown -/
def Dv (H : Hp) (ds ss : List Int) (b c : Int) (v : V) : Prop := (v = .non ∧ ∀ D r : Int, 0 ≤ r → r < ds.length → ¬ Fnd ds ss b c D r) ∨
  ∃ (t : Addr) (D r : Int), v = .ref t ∧ H t = some (.tup [.int D, .int r]) ∧ 0 ≤ r ∧ r < ds.length ∧ Fnd ds ss b c D r ∧ ∀ D' r' : Int, 0 ≤ r' → r' < ds.length → Fnd ds ss b c D' r' → D * 16 + r ≤ D' * 16 + r'
theorem Dv.same {H H' : Hp} {ds ss : List Int} {b c : Int} {v : V} (h : Dv H ds ss b c v) (s : Same H H') : Dv H' ds ss b c v := by
  rcases h with h | ⟨t, D, r, e, h, h2⟩
  · exact .inl h
  · exact .inr ⟨t, D, r, e, s _ _ h, h2⟩
/-- the last number asked -/
def La (ds ss : List Int) (l : Int) : Prop := ∃ n p q M : Int, M ∈ ds ∧ (∀ y ∈ ds, y ≤ M) ∧ RepIs ds.sum ss.sum M p q ∧ SettledIs ds ss n p q ∧ l = n + 3 * ss.sum
/-- who is late -/
def Lt (H : Hp) (ds ss : List Int) (l : Int) (la : Addr) (rs : List Int) : Prop := H la = some (.lst (rs.map V.int)) ∧ (rs = [] → ∀ r : Int, 0 ≤ r → r < ds.length → Rm.E (at' ds) (at' ss) r l ≤ 190)
section
variable {K : PySem.W.Frag} {C : Addr} {Tb : List (Addr × Str)} {H H' : Hp} {row a : Addr} {ns : List Int} {p dx td ts : Addr} {ds ss : List Int}
theorem B7.same (b : B7 K C Tb H row a ns p dx td ts ds ss) (s : Same H H') : B7 K C Tb H' row a ns p dx td ts ds ss := ⟨b.RA.same s, b.R.same s, b.tb.ext s⟩
theorem B7.kp (b : B7 K C Tb H row a ns p dx td ts ds ss) (k : Kp row H H') (RA' : RowAt K H' row a ns) : B7 K C Tb H' row a ns p dx td ts ds ss := ⟨RA', b.R.kp8 b.RA k, Tabs_kp b.RA k b.tb⟩
theorem B7.extN (b : B7 K C Tb H row a ns p dx td ts ds ss) (s : ExtN H H') (t : Tabs Tb H') : B7 K C Tb H' row a ns p dx td ts ds ss := ⟨b.RA.extN s, b.R.extN s, t⟩
theorem Pl.same {rl : Addr} {ra : List Addr} (h : Pl H rl ra ds ss) (s : Same H H') : Pl H' rl ra ds ss := ⟨s _ _ h.hl, h.len, fun j a g => by
  obtain ⟨xs, e1, e2⟩ := h.rows j a g
  exact ⟨xs, s _ _ e1, e2.same s⟩⟩
theorem Pl.extN {rl : Addr} {ra : List Addr} (h : Pl H rl ra ds ss) (s : ExtN H H') : Pl H' rl ra ds ss := ⟨s _ _ h.hl (by intro ps z; cases z), h.len, fun j a g => by
  obtain ⟨xs, e1, e2⟩ := h.rows j a g
  exact ⟨xs, s _ _ e1 (by intro ps z; cases z), e2.mono fun b ys e => s _ _ e (by intro ps z; cases z)⟩⟩
theorem Pl.kp {rl : Addr} {ra : List Addr} (h : Pl H rl ra ds ss) (RA : RowAt K H row a ns) (k : Kp row H H') : Pl H' rl ra ds ss := by
  refine ⟨kp_of RA k h.hl fun i m q z => ?_, h.len, fun j c g => ?_⟩
  · injection z with z
    match ra, z with
    | [], z => cases z
    | [_], z => cases z
    | _ :: _ :: _, z => cases z
  · obtain ⟨xs, e1, e2⟩ := h.rows j c g
    refine ⟨xs, kp_of RA k e1 fun i m q z => ?_, e2.mono fun b ys e => kp_of RA k e fun _ _ _ z => (by cases z)⟩
    injection z with z
    subst z
    have hl := e2.length
    obtain ⟨l1, h1⟩ : ∃ l, (seg (rowOf ds ss j) 0 (ct ds ss j))[1]? = some l := ⟨_, List.getElem?_eq_getElem (by rw [← hl]; show 1 < 4; decide)⟩
    obtain ⟨t, e, _⟩ := e2.get h1
    cases e
end
theorem tups_app {H : Hp} : ∀ {xs ys : List V} {ls ms : List (List Int)}, Tups H xs ls → Tups H ys ms → Tups H (xs ++ ys) (ls ++ ms)
  | _, _, _, _, .nil, h => h
  | _, _, _, _, .cons r t, h => .cons r (tups_app t h)
theorem lst_uni {ds ss : List Int} (G : Good ds ss) {L L' : Int} (h : Lst ds ss L) (h' : Lst ds ss L') : L = L' := by
  obtain ⟨n, p, q, M, mE, hM, hMu, hr, hs, ⟨r1, a1, a2, a3⟩, au, rfl⟩ := h
  obtain ⟨n', p', q', M', mE', hM', hMu', hr', hs', ⟨r2, b1, b2, b3⟩, bu, rfl⟩ := h'
  obtain ⟨rfl, rfl⟩ := rep_uni G hM hMu hM' hMu' hr hr'
  have e := settled_one hs hs'
  subst e
  have h1 := au r2 b1 b2
  have h2 := bu r1 a1 a2
  rw [show mE = mE' by omega]
/-- kept lambdas in a list -/
structure Wk (q : Str) (cells : List (Str × Addr)) (H : Hp) (wl : Addr) (fs : List Addr) (n : Nat) : Prop where
  hl : H wl = some (.lst (fs.map V.ref))
  len : fs.length = n
  all : ∀ (j : Nat) (f : Addr), fs[j]? = some f → KLat q cells H (le j) f
def dD : PyData := .list [.tuple [.str "error", .str "UnknownBook"], .tuple [.str "error", .str "UnknownBook"]]
theorem dD_shaped : SeqAt.shaped dD = true := by decide +kernel
theorem dD_eqv : (!PyData.eqv dD dD) = false := by decide +kernel
def dSb : PyData := .tuple [.str "error", .str "SameBook"]
theorem dSb_shaped : SeqAt.shaped dSb = true := by decide +kernel
theorem dSb_eqv : (!PyData.eqv dSb dSb) = false := by decide +kernel
theorem dp_err {K : PySem.W.Frag} {H : Hp} {t : Addr} {x : Str} (h : H t = some (.tup [.str "error", .str x])) : Dp K H (.ref t) (.tuple [.str "error", .str x]) := .tup (.of h) (.cons (.str _) (.cons (.str _) .nil))
theorem get_refA {es : List Addr} {i : Nat} {x : V} (h : (es.map V.ref)[i]? = some x) : ∃ e, es[i]? = some e ∧ x = .ref e := by
  rw [List.getElem?_map] at h
  cases g : es[i]? with
  | none => rw [g] at h; cases h
  | some e => rw [g] at h; exact ⟨e, rfl, (Option.some.inj h).symm⟩
theorem take_mapS {zs : List Int} {i : Nat} {z : Int} (f : Int → List Int) (h : zs[i]? = some z) : (zs.take (i + 1)).map f = (zs.take i).map f ++ [f z] := by
  rw [List.take_add_one, h, List.map_append]
  rfl
section
variable {P : Program} {w : World} {K : PySem.W.Frag} {mg : Str → Option Value} {base : Heap}
variable {f : Addr} {cT PT : Addr} {A : Around} {outer : List Env} {s : Shared} {H0 : Hp} {E : XK}
theorem lt0 {S : TdS K mg} (T : Tx K mg) (E3 : TdE S "UnknownBook" S.c3 3) (E5 : TdE S "SameBook" S.c5 5) : ∃ tb : XK → TE, (∀ (A' : Around) (outer' : List Env) (s' : Shared) (H' : Hp) (E' : XK) (f' c' : Addr), Room 6 (A'.deeper (lamEnv (XL P w K mg base f (.ref cT) A outer s H0 E) (lpS (le 0)) s'.heap.objs.size f' c')) → PE (lamCx (XL P w K mg base f (.ref cT) A outer s H0 E) A' outer' s' H' E' (lpS (le 0)) f' c') (lpB (le 0)) (tb E')) ∧
    ∀ (τ : L2.St) (H : Hp) (p dx td ts : Addr) (ds ss : List Int) (v : V) (one : Int), τ[5]? = some (some (.ref p)) → τ[8]? = some (some (.int one)) → τ[10]? = some (some v) → RingAt T.C H p dx td ts ds ss → 0 ≤ one → one < ss.sum → LieV K H v 0 (ss.sum - 1) false → ∀ (E' : XK) (Q : VK), E' (.ref S.c3) none H → tb E' τ H Q := by
  refine ⟨_, fun A' outer' s' H' E' f' c' hr => pe_callS (ok_meetX T E3 E5) (hr.mono (by decide)) (by rfl) T.g_first_meeting T.F_first_meeting.kp T.b_first_meeting (fun σ => passAt (takes_of rfl rfl rfl rfl) σ) (pa_cons (pv 5) (pa_cons (pv 10) (pa_cons (pv 10) pa_nil))), ?_⟩
  intro τ H p dx td ts ds ss v one h5 h8 h10 R o0 o1 hv E' Q hE
  exact ⟨_, h5, _, h10, _, h10, p, dx, td, ts, ds, ss, v, v, rfl, R, .inl ⟨hv, hE⟩⟩
theorem lt1 {S : TdS K mg} (T : Tx K mg) (E3 : TdE S "UnknownBook" S.c3 3) (E5 : TdE S "SameBook" S.c5 5) : ∃ tb : XK → TE, (∀ (A' : Around) (outer' : List Env) (s' : Shared) (H' : Hp) (E' : XK) (f' c' : Addr), Room 6 (A'.deeper (lamEnv (XL P w K mg base f (.ref cT) A outer s H0 E) (lpS (le 1)) s'.heap.objs.size f' c')) → PE (lamCx (XL P w K mg base f (.ref cT) A outer s H0 E) A' outer' s' H' E' (lpS (le 1)) f' c') (lpB (le 1)) (tb E')) ∧
    ∀ (τ : L2.St) (H : Hp) (p dx td ts : Addr) (ds ss : List Int) (v : V) (one : Int), τ[5]? = some (some (.ref p)) → τ[8]? = some (some (.int one)) → τ[10]? = some (some v) → RingAt T.C H p dx td ts ds ss → 0 ≤ one → one < ss.sum → LieV K H v 0 (ss.sum - 1) false → ∀ (E' : XK) (Q : VK), E' (.ref S.c3) none H → tb E' τ H Q := by
  refine ⟨_, fun A' outer' s' H' E' f' c' hr => pe_callS (ok_meetX T E3 E5) (hr.mono (by decide)) (by rfl) T.g_first_meeting T.F_first_meeting.kp T.b_first_meeting (fun σ => passAt (takes_of rfl rfl rfl rfl) σ) (pa_cons (pv 5) (pa_cons (pv 8) (pa_cons (pv 10) pa_nil))), ?_⟩
  intro τ H p dx td ts ds ss v one h5 h8 h10 R o0 o1 hv E' Q hE
  exact ⟨_, h5, _, h8, _, h10, p, dx, td, ts, ds, ss, _, v, rfl, R, .inr (.inl ⟨⟨one, rfl, o0, o1⟩, hv, hE⟩)⟩
theorem all_lt {S : TdS K mg} (T : Tx K mg) (E3 : TdE S "UnknownBook" S.c3 3) (E5 : TdE S "SameBook" S.c5 5) : ∃ ts : Nat → XK → TE, (∀ (j : Nat) (A' : Around) (outer' : List Env) (s' : Shared) (H' : Hp) (E' : XK) (f' c' : Addr), Room 6 (A'.deeper (lamEnv (XL P w K mg base f (.ref cT) A outer s H0 E) (lpS (le j)) s'.heap.objs.size f' c')) → PE (lamCx (XL P w K mg base f (.ref cT) A outer s H0 E) A' outer' s' H' E' (lpS (le j)) f' c') (lpB (le j)) (ts j E')) ∧
    ∀ (τ : L2.St) (H : Hp) (p dx td ts' : Addr) (ds ss : List Int) (v : V) (one : Int), τ[5]? = some (some (.ref p)) → τ[8]? = some (some (.int one)) → τ[10]? = some (some v) → RingAt T.C H p dx td ts' ds ss → 0 ≤ one → one < ss.sum → (∀ H', LieV K H' v 0 (ss.sum - 1) false) → Errs ts 2 (fun _ => S.c3) τ H := by
  obtain ⟨t0, a0, r0⟩ := lt0 (P := P) (w := w) (base := base) (f := f) (cT := cT) (A := A) (outer := outer) (s := s) (H0 := H0) (E := E) T E3 E5
  obtain ⟨t1, a1, r1⟩ := lt1 (P := P) (w := w) (base := base) (f := f) (cT := cT) (A := A) (outer := outer) (s := s) (H0 := H0) (E := E) T E3 E5
  refine ⟨fun j => match j with | 0 => t0 | _ => t1, fun j => match j with | 0 => a0 | _ + 1 => a1, ?_⟩
  intro τ H p dx td ts' ds ss v one h5 h8 h10 R o0 o1 hv j hj H' s' E' Q hE
  match j, hj, hE with
  | 0, _, hE => exact r0 τ H' p dx td ts' ds ss v one h5 h8 h10 (R.same s') o0 o1 (hv H') E' Q hE
  | 1, _, hE => exact r1 τ H' p dx td ts' ds ss v one h5 h8 h10 (R.same s') o0 o1 (hv H') E' Q hE
  | _ + 2, hj, _ => omega
variable {Tb : List (Addr × Str)}
theorem lx_f0 (T : Tx K mg) (hr : Room 11 (XL P w K mg base f (.ref cT) A outer s H0 E).A) : ∃ tt : TS, PS (XL P w K mg base f (.ref cT) A outer s H0 E) (fl 0) tt ∧
    ∀ (D : Ends) (H : Hp) (a row : Addr) (ns : List Int) (y2 y3 y4 y5 y6 y7 y8 y9 y10 y11 y12 y13 y14 y15 y16 y17 y18 : Option V), RowAt K H row a ns → Tabs Tb H → (∀ H' td ts ds ss, Good ds ss → RowAt K H' row a ns → Tabs Tb H' → H' td = some (.tup (ds.map V.int)) → H' ts = some (.tup (ss.map V.int)) → D.nx [some (.ref a), some (.ref row), y2, some (.ref td), some (.ref ts), y5, y6, y7, y8, y9, y10, y11, y12, y13, y14, y15, y16, y17, y18] H') → tt D [some (.ref a), some (.ref row), y2, y3, y4, y5, y6, y7, y8, y9, y10, y11, y12, y13, y14, y15, y16, y17, y18] H := by
  have nd := sc_law.nd
  refine ⟨_, ps_asg (pe_call (ok_ring T) (hr.mono (by decide : 2 ≤ 11)) (by rfl) T.g_lring T.F_lring.kp T.b_lring .nil pass0 (pa_cons (pv 1) (pa_cons pe_int (pa_cons (pe_ix ix_list (pe_lst (pa_cons pe_int (pa_cons pe_int pa_nil))) (pe_call (ok_next T) (hr.mono (by decide : 1 ≤ 11)) (by rfl) T.g_lnext T.F_lnext.kp T.b_lnext .nil pass0 (pa_cons (pv 1) (pa_cons pe_int pa_nil))) (fun _ _ => rfl)) pa_nil)))) (pg_tup rfl (pgs_cons (pg_name (i := 3) nd rfl (.inl rfl)) (pgs_cons (pg_name (i := 4) nd rfl (.inl rfl)) pgs_nil))), ?_⟩
  intro D H a row ns y2 y3 y4 y5 y6 y7 y8 y9 y10 y11 y12 y13 y14 y15 y16 y17 y18 RA tb nx
  refine ⟨_, rfl, (by show 2 ≤ sizeLine; decide), fun l hl => ?_⟩
  have s1 := same_upd (o := .lst [.int 2, .int 5]) hl
  have RA1 := RA.same s1
  have nl := RA.nn hl
  refine ⟨_, rfl, row, a, ns, _, rfl, RA1, by decide, by decide, fun v2 H2 v20 v21 RA2 k2 => ?_⟩
  have hl2 : H2 l = some (.lst [.int 2, .int 5]) := k2 _ _ upd_same nl
  obtain ⟨far, hfar, f1, f2⟩ : ∃ far : Int, atI [V.int 2, V.int 5] v2 = some (.int far) ∧ 1 ≤ far ∧ far ≤ 8 := by
    have : v2 = 0 ∨ v2 = 1 := by omega
    rcases this with rfl | rfl
    · exact ⟨2, rfl, by omega, by omega⟩
    · exact ⟨5, rfl, by omega, by omega⟩
  refine ⟨l, _, v2, _, rfl, rfl, .of hl2, hfar, row, a, ns, 4, far, rfl, RA2, by decide, by decide, f1, by omega, fun H3 t td ts ds ss G hl5 hd8 RA3 k3 ht htd hts => ?_⟩
  refine ⟨t, _, rfl, .of ht, rfl, _, _, rfl, _, _, rfl, rfl, ?_⟩
  exact nx H3 td ts ds ss G RA3 (Tabs_kp RA2 k3 (Tabs_kp RA1 k2 (tb.ext s1))) htd hts
theorem lx_f1 (T : Tx K mg) (hr : Room 11 (XL P w K mg base f (.ref cT) A outer s H0 E).A) : ∃ tt : TS, PS (XL P w K mg base f (.ref cT) A outer s H0 E) (fl 1) tt ∧
    ∀ (D : Ends) (H : Hp) (a row : Addr) (ns : List Int) (td ts : Addr) (ds ss : List Int) (y2 y5 y6 y7 y8 y9 y10 y11 y12 y13 y14 y15 y16 y17 y18 : Option V), Good ds ss → RowAt K H row a ns → Tabs Tb H → H td = some (.tup (ds.map V.int)) → H ts = some (.tup (ss.map V.int)) → (∀ H' p dx, B7 K T.C Tb H' row a ns p dx td ts ds ss → D.nx [some (.ref a), some (.ref row), y2, some (.ref td), some (.ref ts), some (.ref p), some (.int ss.sum), y7, y8, y9, y10, y11, y12, y13, y14, y15, y16, y17, y18] H') → tt D [some (.ref a), some (.ref row), y2, some (.ref td), some (.ref ts), y5, y6, y7, y8, y9, y10, y11, y12, y13, y14, y15, y16, y17, y18] H := by
  have nd := sc_law.nd
  refine ⟨_, ps_asg (pe_tup (pa_cons (pe_make T.mkR (ok_init T) (hr.mono (by decide : 5 ≤ 11)) (by rfl) T.gC T.b_rinit .nil pass0 (pa_cons (pv 3) (pa_cons (pv 4) pa_nil))) (pa_cons (pe_callB (cr_sumT rfl) (by rfl) T.z_sum (by decide +kernel) (pa_cons (pv 4) pa_nil)) pa_nil))) (pg_tup rfl (pgs_cons (pg_name (i := 5) nd rfl (.inr rfl)) (pgs_cons (pg_name (i := 6) nd rfl (.inl rfl)) pgs_nil))), ?_⟩
  intro D H a row ns td ts ds ss y2 y5 y6 y7 y8 y9 y10 y11 y12 y13 y14 y15 y16 y17 y18 G RA tb htd hts nx
  have l2 := G.l2
  have l8 := G.l8
  refine ⟨_, rfl, _, rfl, fun p dx np ndx ne => ?_⟩
  have s0 : Same H (upd (upd H dx (.own p)) p (.ins T.C dx [])) := fun b o e => by
    rw [upd_ne (ne_of_none e np), upd_ne (ne_of_none e ndx)]
    exact e
  refine ⟨p, dx, td, ts, ds, ss, rfl, upd_same, s0 _ _ htd, s0 _ _ hts, G, fun H3 R3 k3 => ⟨rfl, ?_⟩⟩
  have s3 : Same H H3 := Same.made np ndx k3
  have B3 : B7 K T.C Tb H3 row a ns p dx td ts ds ss := ⟨RA.same s3, R3, tb.ext s3⟩
  refine ⟨_, rfl, ts, ss, rfl, .of R3.ts, (by show 2 ≤ sizeLine; decide), fun t ht => ?_⟩
  have s4 := same_upd (o := .tup [.ref p, .int ss.sum]) ht
  refine ⟨t, _, rfl, .of upd_same, rfl, _, _, rfl, _, _, rfl, rfl, ?_⟩
  exact nx _ p dx (B3.same s4)
theorem lx_f2 (T : Tx K mg) (hr : Room 11 (XL P w K mg base f (.ref cT) A outer s H0 E).A) : ∃ tt : TS, PS (XL P w K mg base f (.ref cT) A outer s H0 E) (fl 2) tt ∧
    ∀ (D : Ends) (H : Hp) (a row : Addr) (ns : List Int) (p dx td ts : Addr) (ds ss : List Int) (y2 y7 y8 y9 y10 y11 y12 y13 y14 y15 y16 y17 y18 : Option V), B7 K T.C Tb H row a ns p dx td ts ds ss → (∀ H' rl ra, B7 K T.C Tb H' row a ns p dx td ts ds ss → Pl H' rl ra ds ss → D.nx [some (.ref a), some (.ref row), y2, some (.ref td), some (.ref ts), some (.ref p), some (.int ss.sum), some (.ref rl), y8, y9, y10, y11, y12, y13, y14, y15, y16, y17, y18] H') → tt D [some (.ref a), some (.ref row), y2, some (.ref td), some (.ref ts), some (.ref p), some (.int ss.sum), y7, y8, y9, y10, y11, y12, y13, y14, y15, y16, y17, y18] H := by
  have nd := sc_law.nd
  refine ⟨_, ps_set (i := 7) nd rfl (.inl rfl) (pe_ix ix_tup (pe_call (ok_play T) (hr.mono (by decide : 3 ≤ 11)) (by rfl) T.g_ldays T.F_ldays.kp T.b_ldays .nil pass0 (pa_cons (pv 3) (pa_cons (pv 4) (pa_cons pe_int pa_nil)))) pe_int (fun _ _ => rfl)), ?_⟩
  intro D H a row ns p dx td ts ds ss y2 y7 y8 y9 y10 y11 y12 y13 y14 y15 y16 y17 y18 B nx
  refine ⟨_, rfl, _, rfl, td, ts, ds, ss, 200, rfl, B.R.td, B.R.ts, B.R.ok, by decide, by decide, fun H1 t rl sl ra s1 ht hrl lra hra => ⟨t, _, 0, _, rfl, rfl, .of ht, atI_nat (j := 0) rfl, ?_⟩⟩
  exact nx H1 rl ra (B.same s1) ⟨hrl, lra, hra⟩
theorem lx_f3 (T : Tx K mg) (hr : Room 11 (XL P w K mg base f (.ref cT) A outer s H0 E).A) : ∃ tt : TS, PS (XL P w K mg base f (.ref cT) A outer s H0 E) (fl 3) tt ∧
    ∀ (D : Ends) (H : Hp) (a row : Addr) (ns : List Int) (p dx td ts : Addr) (ds ss : List Int) (rl : Addr) (ra : List Addr) (y2 y8 y9 y10 y11 y12 y13 y14 y15 y16 y17 y18 : Option V), B7 K T.C Tb H row a ns p dx td ts ds ss → Pl H rl ra ds ss → (∀ H' (one two : Int), B7 K T.C Tb H' row a ns p dx td ts ds ss → Pl H' rl ra ds ss → 0 ≤ one → one < ss.sum → 0 ≤ two → two < ss.sum → D.nx [some (.ref a), some (.ref row), y2, some (.ref td), some (.ref ts), some (.ref p), some (.int ss.sum), some (.ref rl), some (.int one), some (.int two), y10, y11, y12, y13, y14, y15, y16, y17, y18] H') → tt D [some (.ref a), some (.ref row), y2, some (.ref td), some (.ref ts), some (.ref p), some (.int ss.sum), some (.ref rl), y8, y9, y10, y11, y12, y13, y14, y15, y16, y17, y18] H := by
  have nd := sc_law.nd
  refine ⟨_, ps_asg (pe_tup (pa_cons (pe_call (ok_next T) (hr.mono (by decide : 1 ≤ 11)) (by rfl) T.g_lnext T.F_lnext.kp T.b_lnext .nil pass0 (pa_cons (pv 1) (pa_cons (pv 6) pa_nil))) (pa_cons (pe_call (ok_next T) (hr.mono (by decide : 1 ≤ 11)) (by rfl) T.g_lnext T.F_lnext.kp T.b_lnext .nil pass0 (pa_cons (pv 1) (pa_cons (pv 6) pa_nil))) pa_nil))) (pg_tup rfl (pgs_cons (pg_name (i := 8) nd rfl (.inr rfl)) (pgs_cons (pg_name (i := 9) nd rfl (.inr rfl)) pgs_nil))), ?_⟩
  intro D H a row ns p dx td ts ds ss rl ra y2 y8 y9 y10 y11 y12 y13 y14 y15 y16 y17 y18 B Pp nx
  have b1 := B.R.ok.b1
  have b12 := B.R.ok.b12
  refine ⟨_, rfl, _, rfl, row, a, ns, _, rfl, B.RA, by omega, by omega, fun one H1 o0 o1 RA1 k1 => ?_⟩
  have B1 := B.kp k1 RA1
  refine ⟨_, rfl, _, rfl, row, a, ns, _, rfl, B1.RA, by omega, by omega, fun two H2 t0 t1 RA2 k2 => ⟨(by show 2 ≤ sizeLine; decide), fun t ht => ?_⟩⟩
  have B2 := B1.kp k2 RA2
  have s3 := same_upd (o := .tup [.int one, .int two]) ht
  refine ⟨t, _, rfl, .of upd_same, rfl, _, _, rfl, _, _, rfl, rfl, ?_⟩
  exact nx _ one two (B2.same s3) (((Pp.kp B.RA k1).kp B1.RA k2).same s3) o0 o1 t0 t1
theorem lx_f4 (T : Tx K mg) (hr : Room 11 (XL P w K mg base f (.ref cT) A outer s H0 E).A) : ∃ tt : TS, PS (XL P w K mg base f (.ref cT) A outer s H0 E) (fl 4) tt ∧
    ∀ (D : Ends) (H : Hp) (a row : Addr) (ns : List Int) (p dx td ts : Addr) (ds ss : List Int) (rl : Addr) (ra : List Addr) (one two : Int) (y2 y10 y11 y12 y13 y14 y15 y16 y17 y18 : Option V), B7 K T.C Tb H row a ns p dx td ts ds ss → Pl H rl ra ds ss → (∀ H' v, B7 K T.C Tb H' row a ns p dx td ts ds ss → Pl H' rl ra ds ss → (v = .int (-1) ∨ v = .int ss.sum ∨ v = .non ∨ v = .bl true) → D.nx [some (.ref a), some (.ref row), y2, some (.ref td), some (.ref ts), some (.ref p), some (.int ss.sum), some (.ref rl), some (.int one), some (.int two), some v, y11, y12, y13, y14, y15, y16, y17, y18] H') → tt D [some (.ref a), some (.ref row), y2, some (.ref td), some (.ref ts), some (.ref p), some (.int ss.sum), some (.ref rl), some (.int one), some (.int two), y10, y11, y12, y13, y14, y15, y16, y17, y18] H := by
  have nd := sc_law.nd
  refine ⟨_, ps_set (i := 10) nd rfl (.inr rfl) (pe_call (ok_pickV T) (hr.mono (by decide : 2 ≤ 11)) (by rfl) T.g_lpick T.F_lpick.kp T.b_lpick .nil pass0 (pa_cons (pv 1) (pa_cons (pe_lst (pa_cons (pe_un un_neg pe_int) (pa_cons (pv 6) (pa_cons pe_non (pa_cons pe_bl pa_nil))))) pa_nil))), ?_⟩
  intro D H a row ns p dx td ts ds ss rl ra one two y2 y10 y11 y12 y13 y14 y15 y16 y17 y18 B Pp nx
  refine ⟨_, rfl, _, rfl, _, rfl, (by show 4 ≤ sizeLine; decide), fun l hl => ?_⟩
  have s1 := same_upd (o := .lst [.int (-1), .int ss.sum, .non, .bl true]) hl
  have B1 := B.same s1
  refine ⟨row, a, l, ns, _, rfl, B1.RA, upd_same, B.RA.nn hl, by show 1 ≤ 4; decide, by show 4 ≤ 1000; decide, fun v H2 hv RA2 k2 => ?_⟩
  have hv : v = .int (-1) ∨ v = .int ss.sum ∨ v = .non ∨ v = .bl true := by simpa using hv
  exact nx H2 v (B1.kp k2 RA2) ((Pp.same s1).kp B1.RA k2) hv
theorem lx_f5 (T : Tx K mg) (TB : TabB base mg cT PT) (hr : Room 11 (XL P w K mg base f (.ref cT) A outer s H0 E).A) : ∃ tt : TS, PS (XL P w K mg base f (.ref cT) A outer s H0 E) (fl 5) tt ∧
    ∀ (D : Ends) (H : Hp) (a row : Addr) (ns : List Int) (p dx td ts : Addr) (ds ss : List Int) (rl : Addr) (ra : List Addr) (one two : Int) (v : V) (y2 y11 y12 y13 y14 y15 y16 y17 y18 : Option V), B7 K T.C [(PT, (XL P w K mg base f (.ref cT) A outer s H0 E).env.qual ++ "<lambda>")] H row a ns p dx td ts ds ss → Pl H rl ra ds ss → (∀ H' wl fs, B7 K T.C [(PT, (XL P w K mg base f (.ref cT) A outer s H0 E).env.qual ++ "<lambda>")] H' row a ns p dx td ts ds ss → Pl H' rl ra ds ss → Wk ((XL P w K mg base f (.ref cT) A outer s H0 E).env.qual ++ "<lambda>") (XL P w K mg base f (.ref cT) A outer s H0 E).env.cells H' wl fs 2 → D.nx [some (.ref a), some (.ref row), y2, some (.ref td), some (.ref ts), some (.ref p), some (.int ss.sum), some (.ref rl), some (.int one), some (.int two), some v, some (.ref wl), y12, y13, y14, y15, y16, y17, y18] H') → tt D [some (.ref a), some (.ref row), y2, some (.ref td), some (.ref ts), some (.ref p), some (.int ss.sum), some (.ref rl), some (.int one), some (.int two), some v, y11, y12, y13, y14, y15, y16, y17, y18] H := by
  have nd := sc_law.nd
  refine ⟨_, ps_set (i := 11) nd rfl (.inl rfl) (pe_lst (pa_cons (pe_lam0 TB rfl (List.mem_singleton.mpr rfl) (fun q hq _ => by rw [List.mem_singleton.mp hq]) (fun y hy z => (lamP_by (N := N_law) (sc := defScope s_law) (by decide +kernel)).free y hy z) rfl) (pa_cons (pe_lam1 TB rfl (List.mem_singleton.mpr rfl) (fun q hq _ => by rw [List.mem_singleton.mp hq]) (fun y hy z => (lamP_by (N := N_law) (sc := defScope s_law) (by decide +kernel)).free y hy z) rfl rfl) pa_nil))), ?_⟩
  intro D H a row ns p dx td ts ds ss rl ra one two v y2 y11 y12 y13 y14 y15 y16 y17 y18 B Pp nx
  refine ⟨B.tb, fun f0 c0 H1 x1 tb1 _ k1 k1c => ⟨tb1, fun f1 c1 t1 H2 x2 tb2 _ kt2 k2 k2c => ⟨(by show 2 ≤ sizeLine; decide), fun wl hwl => ?_⟩⟩⟩
  have s4 := same_upd (o := .lst [.ref f0, .ref f1]) hwl
  have a0 : KLat ((XL P w K mg base f (.ref cT) A outer s H0 E).env.qual ++ "<lambda>") (XL P w K mg base f (.ref cT) A outer s H0 E).env.cells H1 (le 0) f0 := ⟨none, c0, k1, k1c, bd0⟩
  have a1 : KLat ((XL P w K mg base f (.ref cT) A outer s H0 E).env.qual ++ "<lambda>") (XL P w K mg base f (.ref cT) A outer s H0 E).env.cells H2 (le 1) f1 := ⟨some t1, c1, k2, k2c, bd1, kt2⟩
  have B3 := B.extN (x1.trans x2) tb2
  refine nx _ wl [f0, f1] (B3.same s4) ((Pp.extN (x1.trans x2)).same s4) ⟨upd_same, rfl, fun j f h => ?_⟩
  match j, h with
  | 0, h => cases h; exact a0.extN (x2.trans (ExtN.of s4))
  | 1, h => cases h; exact a1.extN (ExtN.of s4)
  | _ + 2, h => simp at h
theorem lx_f6 (T : Tx K mg) {S : TdS K mg} (E3 : TdE S "UnknownBook" S.c3 3) (E5 : TdE S "SameBook" S.c5 5) (hr : Room 11 (XL P w K mg base f (.ref cT) A outer s H0 E).A) : ∃ tt : TS, PS (XL P w K mg base f (.ref cT) A outer s H0 E) (fl 6) tt ∧
    ∀ (D : Ends) (H : Hp) (a row : Addr) (ns : List Int) (p dx td ts : Addr) (ds ss : List Int) (rl : Addr) (ra : List Addr) (one two : Int) (v : V) (wl : Addr) (fs : List Addr) (y2 y12 y13 y14 y15 y16 y17 y18 : Option V), B7 K T.C [(PT, (XL P w K mg base f (.ref cT) A outer s H0 E).env.qual ++ "<lambda>")] H row a ns p dx td ts ds ss → Wk ((XL P w K mg base f (.ref cT) A outer s H0 E).env.qual ++ "<lambda>") (XL P w K mg base f (.ref cT) A outer s H0 E).env.cells H wl fs 2 → 0 ≤ one → one < ss.sum → (v = .int (-1) ∨ v = .int ss.sum ∨ v = .non ∨ v = .bl true) → (∀ H', Same H H' → D.nx [some (.ref a), some (.ref row), y2, some (.ref td), some (.ref ts), some (.ref p), some (.int ss.sum), some (.ref rl), some (.int one), some (.int two), some v, some (.ref wl), y12, y13, y14, y15, y16, y17, y18] H') → tt D [some (.ref a), some (.ref row), y2, some (.ref td), some (.ref ts), some (.ref p), some (.int ss.sum), some (.ref rl), some (.int one), some (.int two), some v, some (.ref wl), y12, y13, y14, y15, y16, y17, y18] H := by
  have nd := sc_law.nd
  obtain ⟨tsF, hb, hq⟩ := all_lt (P := P) (w := w) (base := base) (f := f) (cT := cT) (A := A) (outer := outer) (s := s) (H0 := H0) (E := E) T E3 E5
  refine ⟨_, ps_if (pt_cmpR (op_neD hr.units) (pe_tolds (X := XL P w K mg base f (.ref cT) A outer s H0 E) (k := 6) (iw := 11) (ic := 18) (le := le) (ts := tsF) T S rfl nd (fun _ _ _ _ _ => rfl) le_ok (hr.mono (by decide : 8 ≤ 11)) hb (pv 11) (blkOk_by (own := [("_law_call", 18)]) (N := N_law) (sc := defScope s_law) (by decide +kernel)) (fun _ _ _ _ _ => pg_name (i := 18) nd rfl (.inl rfl)) (fun _ _ _ _ _ => pa_cons (pv 18) pa_nil) (fun _ _ => rfl) (fun _ _ => rfl) (by show 18 < 19; decide) (by intro _; rfl)) (pe_op op_rep (pe_lst (pa_cons (pe_tup (pa_cons pe_str (pa_cons pe_str pa_nil))) pa_nil)) pe_int) (nomark _)) (pss_one (ps_ret pe_bl)) pss_nil, ?_⟩
  intro D H a row ns p dx td ts ds ss rl ra one two v wl fs y2 y12 y13 y14 y15 y16 y17 y18 B W o0 o1 hv nx
  have b1 := B.R.ok.b1
  refine ⟨wl, fs, fun _ => S.c3, fun _ => 3, rfl, rfl, W.hl, by rw [W.len]; decide, fun j g hg => W.all j g hg, fun j hj => E3.r, ?_, fun H1 D1 ps s1 hD hps hall => ?_⟩
  · rw [W.len]
    refine hq _ H p dx td ts ds ss v one rfl rfl rfl B.R o0 o1 (fun H' => lie_no ?_)
    rcases hv with rfl | rfl | rfl | rfl
    · exact .inl ⟨_, rfl, .inl (by decide)⟩
    · exact .inl ⟨_, rfl, .inr (by omega)⟩
    · exact .inr (.inl rfl)
    · exact .inr (.inr rfl)
  · rw [W.len] at hps
    match ps, hps with
    | [q0, q1], _ =>
      refine ⟨(by show 2 ≤ sizeLine; decide), fun t1 ht1 => ⟨(by show 1 ≤ sizeLine; decide), fun l1 hl1 => ⟨l1, 2, _, rfl, rfl, upd_same, by decide, by decide, by show 1 * 2 ≤ sizeLine; decide, fun m1 hm1 => ?_⟩⟩⟩
      have s3 := ((same_upd (o := .tup [.str "error", .str "UnknownBook"]) ht1).trans (same_upd (o := .lst [.ref t1]) hl1)).trans (same_upd (o := .lst (List.replicate (2 : Int).toNat [V.ref t1]).flatten) hm1)
      have g1 : (upd (upd (upd H1 t1 (.tup [.str "error", .str "UnknownBook"])) l1 (.lst [.ref t1])) m1 (.lst (List.replicate (2 : Int).toNat [V.ref t1]).flatten)) t1 = some (.tup [.str "error", .str "UnknownBook"]) := (same_upd hm1) _ _ ((same_upd hl1) _ _ upd_same)
      have g2 : (upd (upd (upd H1 t1 (.tup [.str "error", .str "UnknownBook"])) l1 (.lst [.ref t1])) m1 (.lst (List.replicate (2 : Int).toNat [V.ref t1]).flatten)) m1 = some (.lst [.ref t1, .ref t1]) := upd_same
      generalize (upd (upd (upd H1 t1 (.tup [.str "error", .str "UnknownBook"])) l1 (.lst [.ref t1])) m1 (.lst (List.replicate (2 : Int).toNat [V.ref t1]).flatten)) = H2 at s3 g1 g2 ⊢
      refine ⟨dD, dD, .lst (.of (s3 _ _ hD)) (.cons (dp_err (s3 _ _ (hall 0 q0 rfl))) (.cons (dp_err (s3 _ _ (hall 1 q1 rfl))) .nil)), .lst (.of g2) (.cons (dp_err g1) (.cons (dp_err g1) .nil)), dD_shaped, dD_shaped, _, rfl, ?_⟩
      rw [dD_eqv]
      exact iteF (nx H2 (s1.trans s3))
theorem lx_f7 (T : Tx K mg) {S : TdS K mg} (TB : TabB base mg cT PT) (E3 : TdE S "UnknownBook" S.c3 3) (E5 : TdE S "SameBook" S.c5 5) (hr : Room 11 (XL P w K mg base f (.ref cT) A outer s H0 E).A) : ∃ tt : TS, PS (XL P w K mg base f (.ref cT) A outer s H0 E) (fl 7) tt ∧
    ∀ (D : Ends) (H : Hp) (a row : Addr) (ns : List Int) (p dx td ts : Addr) (ds ss : List Int) (rl : Addr) (ra : List Addr) (one two : Int) (v : V) (y2 y11 y12 y13 y14 y15 y16 y17 y18 : Option V), B7 K T.C [(PT, (XL P w K mg base f (.ref cT) A outer s H0 E).env.qual ++ "<lambda>")] H row a ns p dx td ts ds ss → Pl H rl ra ds ss → 0 ≤ one → one < ss.sum → (∀ H', B7 K T.C [(PT, (XL P w K mg base f (.ref cT) A outer s H0 E).env.qual ++ "<lambda>")] H' row a ns p dx td ts ds ss → (one ≠ two → Pl H' rl ra ds ss → D.nx [some (.ref a), some (.ref row), y2, some (.ref td), some (.ref ts), some (.ref p), some (.int ss.sum), some (.ref rl), some (.int one), some (.int two), some v, y11, y12, y13, y14, y15, y16, y17, y18] H') ∧ D.ct [some (.ref a), some (.ref row), y2, some (.ref td), some (.ref ts), some (.ref p), some (.int ss.sum), some (.ref rl), some (.int one), some (.int two), some v, y11, y12, y13, y14, y15, y16, y17, y18] H') → tt D [some (.ref a), some (.ref row), y2, some (.ref td), some (.ref ts), some (.ref p), some (.int ss.sum), some (.ref rl), some (.int one), some (.int two), some v, y11, y12, y13, y14, y15, y16, y17, y18] H := by
  have nd := sc_law.nd
  refine ⟨_, ps_if (pt_cmpR op_eq (pv 8) (pv 9) (nomark _)) (pss_cons (ps_if (pt_cmpR (op_neD hr.units) (pe_toldD (k := 6) T S TB rfl (by rfl) (lamP_by (N := N_law) (sc := defScope s_law) (by decide +kernel)) rfl rfl ⟨"_law_b", by decide +kernel, fun _ _ _ _ _ _ _ _ _ _ _ ho hd => BindsTo.of_defaults rfl ho hd rfl rfl⟩ (hr.mono (by decide : 8 ≤ 11)) (fun A outer s H E f c' hr2 => pe_callS (ok_meetX T E3 E5) (hr2.mono (by decide)) (by rfl) T.g_first_meeting T.F_first_meeting.kp T.b_first_meeting (fun σ => passAt (takes_of rfl rfl rfl rfl) σ) (pa_cons (pv 5) (pa_cons (pv 8) (pa_cons (pv 9) pa_nil))))) (pe_tup (pa_cons pe_str (pa_cons pe_str pa_nil))) (nomark _)) (pss_one (ps_ret pe_bl)) pss_nil) (pss_one ps_continue)) pss_nil, ?_⟩
  intro D H a row ns p dx td ts ds ss rl ra one two v y2 y11 y12 y13 y14 y15 y16 y17 y18 B Pp o0 o1 nx
  refine ⟨_, rfl, _, rfl, rfl, _, rfl, ?_⟩
  rw [dec_eqI3]
  by_cases h : one = two
  · rw [decide_eq_true h]
    subst h
    refine iteT ⟨B.tb, fun H1 x1 t1 E' hE => ?_⟩
    have b1 := B.extN x1 t1
    refine ⟨_, rfl, _, rfl, _, rfl, p, dx, td, ts, ds, ss, _, _, rfl, b1.R, .inr (.inr ⟨⟨one, rfl, rfl, o0, o1⟩, ?_⟩)⟩
    refine hE _ _ _ ⟨S.c5, 5, rfl, rfl, E5.r, fun q H2 s2 hn hq => ?_⟩
    have b2 : B7 K T.C [(PT, (XL P w K mg base f (.ref cT) A outer s H0 E).env.qual ++ "<lambda>")] H2 row a ns p dx td ts ds ss := b1.same s2
    refine ⟨(by show 2 ≤ sizeLine; decide), fun t ht => ?_⟩
    have s3 := same_upd (o := .tup [.str "error", .str "SameBook"]) ht
    refine ⟨dSb, dSb, dp_err (s3 _ _ hq), dp_err upd_same, dSb_shaped, dSb_shaped, _, rfl, ?_⟩
    rw [dSb_eqv]
    exact iteF ((nx _ (b2.same s3)).2)
  · rw [decide_eq_false h]
    exact iteF ((nx H B).1 h Pp)
theorem lx_f8 (T : Tx K mg) (hr : Room 11 (XL P w K mg base f (.ref cT) A outer s H0 E).A) : ∃ tt : TS, PS (XL P w K mg base f (.ref cT) A outer s H0 E) (fl 8) tt ∧
    ∀ (D : Ends) (H : Hp) (a row : Addr) (ns : List Int) (p dx td ts : Addr) (ds ss : List Int) (rl : Addr) (ra : List Addr) (one two : Int) (v : V) (y2 y11 y12 y13 y14 y15 y16 y17 y18 : Option V), B7 K T.C Tb H row a ns p dx td ts ds ss → Pl H rl ra ds ss → (∀ H' fd, B7 K T.C Tb H' row a ns p dx td ts ds ss → Pl H' rl ra ds ss → Fo H' ds ss one two 0 fd [] [] → D.nx [some (.ref a), some (.ref row), y2, some (.ref td), some (.ref ts), some (.ref p), some (.int ss.sum), some (.ref rl), some (.int one), some (.int two), some v, y11, some (.ref fd), y13, y14, y15, y16, y17, y18] H') → tt D [some (.ref a), some (.ref row), y2, some (.ref td), some (.ref ts), some (.ref p), some (.int ss.sum), some (.ref rl), some (.int one), some (.int two), some v, y11, y12, y13, y14, y15, y16, y17, y18] H := by
  have nd := sc_law.nd
  refine ⟨_, ps_set (i := 12) nd rfl (.inl rfl) (pe_lst pa_nil), ?_⟩
  intro D H a row ns p dx td ts ds ss rl ra one two v y2 y11 y12 y13 y14 y15 y16 y17 y18 B Pp nx
  refine ⟨(by show 0 ≤ sizeLine; decide), fun l hl => ?_⟩
  have s1 := same_upd (o := .lst []) hl
  exact nx _ l (B.same s1) (Pp.same s1) ⟨upd_same, .nil, Nat.zero_le _, fun D r => ⟨fun h => absurd h (by simp), fun ⟨h0, h1, _⟩ => absurd h1 (by omega)⟩⟩
theorem lx_f9 (T : Tx K mg) (hr : Room 11 (XL P w K mg base f (.ref cT) A outer s H0 E).A) : ∃ tt : TS, PS (XL P w K mg base f (.ref cT) A outer s H0 E) (fl 9) tt ∧
    ∀ (D : Ends) (H : Hp) (a row : Addr) (ns : List Int) (p dx td ts : Addr) (ds ss : List Int) (rl : Addr) (ra : List Addr) (one two : Int) (v : V) (fd : Addr) (y2 y11 y13 y14 y15 y16 y17 y18 : Option V), B7 K T.C Tb H row a ns p dx td ts ds ss → Pl H rl ra ds ss → Fo H ds ss one two 0 fd [] [] → (∀ H' fd xs ps y13, B7 K T.C Tb H' row a ns p dx td ts ds ss → Fo H' ds ss one two ds.length fd xs ps → D.nx [some (.ref a), some (.ref row), y2, some (.ref td), some (.ref ts), some (.ref p), some (.int ss.sum), some (.ref rl), some (.int one), some (.int two), some v, y11, some (.ref fd), y13, y14, y15, y16, y17, y18] H') → tt D [some (.ref a), some (.ref row), y2, some (.ref td), some (.ref ts), some (.ref p), some (.int ss.sum), some (.ref rl), some (.int one), some (.int two), some v, y11, some (.ref fd), y13, y14, y15, y16, y17, y18] H := by
  have nd := sc_law.nd
  refine ⟨_, ps_for PassesOwn.never rfl (pi_range1 (by rfl) T.z_range (pa_cons (pe_callB call_len_seq (by rfl) T.z_len PySem.boot_len (pa_cons (pv 3) pa_nil)) pa_nil)) (pg_name (i := 13) nd rfl (.inr rfl)) (pss_one (ps_set (i := 12) nd rfl (.inl rfl) (pe_op op_cat (pv 12) (pe_lc (own := [("_law_day", 17)]) rfl nd (pi_list (pe_call (ok_shared T) (hr.mono (by decide : 1 ≤ 11)) (by rfl) T.g_lshared T.F_lshared.kp T.b_lshared .nil pass0 (pa_cons (pe_ix ix_list (pv 7) (pv 13) (fun _ _ => rfl)) (pa_cons (pv 8) (pa_cons (pv 9) pa_nil))))) (blkOk_by (N := N_law) (sc := defScope s_law) (by decide +kernel)) (fun _ _ _ _ _ => pg_name (i := 17) nd rfl (.inl rfl)) (fun _ _ _ _ _ => pts_nil) (fun _ _ _ _ _ => (pe_tup (pa_cons (pv 17) (pa_cons (pv 13) pa_nil)))))))), ?_⟩
  intro D H a row ns p dx td ts ds ss rl ra one two v fd y2 y11 y13 y14 y15 y16 y17 y18 B Pp F0 nx
  have l8 := B.R.ok.l8
  refine ⟨_, rfl, td, _, rfl, .inr (.of B.R.td), _, rfl, by rw [List.length_map]; omega, by rw [List.length_map]; omega, ?_⟩
  rw [List.length_map]
  refine for_range (lo := 0) (n := ((ds.length : Int)).toNat) (fun i σ H' => ∃ (fd : Addr) (xs : List V) (ps : List (Int × Int)) (y13 : Option V), σ = [some (.ref a), some (.ref row), y2, some (.ref td), some (.ref ts), some (.ref p), some (.int ss.sum), some (.ref rl), some (.int one), some (.int two), some v, y11, some (.ref fd), y13, y14, y15, y16, y17, y18] ∧ Same H H' ∧ Fo H' ds ss one two i fd xs ps) ⟨fd, [], [], y13, rfl, Same.refl H, F0⟩ ?_ ?_
  · rintro i σ H2 hi ⟨fd, xs, ps, y13, rfl, s2, F2⟩
    have hi : i < ds.length := by omega
    have P2 := Pp.same s2
    obtain ⟨c, gc⟩ : ∃ c, ra[i]? = some c := ⟨_, List.getElem?_eq_getElem (by rw [P2.len]; exact hi)⟩
    obtain ⟨ys, gy, ty⟩ := P2.rows i c gc
    have e0 : (0 : Int) + (i : Int) = (i : Nat) := by omega
    have hct := ct_le B.R.ok i
    have hps := F2.le
    have hlx := F2.t.length
    rw [List.length_map] at hlx
    show tAsg _ _ _ [some (.ref a), some (.ref row), y2, some (.ref td), some (.ref ts), some (.ref p), some (.int ss.sum), some (.ref rl), some (.int one), some (.int two), some v, y11, some (.ref fd), some (.int (0 + (i : Int))), y14, y15, y16, y17, y18] H2
    refine ⟨_, rfl, _, rfl, _, rfl, rl, _, _, _, rfl, rfl, .of P2.hl, by rw [e0]; exact atI_nat (by rw [List.getElem?_map, gc]; rfl), _, rfl, _, rfl, c, one, two, ys, ds, ss, i, ct ds ss i, rfl, gy, ty, hct.1, by omega, fun H3 l zs s3 hl hzl hz => ⟨l, rfl, ⟨_, .of hl⟩, fun D1 hD1 => ?_⟩⟩
    have hzl2 : zs.length ≤ 52900 := by
      have := Int.mul_le_mul hct.2 hct.2 hct.1 (by omega)
      omega
    refine lc_list (K := K) (a := l) (xs := zs.map V.int) (fun n H' => ∃ ws, H' D1 = some (.lst ws) ∧ Tups H' ws ((zs.take n).map fun z => [z, (i : Int)]) ∧ Same H3 H') ⟨[], upd_same, .nil, same_upd hD1⟩ (fun n H' _ ⟨_, _, _, h⟩ => .of (h _ _ hl)) ?_ ?_
    · rintro n x H4 hx ⟨ws, hws, hT, s4⟩
      rw [List.getElem?_map] at hx
      cases hz2 : zs[n]? with
      | none => rw [hz2] at hx; cases hx
      | some z =>
        rw [hz2] at hx
        cases hx
        have hnl := (List.getElem?_eq_some_iff.mp hz2).1
        have lws := hT.length
        rw [List.length_map, List.length_take] at lws
        refine ⟨rfl, lc_keep ?_⟩
        refine ⟨_, rfl, _, rfl, (by show 2 ≤ sizeLine; decide), fun t ht => ?_⟩
        have s5 := same_upd (o := .tup [.int z, .int (0 + (i : Int))]) ht
        refine ⟨ws, s5 _ _ hws, by rw [sizeLine_eq]; omega, ws ++ [.ref t], upd_same, ?_, Same.put2 (s4.trans s5) hD1⟩
        rw [take_mapS _ hz2]
        refine Tups.snoc ⟨t, rfl, ?_⟩ ((hT.same s5).put2 (s5 _ _ hws))
        rw [upd_ne (ne_of upd_same (s5 _ _ hws) (by intro z; cases z)), upd_same, e0]
        rfl
    · rintro H4 ⟨ws, hws, hT, s4⟩
      rw [List.length_map, List.take_of_length_le (Nat.le_refl _)] at hT
      have lws := hT.length
      rw [List.length_map] at lws
      have F4h := s4 _ _ (s3 _ _ F2.h)
      refine ⟨fd, D1, _, _, rfl, rfl, F4h, hws, by rw [sizeLine_eq]; omega, fun l2 hl2 => ?_⟩
      have s5 := same_upd (o := .lst (xs ++ ws)) hl2
      refine ⟨l2, xs ++ ws, ps ++ zs.map fun z => (z, (i : Int)), _, rfl, ((s2.trans s3).trans s4).trans s5, upd_same, ?_, ?_, fun D r => ?_⟩
      · rw [List.map_append]
        have h1 := ((F2.t.same s3).same s4).same s5
        have h2 := hT.same s5
        rw [show (zs.map fun z => (z, (i : Int))).map toP = zs.map fun z => [z, (i : Int)] by rw [List.map_map]; rfl]
        exact tups_app h1 h2
      · rw [List.length_append, List.length_map, Nat.succ_mul]
        omega
      · rw [List.mem_append, F2.mem D r, List.mem_map]
        constructor
        · rintro (⟨h0, h1, h2⟩ | ⟨z, hz1, e⟩)
          · exact ⟨h0, by omega, h2⟩
          · have eD : z = D := congrArg Prod.fst e
            have er : (i : Int) = r := congrArg Prod.snd e
            subst eD er
            obtain ⟨x, y, a1, a2, a3, a4, a5⟩ := (hz z).mp hz1
            exact ⟨by omega, by omega, x, y, a1, a2, a3, a4, a5.1, a5.2⟩
        · rintro ⟨h0, h1, h2⟩
          rcases Int.lt_or_le r i with z | z
          · exact .inl ⟨h0, z, h2⟩
          · have er : r = (i : Int) := by omega
            subst er
            obtain ⟨x, y, a1, a2, a3, a4, a5, a6⟩ := h2
            exact .inr ⟨D, (hz D).mpr ⟨x, y, a1, a2, a3, a4, a5, a6⟩, rfl⟩
  · rintro σ H2 ⟨fd, xs, ps, y13, rfl, s2, F2⟩
    exact nx H2 fd xs ps y13 (B.same s2) (by have h := F2; rw [Int.toNat_natCast] at h; exact h)
theorem lx_f10 (T : Tx K mg) (hr : Room 11 (XL P w K mg base f (.ref cT) A outer s H0 E).A) : ∃ tt : TS, PS (XL P w K mg base f (.ref cT) A outer s H0 E) (fl 10) tt ∧
    ∀ (D : Ends) (H : Hp) (a row : Addr) (ns : List Int) (p dx td ts : Addr) (ds ss : List Int) (rl : Addr) (ra : List Addr) (one two : Int) (v : V) (fd : Addr) (xs : List V) (ps : List (Int × Int)) (y2 y11 y13 y14 y15 y16 y17 y18 : Option V), B7 K T.C Tb H row a ns p dx td ts ds ss → Fo H ds ss one two ds.length fd xs ps → (∀ H' dv l, B7 K T.C Tb H' row a ns p dx td ts ds ss → Dv H' ds ss one two dv → La ds ss l → D.nx [some (.ref a), some (.ref row), y2, some (.ref td), some (.ref ts), some (.ref p), some (.int ss.sum), some (.ref rl), some (.int one), some (.int two), some v, y11, some (.ref fd), y13, some dv, some (.int l), y16, y17, y18] H') → tt D [some (.ref a), some (.ref row), y2, some (.ref td), some (.ref ts), some (.ref p), some (.int ss.sum), some (.ref rl), some (.int one), some (.int two), some v, y11, some (.ref fd), y13, y14, y15, y16, y17, y18] H := by
  have nd := sc_law.nd
  refine ⟨_, ps_asg (pe_tup (pa_cons (pe_ifExp (pt_cmpR (op_neD hr.units) (pv 12) (pe_lst pa_nil) (nomark _)) (pe_callB (cr_minP rfl (hu_of hr)) (by rfl) T.z_min (by decide +kernel) (pa_cons (pv 12) pa_nil)) pe_non) (pa_cons (pe_op op_add (pe_ix ix_tup (pe_call (ok_settled T) (hr.mono (by decide : 5 ≤ 11)) (by rfl) T.g_settled T.F_settled.kp T.b_settled .nil pass0 (pa_cons (pv 5) pa_nil)) pe_int (fun _ _ => rfl)) (pe_op op_mul pe_int (pv 6))) pa_nil))) (pg_tup rfl (pgs_cons (pg_name (i := 14) nd rfl (.inl rfl)) (pgs_cons (pg_name (i := 15) nd rfl (.inr rfl)) pgs_nil))), ?_⟩
  intro D H a row ns p dx td ts ds ss rl ra one two v fd xs ps y2 y11 y13 y14 y15 y16 y17 y18 B F nx
  have b1 := B.R.ok.b1
  have b12 := B.R.ok.b12
  have l8 := B.R.ok.l8
  obtain ⟨M, hM, hMu⟩ := B.R.ok.max
  have fin : ∀ (dv : V) (H1 : Hp), Same H H1 → Dv H1 ds ss one two dv → (∃ o dx td ts ds' ss', [V.ref p] = [.ref o] ∧ RingAt T.C H1 o dx td ts ds' ss' ∧ ∀ M, M ∈ ds' → (∀ y ∈ ds', y ≤ M) → ∀ H' t n p q, Same H1 H' → H' t = some (.tup [.int n, .int p, .int q]) → RepIs ds'.sum ss'.sum M p q → SettledIs ds' ss' n p q → True) := fun dv H1 s1 hd => ⟨p, dx, td, ts, ds, ss, rfl, B.R.same s1, fun _ _ _ _ _ _ _ _ _ _ _ _ => trivial⟩
  refine ⟨_, rfl, (by show 0 ≤ sizeLine; decide), fun e1 he1 => ?_⟩
  have s1 := same_upd (o := .lst []) he1
  refine ⟨_, .list [], .lst (.of (s1 _ _ F.h)) (Tups.data (F.t.same s1)), .lst (.of upd_same) .nil, shaped_tups _, shaped_tups [], _, rfl, ?_⟩
  have h16 : ∀ u ∈ ps, 0 ≤ u.2 ∧ u.2 < 16 := fun u hu => by
    obtain ⟨h0, h1, _⟩ := (F.mem u.1 u.2).mp hu
    omega
  cases ps with
  | nil =>
    refine iteF ⟨_, rfl, p, dx, td, ts, ds, ss, rfl, B.R.same s1, fun M hM hMu H2 t n q1 q2 s2 ht hr hs => ?_⟩
    refine ⟨t, _, 0, _, rfl, rfl, .of ht, atI_nat (j := 0) rfl, _, rfl, _, _, rfl, rfl, .inl (by omega), _, _, rfl, rfl, (by show 2 ≤ sizeLine; decide), fun t2 ht2 => ?_⟩
    have s3 := same_upd (o := .tup [.non, .int (n + 3 * ss.sum)]) ht2
    refine ⟨t2, _, rfl, .of upd_same, rfl, _, _, rfl, _, _, rfl, rfl, ?_⟩
    exact nx _ .non _ (((B.same s1).same s2).same s3) (.inl ⟨rfl, fun D r h0 h1 h => absurd ((F.mem D r).mpr ⟨h0, h1, h⟩) (by simp)⟩) ⟨n, q1, q2, M, hM, hMu, hr, hs, rfl⟩
  | cons u0 r0 =>
    refine iteT ⟨_, rfl, fd, xs, u0 :: r0, rfl, .of (s1 _ _ F.h), F.t.same s1, by simp, h16, fun i v' u hv hu hmin => ?_⟩
    obtain ⟨t0, e0, ht0⟩ := (F.t.same s1).get (i := i) (l := toP u) (by rw [List.getElem?_map, hu]; rfl)
    rw [hv] at e0
    cases e0
    obtain ⟨q0, q1', q2'⟩ := (F.mem u.1 u.2).mp (List.mem_of_getElem? hu)
    have hd : Dv _ ds ss one two (.ref t0) := .inr ⟨t0, u.1, u.2, rfl, ht0, q0, q1', q2', fun D' r' h0 h1 h => hmin (D', r') ((F.mem D' r').mpr ⟨h0, h1, h⟩)⟩
    refine ⟨_, rfl, p, dx, td, ts, ds, ss, rfl, B.R.same s1, fun M hM hMu H2 t n q1 q2 s2 ht hr hs => ?_⟩
    refine ⟨t, _, 0, _, rfl, rfl, .of ht, atI_nat (j := 0) rfl, _, rfl, _, _, rfl, rfl, .inl (by omega), _, _, rfl, rfl, (by show 2 ≤ sizeLine; decide), fun t2 ht2 => ?_⟩
    have s3 := same_upd (o := .tup [.ref t0, .int (n + 3 * ss.sum)]) ht2
    refine ⟨t2, _, rfl, .of upd_same, rfl, _, _, rfl, _, _, rfl, rfl, ?_⟩
    exact nx _ (.ref t0) _ (((B.same s1).same s2).same s3) ((hd.same s2).same s3) ⟨n, q1, q2, M, hM, hMu, hr, hs, rfl⟩
theorem lx_f11 (T : Tx K mg) (hr : Room 11 (XL P w K mg base f (.ref cT) A outer s H0 E).A) : ∃ tt : TS, PS (XL P w K mg base f (.ref cT) A outer s H0 E) (fl 11) tt ∧
    ∀ (D : Ends) (H : Hp) (a row : Addr) (ns : List Int) (p dx td ts : Addr) (ds ss : List Int) (rl : Addr) (ra : List Addr) (one two : Int) (v : V) (fd : Addr) (dv : V) (l : Int) (y2 y11 y13 y16 y17 y18 : Option V), B7 K T.C Tb H row a ns p dx td ts ds ss → La ds ss l → (∀ H' la rs, Same H H' → Lt H' ds ss l la rs → D.nx [some (.ref a), some (.ref row), y2, some (.ref td), some (.ref ts), some (.ref p), some (.int ss.sum), some (.ref rl), some (.int one), some (.int two), some v, y11, some (.ref fd), y13, some dv, some (.int l), some (.ref la), y17, y18] H') → tt D [some (.ref a), some (.ref row), y2, some (.ref td), some (.ref ts), some (.ref p), some (.int ss.sum), some (.ref rl), some (.int one), some (.int two), some v, y11, some (.ref fd), y13, some dv, some (.int l), y16, y17, y18] H := by
  have nd := sc_law.nd
  refine ⟨_, ps_setLc (i := 16) (own := [("_law_reader", 13)]) rfl nd rfl rfl (sw_true rfl rfl rfl (by decide +kernel)) (pi_range1 (by rfl) T.z_range (pa_cons (pe_callB call_len_seq (by rfl) T.z_len PySem.boot_len (pa_cons (pv 3) pa_nil)) pa_nil)) (blkOk_by (N := N_law) (sc := defScope s_law) (by decide +kernel)) (fun _ _ _ _ _ => pg_name (i := 13) nd rfl (.inl rfl)) (fun _ _ _ _ _ => pts_one (pt_cmpR op_gt (pe_callI (pv 5) T.callC ((ok_call T).raw T.b_rcall .nil) (hr.mono (by decide : 4 ≤ 11)) pass0 (pa_cons (pv 13) (pa_cons (pv 15) pa_nil))) pe_int (nomark _))) (fun _ _ _ _ _ => pv 13), ?_⟩
  intro D H a row ns p dx td ts ds ss rl ra one two v fd dv l y2 y11 y13 y16 y17 y18 B L nx
  have l8 := B.R.ok.l8
  have b12 := B.R.ok.b12
  have b1 := B.R.ok.b1
  obtain ⟨n, q1, q2, M, hM, hMu, hr', hs, rfl⟩ := L
  have n0 := hs.n0
  have n1 := hs.n1
  refine ⟨_, rfl, td, _, rfl, .inr (.of B.R.td), _, rfl, by rw [List.length_map]; omega, by rw [List.length_map]; omega, fun D1 hD1 => ?_⟩
  rw [List.length_map]
  refine lc_range (lo := 0) (n := ((ds.length : Int)).toNat) (fun i H' => ∃ rs : List Int, H' D1 = some (.lst (rs.map V.int)) ∧ rs.length ≤ i ∧ Same H H' ∧ (rs = [] → ∀ r : Int, 0 ≤ r → r < i → Rm.E (at' ds) (at' ss) r (n + 3 * ss.sum) ≤ 190)) ⟨[], upd_same, Nat.le_refl _, same_upd hD1, fun _ r h0 h1 => by omega⟩ ?_ ?_
  · rintro i H2 hi ⟨rs, hrs, hlen, s2, hall⟩
    have hi : i < ds.length := by omega
    refine ⟨rfl, ?_⟩
    refine ⟨_, rfl, p, rfl, _, rfl, _, rfl, ⟨dx, _, (B.R.same s2).ob⟩, p, dx, td, ts, ds, ss, _, _, rfl, B.R.same s2, by omega, by omega, by omega, by omega, ?_⟩
    refine ⟨_, _, rfl, rfl, _, rfl, ?_⟩
    by_cases hc : Rm.E (at' ds) (at' ss) (0 + (i : Int)) (n + 3 * ss.sum) > 190
    · rw [decide_eq_true hc]
      show if true = true then _ else _
      rw [if_pos rfl]
      refine ⟨_, rfl, rs.map V.int, hrs, by rw [List.length_map]; exact small1000 (by omega), rs ++ [0 + (i : Int)], by rw [upd_same, map_snoc], by rw [List.length_append]; show _ + 1 ≤ _; omega, Same.put2 s2 hD1, fun z => absurd z (by simp)⟩
    · rw [decide_eq_false hc]
      show if false = true then _ else _
      rw [if_neg (by decide)]
      refine ⟨rs, hrs, by omega, s2, fun z r h0 h1 => ?_⟩
      rcases Int.lt_or_le r i with q | q
      · exact hall z r h0 q
      · have : r = 0 + (i : Int) := by omega
        subst this
        omega
  · rintro H2 ⟨rs, hrs, hlen, s2, hall⟩
    exact nx H2 D1 rs s2 ⟨hrs, fun z r h0 h1 => hall z r h0 (by omega)⟩
theorem lx_f12 (T : Tx K mg) (hr : Room 11 (XL P w K mg base f (.ref cT) A outer s H0 E).A) : ∃ tt : TS, PS (XL P w K mg base f (.ref cT) A outer s H0 E) (fl 12) tt ∧
    ∀ (D : Ends) (H : Hp) (a row : Addr) (ns : List Int) (p dx td ts : Addr) (ds ss : List Int) (rl : Addr) (ra : List Addr) (one two : Int) (v : V) (fd : Addr) (dv : V) (l : Int) (la : Addr) (rs : List Int) (y2 y11 y13 y17 y18 : Option V), B7 K T.C Tb H row a ns p dx td ts ds ss → 0 ≤ one → one < ss.sum → 0 ≤ two → two < ss.sum → one ≠ two → Dv H ds ss one two dv → La ds ss l → Lt H ds ss l la rs → (∀ H', Same H H' → D.nx [some (.ref a), some (.ref row), y2, some (.ref td), some (.ref ts), some (.ref p), some (.int ss.sum), some (.ref rl), some (.int one), some (.int two), some v, y11, some (.ref fd), y13, some dv, some (.int l), some (.ref la), y17, y18] H') → tt D [some (.ref a), some (.ref row), y2, some (.ref td), some (.ref ts), some (.ref p), some (.int ss.sum), some (.ref rl), some (.int one), some (.int two), some v, y11, some (.ref fd), y13, some dv, some (.int l), some (.ref la), y17, y18] H := by
  have nd := sc_law.nd
  refine ⟨_, ps_if (PW.pt (pw_and (PW.pt (pw_or (pt_cmpR op_notN (pv 14) pe_non (nomark _)) (pw_or1 (pt_cmpR (op_eqD hr.units) (pv 16) (pe_lst pa_nil) (nomark _))))) (pw_and1 (pt_not (pt_val (pe_call (ok_likeD T 1) (hr.mono (by decide : 2 ≤ 11)) (by rfl) T.g_llike T.F_llike.kp T.b_llike .nil pass0 (pa_cons (pe_call (ok_meet T) (hr.mono (by decide : 7 ≤ 11)) (by rfl) T.g_first_meeting T.F_first_meeting.kp T.b_first_meeting .nil pass0 (pa_cons (pv 5) (pa_cons (pv 8) (pa_cons (pv 9) pa_nil)))) (pa_cons (pv 14) pa_nil)))))))) (pss_one (ps_ret pe_bl)) pss_nil, ?_⟩
  intro D H a row ns p dx td ts ds ss rl ra one two v fd dv l la rs y2 y11 y13 y17 y18 B o0 o1 t0 t1 ne dd L lt nx
  have G := B.R.ok
  obtain ⟨n, q1, q2, M, hM, hMu, hr', hs, rfl⟩ := L
  rcases dd with ⟨rfl, dno⟩ | ⟨t0', D0, r0, rfl, ht0, d0, d1, d2, d3⟩
  · -- none is shown
    refine ⟨_, rfl, rfl, _, rfl, ?_⟩
    refine iteNS rfl ?_
    refine ⟨_, rfl, (by show 0 ≤ sizeLine; decide), fun e1 he1 => ?_⟩
    have s1 := same_upd (o := .lst []) he1
    refine lst_eq (as := rs) (bs := []) (.of (s1 _ _ lt.1)) (.of upd_same) ⟨_, rfl, ?_⟩
    by_cases hrs : rs = []
    · rw [decide_eq_true hrs]
      refine iteT ⟨_, rfl, _, rfl, _, rfl, p, dx, td, ts, ds, ss, one, two, rfl, B.R.same s1, o0, o1, t0, t1, ne, fun H2 v2 r2 L2 u1 u2 s2 hres hL F1 F2 hm => ?_⟩
      have e := due_none G F1 F2 hL hm hM hMu hr' hs dno (lt.2 hrs)
      subst e
      have hv : v2 = .non := hres
      subst hv
      refine ⟨_, rfl, _, _, rfl, .inl (.inr ⟨rfl, rfl⟩), fun H3 s3 => ⟨_, rfl, ?_⟩⟩
      exact iteF (nx H3 ((s1.trans s2).trans s3))
    · rw [decide_eq_false hrs]
      exact iteF (iteF (nx _ s1))
  · refine ⟨_, rfl, rfl, _, rfl, ?_⟩
    refine iteT ?_
    refine iteT ⟨_, rfl, _, rfl, _, rfl, p, dx, td, ts, ds, ss, one, two, rfl, B.R, o0, o1, t0, t1, ne, fun H2 v2 r2 L2 u1 u2 s2 hres hL F1 F2 hm => ?_⟩
    obtain ⟨Dx, rx, e, a0, a1, a2, a3⟩ := due_found G F1 F2 hL hm d0 d1 d2
    subst e
    obtain ⟨t2, rfl, ht2⟩ := hres
    have l8 := G.l8
    have b1 := d3 Dx rx a0 a1 a2
    have ee : D0 = Dx ∧ r0 = rx := by
      rcases a3 D0 r0 d0 d1 d2 with z | ⟨z1, z2⟩
      · omega
      · exact ⟨z1, z2⟩
    obtain ⟨rfl, rfl⟩ := ee
    refine ⟨_, rfl, _, _, rfl, LkD.ints (l := [D0, r0]) (.inl ⟨ht2, s2 _ _ ht0⟩) (by show 2 ≤ 1000; decide), fun H3 s3 => ⟨_, rfl, ?_⟩⟩
    exact iteF (nx H3 (s2.trans s3))
theorem lx_f13 (T : Tx K mg) (hr : Room 11 (XL P w K mg base f (.ref cT) A outer s H0 E).A) : ∃ tt : TS, PS (XL P w K mg base f (.ref cT) A outer s H0 E) (fl 13) tt ∧
    ∀ (D : Ends) (H : Hp) (a row : Addr) (ns : List Int) (p dx td ts : Addr) (ds ss : List Int) (rl : Addr) (ra : List Addr) (one two : Int) (v : V) (fd : Addr) (dv : V) (l : Int) (la : Addr) (rs : List Int) (y2 y11 y13 y17 y18 : Option V), B7 K T.C Tb H row a ns p dx td ts ds ss → 0 ≤ one → one < ss.sum → 0 ≤ two → two < ss.sum → one ≠ two → (∀ H', Same H H' → D.nx [some (.ref a), some (.ref row), y2, some (.ref td), some (.ref ts), some (.ref p), some (.int ss.sum), some (.ref rl), some (.int one), some (.int two), some v, y11, some (.ref fd), y13, some dv, some (.int l), some (.ref la), y17, y18] H') → tt D [some (.ref a), some (.ref row), y2, some (.ref td), some (.ref ts), some (.ref p), some (.int ss.sum), some (.ref rl), some (.int one), some (.int two), some v, y11, some (.ref fd), y13, some dv, some (.int l), some (.ref la), y17, y18] H := by
  have nd := sc_law.nd
  refine ⟨_, ps_if (pt_not (pt_val (pe_call (ok_likeD T 1) (hr.mono (by decide : 2 ≤ 11)) (by rfl) T.g_llike T.F_llike.kp T.b_llike .nil pass0 (pa_cons (pe_call (ok_meet T) (hr.mono (by decide : 7 ≤ 11)) (by rfl) T.g_first_meeting T.F_first_meeting.kp T.b_first_meeting .nil pass0 (pa_cons (pv 5) (pa_cons (pv 9) (pa_cons (pv 8) pa_nil)))) (pa_cons (pe_call (ok_meet T) (hr.mono (by decide : 7 ≤ 11)) (by rfl) T.g_first_meeting T.F_first_meeting.kp T.b_first_meeting .nil pass0 (pa_cons (pv 5) (pa_cons (pv 8) (pa_cons (pv 9) pa_nil)))) pa_nil))))) (pss_one (ps_ret pe_bl)) pss_nil, ?_⟩
  intro D H a row ns p dx td ts ds ss rl ra one two v fd dv l la rs y2 y11 y13 y17 y18 B o0 o1 t0 t1 ne nx
  refine ⟨_, rfl, _, rfl, _, rfl, p, dx, td, ts, ds, ss, two, one, rfl, B.R, t0, t1, o0, o1, fun z => ne z.symm, fun H2 v2 r2 L2 u1 u2 s2 hres hL F1 F2 hm => ?_⟩
  refine ⟨_, rfl, _, rfl, _, rfl, p, dx, td, ts, ds, ss, one, two, rfl, B.R.same s2, o0, o1, t0, t1, ne, fun H3 v3 r3 L3 w1 w2 s3 hres3 hL3 F3 F4 hm3 => ?_⟩
  have G := B.R.ok
  have eL : L2 = L3 := lst_uni G hL hL3
  subst eL
  have e1 := F3.inj G F2
  have e2 := F4.inj G F1
  subst e1 e2
  have er := hm.symm.det hm3
  subst er
  cases r2 with
  | none =>
    have h1 : v2 = .non := hres
    have h2 : v3 = .non := hres3
    subst h1 h2
    exact ⟨_, _, rfl, .inl (.inr ⟨rfl, rfl⟩), fun H4 s4 => ⟨_, rfl, iteF (nx H4 ((s2.trans s3).trans s4))⟩⟩
  | some u =>
    obtain ⟨d, j⟩ := u
    obtain ⟨t2, rfl, h1⟩ := hres
    obtain ⟨t3, rfl, h2⟩ := hres3
    exact ⟨_, _, rfl, LkD.ints (l := [d, j]) (.inl ⟨s3 _ _ h1, h2⟩) (by show 2 ≤ 1000; decide), fun H4 s4 => ⟨_, rfl, iteF (nx H4 ((s2.trans s3).trans s4))⟩⟩
end
end Rp
namespace Rp
open PySem PySem.Spec PyProof.Rows L2 Rz Rm Rt Rl LamX
section
variable {P : Program} {w : World} {K : PySem.W.Frag} {mg : Str → Option Value} {base : Heap}
def spLawL (K : PySem.W.Frag) (PT : Addr) : Sp := fun vs H Q _ => ∃ (a : Addr) (ns : List Int), vs = [.ref a] ∧ SqL K H a (ns.map V.int) ∧ ns.length ≤ 63 ∧ H PT = some (.tbl #[]) ∧ ∀ H', Q (.bl true) H'
theorem ok_law {cT PT : Addr} (T : Tx K mg) (S : TdS K mg) (E3 : TdE S "UnknownBook" S.c3 3) (E5 : TdE S "SameBook" S.c5 5) (TB : TabB base mg cT PT) (FC : FunC K "law" "law" s_law T.a_law T.d_law (.ref cT)) : FnOk P w K mg base CX0 12 T.a_law T.d_law P_law (spLawL K PT) := by
  refine FC.ok sc_law (fun vs H Q E h => ?_) (fun A outer s H vs Q E hr h => ?_)
  · obtain ⟨a, ns, rfl, _⟩ := h
    rfl
  · obtain ⟨a, ns, rfl, hS, hlen, hP, q⟩ := h
    have hr1 : Room 1 _ := hr.mono (by decide)
    have nd := sc_law.nd
    obtain ⟨u0, q0, v0⟩ := lx_f0 (P := P) (w := w) (base := base) (f := T.a_law) (cT := cT) (A := A) (outer := outer) (s := s) (H0 := H) (E := E) (Tb := [(PT, (XL P w K mg base T.a_law (.ref cT) A outer s H E).env.qual ++ "<lambda>")]) T hr
    obtain ⟨u1, q1, v1⟩ := lx_f1 (P := P) (w := w) (base := base) (f := T.a_law) (cT := cT) (A := A) (outer := outer) (s := s) (H0 := H) (E := E) (Tb := [(PT, (XL P w K mg base T.a_law (.ref cT) A outer s H E).env.qual ++ "<lambda>")]) T hr
    obtain ⟨u2, q2, v2⟩ := lx_f2 (P := P) (w := w) (base := base) (f := T.a_law) (cT := cT) (A := A) (outer := outer) (s := s) (H0 := H) (E := E) (Tb := [(PT, (XL P w K mg base T.a_law (.ref cT) A outer s H E).env.qual ++ "<lambda>")]) T hr
    obtain ⟨u3, q3, v3⟩ := lx_f3 (P := P) (w := w) (base := base) (f := T.a_law) (cT := cT) (A := A) (outer := outer) (s := s) (H0 := H) (E := E) (Tb := [(PT, (XL P w K mg base T.a_law (.ref cT) A outer s H E).env.qual ++ "<lambda>")]) T hr
    obtain ⟨u4, q4, v4⟩ := lx_f4 (P := P) (w := w) (base := base) (f := T.a_law) (cT := cT) (A := A) (outer := outer) (s := s) (H0 := H) (E := E) (Tb := [(PT, (XL P w K mg base T.a_law (.ref cT) A outer s H E).env.qual ++ "<lambda>")]) T hr
    obtain ⟨u5, q5, v5⟩ := lx_f5 (P := P) (w := w) (base := base) (f := T.a_law) (cT := cT) (A := A) (outer := outer) (s := s) (H0 := H) (E := E) (PT := PT) T TB hr
    obtain ⟨u6, q6, v6⟩ := lx_f6 (P := P) (w := w) (base := base) (f := T.a_law) (cT := cT) (A := A) (outer := outer) (s := s) (H0 := H) (E := E) (PT := PT) T E3 E5 hr
    obtain ⟨u7, q7, v7⟩ := lx_f7 (P := P) (w := w) (base := base) (f := T.a_law) (cT := cT) (A := A) (outer := outer) (s := s) (H0 := H) (E := E) (PT := PT) T TB E3 E5 hr
    obtain ⟨u8, q8, v8⟩ := lx_f8 (P := P) (w := w) (base := base) (f := T.a_law) (cT := cT) (A := A) (outer := outer) (s := s) (H0 := H) (E := E) (Tb := [(PT, (XL P w K mg base T.a_law (.ref cT) A outer s H E).env.qual ++ "<lambda>")]) T hr
    obtain ⟨u9, q9, v9⟩ := lx_f9 (P := P) (w := w) (base := base) (f := T.a_law) (cT := cT) (A := A) (outer := outer) (s := s) (H0 := H) (E := E) (Tb := [(PT, (XL P w K mg base T.a_law (.ref cT) A outer s H E).env.qual ++ "<lambda>")]) T hr
    obtain ⟨u10, q10, v10⟩ := lx_f10 (P := P) (w := w) (base := base) (f := T.a_law) (cT := cT) (A := A) (outer := outer) (s := s) (H0 := H) (E := E) (Tb := [(PT, (XL P w K mg base T.a_law (.ref cT) A outer s H E).env.qual ++ "<lambda>")]) T hr
    obtain ⟨u11, q11, v11⟩ := lx_f11 (P := P) (w := w) (base := base) (f := T.a_law) (cT := cT) (A := A) (outer := outer) (s := s) (H0 := H) (E := E) (Tb := [(PT, (XL P w K mg base T.a_law (.ref cT) A outer s H E).env.qual ++ "<lambda>")]) T hr
    obtain ⟨u12, q12, v12⟩ := lx_f12 (P := P) (w := w) (base := base) (f := T.a_law) (cT := cT) (A := A) (outer := outer) (s := s) (H0 := H) (E := E) (Tb := [(PT, (XL P w K mg base T.a_law (.ref cT) A outer s H E).env.qual ++ "<lambda>")]) T hr
    obtain ⟨u13, q13, v13⟩ := lx_f13 (P := P) (w := w) (base := base) (f := T.a_law) (cT := cT) (A := A) (outer := outer) (s := s) (H0 := H) (E := E) (Tb := [(PT, (XL P w K mg base T.a_law (.ref cT) A outer s H E).env.qual ++ "<lambda>")]) T hr
    refine ⟨_, pss_cons (ps_set (i := 1) nd rfl (.inl rfl) (pe_call (ok_dice T) hr1 (by rfl) T.g_ldice T.F_ldice.kp T.b_ldice .nil pass0 (pa_cons (pv 0) pa_nil)))
      (pss_cons (ps_for PassesOwn.never rfl (pi_range1 (by rfl) T.z_range (pa_cons pe_int pa_nil)) (pg_name (i := 2) nd rfl (.inl rfl)) (pss_cons q0 (pss_cons q1 (pss_cons q2 (pss_cons q3 (pss_cons q4 (pss_cons q5 (pss_cons q6 (pss_cons q7 (pss_cons q8 (pss_cons q9 (pss_cons q10 (pss_cons q11 (pss_cons q12 (pss_one q13)))))))))))))))
      (pss_one (ps_ret pe_bl))), ?_⟩
    have tb0 : Tabs [(PT, (XL P w K mg base T.a_law (.ref cT) A outer s H E).env.qual ++ "<lambda>")] H := fun p hp => by
      cases List.mem_singleton.mp hp
      exact TabS.nil hP
    refine ⟨_, rfl, a, ns, rfl, hS, fun H1 row RA1 s1 => ?_⟩
    refine ⟨3, rfl, by decide, by decide, ?_⟩
    refine for_range (lo := 0) (n := 3) (fun i σ H' => (∃ y2 y3 y4 y5 y6 y7 y8 y9 y10 y11 y12 y13 y14 y15 y16 y17 y18, σ = [some (.ref a), some (.ref row), y2, y3, y4, y5, y6, y7, y8, y9, y10, y11, y12, y13, y14, y15, y16, y17, y18]) ∧ RowAt K H' row a ns ∧ Tabs [(PT, (XL P w K mg base T.a_law (.ref cT) A outer s H E).env.qual ++ "<lambda>")] H')
      ⟨⟨none, none, none, none, none, none, none, none, none, none, none, none, none, none, none, none, none, rfl⟩, RA1, tb0.ext s1⟩ ?_ ?_
    · rintro i σ H2 hi ⟨⟨y2, y3, y4, y5, y6, y7, y8, y9, y10, y11, y12, y13, y14, y15, y16, y17, y18, rfl⟩, RA2, tb2⟩
      show tSeq _ _ _ [some (.ref a), some (.ref row), some (.int (0 + (i : Int))), y3, y4, y5, y6, y7, y8, y9, y10, y11, y12, y13, y14, y15, y16, y17, y18] H2
      refine v0 _ H2 a row ns _ _ _ _ _ _ _ _ _ _ _ _ _ _ _ _ _ RA2 tb2 fun H3 td ts ds ss G RA3 tb3 htd hts => ?_
      refine v1 _ H3 a row ns td ts ds ss _ _ _ _ _ _ _ _ _ _ _ _ _ _ _ G RA3 tb3 htd hts fun H4 p dx B4 => ?_
      refine v2 _ H4 a row ns p dx td ts ds ss _ _ _ _ _ _ _ _ _ _ _ _ _ B4 fun H5 rl ra B5 P5 => ?_
      refine v3 _ H5 a row ns p dx td ts ds ss rl ra _ _ _ _ _ _ _ _ _ _ _ _ B5 P5 fun H6 one two B6 P6 o0 o1 t0 t1 => ?_
      refine v4 _ H6 a row ns p dx td ts ds ss rl ra one two _ _ _ _ _ _ _ _ _ _ B6 P6 fun H7 v B7 P7 hv => ?_
      refine v5 _ H7 a row ns p dx td ts ds ss rl ra one two v _ _ _ _ _ _ _ _ _ B7 P7 fun H8 wl fs B8 P8 W8 => ?_
      refine v6 _ H8 a row ns p dx td ts ds ss rl ra one two v wl fs _ _ _ _ _ _ _ _ B8 W8 o0 o1 hv fun H9 s9 => ?_
      refine v7 _ H9 a row ns p dx td ts ds ss rl ra one two v _ _ _ _ _ _ _ _ _ (B8.same s9) (P8.same s9) o0 o1 fun H10 B10 => ⟨fun ne P10 => ?_, ?_⟩
      · refine v8 _ H10 a row ns p dx td ts ds ss rl ra one two v _ _ _ _ _ _ _ _ _ B10 P10 fun H11 fd B11 P11 F11 => ?_
        refine v9 _ H11 a row ns p dx td ts ds ss rl ra one two v fd _ _ _ _ _ _ _ _ B11 P11 F11 fun H12 fd xs ps y13 B12 F12 => ?_
        refine v10 _ H12 a row ns p dx td ts ds ss rl ra one two v fd xs ps _ _ _ _ _ _ _ _ B12 F12 fun H13 dv l B13 D13 L13 => ?_
        refine v11 _ H13 a row ns p dx td ts ds ss rl ra one two v fd dv l _ _ _ _ _ _ B13 L13 fun H14 la rs s14 T14 => ?_
        have B14 := B13.same s14
        refine v12 _ H14 a row ns p dx td ts ds ss rl ra one two v fd dv l la rs _ _ _ _ _ B14 o0 o1 t0 t1 ne (D13.same s14) L13 T14 fun H15 s15 => ?_
        refine v13 _ H15 a row ns p dx td ts ds ss rl ra one two v fd dv l la rs _ _ _ _ _ (B14.same s15) o0 o1 t0 t1 ne fun H16 s16 => ?_
        have B16 := (B14.same s15).same s16
        exact ⟨⟨_, _, _, _, _, _, _, _, _, _, _, _, _, _, _, _, _, rfl⟩, B16.RA, B16.tb⟩
      · exact ⟨⟨_, _, _, _, _, _, _, _, _, _, _, _, _, _, _, _, _, rfl⟩, B10.RA, B10.tb⟩
    · rintro σ H2 ⟨_, _⟩
      exact q H2
end
end Rp
namespace Rp
open PySem PySem.Spec PyProof.Rows L2 Rz Rm Rt Rl LamX
theorem all_mk {l : PySem.W.OpenLaw} {w : World} {K : PySem.W.Frag} {h : Heap} {mg : Str → Option Value} {fa C : Addr} (X : K.In h) (G : h.Ns mainGlobals mg) (hfa : mg "law" = some (.ref fa))
    {f_is_number : Addr} {od_is_number an_is_number : Option Addr} {sl_is_number : Array (Option Value)} {oc_is_number kV_is_number dc_is_number pm_is_number cd_is_number ct_is_number : Value}
    {f_lies_between : Addr} {od_lies_between an_lies_between : Option Addr} {sl_lies_between : Array (Option Value)} {oc_lies_between kV_lies_between dc_lies_between pm_lies_between cd_lies_between ct_lies_between : Value}
    {f_check_number : Addr} {od_check_number an_check_number : Option Addr} {sl_check_number : Array (Option Value)} {oc_check_number kV_check_number dc_check_number pm_check_number cd_check_number ct_check_number : Value}
    {f_check_reader : Addr} {od_check_reader an_check_reader : Option Addr} {sl_check_reader : Array (Option Value)} {oc_check_reader kV_check_reader dc_check_reader pm_check_reader cd_check_reader ct_check_reader : Value}
    {f_rinit : Addr} {od_rinit an_rinit : Option Addr} {sl_rinit : Array (Option Value)} {oc_rinit kV_rinit dc_rinit pm_rinit cd_rinit ct_rinit : Value}
    {f_rdays : Addr} {od_rdays an_rdays : Option Addr} {sl_rdays : Array (Option Value)} {oc_rdays kV_rdays dc_rdays pm_rdays cd_rdays ct_rdays : Value}
    {pp_rdays : Addr} {re_rdays : List Value}
    {f_rstarts : Addr} {od_rstarts an_rstarts : Option Addr} {sl_rstarts : Array (Option Value)} {oc_rstarts kV_rstarts dc_rstarts pm_rstarts cd_rstarts ct_rstarts : Value}
    {pp_rstarts : Addr} {re_rstarts : List Value}
    {f_rbooks : Addr} {od_rbooks an_rbooks : Option Addr} {sl_rbooks : Array (Option Value)} {oc_rbooks kV_rbooks dc_rbooks pm_rbooks cd_rbooks ct_rbooks : Value}
    {pp_rbooks : Addr} {re_rbooks : List Value}
    {f_rpace : Addr} {od_rpace an_rpace : Option Addr} {sl_rpace : Array (Option Value)} {oc_rpace kV_rpace dc_rpace pm_rpace cd_rpace ct_rpace : Value}
    {pp_rpace : Addr} {re_rpace : List Value}
    {f_rlen : Addr} {od_rlen an_rlen : Option Addr} {sl_rlen : Array (Option Value)} {oc_rlen kV_rlen dc_rlen pm_rlen cd_rlen ct_rlen : Value}
    {f_rcall : Addr} {od_rcall an_rcall : Option Addr} {sl_rcall : Array (Option Value)} {oc_rcall kV_rcall dc_rcall pm_rcall cd_rcall ct_rcall : Value}
    {f_check_part : Addr} {od_check_part an_check_part : Option Addr} {sl_check_part : Array (Option Value)} {oc_check_part kV_check_part dc_check_part pm_check_part cd_check_part ct_check_part : Value}
    {f_slowest_decides : Addr} {od_slowest_decides an_slowest_decides : Option Addr} {sl_slowest_decides : Array (Option Value)} {oc_slowest_decides kV_slowest_decides dc_slowest_decides pm_slowest_decides cd_slowest_decides ct_slowest_decides : Value}
    {f_pace_of : Addr} {od_pace_of an_pace_of : Option Addr} {sl_pace_of : Array (Option Value)} {oc_pace_of kV_pace_of dc_pace_of pm_pace_of cd_pace_of ct_pace_of : Value}
    {f_round_pace : Addr} {od_round_pace an_round_pace : Option Addr} {sl_round_pace : Array (Option Value)} {oc_round_pace kV_round_pace dc_round_pace pm_round_pace cd_round_pace ct_round_pace : Value}
    {f_end_day : Addr} {od_end_day an_end_day : Option Addr} {sl_end_day : Array (Option Value)} {oc_end_day kV_end_day dc_end_day pm_end_day cd_end_day ct_end_day : Value}
    {f_settled : Addr} {od_settled an_settled : Option Addr} {sl_settled : Array (Option Value)} {oc_settled kV_settled dc_settled pm_settled cd_settled ct_settled : Value}
    {f_first_meeting : Addr} {od_first_meeting an_first_meeting : Option Addr} {sl_first_meeting : Array (Option Value)} {oc_first_meeting kV_first_meeting dc_first_meeting pm_first_meeting cd_first_meeting ct_first_meeting : Value}
    {f_check_book : Addr} {od_check_book an_check_book : Option Addr} {sl_check_book : Array (Option Value)} {oc_check_book kV_check_book dc_check_book pm_check_book cd_check_book ct_check_book : Value}
    {f_reader_after : Addr} {od_reader_after an_reader_after : Option Addr} {sl_reader_after : Array (Option Value)} {oc_reader_after kV_reader_after dc_reader_after pm_reader_after cd_reader_after ct_reader_after : Value}
    {f_repetition : Addr} {od_repetition an_repetition : Option Addr} {sl_repetition : Array (Option Value)} {oc_repetition kV_repetition dc_repetition pm_repetition cd_repetition ct_repetition : Value}
    {f_row_repeats : Addr} {od_row_repeats an_row_repeats : Option Addr} {sl_row_repeats : Array (Option Value)} {oc_row_repeats kV_row_repeats dc_row_repeats pm_row_repeats cd_row_repeats ct_row_repeats : Value}
    {f_last_new_day : Addr} {od_last_new_day an_last_new_day : Option Addr} {sl_last_new_day : Array (Option Value)} {oc_last_new_day kV_last_new_day dc_last_new_day pm_last_new_day cd_last_new_day ct_last_new_day : Value}
    {f_first_stay : Addr} {od_first_stay an_first_stay : Option Addr} {sl_first_stay : Array (Option Value)} {oc_first_stay kV_first_stay dc_first_stay pm_first_stay cd_first_stay ct_first_stay : Value}
    {f_next_stay : Addr} {od_next_stay an_next_stay : Option Addr} {sl_next_stay : Array (Option Value)} {oc_next_stay kV_next_stay dc_next_stay pm_next_stay cd_next_stay ct_next_stay : Value}
    {f_ldice : Addr} {od_ldice an_ldice : Option Addr} {sl_ldice : Array (Option Value)} {oc_ldice kV_ldice dc_ldice pm_ldice cd_ldice ct_ldice : Value}
    {f_lnext : Addr} {od_lnext an_lnext : Option Addr} {sl_lnext : Array (Option Value)} {oc_lnext kV_lnext dc_lnext pm_lnext cd_lnext ct_lnext : Value}
    {f_llike : Addr} {od_llike an_llike : Option Addr} {sl_llike : Array (Option Value)} {oc_llike kV_llike dc_llike pm_llike cd_llike ct_llike : Value}
    {f_lpick : Addr} {od_lpick an_lpick : Option Addr} {sl_lpick : Array (Option Value)} {oc_lpick kV_lpick dc_lpick pm_lpick cd_lpick ct_lpick : Value}
    {f_ltold : Addr} {od_ltold an_ltold : Option Addr} {sl_ltold : Array (Option Value)} {oc_ltold kV_ltold dc_ltold pm_ltold cd_ltold ct_ltold : Value}
    {f_lring : Addr} {od_lring an_lring : Option Addr} {sl_lring : Array (Option Value)} {oc_lring kV_lring dc_lring pm_lring cd_lring ct_lring : Value}
    {f_ldays : Addr} {od_ldays an_ldays : Option Addr} {sl_ldays : Array (Option Value)} {oc_ldays kV_ldays dc_ldays pm_ldays cd_ldays ct_ldays : Value}
    {f_lshared : Addr} {od_lshared an_lshared : Option Addr} {sl_lshared : Array (Option Value)} {oc_lshared kV_lshared dc_lshared pm_lshared cd_lshared ct_lshared : Value}
    {f_law : Addr} {od_law an_law : Option Addr} {sl_law : Array (Option Value)} {oc_law kV_law dc_law pm_law cd_law ct_law : Value}
    {t_LATEST : Tok}
    {t_FEWEST_READERS : Tok}
    {t_MOST_READERS : Tok}
    {t_MOST_DAYS : Tok}
    {t_MOST_BOOKS : Tok}
    (aC : PySem.W.nsIn K mainGlobals "Ring" = some (some (.ref C)))
    (x_is_number : PySem.W.nsIn K mainGlobals "is_number" = some (some (.ref f_is_number)))
    (l_is_number : K.lookup f_is_number = some ⟨oc_is_number, od_is_number, .func (PySem.W.fnOf "is_number" "is_number" (defArgs s_is_number) (defBody s_is_number) (defScope s_is_number) .none kV_is_number dc_is_number pm_is_number an_is_number cd_is_number ct_is_number), sl_is_number⟩)
    (c_is_number : PySem.W.codeIn K cd_is_number "is_number" = true)
    (k_is_number : PySem.W.keepIn K (.ref f_is_number) = true)
    (x_lies_between : PySem.W.nsIn K mainGlobals "lies_between" = some (some (.ref f_lies_between)))
    (l_lies_between : K.lookup f_lies_between = some ⟨oc_lies_between, od_lies_between, .func (PySem.W.fnOf "lies_between" "lies_between" (defArgs s_lies_between) (defBody s_lies_between) (defScope s_lies_between) .none kV_lies_between dc_lies_between pm_lies_between an_lies_between cd_lies_between ct_lies_between), sl_lies_between⟩)
    (c_lies_between : PySem.W.codeIn K cd_lies_between "lies_between" = true)
    (k_lies_between : PySem.W.keepIn K (.ref f_lies_between) = true)
    (x_check_number : PySem.W.nsIn K mainGlobals "check_number" = some (some (.ref f_check_number)))
    (l_check_number : K.lookup f_check_number = some ⟨oc_check_number, od_check_number, .func (PySem.W.fnOf "check_number" "check_number" (defArgs s_check_number) (defBody s_check_number) (defScope s_check_number) .none kV_check_number dc_check_number pm_check_number an_check_number cd_check_number ct_check_number), sl_check_number⟩)
    (c_check_number : PySem.W.codeIn K cd_check_number "check_number" = true)
    (k_check_number : PySem.W.keepIn K (.ref f_check_number) = true)
    (x_check_reader : PySem.W.nsIn K mainGlobals "check_reader" = some (some (.ref f_check_reader)))
    (l_check_reader : K.lookup f_check_reader = some ⟨oc_check_reader, od_check_reader, .func (PySem.W.fnOf "check_reader" "check_reader" (defArgs s_check_reader) (defBody s_check_reader) (defScope s_check_reader) .none kV_check_reader dc_check_reader pm_check_reader an_check_reader cd_check_reader ct_check_reader), sl_check_reader⟩)
    (c_check_reader : PySem.W.codeIn K cd_check_reader "check_reader" = true)
    (k_check_reader : PySem.W.keepIn K (.ref f_check_reader) = true)
    (x_rinit : PySem.W.findIn K (.ref C) "__init__" = some (some (.ref f_rinit)))
    (i_rinit : PySem.W.isFn K (.ref f_rinit) = true)
    (l_rinit : K.lookup f_rinit = some ⟨oc_rinit, od_rinit, .func (PySem.W.fnOf "__init__" "Ring.__init__" (defArgs s_rinit) (defBody s_rinit) (defScope s_rinit) .none kV_rinit dc_rinit pm_rinit an_rinit cd_rinit ct_rinit), sl_rinit⟩)
    (c_rinit : PySem.W.codeIn K cd_rinit "Ring.__init__" = true)
    (k_rinit : PySem.W.keepIn K (.ref f_rinit) = true)
    (pa_rdays : PySem.W.findIn K (.ref C) "days" = some (some (.ref pp_rdays)))
    (pg_rdays : PySem.W.specialIn K (.ref pp_rdays) "__get__" = some (some (.builtin "property.__get__")))
    (pt_rdays : PySem.W.takesIn K (.ref pp_rdays) = some true)
    (pr_rdays : PySem.W.recIn K pp_rdays "property" = some (.ref f_rdays :: re_rdays))
    (l_rdays : K.lookup f_rdays = some ⟨oc_rdays, od_rdays, .func (PySem.W.fnOf "days" "Ring.days" (defArgs s_rdays) (defBody s_rdays) (defScope s_rdays) .none kV_rdays dc_rdays pm_rdays an_rdays cd_rdays ct_rdays), sl_rdays⟩)
    (c_rdays : PySem.W.codeIn K cd_rdays "Ring.days" = true)
    (k_rdays : PySem.W.keepIn K (.ref f_rdays) = true)
    (pa_rstarts : PySem.W.findIn K (.ref C) "starts" = some (some (.ref pp_rstarts)))
    (pg_rstarts : PySem.W.specialIn K (.ref pp_rstarts) "__get__" = some (some (.builtin "property.__get__")))
    (pt_rstarts : PySem.W.takesIn K (.ref pp_rstarts) = some true)
    (pr_rstarts : PySem.W.recIn K pp_rstarts "property" = some (.ref f_rstarts :: re_rstarts))
    (l_rstarts : K.lookup f_rstarts = some ⟨oc_rstarts, od_rstarts, .func (PySem.W.fnOf "starts" "Ring.starts" (defArgs s_rstarts) (defBody s_rstarts) (defScope s_rstarts) .none kV_rstarts dc_rstarts pm_rstarts an_rstarts cd_rstarts ct_rstarts), sl_rstarts⟩)
    (c_rstarts : PySem.W.codeIn K cd_rstarts "Ring.starts" = true)
    (k_rstarts : PySem.W.keepIn K (.ref f_rstarts) = true)
    (pa_rbooks : PySem.W.findIn K (.ref C) "books" = some (some (.ref pp_rbooks)))
    (pg_rbooks : PySem.W.specialIn K (.ref pp_rbooks) "__get__" = some (some (.builtin "property.__get__")))
    (pt_rbooks : PySem.W.takesIn K (.ref pp_rbooks) = some true)
    (pr_rbooks : PySem.W.recIn K pp_rbooks "property" = some (.ref f_rbooks :: re_rbooks))
    (l_rbooks : K.lookup f_rbooks = some ⟨oc_rbooks, od_rbooks, .func (PySem.W.fnOf "books" "Ring.books" (defArgs s_rbooks) (defBody s_rbooks) (defScope s_rbooks) .none kV_rbooks dc_rbooks pm_rbooks an_rbooks cd_rbooks ct_rbooks), sl_rbooks⟩)
    (c_rbooks : PySem.W.codeIn K cd_rbooks "Ring.books" = true)
    (k_rbooks : PySem.W.keepIn K (.ref f_rbooks) = true)
    (pa_rpace : PySem.W.findIn K (.ref C) "pace" = some (some (.ref pp_rpace)))
    (pg_rpace : PySem.W.specialIn K (.ref pp_rpace) "__get__" = some (some (.builtin "property.__get__")))
    (pt_rpace : PySem.W.takesIn K (.ref pp_rpace) = some true)
    (pr_rpace : PySem.W.recIn K pp_rpace "property" = some (.ref f_rpace :: re_rpace))
    (l_rpace : K.lookup f_rpace = some ⟨oc_rpace, od_rpace, .func (PySem.W.fnOf "pace" "Ring.pace" (defArgs s_rpace) (defBody s_rpace) (defScope s_rpace) .none kV_rpace dc_rpace pm_rpace an_rpace cd_rpace ct_rpace), sl_rpace⟩)
    (c_rpace : PySem.W.codeIn K cd_rpace "Ring.pace" = true)
    (k_rpace : PySem.W.keepIn K (.ref f_rpace) = true)
    (x_rlen : PySem.W.findIn K (.ref C) "__len__" = some (some (.ref f_rlen)))
    (i_rlen : PySem.W.isFn K (.ref f_rlen) = true)
    (l_rlen : K.lookup f_rlen = some ⟨oc_rlen, od_rlen, .func (PySem.W.fnOf "__len__" "Ring.__len__" (defArgs s_rlen) (defBody s_rlen) (defScope s_rlen) .none kV_rlen dc_rlen pm_rlen an_rlen cd_rlen ct_rlen), sl_rlen⟩)
    (c_rlen : PySem.W.codeIn K cd_rlen "Ring.__len__" = true)
    (k_rlen : PySem.W.keepIn K (.ref f_rlen) = true)
    (x_rcall : PySem.W.findIn K (.ref C) "__call__" = some (some (.ref f_rcall)))
    (i_rcall : PySem.W.isFn K (.ref f_rcall) = true)
    (j_rcall : PySem.W.fnIn K f_rcall = true)
    (l_rcall : K.lookup f_rcall = some ⟨oc_rcall, od_rcall, .func (PySem.W.fnOf "__call__" "Ring.__call__" (defArgs s_rcall) (defBody s_rcall) (defScope s_rcall) .none kV_rcall dc_rcall pm_rcall an_rcall cd_rcall ct_rcall), sl_rcall⟩)
    (c_rcall : PySem.W.codeIn K cd_rcall "Ring.__call__" = true)
    (k_rcall : PySem.W.keepIn K (.ref f_rcall) = true)
    (x_check_part : PySem.W.nsIn K mainGlobals "check_part" = some (some (.ref f_check_part)))
    (l_check_part : K.lookup f_check_part = some ⟨oc_check_part, od_check_part, .func (PySem.W.fnOf "check_part" "check_part" (defArgs s_check_part) (defBody s_check_part) (defScope s_check_part) .none kV_check_part dc_check_part pm_check_part an_check_part cd_check_part ct_check_part), sl_check_part⟩)
    (c_check_part : PySem.W.codeIn K cd_check_part "check_part" = true)
    (k_check_part : PySem.W.keepIn K (.ref f_check_part) = true)
    (x_slowest_decides : PySem.W.nsIn K mainGlobals "slowest_decides" = some (some (.ref f_slowest_decides)))
    (l_slowest_decides : K.lookup f_slowest_decides = some ⟨oc_slowest_decides, od_slowest_decides, .func (PySem.W.fnOf "slowest_decides" "slowest_decides" (defArgs s_slowest_decides) (defBody s_slowest_decides) (defScope s_slowest_decides) .none kV_slowest_decides dc_slowest_decides pm_slowest_decides an_slowest_decides cd_slowest_decides ct_slowest_decides), sl_slowest_decides⟩)
    (c_slowest_decides : PySem.W.codeIn K cd_slowest_decides "slowest_decides" = true)
    (k_slowest_decides : PySem.W.keepIn K (.ref f_slowest_decides) = true)
    (x_pace_of : PySem.W.nsIn K mainGlobals "pace_of" = some (some (.ref f_pace_of)))
    (l_pace_of : K.lookup f_pace_of = some ⟨oc_pace_of, od_pace_of, .func (PySem.W.fnOf "pace_of" "pace_of" (defArgs s_pace_of) (defBody s_pace_of) (defScope s_pace_of) .none kV_pace_of dc_pace_of pm_pace_of an_pace_of cd_pace_of ct_pace_of), sl_pace_of⟩)
    (c_pace_of : PySem.W.codeIn K cd_pace_of "pace_of" = true)
    (k_pace_of : PySem.W.keepIn K (.ref f_pace_of) = true)
    (x_round_pace : PySem.W.nsIn K mainGlobals "round_pace" = some (some (.ref f_round_pace)))
    (l_round_pace : K.lookup f_round_pace = some ⟨oc_round_pace, od_round_pace, .func (PySem.W.fnOf "round_pace" "round_pace" (defArgs s_round_pace) (defBody s_round_pace) (defScope s_round_pace) .none kV_round_pace dc_round_pace pm_round_pace an_round_pace cd_round_pace ct_round_pace), sl_round_pace⟩)
    (c_round_pace : PySem.W.codeIn K cd_round_pace "round_pace" = true)
    (k_round_pace : PySem.W.keepIn K (.ref f_round_pace) = true)
    (x_end_day : PySem.W.nsIn K mainGlobals "end_day" = some (some (.ref f_end_day)))
    (l_end_day : K.lookup f_end_day = some ⟨oc_end_day, od_end_day, .func (PySem.W.fnOf "end_day" "end_day" (defArgs s_end_day) (defBody s_end_day) (defScope s_end_day) .none kV_end_day dc_end_day pm_end_day an_end_day cd_end_day ct_end_day), sl_end_day⟩)
    (c_end_day : PySem.W.codeIn K cd_end_day "end_day" = true)
    (k_end_day : PySem.W.keepIn K (.ref f_end_day) = true)
    (x_settled : PySem.W.nsIn K mainGlobals "settled" = some (some (.ref f_settled)))
    (l_settled : K.lookup f_settled = some ⟨oc_settled, od_settled, .func (PySem.W.fnOf "settled" "settled" (defArgs s_settled) (defBody s_settled) (defScope s_settled) .none kV_settled dc_settled pm_settled an_settled cd_settled ct_settled), sl_settled⟩)
    (c_settled : PySem.W.codeIn K cd_settled "settled" = true)
    (k_settled : PySem.W.keepIn K (.ref f_settled) = true)
    (x_first_meeting : PySem.W.nsIn K mainGlobals "first_meeting" = some (some (.ref f_first_meeting)))
    (l_first_meeting : K.lookup f_first_meeting = some ⟨oc_first_meeting, od_first_meeting, .func (PySem.W.fnOf "first_meeting" "first_meeting" (defArgs s_first_meeting) (defBody s_first_meeting) (defScope s_first_meeting) .none kV_first_meeting dc_first_meeting pm_first_meeting an_first_meeting cd_first_meeting ct_first_meeting), sl_first_meeting⟩)
    (c_first_meeting : PySem.W.codeIn K cd_first_meeting "first_meeting" = true)
    (k_first_meeting : PySem.W.keepIn K (.ref f_first_meeting) = true)
    (x_check_book : PySem.W.nsIn K mainGlobals "check_book" = some (some (.ref f_check_book)))
    (l_check_book : K.lookup f_check_book = some ⟨oc_check_book, od_check_book, .func (PySem.W.fnOf "check_book" "check_book" (defArgs s_check_book) (defBody s_check_book) (defScope s_check_book) .none kV_check_book dc_check_book pm_check_book an_check_book cd_check_book ct_check_book), sl_check_book⟩)
    (c_check_book : PySem.W.codeIn K cd_check_book "check_book" = true)
    (k_check_book : PySem.W.keepIn K (.ref f_check_book) = true)
    (x_reader_after : PySem.W.nsIn K mainGlobals "reader_after" = some (some (.ref f_reader_after)))
    (l_reader_after : K.lookup f_reader_after = some ⟨oc_reader_after, od_reader_after, .func (PySem.W.fnOf "reader_after" "reader_after" (defArgs s_reader_after) (defBody s_reader_after) (defScope s_reader_after) .none kV_reader_after dc_reader_after pm_reader_after an_reader_after cd_reader_after ct_reader_after), sl_reader_after⟩)
    (c_reader_after : PySem.W.codeIn K cd_reader_after "reader_after" = true)
    (k_reader_after : PySem.W.keepIn K (.ref f_reader_after) = true)
    (x_repetition : PySem.W.nsIn K mainGlobals "repetition" = some (some (.ref f_repetition)))
    (l_repetition : K.lookup f_repetition = some ⟨oc_repetition, od_repetition, .func (PySem.W.fnOf "repetition" "repetition" (defArgs s_repetition) (defBody s_repetition) (defScope s_repetition) .none kV_repetition dc_repetition pm_repetition an_repetition cd_repetition ct_repetition), sl_repetition⟩)
    (c_repetition : PySem.W.codeIn K cd_repetition "repetition" = true)
    (k_repetition : PySem.W.keepIn K (.ref f_repetition) = true)
    (x_row_repeats : PySem.W.nsIn K mainGlobals "row_repeats" = some (some (.ref f_row_repeats)))
    (l_row_repeats : K.lookup f_row_repeats = some ⟨oc_row_repeats, od_row_repeats, .func (PySem.W.fnOf "row_repeats" "row_repeats" (defArgs s_row_repeats) (defBody s_row_repeats) (defScope s_row_repeats) .none kV_row_repeats dc_row_repeats pm_row_repeats an_row_repeats cd_row_repeats ct_row_repeats), sl_row_repeats⟩)
    (c_row_repeats : PySem.W.codeIn K cd_row_repeats "row_repeats" = true)
    (k_row_repeats : PySem.W.keepIn K (.ref f_row_repeats) = true)
    (x_last_new_day : PySem.W.nsIn K mainGlobals "last_new_day" = some (some (.ref f_last_new_day)))
    (l_last_new_day : K.lookup f_last_new_day = some ⟨oc_last_new_day, od_last_new_day, .func (PySem.W.fnOf "last_new_day" "last_new_day" (defArgs s_last_new_day) (defBody s_last_new_day) (defScope s_last_new_day) .none kV_last_new_day dc_last_new_day pm_last_new_day an_last_new_day cd_last_new_day ct_last_new_day), sl_last_new_day⟩)
    (c_last_new_day : PySem.W.codeIn K cd_last_new_day "last_new_day" = true)
    (k_last_new_day : PySem.W.keepIn K (.ref f_last_new_day) = true)
    (x_first_stay : PySem.W.nsIn K mainGlobals "first_stay" = some (some (.ref f_first_stay)))
    (l_first_stay : K.lookup f_first_stay = some ⟨oc_first_stay, od_first_stay, .func (PySem.W.fnOf "first_stay" "first_stay" (defArgs s_first_stay) (defBody s_first_stay) (defScope s_first_stay) .none kV_first_stay dc_first_stay pm_first_stay an_first_stay cd_first_stay ct_first_stay), sl_first_stay⟩)
    (c_first_stay : PySem.W.codeIn K cd_first_stay "first_stay" = true)
    (k_first_stay : PySem.W.keepIn K (.ref f_first_stay) = true)
    (x_next_stay : PySem.W.nsIn K mainGlobals "next_stay" = some (some (.ref f_next_stay)))
    (l_next_stay : K.lookup f_next_stay = some ⟨oc_next_stay, od_next_stay, .func (PySem.W.fnOf "next_stay" "next_stay" (defArgs s_next_stay) (defBody s_next_stay) (defScope s_next_stay) .none kV_next_stay dc_next_stay pm_next_stay an_next_stay cd_next_stay ct_next_stay), sl_next_stay⟩)
    (c_next_stay : PySem.W.codeIn K cd_next_stay "next_stay" = true)
    (k_next_stay : PySem.W.keepIn K (.ref f_next_stay) = true)
    (x_ldice : PySem.W.nsIn K mainGlobals "_law_dice" = some (some (.ref f_ldice)))
    (l_ldice : K.lookup f_ldice = some ⟨oc_ldice, od_ldice, .func (PySem.W.fnOf "_law_dice" "_law_dice" (defArgs s_ldice) (defBody s_ldice) (defScope s_ldice) .none kV_ldice dc_ldice pm_ldice an_ldice cd_ldice ct_ldice), sl_ldice⟩)
    (c_ldice : PySem.W.codeIn K cd_ldice "_law_dice" = true)
    (k_ldice : PySem.W.keepIn K (.ref f_ldice) = true)
    (x_lnext : PySem.W.nsIn K mainGlobals "_law_next" = some (some (.ref f_lnext)))
    (l_lnext : K.lookup f_lnext = some ⟨oc_lnext, od_lnext, .func (PySem.W.fnOf "_law_next" "_law_next" (defArgs s_lnext) (defBody s_lnext) (defScope s_lnext) .none kV_lnext dc_lnext pm_lnext an_lnext cd_lnext ct_lnext), sl_lnext⟩)
    (c_lnext : PySem.W.codeIn K cd_lnext "_law_next" = true)
    (k_lnext : PySem.W.keepIn K (.ref f_lnext) = true)
    (x_llike : PySem.W.nsIn K mainGlobals "_law_like" = some (some (.ref f_llike)))
    (l_llike : K.lookup f_llike = some ⟨oc_llike, od_llike, .func (PySem.W.fnOf "_law_like" "_law_like" (defArgs s_llike) (defBody s_llike) (defScope s_llike) .none kV_llike dc_llike pm_llike an_llike cd_llike ct_llike), sl_llike⟩)
    (c_llike : PySem.W.codeIn K cd_llike "_law_like" = true)
    (k_llike : PySem.W.keepIn K (.ref f_llike) = true)
    (x_lpick : PySem.W.nsIn K mainGlobals "_law_pick" = some (some (.ref f_lpick)))
    (l_lpick : K.lookup f_lpick = some ⟨oc_lpick, od_lpick, .func (PySem.W.fnOf "_law_pick" "_law_pick" (defArgs s_lpick) (defBody s_lpick) (defScope s_lpick) .none kV_lpick dc_lpick pm_lpick an_lpick cd_lpick ct_lpick), sl_lpick⟩)
    (c_lpick : PySem.W.codeIn K cd_lpick "_law_pick" = true)
    (k_lpick : PySem.W.keepIn K (.ref f_lpick) = true)
    (x_ltold : PySem.W.nsIn K mainGlobals "_law_told" = some (some (.ref f_ltold)))
    (l_ltold : K.lookup f_ltold = some ⟨oc_ltold, od_ltold, .func (PySem.W.fnOf "_law_told" "_law_told" (defArgs s_ltold) (defBody s_ltold) (defScope s_ltold) .none kV_ltold dc_ltold pm_ltold an_ltold cd_ltold ct_ltold), sl_ltold⟩)
    (c_ltold : PySem.W.codeIn K cd_ltold "_law_told" = true)
    (k_ltold : PySem.W.keepIn K (.ref f_ltold) = true)
    (x_lring : PySem.W.nsIn K mainGlobals "_law_ring" = some (some (.ref f_lring)))
    (l_lring : K.lookup f_lring = some ⟨oc_lring, od_lring, .func (PySem.W.fnOf "_law_ring" "_law_ring" (defArgs s_lring) (defBody s_lring) (defScope s_lring) .none kV_lring dc_lring pm_lring an_lring cd_lring ct_lring), sl_lring⟩)
    (c_lring : PySem.W.codeIn K cd_lring "_law_ring" = true)
    (k_lring : PySem.W.keepIn K (.ref f_lring) = true)
    (x_ldays : PySem.W.nsIn K mainGlobals "_law_days" = some (some (.ref f_ldays)))
    (l_ldays : K.lookup f_ldays = some ⟨oc_ldays, od_ldays, .func (PySem.W.fnOf "_law_days" "_law_days" (defArgs s_ldays) (defBody s_ldays) (defScope s_ldays) .none kV_ldays dc_ldays pm_ldays an_ldays cd_ldays ct_ldays), sl_ldays⟩)
    (c_ldays : PySem.W.codeIn K cd_ldays "_law_days" = true)
    (k_ldays : PySem.W.keepIn K (.ref f_ldays) = true)
    (x_lshared : PySem.W.nsIn K mainGlobals "_law_shared" = some (some (.ref f_lshared)))
    (l_lshared : K.lookup f_lshared = some ⟨oc_lshared, od_lshared, .func (PySem.W.fnOf "_law_shared" "_law_shared" (defArgs s_lshared) (defBody s_lshared) (defScope s_lshared) .none kV_lshared dc_lshared pm_lshared an_lshared cd_lshared ct_lshared), sl_lshared⟩)
    (c_lshared : PySem.W.codeIn K cd_lshared "_law_shared" = true)
    (k_lshared : PySem.W.keepIn K (.ref f_lshared) = true)
    (x_law : PySem.W.nsIn K mainGlobals "law" = some (some (.ref f_law)))
    (l_law : K.lookup f_law = some ⟨oc_law, od_law, .func (PySem.W.fnOf "law" "law" (defArgs s_law) (defBody s_law) (defScope s_law) .none kV_law dc_law pm_law an_law cd_law ct_law), sl_law⟩)
    (c_law : PySem.W.codeIn K cd_law "law" = true)
    (k_law : PySem.W.keepIn K (.ref f_law) = true)
    (pgC : PySem.W.plainGet K C Str.empty = true)
    (hdC : PySem.W.hasDictIn K C = true)
    (poC : PySem.W.plainOver K C = true)
    (saC : PySem.W.findIn K (.ref C) "__setattr__" = some (some (.builtin "object.__setattr__")))
    (mkC : PySem.W.makesIn K C = true)
    (kC : PySem.W.keepIn K (.ref C) = true)
    (nD : PySem.W.findIn K (.ref C) "_days" = some none)
    (nS : PySem.W.findIn K (.ref C) "_starts" = some none)
    (v_LATEST : PySem.W.nsIn K mainGlobals "LATEST" = some (some (.int 1000000000000000000 t_LATEST)))
    (v_FEWEST_READERS : PySem.W.nsIn K mainGlobals "FEWEST_READERS" = some (some (.int 2 t_FEWEST_READERS)))
    (v_MOST_READERS : PySem.W.nsIn K mainGlobals "MOST_READERS" = some (some (.int 8 t_MOST_READERS)))
    (v_MOST_DAYS : PySem.W.nsIn K mainGlobals "MOST_DAYS" = some (some (.int 30 t_MOST_DAYS)))
    (v_MOST_BOOKS : PySem.W.nsIn K mainGlobals "MOST_BOOKS" = some (some (.int 12 t_MOST_BOOKS)))
    (v_gcd : PySem.W.nsIn K mainGlobals "gcd" = some (some (.builtin "math.gcd")))
    (z_len : PySem.W.nsIn K mainGlobals "len" = some none)
    (z_sum : PySem.W.nsIn K mainGlobals "sum" = some none)
    (z_max : PySem.W.nsIn K mainGlobals "max" = some none)
    (z_min : PySem.W.nsIn K mainGlobals "min" = some none)
    (z_range : PySem.W.nsIn K mainGlobals "range" = some none)
    (z_int : PySem.W.nsIn K mainGlobals "int" = some none)
    (z_bool : PySem.W.nsIn K mainGlobals "bool" = some none)
    (z_isinstance : PySem.W.nsIn K mainGlobals "isinstance" = some none)
    (z_tuple : PySem.W.nsIn K mainGlobals "tuple" = some none)
    (z_enumerate : PySem.W.nsIn K mainGlobals "enumerate" = some none)
    (z_list : PySem.W.nsIn K mainGlobals "list" = some none)
    (z_str : PySem.W.nsIn K mainGlobals "str" = some none)
    (z_sorted : PySem.W.nsIn K mainGlobals "sorted" = some none)
    (z_zip : PySem.W.nsIn K mainGlobals "zip" = some none)
    (own : LamX.OwnTab K fa h)
    {c_tb P_tb : Addr} {e_tb : Value} {dd_tb : Option Addr} {vs_tb : Array Value} {sl_tb : Array (Option Value)}
    {e0 e1 e2 e3 e4 e5 e6 eE : Addr}
    (tb_c : cd_law = .ref c_tb)
    (tb_l : K.lookup c_tb = some ⟨e_tb, dd_tb, .fields vs_tb, sl_tb⟩)
    (tb_p : vs_tb[11]? = some (.ref P_tb))
    (tb_h : PySem.W.codeHdIn K c_tb P_tb = true)
    (tb_n : K.lookup P_tb = none)
    (x_e0 : PySem.W.nsIn K mainGlobals "InvalidRing" = some (some (.ref e0)))
    (x_e1 : PySem.W.nsIn K mainGlobals "InvalidChain" = some (some (.ref e1)))
    (x_e2 : PySem.W.nsIn K mainGlobals "UnknownReader" = some (some (.ref e2)))
    (x_e3 : PySem.W.nsIn K mainGlobals "UnknownBook" = some (some (.ref e3)))
    (x_e4 : PySem.W.nsIn K mainGlobals "InvalidNumber" = some (some (.ref e4)))
    (x_e5 : PySem.W.nsIn K mainGlobals "SameBook" = some (some (.ref e5)))
    (x_e6 : PySem.W.nsIn K mainGlobals "OtherRing" = some (some (.ref e6)))
    (x_eE : PySem.W.nsIn K mainGlobals "ReadingError" = some (some (.ref eE)))
    (z_VE : PySem.W.nsIn K mainGlobals "ValueError" = some none)
    (xc_n : PySem.W.specialIn K (.builtin "object.__class__") "__get__" = some (some (.builtin "getset_descriptor.__get__")))
    (xc_t : PySem.W.takesIn K (.builtin "object.__class__") = some true)
    (xg3 : PySem.W.findIn K (.ref e3) "__getattribute__" = some (some (.builtin "BaseException.__getattribute__")))
    (xk3 : PySem.W.findIn K (.ref e3) "__getattr__" = some none)
    (xs3 : PySem.W.subIn K (.ref e3) (.type "BaseException") = some true)
    (xd3 : PySem.W.hasDictIn K e3 = true)
    (xa3 : PySem.W.findIn K (.ref e3) "__class__" = some (some (.builtin "object.__class__")))
    (xm3 : PySem.W.mroIn K e3 (.type "object") = some true)
    (xx3 : PySem.W.exmOne K (.ref e3) (.ref eE) = some true)
    (xq3_0 : PySem.W.kitOne K (.ref e3) (.ref e0) = some false)
    (xq3_1 : PySem.W.kitOne K (.ref e3) (.ref e1) = some false)
    (xq3_2 : PySem.W.kitOne K (.ref e3) (.ref e2) = some false)
    (xq3_3 : PySem.W.kitOne K (.ref e3) (.ref e3) = some true)
    (xq3_4 : PySem.W.kitOne K (.ref e3) (.ref e4) = some false)
    (xq3_5 : PySem.W.kitOne K (.ref e3) (.ref e5) = some false)
    (xq3_6 : PySem.W.kitOne K (.ref e3) (.ref e6) = some false)
    (xv3 : PySem.W.kitOne K (.ref e3) (.type "ValueError") = some true)
    (xi3 : PySem.W.excIn K e3 [.type "ValueError", .type "Exception", .type "BaseException", .type "object"] "ValueError.__new__" = true)
    (xt3 : PySem.W.typeIn K (.ref e3) = some (.type "type"))
    (xp3 : PySem.W.keepIn K (.ref e3) = true)
    (xg5 : PySem.W.findIn K (.ref e5) "__getattribute__" = some (some (.builtin "BaseException.__getattribute__")))
    (xk5 : PySem.W.findIn K (.ref e5) "__getattr__" = some none)
    (xs5 : PySem.W.subIn K (.ref e5) (.type "BaseException") = some true)
    (xd5 : PySem.W.hasDictIn K e5 = true)
    (xa5 : PySem.W.findIn K (.ref e5) "__class__" = some (some (.builtin "object.__class__")))
    (xm5 : PySem.W.mroIn K e5 (.type "object") = some true)
    (xx5 : PySem.W.exmOne K (.ref e5) (.ref eE) = some true)
    (xq5_0 : PySem.W.kitOne K (.ref e5) (.ref e0) = some false)
    (xq5_1 : PySem.W.kitOne K (.ref e5) (.ref e1) = some false)
    (xq5_2 : PySem.W.kitOne K (.ref e5) (.ref e2) = some false)
    (xq5_3 : PySem.W.kitOne K (.ref e5) (.ref e3) = some false)
    (xq5_4 : PySem.W.kitOne K (.ref e5) (.ref e4) = some false)
    (xq5_5 : PySem.W.kitOne K (.ref e5) (.ref e5) = some true)
    (xq5_6 : PySem.W.kitOne K (.ref e5) (.ref e6) = some false)
    (xv5 : PySem.W.kitOne K (.ref e5) (.type "ValueError") = some true)
    (xi5 : PySem.W.excIn K e5 [.type "ValueError", .type "Exception", .type "BaseException", .type "object"] "ValueError.__new__" = true)
    (xt5 : PySem.W.typeIn K (.ref e5) = some (.type "type"))
    (xp5 : PySem.W.keepIn K (.ref e5) = true)
    : LamX.LawAtS l w K CX0 12 63 "_law_script" mg fa h := by
  have e := hfa.symm.trans (PySem.W.mg_of X G x_law)
  cases e
  have F_is_number := fun_mk (st := s_is_number) l_is_number c_is_number k_is_number
  have b_is_number := F_is_number.binds (ps := P_is_number) fun _ _ _ _ _ _ us hl => match us, hl with | [_], _ => rfl
  have F_lies_between := fun_mk (st := s_lies_between) l_lies_between c_lies_between k_lies_between
  have b_lies_between := F_lies_between.binds (ps := P_lies_between) fun _ _ _ _ _ _ us hl => match us, hl with | [_, _, _], _ => rfl
  have F_check_number := fun_mk (st := s_check_number) l_check_number c_check_number k_check_number
  have b_check_number := F_check_number.binds (ps := P_check_number) fun _ _ _ _ _ _ us hl => match us, hl with | [_, _, _], _ => rfl
  have F_check_reader := fun_mk (st := s_check_reader) l_check_reader c_check_reader k_check_reader
  have b_check_reader := F_check_reader.binds (ps := P_check_reader) fun _ _ _ _ _ _ us hl => match us, hl with | [_, _], _ => rfl
  have F_rinit := fun_mk (st := s_rinit) l_rinit c_rinit k_rinit
  have b_rinit := F_rinit.binds (ps := P_rinit) fun _ _ _ _ _ _ us hl => match us, hl with | [_, _, _], _ => rfl
  have F_rdays := fun_mk (st := s_rdays) l_rdays c_rdays k_rdays
  have b_rdays := F_rdays.binds (ps := P_rdays) fun _ _ _ _ _ _ us hl => match us, hl with | [_], _ => rfl
  have F_rstarts := fun_mk (st := s_rstarts) l_rstarts c_rstarts k_rstarts
  have b_rstarts := F_rstarts.binds (ps := P_rstarts) fun _ _ _ _ _ _ us hl => match us, hl with | [_], _ => rfl
  have F_rbooks := fun_mk (st := s_rbooks) l_rbooks c_rbooks k_rbooks
  have b_rbooks := F_rbooks.binds (ps := P_rbooks) fun _ _ _ _ _ _ us hl => match us, hl with | [_], _ => rfl
  have F_rpace := fun_mk (st := s_rpace) l_rpace c_rpace k_rpace
  have b_rpace := F_rpace.binds (ps := P_rpace) fun _ _ _ _ _ _ us hl => match us, hl with | [_], _ => rfl
  have F_rlen := fun_mk (st := s_rlen) l_rlen c_rlen k_rlen
  have b_rlen := F_rlen.binds (ps := P_rlen) fun _ _ _ _ _ _ us hl => match us, hl with | [_], _ => rfl
  have F_rcall := fun_mk (st := s_rcall) l_rcall c_rcall k_rcall
  have b_rcall := F_rcall.binds (ps := P_rcall) fun _ _ _ _ _ _ us hl => match us, hl with | [_, _, _], _ => rfl
  have F_check_part := fun_mk (st := s_check_part) l_check_part c_check_part k_check_part
  have b_check_part := F_check_part.binds (ps := P_check_part) fun _ _ _ _ _ _ us hl => match us, hl with | [_, _, _, _], _ => rfl
  have F_slowest_decides := fun_mk (st := s_slowest_decides) l_slowest_decides c_slowest_decides k_slowest_decides
  have b_slowest_decides := F_slowest_decides.binds (ps := P_slowest_decides) fun _ _ _ _ _ _ us hl => match us, hl with | [_, _], _ => rfl
  have F_pace_of := fun_mk (st := s_pace_of) l_pace_of c_pace_of k_pace_of
  have b_pace_of := F_pace_of.binds (ps := P_pace_of) fun _ _ _ _ _ _ us hl => match us, hl with | [_, _], _ => rfl
  have F_round_pace := fun_mk (st := s_round_pace) l_round_pace c_round_pace k_round_pace
  have b_round_pace := F_round_pace.binds (ps := P_round_pace) fun _ _ _ _ _ _ us hl => match us, hl with | [_, _], _ => rfl
  have F_end_day := fun_mk (st := s_end_day) l_end_day c_end_day k_end_day
  have b_end_day := F_end_day.binds (ps := P_end_day) fun _ _ _ _ _ _ us hl => match us, hl with | [_, _, _], _ => rfl
  have F_settled := fun_mk (st := s_settled) l_settled c_settled k_settled
  have b_settled := F_settled.binds (ps := P_settled) fun _ _ _ _ _ _ us hl => match us, hl with | [_], _ => rfl
  have F_first_meeting := fun_mk (st := s_first_meeting) l_first_meeting c_first_meeting k_first_meeting
  have b_first_meeting := F_first_meeting.binds (ps := P_first_meeting) fun _ _ _ _ _ _ us hl => match us, hl with | [_, _, _], _ => rfl
  have F_check_book := fun_mk (st := s_check_book) l_check_book c_check_book k_check_book
  have b_check_book := F_check_book.binds (ps := P_check_book) fun _ _ _ _ _ _ us hl => match us, hl with | [_, _], _ => rfl
  have F_reader_after := fun_mk (st := s_reader_after) l_reader_after c_reader_after k_reader_after
  have b_reader_after := F_reader_after.binds (ps := P_reader_after) fun _ _ _ _ _ _ us hl => match us, hl with | [_, _], _ => rfl
  have F_repetition := fun_mk (st := s_repetition) l_repetition c_repetition k_repetition
  have b_repetition := F_repetition.binds (ps := P_repetition) fun _ _ _ _ _ _ us hl => match us, hl with | [_], _ => rfl
  have F_row_repeats := fun_mk (st := s_row_repeats) l_row_repeats c_row_repeats k_row_repeats
  have b_row_repeats := F_row_repeats.binds (ps := P_row_repeats) fun _ _ _ _ _ _ us hl => match us, hl with | [_, _, _, _], _ => rfl
  have F_last_new_day := fun_mk (st := s_last_new_day) l_last_new_day c_last_new_day k_last_new_day
  have b_last_new_day := F_last_new_day.binds (ps := P_last_new_day) fun _ _ _ _ _ _ us hl => match us, hl with | [_], _ => rfl
  have F_first_stay := fun_mk (st := s_first_stay) l_first_stay c_first_stay k_first_stay
  have b_first_stay := F_first_stay.binds (ps := P_first_stay) fun _ _ _ _ _ _ us hl => match us, hl with | [_, _], _ => rfl
  have F_next_stay := fun_mk (st := s_next_stay) l_next_stay c_next_stay k_next_stay
  have b_next_stay := F_next_stay.binds (ps := P_next_stay) fun _ _ _ _ _ _ us hl => match us, hl with | [_, _], _ => rfl
  have F_ldice := fun_mk (st := s_ldice) l_ldice c_ldice k_ldice
  have b_ldice := F_ldice.binds (ps := P_ldice) fun _ _ _ _ _ _ us hl => match us, hl with | [_], _ => rfl
  have F_lnext := fun_mk (st := s_lnext) l_lnext c_lnext k_lnext
  have b_lnext := F_lnext.binds (ps := P_lnext) fun _ _ _ _ _ _ us hl => match us, hl with | [_, _], _ => rfl
  have F_llike := fun_mk (st := s_llike) l_llike c_llike k_llike
  have b_llike := F_llike.binds (ps := P_llike) fun _ _ _ _ _ _ us hl => match us, hl with | [_, _], _ => rfl
  have F_lpick := fun_mk (st := s_lpick) l_lpick c_lpick k_lpick
  have b_lpick := F_lpick.binds (ps := P_lpick) fun _ _ _ _ _ _ us hl => match us, hl with | [_, _], _ => rfl
  have F_ltold := fun_mk (st := s_ltold) l_ltold c_ltold k_ltold
  have b_ltold := F_ltold.binds (ps := P_ltold) fun _ _ _ _ _ _ us hl => match us, hl with | [_], _ => rfl
  have F_lring := fun_mk (st := s_lring) l_lring c_lring k_lring
  have b_lring := F_lring.binds (ps := P_lring) fun _ _ _ _ _ _ us hl => match us, hl with | [_, _, _], _ => rfl
  have F_ldays := fun_mk (st := s_ldays) l_ldays c_ldays k_ldays
  have b_ldays := F_ldays.binds (ps := P_ldays) fun _ _ _ _ _ _ us hl => match us, hl with | [_, _, _], _ => rfl
  have F_lshared := fun_mk (st := s_lshared) l_lshared c_lshared k_lshared
  have b_lshared := F_lshared.binds (ps := P_lshared) fun _ _ _ _ _ _ us hl => match us, hl with | [_, _, _], _ => rfl
  have F_law := fun_mk (st := s_law) l_law c_law k_law
  have b_law := F_law.binds (ps := P_law) fun _ _ _ _ _ _ us hl => match us, hl with | [_], _ => rfl
  cases tb_c
  refine ⟨PySem.W.fnOf "law" "law" (defArgs s_law) (defBody s_law) (defScope s_law) .none kV_law dc_law pm_law an_law (.ref c_tb) ct_law, [(c_tb, P_tb)], spLawL K P_tb, fun p hp => ?_, fun p hp => ?_, fun p hp => ?_, fun s v => .of_eq rfl, fun H a ns hl hb ht hS => ?_, fun base _ _ hTB => ?_⟩
  · cases List.mem_singleton.mp hp
    exact own _ _ _ _ _ _ _ _ l_law rfl rfl tb_l tb_p
  · cases List.mem_singleton.mp hp
    exact tb_n
  · cases List.mem_singleton.mp hp
    exact PySem.W.codeHd_of_K X tb_h
  · exact ⟨a, ns, rfl, hS, hl, ht _ (List.mem_singleton.mpr rfl), fun _ => rfl⟩
  · exact ok_law (mg := mg) (cT := c_tb) (PT := P_tb)
     {
    C := C,
    a_is_number := f_is_number, d_is_number := _, F_is_number := F_is_number, b_is_number := b_is_number,
    g_is_number := PySem.W.mg_of X G x_is_number,
    a_lies_between := f_lies_between, d_lies_between := _, F_lies_between := F_lies_between, b_lies_between := b_lies_between,
    g_lies_between := PySem.W.mg_of X G x_lies_between,
    a_check_number := f_check_number, d_check_number := _, F_check_number := F_check_number, b_check_number := b_check_number,
    g_check_number := PySem.W.mg_of X G x_check_number,
    a_check_reader := f_check_reader, d_check_reader := _, F_check_reader := F_check_reader, b_check_reader := b_check_reader,
    g_check_reader := PySem.W.mg_of X G x_check_reader,
    a_rinit := f_rinit, d_rinit := _, F_rinit := F_rinit, b_rinit := b_rinit,
    a_rdays := f_rdays, d_rdays := _, F_rdays := F_rdays, b_rdays := b_rdays,
    a_rstarts := f_rstarts, d_rstarts := _, F_rstarts := F_rstarts, b_rstarts := b_rstarts,
    a_rbooks := f_rbooks, d_rbooks := _, F_rbooks := F_rbooks, b_rbooks := b_rbooks,
    a_rpace := f_rpace, d_rpace := _, F_rpace := F_rpace, b_rpace := b_rpace,
    a_rlen := f_rlen, d_rlen := _, F_rlen := F_rlen, b_rlen := b_rlen,
    a_rcall := f_rcall, d_rcall := _, F_rcall := F_rcall, b_rcall := b_rcall,
    a_check_part := f_check_part, d_check_part := _, F_check_part := F_check_part, b_check_part := b_check_part,
    g_check_part := PySem.W.mg_of X G x_check_part,
    a_slowest_decides := f_slowest_decides, d_slowest_decides := _, F_slowest_decides := F_slowest_decides, b_slowest_decides := b_slowest_decides,
    g_slowest_decides := PySem.W.mg_of X G x_slowest_decides,
    a_pace_of := f_pace_of, d_pace_of := _, F_pace_of := F_pace_of, b_pace_of := b_pace_of,
    g_pace_of := PySem.W.mg_of X G x_pace_of,
    a_round_pace := f_round_pace, d_round_pace := _, F_round_pace := F_round_pace, b_round_pace := b_round_pace,
    g_round_pace := PySem.W.mg_of X G x_round_pace,
    a_end_day := f_end_day, d_end_day := _, F_end_day := F_end_day, b_end_day := b_end_day,
    g_end_day := PySem.W.mg_of X G x_end_day,
    a_settled := f_settled, d_settled := _, F_settled := F_settled, b_settled := b_settled,
    g_settled := PySem.W.mg_of X G x_settled,
    a_first_meeting := f_first_meeting, d_first_meeting := _, F_first_meeting := F_first_meeting, b_first_meeting := b_first_meeting,
    g_first_meeting := PySem.W.mg_of X G x_first_meeting,
    a_check_book := f_check_book, d_check_book := _, F_check_book := F_check_book, b_check_book := b_check_book,
    g_check_book := PySem.W.mg_of X G x_check_book,
    a_reader_after := f_reader_after, d_reader_after := _, F_reader_after := F_reader_after, b_reader_after := b_reader_after,
    g_reader_after := PySem.W.mg_of X G x_reader_after,
    a_repetition := f_repetition, d_repetition := _, F_repetition := F_repetition, b_repetition := b_repetition,
    g_repetition := PySem.W.mg_of X G x_repetition,
    a_row_repeats := f_row_repeats, d_row_repeats := _, F_row_repeats := F_row_repeats, b_row_repeats := b_row_repeats,
    g_row_repeats := PySem.W.mg_of X G x_row_repeats,
    a_last_new_day := f_last_new_day, d_last_new_day := _, F_last_new_day := F_last_new_day, b_last_new_day := b_last_new_day,
    g_last_new_day := PySem.W.mg_of X G x_last_new_day,
    a_first_stay := f_first_stay, d_first_stay := _, F_first_stay := F_first_stay, b_first_stay := b_first_stay,
    g_first_stay := PySem.W.mg_of X G x_first_stay,
    a_next_stay := f_next_stay, d_next_stay := _, F_next_stay := F_next_stay, b_next_stay := b_next_stay,
    g_next_stay := PySem.W.mg_of X G x_next_stay,
    a_ldice := f_ldice, d_ldice := _, F_ldice := F_ldice, b_ldice := b_ldice,
    g_ldice := PySem.W.mg_of X G x_ldice,
    a_lnext := f_lnext, d_lnext := _, F_lnext := F_lnext, b_lnext := b_lnext,
    g_lnext := PySem.W.mg_of X G x_lnext,
    a_llike := f_llike, d_llike := _, F_llike := F_llike, b_llike := b_llike,
    g_llike := PySem.W.mg_of X G x_llike,
    a_lpick := f_lpick, d_lpick := _, F_lpick := F_lpick, b_lpick := b_lpick,
    g_lpick := PySem.W.mg_of X G x_lpick,
    a_ltold := f_ltold, d_ltold := _, F_ltold := F_ltold, b_ltold := b_ltold,
    g_ltold := PySem.W.mg_of X G x_ltold,
    a_lring := f_lring, d_lring := _, F_lring := F_lring, b_lring := b_lring,
    g_lring := PySem.W.mg_of X G x_lring,
    a_ldays := f_ldays, d_ldays := _, F_ldays := F_ldays, b_ldays := b_ldays,
    g_ldays := PySem.W.mg_of X G x_ldays,
    a_lshared := f_lshared, d_lshared := _, F_lshared := F_lshared, b_lshared := b_lshared,
    g_lshared := PySem.W.mg_of X G x_lshared,
    a_law := _, d_law := _, F_law := F_law, b_law := b_law,
    g_law := PySem.W.mg_of X G x_law,
    cl := ⟨pgC, hdC, poC, saC⟩, nD := nD, nS := nS, mkR := ⟨mkC, x_rinit, i_rinit, kC⟩, gC := PySem.W.mg_of X G aC,
    p_rdays := pp_rdays, q_rdays := ⟨pa_rdays, pg_rdays, pt_rdays, ⟨_, pr_rdays⟩⟩,
    p_rstarts := pp_rstarts, q_rstarts := ⟨pa_rstarts, pg_rstarts, pt_rstarts, ⟨_, pr_rstarts⟩⟩,
    p_rbooks := pp_rbooks, q_rbooks := ⟨pa_rbooks, pg_rbooks, pt_rbooks, ⟨_, pr_rbooks⟩⟩,
    p_rpace := pp_rpace, q_rpace := ⟨pa_rpace, pg_rpace, pt_rpace, ⟨_, pr_rpace⟩⟩,
    lenC := x_rlen, lenF := i_rlen, callC := ⟨x_rcall, i_rcall, j_rcall⟩,
    c_LATEST := ⟨_, PySem.W.mg_of X G v_LATEST⟩,
    c_FEWEST_READERS := ⟨_, PySem.W.mg_of X G v_FEWEST_READERS⟩,
    c_MOST_READERS := ⟨_, PySem.W.mg_of X G v_MOST_READERS⟩,
    c_MOST_DAYS := ⟨_, PySem.W.mg_of X G v_MOST_DAYS⟩,
    c_MOST_BOOKS := ⟨_, PySem.W.mg_of X G v_MOST_BOOKS⟩,
    g_gcd := PySem.W.mg_of X G v_gcd,
    z_len := PySem.W.mg_none_of X G z_len,
    z_sum := PySem.W.mg_none_of X G z_sum,
    z_max := PySem.W.mg_none_of X G z_max,
    z_min := PySem.W.mg_none_of X G z_min,
    z_range := PySem.W.mg_none_of X G z_range,
    z_int := PySem.W.mg_none_of X G z_int,
    z_bool := PySem.W.mg_none_of X G z_bool,
    z_isinstance := PySem.W.mg_none_of X G z_isinstance,
    z_tuple := PySem.W.mg_none_of X G z_tuple,
    z_enumerate := PySem.W.mg_none_of X G z_enumerate,
    z_list := PySem.W.mg_none_of X G z_list,
    z_str := PySem.W.mg_none_of X G z_str,
    z_sorted := PySem.W.mg_none_of X G z_sorted,
    z_zip := PySem.W.mg_none_of X G z_zip }
     { c0 := e0, c1 := e1, c2 := e2, c3 := e3, c4 := e4, c5 := e5, c6 := e6, cE := eE, g0 := PySem.W.mg_of X G x_e0, g1 := PySem.W.mg_of X G x_e1, g2 := PySem.W.mg_of X G x_e2, g3 := PySem.W.mg_of X G x_e3, g4 := PySem.W.mg_of X G x_e4, g5 := PySem.W.mg_of X G x_e5, g6 := PySem.W.mg_of X G x_e6, gE := PySem.W.mg_of X G x_eE, zV := PySem.W.mg_none_of X G z_VE, zI := PySem.W.mg_none_of X G z_isinstance }
     ⟨⟨by decide, by decide, ⟨xg3, xk3, xs3, xd3, xa3, xc_n, xc_t, xm3⟩, xx3, xq3_0, xq3_1, xq3_2, xq3_3, xq3_4, xq3_5, xq3_6, xv3⟩, PySem.W.mg_of X G x_e3, xi3, xs3, xt3, xp3⟩
     ⟨⟨by decide, by decide, ⟨xg5, xk5, xs5, xd5, xa5, xc_n, xc_t, xm5⟩, xx5, xq5_0, xq5_1, xq5_2, xq5_3, xq5_4, xq5_5, xq5_6, xv5⟩, PySem.W.mg_of X G x_e5, xi5, xs5, xt5, xp5⟩
     (hTB _ (List.mem_singleton.mpr rfl))
     ⟨⟨_, _, _, _, _, _, _, _, rfl, l_law, c_law⟩⟩

end Rp
open PySem PySem.W PyProof.Rows
set_option maxRecDepth 100000 in
set_option maxHeartbeats 0 in
theorem PySem.Challenge.cw_readingring_k05_books_that_meet_holds : PySem.Challenge.rw_readingring_k05_books_that_meet.Holds := by
  w_on; o_law; k_head; (case hw => w_witness2)
  k_fill
  refine LamX.walk_ofOwn (l := PySem.Challenge.rw_readingring_k05_books_that_meet) (n := 63) (k := 12) (x := "_law_script") (CX := fun _ => L2.CX0) rfl (by decide) rfl ⟨rfl, by decide, by decide⟩ (by decide +kernel) (fun w h Y => PySem.W.km_in_of Y) ?F (fun _ _ _ _ _ h => h)
  case F =>
    intro w mg fa h Y KX G hmg own
    refine' Rp.all_mk KX G hmg ?aC ?x_is_number ?l_is_number ?c_is_number ?k_is_number ?x_lies_between ?l_lies_between ?c_lies_between ?k_lies_between ?x_check_number ?l_check_number ?c_check_number ?k_check_number ?x_check_reader ?l_check_reader ?c_check_reader ?k_check_reader ?x_rinit ?i_rinit ?l_rinit ?c_rinit ?k_rinit ?pa_rdays ?pg_rdays ?pt_rdays ?pr_rdays ?l_rdays ?c_rdays ?k_rdays ?pa_rstarts ?pg_rstarts ?pt_rstarts ?pr_rstarts ?l_rstarts ?c_rstarts ?k_rstarts ?pa_rbooks ?pg_rbooks ?pt_rbooks ?pr_rbooks ?l_rbooks ?c_rbooks ?k_rbooks ?pa_rpace ?pg_rpace ?pt_rpace ?pr_rpace ?l_rpace ?c_rpace ?k_rpace ?x_rlen ?i_rlen ?l_rlen ?c_rlen ?k_rlen ?x_rcall ?i_rcall ?j_rcall ?l_rcall ?c_rcall ?k_rcall ?x_check_part ?l_check_part ?c_check_part ?k_check_part ?x_slowest_decides ?l_slowest_decides ?c_slowest_decides ?k_slowest_decides ?x_pace_of ?l_pace_of ?c_pace_of ?k_pace_of ?x_round_pace ?l_round_pace ?c_round_pace ?k_round_pace ?x_end_day ?l_end_day ?c_end_day ?k_end_day ?x_settled ?l_settled ?c_settled ?k_settled ?x_first_meeting ?l_first_meeting ?c_first_meeting ?k_first_meeting ?x_check_book ?l_check_book ?c_check_book ?k_check_book ?x_reader_after ?l_reader_after ?c_reader_after ?k_reader_after ?x_repetition ?l_repetition ?c_repetition ?k_repetition ?x_row_repeats ?l_row_repeats ?c_row_repeats ?k_row_repeats ?x_last_new_day ?l_last_new_day ?c_last_new_day ?k_last_new_day ?x_first_stay ?l_first_stay ?c_first_stay ?k_first_stay ?x_next_stay ?l_next_stay ?c_next_stay ?k_next_stay ?x_ldice ?l_ldice ?c_ldice ?k_ldice ?x_lnext ?l_lnext ?c_lnext ?k_lnext ?x_llike ?l_llike ?c_llike ?k_llike ?x_lpick ?l_lpick ?c_lpick ?k_lpick ?x_ltold ?l_ltold ?c_ltold ?k_ltold ?x_lring ?l_lring ?c_lring ?k_lring ?x_ldays ?l_ldays ?c_ldays ?k_ldays ?x_lshared ?l_lshared ?c_lshared ?k_lshared ?x_law ?l_law ?c_law ?k_law ?pgC ?hdC ?poC ?saC ?mkC ?kC ?nD ?nS ?v_LATEST ?v_FEWEST_READERS ?v_MOST_READERS ?v_MOST_DAYS ?v_MOST_BOOKS ?v_gcd ?z_len ?z_sum ?z_max ?z_min ?z_range ?z_int ?z_bool ?z_isinstance ?z_tuple ?z_enumerate ?z_list ?z_str ?z_sorted ?z_zip own ?tb_c ?tb_l ?tb_p ?tb_h ?tb_n ?x_e0 ?x_e1 ?x_e2 ?x_e3 ?x_e4 ?x_e5 ?x_e6 ?x_eE ?z_VE ?xc_n ?xc_t ?xg3 ?xk3 ?xs3 ?xd3 ?xa3 ?xm3 ?xx3 ?xq3_0 ?xq3_1 ?xq3_2 ?xq3_3 ?xq3_4 ?xq3_5 ?xq3_6 ?xv3 ?xi3 ?xt3 ?xp3 ?xg5 ?xk5 ?xs5 ?xd5 ?xa5 ?xm5 ?xx5 ?xq5_0 ?xq5_1 ?xq5_2 ?xq5_3 ?xq5_4 ?xq5_5 ?xq5_6 ?xv5 ?xi5 ?xt5 ?xp5
    (case aC => k_is); (case x_is_number => k_is); (case l_is_number => k_is); (case c_is_number => k_is); (case k_is_number => k_is); (case x_lies_between => k_is); (case l_lies_between => k_is); (case c_lies_between => k_is)
    (case k_lies_between => k_is); (case x_check_number => k_is); (case l_check_number => k_is); (case c_check_number => k_is); (case k_check_number => k_is); (case x_check_reader => k_is); (case l_check_reader => k_is); (case c_check_reader => k_is)
    (case k_check_reader => k_is); (case x_rinit => k_is); (case i_rinit => k_is); (case l_rinit => k_is); (case c_rinit => k_is); (case k_rinit => k_is); (case pa_rdays => k_is); (case pg_rdays => k_is)
    (case pt_rdays => k_is); (case pr_rdays => k_is); (case l_rdays => k_is); (case c_rdays => k_is); (case k_rdays => k_is); (case pa_rstarts => k_is); (case pg_rstarts => k_is); (case pt_rstarts => k_is)
    (case pr_rstarts => k_is); (case l_rstarts => k_is); (case c_rstarts => k_is); (case k_rstarts => k_is); (case pa_rbooks => k_is); (case pg_rbooks => k_is); (case pt_rbooks => k_is); (case pr_rbooks => k_is)
    (case l_rbooks => k_is); (case c_rbooks => k_is); (case k_rbooks => k_is); (case pa_rpace => k_is); (case pg_rpace => k_is); (case pt_rpace => k_is); (case pr_rpace => k_is); (case l_rpace => k_is)
    (case c_rpace => k_is); (case k_rpace => k_is); (case x_rlen => k_is); (case i_rlen => k_is); (case l_rlen => k_is); (case c_rlen => k_is); (case k_rlen => k_is); (case x_rcall => k_is)
    (case i_rcall => k_is); (case j_rcall => k_is); (case l_rcall => k_is); (case c_rcall => k_is); (case k_rcall => k_is); (case x_check_part => k_is); (case l_check_part => k_is); (case c_check_part => k_is)
    (case k_check_part => k_is); (case x_slowest_decides => k_is); (case l_slowest_decides => k_is); (case c_slowest_decides => k_is); (case k_slowest_decides => k_is); (case x_pace_of => k_is); (case l_pace_of => k_is); (case c_pace_of => k_is)
    (case k_pace_of => k_is); (case x_round_pace => k_is); (case l_round_pace => k_is); (case c_round_pace => k_is); (case k_round_pace => k_is); (case x_end_day => k_is); (case l_end_day => k_is); (case c_end_day => k_is)
    (case k_end_day => k_is); (case x_settled => k_is); (case l_settled => k_is); (case c_settled => k_is); (case k_settled => k_is); (case x_first_meeting => k_is); (case l_first_meeting => k_is); (case c_first_meeting => k_is)
    (case k_first_meeting => k_is); (case x_check_book => k_is); (case l_check_book => k_is); (case c_check_book => k_is); (case k_check_book => k_is); (case x_reader_after => k_is); (case l_reader_after => k_is); (case c_reader_after => k_is)
    (case k_reader_after => k_is); (case x_repetition => k_is); (case l_repetition => k_is); (case c_repetition => k_is); (case k_repetition => k_is); (case x_row_repeats => k_is); (case l_row_repeats => k_is); (case c_row_repeats => k_is)
    (case k_row_repeats => k_is); (case x_last_new_day => k_is); (case l_last_new_day => k_is); (case c_last_new_day => k_is); (case k_last_new_day => k_is); (case x_first_stay => k_is); (case l_first_stay => k_is); (case c_first_stay => k_is)
    (case k_first_stay => k_is); (case x_next_stay => k_is); (case l_next_stay => k_is); (case c_next_stay => k_is); (case k_next_stay => k_is); (case x_ldice => k_is); (case l_ldice => k_is); (case c_ldice => k_is)
    (case k_ldice => k_is); (case x_lnext => k_is); (case l_lnext => k_is); (case c_lnext => k_is); (case k_lnext => k_is); (case x_llike => k_is); (case l_llike => k_is); (case c_llike => k_is)
    (case k_llike => k_is); (case x_lpick => k_is); (case l_lpick => k_is); (case c_lpick => k_is); (case k_lpick => k_is); (case x_ltold => k_is); (case l_ltold => k_is); (case c_ltold => k_is)
    (case k_ltold => k_is); (case x_lring => k_is); (case l_lring => k_is); (case c_lring => k_is); (case k_lring => k_is); (case x_ldays => k_is); (case l_ldays => k_is); (case c_ldays => k_is)
    (case k_ldays => k_is); (case x_lshared => k_is); (case l_lshared => k_is); (case c_lshared => k_is); (case k_lshared => k_is); (case x_law => k_is); (case l_law => k_is); (case c_law => k_is)
    (case k_law => k_is); (case pgC => k_is); (case hdC => k_is); (case poC => k_is); (case saC => k_is); (case mkC => k_is); (case kC => k_is); (case nD => k_is)
    (case nS => k_is); (case v_LATEST => k_is); (case v_FEWEST_READERS => k_is); (case v_MOST_READERS => k_is); (case v_MOST_DAYS => k_is); (case v_MOST_BOOKS => k_is); (case v_gcd => k_is); (case z_len => k_is)
    (case z_sum => k_is); (case z_max => k_is); (case z_min => k_is); (case z_range => k_is); (case z_int => k_is); (case z_bool => k_is); (case z_isinstance => k_is); (case z_tuple => k_is)
    (case z_enumerate => k_is); (case z_list => k_is); (case z_str => k_is); (case z_sorted => k_is); (case z_zip => k_is)
    (case tb_c => first | exact rfl | k_is | k_exc | decide +kernel)
    (case tb_l => first | exact rfl | k_is | k_exc | decide +kernel)
    (case tb_p => first | exact rfl | k_is | k_exc | decide +kernel)
    (case tb_h => first | exact rfl | k_is | k_exc | decide +kernel)
    (case tb_n => first | exact rfl | k_is | k_exc | decide +kernel)
    (case x_e0 => first | exact rfl | k_is | k_exc | decide +kernel)
    (case x_e1 => first | exact rfl | k_is | k_exc | decide +kernel)
    (case x_e2 => first | exact rfl | k_is | k_exc | decide +kernel)
    (case x_e3 => first | exact rfl | k_is | k_exc | decide +kernel)
    (case x_e4 => first | exact rfl | k_is | k_exc | decide +kernel)
    (case x_e5 => first | exact rfl | k_is | k_exc | decide +kernel)
    (case x_e6 => first | exact rfl | k_is | k_exc | decide +kernel)
    (case x_eE => first | exact rfl | k_is | k_exc | decide +kernel)
    (case z_VE => first | exact rfl | k_is | k_exc | decide +kernel)
    (case xc_n => first | exact rfl | k_is | k_exc | decide +kernel)
    (case xc_t => first | exact rfl | k_is | k_exc | decide +kernel)
    (case xg3 => first | exact rfl | k_is | k_exc | decide +kernel)
    (case xk3 => first | exact rfl | k_is | k_exc | decide +kernel)
    (case xs3 => first | exact rfl | k_is | k_exc | decide +kernel)
    (case xd3 => first | exact rfl | k_is | k_exc | decide +kernel)
    (case xa3 => first | exact rfl | k_is | k_exc | decide +kernel)
    (case xm3 => first | exact rfl | k_is | k_exc | decide +kernel)
    (case xx3 => first | exact rfl | k_is | k_exc | decide +kernel)
    (case xq3_0 => first | exact rfl | k_is | k_exc | decide +kernel)
    (case xq3_1 => first | exact rfl | k_is | k_exc | decide +kernel)
    (case xq3_2 => first | exact rfl | k_is | k_exc | decide +kernel)
    (case xq3_3 => first | exact rfl | k_is | k_exc | decide +kernel)
    (case xq3_4 => first | exact rfl | k_is | k_exc | decide +kernel)
    (case xq3_5 => first | exact rfl | k_is | k_exc | decide +kernel)
    (case xq3_6 => first | exact rfl | k_is | k_exc | decide +kernel)
    (case xv3 => first | exact rfl | k_is | k_exc | decide +kernel)
    (case xi3 => first | exact rfl | k_is | k_exc | decide +kernel)
    (case xt3 => first | exact rfl | k_is | k_exc | decide +kernel)
    (case xp3 => first | exact rfl | k_is | k_exc | decide +kernel)
    (case xg5 => first | exact rfl | k_is | k_exc | decide +kernel)
    (case xk5 => first | exact rfl | k_is | k_exc | decide +kernel)
    (case xs5 => first | exact rfl | k_is | k_exc | decide +kernel)
    (case xd5 => first | exact rfl | k_is | k_exc | decide +kernel)
    (case xa5 => first | exact rfl | k_is | k_exc | decide +kernel)
    (case xm5 => first | exact rfl | k_is | k_exc | decide +kernel)
    (case xx5 => first | exact rfl | k_is | k_exc | decide +kernel)
    (case xq5_0 => first | exact rfl | k_is | k_exc | decide +kernel)
    (case xq5_1 => first | exact rfl | k_is | k_exc | decide +kernel)
    (case xq5_2 => first | exact rfl | k_is | k_exc | decide +kernel)
    (case xq5_3 => first | exact rfl | k_is | k_exc | decide +kernel)
    (case xq5_4 => first | exact rfl | k_is | k_exc | decide +kernel)
    (case xq5_5 => first | exact rfl | k_is | k_exc | decide +kernel)
    (case xq5_6 => first | exact rfl | k_is | k_exc | decide +kernel)
    (case xv5 => first | exact rfl | k_is | k_exc | decide +kernel)
    (case xi5 => first | exact rfl | k_is | k_exc | decide +kernel)
    (case xt5 => first | exact rfl | k_is | k_exc | decide +kernel)
    (case xp5 => first | exact rfl | k_is | k_exc | decide +kernel)
