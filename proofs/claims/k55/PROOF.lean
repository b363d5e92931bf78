import PyProof.Rows.All
import Wide.All
import OpenK.AllK
import Wide.FinOn
import PyProof.EqAt
import PyProof.EqKinds
import PyProof.TupleCall
import HandS.ForMost
import HandS.Walk
import HandS.Property
import HandS.Star
import HandS.IsInst
import HandS.Gcd
import HandS.Flow
import KE.KTupSum
import KE.GoesEnum
import KE.KOpsOwn
import HandS.Strs
import HandS.Conv
import HandS.Sort
import KE.KMathGC
import HandS.TupAny
import KE.KEqDeep
import HandS.Style
import HandS.Iter
import HandS.OwnEq
import PySem.Challenge.RW_readingring_k55_whole_rings_from_another
set_option Elab.async false
set_option linter.all false
set_option maxRecDepth 100000
set_option maxHeartbeats 8000000
/-! Rules beside the layer's: len of an own instance, enumerate over a tuple, sum and max of a tuple. -/
namespace Rz
open PySem PySem.Spec PyProof.Rows L2

section
variable {X : Cx}
/-! ### len(o), o an instance whose class defines it -/
def rLenI (C : Addr) (sp : Sp) (E : XK) : List V → Hp → VK → Prop := fun xs H Q => ∃ a dx fs, xs = [.ref a] ∧ H a = some (.ins C dx fs) ∧
  sp [.ref a] H (fun v H' => ∃ n : Int, v = .int n ∧ 0 ≤ n ∧ n < 2 ^ 63 ∧ Q (.int n) H') E
theorem call_lenI {CX : CXT} {k : Nat} {f C : Addr} {sp : Sp} {E : XK} (hs : PySem.W.findIn X.K (.ref C) "__len__" = some (some (.ref f))) (hf : PySem.W.isFn X.K (.ref f) = true)
    (F : FnR X.prog X.w X.K X.mg X.base CX k f sp) (hr : Room (k + 1) X.A) (hx : Passes CX X E) : CallR X (.builtin "len") (rLenI C sp E) := by
  intro pins s σ H xs us Q I r h
  obtain ⟨a, dx, fs, rfl, ea, q⟩ := h
  rw [Vals.ref1 r]
  obtain ⟨mA, O, _⟩ := ins_get I.hok ea
  obtain ⟨od, J, _⟩ := O.look
  have hc : wpAny (model X.prog X.w) X.A.in1 (call (.ref f) [.ref a]) (EP X pins σ (fun v H' => ∃ n : Int, v = .int n ∧ 0 ≤ n ∧ n < 2 ^ 63 ∧ Q (.int n) H')) X.xe s := by
    refine wpAny_call (codeAny_mono (F X.A.in1 X.stack s H [.ref a] [.ref a] _ E hr.in1 I.env0.in1 (.cons rfl .nil) q) fun r s' hq => ?_)
    cases r with
    | error e => exact hx pins σ H s e s' I hq
    | ok fl =>
      cases fl with
      | ret u => exact I.after hq
      | next => exact False.elim hq
      | brk => exact False.elim hq
      | cont => exact False.elim hq
  refine Calls.call_function_entry kind_len plain_len entry_len (args_len1 _) ?_
  unfold Builtin.«len»
  refine wpAny_bind (m := oneArg "len" _) (wpAny_pure ?_)
  refine wpAny_bind (m := callSpecial? (.ref a) (Str.ofString "__len__")) (PySem.W.special_fn I.kIn J hs (beq_iff_eq.mp hf) (wpAny_mono hc (fun r s' hr => ?_) fun _ _ y => y))
  obtain ⟨v, H', I', rv, n, rfl, h0, h1, hq⟩ := hr
  obtain ⟨t, rfl⟩ := rv
  refine wpAny_bind (wpAny_holding (wpAny_pure ?_))
  refine wpAny_bind (wpAny_letGo ?_)
  show wpAny _ _ (if n < 0 then _ else _) _ _ _
  rw [if_neg (by omega)]
  show wpAny _ _ (if n ≥ 2 ^ 63 then _ else _) _ _ _
  rw [if_neg (by omega)]
  exact wpAny_bind (wpAny_mkInt (wpAny_pure ⟨_, rfl, ⟨.int n, H', I'.tok _, ⟨_, rfl⟩, hq⟩⟩))

/-! ### sum, max of a tuple of ints -/
def rSumT (K : PySem.W.Frag) : List V → Hp → VK → Prop := fun vs H Q => ∃ (a : Addr) (ns : List Int), vs = [V.ref a] ∧ SqT K H a (ns.map V.int) ∧ Q (.int ns.sum) H
def rMaxT (K : PySem.W.Frag) : List V → Hp → VK → Prop := fun vs H Q => ∃ (a : Addr) (ns : List Int), vs = [V.ref a] ∧ SqT K H a (ns.map V.int) ∧ 0 < ns.length ∧
  ∀ m, m ∈ ns → (∀ y, y ∈ ns → y ≤ m) → Q (.int m) H
theorem cr_sumT (hc : X.calm = true) : CallR X (.builtin "sum") (rSumT X.K) := by
  intro pins s σ H vs us Q I r h
  obtain ⟨a, ns, rfl, hs, q⟩ := h
  obtain ⟨its, rv, hl, _⟩ := I.tuple hs
  rw [Vals.ref1 r]
  have hi := rv.ints
  have hl' : s.heap.IsTuple a its.toArray := hl
  obtain ⟨xs, e⟩ := hi.allInts.items
  have hn : numsOf (intItems xs).toList = ns := by rw [← e]; exact hi.numsOf
  rw [nums_intItems] at hn
  rw [e] at hl'
  refine PySem.W.ktm_sumG (I.ok.hd hc) hl' fun h' tk t' hk => ?_
  have J : Inv X pins σ H { s with heap := h', toks := tk } := I.kept hk
  refine ⟨.int ns.sum, H, J, ⟨t', ?_⟩, q⟩
  rw [preSum_eq, List.take_of_length_le (by simp), hn]
theorem max_tup {prog : Program} {w : World} {A : Around} {E : Value → Shared → Prop} {s : Shared} {l : Addr} {xs : Array (Int × Tok)} {Q : Value → Shared → Prop} (hh : A.handled = none) (ht : s.heap.IsTuple l (intItems xs)) (hne : 0 < xs.size)
    (h : ∀ v h' tk, (intItems xs)[argBest (fun i j => decide (numAt xs i > numAt xs j)) (xs.size - 1)]? = some v → (∀ b o, s.heap.get? b = some o → h'.get? b = some o) → Q v { s with heap := h', toks := tk }) :
    wpAny (model prog w) A (call (.builtin "max") [.ref l]) Q E s := by
  obtain ⟨o, ho, hc, n, hd⟩ := id ht
  have hlt : l < s.heap.objs.size := Heap.lt_size ho
  refine call_max_walk (wpAny_pyIter_tuple ht ?_)
  refine ⟨s.heap.objs.size, _, _, _, _, _, _, rfl, Walks.tuple (A := A.in1) hh _ l (Nat.ne_of_lt hlt) (intItems xs), ⟨⟨_, Heap.get?_push_size _ rfl, rfl, rfl⟩, ht.at fun o e => Heap.get?_push_of_some _ e⟩, fun b hb => ?_, by simpa [intItems] using hne,
    CmpOf.ints_gt (numAt xs) (fun _ _ => intItems_at), fun v h' tk hP hk => ?_⟩
  · rcases List.mem_cons.mp hb with rfl | hb
    · exact Heap.lt_size (Heap.get?_push_size _ rfl)
    · obtain rfl := List.mem_singleton.mp hb
      exact Heap.lt_size (Heap.get?_push_of_some _ ho)
  · refine h v h' tk (by simpa [intItems] using hP) fun b o e => ?_
    refine hk b o (fun hm => ?_) (Heap.get?_push_of_some _ e)
    have := List.mem_singleton.mp hm
    exact absurd (this ▸ Heap.lt_size e) (Nat.lt_irrefl _)
theorem cr_maxT (hc : X.calm = true) : CallR X (.builtin "max") (rMaxT X.K) := by
  intro pins s σ H vs us Q I r h
  obtain ⟨a, ns, rfl, hs, hne, q⟩ := h
  obtain ⟨its, rv, hl, _⟩ := I.tuple hs
  rw [Vals.ref1 r]
  have hi := rv.ints
  have hl' : s.heap.IsTuple a its.toArray := hl
  obtain ⟨xs, e⟩ := hi.allInts.items
  have hn : numsOf (intItems xs).toList = ns := by rw [← e]; exact hi.numsOf
  rw [nums_intItems] at hn
  subst hn
  rw [e] at hl'
  have hsz : 0 < xs.size := by simpa using hne
  refine max_tup (I.ok.hd hc) hl' hsz fun v h' tk hv hk => ?_
  obtain ⟨t, rfl⟩ := intItems_at hv
  obtain ⟨h1, h2⟩ := argBest_gt (numAt xs) (xs.size - 1)
  refine ⟨.int _, H, I.kept hk, ⟨t, rfl⟩, q _ ?_ fun a ha => ?_⟩
  · rw [numAt_eq]; exact PySem.getD_mem (by rw [List.length_map, Array.length_toList]; omega)
  · obtain ⟨j, hj, rfl⟩ := mem_getD ha
    rw [List.length_map, Array.length_toList] at hj
    rw [← numAt_eq]; exact h2 j (by omega)
end

/-! ### enumerate(t), t a tuple -/
theorem meets_enumerate_newT (l : Addr) (items : Array Value) (n : Nat) (dct : Option Addr) (sl : Array (Option Value)) :
    Meets (Builtin.«enumerate.__new__» ⟨[.type "enumerate", .ref l], []⟩) (fun _ R s => s.heap.get? l = some { cls := .type "tuple", dict := dct, data := .seq items n, slots := sl } ∧
      R (.ok (.ret (.ref (s.heap.push { cls := .type "tuple_iterator", data := .fields #[.ref l, .int 0 0] }).objs.size)))
        { s with heap := (s.heap.push { cls := .type "tuple_iterator", data := .fields #[.ref l, .int 0 0] }).push { cls := .type "enumerate", data := .fields #[.none, .bool false, .ref s.heap.objs.size, rawInt 0, .none, .none] } }) :=
  .of_wp fun prog w A R s h => by
    obtain ⟨hp, g, d, tk, os⟩ := s; obtain ⟨hl, h⟩ := h
    have hsub := sub_enumerate
    have hL : Heap.IsTuple (Shared.heap ⟨hp, g, d, tk, os⟩) l items := ⟨_, hl, rfl, n, rfl⟩
    wp_walk using AutoSeq1.wpAny_loadPart' hl
    refine wpAny_stack_any fun st => wpAny_pure ?_
    split
    · rename_i c _ _ _ _ _
      cases (c == Value.type "enumerate")
      · wp_walk using AutoSeq1.wpAny_loadPart' hl, wpAny_pyIter_tuple hL
        exact ⟨_, rfl, h⟩
      · wp_walk using AutoSeq1.wpAny_loadPart' hl, wpAny_pyIter_tuple hL
        exact ⟨_, rfl, h⟩
    · wp_walk using AutoSeq1.wpAny_loadPart' hl, wpAny_pyIter_tuple hL
      exact ⟨_, rfl, h⟩
theorem call_enumerate_tuple {prog : Program} {w : World} {A : Around} {E : Value → Shared → Prop} {s : Shared} {l : Addr} {items : Array Value} {Q : Value → Shared → Prop} (hL : s.heap.IsTuple l items)
    (h : ∀ h', IsEnum h' (s.heap.objs.size + 1) s.heap.objs.size 0 .none → h'.IsTupleIter s.heap.objs.size l 0 → h'.objs.size = s.heap.objs.size + 2 →
      (∀ b o, s.heap.get? b = some o → h'.get? b = some o) → Q (.ref (s.heap.objs.size + 1)) { s with heap := h' }) :
    wpAny (model prog w) A (call (.type "enumerate") [.ref l]) Q E s := by
  obtain ⟨⟨c, dct, dt, sl⟩, hl, hc, n, hd⟩ := hL
  replace hc : c = .type "tuple" := hc
  replace hd : dt = .seq items n := hd
  subst hc hd
  refine callType_new F.called_enumerate (by decide) (F.typeCall_enumerate_1 _) (F.newCall_enumerate_1 _) (fun obj => F.args_object_init_2 obj _) F.entry_enumerate_new
    (meets_enumerate_newT l items n dct sl) ⟨hl, ?_⟩
  have hz : (s.heap.push { cls := .type "tuple_iterator", data := .fields #[.ref l, .int 0 0] }).objs.size = s.heap.objs.size + 1 := Heap.size_push ..
  show _ ∧ _
  rw [hz]
  have he : IsEnum ((s.heap.push { cls := .type "tuple_iterator", data := .fields #[.ref l, .int 0 0] }).push
      { cls := .type "enumerate", data := .fields #[.none, .bool false, .ref s.heap.objs.size, rawInt 0, .none, .none] }) (s.heap.objs.size + 1) s.heap.objs.size 0 .none := by
    have := Heap.get?_push_size (s.heap.push { cls := .type "tuple_iterator", data := .fields #[.ref l, .int 0 0] })
      (o := { cls := .type "enumerate", data := .fields #[.none, .bool false, .ref s.heap.objs.size, rawInt 0, .none, .none] }) rfl
    rw [hz] at this; exact this
  refine ⟨⟨_, he, rfl⟩, h _ he ⟨_, Heap.get?_push_of_some _ (Heap.get?_push_size _ rfl), rfl, rfl⟩ (by rw [Heap.size_push, hz]) fun b o x => Heap.get?_push_of_some _ (Heap.get?_push_of_some _ x)⟩

/-- the tuple at a, each item in a new pair with its number -/
def IteT (K : PySem.W.Frag) (a : Addr) : It :=
  ⟨fun i H => ∃ (xs : List V) (x : V), SqT K H a xs ∧ xs[i]? = some x, fun i H v H' => ∃ T x, v = .ref T ∧ H T = none ∧ H' = upd H T (.tup [.int (i : Nat), x]) ∧ ∀ xs, SqT K H a xs → xs[i]? = some x, fun i H => ∃ xs : List V, SqT K H a xs ∧ xs.length = i⟩
theorem turn_enumT {P : Program} {w : World} {K : PySem.W.Frag} {elts : List Expr} {kk : Nat} {tpos : Pos} (a e it : Addr) :
    Turn P w K (.Tuple elts kk tpos) (IteT K a) [e, it] e (fun i h => (∃ old, IsEnum h e it ((i : Nat) : Int) old) ∧ h.IsTupleIter it a i ∧ e ≠ it ∧ e ≠ a ∧ it ≠ a) where
  mem := by simp
  obj := fun i h st b hb => by
    obtain ⟨⟨old, he⟩, ⟨o, ho, hc, hd⟩, _⟩ := st
    have e' : b = e ∨ b = it := by simpa using hb
    rcases e' with z | z
    · rw [z]; exact ⟨_, he, fun v q => nomatch q⟩
    · rw [z]; exact ⟨o, ho, fun v q => by rw [hd] at q; cases q⟩
  keep := fun i h h' st k => let ⟨⟨old, he⟩, hi, hne⟩ := st; ⟨⟨old, k e (by simp) _ he⟩, hi.at fun o q => k it (by simp) o q, hne⟩
  item := by
    intro X hP hw hK hc i pins s σ H E I hf st hg
    subst hP hw hK
    obtain ⟨⟨old, he⟩, hit, hne, hea, hia⟩ := st
    obtain ⟨xs, x, hq, hx⟩ := hg
    obtain ⟨its, rv, p, hz⟩ := I.tuple hq
    obtain ⟨u, hu, ru⟩ := rv.get hx
    have hel : e < s.heap.objs.size := Heap.lt_size he
    have hil : it < s.heap.objs.size := by obtain ⟨_, q, _⟩ := hit; exact Heap.lt_size q
    have hlt : i < its.toArray.size := by
      have := (List.getElem?_eq_some_iff.mp hu).1
      simpa using this
    refine wpAny_pyNext_enum_itemC (Draws.tuple (prog := X.prog) (w := X.w) (A := X.A.in1) (I.ok.hd hc) it a (Ne.symm hia) its.toArray) he ⟨hit, p⟩ hlt hne (by simp [hne, hea]) fun x' h' tk hPx ho hst' hT hsz hk => ?_
    have ex : x' = u := by
      have h1 : its.toArray[i]? = some u := by simpa using hu
      exact Option.some.inj (hPx.symm.trans h1)
    subst ex
    obtain ⟨hit', _⟩ := hst'
    refine ⟨_, rfl, wpAny_letOwnedTupleGo_enum (s := { s with heap := h', toks := tk + 1 }) ho fun h'' he' sb => ?_⟩
    have hT2 : h''.get? s.heap.objs.size = some { cls := .type "tuple", data := .seq #[.int i tk, x'] } := (sb.2 _ (Nat.ne_of_gt hel)).trans hT
    have new : ObjOk X.prog X.w (upd H s.heap.objs.size (.tup [.int (i : Nat), x])) h'' s.heap.objs.size (.tup [.int (i : Nat), x]) :=
      ⟨by show 2 ≤ sizeLine; decide, [.int i tk, x'], .cons ⟨_, rfl⟩ (.cons ru .nil), ⟨_, hT2, rfl, _, rfl⟩⟩
    have I1 : Inv X pins σ (upd H s.heap.objs.size (.tup [.int (i : Nat), x])) { s with heap := h'', toks := tk + 1 } :=
      I.turnedNew (ch := [e, it]) (fun b ob hb q => (sb.2 b (fun z => hb (by simp [z]))).trans (hk b ob (fun z => hb (by simp [z])) (fun z => hb (by simp [z])) q)) hf (Nat.le_refl _) new
    refine ⟨.ref s.heap.objs.size, _, I1, rfl, ⟨_, x, rfl, I.hok.fresh (Nat.le_refl _), rfl, fun ys hy => by rw [I.tuple_inj hy hq]; exact hx⟩, ⟨⟨x', ?_⟩, hit'.at fun o q => (sb.2 it (Ne.symm hne)).trans q, hne, hea, hia⟩, fun b hb => ?_⟩
    · have e1 : ((i + 1 : Nat) : Int) = (i : Int) + 1 := by omega
      rw [e1]; exact he'
    · have hb' : b < s.heap.objs.size := by
        have e' : b = e ∨ b = it := by simpa using hb
        rcases e' with z | z
        · rw [z]; exact hel
        · rw [z]; exact hil
      rw [upd_ne (Nat.ne_of_lt hb')]
      exact (hf b hb).1
  done := by
    intro X hP hw hK hc i pins s σ H E I hf st hg
    subst hP hw hK
    obtain ⟨⟨old, he⟩, hit, hne, hea, hia⟩ := st
    obtain ⟨xs, hq, hx⟩ := hg
    obtain ⟨its, rv, p, hz⟩ := I.tuple hq
    obtain ⟨f0, f1, f2, f3, f4, f5⟩ := hf it (by simp)
    have hl := rv.length
    have hn : i = its.toArray.size := by simp; omega
    subst hn
    exact wpAny_pyNext_enum_endD (Draws.tuple (prog := X.prog) (w := X.w) (A := X.A.in1) (I.ok.hd hc) it a (Ne.symm hia) its.toArray) he ⟨hit, p⟩ fun h' eb => ⟨rfl, I.turned (t' := s.toks) (fun b o hb q => eb b o hb q) f0 f1 f3 f4 f5⟩
  self := fun A i s Q E st h => let ⟨⟨_, he⟩, _⟩ := st; wpAny_pyIter_enum he h
def iEnumT (K : PySem.W.Frag) (ta : TA) : TI := fun σ H R => ta σ H fun vs H1 => ∃ a xs, vs = [.ref a] ∧ SqT K H1 a xs ∧ R (IteT K a) H1
theorem pi_enumT {X : Cx} {e : Expr} {ta : TA} {p pos tpos : Pos} {elts : List Expr} {kk : Nat} (hg : Gl X "enumerate") (hm : X.mg "enumerate" = none) (ha : PA X [e] ta) (hs : starEach [e] X.env = [(false, eval e X.env)] := by rfl) :
    PI X (.Tuple elts kk tpos) (.Call (.Name "enumerate" p) [e] [] pos) (iEnumT X.K ta) := by
  refine ⟨fun pins s σ H R I h => ?_⟩
  refine Call_ (ld_blt I hg hm boot_enumerate (PyProof.Rows.callWith_type1 (thn (ha.run pos pins s σ H _ I h) fun us s1 ⟨vs, H1, I1, r1, q1⟩ => ?_) hs rfl))
  obtain ⟨a, xs, ex, hq, q⟩ := q1
  subst ex
  cases r1 with
  | cons r rr =>
    cases rr
    cases r
    obtain ⟨its, rv, p', hz⟩ := I1.tuple hq
    have la : a < s1.heap.objs.size := by obtain ⟨_, y, _⟩ := p'; exact Heap.lt_size y
    refine call_enumerate_tuple (show s1.heap.IsTuple a its.toArray from p') fun h' he hit hsz hk => wpAny_pyIter_enum he ?_
    have I2 : Inv X pins σ H1 { s1 with heap := h' } := I1.kept (t' := s1.toks) hk
    refine ⟨s1.heap.objs.size + 1, [s1.heap.objs.size + 1, s1.heap.objs.size], _, _, H1, rfl, I2, turn_enumT a (s1.heap.objs.size + 1) s1.heap.objs.size, ⟨⟨.none, he⟩, hit, Nat.succ_ne_self _, Nat.ne_of_gt (Nat.lt_succ_of_lt la), Nat.ne_of_gt la⟩, fun b hb => ?_, q⟩
    have e' : b = s1.heap.objs.size + 1 ∨ b = s1.heap.objs.size := by simpa using hb
    have hle : s1.heap.objs.size ≤ b := by
      rcases e' with z | z
      · rw [z]; exact Nat.le_add_right _ _
      · rw [z]; exact Nat.le_refl _
    exact I1.fpOk hle (I1.hok.fresh hle)
theorem walk_enumT {K : PySem.W.Frag} {a : Addr} {xs : List V} : Walk (IteT K a) xs.length (fun H => SqT K H a xs) (YPair (fun i => some (.int (i : Nat))) (fun i => xs[i]?)) := by
  refine ⟨fun i _ hi q => ⟨xs, xs[i], q, by simp [hi]⟩, fun _ q => ⟨xs, q, rfl⟩, fun i H v H' _ q y => ?_⟩
  obtain ⟨T, x, h1, h2, h3, h4⟩ := y
  exact ⟨T, .int (i : Nat), x, h1, h2, h3, rfl, h4 xs q⟩
/-! ### f(e, ..), f an instance: a reading that speaks of no context -/
def tCallI (C : Addr) (sp : Sp) (E : XK) (tf : TE) (t : TA) : TE := fun σ H Q => tf σ H fun y H1 => ∃ a, y = V.ref a ∧ t σ H1 fun vs H2 => (∃ dx fs, H2 a = some (.ins C dx fs)) ∧ sp (V.ref a :: vs) H2 Q E
theorem pe_callI {X : Cx} {CX : CXT} {k : Nat} {C g : Addr} {sp : Sp} {E : XK} {fe e : Expr} {es : List Expr} {tf : TE} {t : TA} {pos : Pos} (hf : PE X fe tf) (c : StX.CallO X.K C g) (F : FnR X.prog X.w X.K X.mg X.base CX k g sp) (hr : Room k X.A) (hx : Passes CX X E) (ha : PA X (e :: es) t)
    (ht : eval (.Call fe (e :: es) [] pos) X.env = (do callWith pos (← eval fe X.env) [] (backTo pos (starEach (e :: es) X.env)) (backToKw pos (keywordEach [] X.env))) := by rfl)
    (he : starEach (e :: es) X.env = (false, eval e X.env) :: starEach es X.env := by rfl) (hpl : (backTo pos (starEach es X.env)).any (·.1) = false := by rfl) : PE X (.Call fe (e :: es) [] pos) (tCallI C sp E tf t) := by
  refine ⟨fun pins s σ H Q I h => ?_⟩
  refine Call_ (thn (hf.run pins s σ H _ I h) fun u s1 ⟨y, H1, I1, ry, a, ey, q⟩ => ?_) ht
  subst ey
  obtain rfl : u = Value.ref a := ry
  refine StX.callO_with (thn (ha.run pos pins s1 σ H1 _ I1 q) fun us s2 ⟨vs, H2, I2, r, hi, q2⟩ => ?_) he hpl
  have hi' : StX.InsC X H2 a C := .inr hi
  obtain ⟨ox, od, J, hd⟩ := StX.insC_at I2 hi'
  exact ⟨⟨C, ox, od, J, hd⟩, StX.run_callO c F hr hx I2 hi' r q2⟩
end Rz
/-! One more rule beside the layer's: ring >> int, the class's own sign. -/
namespace Rz
open PySem PySem.Spec PyProof.Rows L2
section
variable {X : Cx}
def rShO (C : Addr) (sp : Sp) (E : XK) : R2 := fun x y H Q => ∃ (a dx : Addr) (fs : List (Str × V)) (i : Int), x = .ref a ∧ y = .int i ∧ H a = some (.ins C dx fs) ∧ sp [.ref a, .int i] H (fun v H' => (∃ b : Addr, v = .ref b) ∧ Q v H') E
theorem op_shO {CX : CXT} {k : Nat} {f C : Addr} {sp : Sp} {E : XK} {fo ro : Option Value} (hc : PySem.W.selfFirst X.K C = true) (hs : PySem.W.findIn X.K (.ref C) "__rshift__" = some (some (.ref f))) (hf : PySem.W.isFn X.K (.ref f) = true)
    (hn : PySem.W.findIn X.K (.ref C) "__rrshift__" = some none) (h1 : PySem.W.findIn X.K (.type "int") "__rshift__" = some fo) (h2 : PySem.W.findIn X.K (.type "int") "__rrshift__" = some ro) (hsub : PySem.W.subIn X.K (.type "int") (.ref C) = some false)
    (F : FnR X.prog X.w X.K X.mg X.base CX k f sp) (hr : Room k X.A) (hx : Passes CX X E) : OpR X (binaryOp .RShift) (rShO C sp E) := by
  intro pins s σ H x y v u Q I rx ry h
  obtain ⟨a, dx, fs, i, rfl, rfl, ea, q⟩ := h
  obtain rfl : v = Value.ref a := rx
  obtain ⟨t, rfl⟩ := ry
  obtain ⟨mA, O, _⟩ := ins_get I.hok ea
  obtain ⟨od, J, _⟩ := O.look
  obtain ⟨m, hns, _⟩ := I.loc
  refine PySem.W.ksp_binT (op := .RShift) (T := "int") ⟨hns, I.bk, Nat.le_trans I.ok.bsz I.ok.above⟩ I.ok.mod.kin J rfl hc hs hf hn (.inl rfl) h1 h2 hsub ?_
  refine wpAny_call (codeAny_mono (F X.A X.stack s H [.ref a, .int i t] [.ref a, .int i] _ E hr I.env0 (.cons rfl (.cons ⟨_, rfl⟩ .nil)) q) fun r s' hq => ?_)
  cases r with
  | error e => exact hx pins σ H s e s' I hq
  | ok fl =>
    cases fl with
    | ret u =>
      obtain ⟨v, H', J', rv, ⟨b, rfl⟩, q'⟩ := I.after hq
      obtain rfl : u = Value.ref b := rv
      exact ⟨.ref b, H', J', rfl, q'⟩
    | next => exact False.elim hq
    | brk => exact False.elim hq
    | cont => exact False.elim hq
end
end Rz
/-! More rules beside the layer's: a range that stands in a slot, walked; a tuple's index of an int. -/
namespace Rz
open PySem PySem.Spec PyProof.Rows L2
section
variable {X : Cx}
def iRngV (te : TE) : TI := fun σ H R => te σ H fun x H1 => ∃ a lo hi, x = .ref a ∧ H1 a = some (.rng lo hi) ∧ (-(2 ^ 62) ≤ lo ∧ lo < 2 ^ 62 ∧ -(2 ^ 62) ≤ hi ∧ hi < 2 ^ 62) ∧ R (Itr lo (hi - lo).toNat) H1
theorem pi_rngV {tg e : Expr} {te : TE} (he : PE X e te) : PI X tg e (iRngV te) := by
  refine ⟨fun pins s σ H R I h => ?_⟩
  refine thn (he.run pins s σ H _ I h) fun v s1 ⟨x, H1, I1, r1, q1⟩ => ?_
  obtain ⟨a, lo, hi, ex, ha, ⟨h1, h2, h3, h4⟩, q⟩ := q1
  subst ex
  cases r1
  obtain ⟨t, u, v, ho⟩ := (show ObjOk X.prog X.w H1 s1.heap a (.rng lo hi) from I1.hok a _ ha)
  refine wpAny_pyIter_range (show IsRange s1.heap a lo hi 1 t u v from ho) (small_one h1 h2 h3 h4) ?_
  refine ⟨s1.heap.objs.size, [s1.heap.objs.size], _, _, H1, rfl, I1.kept (t' := s1.toks) fun b o e => Heap.get?_push_of_some _ e, turn_range _ lo (hi - lo).toNat, ?_, fun b hb => ?_, q⟩
  · have e1 : lo + ((0 : Nat) : Int) * 1 = lo := by simp
    have e2 : (((hi - lo).toNat : Nat) : Int) - ((0 : Nat) : Int) = Builtin.Range.rangeSize lo hi 1 := by rw [rangeSize_one]; split <;> omega
    show IsRangeIter _ _ (lo + ((0 : Nat) : Int) * 1) ((((hi - lo).toNat : Nat) : Int) - ((0 : Nat) : Int)) 1
    rw [e1, e2]
    exact Heap.get?_push_size _ rfl
  · have e : b = s1.heap.objs.size := by simpa using hb
    subst e
    exact I1.fpOk (Nat.le_refl _) (I1.hok.fresh (Nat.le_refl _))
/-- t.index(i), the first place -/
theorem mt_tup_indexI : MtR X "tuple.index" (fun x xs H Q => ∃ p, ∃ ys : List Int, ∃ z j, x = .ref p ∧ xs = [.int z] ∧ SqT X.K H p (ys.map V.int) ∧ ys[j]? = some z ∧ (∀ m y, m < j → ys[m]? = some y → y ≠ z) ∧ Q (.int (j : Nat)) H) := by
  intro pins s σ H x xs v us Q I rx rs h
  obtain ⟨p, ys, z, j, rfl, rfl, hq, hy, hno, q⟩ := h
  cases rx
  obtain ⟨u, rfl, t, rfl⟩ := vals1 rs
  obtain ⟨its, r, pl, hz⟩ := I.tuple hq
  obtain ⟨⟨cls, dd, dt, sl⟩, ho, hc, n, hd⟩ := pl
  simp only at hc hd
  subst hc
  subst hd
  have fl : (ys.map V.int).all flatV = true := by
    rw [List.all_eq_true]
    intro x hx
    obtain ⟨i, _, rfl⟩ := List.mem_map.mp hx
    rfl
  have hl : its.toArray.size = ys.length := by rw [List.size_toArray, ← r.length, List.length_map]
  have hj : j < its.toArray.size := by rw [hl]; exact (List.getElem?_eq_some_iff.mp hy).1
  have at' : ∀ (m : Nat) (hm : m < its.toArray.size), ∃ y t', ys[m]? = some y ∧ its.toArray[m] = Value.int y t' := fun m hm => by
    have hm' : m < ys.length := by rw [← hl]; exact hm
    obtain ⟨w, hw, t', hw'⟩ := r.get (i := m) (x := .int ys[m]) (by simp [hm'])
    refine ⟨ys[m], t', List.getElem?_eq_getElem hm', ?_⟩
    have e := (List.getElem?_eq_some_iff.mp hw).2
    rw [← hw', ← e]
    simp
  refine call_meets PySem.F.slot_tuple_index ⟨_, ho, rfl⟩ PySem.F.entry_tuple_index (PySem.F.args_tuple_index_2 _ _) (TI.tuple_indexAt p its.toArray n dd sl (.int z t) (eqU (.int z)) j hj ?_ ?_)
    ⟨ho, fun w hw => mem_eqAt (x := .int z) ⟨t, rfl⟩ rfl r fl w (by simpa using hw), ⟨.int (j : Nat), H, I.tok _, ⟨_, rfl⟩, q⟩⟩
  · obtain ⟨y, t', h1, h2⟩ := at' j hj
    rw [hy] at h1
    cases h1
    rw [h2]
    show (z == z) = true
    exact beq_self_eq_true z
  · intro m hm hmj
    obtain ⟨y, t', h1, h2⟩ := at' m hm
    rw [h2]
    show (y == z) = false
    exact beq_eq_false_iff_ne.mpr (hno m y hmj h1)
end
end Rz
namespace Rz
open PySem PySem.Spec PyProof.Rows L2
section
variable {X : Cx}
def rLcm : List V → Hp → VK → Prop := fun vs H Q => ∃ a b : Int, vs = [.int a, .int b] ∧ a.natAbs < 2 ^ 64 ∧ b.natAbs < 2 ^ 64 ∧ ∀ g, PySem.W.McLcm a b g → Q (.int g) H
theorem cr_lcm : CallR X (.builtin "math.lcm") rLcm := by
  intro pins s σ H vs us Q I r h
  obtain ⟨a, b, rfl, ha, hb, q⟩ := h
  obtain ⟨t, u, rfl⟩ := Vals.int2 r
  exact PySem.W.mc_lcm ha hb fun k => ⟨.int _, H, I.tok _, ⟨_, rfl⟩, q _ k⟩
end
end Rz
/-! The mathematics of a ring: the ends as the greatest sum over chains, Bellman's equation, where ends repeat. -/
namespace Rm
/-- f r + f (r - 1) + .. , k terms -/
def sumBack (f : Int → Int) (r : Int) : Nat → Int
  | 0 => 0
  | k + 1 => sumBack f r k + f (r - k)
/-- the greatest of f r .. f (r - k) -/
def maxBack (f : Int → Int) (r : Int) : Nat → Int
  | 0 => f r
  | k + 1 => max (maxBack f r k) (f (r - (k + 1 : Nat)))
theorem sum_front (f : Int → Int) : ∀ (k : Nat) (r : Int), sumBack f r (k + 1) = f r + sumBack f (r - 1) k
  | 0, r => by simp [sumBack]
  | k + 1, r => by
    show sumBack f r (k + 1) + f (r - (k + 1 : Nat)) = f r + (sumBack f (r - 1) k + f (r - 1 - k))
    rw [sum_front f k r, show r - ((k + 1 : Nat) : Int) = r - 1 - k by omega]
    omega
theorem max_front (f : Int → Int) : ∀ (k : Nat) (r : Int), maxBack f r (k + 1) = max (f r) (maxBack f (r - 1) k)
  | 0, r => by simp [maxBack]
  | k + 1, r => by
    show max (maxBack f r (k + 1)) (f (r - (k + 1 + 1 : Nat))) = max (f r) (max (maxBack f (r - 1) k) (f (r - 1 - (k + 1 : Nat))))
    rw [max_front f k r, show r - ((k + 1 + 1 : Nat) : Int) = r - 1 - (k + 1 : Nat) by omega]
    omega
theorem sum_add (f : Int → Int) (r : Int) (k : Nat) : ∀ n : Nat, sumBack f r (k + n) = sumBack f r k + sumBack f (r - k) n
  | 0 => by simp [sumBack]
  | n + 1 => by
    show sumBack f r (k + n) + f (r - (k + n : Nat)) = sumBack f r k + (sumBack f (r - k) n + f (r - k - n))
    rw [sum_add f r k n, show r - ((k + n : Nat) : Int) = r - k - n by omega]
    omega
theorem sum_mono {f : Int → Int} (h : ∀ i, 0 ≤ f i) (r : Int) {j k : Nat} (hjk : j ≤ k) : sumBack f r j ≤ sumBack f r k := by
  induction k with
  | zero =>
    have : j = 0 := by omega
    subst this
    exact Int.le_refl _
  | succ k ih =>
    by_cases e : j = k + 1
    · subst e
      exact Int.le_refl _
    · have := ih (by omega)
      have h2 := h (r - k)
      show sumBack f r j ≤ sumBack f r k + f (r - k)
      omega
theorem sum_nn {f : Int → Int} (h : ∀ i, 0 ≤ f i) (r : Int) (k : Nat) : 0 ≤ sumBack f r k := sum_mono h r (Nat.zero_le k)
theorem max_ge {f : Int → Int} (r : Int) : ∀ {j k : Nat}, j ≤ k → f (r - j) ≤ maxBack f r k
  | j, 0, h => by
    have : j = 0 := by omega
    subst this
    simp [maxBack]
  | j, k + 1, h => by
    show f (r - j) ≤ max (maxBack f r k) (f (r - (k + 1 : Nat)))
    by_cases e : j = k + 1
    · subst e
      omega
    · have := max_ge (f := f) r (j := j) (k := k) (by omega)
      omega
theorem max_le {f : Int → Int} {M : Int} (h : ∀ i, f i ≤ M) (r : Int) : ∀ k : Nat, maxBack f r k ≤ M
  | 0 => h r
  | k + 1 => by
    have h1 := max_le h r k
    have h2 := h (r - (k + 1 : Nat))
    show max (maxBack f r k) (f (r - (k + 1 : Nat))) ≤ M
    omega
theorem max_mono {f : Int → Int} (r : Int) {j k : Nat} (h : j ≤ k) : maxBack f r j ≤ maxBack f r k := by
  induction k with
  | zero =>
    have : j = 0 := by omega
    subst this
    exact Int.le_refl _
  | succ k ih =>
    by_cases e : j = k + 1
    · subst e
      exact Int.le_refl _
    · have := ih (by omega)
      show maxBack f r j ≤ max (maxBack f r k) (f (r - (k + 1 : Nat)))
      omega

/-- readers in a ring: days, books at first, all books, all days, the slowest -/
structure Ring (N : Nat) (d s : Int → Int) (B T M : Int) : Prop where
  pos : 0 < N
  dper : ∀ i t : Int, d (i + N * t) = d i
  sper : ∀ i t : Int, s (i + N * t) = s i
  d1 : ∀ i, 1 ≤ d i
  s0 : ∀ i, 0 ≤ s i
  b : ∀ r, sumBack s r N = B
  b1 : 1 ≤ B
  t : ∀ r, sumBack d r N = T
  mu : ∀ i, d i ≤ M
  ma : ∃ i, d i = M

/-- the sum of the chain from reading x of reader r that goes k readers back -/
def ch (d s : Int → Int) (r : Int) (k : Nat) (x : Int) : Int := sumBack d r (k + 1) + (x - sumBack s r k) * maxBack d r k
/-- e is the greatest of them -/
def IsEnd (d s : Int → Int) (r x e : Int) : Prop := (∀ k, sumBack s r k ≤ x → ch d s r k x ≤ e) ∧ ∃ k, sumBack s r k ≤ x ∧ ch d s r k x = e
theorem IsEnd.inj {d s : Int → Int} {r x e e' : Int} (h : IsEnd d s r x e) (h' : IsEnd d s r x e') : e = e' := by
  obtain ⟨k, h1, h2⟩ := h.2
  obtain ⟨k', h1', h2'⟩ := h'.2
  have := h.1 k' h1'
  have := h'.1 k h1
  omega

section
variable {N : Nat} {d s : Int → Int} {B T M : Int} (R : Ring N d s B T M)
include R
theorem Ring.sumS (r : Int) (k : Nat) : ∀ m : Nat, sumBack s r (k + m * N) = sumBack s r k + m * B
  | 0 => by simp
  | m + 1 => by
    rw [show k + (m + 1) * N = k + m * N + N by rw [Nat.add_mul, Nat.one_mul, Nat.add_assoc], sum_add, Ring.sumS r k m, R.b, show ((m + 1 : Nat) : Int) = (m : Int) + 1 by omega, Int.add_mul]
    omega
theorem Ring.sumD (r : Int) (k : Nat) : ∀ m : Nat, sumBack d r (k + m * N) = sumBack d r k + m * T
  | 0 => by simp
  | m + 1 => by
    rw [show k + (m + 1) * N = k + m * N + N by rw [Nat.add_mul, Nat.one_mul, Nat.add_assoc], sum_add, Ring.sumD r k m, R.t, show ((m + 1 : Nat) : Int) = (m : Int) + 1 by omega, Int.add_mul]
    omega
theorem Ring.maxM (r : Int) {k : Nat} (h : N ≤ k + 1) : maxBack d r k = M := by
  obtain ⟨i, hi⟩ := R.ma
  have hN := R.pos
  have h0 : 0 ≤ (r - i) % (N : Int) := Int.emod_nonneg _ (by omega)
  have h1 : (r - i) % (N : Int) < N := Int.emod_lt_of_pos _ (by omega)
  have e : r - (((r - i) % (N : Int)).toNat : Nat) = i + N * ((r - i) / (N : Int)) := by
    have := Int.emod_add_mul_ediv (r - i) (N : Int)
    omega
  have h2 := max_ge (f := d) r (j := ((r - i) % (N : Int)).toNat) (k := k) (by omega)
  rw [e, R.dper, hi] at h2
  have h3 := max_le R.mu r k
  omega
theorem Ring.M1 : 1 ≤ M := by
  obtain ⟨i, hi⟩ := R.ma
  have := R.d1 i
  omega
theorem Ring.round (r x : Int) (k : Nat) {m : Nat} (hm : 1 ≤ m) : ch d s r (k + m * N) x = sumBack d r (k + 1) + (x - sumBack s r k) * M + m * (T - B * M) := by
  unfold ch
  have e1 : sumBack d r (k + m * N + 1) = sumBack d r (k + 1) + m * T := by
    rw [show k + m * N + 1 = k + 1 + m * N by omega, R.sumD]
  have e2 : N ≤ k + m * N + 1 := by
    have : 1 * N ≤ m * N := Nat.mul_le_mul_right N hm
    omega
  rw [e1, R.sumS, R.maxM r e2]
  have e3 : (x - (sumBack s r k + m * B)) * M = (x - sumBack s r k) * M - m * (B * M) := by
    rw [show x - (sumBack s r k + m * B) = (x - sumBack s r k) - m * B by omega, Int.sub_mul, Int.mul_assoc]
  rw [e3, Int.mul_sub]
  omega
end

/-- what the loop over the first i readers back has found -/
def Sofar (N : Nat) (d s : Int → Int) (r x : Int) (i : Nat) (L : Int) : Prop :=
  (∀ j m : Nat, j < i → sumBack s r (j + m * N) ≤ x → ch d s r (j + m * N) x ≤ L) ∧ ((i = 0 ∧ L = 0) ∨ ∃ k, sumBack s r k ≤ x ∧ ch d s r k x = L)
section
variable {N : Nat} {d s : Int → Int} {B T M : Int} (R : Ring N d s B T M)
include R
theorem Ring.ch_pos (r x : Int) (k : Nat) (h : sumBack s r k ≤ x) : 1 ≤ ch d s r k x := by
  unfold ch
  have h1 : d (r - k) ≤ sumBack d r (k + 1) := by
    have := sum_nn (f := d) (fun i => by have := R.d1 i; omega) r k
    show d (r - k) ≤ sumBack d r k + d (r - k)
    omega
  have h2 := R.d1 (r - k)
  have h3 : 0 ≤ maxBack d r k := by
    have := max_ge (f := d) r (j := 0) (k := k) (Nat.zero_le _)
    have := R.d1 (r - (0 : Nat))
    omega
  have h4 := Int.mul_nonneg (show 0 ≤ x - sumBack s r k by omega) h3
  omega
theorem Ring.step {r x L : Int} {i : Nat} (P : Sofar N d s r x i L) (hl : sumBack s r i ≤ x) {L2 : Int}
    (h2 : L2 = if B ≤ x - sumBack s r i then max (max L (ch d s r i x)) (sumBack d r (i + 1) + (x - sumBack s r i) * M + (if 0 < T - B * M then (x - sumBack s r i) / B else 1) * (T - B * M)) else max L (ch d s r i x)) :
    Sofar N d s r x (i + 1) L2 := by
  have P1 := P.1
  have hB := R.b1
  have hge : max L (ch d s r i x) ≤ L2 := by
    rw [h2]
    split <;> omega
  have key : ∀ m : Nat, 1 ≤ m → sumBack s r (i + m * N) ≤ x → ch d s r (i + m * N) x ≤ L2 := by
    intro m hm hv
    rw [R.round r x i hm]
    rw [R.sumS] at hv
    have hmB : (1 : Int) * B ≤ m * B := Int.mul_le_mul_of_nonneg_right (by omega) (by omega)
    have hBl : B ≤ x - sumBack s r i := by omega
    rw [if_pos hBl] at h2
    have hc : (m : Int) * (T - B * M) ≤ (if 0 < T - B * M then (x - sumBack s r i) / B else 1) * (T - B * M) := by
      split
      · rename_i hg
        refine Int.mul_le_mul_of_nonneg_right ?_ (by omega)
        exact (Int.le_ediv_iff_mul_le (by omega)).mpr (by omega)
      · rename_i hg
        have h5 : (0 : Int) ≤ ((m : Int) - 1) * (-(T - B * M)) := Int.mul_nonneg (by omega) (by omega)
        rw [Int.sub_mul, Int.mul_neg] at h5
        omega
    omega
  refine ⟨fun j m hj hv => ?_, ?_⟩
  · by_cases e : j = i
    · subst e
      cases m with
      | zero =>
        have e0 : j + 0 * N = j := by omega
        rw [e0]
        omega
      | succ m => exact key (m + 1) (by omega) hv
    · have := P1 j m (by omega) hv
      omega
  · right
    have hcp := R.ch_pos r x i hl
    have hL : ∃ k, sumBack s r k ≤ x ∧ ch d s r k x = max L (ch d s r i x) := by
      rcases P.2 with ⟨h0, hL0⟩ | ⟨k, hk, hk2⟩
      · exact ⟨i, hl, by omega⟩
      · by_cases hh : ch d s r i x ≤ L
        · exact ⟨k, hk, by omega⟩
        · exact ⟨i, hl, by omega⟩
    by_cases hBl : B ≤ x - sumBack s r i
    · rw [if_pos hBl] at h2
      -- the candidate of whole rounds is a chain too
      have hcand : ∃ k, sumBack s r k ≤ x ∧ ch d s r k x = sumBack d r (i + 1) + (x - sumBack s r i) * M + (if 0 < T - B * M then (x - sumBack s r i) / B else 1) * (T - B * M) := by
        by_cases hg : 0 < T - B * M
        · rw [if_pos hg]
          have hq1 : 1 ≤ (x - sumBack s r i) / B := (Int.le_ediv_iff_mul_le (by omega)).mpr (by omega)
          have hq2 : (x - sumBack s r i) / B * B ≤ x - sumBack s r i := Int.ediv_mul_le _ (by omega)
          have hqn : ((((x - sumBack s r i) / B).toNat : Nat) : Int) = (x - sumBack s r i) / B := by omega
          refine ⟨i + ((x - sumBack s r i) / B).toNat * N, ?_, ?_⟩
          · rw [R.sumS, hqn]
            omega
          · rw [R.round r x i (by omega), hqn]
        · rw [if_neg hg]
          refine ⟨i + 1 * N, ?_, ?_⟩
          · rw [R.sumS]
            omega
          · rw [R.round r x i (by omega)]
            simp
      obtain ⟨k1, a1, a2⟩ := hL
      obtain ⟨k2, c1, c2⟩ := hcand
      by_cases hh : max L (ch d s r i x) ≤ sumBack d r (i + 1) + (x - sumBack s r i) * M + (if 0 < T - B * M then (x - sumBack s r i) / B else 1) * (T - B * M)
      · exact ⟨k2, c1, by rw [c2, h2]; omega⟩
      · exact ⟨k1, a1, by rw [a2, h2]; omega⟩
    · rw [if_neg hBl] at h2
      rw [h2]
      exact hL
theorem Ring.fin {r x L : Int} {i : Nat} (P : Sofar N d s r x i L) (hi : i = N ∨ (0 < i ∧ x < sumBack s r i)) : IsEnd d s r x L := by
  have P1 := P.1
  have hN := R.pos
  refine ⟨fun k hk => ?_, ?_⟩
  · have ek : k = k % N + k / N * N := by
      have := Nat.mod_add_div k N
      rw [Nat.mul_comm] at this
      exact this.symm
    rw [ek] at hk ⊢
    refine P1 _ _ ?_ hk
    rcases hi with hi | ⟨_, hi⟩
    · rw [hi]
      exact Nat.mod_lt _ hN
    · rcases Nat.lt_or_ge (k % N) i with h | h
      · exact h
      · have := sum_mono R.s0 r h
        have h2 := R.sumS r (k % N) (k / N)
        have h3 : (0 : Int) ≤ ((k / N : Nat) : Int) * B := Int.mul_nonneg (Int.natCast_nonneg _) (by have := R.b1; omega)
        omega
  · rcases P.2 with ⟨h0, _⟩ | h
    · rcases hi with hi | ⟨hi, _⟩ <;> omega
    · exact h
theorem Ring.sofar0 (r x : Int) : Sofar N d s r x 0 0 := ⟨fun _ _ h => absurd h (Nat.not_lt_zero _), .inl ⟨rfl, rfl⟩⟩
theorem Ring.ends (r : Int) {x : Int} (hx : 0 ≤ x) : ∃ e, IsEnd d s r x e := by
  have go : ∀ n i L, i + n = N → sumBack s r i ≤ x → Sofar N d s r x i L → ∃ e, IsEnd d s r x e := by
    intro n
    induction n with
    | zero =>
      intro i L hi _ P
      exact ⟨L, R.fin P (.inl (by omega))⟩
    | succ n ih =>
      intro i L hi hl P
      have P' := R.step P hl rfl
      by_cases h : sumBack s r (i + 1) ≤ x
      · exact ih (i + 1) _ (by omega) h P'
      · exact ⟨_, R.fin P' (.inr ⟨by omega, by omega⟩)⟩
  exact go N 0 0 (by omega) (by show (0 : Int) ≤ x; exact hx) (R.sofar0 r x)
end
/-- the day on which reading x of reader r ends -/
noncomputable def E (d s : Int → Int) (r x : Int) : Int := open Classical in if h : ∃ e, IsEnd d s r x e then Classical.choose h else 0
section
variable {N : Nat} {d s : Int → Int} {B T M : Int} (R : Ring N d s B T M)
include R
theorem Ring.isE (r : Int) {x : Int} (hx : 0 ≤ x) : IsEnd d s r x (E d s r x) := by
  have h := R.ends r hx
  unfold E
  rw [dif_pos h]
  exact Classical.choose_spec h
theorem Ring.E_of {r x e : Int} (h : IsEnd d s r x e) : E d s r x = e := by
  have h' : ∃ e, IsEnd d s r x e := ⟨e, h⟩
  unfold E
  rw [dif_pos h']
  exact (Classical.choose_spec h').inj h
theorem Ring.E_per (r x t : Int) : E d s (r + N * t) x = E d s r x := by
  have hs : ∀ k, sumBack s (r + N * t) k = sumBack s r k := by
    intro k
    induction k with
    | zero => rfl
    | succ k ih =>
      show sumBack s (r + N * t) k + s (r + N * t - k) = sumBack s r k + s (r - k)
      rw [ih, show r + N * t - k = (r - k) + N * t by omega, R.sper]
  have hd : ∀ k, sumBack d (r + N * t) k = sumBack d r k := by
    intro k
    induction k with
    | zero => rfl
    | succ k ih =>
      show sumBack d (r + N * t) k + d (r + N * t - k) = sumBack d r k + d (r - k)
      rw [ih, show r + N * t - k = (r - k) + N * t by omega, R.dper]
  have hm : ∀ k, maxBack d (r + N * t) k = maxBack d r k := by
    intro k
    induction k with
    | zero => exact R.dper r t
    | succ k ih =>
      show max (maxBack d (r + N * t) k) (d (r + N * t - (k + 1 : Nat))) = max (maxBack d r k) (d (r - (k + 1 : Nat)))
      rw [ih, show r + N * t - ((k + 1 : Nat) : Int) = (r - (k + 1 : Nat)) + N * t by omega, R.dper]
  have he : IsEnd d s (r + N * t) x = IsEnd d s r x := by
    funext e
    unfold IsEnd ch
    simp only [hs, hd, hm]
  unfold E
  rw [he]
theorem Ring.E_mod (r x : Int) : E d s (r % N) x = E d s r x := by
  have h := R.E_per (r % N) x (r / N)
  rw [Int.emod_add_mul_ediv] at h
  exact h.symm
theorem Ring.ub (r : Int) {x : Int} (hx : 0 ≤ x) (k : Nat) (h : sumBack s r k ≤ x) : ch d s r k x ≤ E d s r x := (R.isE r hx).1 k h
theorem Ring.att (r : Int) {x : Int} (hx : 0 ≤ x) : ∃ k, sumBack s r k ≤ x ∧ ch d s r k x = E d s r x := (R.isE r hx).2
theorem Ring.low (r : Int) {x : Int} (hx : 0 ≤ x) : (x + 1) * d r ≤ E d s r x := by
  have h := R.ub r hx 0 hx
  have e : ch d s r 0 x = (x + 1) * d r := by
    unfold ch
    show 0 + d (r - (0 : Nat)) + (x - 0) * d r = _
    rw [show r - ((0 : Nat) : Int) = r by omega, Int.add_mul]
    simp
    omega
  omega
theorem Ring.E1 (r : Int) {x : Int} (hx : 0 ≤ x) : d r ≤ E d s r x := by
  have h := R.low r hx
  have h2 : (0 : Int) ≤ x * d r := Int.mul_nonneg hx (by have := R.d1 r; omega)
  rw [Int.add_mul] at h
  omega
/-- Bellman, from below -/
theorem Ring.next (r : Int) {x : Int} (hx : 0 ≤ x) : E d s r x + d r ≤ E d s r (x + 1) := by
  obtain ⟨k, hk, e⟩ := R.att r hx
  have h := R.ub r (x := x + 1) (by omega) k (by omega)
  have h2 := max_ge (f := d) r (j := 0) (k := k) (Nat.zero_le _)
  rw [show r - ((0 : Nat) : Int) = r by omega] at h2
  unfold ch at h e
  have e3 : (x + 1 - sumBack s r k) * maxBack d r k = (x - sumBack s r k) * maxBack d r k + maxBack d r k := by
    rw [show x + 1 - sumBack s r k = (x - sumBack s r k) + 1 by omega, Int.add_mul]
    omega
  omega
theorem Ring.from (r : Int) {x : Int} (hs : s r ≤ x) : E d s (r - 1) (x - s r) + d r ≤ E d s r x := by
  have hx : 0 ≤ x - s r := by omega
  have hx0 : 0 ≤ x := by have := R.s0 r; omega
  obtain ⟨k, hk, e⟩ := R.att (r - 1) hx
  have hS : sumBack s r (k + 1) = s r + sumBack s (r - 1) k := sum_front s k r
  have h := R.ub r hx0 (k + 1) (by omega)
  unfold ch at h e
  rw [sum_front d (k + 1) r, hS, max_front d k r] at h
  have e2 : x - (s r + sumBack s (r - 1) k) = x - s r - sumBack s (r - 1) k := by omega
  rw [e2] at h
  have h4 : (x - s r - sumBack s (r - 1) k) * maxBack d (r - 1) k ≤ (x - s r - sumBack s (r - 1) k) * max (d r) (maxBack d (r - 1) k) :=
    Int.mul_le_mul_of_nonneg_left (by omega) (by omega)
  omega
/-- .. from above -/
theorem Ring.bell (r : Int) {x : Int} (hx : 0 ≤ x) : E d s r x = d r ∨ (1 ≤ x ∧ E d s r x = E d s r (x - 1) + d r) ∨ (s r ≤ x ∧ E d s r x = E d s (r - 1) (x - s r) + d r) := by
  obtain ⟨k, hk, e⟩ := R.att r hx
  cases k with
  | zero =>
    have e0 : ch d s r 0 x = d r + x * d r := by
      unfold ch
      show 0 + d (r - (0 : Nat)) + (x - 0) * d r = _
      rw [show r - ((0 : Nat) : Int) = r by omega]
      simp
    by_cases h0 : x = 0
    · left
      subst h0
      simp at e0
      omega
    · right; left
      refine ⟨by omega, ?_⟩
      have h1 := R.ub r (x := x - 1) (by omega) 0 (by show (0 : Int) ≤ x - 1; omega)
      have e1 : ch d s r 0 (x - 1) = x * d r := by
        unfold ch
        show 0 + d (r - (0 : Nat)) + (x - 1 - 0) * d r = _
        rw [show r - ((0 : Nat) : Int) = r by omega, show x - 1 - 0 = x - 1 by omega, Int.sub_mul]
        omega
      have h2 := R.next r (x := x - 1) (by omega)
      rw [show x - 1 + 1 = x by omega] at h2
      omega
  | succ k =>
    have hS : sumBack s r (k + 1) = s r + sumBack s (r - 1) k := sum_front s k r
    have hnn := sum_nn R.s0 (r - 1) k
    have hsr : s r ≤ x := by omega
    have h1 := R.ub (r - 1) (x := x - s r) (by omega) k (by omega)
    have h3 := R.from r hsr
    have e' := e
    unfold ch at e' h1
    rw [sum_front d (k + 1) r, hS, max_front d k r, show x - (s r + sumBack s (r - 1) k) = x - s r - sumBack s (r - 1) k by omega] at e'
    by_cases hm : d r ≤ maxBack d (r - 1) k
    · right; right
      refine ⟨hsr, ?_⟩
      rw [show max (d r) (maxBack d (r - 1) k) = maxBack d (r - 1) k by omega] at e'
      omega
    · rw [show max (d r) (maxBack d (r - 1) k) = d r by omega] at e'
      by_cases hl : x - s r - sumBack s (r - 1) k = 0
      · right; right
        refine ⟨hsr, ?_⟩
        rw [hl] at e' h1
        simp at e' h1
        omega
      · right; left
        have hx1 : 1 ≤ x := by have := R.s0 r; omega
        refine ⟨hx1, ?_⟩
        have h5 := R.ub r (x := x - 1) (by omega) (k + 1) (by omega)
        unfold ch at h5
        rw [sum_front d (k + 1) r, hS, max_front d k r, show max (d r) (maxBack d (r - 1) k) = d r by omega,
          show x - 1 - (s r + sumBack s (r - 1) k) = (x - s r - sumBack s (r - 1) k) - 1 by omega, Int.sub_mul] at h5
        have h2 := R.next r (x := x - 1) (by omega)
        rw [show x - 1 + 1 = x by omega] at h2
        omega
end
end Rm
/-! Where ends repeat; counts by a day; heaps. -/
namespace Rm
def Rep (d s : Int → Int) (p q x : Int) : Prop := ∀ r, E d s r (x + p) = E d s r x + q
section
variable {N : Nat} {d s : Int → Int} {B T M : Int} (R : Ring N d s B T M)
include R
theorem Ring.T0 : 0 ≤ T := by
  have h := sum_nn (f := d) (fun i => by have := R.d1 i; omega) 0 N
  rw [R.t] at h
  exact h
theorem Ring.BM0 : 0 ≤ B * M := Int.mul_nonneg (by have := R.b1; omega) (by have := R.M1; omega)
theorem Ring.S_le (r : Int) {k m : Nat} (h : k ≤ m * N) : sumBack s r k ≤ m * B := by
  have h1 := sum_mono R.s0 r h
  have h2 := R.sumS r 0 m
  rw [Nat.zero_add] at h2
  rw [h2] at h1
  show sumBack s r k ≤ m * B
  have : sumBack s r 0 = 0 := rfl
  omega
/-- one more unit of x -/
theorem ch_succ (d s : Int → Int) (r : Int) (k : Nat) (x y : Int) : ch d s r k (x + y) = ch d s r k x + y * maxBack d r k := by
  unfold ch
  rw [show x + y - sumBack s r k = (x - sumBack s r k) + y by omega, Int.add_mul]
  omega
theorem Ring.rep_slow (hg : T ≤ B * M) {x : Int} (hx : 4 * B + B * M ≤ x) : Rep d s 1 M x := by
  intro r
  have hB := R.b1
  have hT := R.T0
  have hBM := R.BM0
  have hM := R.M1
  have hx0 : 0 ≤ x := by omega
  apply Int.le_antisymm
  · obtain ⟨k, hk, e⟩ := R.att r (x := x + 1) (by omega)
    by_cases hv : sumBack s r k ≤ x
    · have h1 := R.ub r hx0 k hv
      rw [ch_succ R d s r k x 1] at e
      have h2 := max_le R.mu r k
      omega
    · have hkN : 2 * N ≤ k := by
        rcases Nat.lt_or_ge k (2 * N) with h | h
        · have := R.S_le r (k := k) (m := 2) (by omega)
          omega
        · exact h
      obtain ⟨k', rfl⟩ : ∃ k', k = k' + 1 * N := ⟨k - 1 * N, by omega⟩
      rw [R.round r (x + 1) k' (by omega)] at e
      rw [R.sumS] at hk hv
      have h1 := R.ub r hx0 k' (by omega)
      unfold ch at h1
      rw [R.maxM r (k := k') (by omega)] at h1
      rw [show x + 1 - sumBack s r k' = (x - sumBack s r k') + 1 by omega, Int.add_mul] at e
      omega
  · obtain ⟨k, hk, e⟩ := R.att r hx0
    by_cases hm : maxBack d r k = M
    · have h1 := R.ub r (x := x + 1) (by omega) k (by omega)
      rw [ch_succ R d s r k x 1, hm] at h1
      omega
    · have hkN : k + 1 < N := by
        rcases Nat.lt_or_ge (k + 1) N with h | h
        · exact h
        · exact absurd (R.maxM r h) hm
      have hS := R.S_le r (k := k) (m := 1) (by omega)
      have h1 := R.ub r (x := x + 1) (by omega) (k + 1 * N) (by rw [R.sumS]; omega)
      rw [R.round r (x + 1) k (by omega)] at h1
      have h2 := max_le R.mu r k
      unfold ch at e
      have h3 : (x - sumBack s r k) * (maxBack d r k + 1) ≤ (x - sumBack s r k) * M := Int.mul_le_mul_of_nonneg_left (by omega) (by omega)
      rw [Int.mul_add] at h3
      rw [show x + 1 - sumBack s r k = (x - sumBack s r k) + 1 by omega, Int.add_mul] at h1
      omega
theorem Ring.rep_fast (hg : B * M < T) {x : Int} (hx : 4 * B + B * M ≤ x) : Rep d s B T x := by
  intro r
  have hB := R.b1
  have hBM := R.BM0
  have hx0 : 0 ≤ x := by omega
  apply Int.le_antisymm
  · obtain ⟨k, hk, e⟩ := R.att r (x := x + B) (by omega)
    by_cases hkN : 2 * N ≤ k + 1
    · obtain ⟨k', rfl⟩ : ∃ k', k = k' + 1 * N := ⟨k - 1 * N, by have := R.pos; omega⟩
      rw [R.round r (x + B) k' (by omega)] at e
      rw [R.sumS] at hk
      have h1 := R.ub r hx0 k' (by omega)
      unfold ch at h1
      rw [R.maxM r (k := k') (by omega)] at h1
      rw [show x + B - sumBack s r k' = (x - sumBack s r k') + B by omega, Int.add_mul] at e
      omega
    · have hS := R.S_le r (k := k) (m := 2) (by omega)
      have h1 := R.ub r hx0 (k + 1 * N) (by rw [R.sumS]; omega)
      rw [R.round r x k (by omega)] at h1
      unfold ch at e
      have h2 := max_le R.mu r k
      have h3 : (x + B - sumBack s r k) * maxBack d r k ≤ (x + B - sumBack s r k) * M := Int.mul_le_mul_of_nonneg_left h2 (by omega)
      rw [show x + B - sumBack s r k = (x - sumBack s r k) + B by omega, Int.add_mul, Int.add_mul] at h3
      rw [show x + B - sumBack s r k = (x - sumBack s r k) + B by omega, Int.add_mul] at e
      omega
  · obtain ⟨k, hk, e⟩ := R.att r hx0
    have h1 := R.ub r (x := x + B) (by omega) (k + 1 * N) (by rw [R.sumS]; omega)
    rw [R.round r (x + B) k (by omega)] at h1
    have h2 := max_le R.mu r k
    unfold ch at e
    have h3 : (x - sumBack s r k) * maxBack d r k ≤ (x - sumBack s r k) * M := Int.mul_le_mul_of_nonneg_left h2 (by omega)
    rw [show x + B - sumBack s r k = (x - sumBack s r k) + B by omega, Int.add_mul] at h1
    omega
theorem Ring.claim {p q m r : Int} (hp : 1 ≤ p) (hm : 1 ≤ m) (hsm : s r ≤ m) (h1 : E d s r (m - 1 + p) = E d s r (m - 1) + q) (h2 : E d s (r - 1) (m - s r + p) = E d s (r - 1) (m - s r) + q) : E d s r (m + p) = E d s r m + q := by
  have n1 := R.next r (x := m - 1) (by omega)
  have n2 := R.next r (x := m - 1 + p) (by omega)
  have f1 := R.from r (x := m) hsm
  have f2 := R.from r (x := m + p) (by omega)
  have b1 := R.bell r (x := m) (by omega)
  have b2 := R.bell r (x := m + p) (by omega)
  have e1 := R.E1 r (x := m - 1) (by omega)
  have e2 := R.E1 r (x := m - 1 + p) (by omega)
  have d1 := R.d1 r
  rw [show m - 1 + 1 = m by omega] at n1
  rw [show m - 1 + p + 1 = m + p by omega] at n2
  rw [show m + p - s r = m - s r + p by omega] at f2 b2
  rw [show m + p - 1 = m - 1 + p by omega] at b2
  rcases b1 with b1 | ⟨_, b1⟩ | ⟨_, b1⟩ <;> rcases b2 with b2 | ⟨_, b2⟩ | ⟨_, b2⟩ <;> omega
/-- as many in a row as the greatest number of books at first: then all later ones -/
theorem Ring.later {w p q n : Int} (hw : ∀ i, s i ≤ w) (hw1 : ∃ i, s i = w) (w1 : 1 ≤ w) (hp : 1 ≤ p) (hn : 0 ≤ n) (h : ∀ j, 0 ≤ j → j < w → Rep d s p q (n + j)) : ∀ m, n ≤ m → Rep d s p q m := by
  have go : ∀ k : Nat, ∀ m, n ≤ m → m - n < k → Rep d s p q m := by
    intro k
    induction k with
    | zero => intro m h1 h2; omega
    | succ k ih =>
      intro m h1 h2
      by_cases hmw : m < n + w
      · have := h (m - n) (by omega) (by omega)
        rw [show n + (m - n) = m by omega] at this
        exact this
      · obtain ⟨r0, hr0⟩ := hw1
        -- around the ring from r0
        have around : ∀ j : Nat, E d s (r0 + j) (m + p) = E d s (r0 + j) m + q := by
          intro j
          induction j with
          | zero =>
            have hs := hw r0
            refine R.claim hp (by omega) (by rw [show r0 + ((0 : Nat) : Int) = r0 by omega]; omega) (ih (m - 1) (by omega) (by omega) _) ?_
            rw [show r0 + ((0 : Nat) : Int) = r0 by omega]
            exact ih (m - s r0) (by omega) (by omega) _
          | succ j ihj =>
            have hs := hw (r0 + (j + 1 : Nat))
            have hs0 := R.s0 (r0 + (j + 1 : Nat))
            refine R.claim hp (by omega) (by omega) (ih (m - 1) (by omega) (by omega) _) ?_
            rw [show r0 + ((j + 1 : Nat) : Int) - 1 = r0 + j by omega]
            by_cases hz : s (r0 + (j + 1 : Nat)) = 0
            · rw [hz, show m - 0 = m by omega]
              exact ihj
            · exact ih (m - s (r0 + (j + 1 : Nat))) (by omega) (by omega) _
        intro r
        have hN := R.pos
        have a0 : 0 ≤ (r - r0) % (N : Int) := Int.emod_nonneg _ (by omega)
        have h3 := around ((r - r0) % (N : Int)).toNat
        have e3 : r0 + ((((r - r0) % (N : Int)).toNat : Nat) : Int) = r + N * (-((r - r0) / (N : Int))) := by
          have := Int.emod_add_mul_ediv (r - r0) (N : Int)
          rw [Int.mul_neg]
          omega
        rw [e3, R.E_per, R.E_per] at h3
        exact h3
  intro m hm
  exact go ((m - n).toNat + 1) m hm (by omega)
theorem Ring.rounds {p q n : Int} (hp : 1 ≤ p) (h : ∀ m, n ≤ m → Rep d s p q m) (r : Int) {x : Int} (hx : n ≤ x) : ∀ k : Nat, E d s r (x + k * p) = E d s r x + k * q
  | 0 => by simp
  | k + 1 => by
    have ih := Ring.rounds hp h r hx k
    have h0 : (0 : Int) ≤ (k : Int) * p := Int.mul_nonneg (Int.natCast_nonneg _) (by omega)
    have h1 := h (x + k * p) (by omega) r
    rw [show ((k + 1 : Nat) : Int) = (k : Int) + 1 by omega, Int.add_mul, Int.add_mul, Int.one_mul, Int.one_mul, ← Int.add_assoc, h1, ih]
    omega
theorem Ring.mono (r : Int) {x : Int} (hx : 0 ≤ x) : ∀ k : Nat, E d s r x + (k + 1) * d r ≤ E d s r (x + (k + 1))
  | 0 => by
    have := R.next r hx
    simpa using this
  | k + 1 => by
    have ih := Ring.mono r hx k
    have h1 := R.next r (x := x + (k + 1)) (by omega)
    rw [show ((k + 1 : Nat) : Int) = (k : Int) + 1 by omega, show x + ((k : Int) + 1 + 1) = x + ((k : Int) + 1) + 1 by omega, Int.add_mul ((k : Int) + 1) 1]
    omega
theorem Ring.lt (r : Int) {x y : Int} (hx : 0 ≤ x) (h : x < y) : E d s r x + d r ≤ E d s r y := by
  have h1 := R.mono r hx (y - x - 1).toNat
  rw [show ((((y - x - 1).toNat : Nat) : Int) + 1) = y - x by omega, show x + (y - x) = y by omega] at h1
  have h2 : (1 : Int) * d r ≤ (y - x) * d r := Int.mul_le_mul_of_nonneg_right (by omega) (by have := R.d1 r; omega)
  omega
theorem Ring.le (r : Int) {x y : Int} (hx : 0 ≤ x) (h : x ≤ y) : E d s r x ≤ E d s r y := by
  by_cases e : x = y
  · subst e
    exact Int.le_refl _
  · have := R.lt r hx (show x < y by omega)
    have := R.d1 r
    omega
end

/-- c readings of reader r have ended by day D -/
def Cnt (d s : Int → Int) (r D c : Int) : Prop := 0 ≤ c ∧ (c = 0 ∨ E d s r (c - 1) ≤ D) ∧ D < E d s r c
noncomputable def Cn (d s : Int → Int) (r D : Int) : Int := open Classical in if h : ∃ c, Cnt d s r D c then Classical.choose h else 0
section
variable {N : Nat} {d s : Int → Int} {B T M : Int} (R : Ring N d s B T M)
include R
theorem Ring.cnt_inj {r D c c' : Int} (h : Cnt d s r D c) (h' : Cnt d s r D c') : c = c' := by
  obtain ⟨a0, a1, a2⟩ := h
  obtain ⟨b0, b1, b2⟩ := h'
  rcases Int.lt_trichotomy c c' with z | z | z
  · have := R.le r (x := c) (y := c' - 1) a0 (by omega)
    omega
  · exact z
  · have := R.le r (x := c') (y := c - 1) b0 (by omega)
    omega
theorem Ring.cnt_ex (r D : Int) : ∃ c, Cnt d s r D c := by
  have go : ∀ n : Nat, D < E d s r n → ∃ c, Cnt d s r D c := by
    intro n
    induction n with
    | zero => intro h; exact ⟨0, by omega, .inl rfl, h⟩
    | succ n ih =>
      intro h
      by_cases hh : E d s r n ≤ D
      · exact ⟨((n + 1 : Nat) : Int), by omega, .inr (by rw [show ((n + 1 : Nat) : Int) - 1 = n by omega]; exact hh), h⟩
      · exact ih (by omega)
  refine go D.toNat ?_
  have h := R.low r (x := (D.toNat : Nat)) (by omega)
  have h2 : (((D.toNat : Nat) : Int) + 1) * 1 ≤ (((D.toNat : Nat) : Int) + 1) * d r := Int.mul_le_mul_of_nonneg_left (R.d1 r) (by omega)
  omega
theorem Ring.cn (r D : Int) : Cnt d s r D (Cn d s r D) := by
  have h := R.cnt_ex r D
  unfold Cn
  rw [dif_pos h]
  exact Classical.choose_spec h
theorem Ring.cn_of {r D c : Int} (h : Cnt d s r D c) : Cn d s r D = c := R.cnt_inj (R.cn r D) h
theorem Ring.cn_per (r D t : Int) : Cn d s (r + N * t) D = Cn d s r D := by
  refine R.cn_of ?_
  have h := R.cn r D
  unfold Cnt at h ⊢
  rw [R.E_per, R.E_per]
  exact h
theorem Ring.cn_mod (r D : Int) : Cn d s (r % N) D = Cn d s r D := by
  have h := R.cn_per (r % N) D (r / N)
  rw [Int.emod_add_mul_ediv] at h
  exact h.symm
theorem Ring.cn_end (r : Int) {x : Int} (hx : 0 ≤ x) : Cn d s r (E d s r x) = x + 1 := by
  refine R.cn_of ⟨by omega, .inr (by rw [show x + 1 - 1 = x by omega]; exact Int.le_refl _), ?_⟩
  have := R.lt r hx (show x < x + 1 by omega)
  have := R.d1 r
  omega
theorem Ring.cn_before (r : Int) {x : Int} (hx : 0 ≤ x) : Cn d s r (E d s r x - 1) = x := by
  refine R.cn_of ⟨hx, ?_, by omega⟩
  by_cases h : x = 0
  · exact .inl h
  · right
    have := R.lt r (x := x - 1) (y := x) (by omega) (by omega)
    have := R.d1 r
    omega
theorem Ring.cn_next (r D : Int) : Cn d s r D ≤ Cn d s r (D + d r) ∧ Cn d s r (D + d r) ≤ Cn d s r D + 1 := by
  obtain ⟨a0, a1, a2⟩ := R.cn r D
  obtain ⟨b0, b1, b2⟩ := R.cn r (D + d r)
  have d1 := R.d1 r
  constructor
  · rcases Int.lt_or_le (Cn d s r (D + d r)) (Cn d s r D) with z | z
    · rcases a1 with a1 | a1
      · omega
      · have := R.le r (x := Cn d s r (D + d r)) (y := Cn d s r D - 1) b0 (by omega)
        omega
    · exact z
  · rcases Int.lt_or_le (Cn d s r D + 1) (Cn d s r (D + d r)) with z | z
    · rcases b1 with b1 | b1
      · omega
      · have := R.lt r (x := Cn d s r D) (y := Cn d s r (D + d r) - 1) a0 (by omega)
        omega
    · exact z
/-- a reader who has a book and is not reading begins -/
theorem Ring.cn_reads {r D : Int} (hD : 0 ≤ D) (h : Cn d s r D < s r + Cn d s (r - 1) D) : Cn d s r D + 1 ≤ Cn d s r (D + d r) := by
  obtain ⟨a0, a1, a2⟩ := R.cn r D
  obtain ⟨b0, b1, b2⟩ := R.cn r (D + d r)
  obtain ⟨c0, c1, c2⟩ := R.cn (r - 1) D
  have hs := R.s0 r
  rcases Int.lt_or_le (Cn d s r (D + d r)) (Cn d s r D + 1) with z | z
  · have h1 := R.le r (x := Cn d s r (D + d r)) (y := Cn d s r D) b0 (by omega)
    have b := R.bell r (x := Cn d s r D) a0
    rcases b with b | ⟨h2, b⟩ | ⟨h2, b⟩
    · omega
    · rcases a1 with a1 | a1 <;> omega
    · rcases c1 with c1 | c1
      · omega
      · have h3 := R.le (r - 1) (x := Cn d s r D - s r) (y := Cn d s (r - 1) D - 1) (by omega) (by omega)
        omega
  · exact z
end
theorem sum_lin (f g h : Int → Int) (r : Int) : ∀ n : Nat, sumBack (fun j => f j + g (j - 1) - h j) r n = sumBack f r n + sumBack g (r - 1) n - sumBack h r n
  | 0 => by simp [sumBack]
  | n + 1 => by
    show sumBack (fun j => f j + g (j - 1) - h j) r n + (f (r - n) + g (r - n - 1) - h (r - n)) = sumBack f r n + f (r - n) + (sumBack g (r - 1) n + g (r - 1 - n)) - (sumBack h r n + h (r - n))
    rw [sum_lin f g h r n, show r - 1 - (n : Int) = r - n - 1 by omega]
    omega
theorem sum_win {f : Int → Int} {N : Nat} (hp : ∀ i t : Int, f (i + N * t) = f i) (r : Int) : sumBack f (r - 1) N = sumBack f r N := by
  have h1 := sum_front f N r
  have h2 : sumBack f r (N + 1) = sumBack f r N + f (r - N) := rfl
  have h3 := hp (r - N) 1
  rw [show r - (N : Int) + N * 1 = r by omega] at h3
  omega
theorem sum_le {f g : Int → Int} (h : ∀ i, f i ≤ g i) (r : Int) : ∀ n : Nat, sumBack f r n ≤ sumBack g r n
  | 0 => Int.le_refl _
  | n + 1 => by
    have h1 := sum_le h r n
    have h2 := h (r - n)
    show sumBack f r n + f (r - n) ≤ sumBack g r n + g (r - n)
    omega
theorem sum_lt {f g : Int → Int} (h : ∀ i, f i ≤ g i) (r : Int) : ∀ {n j : Nat}, j < n → f (r - j) < g (r - j) → sumBack f r n < sumBack g r n
  | 0, j, hj, _ => absurd hj (Nat.not_lt_zero _)
  | n + 1, j, hj, hh => by
    show sumBack f r n + f (r - n) < sumBack g r n + g (r - n)
    by_cases e : j = n
    · subst e
      have := sum_le h r j
      omega
    · have h1 := sum_lt h r (n := n) (j := j) (by omega) hh
      have h2 := h (r - n)
      omega
theorem sum_shift (f : Int → Int) (r c : Int) : ∀ n : Nat, sumBack (fun i => f i + c) r n = sumBack f r n + n * c
  | 0 => by simp [sumBack]
  | n + 1 => by
    show sumBack (fun i => f i + c) r n + (f (r - n) + c) = sumBack f r n + f (r - n) + ((n + 1 : Nat) : Int) * c
    rw [sum_shift f r c n, show ((n + 1 : Nat) : Int) = (n : Int) + 1 by omega, Int.add_mul]
    omega
section
variable {N : Nat} {d s : Int → Int} {B T M : Int} (R : Ring N d s B T M)
include R
/-- the heaps of a day, all together: fewer than all books, as at least one is being read; at most one a reader is -/
theorem Ring.heaps {D : Int} (hD : 0 ≤ D) (r : Int) : B - N ≤ sumBack (fun j => s j + Cn d s (j - 1) D - Cn d s j (D + d j)) r N ∧ sumBack (fun j => s j + Cn d s (j - 1) D - Cn d s j (D + d j)) r N < B := by
  rw [sum_lin s (fun j => Cn d s j D) (fun j => Cn d s j (D + d j)) r N, R.b, sum_win (f := fun j => Cn d s j D) (N := N) (fun i t => R.cn_per i D t)]
  have h1 := sum_le (f := fun j => Cn d s j D) (g := fun j => Cn d s j (D + d j)) (fun i => (R.cn_next i D).1) r N
  have h2 := sum_le (f := fun j => Cn d s j (D + d j)) (g := fun j => Cn d s j D + 1) (fun i => (R.cn_next i D).2) r N
  rw [sum_shift (fun j => Cn d s j D) r 1 N] at h2
  refine ⟨by omega, ?_⟩
  -- someone reads
  have some_reads : ∃ j : Nat, j < N ∧ Cn d s (r - j) D < Cn d s (r - j) (D + d (r - j)) := by
    apply Classical.byContradiction
    intro hno
    have hall : ∀ j : Nat, j < N → s (r - j) + Cn d s (r - j - 1) D ≤ Cn d s (r - j) D := by
      intro j hj
      apply Classical.byContradiction
      intro hh
      have := R.cn_reads (r := r - j) hD (by omega)
      exact hno ⟨j, hj, by omega⟩
    have go : ∀ n : Nat, n ≤ N → sumBack s r n + sumBack (fun j => Cn d s j D) (r - 1) n ≤ sumBack (fun j => Cn d s j D) r n := by
      intro n
      induction n with
      | zero => intro _; show (0 : Int) + 0 ≤ 0; omega
      | succ n ih =>
        intro hn
        have h3 := ih (by omega)
        have h4 := hall n (by omega)
        show sumBack s r n + s (r - n) + (sumBack (fun j => Cn d s j D) (r - 1) n + Cn d s (r - 1 - n) D) ≤ sumBack (fun j => Cn d s j D) r n + Cn d s (r - n) D
        rw [show r - 1 - (n : Int) = r - n - 1 by omega]
        omega
    have h5 := go N (Nat.le_refl _)
    rw [R.b, sum_win (f := fun j => Cn d s j D) (N := N) (fun i t => R.cn_per i D t)] at h5
    have := R.b1
    omega
  obtain ⟨j, hj, hjr⟩ := some_reads
  have h6 := sum_lt (f := fun j => Cn d s j D) (g := fun j => Cn d s j (D + d j)) (fun i => (R.cn_next i D).1) r hj hjr
  omega
end

/-! ### from lists -/
/-- round the list, from any index -/
def at' (l : List Int) (i : Int) : Int := l.getD (i % (l.length : Int)).toNat 0
theorem at_per (l : List Int) (i t : Int) : at' l (i + (l.length : Int) * t) = at' l i := by
  unfold at'
  rw [Int.add_mul_emod_self_left]
theorem at_nat {l : List Int} {j : Nat} {v : Int} (h : l[j]? = some v) : at' l (j : Int) = v := by
  have hj := (List.getElem?_eq_some_iff.mp h).1
  unfold at'
  rw [Int.emod_eq_of_lt (by omega) (by omega), List.getD_eq_getElem?_getD, Int.toNat_natCast, h]
  rfl
theorem at_mem {l : List Int} (hl : 0 < l.length) (i : Int) : at' l i ∈ l := by
  unfold at'
  have h0 : 0 ≤ i % (l.length : Int) := Int.emod_nonneg _ (by omega)
  have h1 : i % (l.length : Int) < l.length := Int.emod_lt_of_pos _ (by omega)
  rw [List.getD_eq_getElem?_getD, List.getElem?_eq_getElem (show (i % (l.length : Int)).toNat < l.length by omega)]
  exact List.getElem_mem _
theorem mem_at {l : List Int} {v : Int} (h : v ∈ l) : ∃ i, at' l i = v := by
  obtain ⟨j, hj, e⟩ := List.getElem_of_mem h
  exact ⟨j, at_nat (by rw [List.getElem?_eq_getElem hj, e])⟩
theorem sum_list (l : List Int) : sumBack (at' l) ((l.length : Int) - 1) l.length = l.sum := by
  have go : ∀ n : Nat, n ≤ l.length → sumBack (at' l) ((n : Int) - 1) n = (l.take n).sum := by
    intro n
    induction n with
    | zero => intro _; simp [sumBack]
    | succ n ih =>
      intro hn
      rw [show ((n + 1 : Nat) : Int) - 1 = n by omega, sum_front, ih (by omega), List.take_add_one, List.sum_append, at_nat (List.getElem?_eq_getElem (show n < l.length by omega)), List.getElem?_eq_getElem (show n < l.length by omega)]
      simp
      omega
  have h := go l.length (Nat.le_refl _)
  rw [List.take_length] at h
  exact h
theorem sum_any {f : Int → Int} {N : Nat} (hp : ∀ i t : Int, f (i + N * t) = f i) (p q : Int) : sumBack f p N = sumBack f q N := by
  have go : ∀ (n : Nat) (r : Int), sumBack f (r - n) N = sumBack f r N := by
    intro n
    induction n with
    | zero => intro r; rw [show r - ((0 : Nat) : Int) = r by omega]
    | succ n ih =>
      intro r
      rw [show r - ((n + 1 : Nat) : Int) = r - n - 1 by omega, sum_win hp, ih]
  rcases Int.le_total p q with h | h
  · have := go (q - p).toNat q
    rw [show q - ((q - p).toNat : Int) = p by omega] at this
    exact this
  · have := go (p - q).toNat p
    rw [show p - ((p - q).toNat : Int) = q by omega] at this
    exact this.symm
theorem ring_of {ds ss : List Int} {M : Int} (hl : 0 < ds.length) (hls : ss.length = ds.length) (h1 : ∀ y ∈ ds, 1 ≤ y) (h2 : ∀ y ∈ ss, 0 ≤ y) (hB : 1 ≤ ss.sum) (hM : M ∈ ds) (hMu : ∀ y ∈ ds, y ≤ M) :
    Ring ds.length (at' ds) (at' ss) ss.sum ds.sum M where
  pos := hl
  dper := at_per ds
  sper := by rw [← hls]; exact at_per ss
  d1 := fun i => h1 _ (at_mem hl i)
  s0 := fun i => h2 _ (at_mem (by omega) i)
  b := fun r => by
    rw [sum_any (f := at' ss) (N := ds.length) (by rw [← hls]; exact at_per ss) r ((ss.length : Int) - 1), ← hls]
    exact sum_list ss
  b1 := hB
  t := fun r => by
    rw [sum_any (f := at' ds) (N := ds.length) (at_per ds) r ((ds.length : Int) - 1)]
    exact sum_list ds
  mu := fun i => hMu _ (at_mem hl i)
  ma := mem_at hM
end Rm
namespace Rp
open PySem PySem.Spec PyProof.Rows L2
def topS (i : Nat) : Stmt := PySem.Challenge.pw_readingring_k55_whole_rings_from_another.main.body.getD i (.Pass ⟨0, 0, 0, 0⟩)
abbrev s_is_number : Stmt := topS 12
abbrev s_lies_between : Stmt := topS 13
abbrev s_check_number : Stmt := topS 14
abbrev s_check_reader : Stmt := topS 15
abbrev s_rinit : Stmt := inClass (topS 21) 0
abbrev s_rdays : Stmt := inClass (topS 21) 2
abbrev s_rstarts : Stmt := inClass (topS 21) 3
abbrev s_rbooks : Stmt := inClass (topS 21) 4
abbrev s_rpace : Stmt := inClass (topS 21) 5
abbrev s_rlen : Stmt := inClass (topS 21) 7
abbrev s_rcall : Stmt := inClass (topS 21) 10
abbrev s_rrshift : Stmt := inClass (topS 21) 11
abbrev s_req : Stmt := inClass (topS 21) 12
abbrev s_check_part : Stmt := topS 22
abbrev s_slowest_decides : Stmt := topS 23
abbrev s_pace_of : Stmt := topS 24
abbrev s_round_pace : Stmt := topS 25
abbrev s_end_day : Stmt := topS 26
abbrev s_heap_on : Stmt := topS 28
abbrev s_longest_heap : Stmt := topS 29
abbrev s_settled : Stmt := topS 30
abbrev s_first_meeting : Stmt := topS 31
abbrev s_check_book : Stmt := topS 32
abbrev s_reader_before : Stmt := topS 33
abbrev s_reader_after : Stmt := topS 34
abbrev s_ended_by : Stmt := topS 35
abbrev s_begun_by : Stmt := topS 36
abbrev s_repetition : Stmt := topS 37
abbrev s_row_repeats : Stmt := topS 38
abbrev s_last_new_day : Stmt := topS 39
abbrev s_first_stay : Stmt := topS 40
abbrev s_next_stay : Stmt := topS 41
abbrev s_first_unlike : Stmt := topS 43
abbrev s_numbers_to_compare : Stmt := topS 44
abbrev s_ltaken : Stmt := topS 46
abbrev s_lgreat : Stmt := topS 47
abbrev s_lparts : Stmt := topS 48
abbrev s_law : Stmt := topS 49
abbrev N_is_number : List Str := ["value"]
abbrev P_is_number : List Str := ["value"]
theorem sc_is_number : FnScope N_is_number P_is_number (defScope s_is_number) := ⟨rfl, rfl, rfl, by decide +kernel, rfl, by decide +kernel, by decide +kernel⟩
abbrev N_lies_between : List Str := ["value", "low", "high"]
abbrev P_lies_between : List Str := ["value", "low", "high"]
theorem sc_lies_between : FnScope N_lies_between P_lies_between (defScope s_lies_between) := ⟨rfl, rfl, rfl, by decide +kernel, rfl, by decide +kernel, by decide +kernel⟩
abbrev N_check_number : List Str := ["value", "low", "high"]
abbrev P_check_number : List Str := ["value", "low", "high"]
theorem sc_check_number : FnScope N_check_number P_check_number (defScope s_check_number) := ⟨rfl, rfl, rfl, by decide +kernel, rfl, by decide +kernel, by decide +kernel⟩
abbrev N_check_reader : List Str := ["ring", "reader"]
abbrev P_check_reader : List Str := ["ring", "reader"]
theorem sc_check_reader : FnScope N_check_reader P_check_reader (defScope s_check_reader) := ⟨rfl, rfl, rfl, by decide +kernel, rfl, by decide +kernel, by decide +kernel⟩
abbrev N_rinit : List Str := ["self", "days", "starts"]
abbrev P_rinit : List Str := ["self", "days", "starts"]
theorem sc_rinit : FnScope N_rinit P_rinit (defScope s_rinit) := ⟨rfl, rfl, rfl, by decide +kernel, rfl, by decide +kernel, by decide +kernel⟩
abbrev N_rdays : List Str := ["self"]
abbrev P_rdays : List Str := ["self"]
theorem sc_rdays : FnScope N_rdays P_rdays (defScope s_rdays) := ⟨rfl, rfl, rfl, by decide +kernel, rfl, by decide +kernel, by decide +kernel⟩
abbrev N_rstarts : List Str := ["self"]
abbrev P_rstarts : List Str := ["self"]
theorem sc_rstarts : FnScope N_rstarts P_rstarts (defScope s_rstarts) := ⟨rfl, rfl, rfl, by decide +kernel, rfl, by decide +kernel, by decide +kernel⟩
abbrev N_rbooks : List Str := ["self"]
abbrev P_rbooks : List Str := ["self"]
theorem sc_rbooks : FnScope N_rbooks P_rbooks (defScope s_rbooks) := ⟨rfl, rfl, rfl, by decide +kernel, rfl, by decide +kernel, by decide +kernel⟩
abbrev N_rpace : List Str := ["self"]
abbrev P_rpace : List Str := ["self"]
theorem sc_rpace : FnScope N_rpace P_rpace (defScope s_rpace) := ⟨rfl, rfl, rfl, by decide +kernel, rfl, by decide +kernel, by decide +kernel⟩
abbrev N_rlen : List Str := ["self"]
abbrev P_rlen : List Str := ["self"]
theorem sc_rlen : FnScope N_rlen P_rlen (defScope s_rlen) := ⟨rfl, rfl, rfl, by decide +kernel, rfl, by decide +kernel, by decide +kernel⟩
abbrev N_rcall : List Str := ["self", "reader", "number"]
abbrev P_rcall : List Str := ["self", "reader", "number"]
theorem sc_rcall : FnScope N_rcall P_rcall (defScope s_rcall) := ⟨rfl, rfl, rfl, by decide +kernel, rfl, by decide +kernel, by decide +kernel⟩
abbrev N_rrshift : List Str := ["self", "other", "days", "starts"]
abbrev P_rrshift : List Str := ["self", "other"]
theorem sc_rrshift : FnScope N_rrshift P_rrshift (defScope s_rrshift) := ⟨rfl, rfl, rfl, by decide +kernel, rfl, by decide +kernel, by decide +kernel⟩
abbrev N_req : List Str := ["self", "other"]
abbrev P_req : List Str := ["self", "other"]
theorem sc_req : FnScope N_req P_req (defScope s_req) := ⟨rfl, rfl, rfl, by decide +kernel, rfl, by decide +kernel, by decide +kernel⟩
abbrev N_check_part : List Str := ["part", "values", "limits", "lengths", "low", "high", "fewest", "most", "index", "value"]
abbrev P_check_part : List Str := ["part", "values", "limits", "lengths"]
theorem sc_check_part : FnScope N_check_part P_check_part (defScope s_check_part) := ⟨rfl, rfl, rfl, by decide +kernel, rfl, by decide +kernel, by decide +kernel⟩
abbrev N_slowest_decides : List Str := ["days", "books"]
abbrev P_slowest_decides : List Str := ["days", "books"]
theorem sc_slowest_decides : FnScope N_slowest_decides P_slowest_decides (defScope s_slowest_decides) := ⟨rfl, rfl, rfl, by decide +kernel, rfl, by decide +kernel, by decide +kernel⟩
abbrev N_pace_of : List Str := ["days", "books"]
abbrev P_pace_of : List Str := ["days", "books"]
theorem sc_pace_of : FnScope N_pace_of P_pace_of (defScope s_pace_of) := ⟨rfl, rfl, rfl, by decide +kernel, rfl, by decide +kernel, by decide +kernel⟩
abbrev N_round_pace : List Str := ["days", "books", "common"]
abbrev P_round_pace : List Str := ["days", "books"]
theorem sc_round_pace : FnScope N_round_pace P_round_pace (defScope s_round_pace) := ⟨rfl, rfl, rfl, by decide +kernel, rfl, by decide +kernel, by decide +kernel⟩
abbrev N_end_day : List Str := ["ring", "reader", "number", "books", "slowest", "gain", "latest", "total", "slowest_met", "left", "step", "rounds"]
abbrev P_end_day : List Str := ["ring", "reader", "number"]
theorem sc_end_day : FnScope N_end_day P_end_day (defScope s_end_day) := ⟨rfl, rfl, rfl, by decide +kernel, rfl, by decide +kernel, by decide +kernel⟩
abbrev N_heap_on : List Str := ["ring", "reader", "day", "came"]
abbrev P_heap_on : List Str := ["ring", "reader", "day"]
theorem sc_heap_on : FnScope N_heap_on P_heap_on (defScope s_heap_on) := ⟨rfl, rfl, rfl, by decide +kernel, rfl, by decide +kernel, by decide +kernel⟩
abbrev N_longest_heap : List Str := ["ring", "reader", "before", "came", "begun", "longest", "number", "day"]
abbrev P_longest_heap : List Str := ["ring", "reader"]
theorem sc_longest_heap : FnScope N_longest_heap P_longest_heap (defScope s_longest_heap) := ⟨rfl, rfl, rfl, by decide +kernel, rfl, by decide +kernel, by decide +kernel⟩
abbrev N_settled : List Str := ["ring", "readings", "days", "needed", "number", "found"]
abbrev P_settled : List Str := ["ring"]
theorem sc_settled : FnScope N_settled P_settled (defScope s_settled) := ⟨rfl, rfl, rfl, by decide +kernel, rfl, by decide +kernel, by decide +kernel⟩
abbrev N_first_meeting : List Str := ["ring", "one", "other", "last", "stays", "day", "ends", "reader", "number", "stay", "end"]
abbrev P_first_meeting : List Str := ["ring", "one", "other"]
theorem sc_first_meeting : FnScope N_first_meeting P_first_meeting (defScope s_first_meeting) := ⟨rfl, rfl, rfl, by decide +kernel, rfl, by decide +kernel, by decide +kernel⟩
abbrev N_check_book : List Str := ["ring", "book"]
abbrev P_check_book : List Str := ["ring", "book"]
theorem sc_check_book : FnScope N_check_book P_check_book (defScope s_check_book) := ⟨rfl, rfl, rfl, by decide +kernel, rfl, by decide +kernel, by decide +kernel⟩
abbrev N_reader_before : List Str := ["ring", "reader"]
abbrev P_reader_before : List Str := ["ring", "reader"]
theorem sc_reader_before : FnScope N_reader_before P_reader_before (defScope s_reader_before) := ⟨rfl, rfl, rfl, by decide +kernel, rfl, by decide +kernel, by decide +kernel⟩
abbrev N_reader_after : List Str := ["ring", "reader"]
abbrev P_reader_after : List Str := ["ring", "reader"]
theorem sc_reader_after : FnScope N_reader_after P_reader_after (defScope s_reader_after) := ⟨rfl, rfl, rfl, by decide +kernel, rfl, by decide +kernel, by decide +kernel⟩
abbrev N_ended_by : List Str := ["ring", "reader", "day", "low", "high", "middle"]
abbrev P_ended_by : List Str := ["ring", "reader", "day"]
theorem sc_ended_by : FnScope N_ended_by P_ended_by (defScope s_ended_by) := ⟨rfl, rfl, rfl, by decide +kernel, rfl, by decide +kernel, by decide +kernel⟩
abbrev N_begun_by : List Str := ["ring", "reader", "day"]
abbrev P_begun_by : List Str := ["ring", "reader", "day"]
theorem sc_begun_by : FnScope N_begun_by P_begun_by (defScope s_begun_by) := ⟨rfl, rfl, rfl, by decide +kernel, rfl, by decide +kernel, by decide +kernel⟩
abbrev N_repetition : List Str := ["ring"]
abbrev P_repetition : List Str := ["ring"]
theorem sc_repetition : FnScope N_repetition P_repetition (defScope s_repetition) := ⟨rfl, rfl, rfl, by decide +kernel, rfl, by decide +kernel, by decide +kernel⟩
abbrev N_row_repeats : List Str := ["ring", "number", "readings", "days", "reader"]
abbrev P_row_repeats : List Str := ["ring", "number", "readings", "days"]
theorem sc_row_repeats : FnScope N_row_repeats P_row_repeats (defScope s_row_repeats) := ⟨rfl, rfl, rfl, by decide +kernel, rfl, by decide +kernel, by decide +kernel⟩
abbrev N_last_new_day : List Str := ["ring", "number", "readings", "days", "settled_day", "reader"]
abbrev P_last_new_day : List Str := ["ring"]
theorem sc_last_new_day : FnScope N_last_new_day P_last_new_day (defScope s_last_new_day) := ⟨rfl, rfl, rfl, by decide +kernel, rfl, by decide +kernel, by decide +kernel⟩
abbrev N_first_stay : List Str := ["ring", "book", "reader"]
abbrev P_first_stay : List Str := ["ring", "book"]
theorem sc_first_stay : FnScope N_first_stay P_first_stay (defScope s_first_stay) := ⟨rfl, rfl, rfl, by decide +kernel, rfl, by decide +kernel, by decide +kernel⟩
abbrev N_next_stay : List Str := ["ring", "stay", "reader", "number", "after"]
abbrev P_next_stay : List Str := ["ring", "stay"]
theorem sc_next_stay : FnScope N_next_stay P_next_stay (defScope s_next_stay) := ⟨rfl, rfl, rfl, by decide +kernel, rfl, by decide +kernel, by decide +kernel⟩
abbrev N_first_unlike : List Str := ["one", "other", "number", "reader"]
abbrev P_first_unlike : List Str := ["one", "other"]
theorem sc_first_unlike : FnScope N_first_unlike P_first_unlike (defScope s_first_unlike) := ⟨rfl, rfl, rfl, by decide +kernel, rfl, by decide +kernel, by decide +kernel⟩
abbrev N_numbers_to_compare : List Str := ["one", "other", "number", "readings", "_", "other_number", "other_readings"]
abbrev P_numbers_to_compare : List Str := ["one", "other"]
theorem sc_numbers_to_compare : FnScope N_numbers_to_compare P_numbers_to_compare (defScope s_numbers_to_compare) := ⟨rfl, rfl, rfl, by decide +kernel, rfl, by decide +kernel, by decide +kernel⟩
abbrev N_ltaken : List Str := ["_law_row", "_law_many", "_law_found", "_law_cell"]
abbrev P_ltaken : List Str := ["_law_row", "_law_many"]
theorem sc_ltaken : FnScope N_ltaken P_ltaken (defScope s_ltaken) := ⟨rfl, rfl, rfl, by decide +kernel, rfl, by decide +kernel, by decide +kernel⟩
abbrev N_lgreat : List Str := ["_law_row", "_law_many"]
abbrev P_lgreat : List Str := ["_law_row", "_law_many"]
theorem sc_lgreat : FnScope N_lgreat P_lgreat (defScope s_lgreat) := ⟨rfl, rfl, rfl, by decide +kernel, rfl, by decide +kernel, by decide +kernel⟩
abbrev N_lparts : List Str := ["_law_row", "_law_most", "_law_size", "_law_far", "_law_days", "_law_starts", "_law_k"]
abbrev P_lparts : List Str := ["_law_row", "_law_most"]
theorem sc_lparts : FnScope N_lparts P_lparts (defScope s_lparts) := ⟨rfl, rfl, rfl, by decide +kernel, rfl, by decide +kernel, by decide +kernel⟩
abbrev N_law : List Str := ["_law_script", "_law_row", "_law_parts_here", "_law_ring", "_law_size", "_law_steps", "_law_turned", "_law_k", "_law_j", "_law_number", "_law_moved", "_law_turn", "_law_one", "_law_other", "_law_found", "_law_again"]
abbrev P_law : List Str := ["_law_script"]
theorem sc_law : FnScope N_law P_law (defScope s_law) := ⟨rfl, rfl, rfl, by decide +kernel, rfl, by decide +kernel, by decide +kernel⟩
/-- what the top has written: the defs where they stand, the class, constants, built-ins that are still so -/
structure Tx (K : PySem.W.Frag) (mg : Str → Option Value) where
  C : Addr
  a_is_number : Addr
  d_is_number : FuncData
  F_is_number : Fun K "is_number" "is_number" s_is_number a_is_number d_is_number
  b_is_number : Binds K d_is_number P_is_number []
  g_is_number : mg "is_number" = some (.ref a_is_number)
  a_lies_between : Addr
  d_lies_between : FuncData
  F_lies_between : Fun K "lies_between" "lies_between" s_lies_between a_lies_between d_lies_between
  b_lies_between : Binds K d_lies_between P_lies_between []
  g_lies_between : mg "lies_between" = some (.ref a_lies_between)
  a_check_number : Addr
  d_check_number : FuncData
  F_check_number : Fun K "check_number" "check_number" s_check_number a_check_number d_check_number
  b_check_number : Binds K d_check_number P_check_number []
  g_check_number : mg "check_number" = some (.ref a_check_number)
  a_check_reader : Addr
  d_check_reader : FuncData
  F_check_reader : Fun K "check_reader" "check_reader" s_check_reader a_check_reader d_check_reader
  b_check_reader : Binds K d_check_reader P_check_reader []
  g_check_reader : mg "check_reader" = some (.ref a_check_reader)
  a_rinit : Addr
  d_rinit : FuncData
  F_rinit : Fun K "__init__" "Ring.__init__" s_rinit a_rinit d_rinit
  b_rinit : Binds K d_rinit P_rinit []
  a_rdays : Addr
  d_rdays : FuncData
  F_rdays : Fun K "days" "Ring.days" s_rdays a_rdays d_rdays
  b_rdays : Binds K d_rdays P_rdays []
  a_rstarts : Addr
  d_rstarts : FuncData
  F_rstarts : Fun K "starts" "Ring.starts" s_rstarts a_rstarts d_rstarts
  b_rstarts : Binds K d_rstarts P_rstarts []
  a_rbooks : Addr
  d_rbooks : FuncData
  F_rbooks : Fun K "books" "Ring.books" s_rbooks a_rbooks d_rbooks
  b_rbooks : Binds K d_rbooks P_rbooks []
  a_rpace : Addr
  d_rpace : FuncData
  F_rpace : Fun K "pace" "Ring.pace" s_rpace a_rpace d_rpace
  b_rpace : Binds K d_rpace P_rpace []
  a_rlen : Addr
  d_rlen : FuncData
  F_rlen : Fun K "__len__" "Ring.__len__" s_rlen a_rlen d_rlen
  b_rlen : Binds K d_rlen P_rlen []
  a_rcall : Addr
  d_rcall : FuncData
  F_rcall : Fun K "__call__" "Ring.__call__" s_rcall a_rcall d_rcall
  b_rcall : Binds K d_rcall P_rcall []
  a_rrshift : Addr
  d_rrshift : FuncData
  F_rrshift : Fun K "__rshift__" "Ring.__rshift__" s_rrshift a_rrshift d_rrshift
  b_rrshift : Binds K d_rrshift P_rrshift []
  a_req : Addr
  d_req : FuncData
  F_req : Fun K "__eq__" "Ring.__eq__" s_req a_req d_req
  b_req : Binds K d_req P_req []
  a_check_part : Addr
  d_check_part : FuncData
  F_check_part : Fun K "check_part" "check_part" s_check_part a_check_part d_check_part
  b_check_part : Binds K d_check_part P_check_part []
  g_check_part : mg "check_part" = some (.ref a_check_part)
  a_slowest_decides : Addr
  d_slowest_decides : FuncData
  F_slowest_decides : Fun K "slowest_decides" "slowest_decides" s_slowest_decides a_slowest_decides d_slowest_decides
  b_slowest_decides : Binds K d_slowest_decides P_slowest_decides []
  g_slowest_decides : mg "slowest_decides" = some (.ref a_slowest_decides)
  a_pace_of : Addr
  d_pace_of : FuncData
  F_pace_of : Fun K "pace_of" "pace_of" s_pace_of a_pace_of d_pace_of
  b_pace_of : Binds K d_pace_of P_pace_of []
  g_pace_of : mg "pace_of" = some (.ref a_pace_of)
  a_round_pace : Addr
  d_round_pace : FuncData
  F_round_pace : Fun K "round_pace" "round_pace" s_round_pace a_round_pace d_round_pace
  b_round_pace : Binds K d_round_pace P_round_pace []
  g_round_pace : mg "round_pace" = some (.ref a_round_pace)
  a_end_day : Addr
  d_end_day : FuncData
  F_end_day : Fun K "end_day" "end_day" s_end_day a_end_day d_end_day
  b_end_day : Binds K d_end_day P_end_day []
  g_end_day : mg "end_day" = some (.ref a_end_day)
  a_heap_on : Addr
  d_heap_on : FuncData
  F_heap_on : Fun K "heap_on" "heap_on" s_heap_on a_heap_on d_heap_on
  b_heap_on : Binds K d_heap_on P_heap_on []
  g_heap_on : mg "heap_on" = some (.ref a_heap_on)
  a_longest_heap : Addr
  d_longest_heap : FuncData
  F_longest_heap : Fun K "longest_heap" "longest_heap" s_longest_heap a_longest_heap d_longest_heap
  b_longest_heap : Binds K d_longest_heap P_longest_heap []
  g_longest_heap : mg "longest_heap" = some (.ref a_longest_heap)
  a_settled : Addr
  d_settled : FuncData
  F_settled : Fun K "settled" "settled" s_settled a_settled d_settled
  b_settled : Binds K d_settled P_settled []
  g_settled : mg "settled" = some (.ref a_settled)
  a_first_meeting : Addr
  d_first_meeting : FuncData
  F_first_meeting : Fun K "first_meeting" "first_meeting" s_first_meeting a_first_meeting d_first_meeting
  b_first_meeting : Binds K d_first_meeting P_first_meeting []
  g_first_meeting : mg "first_meeting" = some (.ref a_first_meeting)
  a_check_book : Addr
  d_check_book : FuncData
  F_check_book : Fun K "check_book" "check_book" s_check_book a_check_book d_check_book
  b_check_book : Binds K d_check_book P_check_book []
  g_check_book : mg "check_book" = some (.ref a_check_book)
  a_reader_before : Addr
  d_reader_before : FuncData
  F_reader_before : Fun K "reader_before" "reader_before" s_reader_before a_reader_before d_reader_before
  b_reader_before : Binds K d_reader_before P_reader_before []
  g_reader_before : mg "reader_before" = some (.ref a_reader_before)
  a_reader_after : Addr
  d_reader_after : FuncData
  F_reader_after : Fun K "reader_after" "reader_after" s_reader_after a_reader_after d_reader_after
  b_reader_after : Binds K d_reader_after P_reader_after []
  g_reader_after : mg "reader_after" = some (.ref a_reader_after)
  a_ended_by : Addr
  d_ended_by : FuncData
  F_ended_by : Fun K "ended_by" "ended_by" s_ended_by a_ended_by d_ended_by
  b_ended_by : Binds K d_ended_by P_ended_by []
  g_ended_by : mg "ended_by" = some (.ref a_ended_by)
  a_begun_by : Addr
  d_begun_by : FuncData
  F_begun_by : Fun K "begun_by" "begun_by" s_begun_by a_begun_by d_begun_by
  b_begun_by : Binds K d_begun_by P_begun_by []
  g_begun_by : mg "begun_by" = some (.ref a_begun_by)
  a_repetition : Addr
  d_repetition : FuncData
  F_repetition : Fun K "repetition" "repetition" s_repetition a_repetition d_repetition
  b_repetition : Binds K d_repetition P_repetition []
  g_repetition : mg "repetition" = some (.ref a_repetition)
  a_row_repeats : Addr
  d_row_repeats : FuncData
  F_row_repeats : Fun K "row_repeats" "row_repeats" s_row_repeats a_row_repeats d_row_repeats
  b_row_repeats : Binds K d_row_repeats P_row_repeats []
  g_row_repeats : mg "row_repeats" = some (.ref a_row_repeats)
  a_last_new_day : Addr
  d_last_new_day : FuncData
  F_last_new_day : Fun K "last_new_day" "last_new_day" s_last_new_day a_last_new_day d_last_new_day
  b_last_new_day : Binds K d_last_new_day P_last_new_day []
  g_last_new_day : mg "last_new_day" = some (.ref a_last_new_day)
  a_first_stay : Addr
  d_first_stay : FuncData
  F_first_stay : Fun K "first_stay" "first_stay" s_first_stay a_first_stay d_first_stay
  b_first_stay : Binds K d_first_stay P_first_stay []
  g_first_stay : mg "first_stay" = some (.ref a_first_stay)
  a_next_stay : Addr
  d_next_stay : FuncData
  F_next_stay : Fun K "next_stay" "next_stay" s_next_stay a_next_stay d_next_stay
  b_next_stay : Binds K d_next_stay P_next_stay []
  g_next_stay : mg "next_stay" = some (.ref a_next_stay)
  a_first_unlike : Addr
  d_first_unlike : FuncData
  F_first_unlike : Fun K "first_unlike" "first_unlike" s_first_unlike a_first_unlike d_first_unlike
  b_first_unlike : Binds K d_first_unlike P_first_unlike []
  g_first_unlike : mg "first_unlike" = some (.ref a_first_unlike)
  a_numbers_to_compare : Addr
  d_numbers_to_compare : FuncData
  F_numbers_to_compare : Fun K "numbers_to_compare" "numbers_to_compare" s_numbers_to_compare a_numbers_to_compare d_numbers_to_compare
  b_numbers_to_compare : Binds K d_numbers_to_compare P_numbers_to_compare []
  g_numbers_to_compare : mg "numbers_to_compare" = some (.ref a_numbers_to_compare)
  a_ltaken : Addr
  d_ltaken : FuncData
  F_ltaken : Fun K "_law_taken" "_law_taken" s_ltaken a_ltaken d_ltaken
  b_ltaken : Binds K d_ltaken P_ltaken []
  g_ltaken : mg "_law_taken" = some (.ref a_ltaken)
  a_lgreat : Addr
  d_lgreat : FuncData
  F_lgreat : Fun K "_law_great" "_law_great" s_lgreat a_lgreat d_lgreat
  b_lgreat : Binds K d_lgreat P_lgreat []
  g_lgreat : mg "_law_great" = some (.ref a_lgreat)
  a_lparts : Addr
  d_lparts : FuncData
  F_lparts : Fun K "_law_parts" "_law_parts" s_lparts a_lparts d_lparts
  b_lparts : Binds K d_lparts P_lparts []
  g_lparts : mg "_law_parts" = some (.ref a_lparts)
  a_law : Addr
  d_law : FuncData
  F_law : Fun K "law" "law" s_law a_law d_law
  b_law : Binds K d_law P_law []
  g_law : mg "law" = some (.ref a_law)
  cl : Cls K C
  nD : NoAttr K C "_days"
  nS : NoAttr K C "_starts"
  mkR : Mk K C a_rinit
  gC : mg "Ring" = some (.ref C)
  p_rdays : Addr
  q_rdays : PropOf K C "days" p_rdays a_rdays
  p_rstarts : Addr
  q_rstarts : PropOf K C "starts" p_rstarts a_rstarts
  p_rbooks : Addr
  q_rbooks : PropOf K C "books" p_rbooks a_rbooks
  p_rpace : Addr
  q_rpace : PropOf K C "pace" p_rpace a_rpace
  lenC : PySem.W.findIn K (.ref C) "__len__" = some (some (.ref a_rlen))
  lenF : PySem.W.isFn K (.ref a_rlen) = true
  callC : StX.CallO K C a_rcall
  shC : PySem.W.findIn K (.ref C) "__rshift__" = some (some (.ref a_rrshift))
  shF : PySem.W.isFn K (.ref a_rrshift) = true
  shN : PySem.W.findIn K (.ref C) "__rrshift__" = some none
  shI : ∃ fo, PySem.W.findIn K (.type "int") "__rshift__" = some fo
  shJ : ∃ ro, PySem.W.findIn K (.type "int") "__rrshift__" = some ro
  shS : PySem.W.subIn K (.type "int") (.ref C) = some false
  sfC : PySem.W.selfFirst K C = true
  clsC : PySem.W.findIn K (.ref C) "__class__" = some (some (.builtin "object.__class__"))
  clsG : PySem.W.specialIn K (.builtin "object.__class__") "__get__" = some (some (.builtin "getset_descriptor.__get__"))
  clsT : PySem.W.takesIn K (.builtin "object.__class__") = some true
  clsM : PySem.W.mroIn K C (.type "object") = some true
  eqC : PySem.W.findIn K (.ref C) "__eq__" = some (some (.ref a_req))
  eqF : PySem.W.isFn K (.ref a_req) = true
  kC : PySem.W.keepIn K (.ref C) = true
  c_LATEST : ∃ t, mg "LATEST" = some (.int 1000000000000000000 t)
  c_FEWEST_READERS : ∃ t, mg "FEWEST_READERS" = some (.int 2 t)
  c_MOST_READERS : ∃ t, mg "MOST_READERS" = some (.int 8 t)
  c_MOST_DAYS : ∃ t, mg "MOST_DAYS" = some (.int 30 t)
  c_MOST_BOOKS : ∃ t, mg "MOST_BOOKS" = some (.int 12 t)
  g_gcd : mg "gcd" = some (.builtin "math.gcd")
  g_lcm : mg "lcm" = some (.builtin "math.lcm")
  z_len : mg "len" = none
  z_sum : mg "sum" = none
  z_max : mg "max" = none
  z_min : mg "min" = none
  z_range : mg "range" = none
  z_int : mg "int" = none
  z_bool : mg "bool" = none
  z_isinstance : mg "isinstance" = none
  z_tuple : mg "tuple" = none
  z_enumerate : mg "enumerate" = none
  z_list : mg "list" = none
  z_str : mg "str" = none
  z_sorted : mg "sorted" = none
  z_zip : mg "zip" = none
end Rp
namespace Rp
open PySem PySem.Spec PyProof.Rows L2 Rz Rm
/-! ### a ring as it stands -/
theorem ds_ne : ¬ (("_days" : Str) = "_starts") := by decide +kernel
def flds (td ts : Addr) : List (Str × V) := putF "_starts" (.ref ts) (putF "_days" (.ref td) [])
theorem flds_days (td ts : Addr) : (flds td ts).lookup ("_days" : Str) = some (.ref td) := by
  unfold flds
  rw [lookup_putF, if_neg ds_ne, lookup_putF, if_pos rfl]
theorem flds_starts (td ts : Addr) : (flds td ts).lookup ("_starts" : Str) = some (.ref ts) := by
  unfold flds
  rw [lookup_putF, if_pos rfl]
/-- days and books at first that make a ring -/
structure Good (ds ss : List Int) : Prop where
  l2 : 2 ≤ ds.length
  l8 : ds.length ≤ 8
  ls : ss.length = ds.length
  d1 : ∀ y ∈ ds, 1 ≤ y ∧ y ≤ 30
  s0 : ∀ y ∈ ss, 0 ≤ y ∧ y ≤ 12
  b1 : 1 ≤ ss.sum
  b12 : ss.sum ≤ 12
structure RingAt (C : Addr) (H : Hp) (p dx td ts : Addr) (ds ss : List Int) : Prop where
  ob : H p = some (.ins C dx (flds td ts))
  td : H td = some (.tup (ds.map V.int))
  ts : H ts = some (.tup (ss.map V.int))
  ok : Good ds ss
theorem RingAt.same {C : Addr} {H H' : Hp} {p dx td ts : Addr} {ds ss : List Int} (R : RingAt C H p dx td ts ds ss) (s : Same H H') : RingAt C H' p dx td ts ds ss :=
  ⟨s _ _ R.ob, s _ _ R.td, s _ _ R.ts, R.ok⟩
theorem sq_same {K : PySem.W.Frag} {H H' : Hp} {a : Addr} {xs : List V} (e : Same H H') (h : H a = some (.tup xs)) : SqT K H' a xs := .of (e _ _ h)
theorem same_upd {H : Hp} {p : Addr} {o : HO} (h : H p = none) : Same H (upd H p o) := fun b x e => by
  rw [upd_ne (ne_of_none e h)]
  exact e
section
variable {P : Program} {w : World} {K : PySem.W.Frag} {mg : Str → Option Value} {base : Heap}
/-! ### checks -/
/-- a number is one -/
def spIsNum : Sp := fun vs H Q _ => ∃ i : Int, vs = [.int i] ∧ Q (.bl true) H
theorem ok_is_number (T : Tx K mg) : FnOk P w K mg base CX0 1 T.a_is_number T.d_is_number P_is_number spIsNum := by
  refine T.F_is_number.ok sc_is_number (fun vs H Q E h => ?_) (fun cdv A outer s H vs Q E hr h => ?_)
  · obtain ⟨i, rfl, _⟩ := h
    rfl
  · obtain ⟨i, rfl, q⟩ := h
    refine ⟨_, pss_one (ps_ret (pe_and (pe_callB call_isi (by rfl) T.z_isinstance (by decide +kernel) (pa_cons (pv 0) (pa_cons (pe_bltn (v := .ty "int") (u := .type "int") (by rfl) T.z_int (by decide +kernel) rfl) pa_nil)))
      (pe_one (pe_not (pe_callB call_isi (by rfl) T.z_isinstance (by decide +kernel) (pa_cons (pv 0) (pa_cons (pe_bltn (v := .ty "bool") (u := .type "bool") (by rfl) T.z_bool (by decide +kernel) rfl) pa_nil))))))), ?_⟩
    refine ⟨.int i, rfl, .int i, .ty "int", .type "int", .type "int", true, rfl, .ty _, .base (.int i), kit_ty (by decide +kernel), true, rfl, iteT ?_⟩
    exact ⟨.int i, rfl, .int i, .ty "bool", .type "int", .type "bool", false, rfl, .ty _, .base (.int i), kit_ty (by decide +kernel), false, rfl, q⟩
def spLies : Sp := fun vs H Q _ => ∃ v lo hi : Int, vs = [.int v, .int lo, .int hi] ∧ Q (.bl (decide (lo ≤ v) && decide (v ≤ hi))) H
theorem ok_lies (T : Tx K mg) : FnOk P w K mg base CX0 2 T.a_lies_between T.d_lies_between P_lies_between spLies := by
  refine T.F_lies_between.ok sc_lies_between (fun vs H Q E h => ?_) (fun cdv A outer s H vs Q E hr h => ?_)
  · obtain ⟨v, lo, hi, rfl, _⟩ := h
    rfl
  · obtain ⟨v, lo, hi, rfl, q⟩ := h
    refine ⟨_, pss_one (ps_ret (pe_and (pe_call (ok_is_number T) hr (by rfl) T.g_is_number T.F_is_number.kp T.b_is_number .nil pass0 (pa_cons (pv 0) pa_nil)) (pe_one (pe_chain op_le op_le (pv 1) (pv 0) (pv 2))))), ?_⟩
    refine ⟨.int v, rfl, v, rfl, true, rfl, iteT ?_⟩
    refine ⟨.int lo, rfl, .int v, rfl, lo, v, rfl, rfl, decide (lo ≤ v), rfl, ?_⟩
    by_cases h : lo ≤ v
    · rw [decide_eq_true h] at q ⊢
      exact iteT ⟨.int hi, rfl, v, hi, rfl, rfl, q⟩
    · rw [decide_eq_false h] at q ⊢
      exact iteF q
theorem in_lim {v lo hi : Int} (h1 : lo ≤ v) (h2 : v ≤ hi) : (decide (lo ≤ v) && decide (v ≤ hi)) = true := by
  rw [decide_eq_true h1, decide_eq_true h2] <;> rfl
def spChk : Sp := fun vs H Q _ => ∃ v lo hi : Int, vs = [.int v, .int lo, .int hi] ∧ lo ≤ v ∧ v ≤ hi ∧ Q .non H
theorem ok_chk (T : Tx K mg) : FnOk P w K mg base CX0 3 T.a_check_number T.d_check_number P_check_number spChk := by
  refine T.F_check_number.ok sc_check_number (fun vs H Q E h => ?_) (fun cdv A outer s H vs Q E hr h => ?_)
  · obtain ⟨v, lo, hi, rfl, _⟩ := h
    rfl
  · obtain ⟨v, lo, hi, rfl, h1, h2, q⟩ := h
    refine ⟨_, pss_one (ps_if (pt_not (pt_val (pe_call (ok_lies T) hr (by rfl) T.g_lies_between T.F_lies_between.kp T.b_lies_between .nil pass0 (pa_cons (pv 0) (pa_cons (pv 1) (pa_cons (pv 2) pa_nil)))))) (pss_one ps_never) pss_nil), ?_⟩
    refine ⟨.int v, rfl, .int lo, rfl, .int hi, rfl, v, lo, hi, rfl, _, rfl, ?_⟩
    rw [in_lim h1 h2]
    exact iteF q
/-! ### the ring's own -/
def spLen (C : Addr) : Sp := fun vs H Q _ => ∃ p dx td ts ds ss, vs = [.ref p] ∧ RingAt C H p dx td ts ds ss ∧ Q (.int ds.length) H
theorem ok_len (T : Tx K mg) : FnOk P w K mg base CX0 1 T.a_rlen T.d_rlen P_rlen (spLen T.C) := by
  refine T.F_rlen.ok sc_rlen (fun vs H Q E h => ?_) (fun cdv A outer s H vs Q E hr h => ?_)
  · obtain ⟨p, dx, td, ts, ds, ss, rfl, _⟩ := h
    rfl
  · obtain ⟨p, dx, td, ts, ds, ss, rfl, R, q⟩ := h
    refine ⟨_, pss_one (ps_ret (pe_callB call_len_seq (by rfl) T.z_len PySem.boot_len (pa_cons (pe_fld (pv 0) rfl) pa_nil))), ?_⟩
    refine ⟨_, rfl, p, _, dx, _, _, rfl, R.ob, T.cl, T.nD, flds_days _ _, td, _, rfl, .inr (.of R.td), ?_⟩
    rw [List.length_map]
    exact q
def spDays (C : Addr) : Sp := fun vs H Q _ => ∃ p dx td ts ds ss, vs = [.ref p] ∧ RingAt C H p dx td ts ds ss ∧ Q (.ref td) H
def spStarts (C : Addr) : Sp := fun vs H Q _ => ∃ p dx td ts ds ss, vs = [.ref p] ∧ RingAt C H p dx td ts ds ss ∧ Q (.ref ts) H
def spBooks (C : Addr) : Sp := fun vs H Q _ => ∃ p dx td ts ds ss, vs = [.ref p] ∧ RingAt C H p dx td ts ds ss ∧ Q (.int ss.sum) H
theorem ok_days (T : Tx K mg) : FnOk P w K mg base CX0 1 T.a_rdays T.d_rdays P_rdays (spDays T.C) := by
  refine T.F_rdays.ok sc_rdays (fun vs H Q E h => ?_) (fun cdv A outer s H vs Q E hr h => ?_)
  · obtain ⟨p, dx, td, ts, ds, ss, rfl, _⟩ := h
    rfl
  · obtain ⟨p, dx, td, ts, ds, ss, rfl, R, q⟩ := h
    refine ⟨_, pss_one (ps_ret (pe_fld (pv 0) rfl)), ?_⟩
    exact ⟨_, rfl, p, _, dx, _, _, rfl, R.ob, T.cl, T.nD, flds_days _ _, q⟩
theorem ok_starts (T : Tx K mg) : FnOk P w K mg base CX0 1 T.a_rstarts T.d_rstarts P_rstarts (spStarts T.C) := by
  refine T.F_rstarts.ok sc_rstarts (fun vs H Q E h => ?_) (fun cdv A outer s H vs Q E hr h => ?_)
  · obtain ⟨p, dx, td, ts, ds, ss, rfl, _⟩ := h
    rfl
  · obtain ⟨p, dx, td, ts, ds, ss, rfl, R, q⟩ := h
    refine ⟨_, pss_one (ps_ret (pe_fld (pv 0) rfl)), ?_⟩
    exact ⟨_, rfl, p, _, dx, _, _, rfl, R.ob, T.cl, T.nS, flds_starts _ _, q⟩
theorem ok_books (T : Tx K mg) : FnOk P w K mg base CX0 1 T.a_rbooks T.d_rbooks P_rbooks (spBooks T.C) := by
  refine T.F_rbooks.ok sc_rbooks (fun vs H Q E h => ?_) (fun cdv A outer s H vs Q E hr h => ?_)
  · obtain ⟨p, dx, td, ts, ds, ss, rfl, _⟩ := h
    rfl
  · obtain ⟨p, dx, td, ts, ds, ss, rfl, R, q⟩ := h
    refine ⟨_, pss_one (ps_ret (pe_callB (cr_sumT rfl) (by rfl) T.z_sum (by decide +kernel) (pa_cons (pe_fld (pv 0) rfl) pa_nil))), ?_⟩
    exact ⟨_, rfl, p, _, dx, _, _, rfl, R.ob, T.cl, T.nS, flds_starts _ _, ts, ss, rfl, .of R.ts, q⟩
/-! ### check_reader -/
def spReader (C : Addr) : Sp := fun vs H Q _ => ∃ p dx td ts ds ss, ∃ r : Int, vs = [.ref p, .int r] ∧ RingAt C H p dx td ts ds ss ∧ 0 ≤ r ∧ r < ds.length ∧ Q .non H
theorem ok_reader (T : Tx K mg) : FnOk P w K mg base CX0 3 T.a_check_reader T.d_check_reader P_check_reader (spReader T.C) := by
  refine T.F_check_reader.ok sc_check_reader (fun vs H Q E h => ?_) (fun cdv A outer s H vs Q E hr h => ?_)
  · obtain ⟨p, dx, td, ts, ds, ss, r, rfl, _⟩ := h
    rfl
  · obtain ⟨p, dx, td, ts, ds, ss, r, rfl, R, h1, h2, q⟩ := h
    refine ⟨_, pss_one (ps_if (pt_not (pt_val (pe_call (ok_lies T) hr (by rfl) T.g_lies_between T.F_lies_between.kp T.b_lies_between .nil pass0
      (pa_cons (pv 1) (pa_cons pe_int (pa_cons (pe_op op_sub (pe_callB (call_lenI T.lenC T.lenF ((ok_len T).raw T.b_rlen .nil) hr pass0) (by rfl) T.z_len PySem.boot_len (pa_cons (pv 0) pa_nil)) pe_int) pa_nil)))))) (pss_one ps_never) pss_nil), ?_⟩
    have hl := R.ok.l8
    refine ⟨.int r, rfl, .ref p, rfl, p, dx, _, rfl, R.ob, p, dx, td, ts, ds, ss, rfl, R, (ds.length : Int), rfl, by omega, by omega, _, _, rfl, rfl, ?_⟩
    refine ⟨r, 0, (ds.length : Int) - 1, rfl, _, rfl, ?_⟩
    rw [in_lim h1 (show r ≤ (ds.length : Int) - 1 by omega)]
    exact iteF q
end
end Rp
namespace Rp
open PySem PySem.Spec PyProof.Rows L2 Rz Rm
/-! ### the pace -/
/-- days that readers need -/
structure Dys (ds : List Int) : Prop where
  ne : 0 < ds.length
  d1 : ∀ y ∈ ds, 1 ≤ y
theorem Good.dys {ds ss : List Int} (G : Good ds ss) : Dys ds := ⟨by have := G.l2; omega, fun y h => (G.d1 y h).1⟩
def mx (ds : List Int) : Int := ds.foldr max 0
theorem mx_nn : ∀ ds : List Int, 0 ≤ mx ds
  | [] => Int.le_refl _
  | a :: r => by
    have := mx_nn r
    show 0 ≤ max a (mx r)
    omega
theorem le_mx : ∀ {ds : List Int} {y : Int}, y ∈ ds → y ≤ mx ds
  | a :: r, y, h => by
    show y ≤ max a (mx r)
    rcases List.mem_cons.mp h with e | e
    · omega
    · have := le_mx e
      omega
theorem mx_le : ∀ {ds : List Int} {M : Int}, 0 ≤ M → (∀ y ∈ ds, y ≤ M) → mx ds ≤ M
  | [], _, h, _ => h
  | a :: r, M, h, hu => by
    have h1 := hu a List.mem_cons_self
    have h2 := mx_le (ds := r) h fun y hy => hu y (List.mem_cons_of_mem _ hy)
    show max a (mx r) ≤ M
    omega
theorem mx_eq {ds : List Int} {M : Int} (D : Dys ds) (hM : M ∈ ds) (hMu : ∀ y ∈ ds, y ≤ M) : mx ds = M :=
  Int.le_antisymm (mx_le (by have := D.d1 M hM; omega) hMu) (le_mx hM)
theorem mx_mem : ∀ {ds : List Int}, ds ≠ [] → (∀ y ∈ ds, 0 ≤ y) → mx ds ∈ ds
  | [], h, _ => absurd rfl h
  | [a], _, h => by
    have h1 := h a (by simp)
    show max a 0 ∈ [a]
    rw [show max a 0 = a by omega]
    simp
  | a :: b :: r, _, h => by
    have ih := mx_mem (ds := b :: r) (by simp) fun y hy => h y (List.mem_cons_of_mem _ hy)
    show max a (mx (b :: r)) ∈ a :: b :: r
    by_cases c : a ≤ mx (b :: r)
    · rw [show max a (mx (b :: r)) = mx (b :: r) by omega]
      exact List.mem_cons_of_mem _ ih
    · rw [show max a (mx (b :: r)) = a by omega]
      exact List.mem_cons_self
theorem Dys.mem {ds : List Int} (D : Dys ds) : mx ds ∈ ds := mx_mem (fun e => by
  have := D.ne
  rw [e] at this
  exact absurd this (Nat.lt_irrefl _)) fun y h => by have := D.d1 y h; omega
def gq (ds : List Int) (b : Int) : Int := ((Nat.gcd ds.sum.natAbs b.natAbs : Nat) : Int)
/-- the pace's two numbers -/
def pX (ds : List Int) (b : Int) : Int := if ds.sum ≤ mx ds * b then mx ds else ds.sum / gq ds b
def pY (ds : List Int) (b : Int) : Int := if ds.sum ≤ mx ds * b then 1 else b / gq ds b
theorem gq_facts {ds : List Int} {b : Int} (h : 1 ≤ b) : 1 ≤ gq ds b ∧ gq ds b ≤ b ∧ gq ds b ∣ ds.sum ∧ gq ds b ∣ b := by
  have g0 : 0 < Nat.gcd ds.sum.natAbs b.natAbs := Nat.gcd_pos_of_pos_right _ (by omega)
  have gle : Nat.gcd ds.sum.natAbs b.natAbs ≤ b.natAbs := Nat.le_of_dvd (by omega) (Nat.gcd_dvd_right _ _)
  unfold gq
  exact ⟨by omega, by omega, Int.ofNat_dvd_left.mpr (Nat.gcd_dvd_left _ _), Int.ofNat_dvd_left.mpr (Nat.gcd_dvd_right _ _)⟩
section
variable {P : Program} {w : World} {K : PySem.W.Frag} {mg : Str → Option Value} {base : Heap}
/-! ### check_part -/
def spPart : Sp := fun vs H Q _ => ∃ (part : Str) (v l n : Addr) (ns : List Int) (lo hi f m : Int), vs = [.str part, .ref v, .ref l, .ref n] ∧ H v = some (.tup (ns.map V.int)) ∧ H l = some (.tup [.int lo, .int hi]) ∧ H n = some (.tup [.int f, .int m]) ∧
  (∀ y ∈ ns, lo ≤ y ∧ y ≤ hi) ∧ f ≤ ns.length ∧ (ns.length : Int) ≤ m ∧ ∀ H', Same H H' → Q .non H'
theorem get_int {ns : List Int} {i : Nat} {y : V} (h : (ns.map V.int)[i]? = some y) : ∃ z, ns[i]? = some z ∧ y = .int z := by
  rw [List.getElem?_map] at h
  cases e : ns[i]? with
  | none =>
    rw [e] at h
    cases h
  | some z =>
    rw [e] at h
    exact ⟨z, rfl, (Option.some.inj h).symm⟩
theorem ok_part (T : Tx K mg) : FnOk P w K mg base CX0 3 T.a_check_part T.d_check_part P_check_part spPart := by
  refine T.F_check_part.ok sc_check_part (fun vs H Q E h => ?_) (fun cdv A outer s H vs Q E hr h => ?_)
  · obtain ⟨part, v, l, n, ns, lo, hi, f, m, rfl, _⟩ := h
    rfl
  · obtain ⟨part, v, l, n, ns, lo, hi, f, m, rfl, hv, hl, hn, hall, hf, hm, q⟩ := h
    have nd := sc_check_part.nd
    refine ⟨_, pss_cons (ps_if (pt_not (pt_val (pe_callB call_isi (by rfl) T.z_isinstance (by decide +kernel) (pa_cons (pv 1) (pa_cons (pe_bltn (v := .ty "tuple") (u := .type "tuple") (by rfl) T.z_tuple (by decide +kernel) rfl) pa_nil))))) (pss_one ps_never) pss_nil)
      (pss_cons (ps_asg (pv 2) (pg_tup rfl (pgs_cons (pg_name (i := 4) nd rfl (.inl rfl)) (pgs_cons (pg_name (i := 5) nd rfl (.inl rfl)) pgs_nil))))
      (pss_cons (ps_asg (pv 3) (pg_tup rfl (pgs_cons (pg_name (i := 6) nd rfl (.inl rfl)) (pgs_cons (pg_name (i := 7) nd rfl (.inl rfl)) pgs_nil))))
      (pss_cons (ps_for PassesOwn.never rfl (pi_enumT (by rfl) T.z_enumerate (pa_cons (pv 1) pa_nil)) (pg_tup rfl (pgs_cons (pg_name (i := 8) nd rfl (.inl rfl)) (pgs_cons (pg_name (i := 9) nd rfl (.inl rfl)) pgs_nil)))
        (pss_one (ps_if (PW.pt (pw_or (pt_cmpR op_ge (pv 8) (pv 7) (nomark _)) (pw_or1 (pt_not (pt_val (pe_call (ok_lies T) hr (by rfl) T.g_lies_between T.F_lies_between.kp T.b_lies_between .nil pass0 (pa_cons (pv 9) (pa_cons (pv 4) (pa_cons (pv 5) pa_nil)))))))))
          (pss_one ps_never) pss_nil)))
      (pss_one (ps_if (pt_cmpR op_lt (pe_callB call_len_seq (by rfl) T.z_len PySem.boot_len (pa_cons (pv 1) pa_nil)) (pv 6) (nomark _)) (pss_one ps_never) pss_nil))))), ?_⟩
    -- isinstance(values, tuple)
    refine ⟨.ref v, rfl, .ref v, .ty "tuple", .type "tuple", .type "tuple", true, rfl, .ty _, .base (.tup hv), kit_ty (by decide +kernel), true, rfl, iteF ?_⟩
    -- low, high = limits; fewest, most = lengths
    refine ⟨.ref l, rfl, l, _, rfl, .of hl, rfl, _, _, rfl, _, _, rfl, rfl, ?_⟩
    refine ⟨.ref n, rfl, n, _, rfl, .of hn, rfl, _, _, rfl, _, _, rfl, rfl, ?_⟩
    -- for index, value in enumerate(values)
    refine ⟨.ref v, rfl, v, _, rfl, .of hv, for_it walk_enumT (fun i σ H' => ∃ y8 y9, σ = [some (.str part), some (.ref v), some (.ref l), some (.ref n), some (.int lo), some (.int hi), some (.int f), some (.int m), y8, y9] ∧ Same H H')
      ⟨none, none, rfl, Same.refl H⟩ (fun i σ H' _ ⟨_, _, _, sm⟩ => sq_same sm hv) ?_ ?_⟩
    · rintro i x σ H1 H2 hi1 ⟨y8, y9, rfl, sm⟩ ⟨t, a, b, rfl, nt, rfl, ha, hb⟩
      have ha' : a = .int (i : Nat) := (Option.some.inj ha).symm
      subst ha'
      obtain ⟨z, hz, rfl⟩ := get_int hb
      rw [List.length_map] at hi1
      have hz2 := hall z (List.mem_of_getElem? hz)
      refine ⟨t, _, rfl, .of upd_same, rfl, _, _, rfl, _, _, rfl, rfl, ?_⟩
      refine ⟨.int (i : Nat), rfl, .int m, rfl, _, _, rfl, rfl, _, rfl, ?_⟩
      rw [decide_eq_false (show ¬ m ≤ ((i : Nat) : Int) by omega)]
      refine iteF ?_
      refine ⟨.int z, rfl, .int lo, rfl, .int hi, rfl, z, lo, hi, rfl, _, rfl, ?_⟩
      rw [in_lim hz2.1 hz2.2]
      exact iteF ⟨_, _, rfl, sm.trans (same_upd nt)⟩
    · rintro σ H1 ⟨y8, y9, rfl, sm⟩
      refine ⟨.ref v, rfl, v, _, rfl, .inr (sq_same sm hv), .int f, rfl, _, _, rfl, rfl, _, rfl, ?_⟩
      rw [List.length_map, decide_eq_false (show ¬ (ns.length : Int) < f by omega)]
      exact iteF (q H1 sm)
/-! ### Ring.__init__ -/
def spInit (C : Addr) : Sp := fun vs H Q _ => ∃ (p dx td ts : Addr) (ds ss : List Int), vs = [.ref p, .ref td, .ref ts] ∧ H p = some (.ins C dx []) ∧ H td = some (.tup (ds.map V.int)) ∧ H ts = some (.tup (ss.map V.int)) ∧ Good ds ss ∧
  ∀ H', RingAt C H' p dx td ts ds ss → (∀ b o, H b = some o → b ≠ p → H' b = some o) → Q .non H'
theorem ok_init (T : Tx K mg) : FnOk P w K mg base CX0 4 T.a_rinit T.d_rinit P_rinit (spInit T.C) := by
  refine T.F_rinit.ok sc_rinit (fun vs H Q E h => ?_) (fun cdv A outer s H vs Q E hr h => ?_)
  · obtain ⟨p, dx, td, ts, ds, ss, rfl, _⟩ := h
    rfl
  · obtain ⟨p, dx, td, ts, ds, ss, rfl, hp, hd, hs, G, q⟩ := h
    obtain ⟨u1, c1⟩ := T.c_MOST_DAYS
    obtain ⟨u2, c2⟩ := T.c_FEWEST_READERS
    obtain ⟨u3, c3⟩ := T.c_MOST_READERS
    obtain ⟨u4, c4⟩ := T.c_MOST_BOOKS
    have l2 := G.l2
    have l8 := G.l8
    have ls := G.ls
    refine ⟨_, pss_cons (ps_expr (pe_call (ok_part T) hr (by rfl) T.g_check_part T.F_check_part.kp T.b_check_part .nil pass0 (pa_cons pe_str (pa_cons (pv 1) (pa_cons (pe_tup (pa_cons pe_int (pa_cons (pe_glob (v := .int 30) (by rfl) c1 ⟨_, rfl⟩) pa_nil))) (pa_cons (pe_tup (pa_cons (pe_glob (v := .int 2) (by rfl) c2 ⟨_, rfl⟩) (pa_cons (pe_glob (v := .int 8) (by rfl) c3 ⟨_, rfl⟩) pa_nil))) pa_nil))))))
      (pss_cons (ps_expr (pe_call (ok_part T) hr (by rfl) T.g_check_part T.F_check_part.kp T.b_check_part .nil pass0 (pa_cons pe_str (pa_cons (pv 2) (pa_cons (pe_tup (pa_cons pe_int (pa_cons (pe_glob (v := .int 12) (by rfl) c4 ⟨_, rfl⟩) pa_nil)))
        (pa_cons (pe_tup (pa_cons (pe_callB call_len_seq (by rfl) T.z_len PySem.boot_len (pa_cons (pv 1) pa_nil)) (pa_cons (pe_callB call_len_seq (by rfl) T.z_len PySem.boot_len (pa_cons (pv 1) pa_nil)) pa_nil))) pa_nil))))))
      (pss_cons (ps_if (pt_not (pt_chain op_le op_le pe_int (pe_callB (cr_sumT rfl) (by rfl) T.z_sum (by decide +kernel) (pa_cons (pv 2) pa_nil)) (pe_glob (v := .int 12) (by rfl) c4 ⟨_, rfl⟩))) (pss_one ps_never) pss_nil)
      (pss_cons (ps_fld (pv 0) (pe_callTy call_tupleT (by rfl) T.z_tuple (by decide +kernel) (pa_cons (pv 1) pa_nil)) rfl)
      (pss_one (ps_fld (pv 0) (pe_callTy call_tupleT (by rfl) T.z_tuple (by decide +kernel) (pa_cons (pv 2) pa_nil)) rfl))))), ?_⟩
    -- check_part("days", ..)
    refine ⟨.ref td, rfl, (by show 2 ≤ sizeLine; decide), fun a1 h1 => ⟨(by show 2 ≤ sizeLine; decide), fun a2 h2 => ?_⟩⟩
    have s1 := same_upd (o := .tup [.int 1, .int 30]) h1
    have s2 := same_upd (o := .tup [.int 2, .int 8]) h2
    refine ⟨_, td, a1, a2, ds, 1, 30, 2, 8, rfl, s2 _ _ (s1 _ _ hd), s2 _ _ upd_same, upd_same, G.d1, by omega, by omega, fun H1 s3 => ?_⟩
    have t1 : Same H H1 := (s1.trans s2).trans s3
    -- check_part("starts", ..)
    refine ⟨.ref ts, rfl, (by show 2 ≤ sizeLine; decide), fun a3 h3 => ?_⟩
    have s4 := same_upd (o := .tup [.int 0, .int 12]) h3
    refine ⟨.ref td, rfl, td, _, rfl, .inr (sq_same (t1.trans s4) hd), .ref td, rfl, td, _, rfl, .inr (sq_same (t1.trans s4) hd), (by show 2 ≤ sizeLine; decide), fun a4 h4 => ?_⟩
    have s5 := same_upd (o := .tup [.int ((ds.map V.int).length : Nat), .int ((ds.map V.int).length : Nat)]) h4
    refine ⟨_, ts, a3, a4, ss, 0, 12, ((ds.map V.int).length : Nat), ((ds.map V.int).length : Nat), rfl, s5 _ _ (s4 _ _ (t1 _ _ hs)), s5 _ _ upd_same, upd_same, G.s0, by rw [List.length_map]; omega, by rw [List.length_map]; omega, fun H2 s6 => ?_⟩
    have t2 : Same H H2 := ((t1.trans s4).trans s5).trans s6
    -- not 1 <= sum(starts) <= MOST_BOOKS
    refine ⟨.ref ts, rfl, ts, ss, rfl, sq_same t2 hs, _, _, rfl, rfl, _, rfl, ?_⟩
    rw [decide_eq_true G.b1]
    refine iteT ⟨_, _, rfl, rfl, _, rfl, ?_⟩
    rw [decide_eq_true G.b12]
    refine iteF ?_
    -- the two attributes
    refine ⟨.ref td, rfl, td, _, rfl, sq_same t2 hd, _, rfl, p, T.C, dx, [], rfl, t2 _ _ hp, T.cl, T.nD, (by show 0 < 1000; decide), ?_⟩
    have npt : ts ≠ p := ne_of hs hp (by intro z; cases z)
    have npd : td ≠ p := ne_of hd hp (by intro z; cases z)
    refine ⟨.ref ts, rfl, ts, ss.map V.int, rfl, .of (by rw [upd_ne npt]; exact t2 _ _ hs), _, rfl, p, T.C, dx, _, rfl, upd_same, T.cl, T.nS, (by show 1 < 1000; decide), ?_⟩
    refine q _ ⟨upd_same, by rw [upd_ne npd, upd_ne npd]; exact t2 _ _ hd, by rw [upd_ne npt, upd_ne npt]; exact t2 _ _ hs, G⟩ fun b o e hb => ?_
    rw [upd_ne hb, upd_ne hb]
    exact t2 _ _ e
end
end Rp
namespace Rp
open PySem PySem.Spec PyProof.Rows L2 Rz Rm
section
variable {P : Program} {w : World} {K : PySem.W.Frag} {mg : Str → Option Value} {base : Heap}
def spSlow : Sp := fun vs H Q _ => ∃ (td : Addr) (ds : List Int) (b : Int), vs = [.ref td, .int b] ∧ H td = some (.tup (ds.map V.int)) ∧ Dys ds ∧ 0 ≤ b ∧ b < 2 ^ 64 ∧ Q (.bl (decide (ds.sum ≤ mx ds * b))) H
theorem ok_slow (T : Tx K mg) : FnOk P w K mg base CX0 1 T.a_slowest_decides T.d_slowest_decides P_slowest_decides spSlow := by
  refine T.F_slowest_decides.ok sc_slowest_decides (fun vs H Q E h => ?_) (fun cdv A outer s H vs Q E hr h => ?_)
  · obtain ⟨td, ds, b, rfl, _⟩ := h
    rfl
  · obtain ⟨td, ds, b, rfl, hd, D, b0, b1, q⟩ := h
    refine ⟨_, pss_one (ps_ret (pe_cmpR op_ge (pe_op op_mul (pe_callB (cr_maxT rfl) (by rfl) T.z_max (by decide +kernel) (pa_cons (pv 0) pa_nil)) (pv 1)) (pe_callB (cr_sumT rfl) (by rfl) T.z_sum (by decide +kernel) (pa_cons (pv 0) pa_nil)) (nomark _))), ?_⟩
    refine ⟨.ref td, rfl, td, ds, rfl, .of hd, D.ne, fun M hM hMu => ⟨.int b, rfl, M, b, rfl, rfl, .inr ⟨by omega, b1⟩, .ref td, rfl, td, ds, rfl, .of hd, _, _, rfl, rfl, ?_⟩⟩
    rw [mx_eq D hM hMu] at q
    exact q
def spRound : Sp := fun vs H Q _ => ∃ (td : Addr) (ds : List Int) (b : Int), vs = [.ref td, .int b] ∧ H td = some (.tup (ds.map V.int)) ∧ 1 ≤ b ∧ b ≤ 1000 ∧ ∀ H' t, Same H H' → H' t = some (.tup [.int (ds.sum / gq ds b), .int (b / gq ds b)]) → Q (.ref t) H'
theorem ok_round (T : Tx K mg) : FnOk P w K mg base CX0 1 T.a_round_pace T.d_round_pace P_round_pace spRound := by
  refine T.F_round_pace.ok sc_round_pace (fun vs H Q E h => ?_) (fun cdv A outer s H vs Q E hr h => ?_)
  · obtain ⟨td, ds, b, rfl, _⟩ := h
    rfl
  · obtain ⟨td, ds, b, rfl, hd, b1, b2, q⟩ := h
    have nd := sc_round_pace.nd
    refine ⟨_, pss_cons (ps_set (i := 2) nd rfl (.inl rfl) (pe_callBfun cr_gcd (by rfl) T.g_gcd (pa_cons (pe_callB (cr_sumT rfl) (by rfl) T.z_sum (by decide +kernel) (pa_cons (pv 0) pa_nil)) (pa_cons (pv 1) pa_nil))))
      (pss_one (ps_ret (pe_tup (pa_cons (pe_op op_fdiv (pe_callB (cr_sumT rfl) (by rfl) T.z_sum (by decide +kernel) (pa_cons (pv 0) pa_nil)) (pv 2)) (pa_cons (pe_op op_fdiv (pv 1) (pv 2)) pa_nil))))), ?_⟩
    refine ⟨.ref td, rfl, td, ds, rfl, .of hd, .int b, rfl, ds.sum, b, rfl, ?_⟩
    obtain ⟨g0, gle, _, _⟩ := gq_facts (ds := ds) b1
    unfold gq at g0 gle q
    generalize ((Nat.gcd ds.sum.natAbs b.natAbs : Nat) : Int) = g at g0 gle q ⊢
    refine ⟨.ref td, rfl, td, ds, rfl, .of hd, .int g, rfl, _, _, rfl, rfl, ⟨by omega, by omega⟩, .int b, rfl, .int g, rfl, _, _, rfl, rfl, ⟨by omega, by omega⟩, (by show 2 ≤ sizeLine; decide), fun t ht => ?_⟩
    exact q _ t (same_upd ht) upd_same
def spPace : Sp := fun vs H Q _ => ∃ (td : Addr) (ds : List Int) (b : Int), vs = [.ref td, .int b] ∧ H td = some (.tup (ds.map V.int)) ∧ Dys ds ∧ 1 ≤ b ∧ b ≤ 1000 ∧
  ∀ H' t, Same H H' → H' t = some (.tup [.int (pX ds b), .int (pY ds b)]) → Q (.ref t) H'
theorem ok_pace_of (T : Tx K mg) : FnOk P w K mg base CX0 2 T.a_pace_of T.d_pace_of P_pace_of spPace := by
  refine T.F_pace_of.ok sc_pace_of (fun vs H Q E h => ?_) (fun cdv A outer s H vs Q E hr h => ?_)
  · obtain ⟨td, ds, b, rfl, _⟩ := h
    rfl
  · obtain ⟨td, ds, b, rfl, hd, D, b1, b12, q⟩ := h
    have nd := sc_pace_of.nd
    refine ⟨_, pss_cons (ps_if (pt_val (pe_call (ok_slow T) hr (by rfl) T.g_slowest_decides T.F_slowest_decides.kp T.b_slowest_decides .nil pass0 (pa_cons (pv 0) (pa_cons (pv 1) pa_nil))))
        (pss_one (ps_ret (pe_tup (pa_cons (pe_callB (cr_maxT rfl) (by rfl) T.z_max (by decide +kernel) (pa_cons (pv 0) pa_nil)) (pa_cons pe_int pa_nil))))) pss_nil)
      (pss_one (ps_ret (pe_call (ok_round T) hr (by rfl) T.g_round_pace T.F_round_pace.kp T.b_round_pace .nil pass0 (pa_cons (pv 0) (pa_cons (pv 1) pa_nil))))), ?_⟩
    refine ⟨.ref td, rfl, .int b, rfl, td, ds, b, rfl, hd, D, by omega, by omega, _, rfl, ?_⟩
    by_cases hc : ds.sum ≤ mx ds * b
    · rw [decide_eq_true hc]
      refine iteT ?_
      refine ⟨.ref td, rfl, td, ds, rfl, .of hd, D.ne, fun M' hM' hMu' => ⟨(by show 2 ≤ sizeLine; decide), fun t ht => ?_⟩⟩
      refine q _ t (same_upd ht) ?_
      rw [upd_same, pX, pY, if_pos hc, if_pos hc, mx_eq D hM' hMu']
    · rw [decide_eq_false hc]
      refine iteF ?_
      refine ⟨.ref td, rfl, .int b, rfl, td, ds, b, rfl, hd, b1, b12, fun H' t s0 ht => q H' t s0 ?_⟩
      rw [ht, pX, pY, if_neg hc, if_neg hc]
def spRPace (C : Addr) : Sp := fun vs H Q _ => ∃ p dx td ts ds ss, vs = [.ref p] ∧ RingAt C H p dx td ts ds ss ∧ ∀ H' t, Same H H' → H' t = some (.tup [.int (pX ds ss.sum), .int (pY ds ss.sum)]) → Q (.ref t) H'
theorem ok_rpace (T : Tx K mg) : FnOk P w K mg base CX0 3 T.a_rpace T.d_rpace P_rpace (spRPace T.C) := by
  refine T.F_rpace.ok sc_rpace (fun vs H Q E h => ?_) (fun cdv A outer s H vs Q E hr h => ?_)
  · obtain ⟨p, dx, td, ts, ds, ss, rfl, _⟩ := h
    rfl
  · obtain ⟨p, dx, td, ts, ds, ss, rfl, R, q⟩ := h
    have b12 := R.ok.b12
    refine ⟨_, pss_one (ps_ret (pe_call (ok_pace_of T) hr (by rfl) T.g_pace_of T.F_pace_of.kp T.b_pace_of .nil pass0 (pa_cons (pe_fld (pv 0) rfl) (pa_cons (pe_callB (cr_sumT rfl) (by rfl) T.z_sum (by decide +kernel) (pa_cons (pe_fld (pv 0) rfl) pa_nil)) pa_nil)))), ?_⟩
    exact ⟨_, rfl, p, _, dx, _, _, rfl, R.ob, T.cl, T.nD, flds_days _ _, _, rfl, p, _, dx, _, _, rfl, R.ob, T.cl, T.nS, flds_starts _ _, ts, ss, rfl, .of R.ts, td, ds, ss.sum, rfl, R.td, R.ok.dys, R.ok.b1, by omega, q⟩
end
end Rp
namespace Rp
open PySem PySem.Spec PyProof.Rows L2 Rz Rm
theorem at_ix {ds : List Int} {z : Int} (h1 : -(ds.length : Int) ≤ z) (h2 : z < ds.length) : atI (ds.map V.int) z = some (.int (at' ds z)) := by
  have hl : 0 < ds.length := by omega
  have h0 := Int.emod_nonneg z (show (ds.length : Int) ≠ 0 by omega)
  have hlt := Int.emod_lt_of_pos z (show (0 : Int) < ds.length by omega)
  have e : ixN (ds.map V.int).length z = some (z % (ds.length : Int)).toNat := by
    unfold ixN
    rw [List.length_map]
    by_cases h : 0 ≤ z
    · rw [if_pos h, if_pos h2, Int.emod_eq_of_lt h h2]
    · rw [if_neg h, if_pos h1]
      have e2 := Int.add_mul_emod_self_left z (ds.length : Int) 1
      rw [Int.mul_one, Int.emod_eq_of_lt (a := z + ds.length) (by omega) (by omega)] at e2
      rw [e2]
  unfold atI
  rw [e]
  show (ds.map V.int)[(z % (ds.length : Int)).toNat]? = _
  rw [List.getElem?_map]
  unfold at'
  rw [List.getD_eq_getElem?_getD, List.getElem?_eq_getElem (show (z % (ds.length : Int)).toNat < ds.length by omega)]
  rfl
theorem Good.ring {ds ss : List Int} (G : Good ds ss) {M : Int} (hM : M ∈ ds) (hMu : ∀ y ∈ ds, y ≤ M) : Rm.Ring ds.length (at' ds) (at' ss) ss.sum ds.sum M :=
  ring_of (by have := G.l2; omega) G.ls (fun y h => (G.d1 y h).1) (fun y h => (G.s0 y h).1) G.b1 hM hMu
theorem exists_max : ∀ {ds : List Int}, ds ≠ [] → ∃ M, M ∈ ds ∧ ∀ y ∈ ds, y ≤ M
  | [], h => absurd rfl h
  | [a], _ => ⟨a, by simp, by simp⟩
  | a :: b :: r, _ => by
    obtain ⟨M, h1, h2⟩ := exists_max (ds := b :: r) (by simp)
    by_cases h : a ≤ M
    · exact ⟨M, List.mem_cons_of_mem _ h1, fun y hy => by
        rcases List.mem_cons.mp hy with e | e
        · omega
        · exact h2 y e⟩
    · exact ⟨a, List.mem_cons_self, fun y hy => by
        rcases List.mem_cons.mp hy with e | e
        · omega
        · have := h2 y e; omega⟩
theorem Good.max {ds ss : List Int} (G : Good ds ss) : ∃ M, M ∈ ds ∧ ∀ y ∈ ds, y ≤ M := exists_max (by
  intro e
  have := G.l2
  rw [e] at this
  simp at this)
theorem sum_bounds : ∀ {ds : List Int}, (∀ y ∈ ds, 1 ≤ y ∧ y ≤ 30) → (ds.length : Int) ≤ ds.sum ∧ ds.sum ≤ 30 * ds.length
  | [], _ => by simp
  | a :: r, h => by
    have h1 := h a List.mem_cons_self
    have ih := sum_bounds (ds := r) fun y hy => h y (List.mem_cons_of_mem _ hy)
    rw [List.sum_cons, List.length_cons]
    omega
theorem max_if (i j : Int) : (if j > i then j else i) = max i j := by
  by_cases h : j > i
  · rw [if_pos h]
    omega
  · rw [if_neg h]
    omega
section
variable {P : Program} {w : World} {K : PySem.W.Frag} {mg : Str → Option Value} {base : Heap}
/-! ### end_day -/
def spEnd (C : Addr) : Sp := fun vs H Q _ => ∃ p dx td ts ds ss, ∃ r x : Int, vs = [.ref p, .int r, .int x] ∧ RingAt C H p dx td ts ds ss ∧ 0 ≤ r ∧ r < ds.length ∧ 0 ≤ x ∧ Q (.int (Rm.E (at' ds) (at' ss) r x)) H
/-- the loop's slots ahead of step i -/
def edS (p : Addr) (r x B M g L : Int) (ds ss : List Int) (i : Nat) (y10 y11 : Option V) : L2.St :=
  [some (.ref p), some (.int r), some (.int x), some (.int B), some (.int M), some (.int g), some (.int L), some (.int (sumBack (at' ds) r i)), some (.int (if i = 0 then 0 else maxBack (at' ds) r (i - 1))), some (.int (x - sumBack (at' ss) r i)), y10, y11]
theorem met_next {ds : List Int} (h1 : ∀ i, 1 ≤ at' ds i) (r : Int) (i : Nat) : (if at' ds (r - i) > (if i = 0 then 0 else maxBack (at' ds) r (i - 1)) then at' ds (r - i) else (if i = 0 then 0 else maxBack (at' ds) r (i - 1))) = maxBack (at' ds) r i := by
  rw [max_if]
  cases i with
  | zero =>
    have := h1 (r - (0 : Nat))
    show max 0 (at' ds (r - (0 : Nat))) = at' ds r
    rw [show r - ((0 : Nat) : Int) = r by omega] at this ⊢
    omega
  | succ i =>
    rw [if_neg (Nat.succ_ne_zero i)]
    show max (maxBack (at' ds) r i) (at' ds (r - (i + 1 : Nat))) = max (maxBack (at' ds) r i) (at' ds (r - (i + 1 : Nat)))
    rfl
theorem ok_end (T : Tx K mg) : FnOk P w K mg base CX0 3 T.a_end_day T.d_end_day P_end_day (spEnd T.C) := by
  refine T.F_end_day.ok sc_end_day (fun vs H Q E h => ?_) (fun cdv A outer s H vs Q E hr h => ?_)
  · obtain ⟨p, dx, td, ts, ds, ss, r, x, rfl, _⟩ := h
    rfl
  · obtain ⟨p, dx, td, ts, ds, ss, r, x, rfl, R, r0, r1, x0, q⟩ := h
    have nd := sc_end_day.nd
    have G := R.ok
    have l2 := G.l2
    have l8 := G.l8
    have ls := G.ls
    have rdD : ∀ {Q' : VK} {E' : XK}, Q' (.ref td) H → spDays T.C [.ref p] H Q' E' := fun z => ⟨p, dx, td, ts, ds, ss, rfl, R, z⟩
    have rdS : ∀ {Q' : VK} {E' : XK}, Q' (.ref ts) H → spStarts T.C [.ref p] H Q' E' := fun z => ⟨p, dx, td, ts, ds, ss, rfl, R, z⟩
    refine ⟨_, pss_cons (ps_set (i := 3) nd rfl (.inl rfl) (pe_prop (pv 0) T.cl T.q_rbooks (ok_books T) hr T.b_rbooks .nil pass0 rfl))
      (pss_cons (ps_set (i := 4) nd rfl (.inl rfl) (pe_callB (cr_maxT rfl) (by rfl) T.z_max (by decide +kernel) (pa_cons (pe_prop (pv 0) T.cl T.q_rdays (ok_days T) hr T.b_rdays .nil pass0 rfl) pa_nil)))
      (pss_cons (ps_set (i := 5) nd rfl (.inl rfl) (pe_op op_sub (pe_callB (cr_sumT rfl) (by rfl) T.z_sum (by decide +kernel) (pa_cons (pe_prop (pv 0) T.cl T.q_rdays (ok_days T) hr T.b_rdays .nil pass0 rfl) pa_nil)) (pe_op op_mul (pv 3) (pv 4))))
      (pss_cons (ps_asg3 pe_int (pg_name (i := 6) nd rfl (.inl rfl)) (pg_name (i := 7) nd rfl (.inl rfl)) (pg_name (i := 8) nd rfl (.inl rfl)))
      (pss_cons (ps_set (i := 9) nd rfl (.inl rfl) (pv 2))
      (pss_cons (ps_for PassesOwn.never rfl (pi_range1 (by rfl) T.z_range (pa_cons (pe_callB (call_lenI T.lenC T.lenF ((ok_len T).raw T.b_rlen .nil) hr pass0) (by rfl) T.z_len PySem.boot_len (pa_cons (pv 0) pa_nil)) pa_nil)) (pg_name (i := 10) nd rfl (.inl rfl))
        (pss_cons (ps_aug (i := 7) nd rfl (.inl rfl) (pe_ix ix_tup (pe_prop (pv 0) T.cl T.q_rdays (ok_days T) hr T.b_rdays .nil pass0 rfl) (pe_op op_sub (pv 1) (pv 10)) (fun _ _ => rfl)) ip_add)
        (pss_cons (ps_set (i := 8) nd rfl (.inl rfl) (pe_callB (call_max2 rfl) (by rfl) T.z_max (by decide +kernel) (pa_cons (pv 8) (pa_cons (pe_ix ix_tup (pe_prop (pv 0) T.cl T.q_rdays (ok_days T) hr T.b_rdays .nil pass0 rfl) (pe_op op_sub (pv 1) (pv 10)) (fun _ _ => rfl)) pa_nil))))
        (pss_cons (ps_set (i := 6) nd rfl (.inl rfl) (pe_callB (call_max2 rfl) (by rfl) T.z_max (by decide +kernel) (pa_cons (pv 6) (pa_cons (pe_op op_add (pv 7) (pe_op op_mul (pv 9) (pv 8))) pa_nil))))
        (pss_cons (ps_if (pt_cmpR op_ge (pv 9) (pv 3) (nomark _))
          (pss_cons (ps_set (i := 11) nd rfl (.inl rfl) (pe_ifExp (pt_cmpR op_gt (pv 5) pe_int (nomark _)) (pe_op op_fdiv (pv 9) (pv 3)) pe_int))
          (pss_one (ps_set (i := 6) nd rfl (.inl rfl) (pe_callB (call_max2 rfl) (by rfl) T.z_max (by decide +kernel) (pa_cons (pv 6) (pa_cons (pe_op op_add (pe_op op_add (pv 7) (pe_op op_mul (pv 9) (pv 4))) (pe_op op_mul (pv 11) (pv 5))) pa_nil)))))) pss_nil)
        (pss_cons (ps_aug (i := 9) nd rfl (.inl rfl) (pe_ix ix_tup (pe_prop (pv 0) T.cl T.q_rstarts (ok_starts T) hr T.b_rstarts .nil pass0 rfl) (pe_op op_sub (pv 1) (pv 10)) (fun _ _ => rfl)) ip_sub)
        (pss_one (ps_if (pt_cmpR op_lt (pv 9) pe_int (nomark _)) (pss_one ps_break) pss_nil))))))))
      (pss_one (ps_ret (pv 6)))))))), ?_⟩
    -- books, slowest, gain
    refine ⟨.ref p, rfl, p, dx, _, rfl, R.ob, p, dx, td, ts, ds, ss, rfl, R, ?_⟩
    refine ⟨.ref p, rfl, p, dx, _, rfl, R.ob, rdD ⟨td, ds, rfl, .of R.td, by omega, fun M hM hMu => ?_⟩⟩
    have RR := G.ring hM hMu
    have b1 := G.b1
    have b12 := G.b12
    have hM30 := G.d1 M hM
    have hT := sum_bounds G.d1
    have hBM : 0 ≤ ss.sum * M ∧ ss.sum * M ≤ 360 := by
      constructor
      · exact Int.mul_nonneg (by omega) (by omega)
      · have := Int.mul_le_mul_of_nonneg_right b12 (show 0 ≤ M by omega)
        omega
    refine ⟨.ref p, rfl, p, dx, _, rfl, R.ob, rdD ⟨td, ds, rfl, .of R.td, .int ss.sum, rfl, .int M, rfl, _, _, rfl, rfl, .inl ⟨by omega, by omega⟩, _, _, rfl, rfl, ?_⟩⟩
    -- latest = total = slowest_met = 0; left = number
    refine ⟨.int x, rfl, ?_⟩
    -- for step in range(len(ring))
    refine ⟨.ref p, rfl, p, dx, _, rfl, R.ob, p, dx, td, ts, ds, ss, rfl, R, (ds.length : Int), rfl, by omega, by omega, (ds.length : Int), rfl, by omega, by omega, for_range (lo := 0) (n := ((ds.length : Int) - 0).toNat)
      (fun i σ H' => H' = H ∧ ∃ L y10 y11, σ = edS p r x ss.sum M (ds.sum - ss.sum * M) L ds ss i y10 y11 ∧ sumBack (at' ss) r i ≤ x ∧ Sofar ds.length (at' ds) (at' ss) r x i L)
      ⟨rfl, 0, none, none, ?_, ?_, RR.sofar0 r x⟩ ?_ ?_⟩
    · show _ = ([some (.ref p), some (.int r), some (.int x), some (.int ss.sum), some (.int M), some (.int (ds.sum - ss.sum * M)), some (.int 0), some (.int 0), some (.int 0), some (.int (x - 0)), none, none] : L2.St)
      rw [show x - 0 = x by omega]
      rfl
    · show (0 : Int) ≤ x
      exact x0
    · rintro i σ H1 hi ⟨rfl, L, y10, y11, rfl, hle, SF⟩
      have hin : i < ds.length := by omega
      have e0 : (0 : Int) + (i : Int) = i := by omega
      have hix : atI (ds.map V.int) (r - (0 + (i : Int))) = some (.int (at' ds (r - i))) := by
        rw [e0]
        exact at_ix (by omega) (by omega)
      have hix2 : atI (ss.map V.int) (r - (0 + (i : Int))) = some (.int (at' ss (r - i))) := by
        rw [e0]
        exact at_ix (by omega) (by omega)
      -- total
      refine ⟨.int (sumBack (at' ds) r i), rfl, .ref p, rfl, p, dx, _, rfl, R.ob, rdD ⟨.int r, rfl, _, rfl, _, _, rfl, rfl, td, _, _, _, rfl, rfl, .of R.td, hix, _, _, rfl, rfl, ?_⟩⟩
      -- slowest_met
      refine ⟨_, rfl, .ref p, rfl, p, dx, _, rfl, R.ob, rdD ⟨.int r, rfl, _, rfl, _, _, rfl, rfl, td, _, _, _, rfl, rfl, .of R.td, hix, _, _, rfl, ?_⟩⟩
      rw [met_next RR.d1 r i]
      have hm1 : maxBack (at' ds) r i ≤ M := max_le RR.mu r i
      have hm0 : 1 ≤ maxBack (at' ds) r i := by
        have h1 := max_ge (f := at' ds) r (j := 0) (k := i) (Nat.zero_le _)
        have h2 := RR.d1 (r - (0 : Nat))
        omega
      -- latest
      refine ⟨.int L, rfl, .int (sumBack (at' ds) r (i + 1)), rfl, .int (x - sumBack (at' ss) r i), rfl, .int (maxBack (at' ds) r i), rfl, _, _, rfl, rfl, .inr ⟨by omega, by omega⟩, _, _, rfl, rfl, _, _, rfl, ?_⟩
      rw [max_if]
      have hch : sumBack (at' ds) r (i + 1) + (x - sumBack (at' ss) r i) * maxBack (at' ds) r i = ch (at' ds) (at' ss) r i x := rfl
      rw [hch]
      have hs : sumBack (at' ss) r (i + 1) = sumBack (at' ss) r i + at' ss (r - i) := rfl
      -- the end of a turn
      have fin : ∀ (L2 : Int) (y11' : Option V), Sofar ds.length (at' ds) (at' ss) r x (i + 1) L2 → tSeq (tAug 9 (tOp (rIxT K) (tProp T.C (spStarts T.C) [] E0 (tVar 0)) (tOp (rI0 fun i j => .int (i - j)) (tVar 1) (tVar 10))) (ipI fun i j => i - j)) (tIfS (tTest (tOp (rI0 fun i j => .bl (decide (i < j))) (tVar 9) (tC (.int 0)))) tBreak tNext)
          { nx := fun σ H' => H' = H1 ∧ ∃ L y10 y11, σ = edS p r x ss.sum M (ds.sum - ss.sum * M) L ds ss (i + 1) y10 y11 ∧ sumBack (at' ss) r (i + 1) ≤ x ∧ Sofar ds.length (at' ds) (at' ss) r x (i + 1) L,
            ct := fun σ H' => H' = H1 ∧ ∃ L y10 y11, σ = edS p r x ss.sum M (ds.sum - ss.sum * M) L ds ss (i + 1) y10 y11 ∧ sumBack (at' ss) r (i + 1) ≤ x ∧ Sofar ds.length (at' ds) (at' ss) r x (i + 1) L,
            rt := Q, bk := fun σ H' => tRet (tVar 6) { nx := fun _ H' => Q .non H', rt := Q } σ H' }
          [some (.ref p), some (.int r), some (.int x), some (.int ss.sum), some (.int M), some (.int (ds.sum - ss.sum * M)), some (.int L2), some (.int (sumBack (at' ds) r (i + 1))), some (.int (maxBack (at' ds) r i)), some (.int (x - sumBack (at' ss) r i)), some (.int (0 + (i : Int))), y11'] H1 := by
        intro L2 y11' SF2
        refine ⟨_, rfl, .ref p, rfl, p, dx, _, rfl, R.ob, rdS ⟨.int r, rfl, _, rfl, _, _, rfl, rfl, ts, _, _, _, rfl, rfl, .of R.ts, hix2, _, _, rfl, rfl, ?_⟩⟩
        have el : x - sumBack (at' ss) r i - at' ss (r - i) = x - sumBack (at' ss) r (i + 1) := by omega
        refine ⟨.int (x - sumBack (at' ss) r i - at' ss (r - i)), rfl, _, _, rfl, rfl, _, rfl, ?_⟩
        by_cases hb : x - sumBack (at' ss) r i - at' ss (r - i) < 0
        · rw [decide_eq_true hb]
          refine iteT ⟨.int L2, rfl, ?_⟩
          have := RR.E_of (RR.fin SF2 (.inr ⟨by omega, by omega⟩))
          rw [this] at q
          exact q
        · rw [decide_eq_false hb]
          refine iteF ⟨rfl, L2, some (.int (0 + (i : Int))), y11', ?_, by omega, SF2⟩
          unfold edS
          rw [← el]
          rfl
      -- if left >= books
      refine ⟨.int (x - sumBack (at' ss) r i), rfl, .int ss.sum, rfl, _, _, rfl, rfl, _, rfl, ?_⟩
      by_cases hb : ss.sum ≤ x - sumBack (at' ss) r i
      · rw [decide_eq_true hb]
        refine iteT ?_
        have go : ∀ rounds : Int, rounds = (if 0 < ds.sum - ss.sum * M then (x - sumBack (at' ss) r i) / ss.sum else 1) → _ := fun rounds hrd =>
          fin (max (max L (ch (at' ds) (at' ss) r i x)) (sumBack (at' ds) r (i + 1) + (x - sumBack (at' ss) r i) * M + rounds * (ds.sum - ss.sum * M))) (some (.int rounds)) (RR.step SF hle (by rw [if_pos hb, hrd]))
        -- rounds
        refine ⟨.int (ds.sum - ss.sum * M), rfl, _, _, rfl, rfl, _, rfl, ?_⟩
        by_cases hg : 0 < ds.sum - ss.sum * M
        · rw [decide_eq_true hg]
          refine iteT ⟨.int (x - sumBack (at' ss) r i), rfl, .int ss.sum, rfl, _, _, rfl, rfl, ⟨by omega, by omega⟩, ?_⟩
          refine ⟨_, rfl, .int (sumBack (at' ds) r (i + 1)), rfl, .int (x - sumBack (at' ss) r i), rfl, .int M, rfl, _, _, rfl, rfl, .inr ⟨by omega, by omega⟩, _, _, rfl, rfl, _, rfl, .int (ds.sum - ss.sum * M), rfl, _, _, rfl, rfl, .inr ⟨by omega, by omega⟩, _, _, rfl, rfl, _, _, rfl, ?_⟩
          rw [max_if]
          exact go _ (by rw [if_pos hg])
        · rw [decide_eq_false hg]
          refine iteF ?_
          refine ⟨_, rfl, .int (sumBack (at' ds) r (i + 1)), rfl, .int (x - sumBack (at' ss) r i), rfl, .int M, rfl, _, _, rfl, rfl, .inr ⟨by omega, by omega⟩, _, _, rfl, rfl, _, rfl, .int (ds.sum - ss.sum * M), rfl, _, _, rfl, rfl, .inr ⟨by omega, by omega⟩, _, _, rfl, rfl, _, _, rfl, ?_⟩
          rw [max_if]
          exact go _ (by rw [if_neg hg])
      · rw [decide_eq_false hb]
        refine iteF ?_
        exact fin _ y11 (RR.step SF hle (by rw [if_neg hb]))
    · rintro σ H1 ⟨rfl, L, y10, y11, rfl, hle, SF⟩
      have := RR.E_of (RR.fin SF (.inl (by omega)))
      rw [this] at q
      exact ⟨.int L, rfl, q⟩
end
end Rp
namespace Rp
open PySem PySem.Spec PyProof.Rows L2 Rz Rm
/-- readings and days of a repetition -/
def RepIs (T B M p q : Int) : Prop := (T ≤ M * B ∧ p = 1 ∧ q = M) ∨ (¬ T ≤ M * B ∧ p = B ∧ q = T)
theorem at_emod {ss : List Int} (i : Int) : at' ss (i % (ss.length : Int)) = at' ss i := by
  unfold at'
  rw [Int.emod_emod_of_dvd _ (Int.dvd_refl _)]
theorem emod_pred (z n : Int) : (z % n - 1) % n = (z - 1) % n := by
  have h := Int.emod_add_mul_ediv z n
  have e : z - 1 = (z % n - 1) + n * (z / n) := by omega
  rw [e, Int.add_mul_emod_self_left]
/-- the book of place q at reader r -/
def Bk (ss : List Int) (r q v : Int) : Prop := ∃ i : Nat, i < ss.length ∧ sumBack (at' ss) r i ≤ q ∧ q < sumBack (at' ss) r (i + 1) ∧ v = (ss.take ((r - i) % (ss.length : Int)).toNat).sum + (q - sumBack (at' ss) r i)
theorem Bk.inj {ss : List Int} (h0 : ∀ i, 0 ≤ at' ss i) {r q v v' : Int} (h : Bk ss r q v) (h' : Bk ss r q v') : v = v' := by
  obtain ⟨i, _, a1, a2, rfl⟩ := h
  obtain ⟨j, _, b1, b2, rfl⟩ := h'
  have e : i = j := by
    rcases Nat.lt_trichotomy i j with z | z | z
    · have := sum_mono h0 r (show i + 1 ≤ j by omega)
      omega
    · exact z
    · have := sum_mono h0 r (show j + 1 ≤ i by omega)
      omega
  rw [e]
section
variable {P : Program} {w : World} {K : PySem.W.Frag} {mg : Str → Option Value} {base : Heap}
/-! ### ring(reader, number) -/
def spCall (C : Addr) : Sp := fun vs H Q _ => ∃ p dx td ts ds ss, ∃ r x : Int, vs = [.ref p, .int r, .int x] ∧ RingAt C H p dx td ts ds ss ∧ 0 ≤ r ∧ r < ds.length ∧ 0 ≤ x ∧ x ≤ 1000000000000000000 ∧ Q (.int (Rm.E (at' ds) (at' ss) r x)) H
theorem ok_call (T : Tx K mg) : FnOk P w K mg base CX0 4 T.a_rcall T.d_rcall P_rcall (spCall T.C) := by
  refine T.F_rcall.ok sc_rcall (fun vs H Q E h => ?_) (fun cdv A outer s H vs Q E hr h => ?_)
  · obtain ⟨p, dx, td, ts, ds, ss, r, x, rfl, _⟩ := h
    rfl
  · obtain ⟨p, dx, td, ts, ds, ss, r, x, rfl, R, r0, r1, x0, x1, q⟩ := h
    obtain ⟨u1, c1⟩ := T.c_LATEST
    refine ⟨_, pss_cons (ps_expr (pe_call (ok_reader T) hr (by rfl) T.g_check_reader T.F_check_reader.kp T.b_check_reader .nil pass0 (pa_cons (pv 0) (pa_cons (pv 1) pa_nil))))
      (pss_cons (ps_expr (pe_call (ok_chk T) hr (by rfl) T.g_check_number T.F_check_number.kp T.b_check_number .nil pass0 (pa_cons (pv 2) (pa_cons pe_int (pa_cons (pe_glob (v := .int 1000000000000000000) (by rfl) c1 ⟨_, rfl⟩) pa_nil)))))
      (pss_one (ps_ret (pe_call (ok_end T) hr (by rfl) T.g_end_day T.F_end_day.kp T.b_end_day .nil pass0 (pa_cons (pv 0) (pa_cons (pv 1) (pa_cons (pv 2) pa_nil))))))), ?_⟩
    refine ⟨_, rfl, _, rfl, p, dx, td, ts, ds, ss, r, rfl, R, r0, r1, ?_⟩
    refine ⟨_, rfl, x, 0, 1000000000000000000, rfl, x0, x1, ?_⟩
    exact ⟨_, rfl, _, rfl, _, rfl, p, dx, td, ts, ds, ss, r, x, rfl, R, r0, r1, x0, q⟩
/-! ### reader_before -/
def spBefore (C : Addr) : Sp := fun vs H Q _ => ∃ p dx td ts ds ss, ∃ r : Int, vs = [.ref p, .int r] ∧ RingAt C H p dx td ts ds ss ∧ Q (.int ((r - 1) % (ds.length : Int))) H
theorem ok_before (T : Tx K mg) : FnOk P w K mg base CX0 3 T.a_reader_before T.d_reader_before P_reader_before (spBefore T.C) := by
  refine T.F_reader_before.ok sc_reader_before (fun vs H Q E h => ?_) (fun cdv A outer s H vs Q E hr h => ?_)
  · obtain ⟨p, dx, td, ts, ds, ss, r, rfl, _⟩ := h
    rfl
  · obtain ⟨p, dx, td, ts, ds, ss, r, rfl, R, q⟩ := h
    have l2 := R.ok.l2
    have l8 := R.ok.l8
    refine ⟨_, pss_one (ps_ret (pe_op op_mod (pe_callTy call_int1 (by rfl) T.z_int (by decide +kernel) (pa_cons (pe_op op_sub (pv 1) pe_int) pa_nil))
      (pe_callB (call_lenI T.lenC T.lenF ((ok_len T).raw T.b_rlen .nil) hr pass0) (by rfl) T.z_len PySem.boot_len (pa_cons (pv 0) pa_nil)))), ?_⟩
    exact ⟨_, rfl, _, _, rfl, rfl, .inl ⟨_, rfl, _, rfl, p, dx, _, rfl, R.ob, p, dx, td, ts, ds, ss, rfl, R, _, rfl, by omega, by omega, _, _, rfl, rfl, by show (0 : Int) < ds.length; omega, q⟩⟩
/-! ### ended_by -/
def spEnded (C : Addr) : Sp := fun vs H Q _ => ∃ p dx td ts ds ss, ∃ r D : Int, vs = [.ref p, .int r, .int D] ∧ RingAt C H p dx td ts ds ss ∧ 0 ≤ r ∧ r < ds.length ∧ 0 ≤ D ∧ Q (.int (Cn (at' ds) (at' ss) r D)) H
theorem ok_ended (T : Tx K mg) : FnOk P w K mg base CX0 4 T.a_ended_by T.d_ended_by P_ended_by (spEnded T.C) := by
  refine T.F_ended_by.ok sc_ended_by (fun vs H Q E h => ?_) (fun cdv A outer s H vs Q E hr h => ?_)
  · obtain ⟨p, dx, td, ts, ds, ss, r, D, rfl, _⟩ := h
    rfl
  · obtain ⟨p, dx, td, ts, ds, ss, r, D, rfl, R, r0, r1, D0, q⟩ := h
    have nd := sc_ended_by.nd
    obtain ⟨M, hM, hMu⟩ := R.ok.max
    have RR := R.ok.ring hM hMu
    refine ⟨_, pss_cons (ps_set (i := 3) nd rfl (.inl rfl) pe_int)
      (pss_cons (ps_set (i := 4) nd rfl (.inl rfl) (pe_op op_fdiv (pv 2) (pe_ix ix_tup (pe_prop (pv 0) T.cl T.q_rdays (ok_days T) (hr.mono (by decide : 2 ≤ 3)) T.b_rdays .nil pass0 rfl) (pv 1) (fun _ _ => rfl))))
      (pss_cons (ps_while PassesOwn.never (pt_cmpR op_lt (pv 3) (pv 4) (nomark _))
        (pss_cons (ps_set (i := 5) nd rfl (.inl rfl) (pe_op op_fdiv (pe_op op_add (pv 3) (pv 4)) pe_int))
        (pss_one (ps_if (pt_cmpR op_le (pe_call (ok_end T) hr (by rfl) T.g_end_day T.F_end_day.kp T.b_end_day .nil pass0 (pa_cons (pv 0) (pa_cons (pv 1) (pa_cons (pv 5) pa_nil)))) (pv 2) (nomark _))
          (pss_one (ps_set (i := 3) nd rfl (.inl rfl) (pe_op op_add (pv 5) pe_int))) (pss_one (ps_set (i := 4) nd rfl (.inl rfl) (pv 5)))))))
      (pss_one (ps_ret (pv 3))))), ?_⟩
    have hd := RR.d1 r
    have hd30 : at' ds r ≤ 30 := (R.ok.d1 _ (at_mem (by have := R.ok.l2; omega) r)).2
    refine ⟨.int D, rfl, _, rfl, p, dx, _, rfl, R.ob, p, dx, td, ts, ds, ss, rfl, R, _, rfl, td, _, _, _, rfl, rfl, .of R.td, at_ix (by omega) r1, _, _, rfl, rfl, ⟨by omega, by omega⟩, ?_⟩
    refine while_by (fun σ H' => H' = H ∧ ∃ lo hi : Int, ∃ y5, σ = [some (.ref p), some (.int r), some (.int D), some (.int lo), some (.int hi), y5] ∧ 0 ≤ lo ∧ lo ≤ hi ∧ (lo = 0 ∨ Rm.E (at' ds) (at' ss) r (lo - 1) ≤ D) ∧ D < Rm.E (at' ds) (at' ss) r hi)
      (fun (σ : L2.St) (_ : Hp) => match σ[3]?, σ[4]? with | some (some (V.int lo)), some (some (V.int hi)) => (hi - lo).toNat | _, _ => 0) ?_ ?_ ?_
    · have h1 : 0 ≤ D / at' ds r := Int.ediv_nonneg D0 (by omega)
      refine ⟨rfl, 0, D / at' ds r, none, rfl, by omega, h1, .inl rfl, ?_⟩
      have h2 := RR.low r h1
      have h3 := Int.lt_ediv_add_one_mul_self D (show 0 < at' ds r by omega)
      omega
    · rintro σ H1 ⟨rfl, lo, hi, y5, rfl, l0, lh, hlo, hhi⟩
      refine ⟨.int lo, rfl, .int hi, rfl, _, _, rfl, rfl, _, rfl, ?_⟩
      by_cases hc : lo < hi
      · rw [decide_eq_true hc]
        refine iteT ?_
        refine ⟨.int lo, rfl, .int hi, rfl, _, _, rfl, rfl, _, _, rfl, rfl, ⟨by omega, by omega⟩, ?_⟩
        refine ⟨_, rfl, _, rfl, .int ((lo + hi) / 2), rfl, p, dx, td, ts, ds, ss, r, (lo + hi) / 2, rfl, R, r0, r1, by omega, .int D, rfl, _, _, rfl, rfl, _, rfl, ?_⟩
        by_cases he : Rm.E (at' ds) (at' ss) r ((lo + hi) / 2) ≤ D
        · rw [decide_eq_true he]
          refine iteT ⟨_, rfl, _, _, rfl, rfl, ⟨rfl, (lo + hi) / 2 + 1, hi, _, rfl, by omega, by omega, .inr (by rw [show (lo + hi) / 2 + 1 - 1 = (lo + hi) / 2 by omega]; exact he), hhi⟩, ?_⟩
          show (hi - ((lo + hi) / 2 + 1)).toNat < (hi - lo).toNat
          omega
        · rw [decide_eq_false he]
          refine iteF ⟨_, rfl, ⟨rfl, lo, (lo + hi) / 2, _, rfl, by omega, by omega, hlo, by omega⟩, ?_⟩
          show ((lo + hi) / 2 - lo).toNat < (hi - lo).toNat
          omega
      · rw [decide_eq_false hc]
        refine iteF ⟨.int lo, rfl, ?_⟩
        have e : lo = hi := by omega
        subst e
        have := RR.cn_of (r := r) (D := D) (c := lo) ⟨l0, hlo, hhi⟩
        rw [this] at q
        exact q
    · rintro σ H1 Q1 Q2 i ⟨v, e, v', e', a, b, r1, r2, k, ek, z⟩
      exact ⟨v, e, v', e', a, b, r1, r2, k, ek, i _ _ z⟩
/-! ### begun_by -/
def spBegun (C : Addr) : Sp := fun vs H Q _ => ∃ p dx td ts ds ss, ∃ r D : Int, vs = [.ref p, .int r, .int D] ∧ RingAt C H p dx td ts ds ss ∧ 0 ≤ r ∧ r < ds.length ∧ 0 ≤ D ∧
  Q (.int (Cn (at' ds) (at' ss) r (D + at' ds r))) H
theorem ok_begun (T : Tx K mg) : FnOk P w K mg base CX0 5 T.a_begun_by T.d_begun_by P_begun_by (spBegun T.C) := by
  refine T.F_begun_by.ok sc_begun_by (fun vs H Q E h => ?_) (fun cdv A outer s H vs Q E hr h => ?_)
  · obtain ⟨p, dx, td, ts, ds, ss, r, x, rfl, _⟩ := h
    rfl
  · obtain ⟨p, dx, td, ts, ds, ss, r, x, rfl, R, r0, r1, x0, q⟩ := h
    have hr2 : Room 2 _ := hr.mono (by decide)
    have nd := sc_begun_by.nd
    obtain ⟨M, hM, hMu⟩ := R.ok.max
    have RR := R.ok.ring hM hMu
    have l2 := R.ok.l2
    have hd := RR.d1 r
    refine ⟨_, pss_one (ps_ret (pe_call (ok_ended T) hr (by rfl) T.g_ended_by T.F_ended_by.kp T.b_ended_by .nil pass0 (pa_cons (pv 0) (pa_cons (pv 1) (pa_cons (pe_op op_add (pv 2) (pe_ix ix_tup (pe_prop (pv 0) T.cl T.q_rdays (ok_days T) hr2 T.b_rdays .nil pass0 rfl) (pv 1) (fun _ _ => rfl))) pa_nil))))), ?_⟩
    refine ⟨_, rfl, _, rfl, _, rfl, _, rfl, p, dx, _, rfl, R.ob, p, dx, td, ts, ds, ss, rfl, R, _, rfl, td, _, _, _, rfl, rfl, .of R.td, at_ix (by omega) r1, _, _, rfl, rfl, ?_⟩
    exact ⟨p, dx, td, ts, ds, ss, r, x + at' ds r, rfl, R, r0, r1, by omega, q⟩
/-! ### heap_on -/
def spHeap (C : Addr) : Sp := fun vs H Q _ => ∃ p dx td ts ds ss, ∃ r D : Int, vs = [.ref p, .int r, .int D] ∧ RingAt C H p dx td ts ds ss ∧ 0 ≤ r ∧ r < ds.length ∧ 0 ≤ D ∧ D ≤ 1000000000000000000 ∧
  Q (.int (at' ss r + Cn (at' ds) (at' ss) (r - 1) D - Cn (at' ds) (at' ss) r (D + at' ds r))) H
theorem ok_heap (T : Tx K mg) : FnOk P w K mg base CX0 6 T.a_heap_on T.d_heap_on P_heap_on (spHeap T.C) := by
  refine T.F_heap_on.ok sc_heap_on (fun vs H Q E h => ?_) (fun cdv A outer s H vs Q E hr h => ?_)
  · obtain ⟨p, dx, td, ts, ds, ss, r, x, rfl, _⟩ := h
    rfl
  · obtain ⟨p, dx, td, ts, ds, ss, r, x, rfl, R, r0, r1, x0, x1, q⟩ := h
    obtain ⟨u1, c1⟩ := T.c_LATEST
    have hr3 : Room 3 _ := hr.mono (by decide)
    have hr2 : Room 2 _ := hr.mono (by decide)
    have nd := sc_heap_on.nd
    obtain ⟨M, hM, hMu⟩ := R.ok.max
    have RR := R.ok.ring hM hMu
    have l2 := R.ok.l2
    have ls := R.ok.ls
    have hd := RR.d1 r
    refine ⟨_, pss_cons (ps_expr (pe_call (ok_reader T) hr3 (by rfl) T.g_check_reader T.F_check_reader.kp T.b_check_reader .nil pass0 (pa_cons (pv 0) (pa_cons (pv 1) pa_nil))))
      (pss_cons (ps_expr (pe_call (ok_chk T) hr3 (by rfl) T.g_check_number T.F_check_number.kp T.b_check_number .nil pass0 (pa_cons (pv 2) (pa_cons pe_int (pa_cons (pe_glob (v := .int 1000000000000000000) (by rfl) c1 ⟨_, rfl⟩) pa_nil)))))
      (pss_cons (ps_set (i := 3) nd rfl (.inl rfl) (pe_op op_add (pe_ix ix_tup (pe_prop (pv 0) T.cl T.q_rstarts (ok_starts T) hr2 T.b_rstarts .nil pass0 rfl) (pv 1) (fun _ _ => rfl))
        (pe_call (ok_ended T) (hr.mono (by decide)) (by rfl) T.g_ended_by T.F_ended_by.kp T.b_ended_by .nil pass0 (pa_cons (pv 0) (pa_cons (pe_call (ok_before T) hr3 (by rfl) T.g_reader_before T.F_reader_before.kp T.b_reader_before .nil pass0 (pa_cons (pv 0) (pa_cons (pv 1) pa_nil))) (pa_cons (pv 2) pa_nil))))))
      (pss_one (ps_ret (pe_op op_sub (pv 3) (pe_call (ok_begun T) hr (by rfl) T.g_begun_by T.F_begun_by.kp T.b_begun_by .nil pass0 (pa_cons (pv 0) (pa_cons (pv 1) (pa_cons (pv 2) pa_nil))))))))), ?_⟩
    refine ⟨_, rfl, _, rfl, p, dx, td, ts, ds, ss, r, rfl, R, r0, r1, ?_⟩
    refine ⟨_, rfl, x, 0, 1000000000000000000, rfl, x0, x1, ?_⟩
    have e1 : (r - 1) % (ds.length : Int) < ds.length := Int.emod_lt_of_pos _ (by omega)
    have e0 : 0 ≤ (r - 1) % (ds.length : Int) := Int.emod_nonneg _ (by omega)
    refine ⟨_, rfl, p, dx, _, rfl, R.ob, p, dx, td, ts, ds, ss, rfl, R, _, rfl, ts, _, _, _, rfl, rfl, .of R.ts, at_ix (by omega) (by omega), ?_⟩
    refine ⟨_, rfl, _, rfl, _, rfl, p, dx, td, ts, ds, ss, r, rfl, R, _, rfl, p, dx, td, ts, ds, ss, (r - 1) % (ds.length : Int), x, rfl, R, e0, e1, x0, _, _, rfl, rfl, ?_⟩
    rw [RR.cn_mod]
    refine ⟨_, rfl, _, rfl, _, rfl, _, rfl, p, dx, td, ts, ds, ss, r, x, rfl, R, r0, r1, x0, ?_⟩
    exact ⟨_, _, rfl, rfl, q⟩
/-! ### repetition -/
def spRepn (C : Addr) : Sp := fun vs H Q _ => ∃ p dx td ts ds ss, vs = [.ref p] ∧ RingAt C H p dx td ts ds ss ∧ ∀ M, M ∈ ds → (∀ y ∈ ds, y ≤ M) → ∀ H' t x y, Same H H' → H' t = some (.tup [.int x, .int y]) → RepIs ds.sum ss.sum M x y → Q (.ref t) H'
theorem ok_repn (T : Tx K mg) : FnOk P w K mg base CX0 3 T.a_repetition T.d_repetition P_repetition (spRepn T.C) := by
  refine T.F_repetition.ok sc_repetition (fun vs H Q E h => ?_) (fun cdv A outer s H vs Q E hr h => ?_)
  · obtain ⟨p, dx, td, ts, ds, ss, rfl, _⟩ := h
    rfl
  · obtain ⟨p, dx, td, ts, ds, ss, rfl, R, q⟩ := h
    have hr1 : Room 1 _ := hr.mono (by decide)
    have l2 := R.ok.l2
    have b1 := R.ok.b1
    have b12 := R.ok.b12
    have rdD : ∀ {Q' : VK} {E' : XK}, Q' (.ref td) H → spDays T.C [.ref p] H Q' E' := fun z => ⟨p, dx, td, ts, ds, ss, rfl, R, z⟩
    have rdB : ∀ {Q' : VK} {E' : XK}, Q' (.int ss.sum) H → spBooks T.C [.ref p] H Q' E' := fun z => ⟨p, dx, td, ts, ds, ss, rfl, R, z⟩
    refine ⟨_, pss_cons (ps_if (pt_val (pe_call (ok_slow T) hr1 (by rfl) T.g_slowest_decides T.F_slowest_decides.kp T.b_slowest_decides .nil pass0 (pa_cons (pe_prop (pv 0) T.cl T.q_rdays (ok_days T) hr T.b_rdays .nil pass0 rfl) (pa_cons (pe_prop (pv 0) T.cl T.q_rbooks (ok_books T) hr T.b_rbooks .nil pass0 rfl) pa_nil))))
        (pss_one (ps_ret (pe_tup (pa_cons pe_int (pa_cons (pe_callB (cr_maxT rfl) (by rfl) T.z_max (by decide +kernel) (pa_cons (pe_prop (pv 0) T.cl T.q_rdays (ok_days T) hr T.b_rdays .nil pass0 rfl) pa_nil)) pa_nil))))) pss_nil)
      (pss_one (ps_ret (pe_tup (pa_cons (pe_prop (pv 0) T.cl T.q_rbooks (ok_books T) hr T.b_rbooks .nil pass0 rfl) (pa_cons (pe_callB (cr_sumT rfl) (by rfl) T.z_sum (by decide +kernel) (pa_cons (pe_prop (pv 0) T.cl T.q_rdays (ok_days T) hr T.b_rdays .nil pass0 rfl) pa_nil)) pa_nil))))), ?_⟩
    refine ⟨_, rfl, p, dx, _, rfl, R.ob, rdD ⟨_, rfl, p, dx, _, rfl, R.ob, rdB ⟨td, ds, ss.sum, rfl, R.td, R.ok.dys, by omega, by omega, _, rfl, ?_⟩⟩⟩
    obtain ⟨M, hM, hMu, eM⟩ : ∃ M, M ∈ ds ∧ (∀ y ∈ ds, y ≤ M) ∧ mx ds = M := ⟨mx ds, R.ok.dys.mem, fun y h => le_mx h, rfl⟩
    rw [eM]
    by_cases hc : ds.sum ≤ M * ss.sum
    · rw [decide_eq_true hc]
      refine iteT ⟨_, rfl, p, dx, _, rfl, R.ob, rdD ⟨td, ds, rfl, .of R.td, by omega, fun M' hM' hMu' => ⟨(by show 2 ≤ sizeLine; decide), fun t ht => ?_⟩⟩⟩
      have e : M' = M := Int.le_antisymm (hMu M' hM') (hMu' M hM)
      subst e
      exact q M' hM hMu _ t _ _ (same_upd ht) upd_same (.inl ⟨hc, rfl, rfl⟩)
    · rw [decide_eq_false hc]
      refine iteF ⟨_, rfl, p, dx, _, rfl, R.ob, rdB ⟨_, rfl, p, dx, _, rfl, R.ob, rdD ⟨td, ds, rfl, .of R.td, (by show 2 ≤ sizeLine; decide), fun t ht => ?_⟩⟩⟩
      exact q M hM hMu _ t _ _ (same_upd ht) upd_same (.inr ⟨hc, rfl, rfl⟩)
/-! ### row_repeats -/
def RepAt (ds ss : List Int) (p q n : Int) : Prop := ∀ r : Int, 0 ≤ r → r < ds.length → Rm.E (at' ds) (at' ss) r (n + p) = Rm.E (at' ds) (at' ss) r n + q
def spRow (C : Addr) : Sp := fun vs H Q _ => ∃ o dx td ts ds ss, ∃ n p q : Int, vs = [.ref o, .int n, .int p, .int q] ∧ RingAt C H o dx td ts ds ss ∧ 0 ≤ n ∧ 0 ≤ p ∧
  (RepAt ds ss p q n → Q (.bl true) H) ∧ ((∃ r : Int, 0 ≤ r ∧ r < ds.length ∧ Rm.E (at' ds) (at' ss) r (n + p) ≠ Rm.E (at' ds) (at' ss) r n + q) → Q (.bl false) H)
theorem ok_row (T : Tx K mg) : FnOk P w K mg base CX0 4 T.a_row_repeats T.d_row_repeats P_row_repeats (spRow T.C) := by
  refine T.F_row_repeats.ok sc_row_repeats (fun vs H Q E h => ?_) (fun cdv A outer s H vs Q E hr h => ?_)
  · obtain ⟨p, dx, td, ts, ds, ss, _, _, _, rfl, _⟩ := h
    rfl
  · obtain ⟨o, dx, td, ts, ds, ss, n, p, q, rfl, R, n0, p0, k1, k2⟩ := h
    have hr2 : Room 2 _ := hr.mono (by decide)
    have l8 := R.ok.l8
    have nd := sc_row_repeats.nd
    refine ⟨_, pss_cons (ps_for PassesOwn.never rfl (pi_range1 (by rfl) T.z_range (pa_cons (pe_callB (call_lenI T.lenC T.lenF ((ok_len T).raw T.b_rlen .nil) hr2 pass0) (by rfl) T.z_len PySem.boot_len (pa_cons (pv 0) pa_nil)) pa_nil)) (pg_name (i := 4) nd rfl (.inl rfl))
        (pss_one (ps_if (pt_cmpR op_ne (pe_call (ok_end T) hr (by rfl) T.g_end_day T.F_end_day.kp T.b_end_day .nil pass0 (pa_cons (pv 0) (pa_cons (pv 4) (pa_cons (pe_op op_add (pv 1) (pv 2)) pa_nil))))
          (pe_op op_add (pe_call (ok_end T) hr (by rfl) T.g_end_day T.F_end_day.kp T.b_end_day .nil pass0 (pa_cons (pv 0) (pa_cons (pv 4) (pa_cons (pv 1) pa_nil)))) (pv 3)) (nomark _)) (pss_one (ps_ret pe_bl)) pss_nil)))
      (pss_one (ps_ret pe_bl)), ?_⟩
    refine ⟨_, rfl, o, dx, _, rfl, R.ob, o, dx, td, ts, ds, ss, rfl, R, (ds.length : Int), rfl, by omega, by omega, (ds.length : Int), rfl, by omega, by omega, ?_⟩
    refine for_range (lo := 0) (n := ((ds.length : Int) - 0).toNat) (g := gName 4) (D := { ({ nx := fun _ H' => Q .non H', rt := Q } : Ends) with nx := tRet (tC (.bl true)) { nx := fun _ H' => Q .non H', rt := Q } })
      (fun i σ H' => H' = H ∧ ∃ y4, σ = [some (.ref o), some (.int n), some (.int p), some (.int q), y4] ∧ ∀ r : Int, 0 ≤ r → r < i → Rm.E (at' ds) (at' ss) r (n + p) = Rm.E (at' ds) (at' ss) r n + q)
      ⟨rfl, none, rfl, fun r h1 h2 => by omega⟩ ?_ ?_
    · rintro i σ H1 hi ⟨rfl, y4, rfl, hall⟩
      have e0 : (0 : Int) + (i : Int) = i := by omega
      refine ⟨_, rfl, _, rfl, _, rfl, _, rfl, _, _, rfl, rfl, o, dx, td, ts, ds, ss, 0 + (i : Int), n + p, rfl, R, by omega, by omega, by omega, ?_⟩
      refine ⟨_, rfl, _, rfl, _, rfl, o, dx, td, ts, ds, ss, 0 + (i : Int), n, rfl, R, by omega, by omega, by omega, _, rfl, _, _, rfl, rfl, rfl, _, rfl, ?_⟩
      rw [e0]
      by_cases hc : Rm.E (at' ds) (at' ss) i (n + p) = Rm.E (at' ds) (at' ss) i n + q
      · rw [hc]
        refine iteNS rfl ⟨rfl, _, rfl, fun r h1 h2 => ?_⟩
        by_cases e : r = i
        · subst e
          exact hc
        · exact hall r h1 (by omega)
      · rw [decide_eq_false (show ¬ V.int (Rm.E (at' ds) (at' ss) i (n + p)) = V.int (Rm.E (at' ds) (at' ss) i n + q) from fun z => hc (V.int.inj z))]
        exact iteT (k2 ⟨i, by omega, by omega, hc⟩)
    · rintro σ H1 ⟨rfl, y4, rfl, hall⟩
      exact k1 fun r h1 h2 => hall r h1 (by omega)
end
end Rp
namespace Rp
open PySem PySem.Spec PyProof.Rows L2 Rz Rm
theorem cut_front {xs : List V} {r : Int} (h0 : 0 ≤ r) (h1 : r < xs.length) : cutV xs none (some r) = xs.take r.toNat ∧ ¬ (HT.sIx xs.length 0 none = 0 ∧ HT.sIx xs.length xs.length (some r) = xs.length) := by
  have e : r = ((r.toNat : Nat) : Int) := by omega
  have e1 : HT.sIx xs.length xs.length (some r) = r.toNat := by
    rw [e, HT.sIx_nat]
    omega
  constructor
  · unfold cutV
    rw [HT.sIx_none, e1]
    simp
  · rw [e1]
    omega
theorem sum_le_zero : ∀ {l : List Int}, (∀ y ∈ l, y ≤ 0) → l.sum ≤ 0
  | [], _ => by simp
  | a :: r, h => by
    have h1 := h a List.mem_cons_self
    have ih := sum_le_zero (l := r) fun y hy => h y (List.mem_cons_of_mem _ hy)
    rw [List.sum_cons]
    omega
section
variable {N : Nat} {d s : Int → Int} {B T M : Int} (R : Rm.Ring N d s B T M)
include R
theorem _root_.Rm.Ring.rep_big {p q x : Int} (h : RepIs T B M p q) (hx : 4 * B + B * M ≤ x) : Rep d s p q x := by
  rw [RepIs, Int.mul_comm M B] at h
  rcases h with ⟨h1, rfl, rfl⟩ | ⟨h1, rfl, rfl⟩
  · exact R.rep_slow h1 hx
  · exact R.rep_fast (by omega) hx
theorem _root_.Rm.Ring.p1 {p q : Int} (h : RepIs T B M p q) : 1 ≤ p := by
  have := R.b1
  rcases h with ⟨_, rfl, _⟩ | ⟨_, rfl, _⟩ <;> omega
end
theorem rep_all {ds ss : List Int} {M : Int} (RR : Rm.Ring ds.length (at' ds) (at' ss) ss.sum ds.sum M) {p q n : Int} (h : RepAt ds ss p q n) : Rep (at' ds) (at' ss) p q n := by
  intro r
  have hN := RR.pos
  have h1 := h (r % (ds.length : Int)) (Int.emod_nonneg _ (by omega)) (Int.emod_lt_of_pos _ (by omega))
  rw [RR.E_mod, RR.E_mod] at h1
  exact h1
/-- from n on ends repeat, and not sooner -/
structure SettledIs (ds ss : List Int) (n p q : Int) : Prop where
  n0 : 0 ≤ n
  n1 : n ≤ 1000
  all : ∀ m, n ≤ m → Rep (at' ds) (at' ss) p q m
  least : n = 0 ∨ ∃ r : Int, 0 ≤ r ∧ r < ds.length ∧ Rm.E (at' ds) (at' ss) r (n - 1 + p) ≠ Rm.E (at' ds) (at' ss) r (n - 1) + q
section
variable {P : Program} {w : World} {K : PySem.W.Frag} {mg : Str → Option Value} {base : Heap}
/-! ### settled -/
def spSettled (C : Addr) : Sp := fun vs H Q _ => ∃ o dx td ts ds ss, vs = [.ref o] ∧ RingAt C H o dx td ts ds ss ∧ ∀ M, M ∈ ds → (∀ y ∈ ds, y ≤ M) → ∀ H' t n p q, Same H H' → H' t = some (.tup [.int n, .int p, .int q]) → RepIs ds.sum ss.sum M p q → SettledIs ds ss n p q → Q (.ref t) H'
theorem ok_settled (T : Tx K mg) : FnOk P w K mg base CX0 5 T.a_settled T.d_settled P_settled (spSettled T.C) := by
  refine T.F_settled.ok sc_settled (fun vs H Q E h => ?_) (fun cdv A outer s H vs Q E hr h => ?_)
  · obtain ⟨o, dx, td, ts, ds, ss, rfl, _⟩ := h
    rfl
  · obtain ⟨o, dx, td, ts, ds, ss, rfl, R, k⟩ := h
    have hr3 : Room 3 _ := hr.mono (by decide)
    have hr2 : Room 2 _ := hr.mono (by decide)
    have nd := sc_settled.nd
    have l2 := R.ok.l2
    have ls := R.ok.ls
    have b1 := R.ok.b1
    have b12 := R.ok.b12
    refine ⟨_, pss_cons (ps_asg (pe_call (ok_repn T) hr3 (by rfl) T.g_repetition T.F_repetition.kp T.b_repetition .nil pass0 (pa_cons (pv 0) pa_nil)) (pg_tup rfl (pgs_cons (pg_name (i := 1) nd rfl (.inl rfl)) (pgs_cons (pg_name (i := 2) nd rfl (.inl rfl)) pgs_nil))))
      (pss_cons (ps_set (i := 3) nd rfl (.inl rfl) (pe_callB (cr_maxT rfl) (by rfl) T.z_max (by decide +kernel) (pa_cons (pe_prop (pv 0) T.cl T.q_rstarts (ok_starts T) hr2 T.b_rstarts .nil pass0 rfl) pa_nil)))
      (pss_cons (ps_set (i := 4) nd rfl (.inl rfl) pe_int)
      (pss_cons (ps_set (i := 5) nd rfl (.inl rfl) pe_int)
      (pss_cons (ps_while PassesOwn.never (pt_cmpR op_lt (pv 5) (pv 3) (nomark _))
        (pss_one (ps_if (pt_val (pe_call (ok_row T) hr (by rfl) T.g_row_repeats T.F_row_repeats.kp T.b_row_repeats .nil pass0 (pa_cons (pv 0) (pa_cons (pe_op op_add (pv 4) (pv 5)) (pa_cons (pv 1) (pa_cons (pv 2) pa_nil))))))
          (pss_one (ps_aug (i := 5) nd rfl (.inl rfl) pe_int ip_add))
          (pss_cons (ps_aug (i := 4) nd rfl (.inl rfl) (pe_op op_add (pv 5) pe_int) ip_add) (pss_one (ps_set (i := 5) nd rfl (.inl rfl) pe_int))))))
      (pss_one (ps_ret (pe_tup (pa_cons (pv 4) (pa_cons (pv 1) (pa_cons (pv 2) pa_nil)))))))))), ?_⟩
    refine ⟨_, rfl, o, dx, td, ts, ds, ss, rfl, R, fun M hM hMu H1 t p q sm ht hrep => ⟨t, _, rfl, .of ht, rfl, _, _, rfl, _, _, rfl, rfl, ?_⟩⟩
    have RR := R.ok.ring hM hMu
    have R1 := R.same sm
    have hM30 := R.ok.d1 M hM
    have hBM : ss.sum * M ≤ 360 := by
      have := Int.mul_le_mul_of_nonneg_right b12 (show 0 ≤ M by omega)
      omega
    have p1 := RR.p1 hrep
    refine ⟨_, rfl, o, dx, _, rfl, R1.ob, o, dx, td, ts, ds, ss, rfl, R1, ts, ss, rfl, .of R1.ts, by omega, fun wm hw hwu => ?_⟩
    have w12 := (R.ok.s0 wm hw).2
    have w1 : 1 ≤ wm := by
      rcases Int.lt_or_le wm 1 with z | z
      · have := sum_le_zero (l := ss) fun y hy => by have := hwu y hy; omega
        omega
      · exact z
    -- how far the number goes
    have bound : ∀ n : Int, 0 ≤ n → (n = 0 ∨ ∃ r : Int, 0 ≤ r ∧ r < ds.length ∧ Rm.E (at' ds) (at' ss) r (n - 1 + p) ≠ Rm.E (at' ds) (at' ss) r (n - 1) + q) → n ≤ 408 := by
      intro n n0 hn
      rcases hn with hn | ⟨r, _, _, hr'⟩
      · omega
      · rcases Int.lt_or_le 408 n with z | z
        · exact absurd (RR.rep_big hrep (x := n - 1) (by omega) r) hr'
        · exact z
    refine while_by (fun σ H' => H' = H1 ∧ ∃ n f : Int, σ = [some (.ref o), some (.int p), some (.int q), some (.int wm), some (.int n), some (.int f)] ∧ 0 ≤ n ∧ 0 ≤ f ∧ f ≤ wm ∧ (∀ j, 0 ≤ j → j < f → Rep (at' ds) (at' ss) p q (n + j)) ∧
        (n = 0 ∨ ∃ r : Int, 0 ≤ r ∧ r < ds.length ∧ Rm.E (at' ds) (at' ss) r (n - 1 + p) ≠ Rm.E (at' ds) (at' ss) r (n - 1) + q))
      (fun (σ : L2.St) (_ : Hp) => match σ[4]?, σ[5]? with | some (some (V.int n)), some (some (V.int f)) => (1000 - (n + f)).toNat | _, _ => 0) ?_ ?_ ?_
    · exact ⟨rfl, 0, 0, rfl, by omega, by omega, by omega, fun j h1 h2 => by omega, .inl rfl⟩
    · rintro σ H2 ⟨rfl, n, f, rfl, n0, f0, fw, hall, hlast⟩
      have hb := bound n n0 hlast
      refine ⟨_, rfl, _, rfl, _, _, rfl, rfl, _, rfl, ?_⟩
      by_cases hc : f < wm
      · rw [decide_eq_true hc]
        refine iteT ?_
        refine ⟨_, rfl, _, rfl, _, rfl, _, _, rfl, rfl, _, rfl, _, rfl, o, dx, td, ts, ds, ss, n + f, p, q, rfl, R1, by omega, by omega, fun hrow => ⟨_, rfl, iteT ?_⟩, fun hbad => ⟨_, rfl, iteF ?_⟩⟩
        · refine ⟨_, rfl, _, _, rfl, rfl, ⟨rfl, n, f + 1, rfl, n0, by omega, by omega, fun j h1 h2 => ?_, hlast⟩, ?_⟩
          · by_cases e : j = f
            · subst e
              exact rep_all RR hrow
            · exact hall j h1 (by omega)
          · show (1000 - (n + (f + 1))).toNat < (1000 - (n + f)).toNat
            omega
        · refine ⟨_, rfl, _, rfl, _, _, rfl, rfl, _, _, rfl, rfl, ⟨rfl, n + (f + 1), 0, rfl, by omega, by omega, by omega, fun j h1 h2 => by omega, .inr ?_⟩, ?_⟩
          · rw [show n + (f + 1) - 1 = n + f by omega]
            exact hbad
          · show (1000 - (n + (f + 1) + 0)).toNat < (1000 - (n + f)).toNat
            omega
      · rw [decide_eq_false hc]
        have e : f = wm := by omega
        subst e
        refine iteF ⟨_, rfl, _, rfl, _, rfl, (by show 3 ≤ sizeLine; decide), fun t2 ht2 => ?_⟩
        refine k M hM hMu _ t2 n p q (sm.trans (same_upd ht2)) upd_same hrep ⟨n0, by omega, ?_, hlast⟩
        exact RR.later (w := f) (fun i => hwu _ (at_mem (by omega) i)) (mem_at hw) w1 p1 n0 hall
    · rintro σ H2 Q1 Q2 i ⟨v, e, v', e', a, b, r1, r2, k', ek, z⟩
      exact ⟨v, e, v', e', a, b, r1, r2, k', ek, i _ _ z⟩
end
end Rp
namespace Rp
open PySem PySem.Spec PyProof.Rows L2 Rz Rm
/-! ### the drawn row -/
/-- all that was tracked but the row is as it was -/
def Kp (row : Addr) (H H' : Hp) : Prop := ∀ b o, H b = some o → b ≠ row → H' b = some o
theorem Kp.refl (row : Addr) (H : Hp) : Kp row H H := fun _ _ h _ => h
theorem Kp.trans {row : Addr} {H H1 H2 : Hp} (a : Kp row H H1) (b : Kp row H1 H2) : Kp row H H2 := fun c o h n => b c o (a c o h n) n
theorem Same.kp {row : Addr} {H H' : Hp} (s : Same H H') : Kp row H H' := fun b o h _ => s b o h
/-- the script stands in the written part -/
def Wr (K : PySem.W.Frag) (a : Addr) (xs : List V) : Prop := ∃ (o : Obj) (its : Array Value) (n : Nat), K.lookup a = some o ∧ o.cls = .type "list" ∧ o.dict = none ∧ o.data = .seq its n ∧ its.size ≤ sizeLine ∧ Vals xs its.toList
theorem far_of {K : PySem.W.Frag} {H : Hp} {D a : Addr} {xs : List V} (h : SqL K H a xs) (hD : H D = none) : D ≠ a ∨ Wr K a xs := by
  rcases h with (h | ⟨o, h⟩) | h
  · exact .inl fun e => by rw [e, h] at hD; cases hD
  · exact .inl fun e => by rw [e, h] at hD; cases hD
  · exact .inr h
theorem sq_upd {K : PySem.W.Frag} {H : Hp} {D a : Addr} {xs : List V} {o : HO} (h : SqL K H a xs) (f : D ≠ a ∨ Wr K a xs) : SqL K (upd H D o) a xs := by
  rcases f with f | f
  · rcases h with (h | ⟨u, h⟩) | h
    · exact .inl (.inl (by rw [upd_ne f.symm]; exact h))
    · exact .inl (.inr ⟨u, by rw [upd_ne f.symm]; exact h⟩)
    · exact .inr h
  · exact .inr f
structure RowAt (K : PySem.W.Frag) (H : Hp) (row a : Addr) (ns : List Int) : Prop where
  ob : ∃ i m q : Int, H row = some (.lst [.ref a, .int i, .int m, .int q]) ∧ 0 ≤ i
  sc : SqL K H a (ns.map V.int)
  ne : row ≠ a ∨ Wr K a (ns.map V.int)
theorem RowAt.same {K : PySem.W.Frag} {H H' : Hp} {row a : Addr} {ns : List Int} (R : RowAt K H row a ns) (s : Same H H') : RowAt K H' row a ns := by
  obtain ⟨i, m, q, h, h0⟩ := R.ob
  exact ⟨⟨i, m, q, s _ _ h, h0⟩, s.seq R.sc, R.ne⟩
theorem kp_upd {row : Addr} {H : Hp} {o : HO} : Kp row H (upd H row o) := fun b z h n => by
  rw [upd_ne n]
  exact h
/-- the row is written -/
theorem RowAt.put {K : PySem.W.Frag} {H : Hp} {row a : Addr} {ns : List Int} (R : RowAt K H row a ns) {i m q : Int} (h : 0 ≤ i) : RowAt K (upd H row (.lst [.ref a, .int i, .int m, .int q])) row a ns :=
  ⟨⟨i, m, q, upd_same, h⟩, sq_upd R.sc R.ne, R.ne⟩
theorem first_ix : ∀ {l : List Int} {m : Int}, m ∈ l → ∃ j : Nat, l[j]? = some m ∧ ∀ k z, k < j → l[k]? = some z → z ≠ m
  | a :: r, m, h => by
    by_cases e : a = m
    · exact ⟨0, by simp [e], fun k z hk => absurd hk (Nat.not_lt_zero _)⟩
    · obtain ⟨j, h1, h2⟩ := first_ix (l := r) (m := m) (by
        rcases List.mem_cons.mp h with q | q
        · exact absurd q.symm e
        · exact q)
      refine ⟨j + 1, by simpa using h1, fun k z hk hz => ?_⟩
      cases k with
      | zero =>
        simp at hz
        rw [← hz]
        exact e
      | succ k => exact h2 k z (by omega) (by simpa using hz)
theorem mem_le_sum : ∀ {l : List Int}, (∀ y ∈ l, 0 ≤ y) → ∀ x ∈ l, x ≤ l.sum
  | a :: r, h, x, hx => by
    have ha := h a List.mem_cons_self
    have hr : ∀ y ∈ r, 0 ≤ y := fun y hy => h y (List.mem_cons_of_mem _ hy)
    have hs : 0 ≤ r.sum := sum_nonneg' hr
    rw [List.sum_cons]
    rcases List.mem_cons.mp hx with e | e
    · omega
    · have := mem_le_sum hr x e
      omega
where sum_nonneg' : ∀ {l : List Int}, (∀ y ∈ l, 0 ≤ y) → 0 ≤ l.sum
  | [], _ => by simp
  | a :: r, h => by
    have h1 := h a List.mem_cons_self
    have h2 := sum_nonneg' (l := r) fun y hy => h y (List.mem_cons_of_mem _ hy)
    rw [List.sum_cons]
    omega
theorem mem_set {l : List Int} {j : Nat} {v y : Int} (h : y ∈ l.set j v) : y ∈ l ∨ y = v := List.mem_or_eq_of_mem_set h
theorem flat_ints (l : List Int) : (l.map V.int).all flatV = true := by
  rw [List.all_eq_true]
  intro x hx
  obtain ⟨i, _, rfl⟩ := List.mem_map.mp hx
  rfl
theorem lc_keep {σ : L2.St} {H : Hp} {F G : Hp → Prop} (h : F H) : tYes σ H (fun b H3 => if b = true then F H3 else G H3) := by
  show if true = true then F H else G H
  rw [if_pos rfl]
  exact h
theorem map_snoc (l : List Int) (v : Int) : l.map V.int ++ [V.int v] = (l ++ [v]).map V.int := by
  rw [List.map_append]
  rfl
theorem RowAt.upd' {K : PySem.W.Frag} {H : Hp} {D row a : Addr} {ns : List Int} {o : HO} (R : RowAt K H row a ns) (n : D ≠ row) (f : D ≠ a ∨ Wr K a (ns.map V.int)) : RowAt K (upd H D o) row a ns := by
  obtain ⟨i, m, q, h, h0⟩ := R.ob
  exact ⟨⟨i, m, q, by rw [upd_ne n.symm]; exact h, h0⟩, sq_upd R.sc f, R.ne⟩
theorem RowAt.nn {K : PySem.W.Frag} {H : Hp} {D row a : Addr} {ns : List Int} (R : RowAt K H row a ns) (h : H D = none) : D ≠ row := fun e => by
  obtain ⟨i, m, q, h2, _⟩ := R.ob
  rw [e, h2] at h
  cases h
theorem kp_new {row D : Addr} {H0 H : Hp} {o : HO} (k : Kp row H0 H) (h : H0 D = none) : Kp row H0 (upd H D o) := fun b z e n => by
  rw [upd_ne (ne_of_none e h)]
  exact k b z e n
end Rp
namespace Rp
open PySem PySem.Spec PyProof.Rows L2 Rz Rm
section
variable {P : Program} {w : World} {K : PySem.W.Frag} {mg : Str → Option Value} {base : Heap}
def spTaken (K : PySem.W.Frag) : Sp := fun vs H Q _ => ∃ (row a : Addr) (ns : List Int) (many : Int), vs = [.ref row, .int many] ∧ RowAt K H row a ns ∧ 1 ≤ many ∧ many < 1073741824 ∧
  ∀ v H', 0 ≤ v → v < many → RowAt K H' row a ns → Kp row H H' → Q (.int v) H'
theorem ok_taken (T : Tx K mg) : FnOk P w K mg base CX0 1 T.a_ltaken T.d_ltaken P_ltaken (spTaken K) := by
  refine T.F_ltaken.ok sc_ltaken (fun vs H Q E h => ?_) (fun cdv A outer s H vs Q E hr h => ?_)
  · obtain ⟨row, a, ns, many, rfl, _⟩ := h
    rfl
  · obtain ⟨row, a, ns, many, rfl, RA, m1, m2, q⟩ := h
    obtain ⟨i, m, c, hrow, i0⟩ := RA.ob
    have nd := sc_ltaken.nd
    refine ⟨_, pss_cons (ps_if (pt_cmpR op_gt (pe_ix ix_list (pv 0) pe_int (fun _ _ => rfl)) pe_int (nomark _))
        (pss_cons (ps_set (i := 2) nd rfl (.inl rfl) (pe_op op_mod (pe_callTy call_int1 (by rfl) T.z_int (by decide +kernel) (pa_cons (pe_ix ix_list (pv 0) pe_int (fun _ _ => rfl)) pa_nil)) (pv 1)))
        (pss_cons (ps_asg (pe_op op_fdiv (pe_ix ix_list (pv 0) pe_int (fun _ _ => rfl)) (pv 1)) (pg_sub (pv 0) pe_int set_list))
        (pss_one (ps_ret (pv 2))))) pss_nil)
      (pss_cons (ps_asg (pe_op op_add (pe_ix ix_list (pv 0) pe_int (fun _ _ => rfl)) pe_int) (pg_sub (pv 0) pe_int set_list))
      (pss_cons (ps_if (pt_cmpR op_gt (pe_ix ix_list (pv 0) pe_int (fun _ _ => rfl)) (pe_callB call_len_seq (by rfl) T.z_len PySem.boot_len (pa_cons (pe_ix ix_list (pv 0) pe_int (fun _ _ => rfl)) pa_nil)) (nomark _))
        (pss_cons (ps_asg (pe_op op_mod (pe_callTy call_int1 (by rfl) T.z_int (by decide +kernel) (pa_cons (pe_op op_add (pe_op op_mul (pe_ix ix_list (pv 0) pe_int (fun _ _ => rfl)) pe_int) pe_int) pa_nil)) pe_int) (pg_sub (pv 0) pe_int set_list))
        (pss_one (ps_ret (pe_op op_mod (pe_callTy call_int1 (by rfl) T.z_int (by decide +kernel) (pa_cons (pe_op op_fdiv (pe_ix ix_list (pv 0) pe_int (fun _ _ => rfl)) pe_int) pa_nil)) (pv 1))))) pss_nil)
      (pss_cons (ps_set (i := 3) nd rfl (.inl rfl) (pe_ix ix_list (pe_ix ix_list (pv 0) pe_int (fun _ _ => rfl)) (pe_op op_sub (pe_ix ix_list (pv 0) pe_int (fun _ _ => rfl)) pe_int) (fun _ _ => rfl)))
      (pss_cons (ps_asg (pe_op op_mod (pe_callTy call_int1 (by rfl) T.z_int (by decide +kernel) (pa_cons (pe_op op_add (pe_op op_add (pe_op op_mul (pe_ix ix_list (pv 0) pe_int (fun _ _ => rfl)) pe_int) (pv 3)) pe_int) pa_nil)) pe_int) (pg_sub (pv 0) pe_int set_list))
      (pss_cons (ps_asg (pe_ifExp (pt_cmpR op_ge (pv 3) (pe_op op_pow pe_int pe_int) (nomark _)) (pe_op op_fdiv (pv 3) (pv 1)) pe_int) (pg_sub (pv 0) pe_int set_list))
      (pss_one (ps_ret (pe_op op_mod (pe_callTy call_int1 (by rfl) T.z_int (by decide +kernel) (pa_cons (pv 3) pa_nil)) (pv 1))))))))), ?_⟩
    have mod0 : ∀ z : Int, 0 ≤ z % many := fun z => Int.emod_nonneg _ (by omega)
    have mod1 : ∀ z : Int, z % many < many := fun z => Int.emod_lt_of_pos _ (by omega)
    -- if row[3] > 0
    refine ⟨_, rfl, row, _, 3, _, rfl, rfl, .of hrow, atI_nat (j := 3) rfl, _, _, rfl, rfl, _, rfl, ?_⟩
    by_cases hc : 0 < c
    · rw [decide_eq_true hc]
      refine iteT ?_
      refine ⟨_, rfl, row, _, 3, _, rfl, rfl, .of hrow, atI_nat (j := 3) rfl, .inl ⟨_, rfl, _, rfl, _, _, rfl, rfl, by show (0 : Int) < many; omega, ?_⟩⟩
      refine ⟨_, rfl, row, _, 3, _, rfl, rfl, .of hrow, atI_nat (j := 3) rfl, _, rfl, _, _, rfl, rfl, ⟨by omega, by omega⟩, ?_⟩
      refine ⟨_, rfl, row, _, 3, 3, rfl, rfl, hrow, rfl, ?_⟩
      exact ⟨_, rfl, q _ _ (mod0 c) (mod1 c) (RA.put i0) kp_upd⟩
    · rw [decide_eq_false hc]
      refine iteF ?_
      -- row[1] = row[1] + 1
      refine ⟨_, rfl, row, _, 1, _, rfl, rfl, .of hrow, atI_nat (j := 1) rfl, _, _, rfl, rfl, ?_⟩
      refine ⟨_, rfl, row, _, 1, 1, rfl, rfl, hrow, rfl, ?_⟩
      have RA1 : RowAt K (upd H row (.lst [.ref a, .int (i + 1), .int m, .int c])) row a ns := RA.put (by omega)
      have hrow1 : (upd H row (.lst [.ref a, .int (i + 1), .int m, .int c])) row = some (.lst [.ref a, .int (i + 1), .int m, .int c]) := upd_same
      have kp1 : Kp row H (upd H row (.lst [.ref a, .int (i + 1), .int m, .int c])) := kp_upd
      show tSeq _ _ _ _ (upd H row (.lst [.ref a, .int (i + 1), .int m, .int c]))
      generalize (upd H row (.lst [.ref a, .int (i + 1), .int m, .int c])) = H1 at RA1 hrow1 kp1
      -- if row[1] > len(row[0])
      refine ⟨_, rfl, row, _, 1, _, rfl, rfl, .of hrow1, atI_nat (j := 1) rfl, _, rfl, row, _, 0, _, rfl, rfl, .of hrow1, atI_nat (j := 0) rfl, a, _, rfl, .inl RA1.sc, _, _, rfl, rfl, _, rfl, ?_⟩
      rw [List.length_map]
      by_cases hl : (ns.length : Int) < i + 1
      · rw [decide_eq_true hl]
        refine iteT ?_
        refine ⟨_, rfl, row, _, 2, _, rfl, rfl, .of hrow1, atI_nat (j := 2) rfl, _, _, rfl, rfl, .inr ⟨by decide, by decide⟩, _, _, rfl, rfl, .inl ⟨_, rfl, _, _, rfl, rfl, (by show (0 : Int) < 2147483647; decide), ?_⟩⟩
        refine ⟨_, rfl, row, _, 2, 2, rfl, rfl, hrow1, rfl, ?_⟩
        refine ⟨_, rfl, row, _, 2, _, rfl, rfl, .of upd_same, atI_nat (j := 2) rfl, _, _, rfl, rfl, ⟨by decide, by decide⟩, .inl ⟨_, rfl, _, rfl, _, _, rfl, rfl, by show (0 : Int) < many; omega, ?_⟩⟩
        exact q _ _ (mod0 _) (mod1 _) (RA1.put (by omega)) (kp1.trans kp_upd)
      · rw [decide_eq_false hl]
        refine iteF ?_
        have hi : i.toNat < ns.length := by omega
        have hg : atI (ns.map V.int) (i + 1 - 1) = some (.int ns[i.toNat]) := by
          refine at_of (j := i.toNat) (by omega) ?_
          rw [List.getElem?_map, List.getElem?_eq_getElem hi]
          rfl
        refine ⟨_, rfl, row, _, 0, _, rfl, rfl, .of hrow1, atI_nat (j := 0) rfl, _, rfl, row, _, 1, _, rfl, rfl, .of hrow1, atI_nat (j := 1) rfl, _, _, rfl, rfl, a, _, _, _, rfl, rfl, RA1.sc, hg, ?_⟩
        generalize ns[i.toNat] = cell
        -- row[2] = ..
        refine ⟨_, rfl, row, _, 2, _, rfl, rfl, .of hrow1, atI_nat (j := 2) rfl, _, _, rfl, rfl, .inr ⟨by decide, by decide⟩, _, rfl, _, _, rfl, rfl, _, _, rfl, rfl, .inl ⟨_, rfl, _, _, rfl, rfl, (by show (0 : Int) < 2147483647; decide), ?_⟩⟩
        refine ⟨_, rfl, row, _, 2, 2, rfl, rfl, hrow1, rfl, ?_⟩
        -- row[3] = ..
        refine ⟨_, rfl, _, _, rfl, rfl, ⟨by decide, by decide, by decide⟩, _, _, rfl, rfl, _, rfl, ?_⟩
        refine ite2 (fun _ => ?_) (fun _ => ?_)
        · refine ⟨_, rfl, _, rfl, _, _, rfl, rfl, ⟨by omega, by omega⟩, ?_⟩
          refine ⟨_, rfl, row, _, 3, 3, rfl, rfl, upd_same, rfl, ?_⟩
          refine ⟨_, rfl, .inl ⟨_, rfl, _, rfl, _, _, rfl, rfl, by show (0 : Int) < many; omega, ?_⟩⟩
          rw [upd_upd]
          exact q _ _ (mod0 _) (mod1 _) (RA1.put (by omega)) (kp1.trans kp_upd)
        · refine ⟨_, rfl, row, _, 3, 3, rfl, rfl, upd_same, rfl, ?_⟩
          refine ⟨_, rfl, .inl ⟨_, rfl, _, rfl, _, _, rfl, rfl, by show (0 : Int) < many; omega, ?_⟩⟩
          rw [upd_upd]
          exact q _ _ (mod0 _) (mod1 _) (RA1.put (by omega)) (kp1.trans kp_upd)
end
section
variable {P : Program} {w : World} {K : PySem.W.Frag} {mg : Str → Option Value} {base : Heap}
/-- two new tuples that make a ring -/
def spParts (K : PySem.W.Frag) : Sp := fun vs H Q _ => ∃ (row a : Addr) (ns : List Int) (most : Int), vs = [.ref row, .int most] ∧ RowAt K H row a ns ∧ 2 ≤ most ∧ most ≤ 8 ∧
  ∀ H' t td ts ds ss, Good ds ss → RowAt K H' row a ns → Kp row H H' → H' t = some (.tup [.ref td, .ref ts]) → H' td = some (.tup (ds.map V.int)) → H' ts = some (.tup (ss.map V.int)) → Q (.ref t) H'
/-- what a list being made holds -/
def Acc (K : PySem.W.Frag) (H0 : Hp) (row a D : Addr) (ns : List Int) (lo hi : Int) (i : Nat) (H : Hp) : Prop :=
  ∃ acc : List Int, acc.length = i ∧ (∀ y ∈ acc, lo ≤ y ∧ y ≤ hi) ∧ H D = some (.lst (acc.map V.int)) ∧ RowAt K H row a ns ∧ Kp row H0 H
theorem acc_next {H0 H H' : Hp} {row a D : Addr} {ns : List Int} {lo hi v : Int} {i : Nat} (hD : H0 D = none) (nD : D ≠ row) (f : D ≠ a ∨ Wr K a (ns.map V.int)) {acc : List Int} (hlen : acc.length = i) (hall : ∀ y ∈ acc, lo ≤ y ∧ y ≤ hi)
    (hacc : H D = some (.lst (acc.map V.int))) (k : Kp row H0 H) (RA : RowAt K H' row a ns) (k' : Kp row H H') (v0 : lo ≤ v) (v1 : v ≤ hi) : Acc K H0 row a D ns lo hi (i + 1) (upd H' D (.lst (acc.map V.int ++ [V.int v]))) := by
  refine ⟨acc ++ [v], by rw [List.length_append, hlen]; rfl, fun y hy => ?_, by rw [upd_same, map_snoc], RA.upd' nD f, kp_new (k.trans k') hD⟩
  rcases List.mem_append.mp hy with z | z
  · exact hall y z
  · have := List.mem_singleton.mp z
    omega
theorem ok_parts (T : Tx K mg) : FnOk P w K mg base CX0 2 T.a_lparts T.d_lparts P_lparts (spParts K) := by
  refine T.F_lparts.ok sc_lparts (fun vs H Q E h => ?_) (fun cdv A outer s H vs Q E hr h => ?_)
  · obtain ⟨row, a, ns, most, rfl, _⟩ := h
    rfl
  · obtain ⟨row, a, ns, most, rfl, RA, m2, m8, q⟩ := h
    have nd := sc_lparts.nd
    refine ⟨_, pss_cons (ps_asg (pe_tup (pa_cons (pe_op op_add pe_int (pe_call (ok_taken T) hr (by rfl) T.g_ltaken T.F_ltaken.kp T.b_ltaken .nil pass0 (pa_cons (pv 0) (pa_cons (pe_op op_sub (pv 1) pe_int) pa_nil))))
        (pa_cons (pe_ix ix_list (pe_lst (pa_cons pe_int (pa_cons pe_int (pa_cons pe_int pa_nil)))) (pe_call (ok_taken T) hr (by rfl) T.g_ltaken T.F_ltaken.kp T.b_ltaken .nil pass0 (pa_cons (pv 0) (pa_cons pe_int pa_nil))) (fun _ _ => rfl)) pa_nil)))
        (pg_tup rfl (pgs_cons (pg_name (i := 2) nd rfl (.inl rfl)) (pgs_cons (pg_name (i := 3) nd rfl (.inr rfl)) pgs_nil))))
      (pss_cons (ps_setLc (i := 4) (own := [("_law_k", 6)]) rfl nd rfl rfl (sw_true rfl rfl rfl (by decide +kernel)) (pi_range1 (by rfl) T.z_range (pa_cons (pv 2) pa_nil)) (blkOk_by (N := N_lparts) (sc := defScope s_lparts) (by decide +kernel))
        (fun _ _ _ _ _ => pg_name (i := 6) nd rfl (.inl rfl)) (fun _ _ _ _ _ => pts_nil)
        (fun _ _ _ _ _ => pe_op op_add pe_int (pe_call (ok_taken T) hr (by rfl) T.g_ltaken T.F_ltaken.kp T.b_ltaken .nil pass0 (pa_cons (pv 0) (pa_cons (pv 3) pa_nil)))))
      (pss_cons (ps_setLc (i := 5) (own := [("_law_k", 6)]) rfl nd rfl rfl (sw_true rfl rfl rfl (by decide +kernel)) (pi_range1 (by rfl) T.z_range (pa_cons (pv 2) pa_nil)) (blkOk_by (N := N_lparts) (sc := defScope s_lparts) (by decide +kernel))
        (fun _ _ _ _ _ => pg_name (i := 6) nd rfl (.inl rfl)) (fun _ _ _ _ _ => pts_nil)
        (fun _ _ _ _ _ => pe_call (ok_taken T) hr (by rfl) T.g_ltaken T.F_ltaken.kp T.b_ltaken .nil pass0 (pa_cons (pv 0) (pa_cons pe_int pa_nil))))
      (pss_cons (ps_if (pt_cmpR op_eq (pe_callB (cr_sum rfl) (by rfl) T.z_sum (by decide +kernel) (pa_cons (pv 5) pa_nil)) pe_int (nomark _))
        (pss_one (ps_asg (pe_op op_add pe_int (pe_call (ok_taken T) hr (by rfl) T.g_ltaken T.F_ltaken.kp T.b_ltaken .nil pass0 (pa_cons (pv 0) (pa_cons pe_int pa_nil))))
          (pg_sub (pv 5) (pe_call (ok_taken T) hr (by rfl) T.g_ltaken T.F_ltaken.kp T.b_ltaken .nil pass0 (pa_cons (pv 0) (pa_cons (pv 2) pa_nil))) set_list))) pss_nil)
      (pss_cons (ps_while PassesOwn.never (pt_cmpR op_gt (pe_callB (cr_sum rfl) (by rfl) T.z_sum (by decide +kernel) (pa_cons (pv 5) pa_nil)) pe_int (nomark _))
        (pss_one (ps_asg (pe_op op_sub (pe_callB (cr_max rfl) (by rfl) T.z_max (by decide +kernel) (pa_cons (pv 5) pa_nil)) pe_int)
          (pg_sub (pv 5) (pe_bm PySem.F.plainAttrs_list PySem.F.slot_list_index PySem.F.type_list_index mt_index (pv 5) (pa_cons (pe_callB (cr_max rfl) (by rfl) T.z_max (by decide +kernel) (pa_cons (pv 5) pa_nil)) pa_nil)) set_list))))
      (pss_one (ps_ret (pe_tup (pa_cons (pe_callTy call_tuple_of (by rfl) T.z_tuple (by decide +kernel) (pa_cons (pv 4) pa_nil)) (pa_cons (pe_callTy call_tuple_of (by rfl) T.z_tuple (by decide +kernel) (pa_cons (pv 5) pa_nil)) pa_nil))))))))), ?_⟩
    -- size, far
    refine ⟨_, rfl, _, rfl, _, _, rfl, rfl, row, a, ns, _, rfl, RA, by omega, by omega, fun v1 H1 v10 v11 RA1 k1 => ?_⟩
    refine ⟨_, _, rfl, rfl, (by show 3 ≤ sizeLine; decide), fun l3 hl3 => ?_⟩
    have s1 : Same H1 (upd H1 l3 (.lst [.int 3, .int 9, .int 30])) := same_upd hl3
    have RA1' := RA1.same s1
    obtain ⟨_, _, _, hrw1, _⟩ := RA1.ob
    have nl3 : l3 ≠ row := fun e => by rw [e, hrw1] at hl3; cases hl3
    refine ⟨_, rfl, row, a, ns, _, rfl, RA1', by decide, by decide, fun v2 H2 v20 v21 RA2 k2 => ?_⟩
    have hl3' : H2 l3 = some (.lst [.int 3, .int 9, .int 30]) := k2 _ _ upd_same nl3
    obtain ⟨far, hfar, f1, f30⟩ : ∃ far : Int, atI [V.int 3, V.int 9, V.int 30] v2 = some (.int far) ∧ 1 ≤ far ∧ far ≤ 30 := by
      have : v2 = 0 ∨ v2 = 1 ∨ v2 = 2 := by omega
      rcases this with rfl | rfl | rfl
      · exact ⟨3, rfl, by omega, by omega⟩
      · exact ⟨9, rfl, by omega, by omega⟩
      · exact ⟨30, rfl, by omega, by omega⟩
    refine ⟨l3, _, v2, _, rfl, rfl, .of hl3', hfar, (by show 2 ≤ sizeLine; decide), fun t0 ht0 => ?_⟩
    have s2 : Same H2 (upd H2 t0 (.tup [.int (2 + v1), .int far])) := same_upd ht0
    refine ⟨t0, _, rfl, .of upd_same, rfl, _, _, rfl, _, _, rfl, rfl, ?_⟩
    have RA3 := RA2.same s2
    have k3 : Kp row H (upd H2 t0 (.tup [.int (2 + v1), .int far])) := ((k1.trans (Same.kp s1)).trans k2).trans (Same.kp s2)
    show tSeq _ _ _ _ (upd H2 t0 (.tup [.int (2 + v1), .int far]))
    generalize (upd H2 t0 (.tup [.int (2 + v1), .int far])) = H3 at RA3 k3
    -- days
    refine ⟨_, rfl, _, rfl, by omega, by omega, fun D hD => lc_range (lo := 0) (n := (2 + v1).toNat) (Acc K H3 row a D ns 1 30) ?_ ?_ ?_⟩
    · exact ⟨[], rfl, fun y hy => absurd hy (by simp), upd_same, RA3.same (same_upd hD), Same.kp (same_upd hD)⟩
    · rintro i H4 hi ⟨acc, hlen, hall, hacc, RA4, k4⟩
      have nD := RA3.nn hD
      refine ⟨rfl, lc_keep ?_⟩
      refine ⟨_, rfl, _, rfl, row, a, ns, _, rfl, RA4, f1, by omega, fun v H5 v0 v1' RA5 k5 => ?_⟩
      exact ⟨_, _, rfl, rfl, acc.map V.int, k5 _ _ hacc nD, by rw [List.length_map]; exact small1000 (by omega), acc_next hD nD (far_of RA3.sc hD) hlen hall hacc k4 RA5 k5 (by omega) (by omega)⟩
    rintro H4 ⟨ds, dlen, dall, hds, RA4, k4⟩
    have nD := RA3.nn hD
    have k04 := k3.trans k4
    -- starts
    refine ⟨_, rfl, _, rfl, by omega, by omega, fun D2 hD2 => lc_range (lo := 0) (n := (2 + v1).toNat) (Acc K H4 row a D2 ns 0 2) ?_ ?_ ?_⟩
    · exact ⟨[], rfl, fun y hy => absurd hy (by simp), upd_same, RA4.same (same_upd hD2), Same.kp (same_upd hD2)⟩
    · rintro i H5 hi ⟨acc, hlen, hall, hacc, RA5, k5⟩
      have nD2 := RA4.nn hD2
      refine ⟨rfl, lc_keep ?_⟩
      refine ⟨_, rfl, row, a, ns, _, rfl, RA5, by decide, by decide, fun v H6 v0 v1' RA6 k6 => ?_⟩
      exact ⟨acc.map V.int, k6 _ _ hacc nD2, by rw [List.length_map]; exact small1000 (by omega), acc_next hD2 nD2 (far_of RA4.sc hD2) hlen hall hacc k5 RA6 k6 (by omega) (by omega)⟩
    rintro H5 ⟨ss0, slen0, sall0, hss0, RA5, k5⟩
    have nD2 := RA4.nn hD2
    have nDD : D ≠ D2 := ne_of_none hds hD2
    have fD2 := far_of RA4.sc hD2
    have hds5 : H5 D = some (.lst (ds.map V.int)) := k5 _ _ hds nD
    have k05 := k04.trans k5
    have hD20 : ∀ b o, H b = some o → b ≠ row → b ≠ D2 := fun b o e n => ne_of_none (k04 b o e n) hD2
    -- the loop that makes the books few
    have loop : ∀ (ss : List Int) (H6 : Hp), ss.length = (2 + v1).toNat → (∀ y ∈ ss, 0 ≤ y ∧ y ≤ 12) → 1 ≤ ss.sum → H6 D2 = some (.lst (ss.map V.int)) → H6 D = some (.lst (ds.map V.int)) → RowAt K H6 row a ns → Kp row H H6 →
        tSeq (tWhile (tTest (tOp (rI0 fun i j => .bl (decide (j < i))) (tCB (rSum K) (tCons (tVar 5) tNil)) (tC (.int 12))))
          (tAsg (tOp (rI0 fun i j => .int (i - j)) (tCB (rMax K) (tCons (tVar 5) tNil)) (tC (.int 1))) (gSub (tVar 5) (tBM K "list" (rIndex K) (tVar 5) (tCons (tCB (rMax K) (tCons (tVar 5) tNil)) tNil)) rSetL)))
          (tRet (tTup (tCons (tCB (fun xs H Q => ∃ p ys, xs = [.ref p] ∧ ((SqL K H p ys ∧ ∀ l, H l = none → Q (.ref l) (upd H l (.tup ys))) ∨ (SqT K H p ys ∧ Q (.ref p) H))) (tCons (tVar 4) tNil)) (tCons (tCB (fun xs H Q => ∃ p ys, xs = [.ref p] ∧ ((SqL K H p ys ∧ ∀ l, H l = none → Q (.ref l) (upd H l (.tup ys))) ∨ (SqT K H p ys ∧ Q (.ref p) H))) (tCons (tVar 5) tNil)) tNil))))
          { nx := fun _ H' => Q .non H', rt := Q } [some (.ref row), some (.int most), some (.int (2 + v1)), some (.int far), some (.ref D), some (.ref D2), none] H6 := by
      intro ss H6 slen sall ssum hss hdd RA6 k6
      refine ⟨fun m σ H' => σ = [some (.ref row), some (.int most), some (.int (2 + v1)), some (.int far), some (.ref D), some (.ref D2), none] ∧ ∃ ss : List Int, m = ss.sum.toNat ∧ ss.length = (2 + v1).toNat ∧ (∀ y ∈ ss, 0 ≤ y ∧ y ≤ 12) ∧ 1 ≤ ss.sum ∧ H' D2 = some (.lst (ss.map V.int)) ∧ H' D = some (.lst (ds.map V.int)) ∧ RowAt K H' row a ns ∧ Kp row H H',
        ⟨ss.sum.toNat, rfl, ss, rfl, slen, sall, ssum, hss, hdd, RA6, k6⟩, ?_⟩
      rintro m σ H7 ⟨rfl, ss, rfl, slen, sall, ssum, hss, hdd, RA7, k7⟩
      refine ⟨_, rfl, D2, ss, rfl, .of hss, _, _, rfl, rfl, _, rfl, ?_⟩
      by_cases hc : 12 < ss.sum
      · rw [decide_eq_true hc]
        refine iteT ⟨fun σ' H' => σ' = [some (.ref row), some (.int most), some (.int (2 + v1)), some (.int far), some (.ref D), some (.ref D2), none] ∧ ∃ ss' : List Int, ss'.sum = ss.sum - 1 ∧ ss'.length = (2 + v1).toNat ∧ (∀ y ∈ ss', 0 ≤ y ∧ y ≤ 12) ∧ H' D2 = some (.lst (ss'.map V.int)) ∧ H' D = some (.lst (ds.map V.int)) ∧ RowAt K H' row a ns ∧ Kp row H H',
          fun σ' H' ⟨e1, ss', e2, e3, e4, e5, e6, e7, e8⟩ => ⟨ss'.sum.toNat, by omega, e1, ss', rfl, e3, e4, by omega, e5, e6, e7, e8⟩, ?_⟩
        refine ⟨_, rfl, D2, ss, rfl, .of hss, by omega, fun mm hm hmu => ⟨_, _, rfl, rfl, ?_⟩⟩
        refine ⟨_, rfl, _, rfl, .inl ⟨rfl, _, .of hss⟩, _, rfl, D2, ss, rfl, .of hss, by omega, fun mm2 hm2 hmu2 => ?_⟩
        obtain ⟨j, hj, hno⟩ := first_ix hm2
        have emm : mm2 = mm := Int.le_antisymm (hmu _ hm2) (hmu2 _ hm)
        subst emm
        have hjl : j < ss.length := (List.getElem?_eq_some_iff.mp hj).1
        refine ⟨D2, ss.map V.int, .int mm2, j, .int mm2, rfl, rfl, .of hss, rfl, flat_ints ss, by rw [List.getElem?_map, hj]; rfl, beq_self_eq_true mm2, fun k z' hk hz => ?_, ?_⟩
        · obtain ⟨z, hz2, rfl⟩ := get_int hz
          exact beq_eq_false_iff_ne.mpr (hno k z hk hz2)
        · have hixn : ixN (ss.map V.int).length ((j : Nat) : Int) = some j := by
            unfold ixN
            rw [List.length_map, if_pos (by omega), if_pos (by omega), Int.toNat_natCast]
          refine ⟨D2, _, ((j : Nat) : Int), j, rfl, rfl, hss, hixn, rfl, ss.set j (mm2 - 1), ?_, by rw [List.length_set]; exact slen, fun y hy => ?_, by rw [upd_same, List.map_set], by rw [upd_ne nDD]; exact hdd, RA7.upd' nD2 fD2, fun b o e n => by rw [upd_ne (hD20 b o e n)]; exact k7 b o e n⟩
          · rw [sum_set hj]
            omega
          · have hm12 := sall _ hm2
            have hm1 : 1 ≤ mm2 := by
              rcases Int.lt_or_le mm2 1 with z | z
              · have := sum_le_zero (l := ss) fun y hy => by have := hmu _ hy; omega
                omega
              · exact z
            rcases mem_set hy with z | z
            · exact sall y z
            · omega
      · rw [decide_eq_false hc]
        refine iteF ?_
        refine ⟨_, rfl, D, _, rfl, .inl ⟨.of hdd, fun l1 hl1 => ?_⟩⟩
        have u1 := same_upd (o := .tup (ds.map V.int)) hl1
        refine ⟨_, rfl, D2, _, rfl, .inl ⟨.of (u1 _ _ hss), fun l2 hl2 => ⟨(by show 2 ≤ sizeLine; decide), fun t ht => ?_⟩⟩⟩
        have u2 := same_upd (o := .tup (ss.map V.int)) hl2
        have u3 := same_upd (o := .tup [.ref l1, .ref l2]) ht
        exact q _ t l1 l2 ds ss ⟨by omega, by omega, by omega, dall, sall, ssum, by omega⟩ (((RA7.same u1).same u2).same u3) (((k7.trans (Same.kp u1)).trans (Same.kp u2)).trans (Same.kp u3)) upd_same (u3 _ _ (u2 _ _ upd_same)) (u3 _ _ upd_same)
    -- if sum(starts) == 0
    refine ⟨_, rfl, D2, ss0, rfl, .of hss0, rfl, _, rfl, ?_⟩
    have nn0 : ∀ y ∈ ss0, 0 ≤ y := fun y hy => (sall0 y hy).1
    by_cases hz : ss0.sum = 0
    · rw [decide_eq_true (show V.int ss0.sum = V.int 0 by rw [hz])]
      refine iteT ?_
      refine ⟨_, rfl, row, a, ns, _, rfl, RA5, by decide, by decide, fun v H6 v0 v1' RA6 k6 => ⟨_, _, rfl, rfl, ?_⟩⟩
      refine ⟨_, rfl, _, rfl, _, rfl, row, a, ns, _, rfl, RA6, by omega, by omega, fun j H7 j0 j1 RA7 k7 => ?_⟩
      have k57 := k6.trans k7
      have hss7 : H7 D2 = some (.lst (ss0.map V.int)) := k57 _ _ hss0 nD2
      have hj : j.toNat < ss0.length := by omega
      have hixn : ixN (ss0.map V.int).length j = some j.toNat := by
        unfold ixN
        rw [List.length_map, if_pos (by omega), if_pos (by omega)]
      refine ⟨D2, _, j, j.toNat, rfl, rfl, hss7, hixn, ?_⟩
      have hmem : (1 + v) ∈ ss0.set j.toNat (1 + v) := List.mem_set hj (1 + v)
      have hall' : ∀ y ∈ ss0.set j.toNat (1 + v), 0 ≤ y ∧ y ≤ 12 := fun y hy => by
        rcases mem_set hy with z | z
        · have := sall0 y z; omega
        · omega
      refine loop (ss0.set j.toNat (1 + v)) _ (by rw [List.length_set]; exact slen0) hall' ?_ (by rw [upd_same, List.map_set]) (by rw [upd_ne nDD]; exact k57 _ _ hds5 nD) (RA7.upd' nD2 fD2) (fun b o e n => by rw [upd_ne (hD20 b o e n)]; exact (k05.trans k57) b o e n)
      have := mem_le_sum (fun y hy => (hall' y hy).1) _ hmem
      omega
    · rw [decide_eq_false (show ¬ V.int ss0.sum = V.int 0 from fun z => hz (V.int.inj z))]
      refine iteF ?_
      have := mem_le_sum.sum_nonneg' nn0
      exact loop ss0 H5 slen0 (fun y hy => by have := sall0 y hy; omega) (by omega) hss0 hds5 RA5 k05
end
end Rp
namespace Rp
open PySem PySem.Spec PyProof.Rows L2 Rz Rm
section
variable {K : PySem.W.Frag} {H : Hp} {Q : VK} {a b : Addr} {xs ys : List V}
theorem sl_from {k : Int} (ha : H a = some (.tup xs)) (k0 : 0 ≤ k) (k1 : k ≤ xs.length) (h : ∀ H' p, Same H H' → H' p = some (.tup (xs.drop k.toNat)) → Q (.ref p) H') : rSlA K (.ref a) (some k) none H Q := by
  have e : k = ((k.toNat : Nat) : Int) := by omega
  have e0 : HT.sIx xs.length 0 (some k) = k.toNat := by
    rw [e, HT.sIx_nat]
    omega
  have e1 : cutV xs (some k) none = xs.drop k.toNat := by
    unfold cutV
    rw [e0, HT.sIx_none, List.take_of_length_le (by rw [List.length_drop]; omega)]
  refine ⟨a, xs, rfl, .of ha, fun z => h H a (fun _ _ q => q) ?_, fun _ p hp => h _ p (same_upd hp) (by rw [upd_same, e1])⟩
  rw [e0] at z
  rw [ha, z.1]
  rfl
theorem sl_to {k : Int} (ha : H a = some (.tup xs)) (k0 : 0 ≤ k) (k1 : k ≤ xs.length) (h : ∀ H' p, Same H H' → H' p = some (.tup (xs.take k.toNat)) → Q (.ref p) H') : rSlA K (.ref a) none (some k) H Q := by
  have e : k = ((k.toNat : Nat) : Int) := by omega
  have e0 : HT.sIx xs.length xs.length (some k) = k.toNat := by
    rw [e, HT.sIx_nat]
    omega
  have e1 : cutV xs none (some k) = xs.take k.toNat := by
    unfold cutV
    rw [e0, HT.sIx_none, List.drop_zero, Nat.sub_zero]
  refine ⟨a, xs, rfl, .of ha, fun z => h H a (fun _ _ q => q) ?_, fun _ p hp => h _ p (same_upd hp) (by rw [upd_same, e1])⟩
  rw [e0] at z
  rw [ha, z.2, List.take_length]
theorem cat_any (ha : H a = some (.tup xs)) (hb : H b = some (.tup ys)) (hl : xs.length + ys.length ≤ sizeLine) (h : ∀ H' p, Same H H' → H' p = some (.tup (xs ++ ys)) → Q (.ref p) H') : rCatA K (.ref a) (.ref b) H Q := by
  refine ⟨a, b, xs, ys, rfl, rfl, .of ha, .of hb, hl, fun z => h H b (fun _ _ q => q) ?_, fun _ z => h H a (fun _ _ q => q) ?_, fun _ _ p hp => h _ p (same_upd hp) upd_same⟩
  · rw [z, hb]
    rfl
  · rw [z, ha, List.append_nil]
end
theorem noPart {σ : L2.St} {H : Hp} {Q : Option Int → Hp → Prop} (h : Q none H) : tNoPart σ H Q := h
end Rp
namespace Rp
open PySem PySem.Spec PyProof.Rows L2 Rz Rm
/-- tuples of ints at addresses -/
def Tups (H : Hp) : List V → List (List Int) → Prop := Paired fun v l => ∃ t, v = V.ref t ∧ H t = some (.tup (l.map V.int))
theorem Tups.snoc {H : Hp} {v : V} {l : List Int} (h2 : ∃ t, v = V.ref t ∧ H t = some (.tup (l.map V.int))) : ∀ {xs : List V} {ls : List (List Int)}, Tups H xs ls → Tups H (xs ++ [v]) (ls ++ [l])
  | _, _, .nil => .cons h2 .nil
  | _, _, .cons r t => .cons r (Tups.snoc h2 t)
theorem Tups.mono {H H' : Hp} (k : ∀ b xs, H b = some (.tup xs) → H' b = some (.tup xs)) : ∀ {xs : List V} {ls : List (List Int)}, Tups H xs ls → Tups H' xs ls
  | _, _, .nil => .nil
  | _, _, .cons ⟨t, e, h⟩ r => .cons ⟨t, e, k _ _ h⟩ (Tups.mono k r)
theorem Tups.length {H : Hp} {xs : List V} {ls : List (List Int)} (h : Tups H xs ls) : xs.length = ls.length := Paired.length h
theorem Tups.get {H : Hp} : ∀ {xs : List V} {ls : List (List Int)} {i : Nat} {l : List Int}, Tups H xs ls → ls[i]? = some l → ∃ t, xs[i]? = some (.ref t) ∧ H t = some (.tup (l.map V.int))
  | _, _, i, l, .nil, h => by simp at h
  | _, _, 0, l, .cons ⟨t, e, h2⟩ r, h => by
    simp at h
    subst h
    exact ⟨t, by rw [e]; rfl, h2⟩
  | _, _, i + 1, l, .cons _ r, h => by
    obtain ⟨t, h1, h2⟩ := Tups.get (i := i) (l := l) r (by simpa using h)
    exact ⟨t, by simpa using h1, h2⟩
/-- as data, for == -/
theorem dp_is {K : PySem.W.Frag} {H : Hp} : ∀ l : List Int, DpAll K H (l.map V.int) (l.map PyData.int)
  | [] => .nil
  | x :: r => .cons (.int x) (dp_is r)
theorem Tups.data {K : PySem.W.Frag} {H : Hp} : ∀ {xs : List V} {ls : List (List Int)}, Tups H xs ls → DpAll K H xs (ls.map fun l => PyData.tuple (l.map PyData.int))
  | _, _, .nil => .nil
  | _, _, .cons ⟨t, e, h⟩ r => .cons (by subst e; exact .tup (.of h) (dp_is _)) (Tups.data r)
theorem lay_tups : ∀ ls : List (List Int), PyData.canLayAll0 (ls.map fun l => PyData.tuple (l.map PyData.int)) = true ∧ PyData.depthAll (ls.map fun l => PyData.tuple (l.map PyData.int)) ≤ 1
  | [] => ⟨rfl, Nat.zero_le _⟩
  | l :: r => by
    obtain ⟨h1, h2⟩ := lay_tups r
    constructor
    · simp [PyData.canLayAll0, PyData.canLay0, PySem.W.ke_canLayAll0 l, h1]
    · simp only [List.map_cons, PyData.depthAll, PyData.depth, PySem.W.ke_depthAll l]
      omega
theorem shaped_tups (ls : List (List Int)) : SeqAt.shaped (.list (ls.map fun l => PyData.tuple (l.map PyData.int))) = true := by
  obtain ⟨h1, h2⟩ := lay_tups ls
  simp only [SeqAt.shaped, PyData.canLay0, PyData.depth, h1, Bool.true_and]
  exact decide_eq_true (by omega)
theorem RingAt.kp {C : Addr} {K : PySem.W.Frag} {H H' : Hp} {p dx td ts row a : Addr} {ds ss ns : List Int} (R : RingAt C H p dx td ts ds ss) (RA : RowAt K H row a ns) (k : Kp row H H') : RingAt C H' p dx td ts ds ss := by
  obtain ⟨i, m, q, h, _⟩ := RA.ob
  exact ⟨k _ _ R.ob (ne_of R.ob h (by intro z; cases z)), k _ _ R.td (ne_of R.td h (by intro z; cases z)), k _ _ R.ts (ne_of R.ts h (by intro z; cases z)), R.ok⟩
theorem tup_kp {K : PySem.W.Frag} {H H' : Hp} {t row a : Addr} {xs : List V} {ns : List Int} (ht : H t = some (.tup xs)) (RA : RowAt K H row a ns) (k : Kp row H H') : H' t = some (.tup xs) := by
  obtain ⟨i, m, q, h, _⟩ := RA.ob
  exact k _ _ ht (ne_of ht h (by intro z; cases z))
theorem up {N : Nat} {d s : Int → Int} {B T M : Int} (R : Rm.Ring N d s B T M) (r : Int) {x : Int} (hx : 0 ≤ x) : Rm.E d s r x ≤ (x + 1) * T + x * M := by
  obtain ⟨k, hk, e⟩ := R.att r hx
  have hN := R.pos
  have hB := R.b1
  have hT := R.T0
  have ek : k = k % N + k / N * N := by
    have := Nat.mod_add_div k N
    rw [Nat.mul_comm] at this
    exact this.symm
  have hj := Nat.mod_lt k hN
  have hS := R.sumS r (k % N) (k / N)
  have hD := R.sumD r (k % N + 1) (k / N)
  rw [← ek] at hS
  rw [show k % N + 1 + k / N * N = k + 1 by omega] at hD
  have hm : ((k / N : Nat) : Int) ≤ x := by
    have h1 := sum_nn R.s0 r (k % N)
    have h2 : ((k / N : Nat) : Int) * 1 ≤ ((k / N : Nat) : Int) * B := Int.mul_le_mul_of_nonneg_left hB (Int.natCast_nonneg _)
    omega
  have hd0 : sumBack d r (k % N + 1) ≤ T := by
    have := sum_mono (f := d) (fun i => by have := R.d1 i; omega) r (show k % N + 1 ≤ N by omega)
    rw [R.t] at this
    exact this
  have h3 : ((k / N : Nat) : Int) * T ≤ x * T := Int.mul_le_mul_of_nonneg_right hm hT
  have h4 := max_le R.mu r k
  have h40 : 0 ≤ maxBack d r k := by
    have h1 := max_ge (f := d) r (j := 0) (k := k) (Nat.zero_le _)
    have h2 := R.d1 (r - (0 : Nat))
    omega
  have h5 : (x - sumBack s r k) * maxBack d r k ≤ x * M := by
    have a1 : (x - sumBack s r k) * maxBack d r k ≤ x * maxBack d r k := Int.mul_le_mul_of_nonneg_right (by have := sum_nn R.s0 r k; omega) h40
    have a2 : x * maxBack d r k ≤ x * M := Int.mul_le_mul_of_nonneg_left h4 hx
    omega
  unfold ch at e
  rw [Int.add_mul]
  omega
theorem and_go {c : Bool} {u : TT} {σ : L2.St} {H : Hp} {F : Bool → Hp → Prop} (G : Hp → Prop) (next : ∀ H9, G H9 → F false H9) (hH : G H) (h1 : c = true → (∀ H9, G H9 → F false H9) → u σ H F) : if c = true then u σ H F else F false H := by
  cases c with
  | true => exact iteT (h1 rfl next)
  | false => exact iteF (next H hH)
theorem dp_ints {K : PySem.W.Frag} {H : Hp} : ∀ l : List Int, DpAll K H (l.map V.int) (l.map PyData.int)
  | [] => .nil
  | x :: r => .cons (.int x) (dp_ints r)
theorem Tups.rev {H : Hp} : ∀ {xs : List V} {ls : List (List Int)}, Tups H xs ls → Tups H xs.reverse ls.reverse
  | _, _, .nil => .nil
  | _, _, .cons r t => by
    rw [List.reverse_cons, List.reverse_cons]
    exact Tups.snoc r (Tups.rev t)
theorem Tups.drop {H : Hp} : ∀ {xs : List V} {ls : List (List Int)} (k : Nat), Tups H xs ls → Tups H (xs.drop k) (ls.drop k)
  | _, _, 0, h => h
  | _, _, k + 1, .nil => .nil
  | _, _, k + 1, .cons _ t => Tups.drop k t
theorem Tups.same {H H' : Hp} (s : Same H H') {xs : List V} {ls : List (List Int)} (h : Tups H xs ls) : Tups H' xs ls := h.mono fun b xs e => s _ _ e
/-- two tuples of ints are compared -/
theorem eqv_tup (as bs : List Int) : PyData.eqv (.tuple (as.map PyData.int)) (.tuple (bs.map PyData.int)) = decide (as = bs) := PySem.W.ked_eqvAll _ _
theorem eqv_lst (as bs : List Int) : PyData.eqv (.list (as.map PyData.int)) (.list (bs.map PyData.int)) = decide (as = bs) := PySem.W.ked_eqvAll _ _
theorem shaped_tup (as : List Int) : SeqAt.shaped (.tuple (as.map PyData.int)) = true := by
  simp only [SeqAt.shaped, PyData.canLay0, PyData.depth, PySem.W.ke_canLayAll0 as, PySem.W.ke_depthAll as, Bool.true_and]
  exact decide_eq_true (by omega)
theorem shaped_lst (as : List Int) : SeqAt.shaped (.list (as.map PyData.int)) = true := by
  simp only [SeqAt.shaped, PyData.canLay0, PyData.depth, PySem.W.ke_canLayAll0 as, PySem.W.ke_depthAll as, Bool.true_and]
  exact decide_eq_true (by omega)
section
variable {K : PySem.W.Frag} {H : Hp} {a b : Addr} {as bs : List Int} {Q : VK}
theorem tup_eq (ha : H a = some (.tup (as.map V.int))) (hb : H b = some (.tup (bs.map V.int))) (q : Q (.bl (decide (as = bs))) H) : rEqD K (.ref a) (.ref b) H Q :=
  ⟨_, _, .tup (.of ha) (dp_is as), .tup (.of hb) (dp_is bs), shaped_tup as, shaped_tup bs, by rw [eqv_tup]; exact q⟩
theorem tup_ne (ha : H a = some (.tup (as.map V.int))) (hb : H b = some (.tup (bs.map V.int))) (q : Q (.bl (!decide (as = bs))) H) : rNeD K (.ref a) (.ref b) H Q :=
  ⟨_, _, .tup (.of ha) (dp_is as), .tup (.of hb) (dp_is bs), shaped_tup as, shaped_tup bs, by rw [eqv_tup]; exact q⟩
theorem lst_ne (ha : SqL K H a (as.map V.int)) (hb : SqL K H b (bs.map V.int)) (q : Q (.bl (!decide (as = bs))) H) : rNeD K (.ref a) (.ref b) H Q :=
  ⟨_, _, .lst ha (dp_is as), .lst hb (dp_is bs), shaped_lst as, shaped_lst bs, by rw [eqv_lst]; exact q⟩
theorem lst_eq (ha : SqL K H a (as.map V.int)) (hb : SqL K H b (bs.map V.int)) (q : Q (.bl (decide (as = bs))) H) : rEqD K (.ref a) (.ref b) H Q :=
  ⟨_, _, .lst ha (dp_is as), .lst hb (dp_is bs), shaped_lst as, shaped_lst bs, by rw [eqv_lst]; exact q⟩
end
end Rp
namespace Rp
open PySem PySem.Spec PyProof.Rows L2 Rz Rm
/-! ### the longest heap -/
noncomputable def hpo (ds ss : List Int) (r D : Int) : Int := at' ss r + Cn (at' ds) (at' ss) (r - 1) D - Cn (at' ds) (at' ss) r (D + at' ds r)
noncomputable def gx (ds ss : List Int) (r x : Int) : Int := at' ss r + x + 1 - Cn (at' ds) (at' ss) r (Rm.E (at' ds) (at' ss) (r - 1) x + at' ds r)
section
variable {ds ss : List Int} {M : Int} (RR : Rm.Ring ds.length (at' ds) (at' ss) ss.sum ds.sum M)
include RR
theorem cn_le {j D : Int} (h : 0 ≤ D) : Cn (at' ds) (at' ss) j D ≤ D := by
  obtain ⟨a0, a1, a2⟩ := RR.cn j D
  rcases a1 with a1 | a1
  · omega
  · rcases Int.lt_or_le (Cn (at' ds) (at' ss) j D) 1 with z | z
    · omega
    · have h1 := RR.low j (x := Cn (at' ds) (at' ss) j D - 1) (by omega)
      have h2 := RR.d1 j
      have h3 : (Cn (at' ds) (at' ss) j D - 1 + 1) * 1 ≤ (Cn (at' ds) (at' ss) j D - 1 + 1) * at' ds j := Int.mul_le_mul_of_nonneg_left h2 (by omega)
      omega
theorem cn_mono (j : Int) {D D' : Int} (h : D ≤ D') : Cn (at' ds) (at' ss) j D ≤ Cn (at' ds) (at' ss) j D' := by
  obtain ⟨a0, a1, a2⟩ := RR.cn j D
  obtain ⟨b0, b1, b2⟩ := RR.cn j D'
  rcases Int.lt_or_le (Cn (at' ds) (at' ss) j D') (Cn (at' ds) (at' ss) j D) with z | z
  · rcases a1 with a1 | a1
    · omega
    · have := RR.le j b0 (show Cn (at' ds) (at' ss) j D' ≤ Cn (at' ds) (at' ss) j D - 1 by omega)
      omega
  · exact z
theorem cn_zero {j D : Int} (h : D < at' ds j) : Cn (at' ds) (at' ss) j D = 0 := by
  refine RR.cn_of ⟨Int.le_refl _, .inl rfl, ?_⟩
  have := RR.E1 j (x := 0) (Int.le_refl _)
  omega
theorem cn_cap (r D : Int) : Cn (at' ds) (at' ss) r (D + at' ds r) ≤ at' ss r + Cn (at' ds) (at' ss) (r - 1) D := by
  obtain ⟨a0, a1, a2⟩ := RR.cn r (D + at' ds r)
  obtain ⟨b0, b1, b2⟩ := RR.cn (r - 1) D
  have hs := RR.s0 r
  rcases Int.lt_or_le (at' ss r + Cn (at' ds) (at' ss) (r - 1) D) (Cn (at' ds) (at' ss) r (D + at' ds r)) with z | z
  · rcases a1 with a1 | a1
    · omega
    · have h1 := RR.from r (x := Cn (at' ds) (at' ss) r (D + at' ds r) - 1) (by omega)
      have h2 := RR.le (r - 1) b0 (show Cn (at' ds) (at' ss) (r - 1) D ≤ Cn (at' ds) (at' ss) r (D + at' ds r) - 1 - at' ss r by omega)
      omega
  · exact z
theorem hpo_bounds (r : Int) {D : Int} (h : 0 ≤ D) : 0 ≤ hpo ds ss r D ∧ hpo ds ss r D ≤ ss.sum := by
  have h0 : ∀ j, 0 ≤ at' ss j + Cn (at' ds) (at' ss) (j - 1) D - Cn (at' ds) (at' ss) j (D + at' ds j) := fun j => by
    have := cn_cap RR j D
    omega
  have h1 := (RR.heaps h r).2
  have hN := RR.pos
  have h2 := sum_mono (f := fun j => at' ss j + Cn (at' ds) (at' ss) (j - 1) D - Cn (at' ds) (at' ss) j (D + at' ds j)) h0 r (show 1 ≤ ds.length by omega)
  have h3 : sumBack (fun j => at' ss j + Cn (at' ds) (at' ss) (j - 1) D - Cn (at' ds) (at' ss) j (D + at' ds j)) r 1 = hpo ds ss r D := by
    show 0 + (at' ss (r - (0 : Nat)) + Cn (at' ds) (at' ss) (r - (0 : Nat) - 1) D - Cn (at' ds) (at' ss) (r - (0 : Nat)) (D + at' ds (r - (0 : Nat)))) = _
    rw [show r - ((0 : Nat) : Int) = r by omega]
    unfold hpo
    omega
  refine ⟨by have := h0 r; unfold hpo; omega, by omega⟩
theorem gx_hpo (r : Int) {x : Int} (h : 0 ≤ x) : gx ds ss r x = hpo ds ss r (Rm.E (at' ds) (at' ss) (r - 1) x) := by
  unfold gx hpo
  rw [RR.cn_end (r - 1) h]
  omega
theorem gx_per (r : Int) {p q n x : Int} (p1 : 1 ≤ p) (hall : ∀ m, n ≤ m → Rep (at' ds) (at' ss) p q m) (n0 : 0 ≤ n) (hx : n + ss.sum ≤ x) : gx ds ss r (x + p) = gx ds ss r x := by
  have hB := RR.b1
  have hs := RR.s0 r
  have h1 := hall x (by omega) (r - 1)
  have hb := (hpo_bounds RR r (D := Rm.E (at' ds) (at' ss) (r - 1) x) (by have := RR.E1 (r - 1) (x := x) (by omega); have := RR.d1 (r - 1); omega)).2
  rw [← gx_hpo RR r (by omega)] at hb
  unfold gx at hb ⊢
  rw [h1]
  obtain ⟨c, hc⟩ : ∃ c, c = Cn (at' ds) (at' ss) r (Rm.E (at' ds) (at' ss) (r - 1) x + at' ds r) := ⟨_, rfl⟩
  obtain ⟨a0, a1, a2⟩ := RR.cn r (Rm.E (at' ds) (at' ss) (r - 1) x + at' ds r)
  rw [← hc] at hb a0 a1 a2 ⊢
  have h2 := hall (c - 1) (by omega) r
  have h3 := hall c (by omega) r
  have : Cn (at' ds) (at' ss) r (Rm.E (at' ds) (at' ss) (r - 1) x + q + at' ds r) = c + p := by
    refine RR.cn_of ⟨by omega, .inr ?_, by omega⟩
    rw [show c + p - 1 = c - 1 + p by omega, h2]
    rcases a1 with a1 | a1
    · omega
    · omega
  rw [this]
  omega
theorem gx_all (r : Int) {p q n L : Int} (p1 : 1 ≤ p) (pB : p ≤ ss.sum) (hall : ∀ m, n ≤ m → Rep (at' ds) (at' ss) p q m) (n0 : 0 ≤ n) (h : ∀ x, 0 ≤ x → x ≤ n + 2 * ss.sum → gx ds ss r x ≤ L) : ∀ k : Nat, gx ds ss r k ≤ L := by
  intro k
  induction k using Nat.strongRecOn with
  | _ k ih =>
    by_cases hk : (k : Int) ≤ n + 2 * ss.sum
    · exact h k (by omega) hk
    · have h1 := gx_per RR r p1 hall n0 (x := (k : Int) - p) (by omega)
      have h2 := ih (k - p.toNat) (by omega)
      rw [show ((k - p.toNat : Nat) : Int) = (k : Int) - p by omega] at h2
      rw [show (k : Int) - p + p = k by omega] at h1
      omega
theorem hpo_all (r : Int) {p q n L : Int} (p1 : 1 ≤ p) (pB : p ≤ ss.sum) (hall : ∀ m, n ≤ m → Rep (at' ds) (at' ss) p q m) (n0 : 0 ≤ n) (h0 : at' ss r - min (at' ss r) 1 ≤ L) (h : ∀ x, 0 ≤ x → x ≤ n + 2 * ss.sum → gx ds ss r x ≤ L) {D : Int} (hD : 0 ≤ D) : hpo ds ss r D ≤ L := by
  obtain ⟨a0, a1, a2⟩ := RR.cn (r - 1) D
  have hs := RR.s0 r
  have hd := RR.d1 r
  by_cases c0 : Cn (at' ds) (at' ss) (r - 1) D = 0
  · unfold hpo
    rw [c0]
    obtain ⟨b0, b1, b2⟩ := RR.cn r (D + at' ds r)
    rcases Int.lt_or_le (at' ss r) 1 with z | z
    · omega
    · have hE : Rm.E (at' ds) (at' ss) r 0 = at' ds r := by
        rcases RR.bell r (x := 0) (Int.le_refl _) with e | ⟨e, _⟩ | ⟨e, _⟩
        · exact e
        · omega
        · omega
      have : Cn (at' ds) (at' ss) r (D + at' ds r) ≠ 0 := fun z => by
        rw [z, hE] at b2
        omega
      omega
  · have h1 : Rm.E (at' ds) (at' ss) (r - 1) (Cn (at' ds) (at' ss) (r - 1) D - 1) ≤ D := by
      rcases a1 with a1 | a1
      · exact absurd a1 c0
      · exact a1
    have h2 := gx_all RR r p1 pB hall n0 h (Cn (at' ds) (at' ss) (r - 1) D - 1).toNat
    rw [show (((Cn (at' ds) (at' ss) (r - 1) D - 1).toNat : Nat) : Int) = Cn (at' ds) (at' ss) (r - 1) D - 1 by omega] at h2
    have h3 := cn_mono RR r (show Rm.E (at' ds) (at' ss) (r - 1) (Cn (at' ds) (at' ss) (r - 1) D - 1) + at' ds r ≤ D + at' ds r by omega)
    unfold gx at h2
    unfold hpo
    omega
end
end Rp
namespace Rp
open PySem PySem.Spec PyProof.Rows L2 Rz Rm
theorem hpo_zero {ds ss : List Int} {M : Int} (RR : Rm.Ring ds.length (at' ds) (at' ss) ss.sum ds.sum M) (r : Int) : hpo ds ss r 0 = at' ss r - min (at' ss r) 1 := by
  have hs := RR.s0 r
  have hd := RR.d1 r
  have z1 : Cn (at' ds) (at' ss) (r - 1) 0 = 0 := cn_zero RR (by have := RR.d1 (r - 1); omega)
  have z0 : Cn (at' ds) (at' ss) r 0 = 0 := cn_zero RR (by omega)
  have h1 := cn_cap RR r 0
  have h2 := RR.cn_next r 0
  rw [z1] at h1
  rw [z0] at h2
  unfold hpo
  rw [z1]
  rcases Int.lt_or_le (at' ss r) 1 with z | z
  · omega
  · obtain ⟨b0, b1, b2⟩ := RR.cn r (0 + at' ds r)
    have hE : Rm.E (at' ds) (at' ss) r 0 = at' ds r := by
      rcases RR.bell r (x := 0) (Int.le_refl _) with e | ⟨e, _⟩ | ⟨e, _⟩
      · exact e
      · omega
      · omega
    have : Cn (at' ds) (at' ss) r (0 + at' ds r) ≠ 0 := fun z => by
      rw [z, hE] at b2
      omega
    omega
section
variable {P : Program} {w : World} {K : PySem.W.Frag} {mg : Str → Option Value} {base : Heap}
def spLongest (C : Addr) : Sp := fun vs H Q _ => ∃ p dx td ts ds ss, ∃ r : Int, vs = [.ref p, .int r] ∧ RingAt C H p dx td ts ds ss ∧ 0 ≤ r ∧ r < ds.length ∧ ∀ H' L, Same H H' → (∀ D, 0 ≤ D → hpo ds ss r D ≤ L) → (∃ D, 0 ≤ D ∧ hpo ds ss r D = L) → Q (.int L) H'
theorem ok_longest (T : Tx K mg) : FnOk P w K mg base CX0 6 T.a_longest_heap T.d_longest_heap P_longest_heap (spLongest T.C) := by
  refine T.F_longest_heap.ok sc_longest_heap (fun vs H Q E h => ?_) (fun cdv A outer s H vs Q E hr h => ?_)
  · obtain ⟨p, dx, td, ts, ds, ss, r, rfl, _⟩ := h
    rfl
  · obtain ⟨p, dx, td, ts, ds, ss, r, rfl, R, r0, r1, q⟩ := h
    have hr5 : Room 5 _ := hr.mono (by decide)
    have hr3 : Room 3 _ := hr.mono (by decide)
    have hr2 : Room 2 _ := hr.mono (by decide)
    have nd := sc_longest_heap.nd
    have l2 := R.ok.l2
    have ls := R.ok.ls
    have b1 := R.ok.b1
    have b12 := R.ok.b12
    obtain ⟨M, hM, hMu⟩ := R.ok.max
    have RR := R.ok.ring hM hMu
    refine ⟨_, pss_cons (ps_expr (pe_call (ok_reader T) hr3 (by rfl) T.g_check_reader T.F_check_reader.kp T.b_check_reader .nil pass0 (pa_cons (pv 0) (pa_cons (pv 1) pa_nil))))
      (pss_cons (ps_set (i := 2) nd rfl (.inl rfl) (pe_call (ok_before T) hr3 (by rfl) T.g_reader_before T.F_reader_before.kp T.b_reader_before .nil pass0 (pa_cons (pv 0) (pa_cons (pv 1) pa_nil))))
      (pss_cons (ps_set (i := 3) nd rfl (.inl rfl) (pe_ix ix_tup (pe_prop (pv 0) T.cl T.q_rstarts (ok_starts T) hr2 T.b_rstarts .nil pass0 rfl) (pv 1) (fun _ _ => rfl)))
      (pss_cons (ps_set (i := 4) nd rfl (.inl rfl) (pe_callB (call_min2 rfl) (by rfl) T.z_min (by decide +kernel) (pa_cons (pv 3) (pa_cons pe_int pa_nil))))
      (pss_cons (ps_set (i := 5) nd rfl (.inl rfl) (pe_op op_sub (pv 3) (pv 4)))
      (pss_cons (ps_for PassesOwn.never rfl (pi_range1 (by rfl) T.z_range (pa_cons (pe_op op_add (pe_op op_add (pe_ix ix_tup (pe_call (ok_settled T) hr5 (by rfl) T.g_settled T.F_settled.kp T.b_settled .nil pass0 (pa_cons (pv 0) pa_nil)) pe_int (fun _ _ => rfl))
            (pe_op op_mul pe_int (pe_prop (pv 0) T.cl T.q_rbooks (ok_books T) hr2 T.b_rbooks .nil pass0 rfl))) pe_int) pa_nil)) (pg_name (i := 6) nd rfl (.inl rfl))
        (pss_cons (ps_set (i := 7) nd rfl (.inl rfl) (pe_call (ok_end T) hr3 (by rfl) T.g_end_day T.F_end_day.kp T.b_end_day .nil pass0 (pa_cons (pv 0) (pa_cons (pv 2) (pa_cons (pv 6) pa_nil)))))
        (pss_cons (ps_aug (i := 3) nd rfl (.inl rfl) pe_int ip_add)
        (pss_cons (ps_while PassesOwn.never (PW.pt (pw_and (pt_cmpR op_lt (pv 4) (pv 3) (nomark _)) (pw_and1 (pt_cmpR op_le (pe_op op_sub (pe_call (ok_end T) hr3 (by rfl) T.g_end_day T.F_end_day.kp T.b_end_day .nil pass0 (pa_cons (pv 0) (pa_cons (pv 1) (pa_cons (pv 4) pa_nil))))
            (pe_ix ix_tup (pe_prop (pv 0) T.cl T.q_rdays (ok_days T) hr2 T.b_rdays .nil pass0 rfl) (pv 1) (fun _ _ => rfl))) (pv 7) (nomark _)))))
          (pss_one (ps_aug (i := 4) nd rfl (.inl rfl) pe_int ip_add)))
        (pss_one (ps_set (i := 5) nd rfl (.inl rfl) (pe_callB (call_max2 rfl) (by rfl) T.z_max (by decide +kernel) (pa_cons (pv 5) (pa_cons (pe_op op_sub (pv 3) (pv 4)) pa_nil)))))))))
      (pss_one (ps_ret (pv 5)))))))), ?_⟩
    have hat : atI (ss.map V.int) r = some (.int (at' ss r)) := at_ix (by omega) (by omega)
    have hatD : atI (ds.map V.int) r = some (.int (at' ds r)) := at_ix (by omega) (by omega)
    have s0 := RR.s0 r
    have s12 := (R.ok.s0 _ (at_mem (l := ss) (by omega) r)).2
    have pr0 : 0 ≤ (r - 1) % (ds.length : Int) := Int.emod_nonneg _ (by omega)
    have pr1 : (r - 1) % (ds.length : Int) < ds.length := Int.emod_lt_of_pos _ (by omega)
    refine ⟨_, rfl, _, rfl, p, dx, td, ts, ds, ss, r, rfl, R, r0, r1, ?_⟩
    refine ⟨_, rfl, _, rfl, p, dx, td, ts, ds, ss, r, rfl, R, ?_⟩
    refine ⟨_, rfl, p, dx, _, rfl, R.ob, p, dx, td, ts, ds, ss, rfl, R, _, rfl, ts, _, _, _, rfl, rfl, .of R.ts, hat, ?_⟩
    refine ⟨_, rfl, _, _, rfl, ?_⟩
    obtain ⟨b0, hb0⟩ : ∃ b0, b0 = (if (1 : Int) < at' ss r then 1 else at' ss r) := ⟨_, rfl⟩
    have hb0' : b0 = min (at' ss r) 1 := by
      rw [hb0]
      split <;> omega
    rw [← hb0]
    refine ⟨_, rfl, _, rfl, _, _, rfl, rfl, ?_⟩
    refine ⟨_, rfl, p, dx, td, ts, ds, ss, rfl, R, fun M1 hM1 hMu1 H1 t n pp qq s1 ht hrep hset => ?_⟩
    have n0 := hset.n0
    have n1 := hset.n1
    have R1 := R.same s1
    have pq : 1 ≤ pp ∧ pp ≤ ss.sum := by
      rcases hrep with ⟨_, rfl, rfl⟩ | ⟨_, rfl, rfl⟩ <;> omega
    refine ⟨t, _, 0, _, rfl, rfl, .of ht, atI_nat (j := 0) rfl, _, rfl, p, dx, _, rfl, R1.ob, p, dx, td, ts, ds, ss, rfl, R1, _, _, rfl, rfl, .inl ⟨by decide, by decide⟩, _, _, rfl, rfl, _, _, rfl, rfl, _, rfl, by omega, by omega, ?_⟩
    have hE0 : Cn (at' ds) (at' ss) r (at' ds r) = Cn (at' ds) (at' ss) r (at' ds r) := rfl
    refine for_range (lo := 0) (n := (n + 2 * ss.sum + 1).toNat) (fun i σ H' => H' = H1 ∧ ∃ b L y6 y7, σ = [some (.ref p), some (.int r), some (.int ((r - 1) % (ds.length : Int))), some (.int (at' ss r + i)), some (.int b), some (.int L), y6, y7] ∧ 0 ≤ b ∧ b ≤ Cn (at' ds) (at' ss) r (Rm.E (at' ds) (at' ss) (r - 1) i + at' ds r) ∧ at' ss r - min (at' ss r) 1 ≤ L ∧ (∃ D, 0 ≤ D ∧ hpo ds ss r D = L) ∧ ∀ x : Nat, x < i → gx ds ss r x ≤ L) ⟨rfl, b0, at' ss r - b0, none, none, ?_, ?_, ?_, ?_, ⟨0, Int.le_refl _, by rw [hpo_zero RR r, hb0']⟩, fun x hx => absurd hx (Nat.not_lt_zero _)⟩ ?_ ?_
    · show ([_, _, _, some (V.int (at' ss r)), _, _, _, _] : L2.St) = [_, _, _, some (V.int (at' ss r + ((0 : Nat) : Int))), _, _, _, _]
      rw [show at' ss r + ((0 : Nat) : Int) = at' ss r by omega]
    · omega
    · have hEr := RR.E1 (r - 1) (x := 0) (Int.le_refl _)
      have hd1 := RR.d1 (r - 1)
      obtain ⟨c0, c1, c2⟩ := RR.cn r (Rm.E (at' ds) (at' ss) (r - 1) ((0 : Nat) : Int) + at' ds r)
      rcases Int.lt_or_le (at' ss r) 1 with z | z
      · omega
      · have hE : Rm.E (at' ds) (at' ss) r 0 = at' ds r := by
          rcases RR.bell r (x := 0) (Int.le_refl _) with e | ⟨e, _⟩ | ⟨e, _⟩
          · exact e
          · omega
          · omega
        have hne : Cn (at' ds) (at' ss) r (Rm.E (at' ds) (at' ss) (r - 1) ((0 : Nat) : Int) + at' ds r) ≠ 0 := fun z => by
          rw [z, hE] at c2
          have hEr' : at' ds (r - 1) ≤ Rm.E (at' ds) (at' ss) (r - 1) ((0 : Nat) : Int) := hEr
          omega
        omega
    · rw [hb0']
      exact Int.le_refl _
    · rintro i σ H2 hi ⟨rfl, b, L, y6, y7, rfl, b0', bc, hL, hat0, hg⟩
      have ei : (0 : Int) + (i : Int) = i := by omega
      have hEi := RR.E1 (r - 1) (x := (i : Int)) (by omega)
      have hd1 := RR.d1 (r - 1)
      have hdr := RR.d1 r
      show tSeq _ _ _ [some (.ref p), some (.int r), some (.int ((r - 1) % (ds.length : Int))), some (.int (at' ss r + i)), some (.int b), some (.int L), some (.int (0 + (i : Int))), y7] H2
      rw [ei]
      refine ⟨_, rfl, _, rfl, _, rfl, p, dx, td, ts, ds, ss, (r - 1) % (ds.length : Int), i, rfl, R1, pr0, pr1, by omega, ?_⟩
      rw [RR.E_mod]
      obtain ⟨day, hday⟩ : ∃ day, day = Rm.E (at' ds) (at' ss) (r - 1) i := ⟨_, rfl⟩
      obtain ⟨c, hc⟩ : ∃ c, c = Cn (at' ds) (at' ss) r (day + at' ds r) := ⟨_, rfl⟩
      rw [← hday] at bc hEi ⊢
      obtain ⟨c0, c1, c2⟩ := RR.cn r (day + at' ds r)
      have cap := cn_cap RR r day
      have hce : Cn (at' ds) (at' ss) (r - 1) day = i + 1 := by
        rw [hday]
        exact RR.cn_end (r - 1) (by omega)
      rw [hce] at cap
      rw [← hc] at bc c0 c1 c2 cap
      refine ⟨_, rfl, _, _, rfl, rfl, ?_⟩
      refine ⟨fun m σ H' => H' = H2 ∧ ∃ b' : Int, m = (c - b').toNat ∧ σ = [some (.ref p), some (.int r), some (.int ((r - 1) % (ds.length : Int))), some (.int (at' ss r + i + 1)), some (.int b'), some (.int L), some (.int i), some (.int day)] ∧ 0 ≤ b' ∧ b' ≤ c, ⟨_, rfl, b, rfl, rfl, b0', bc⟩, ?_⟩
      rintro m σ H3 ⟨rfl, b', rfl, rfl, b1', bc'⟩
      refine ⟨_, rfl, _, rfl, _, _, rfl, rfl, _, rfl, ?_⟩
      by_cases hb : b' < c
      · rw [decide_eq_true (show b' < at' ss r + i + 1 by omega)]
        have h1 : Rm.E (at' ds) (at' ss) r b' ≤ day + at' ds r := by
          have h2 := RR.le r b1' (show b' ≤ c - 1 by omega)
          omega
        refine iteT ⟨_, rfl, _, rfl, _, rfl, p, dx, td, ts, ds, ss, r, b', rfl, R1, r0, r1, b1', _, rfl, p, dx, _, rfl, R1.ob, p, dx, td, ts, ds, ss, rfl, R1, _, rfl, td, _, _, _, rfl, rfl, .of R1.td, hatD, _, _, rfl, rfl, _, rfl, _, _, rfl, rfl, _, rfl, ?_⟩
        rw [decide_eq_true (show Rm.E (at' ds) (at' ss) r b' - at' ds r ≤ day by omega)]
        refine iteT ⟨fun σ' H' => H' = H3 ∧ σ' = [some (.ref p), some (.int r), some (.int ((r - 1) % (ds.length : Int))), some (.int (at' ss r + i + 1)), some (.int (b' + 1)), some (.int L), some (.int i), some (.int day)], fun σ' H' ⟨e1, e2⟩ => ⟨(c - (b' + 1)).toNat, by omega, e1, b' + 1, rfl, e2, by omega, by omega⟩, ?_⟩
        exact ⟨_, rfl, _, _, rfl, rfl, rfl, rfl⟩
      · have e : b' = c := by omega
        subst e
        refine and_go (c := decide (b' < at' ss r + i + 1)) (H := H3) (fun H9 => H9 = H3) ?_ rfl ?_
        · rintro H9 rfl
          refine iteF ?_
          refine ⟨_, rfl, _, rfl, _, rfl, _, _, rfl, rfl, _, _, rfl, ?_⟩
          rw [max_if]
          have hgi : gx ds ss r i = at' ss r + i + 1 - b' := by
            unfold gx
            rw [← hday, ← hc]
          refine ⟨rfl, b', max L (at' ss r + i + 1 - b'), some (.int i), some (.int day), ?_, b1', ?_, by omega, ?_, fun x hx => ?_⟩
          · show ([_, _, _, some (V.int (at' ss r + i + 1)), _, _, _, _] : L2.St) = [_, _, _, some (V.int (at' ss r + ((i + 1 : Nat) : Int))), _, _, _, _]
            rw [show at' ss r + ((i + 1 : Nat) : Int) = at' ss r + i + 1 by omega]
          · rw [hc]
            refine cn_mono RR r ?_
            have h2 := RR.le (r - 1) (x := (i : Int)) (y := ((i + 1 : Nat) : Int)) (by omega) (by omega)
            omega
          · rcases Int.lt_or_le L (at' ss r + i + 1 - b') with z | z
            · refine ⟨Rm.E (at' ds) (at' ss) (r - 1) i, by rw [← hday]; omega, ?_⟩
              rw [← gx_hpo RR r (by omega), hgi]
              omega
            · obtain ⟨D, D0, hD⟩ := hat0
              exact ⟨D, D0, by omega⟩
          · by_cases ex : x = i
            · subst ex
              omega
            · have := hg x (by omega)
              omega
        · intro _ nx9
          refine ⟨_, rfl, _, rfl, _, rfl, p, dx, td, ts, ds, ss, r, b', rfl, R1, r0, r1, b1', _, rfl, p, dx, _, rfl, R1.ob, p, dx, td, ts, ds, ss, rfl, R1, _, rfl, td, _, _, _, rfl, rfl, .of R1.td, hatD, _, _, rfl, rfl, _, rfl, _, _, rfl, rfl, _, rfl, ?_⟩
          rw [decide_eq_false (show ¬ Rm.E (at' ds) (at' ss) r b' - at' ds r ≤ day by omega)]
          exact nx9 H3 rfl
    · rintro σ H2 ⟨rfl, b, L, y6, y7, rfl, _, _, hL, hat0, hg⟩
      refine ⟨_, rfl, q _ L s1 (fun D hD => ?_) hat0⟩
      refine hpo_all RR r pq.1 pq.2 hset.all n0 hL (fun x x0 x1 => ?_) hD
      have := hg x.toNat (by omega)
      rw [show ((x.toNat : Nat) : Int) = x by omega] at this
      exact this
end
end Rp
namespace Rp
open PySem PySem.Spec PyProof.Rows L2 Rz Rm
/-- told from another one on -/
def rot (k : Int) (l : List Int) : List Int := l.drop k.toNat ++ l.take k.toNat
theorem rot_sum (k : Int) (l : List Int) : (rot k l).sum = l.sum := by
  unfold rot
  rw [List.sum_append, Int.add_comm, ← List.sum_append, List.take_append_drop]
theorem rot_mem {k : Int} {l : List Int} {y : Int} (h : y ∈ rot k l) : y ∈ l := by
  unfold rot at h
  rcases List.mem_append.mp h with h | h
  · exact List.mem_of_mem_drop h
  · exact List.mem_of_mem_take h
theorem rot_len (k : Int) (l : List Int) : (rot k l).length = l.length := by
  unfold rot
  rw [List.length_append, List.length_drop, List.length_take]
  omega
theorem Good.rot {ds ss : List Int} (G : Good ds ss) (k : Int) : Good (rot k ds) (rot k ss) :=
  ⟨by rw [rot_len]; exact G.l2, by rw [rot_len]; exact G.l8, by rw [rot_len, rot_len]; exact G.ls, fun y h => G.d1 y (rot_mem h), fun y h => G.s0 y (rot_mem h), by rw [rot_sum]; exact G.b1, by rw [rot_sum]; exact G.b12⟩
theorem rot_map (k : Int) (l : List Int) : (l.map V.int).drop k.toNat ++ (l.map V.int).take k.toNat = (rot k l).map V.int := by
  unfold Rp.rot
  rw [List.map_append, List.map_drop, List.map_take]
section
variable {P : Program} {w : World} {K : PySem.W.Frag} {mg : Str → Option Value} {base : Heap}
def spShift (C : Addr) : Sp := fun vs H Q _ => ∃ p dx td ts ds ss, ∃ k : Int, vs = [.ref p, .int k] ∧ RingAt C H p dx td ts ds ss ∧ 0 ≤ k ∧ k < ds.length ∧
  ∀ H' p' dx' td' ts', Same H H' → RingAt C H' p' dx' td' ts' (rot k ds) (rot k ss) → Q (.ref p') H'
theorem ok_shift (T : Tx K mg) : FnOk P w K mg base CX0 6 T.a_rrshift T.d_rrshift P_rrshift (spShift T.C) := by
  refine T.F_rrshift.ok sc_rrshift (fun vs H Q E h => ?_) (fun cdv A outer s H vs Q E hr h => ?_)
  · obtain ⟨p, dx, td, ts, ds, ss, k, rfl, _⟩ := h
    rfl
  · obtain ⟨p, dx, td, ts, ds, ss, k, rfl, R, k0, k1, q⟩ := h
    have hr3 : Room 3 _ := hr.mono (by decide)
    have nd := sc_rrshift.nd
    have l2 := R.ok.l2
    have l8 := R.ok.l8
    have ls := R.ok.ls
    refine ⟨_, pss_cons (ps_expr (pe_call (ok_chk T) hr3 (by rfl) T.g_check_number T.F_check_number.kp T.b_check_number .nil pass0 (pa_cons (pv 1) (pa_cons pe_int (pa_cons (pe_op op_sub (pe_callB call_len_seq (by rfl) T.z_len PySem.boot_len (pa_cons (pe_fld (pv 0) rfl) pa_nil)) pe_int) pa_nil)))))
      (pss_cons (ps_set (i := 2) nd rfl (.inl rfl) (pe_op op_catA (pe_slice sl_tupA (pe_fld (pv 0) rfl) (po_some (pv 1)) po_none) (pe_slice sl_tupA (pe_fld (pv 0) rfl) po_none (po_some (pv 1)))))
      (pss_cons (ps_set (i := 3) nd rfl (.inl rfl) (pe_op op_catA (pe_slice sl_tupA (pe_fld (pv 0) rfl) (po_some (pv 1)) po_none) (pe_slice sl_tupA (pe_fld (pv 0) rfl) po_none (po_some (pv 1)))))
      (pss_one (ps_ret (pe_make T.mkR (ok_init T) hr (by rfl) T.gC T.b_rinit .nil pass0 (pa_cons (pv 2) (pa_cons (pv 3) pa_nil))))))), ?_⟩
    refine ⟨_, rfl, _, rfl, p, _, dx, _, _, rfl, R.ob, T.cl, T.nD, flds_days _ _, td, _, rfl, .inr (.of R.td), _, _, rfl, rfl, ?_⟩
    rw [List.length_map]
    refine ⟨k, 0, (ds.length : Int) - 1, rfl, k0, by omega, ?_⟩
    refine ⟨_, rfl, p, _, dx, _, _, rfl, R.ob, T.cl, T.nD, flds_days _ _, _, rfl, _, rfl, ?_⟩
    refine noPart ?_
    refine sl_from R.td k0 (by rw [List.length_map]; omega) fun H1 p1 s1 h1 => ?_
    have R1 := R.same s1
    refine ⟨_, rfl, p, _, dx, _, _, rfl, R1.ob, T.cl, T.nD, flds_days _ _, _, rfl, _, rfl, ?_⟩
    refine sl_to R1.td k0 (by rw [List.length_map]; omega) fun H2 p2 s2 h2 => ?_
    refine cat_any (s2 _ _ h1) h2 (by rw [List.length_drop, List.length_take, List.length_map]; have := small1000 (n := ds.length) (by omega); omega) fun H3 td' s3 h3 => ?_
    rw [rot_map] at h3
    have R3 := (R1.same s2).same s3
    refine ⟨_, rfl, p, _, dx, _, _, rfl, R3.ob, T.cl, T.nS, flds_starts _ _, _, rfl, _, rfl, ?_⟩
    refine noPart ?_
    refine sl_from R3.ts k0 (by rw [List.length_map]; omega) fun H4 p4 s4 h4 => ?_
    have R4 := R3.same s4
    refine ⟨_, rfl, p, _, dx, _, _, rfl, R4.ob, T.cl, T.nS, flds_starts _ _, _, rfl, _, rfl, ?_⟩
    refine sl_to R4.ts k0 (by rw [List.length_map]; omega) fun H5 p5 s5 h5 => ?_
    refine cat_any (s5 _ _ h4) h5 (by rw [List.length_drop, List.length_take, List.length_map]; have := small1000 (n := ss.length) (by omega); omega) fun H6 ts' s6 h6 => ?_
    rw [rot_map] at h6
    have h3' := s6 _ _ (s5 _ _ (s4 _ _ h3))
    refine ⟨_, rfl, _, rfl, fun x y nx ny ne => ?_⟩
    have s0 : Same H6 (upd (upd H6 y (.own x)) x (.ins T.C y [])) := fun b o e => by
      rw [upd_ne (ne_of_none e nx), upd_ne (ne_of_none e ny)]
      exact e
    refine ⟨x, y, td', ts', rot k ds, rot k ss, rfl, upd_same, s0 _ _ h3', s0 _ _ h6, R.ok.rot k, fun H7 R7 k7 => ⟨rfl, ?_⟩⟩
    exact q H7 x y td' ts' (((((s1.trans s2).trans s3).trans s4).trans s5).trans s6 |>.trans (Same.made nx ny k7)) R7
end
end Rp
namespace Rp
open PySem PySem.Spec PyProof.Rows L2 Rz Rm
theorem sum_turn (f : Int → Int) (k r : Int) : ∀ n : Nat, sumBack (fun i => f (i + k)) r n = sumBack f (r + k) n
  | 0 => rfl
  | n + 1 => by
    show sumBack (fun i => f (i + k)) r n + f (r - n + k) = sumBack f (r + k) n + f (r + k - n)
    rw [sum_turn f k r n, show r - (n : Int) + k = r + k - n by omega]
theorem max_turn (f : Int → Int) (k r : Int) : ∀ n : Nat, maxBack (fun i => f (i + k)) r n = maxBack f (r + k) n
  | 0 => by
    show f (r + k) = f (r + k)
    rfl
  | n + 1 => by
    rw [max_front, max_front, max_turn f k (r - 1) n, show r - 1 + k = r + k - 1 by omega]
theorem ch_turn (d s : Int → Int) (k r : Int) (n : Nat) (x : Int) : ch (fun i => d (i + k)) (fun i => s (i + k)) r n x = ch d s (r + k) n x := by
  unfold ch
  rw [sum_turn, sum_turn, max_turn]
theorem isEnd_turn (d s : Int → Int) (k r x e : Int) : IsEnd (fun i => d (i + k)) (fun i => s (i + k)) r x e ↔ IsEnd d s (r + k) x e := by
  unfold IsEnd
  simp only [sum_turn, ch_turn]
noncomputable def theE (p : Int → Prop) : Int := open Classical in if h : ∃ e, p e then Classical.choose h else 0
theorem E_turn (d s : Int → Int) (k r x : Int) : Rm.E (fun i => d (i + k)) (fun i => s (i + k)) r x = Rm.E d s (r + k) x := by
  exact congrArg theE (show IsEnd (fun i => d (i + k)) (fun i => s (i + k)) r x = IsEnd d s (r + k) x from funext fun e => propext (isEnd_turn d s k r x e))
theorem at_turn {l : List Int} (hl : 0 < l.length) {k : Int} (k0 : 0 ≤ k) (k1 : k < l.length) (i : Int) : at' (rot k l) i = at' l (i + k) := by
  have hN : (0 : Int) < l.length := by omega
  have j0 : 0 ≤ i % (l.length : Int) := Int.emod_nonneg _ (by omega)
  have j1 : i % (l.length : Int) < l.length := Int.emod_lt_of_pos _ hN
  have e1 : at' l (i + k) = at' l (i % (l.length : Int) + k) := by
    have := at_per l (i % (l.length : Int) + k) (i / (l.length : Int))
    rw [← this]
    have h := Int.emod_add_mul_ediv i (l.length : Int)
    rw [show i % (l.length : Int) + k + (l.length : Int) * (i / (l.length : Int)) = i + k by omega]
  have e2 : at' (rot k l) i = at' (rot k l) (i % (l.length : Int)) := by
    have := at_per (rot k l) (i % (l.length : Int)) (i / (l.length : Int))
    rw [rot_len] at this
    rw [← this]
    have h := Int.emod_add_mul_ediv i (l.length : Int)
    rw [h]
  rw [e1, e2]
  obtain ⟨j, hj⟩ : ∃ j : Nat, (j : Int) = i % (l.length : Int) := ⟨(i % (l.length : Int)).toNat, by omega⟩
  rw [← hj] at j1 ⊢
  have hr : (rot k l)[j]? = some (at' l ((j : Int) + k)) := by
    unfold rot
    by_cases c : j < l.length - k.toNat
    · rw [List.getElem?_append_left (by rw [List.length_drop]; omega), List.getElem?_drop]
      have hlt : k.toNat + j < l.length := by omega
      rw [List.getElem?_eq_getElem hlt]
      have := at_nat (l := l) (j := k.toNat + j) (List.getElem?_eq_getElem hlt)
      rw [← this, show ((k.toNat + j : Nat) : Int) = (j : Int) + k by omega]
    · rw [List.getElem?_append_right (by rw [List.length_drop]; omega), List.length_drop, List.getElem?_take, if_pos (by omega)]
      have hlt : j - (l.length - k.toNat) < l.length := by omega
      rw [List.getElem?_eq_getElem hlt]
      have h1 := at_nat (l := l) (j := j - (l.length - k.toNat)) (List.getElem?_eq_getElem hlt)
      have h2 := at_per l ((j - (l.length - k.toNat) : Nat) : Int) 1
      rw [← h1, ← h2, show (((j - (l.length - k.toNat) : Nat)) : Int) + (l.length : Int) * 1 = (j : Int) + k by omega]
  exact at_nat hr
/-- ends of the ring told from another reader on -/
theorem E_rot {ds ss : List Int} (hl : 0 < ds.length) (hs : ss.length = ds.length) {k : Int} (k0 : 0 ≤ k) (k1 : k < ds.length) (r x : Int) : Rm.E (at' (rot k ds)) (at' (rot k ss)) r x = Rm.E (at' ds) (at' ss) (r + k) x := by
  rw [show at' (rot k ds) = fun i => at' ds (i + k) from funext (at_turn hl k0 k1), show at' (rot k ss) = fun i => at' ss (i + k) from funext (at_turn (by omega) k0 (by omega)), E_turn]
theorem Cn_rot {ds ss : List Int} (hl : 0 < ds.length) (hs : ss.length = ds.length) {k : Int} (k0 : 0 ≤ k) (k1 : k < ds.length) (r D : Int) : Cn (at' (rot k ds)) (at' (rot k ss)) r D = Cn (at' ds) (at' ss) (r + k) D :=
  congrArg theE (show Cnt (at' (rot k ds)) (at' (rot k ss)) r D = Cnt (at' ds) (at' ss) (r + k) D from funext fun c => by
    unfold Cnt
    rw [E_rot hl hs k0 k1, E_rot hl hs k0 k1])
end Rp
namespace Rp
open PySem PySem.Spec PyProof.Rows L2 Rz Rm
/-! ### what is alike when the ring is told from another reader on -/
theorem mem_rot {k : Int} {l : List Int} {y : Int} (h : y ∈ l) : y ∈ rot k l := by
  unfold rot
  rw [← List.take_append_drop k.toNat l] at h
  rcases List.mem_append.mp h with h | h
  · exact List.mem_append_right _ h
  · exact List.mem_append_left _ h
theorem dys_rot {l : List Int} (D : Dys l) (k : Int) : Dys (rot k l) := ⟨by rw [rot_len]; exact D.ne, fun y h => D.d1 y (rot_mem h)⟩
theorem mx_rot {l : List Int} (D : Dys l) (k : Int) : mx (rot k l) = mx l := mx_eq (dys_rot D k) (mem_rot D.mem) fun y h => le_mx (rot_mem h)
theorem gq_rot (k : Int) (l : List Int) (b : Int) : gq (rot k l) b = gq l b := by
  unfold gq
  rw [rot_sum]
theorem pX_rot {l : List Int} (D : Dys l) (k b : Int) : pX (rot k l) b = pX l b := by
  unfold pX
  rw [rot_sum, mx_rot D, gq_rot]
theorem pY_rot {l : List Int} (D : Dys l) (k b : Int) : pY (rot k l) b = pY l b := by
  unfold pY
  rw [rot_sum, mx_rot D, gq_rot]
section
variable {ds ss : List Int} (G : Good ds ss) {k : Int} (k0 : 0 ≤ k) (k1 : k < ds.length)
include G k0 k1
theorem E_rotG (r x : Int) : Rm.E (at' (rot k ds)) (at' (rot k ss)) r x = Rm.E (at' ds) (at' ss) (r + k) x := Rp.E_rot (by have := G.l2; omega) G.ls k0 k1 r x
/-- the place of a reader -/
theorem there_is {r : Int} (r0 : 0 ≤ r) (r1 : r < ds.length) : 0 ≤ (r - k) % (ds.length : Int) ∧ (r - k) % (ds.length : Int) < ds.length ∧ ∃ t : Int, (r - k) % (ds.length : Int) + k = r + (ds.length : Int) * t := by
  refine ⟨Int.emod_nonneg _ (by omega), Int.emod_lt_of_pos _ (by omega), -((r - k) / (ds.length : Int)), ?_⟩
  have := Int.emod_add_mul_ediv (r - k) (ds.length : Int)
  rw [Int.mul_neg]
  omega
theorem E_there {r : Int} (r0 : 0 ≤ r) (r1 : r < ds.length) (x : Int) : Rm.E (at' (rot k ds)) (at' (rot k ss)) ((r - k) % (ds.length : Int)) x = Rm.E (at' ds) (at' ss) r x := by
  obtain ⟨_, _, t, ht⟩ := there_is G k0 k1 r0 r1
  obtain ⟨M, hM, hMu⟩ := G.max
  rw [E_rotG G k0 k1, ht, (G.ring hM hMu).E_per]
theorem Cn_there {r : Int} (t D : Int) : Cn (at' (rot k ds)) (at' (rot k ss)) r D = Cn (at' ds) (at' ss) (r + k) D := Cn_rot (by have := G.l2; omega) G.ls k0 k1 r D
theorem hpo_there {r : Int} (r0 : 0 ≤ r) (r1 : r < ds.length) (D : Int) : hpo (rot k ds) (rot k ss) ((r - k) % (ds.length : Int)) D = hpo ds ss r D := by
  obtain ⟨_, _, t, ht⟩ := there_is G k0 k1 r0 r1
  obtain ⟨M, hM, hMu⟩ := G.max
  have RR := G.ring hM hMu
  have l2 := G.l2
  have ls := G.ls
  unfold hpo
  rw [Cn_rot (by omega) ls k0 k1, Cn_rot (by omega) ls k0 k1, at_turn (l := ss) (by omega) k0 (by omega), at_turn (l := ds) (by omega) k0 k1, show (r - k) % (ds.length : Int) - 1 + k = (r - k) % (ds.length : Int) + k - 1 by omega, ht]
  rw [show r + (ds.length : Int) * t - 1 = r - 1 + (ds.length : Int) * t by omega, RR.cn_per, RR.cn_per, at_per ds, show r + (ds.length : Int) * t = r + (ss.length : Int) * t by rw [ls], at_per ss]
theorem rep_rot {p q m : Int} : Rep (at' (rot k ds)) (at' (rot k ss)) p q m ↔ Rep (at' ds) (at' ss) p q m := by
  constructor
  · intro h r
    have := h (r - k)
    rw [E_rotG G k0 k1, E_rotG G k0 k1, show r - k + k = r by omega] at this
    exact this
  · intro h r
    rw [E_rotG G k0 k1, E_rotG G k0 k1]
    exact h (r + k)
theorem settled_rot {n p q n' : Int} (h : SettledIs (rot k ds) (rot k ss) n p q) (h' : SettledIs ds ss n' p q) : n = n' := by
  rcases Int.lt_trichotomy n n' with z | z | z
  · rcases h'.least with e | ⟨r, _, _, e⟩
    · have := h.n0
      omega
    · exact absurd ((rep_rot G k0 k1).mp (h.all (n' - 1) (by omega)) r) e
  · exact z
  · rcases h.least with e | ⟨r, _, _, e⟩
    · have := h'.n0
      omega
    · exact absurd ((rep_rot G k0 k1).mpr (h'.all (n - 1) (by omega)) r) e
end
theorem RepIs.inj {T B M p q p' q' : Int} (h : RepIs T B M p q) (h' : RepIs T B M p' q') : p = p' ∧ q = q' := by
  rcases h with ⟨c, rfl, rfl⟩ | ⟨c, rfl, rfl⟩
  · rcases h' with ⟨_, rfl, rfl⟩ | ⟨c', _⟩
    · exact ⟨rfl, rfl⟩
    · exact absurd c c'
  · rcases h' with ⟨c', _⟩ | ⟨_, rfl, rfl⟩
    · exact absurd c' c
    · exact ⟨rfl, rfl⟩
end Rp
namespace Rp
open PySem PySem.Spec PyProof.Rows L2 Rz Rm
/-! ### meetings, their mathematics -/
/-- the stay behind -/
def nxs (ds ss : List Int) (u : Int × Int) : Int × Int := ((u.1 + 1) % (ds.length : Int), u.2 + at' ss ((u.1 + 1) % (ds.length : Int)))
noncomputable def goes (ds ss : List Int) (e : Int) (u : Int × Int) : Int × Int := if Rm.E (at' ds) (at' ss) u.1 u.2 = e then nxs ds ss u else u
/-- two books from two stays on, until the last day -/
inductive Mt (ds ss : List Int) (L : Int) : Int × Int → Int × Int → Int → Option (Int × Int) → Prop
  | done {u v : Int × Int} {D : Int} (h : L < D) : Mt ds ss L u v D none
  | hit {u v : Int × Int} {D : Int} (h : D ≤ L) (e : u.1 = v.1) : Mt ds ss L u v D (some (D, u.1))
  | step {u v : Int × Int} {D : Int} {r : Option (Int × Int)} (h : D ≤ L) (ne : u.1 ≠ v.1) (m : Mt ds ss L (goes ds ss (min (Rm.E (at' ds) (at' ss) u.1 u.2) (Rm.E (at' ds) (at' ss) v.1 v.2)) u) (goes ds ss (min (Rm.E (at' ds) (at' ss) u.1 u.2) (Rm.E (at' ds) (at' ss) v.1 v.2)) v) (min (Rm.E (at' ds) (at' ss) u.1 u.2) (Rm.E (at' ds) (at' ss) v.1 v.2)) r) : Mt ds ss L u v D r
theorem Mt.det {ds ss : List Int} {L : Int} {u v : Int × Int} {D : Int} {r r' : Option (Int × Int)} (h : Mt ds ss L u v D r) : Mt ds ss L u v D r' → r = r' := by
  induction h with
  | done h =>
    intro h'
    cases h' with
    | done _ => rfl
    | hit h2 _ => omega
    | step h2 _ _ => omega
  | hit h e =>
    intro h'
    cases h' with
    | done h2 => omega
    | hit _ _ => rfl
    | step _ ne _ => exact absurd e ne
  | step h ne m ih =>
    intro h'
    cases h' with
    | done h2 => omega
    | hit _ e => exact absurd e ne
    | step _ _ m' => exact ih m'
theorem Mt.symm {ds ss : List Int} {L : Int} {u v : Int × Int} {D : Int} {r : Option (Int × Int)} (h : Mt ds ss L u v D r) : Mt ds ss L v u D r := by
  induction h with
  | done h => exact .done h
  | hit h e =>
    rw [e]
    exact .hit h e.symm
  | step h ne m ih =>
    refine .step h (Ne.symm ne) ?_
    rw [Int.min_comm]
    exact ih
structure Sty (ds : List Int) (u : Int × Int) : Prop where
  r0 : 0 ≤ u.1
  r1 : u.1 < ds.length
  x0 : 0 ≤ u.2
theorem nxs_ok {ds ss : List Int} (G : Good ds ss) {u : Int × Int} (h : Sty ds u) : Sty ds (nxs ds ss u) := by
  have l2 := G.l2
  obtain ⟨M, hM, hMu⟩ := G.max
  have RR := G.ring hM hMu
  have s0 := RR.s0 ((u.1 + 1) % (ds.length : Int))
  have x0 := h.x0
  exact ⟨Int.emod_nonneg _ (by omega), Int.emod_lt_of_pos _ (by omega), by show 0 ≤ u.2 + _; omega⟩
theorem goes_ok {ds ss : List Int} (G : Good ds ss) {u : Int × Int} (h : Sty ds u) (e : Int) : Sty ds (goes ds ss e u) := by
  unfold goes
  split
  · exact nxs_ok G h
  · exact h
theorem nxs_later {ds ss : List Int} (G : Good ds ss) {u : Int × Int} (h : Sty ds u) : Rm.E (at' ds) (at' ss) u.1 u.2 < Rm.E (at' ds) (at' ss) (nxs ds ss u).1 (nxs ds ss u).2 := by
  have l2 := G.l2
  obtain ⟨M, hM, hMu⟩ := G.max
  have RR := G.ring hM hMu
  have x0 := h.x0
  have d0 := RR.d1 ((u.1 + 1) % (ds.length : Int))
  have h1 := RR.from ((u.1 + 1) % (ds.length : Int)) (x := u.2 + at' ss ((u.1 + 1) % (ds.length : Int))) (by omega)
  rw [show u.2 + at' ss ((u.1 + 1) % (ds.length : Int)) - at' ss ((u.1 + 1) % (ds.length : Int)) = u.2 by omega] at h1
  have h2 : Rm.E (at' ds) (at' ss) ((u.1 + 1) % (ds.length : Int) - 1) u.2 = Rm.E (at' ds) (at' ss) u.1 u.2 := by
    have e1 := Int.emod_add_mul_ediv (u.1 + 1) (ds.length : Int)
    have e2 := RR.E_per ((u.1 + 1) % (ds.length : Int) - 1) u.2 ((u.1 + 1) / (ds.length : Int))
    rw [← e2]
    rw [show (u.1 + 1) % (ds.length : Int) - 1 + (ds.length : Int) * ((u.1 + 1) / (ds.length : Int)) = u.1 by omega]
  show Rm.E (at' ds) (at' ss) u.1 u.2 < Rm.E (at' ds) (at' ss) ((u.1 + 1) % (ds.length : Int)) (u.2 + at' ss ((u.1 + 1) % (ds.length : Int)))
  omega
theorem goes_later {ds ss : List Int} (G : Good ds ss) {u : Int × Int} (h : Sty ds u) {e : Int} (he : e ≤ Rm.E (at' ds) (at' ss) u.1 u.2) : e < Rm.E (at' ds) (at' ss) (goes ds ss e u).1 (goes ds ss e u).2 := by
  unfold goes
  by_cases c : Rm.E (at' ds) (at' ss) u.1 u.2 = e
  · rw [if_pos c]
    have := nxs_later G h
    omega
  · rw [if_neg c]
    omega
/-- told from another reader on -/
def tur (ds : List Int) (k : Int) (u : Int × Int) : Int × Int := ((u.1 - k) % (ds.length : Int), u.2)
def tur2 (ds : List Int) (k : Int) (u : Int × Int) : Int × Int := (u.1, (u.2 - k) % (ds.length : Int))
section
variable {ds ss : List Int} (G : Good ds ss) {k : Int} (k0 : 0 ≤ k) (k1 : k < ds.length)
include G k0 k1
theorem E_tur {u : Int × Int} (h : Sty ds u) : Rm.E (at' (rot k ds)) (at' (rot k ss)) (tur ds k u).1 (tur ds k u).2 = Rm.E (at' ds) (at' ss) u.1 u.2 := E_there G k0 k1 h.r0 h.r1 u.2
theorem tur_inj {u v : Int × Int} (h : Sty ds u) (h' : Sty ds v) (e : (tur ds k u).1 = (tur ds k v).1) : u.1 = v.1 := by
  have a0 := h.r0
  have a1 := h.r1
  have b0 := h'.r0
  have b1 := h'.r1
  have e' : (u.1 - k) % (ds.length : Int) = (v.1 - k) % (ds.length : Int) := e
  have e1 := Int.emod_add_mul_ediv (u.1 - k) (ds.length : Int)
  have e2 := Int.emod_add_mul_ediv (v.1 - k) (ds.length : Int)
  have e3 : (ds.length : Int) * ((u.1 - k) / (ds.length : Int) - (v.1 - k) / (ds.length : Int)) = u.1 - v.1 := by
    rw [Int.mul_sub]
    omega
  generalize (u.1 - k) / (ds.length : Int) - (v.1 - k) / (ds.length : Int) = t at e3
  rcases Int.lt_trichotomy t 0 with z | z | z
  · have : (ds.length : Int) * t ≤ (ds.length : Int) * (-1) := Int.mul_le_mul_of_nonneg_left (by omega) (by omega)
    omega
  · rw [z, Int.mul_zero] at e3
    omega
  · have : (ds.length : Int) * 1 ≤ (ds.length : Int) * t := Int.mul_le_mul_of_nonneg_left (by omega) (by omega)
    omega
theorem nxs_tur (u : Int × Int) : nxs (rot k ds) (rot k ss) (tur ds k u) = tur ds k (nxs ds ss u) := by
  have l2 := G.l2
  have ls := G.ls
  have e1 : ((u.1 - k) % (ds.length : Int) + 1) % (ds.length : Int) = ((u.1 + 1) % (ds.length : Int) - k) % (ds.length : Int) := by
    have a := Int.emod_add_mul_ediv (u.1 - k) (ds.length : Int)
    have b := Int.emod_add_mul_ediv (u.1 + 1) (ds.length : Int)
    rw [show (u.1 - k) % (ds.length : Int) + 1 = ((u.1 + 1) % (ds.length : Int) - k) + (ds.length : Int) * ((u.1 + 1) / (ds.length : Int) - (u.1 - k) / (ds.length : Int)) by rw [Int.mul_sub]; omega, Int.add_mul_emod_self_left]
  unfold nxs tur
  rw [rot_len, e1]
  refine Prod.ext rfl ?_
  show u.2 + at' (rot k ss) (((u.1 + 1) % (ds.length : Int) - k) % (ds.length : Int)) = u.2 + at' ss ((u.1 + 1) % (ds.length : Int))
  have c := Int.emod_add_mul_ediv ((u.1 + 1) % (ds.length : Int) - k) (ds.length : Int)
  rw [at_turn (l := ss) (by omega) k0 (by omega)]
  have p := at_per ss (((u.1 + 1) % (ds.length : Int) - k) % (ds.length : Int) + k) (((u.1 + 1) % (ds.length : Int) - k) / (ds.length : Int))
  rw [ls, show ((u.1 + 1) % (ds.length : Int) - k) % (ds.length : Int) + k + (ds.length : Int) * (((u.1 + 1) % (ds.length : Int) - k) / (ds.length : Int)) = (u.1 + 1) % (ds.length : Int) by omega] at p
  rw [p]
theorem goes_tur {u : Int × Int} (h : Sty ds u) (e : Int) : goes (rot k ds) (rot k ss) e (tur ds k u) = tur ds k (goes ds ss e u) := by
  unfold goes
  rw [E_tur G k0 k1 h]
  split
  · exact nxs_tur G k0 k1 u
  · rfl
theorem mt_rot {L : Int} {u v : Int × Int} {D : Int} {r : Option (Int × Int)} (h : Mt ds ss L u v D r) (hu : Sty ds u) (hv : Sty ds v) : Mt (Rp.rot k ds) (Rp.rot k ss) L (tur ds k u) (tur ds k v) D (r.map (tur2 ds k)) := by
  induction h with
  | done h => exact .done h
  | @hit u v D h e =>
    exact .hit h (show (u.1 - k) % (ds.length : Int) = (v.1 - k) % (ds.length : Int) by rw [e])
  | @step u v D r h ne m ih =>
    refine .step h (fun e => ne (tur_inj G k0 k1 hu hv e)) ?_
    rw [E_tur G k0 k1 hu, E_tur G k0 k1 hv, goes_tur G k0 k1 hu, goes_tur G k0 k1 hv]
    exact ih (goes_ok G hu _) (goes_ok G hv _)
end
/-- where a book is at first -/
structure Fst (ds ss : List Int) (b : Int) (u : Int × Int) : Prop where
  r0 : 0 ≤ u.1
  r1 : u.1 < ds.length
  x0 : 0 ≤ u.2
  x1 : u.2 < at' ss u.1
  e : b = (ss.take u.1.toNat).sum + u.2
theorem Fst.sty {ds ss : List Int} {b : Int} {u : Int × Int} (h : Fst ds ss b u) : Sty ds u := ⟨h.r0, h.r1, h.x0⟩
theorem take_mono' {ss : List Int} (h0 : ∀ y ∈ ss, 0 ≤ y) : ∀ {i j : Nat}, i ≤ j → (ss.take i).sum ≤ (ss.take j).sum := by
  intro i j hij
  have e : ss.take i = (ss.take j).take i := by rw [List.take_take, Nat.min_eq_left hij]
  have h2 : ((ss.take j).take i).sum + ((ss.take j).drop i).sum = (ss.take j).sum := by rw [← List.sum_append, List.take_append_drop]
  have h3 := mem_le_sum.sum_nonneg' (l := (ss.take j).drop i) fun y hy => h0 y (List.mem_of_mem_take (List.mem_of_mem_drop hy))
  rw [e]
  omega
theorem take_step' {ss : List Int} {i : Nat} (hi : i < ss.length) : (ss.take (i + 1)).sum = (ss.take i).sum + at' ss (i : Int) := by
  have h := List.getElem?_eq_getElem hi
  have := at_nat h
  rw [List.take_add_one, h, List.sum_append, this]
  simp
theorem Fst.inj {ds ss : List Int} (G : Good ds ss) {b : Int} {u v : Int × Int} (h : Fst ds ss b u) (h' : Fst ds ss b v) : u = v := by
  have h0 : ∀ y ∈ ss, 0 ≤ y := fun y hy => (G.s0 y hy).1
  have ls := G.ls
  obtain ⟨a0, a1, a2, a3, a4⟩ := h
  obtain ⟨b0, b1, b2, b3, b4⟩ := h'
  have s1 := take_step' (ss := ss) (i := u.1.toNat) (by omega)
  have s2 := take_step' (ss := ss) (i := v.1.toNat) (by omega)
  rw [show ((u.1.toNat : Nat) : Int) = u.1 by omega] at s1
  rw [show ((v.1.toNat : Nat) : Int) = v.1 by omega] at s2
  have e : u.1 = v.1 := by
    rcases Int.lt_trichotomy u.1 v.1 with z | z | z
    · have := take_mono' h0 (show u.1.toNat + 1 ≤ v.1.toNat by omega)
      omega
    · exact z
    · have := take_mono' h0 (show v.1.toNat + 1 ≤ u.1.toNat by omega)
      omega
  refine Prod.ext e ?_
  rw [e] at a4
  omega
theorem Fst.in {ds ss : List Int} (G : Good ds ss) {b : Int} {u : Int × Int} (h : Fst ds ss b u) : 0 ≤ b ∧ b < ss.sum := by
  have h0 : ∀ y ∈ ss, 0 ≤ y := fun y hy => (G.s0 y hy).1
  have ls := G.ls
  obtain ⟨a0, a1, a2, a3, a4⟩ := h
  have s1 := take_step' (ss := ss) (i := u.1.toNat) (by omega)
  rw [show ((u.1.toNat : Nat) : Int) = u.1 by omega] at s1
  have m1 := take_mono' h0 (show 0 ≤ u.1.toNat by omega)
  have m2 := take_mono' h0 (show u.1.toNat + 1 ≤ ss.length by omega)
  rw [List.take_length] at m2
  rw [List.take_zero, List.sum_nil] at m1
  omega
theorem fst_rot {ds ss : List Int} (G : Good ds ss) {k : Int} (k0 : 0 ≤ k) (k1 : k < ds.length) {b : Int} {u : Int × Int} (h : Fst ds ss b u) : Fst (Rp.rot k ds) (Rp.rot k ss) ((b - (ss.take k.toNat).sum) % ss.sum) (tur ds k u) := by
  have h0 : ∀ y ∈ ss, 0 ≤ y := fun y hy => (G.s0 y hy).1
  have hb := h.in G
  obtain ⟨a0, a1, a2, a3, a4⟩ := h
  have l2 := G.l2
  have ls := G.ls
  have hj0 := Int.emod_nonneg (u.1 - k) (show (ds.length : Int) ≠ 0 by omega)
  have hj1 := Int.emod_lt_of_pos (u.1 - k) (show (0 : Int) < ds.length by omega)
  have hat : at' (Rp.rot k ss) ((u.1 - k) % (ds.length : Int)) = at' ss u.1 := by
    rw [at_turn (l := ss) (by omega) k0 (by omega)]
    have c := Int.emod_add_mul_ediv (u.1 - k) (ds.length : Int)
    have p := at_per ss ((u.1 - k) % (ds.length : Int) + k) ((u.1 - k) / (ds.length : Int))
    rw [ls, show (u.1 - k) % (ds.length : Int) + k + (ds.length : Int) * ((u.1 - k) / (ds.length : Int)) = u.1 by omega] at p
    rw [p]
  have tot : (ss.take k.toNat).sum + (ss.drop k.toNat).sum = ss.sum := by rw [← List.sum_append, List.take_append_drop]
  have dropsum : ∀ m : Nat, ((ss.drop k.toNat).take m).sum = (ss.take (k.toNat + m)).sum - (ss.take k.toNat).sum := fun m => by
    have e : ss.take (k.toNat + m) = ss.take k.toNat ++ (ss.drop k.toNat).take m := List.take_add
    rw [e, List.sum_append]
    omega
  refine ⟨hj0, by rw [rot_len]; exact hj1, a2, by show u.2 < _; rw [show (tur ds k u).1 = (u.1 - k) % (ds.length : Int) from rfl, hat]; exact a3, ?_⟩
  show (b - (ss.take k.toNat).sum) % ss.sum = ((Rp.rot k ss).take ((u.1 - k) % (ds.length : Int)).toNat).sum + u.2
  by_cases c : k ≤ u.1
  · have ej : (u.1 - k) % (ds.length : Int) = u.1 - k := Int.emod_eq_of_lt (by omega) (by omega)
    have m1 := take_mono' h0 (show k.toNat ≤ u.1.toNat by omega)
    have m2 := take_mono' h0 (show 0 ≤ k.toNat by omega)
    rw [List.take_zero, List.sum_nil] at m2
    rw [ej, Int.emod_eq_of_lt (by omega) (by omega)]
    unfold Rp.rot
    rw [List.take_append_of_le_length (by rw [List.length_drop]; omega), dropsum, show k.toNat + (u.1 - k).toNat = u.1.toNat by omega]
    omega
  · have ej : (u.1 - k) % (ds.length : Int) = u.1 - k + ds.length := by
      rw [show u.1 - k = (u.1 - k + ds.length) + (ds.length : Int) * (-1) by rw [Int.mul_neg]; omega, Int.add_mul_emod_self_left, Int.emod_eq_of_lt (by omega) (by omega)]
      omega
    have s1 := take_step' (ss := ss) (i := u.1.toNat) (by omega)
    rw [show ((u.1.toNat : Nat) : Int) = u.1 by omega] at s1
    have m1 := take_mono' h0 (show u.1.toNat + 1 ≤ k.toNat by omega)
    have m2 := take_mono' h0 (show k.toNat ≤ ss.length by omega)
    rw [List.take_length] at m2
    have eb : (b - (ss.take k.toNat).sum) % ss.sum = b - (ss.take k.toNat).sum + ss.sum := by
      rw [show b - (ss.take k.toNat).sum = (b - (ss.take k.toNat).sum + ss.sum) + ss.sum * (-1) by rw [Int.mul_neg]; omega, Int.add_mul_emod_self_left, Int.emod_eq_of_lt (by omega) (by omega)]
      omega
    rw [ej, eb]
    unfold Rp.rot
    rw [show (u.1 - k + (ds.length : Int)).toNat = (ss.drop k.toNat).length + u.1.toNat by rw [List.length_drop]; omega, List.take_length_add_append, List.sum_append, List.take_take, Nat.min_eq_left (by omega)]
    omega
/-- the day from which on nothing new comes -/
def Lst (ds ss : List Int) (L : Int) : Prop := ∃ n p q M mE : Int, M ∈ ds ∧ (∀ y ∈ ds, y ≤ M) ∧ RepIs ds.sum ss.sum M p q ∧ SettledIs ds ss n p q ∧ (∃ r : Int, 0 ≤ r ∧ r < ds.length ∧ Rm.E (at' ds) (at' ss) r n = mE) ∧ (∀ r : Int, 0 ≤ r → r < ds.length → Rm.E (at' ds) (at' ss) r n ≤ mE) ∧ L = mE + q * (ss.sum / p)
theorem lst_rot {ds ss : List Int} (G : Good ds ss) {k : Int} (k0 : 0 ≤ k) (k1 : k < ds.length) {L L' : Int} (h : Lst ds ss L) (h' : Lst (Rp.rot k ds) (Rp.rot k ss) L') : L = L' := by
  obtain ⟨n, p, q, M, mE, hM, hMu, hr, hs, ⟨r1, a1, a2, a3⟩, au, e⟩ := h
  obtain ⟨n', p', q', M', mE', hM', hMu', hr', hs', ⟨r2, b1, b2, b3⟩, bu, e'⟩ := h'
  have eM : M' = M := by rw [← mx_eq (dys_rot G.dys k) hM' hMu', ← mx_eq G.dys hM hMu, mx_rot G.dys]
  rw [rot_sum, rot_sum, eM] at hr'
  obtain ⟨e1, e2⟩ := RepIs.inj hr hr'
  rw [← e1, ← e2] at hs' e'
  have e3 := settled_rot G k0 k1 hs' hs
  rw [e3] at b3 bu
  rw [rot_len] at b2 bu
  rw [rot_sum] at e'
  obtain ⟨M2, hM2, hMu2⟩ := G.max
  have RR := G.ring hM2 hMu2
  have l2 := G.l2
  have c1 := bu ((r1 - k) % (ds.length : Int)) (Int.emod_nonneg _ (by omega)) (Int.emod_lt_of_pos _ (by omega))
  rw [E_there G k0 k1 a1 a2] at c1
  have c2 := au ((r2 + k) % (ds.length : Int)) (Int.emod_nonneg _ (by omega)) (Int.emod_lt_of_pos _ (by omega))
  rw [RR.E_mod] at c2
  rw [E_rotG G k0 k1] at b3
  omega
theorem lst_inj {ds ss : List Int} (G : Good ds ss) {L L' : Int} (h : Lst ds ss L) (h' : Lst ds ss L') : L = L' := by
  have l2 := G.l2
  have e : ∀ l : List Int, Rp.rot 0 l = l := fun l => by
    unfold Rp.rot
    simp
  have h2 := lst_rot G (k := 0) (Int.le_refl _) (by omega) (L := L) (L' := L') h
  rw [e, e] at h2
  exact h2 h'
end Rp
namespace Rp
open PySem PySem.Spec PyProof.Rows L2 Rz Rm
section
variable {P : Program} {w : World} {K : PySem.W.Frag} {mg : Str → Option Value} {base : Heap}
/-! ### check_book -/
def spCkB (C : Addr) : Sp := fun vs H Q _ => ∃ p dx td ts ds ss, ∃ b : Int, vs = [.ref p, .int b] ∧ RingAt C H p dx td ts ds ss ∧ 0 ≤ b ∧ b < ss.sum ∧ Q .non H
theorem ok_ckb (T : Tx K mg) : FnOk P w K mg base CX0 3 T.a_check_book T.d_check_book P_check_book (spCkB T.C) := by
  refine T.F_check_book.ok sc_check_book (fun vs H Q E h => ?_) (fun cdv A outer s H vs Q E hr h => ?_)
  · obtain ⟨p, dx, td, ts, ds, ss, b, rfl, _⟩ := h
    rfl
  · obtain ⟨p, dx, td, ts, ds, ss, b, rfl, R, b0, b1, q⟩ := h
    refine ⟨_, pss_one (ps_if (pt_not (pt_val (pe_call (ok_lies T) hr (by rfl) T.g_lies_between T.F_lies_between.kp T.b_lies_between .nil pass0 (pa_cons (pv 1) (pa_cons pe_int (pa_cons (pe_op op_sub (pe_prop (pv 0) T.cl T.q_rbooks (ok_books T) hr T.b_rbooks .nil pass0 rfl) pe_int) pa_nil)))))) (pss_one ps_never) pss_nil), ?_⟩
    refine ⟨_, rfl, _, rfl, p, dx, _, rfl, R.ob, p, dx, td, ts, ds, ss, rfl, R, _, _, rfl, rfl, b, 0, ss.sum - 1, rfl, _, rfl, ?_⟩
    rw [in_lim b0 (show b ≤ ss.sum - 1 by omega)]
    exact iteF q
/-! ### reader_after -/
def spAfter (C : Addr) : Sp := fun vs H Q _ => ∃ p dx td ts ds ss, ∃ r : Int, vs = [.ref p, .int r] ∧ RingAt C H p dx td ts ds ss ∧ Q (.int ((r + 1) % (ds.length : Int))) H
theorem ok_after (T : Tx K mg) : FnOk P w K mg base CX0 3 T.a_reader_after T.d_reader_after P_reader_after (spAfter T.C) := by
  refine T.F_reader_after.ok sc_reader_after (fun vs H Q E h => ?_) (fun cdv A outer s H vs Q E hr h => ?_)
  · obtain ⟨p, dx, td, ts, ds, ss, r, rfl, _⟩ := h
    rfl
  · obtain ⟨p, dx, td, ts, ds, ss, r, rfl, R, q⟩ := h
    have l2 := R.ok.l2
    have l8 := R.ok.l8
    refine ⟨_, pss_one (ps_ret (pe_op op_mod (pe_callTy call_int1 (by rfl) T.z_int (by decide +kernel) (pa_cons (pe_op op_add (pv 1) pe_int) pa_nil))
      (pe_callB (call_lenI T.lenC T.lenF ((ok_len T).raw T.b_rlen .nil) hr pass0) (by rfl) T.z_len PySem.boot_len (pa_cons (pv 0) pa_nil)))), ?_⟩
    exact ⟨_, rfl, _, _, rfl, rfl, .inl ⟨_, rfl, _, rfl, p, dx, _, rfl, R.ob, p, dx, td, ts, ds, ss, rfl, R, _, rfl, by omega, by omega, _, _, rfl, rfl, by show (0 : Int) < ds.length; omega, q⟩⟩
/-! ### next_stay -/
def spNxS (C : Addr) : Sp := fun vs H Q _ => ∃ p dx td ts ds ss, ∃ (a : Addr) (u : Int × Int), vs = [.ref p, .ref a] ∧ RingAt C H p dx td ts ds ss ∧ H a = some (.tup [.int u.1, .int u.2]) ∧ ∀ H' b, Same H H' → H' b = some (.tup [.int (nxs ds ss u).1, .int (nxs ds ss u).2]) → Q (.ref b) H'
theorem ok_nxs (T : Tx K mg) : FnOk P w K mg base CX0 4 T.a_next_stay T.d_next_stay P_next_stay (spNxS T.C) := by
  refine T.F_next_stay.ok sc_next_stay (fun vs H Q E h => ?_) (fun cdv A outer s H vs Q E hr h => ?_)
  · obtain ⟨p, dx, td, ts, ds, ss, a, u, rfl, _⟩ := h
    rfl
  · obtain ⟨p, dx, td, ts, ds, ss, a, ⟨r, x⟩, rfl, R, ha, q⟩ := h
    simp only at ha
    have hr2 : Room 2 _ := hr.mono (by decide)
    have nd := sc_next_stay.nd
    have l2 := R.ok.l2
    have ls := R.ok.ls
    have j0 := Int.emod_nonneg (r + 1) (show (ds.length : Int) ≠ 0 by omega)
    have j1 := Int.emod_lt_of_pos (r + 1) (show (0 : Int) < ds.length by omega)
    refine ⟨_, pss_cons (ps_asg (pv 1) (pg_tup rfl (pgs_cons (pg_name (i := 2) nd rfl (.inl rfl)) (pgs_cons (pg_name (i := 3) nd rfl (.inl rfl)) pgs_nil))))
      (pss_cons (ps_set (i := 4) nd rfl (.inl rfl) (pe_call (ok_after T) hr (by rfl) T.g_reader_after T.F_reader_after.kp T.b_reader_after .nil pass0 (pa_cons (pv 0) (pa_cons (pv 2) pa_nil))))
      (pss_one (ps_ret (pe_tup (pa_cons (pv 4) (pa_cons (pe_op op_add (pv 3) (pe_ix ix_tup (pe_prop (pv 0) T.cl T.q_rstarts (ok_starts T) hr2 T.b_rstarts .nil pass0 rfl) (pv 4) (fun _ _ => rfl))) pa_nil)))))), ?_⟩
    refine ⟨.ref a, rfl, a, _, rfl, .of ha, rfl, _, _, rfl, _, _, rfl, rfl, ?_⟩
    refine ⟨.ref p, rfl, .int r, rfl, p, dx, td, ts, ds, ss, r, rfl, R, ?_⟩
    refine ⟨_, rfl, _, rfl, .ref p, rfl, p, dx, _, rfl, R.ob, p, dx, td, ts, ds, ss, rfl, R, _, rfl, ts, _, _, _, rfl, rfl, .of R.ts, at_ix (by omega) (by omega), _, _, rfl, rfl, (by show 2 ≤ sizeLine; decide), fun b hb => ?_⟩
    exact q _ b (same_upd hb) upd_same
/-! ### first_stay -/
def spFsS (C : Addr) : Sp := fun vs H Q _ => ∃ p dx td ts ds ss, ∃ b : Int, vs = [.ref p, .int b] ∧ RingAt C H p dx td ts ds ss ∧ 0 ≤ b ∧ b < ss.sum ∧ ∀ H' t (u : Int × Int), Same H H' → H' t = some (.tup [.int u.1, .int u.2]) → Fst ds ss b u → Q (.ref t) H'
theorem ok_fst (T : Tx K mg) : FnOk P w K mg base CX0 3 T.a_first_stay T.d_first_stay P_first_stay (spFsS T.C) := by
  refine T.F_first_stay.ok sc_first_stay (fun vs H Q E h => ?_) (fun cdv A outer s H vs Q E hr h => ?_)
  · obtain ⟨p, dx, td, ts, ds, ss, b, rfl, _⟩ := h
    rfl
  · obtain ⟨p, dx, td, ts, ds, ss, b, rfl, R, b0, b1, q⟩ := h
    have nd := sc_first_stay.nd
    have ls := R.ok.ls
    have h0 : ∀ y ∈ ss, 0 ≤ y := fun y hy => (R.ok.s0 y hy).1
    refine ⟨_, pss_cons (ps_set (i := 2) nd rfl (.inl rfl) pe_int)
      (pss_cons (ps_while PassesOwn.never (pt_cmpR op_ge (pv 1) (pe_ix ix_tup (pe_prop (pv 0) T.cl T.q_rstarts (ok_starts T) hr T.b_rstarts .nil pass0 rfl) (pv 2) (fun _ _ => rfl)) (nomark _))
        (pss_cons (ps_aug (i := 1) nd rfl (.inl rfl) (pe_ix ix_tup (pe_prop (pv 0) T.cl T.q_rstarts (ok_starts T) hr T.b_rstarts .nil pass0 rfl) (pv 2) (fun _ _ => rfl)) ip_sub)
        (pss_one (ps_aug (i := 2) nd rfl (.inl rfl) pe_int ip_add))))
      (pss_one (ps_ret (pe_tup (pa_cons (pv 2) (pa_cons (pv 1) pa_nil)))))), ?_⟩
    refine ⟨fun m σ H' => H' = H ∧ ∃ (i : Nat) (x : Int), m = ss.length - i ∧ i < ss.length ∧ 0 ≤ x ∧ b = (ss.take i).sum + x ∧ σ = [some (.ref p), some (.int x), some (.int (i : Int))],
      ⟨ss.length - 0, rfl, 0, b, rfl, by have := R.ok.l2; omega, b0, by simp, rfl⟩, ?_⟩
    rintro m σ H7 ⟨rfl, i, x, rfl, hi, x0, e, rfl⟩
    have st := take_step' hi
    have hix : atI (ss.map V.int) (i : Int) = some (.int (at' ss (i : Int))) := at_ix (by omega) (by omega)
    refine ⟨_, rfl, _, rfl, p, dx, _, rfl, R.ob, p, dx, td, ts, ds, ss, rfl, R, _, rfl, ts, _, _, _, rfl, rfl, .of R.ts, hix, _, _, rfl, rfl, _, rfl, ?_⟩
    by_cases hc : at' ss (i : Int) ≤ x
    · rw [decide_eq_true hc]
      have hi2 : i + 1 < ss.length := by
        rcases Nat.lt_or_ge (i + 1) ss.length with z | z
        · exact z
        · have ei : i + 1 = ss.length := by omega
          rw [ei, List.take_length] at st
          omega
      refine iteT ⟨fun σ' H' => H' = H7 ∧ σ' = [some (.ref p), some (.int (x - at' ss (i : Int))), some (.int ((i : Int) + 1))], fun σ' H' ⟨e1, e2⟩ => ⟨ss.length - (i + 1), by omega, e1, i + 1, x - at' ss (i : Int), rfl, hi2, by omega, by omega, by rw [e2, show ((i + 1 : Nat) : Int) = (i : Int) + 1 by omega]⟩, ?_⟩
      exact ⟨_, rfl, _, rfl, p, dx, _, rfl, R.ob, p, dx, td, ts, ds, ss, rfl, R, _, rfl, ts, _, _, _, rfl, rfl, .of R.ts, hix, _, _, rfl, rfl, _, rfl, _, _, rfl, rfl, rfl, rfl⟩
    · rw [decide_eq_false hc]
      refine iteF ⟨_, rfl, _, rfl, (by show 2 ≤ sizeLine; decide), fun t ht => ?_⟩
      exact q _ t ((i : Int), x) (same_upd ht) upd_same ⟨by show (0 : Int) ≤ (i : Int); omega, by show (i : Int) < _; omega, x0, by show x < at' ss (i : Int); omega, by show b = (ss.take (i : Int).toNat).sum + x; rw [Int.toNat_natCast]; exact e⟩
/-! ### last_new_day -/
def spLnd (C : Addr) : Sp := fun vs H Q _ => ∃ p dx td ts ds ss, vs = [.ref p] ∧ RingAt C H p dx td ts ds ss ∧ ∀ H' L, Same H H' → Lst ds ss L → Q (.int L) H'
theorem ok_lnd (T : Tx K mg) : FnOk P w K mg base CX0 6 T.a_last_new_day T.d_last_new_day P_last_new_day (spLnd T.C) := by
  refine T.F_last_new_day.ok sc_last_new_day (fun vs H Q E h => ?_) (fun cdv A outer s H vs Q E hr h => ?_)
  · obtain ⟨p, dx, td, ts, ds, ss, rfl, _⟩ := h
    rfl
  · obtain ⟨p, dx, td, ts, ds, ss, rfl, R, q⟩ := h
    have hr3 : Room 3 _ := hr.mono (by decide)
    have hr2 : Room 2 _ := hr.mono (by decide)
    have nd := sc_last_new_day.nd
    have l2 := R.ok.l2
    have l8 := R.ok.l8
    have b1 := R.ok.b1
    have b12 := R.ok.b12
    refine ⟨_, pss_cons (ps_asg (pe_call (ok_settled T) hr (by rfl) T.g_settled T.F_settled.kp T.b_settled .nil pass0 (pa_cons (pv 0) pa_nil)) (pg_tup rfl (pgs_cons (pg_name (i := 1) nd rfl (.inr rfl)) (pgs_cons (pg_name (i := 2) nd rfl (.inl rfl)) (pgs_cons (pg_name (i := 3) nd rfl (.inl rfl)) pgs_nil)))))
      (pss_cons (ps_set (i := 4) nd rfl (.inl rfl) (pe_callB (cr_max rfl) (by rfl) T.z_max (by decide +kernel) (pa_cons (pe_lc (own := [("reader", 5)]) rfl nd (pi_range1 (by rfl) T.z_range (pa_cons (pe_callB (call_lenI T.lenC T.lenF ((ok_len T).raw T.b_rlen .nil) hr2 pass0) (by rfl) T.z_len PySem.boot_len (pa_cons (pv 0) pa_nil)) pa_nil)) (blkOk_by (N := N_last_new_day) (sc := defScope s_last_new_day) (by decide +kernel))
        (fun _ _ _ _ _ => pg_name (i := 5) nd rfl (.inl rfl)) (fun _ _ _ _ _ => pts_nil)
        (fun _ _ _ _ _ => pe_call (ok_end T) hr3 (by rfl) T.g_end_day T.F_end_day.kp T.b_end_day .nil pass0 (pa_cons (pv 0) (pa_cons (pv 5) (pa_cons (pv 1) pa_nil))))) pa_nil)))
      (pss_one (ps_ret (pe_op op_add (pv 4) (pe_op op_mul (pv 3) (pe_op op_fdiv (pe_prop (pv 0) T.cl T.q_rbooks (ok_books T) hr2 T.b_rbooks .nil pass0 rfl) (pv 2))))))), ?_⟩
    refine ⟨_, rfl, p, dx, td, ts, ds, ss, rfl, R, fun M hM hMu H1 t1 n pp qq s1 ht1 hrep hset => ⟨t1, _, rfl, .of ht1, rfl, _, _, rfl, _, _, rfl, _, _, rfl, rfl, ?_⟩⟩
    have R1 := R.same s1
    have n0 := hset.n0
    have hT := sum_bounds R.ok.d1
    have hM30 := R.ok.d1 M hM
    have pq : 1 ≤ pp ∧ pp ≤ 12 ∧ 1 ≤ qq ∧ qq ≤ 240 := by
      rcases hrep with ⟨_, rfl, rfl⟩ | ⟨_, rfl, rfl⟩ <;> omega
    refine ⟨_, rfl, p, dx, _, rfl, R1.ob, p, dx, td, ts, ds, ss, rfl, R1, (ds.length : Int), rfl, by omega, by omega, (ds.length : Int), rfl, by omega, by omega, fun D hD => lc_range (lo := 0) (n := ((ds.length : Int)).toNat)
      (fun i H' => H' D = some (.lst (((List.range i).map fun (r : Nat) => Rm.E (at' ds) (at' ss) (r : Int) n).map V.int)) ∧ Same H1 H') ?_ ?_ ?_⟩
    · exact ⟨by rw [upd_same]; rfl, same_upd hD⟩
    · rintro i H2 hi ⟨hacc, s2⟩
      have R2 := R1.same s2
      refine ⟨rfl, lc_keep ⟨_, rfl, _, rfl, _, rfl, p, dx, td, ts, ds, ss, 0 + (i : Int), n, rfl, R2, by omega, by omega, n0, ?_⟩⟩
      refine ⟨_, hacc, by rw [List.length_map, List.length_map, List.length_range]; exact small1000 (by omega), ?_, ?_⟩
      · have ev : ((List.range (i + 1)).map fun (r : Nat) => Rm.E (at' ds) (at' ss) (r : Int) n) = ((List.range i).map fun (r : Nat) => Rm.E (at' ds) (at' ss) (r : Int) n) ++ [Rm.E (at' ds) (at' ss) (i : Int) n] := by
          rw [List.range_succ, List.map_append]
          rfl
        rw [upd_same, map_snoc, ev, show (0 : Int) + (i : Int) = i by omega]
      · exact fun b x e => by
          rw [upd_ne (ne_of_none e hD)]
          exact s2 b x e
    · rintro H2 ⟨hacc, s2⟩
      have R2 := R1.same s2
      rw [Int.toNat_natCast] at hacc
      refine ⟨D, _, rfl, .of hacc, by rw [List.length_map, List.length_range]; omega, fun mE hm hmu => ?_⟩
      refine ⟨_, rfl, _, rfl, _, rfl, p, dx, _, rfl, R2.ob, p, dx, td, ts, ds, ss, rfl, R2, _, rfl, _, _, rfl, rfl, ⟨by omega, by omega⟩, _, _, rfl, rfl, .inl ⟨by omega, by omega⟩, _, _, rfl, rfl, ?_⟩
      refine q H2 _ (s1.trans s2) ⟨n, pp, qq, M, mE, hM, hMu, hrep, hset, ?_, fun r r0 r1 => ?_, rfl⟩
      · obtain ⟨r, hr1, hr2⟩ := List.mem_map.mp hm
        have := List.mem_range.mp hr1
        exact ⟨(r : Int), by omega, by omega, hr2⟩
      · refine hmu _ (List.mem_map.mpr ⟨r.toNat, List.mem_range.mpr (by omega), ?_⟩)
        rw [show ((r.toNat : Nat) : Int) = r by omega]
end
end Rp
namespace Rp
open PySem PySem.Spec PyProof.Rows L2 Rz Rm
/-- a result that stands in H -/
def Res (H : Hp) (v : V) : Option (Int × Int) → Prop
  | none => v = .non
  | some (d, j) => ∃ t, v = .ref t ∧ H t = some (.tup [.int d, .int j])
theorem pg_two {X : Cx} {K : PySem.W.Frag} {x y : Str} {p1 p2 pos : Pos} {k i j : Nat} (hc : X.calm = true) (hN : X.N.Nodup) (hi : X.N[i]? = some x) (hj : X.N[j]? = some y) (hx : X.env.scope.names.lookup x = some .local) (hy : X.env.scope.names.lookup y = some .local) (hK : X.K = K) :
    PG X (.Tuple [.Name x p1, .Name y p2] k pos) (gTup K 2 (gCons (gName i) (gCons (gName j) gNil))) := by
  subst hK
  exact pg_tup hc (pgs_cons (pg_name hN hi (.inl hx) (.inr hx)) (pgs_cons (pg_name hN hj (.inl hy) (.inr hy)) pgs_nil))
theorem dec_eqI3 {a b : Int} : decide (V.int a = V.int b) = decide (a = b) := by
  by_cases h : a = b
  · rw [decide_eq_true h, decide_eq_true (congrArg V.int h)]
  · rw [decide_eq_false h, decide_eq_false fun z => h (V.int.inj z)]
def toP (u : Int × Int) : List Int := [u.1, u.2]
theorem Same.put2 {H H' : Hp} {D : Addr} {o : HO} (s : Same H H') (h : H D = none) : Same H (upd H' D o) := fun b x e => by
  rw [upd_ne (ne_of_none e h)]
  exact s b x e
theorem Tups.put2 {H : Hp} {D : Addr} {l : List V} {o : HO} {xs : List V} {ls : List (List Int)} (T : Tups H xs ls) (h : H D = some (.lst l)) : Tups (upd H D o) xs ls := T.mono fun b ys e => by
  rw [upd_ne (ne_of e h (by intro z; cases z))]
  exact e
theorem tups_two {H : Hp} {xs : List V} {u v : Int × Int} (h : Tups H xs [toP u, toP v]) : ∃ a b, xs = [.ref a, .ref b] ∧ H a = some (.tup [.int u.1, .int u.2]) ∧ H b = some (.tup [.int v.1, .int v.2]) := by
  cases h with
  | cons h1 t =>
    cases t with
    | cons h2 t =>
      cases t
      obtain ⟨a, rfl, ha⟩ := h1
      obtain ⟨b, rfl, hb⟩ := h2
      exact ⟨a, b, rfl, ha, hb⟩
theorem two_get {α : Type} {a b x : α} {i : Nat} (h : [a, b][i]? = some x) : (i = 0 ∧ x = a) ∨ (i = 1 ∧ x = b) := by
  match i, h with
  | 0, h => exact .inl ⟨rfl, by simpa using h.symm⟩
  | 1, h => exact .inr ⟨rfl, by simpa using h.symm⟩
section
variable {P : Program} {w : World} {K : PySem.W.Frag} {mg : Str → Option Value} {base : Heap}
def spMeet (C : Addr) : Sp := fun vs H Q _ => ∃ p dx td ts ds ss, ∃ b c : Int, vs = [.ref p, .int b, .int c] ∧ RingAt C H p dx td ts ds ss ∧ 0 ≤ b ∧ b < ss.sum ∧ 0 ≤ c ∧ c < ss.sum ∧ b ≠ c ∧
  ∀ H' v r L u1 u2, Same H H' → Res H' v r → Lst ds ss L → Fst ds ss b u1 → Fst ds ss c u2 → Mt ds ss L u1 u2 0 r → Q v H'
theorem ok_meet (T : Tx K mg) : FnOk P w K mg base CX0 7 T.a_first_meeting T.d_first_meeting P_first_meeting (spMeet T.C) := by
  refine T.F_first_meeting.ok sc_first_meeting (fun vs H Q E h => ?_) (fun cdv A outer s H vs Q E hr h => ?_)
  · obtain ⟨p, dx, td, ts, ds, ss, b, c, rfl, _⟩ := h
    rfl
  · obtain ⟨p, dx, td, ts, ds, ss, b, c, rfl, R, b0, b1, c0, c1, bc, q⟩ := h
    have hr4 : Room 4 _ := hr.mono (by decide)
    have hr3 : Room 3 _ := hr.mono (by decide)
    have nd := sc_first_meeting.nd
    refine ⟨_, pss_cons (ps_expr (pe_call (ok_ckb T) hr3 (by rfl) T.g_check_book T.F_check_book.kp T.b_check_book .nil pass0 (pa_cons (pv 0) (pa_cons (pv 1) pa_nil))))
      (pss_cons (ps_expr (pe_call (ok_ckb T) hr3 (by rfl) T.g_check_book T.F_check_book.kp T.b_check_book .nil pass0 (pa_cons (pv 0) (pa_cons (pv 2) pa_nil))))
      (pss_cons (ps_if (pt_cmpR op_eq (pv 1) (pv 2) (nomark _)) (pss_one ps_never) pss_nil)
      (pss_cons (ps_set (i := 3) nd rfl (.inl rfl) (pe_call (ok_lnd T) hr (by rfl) T.g_last_new_day T.F_last_new_day.kp T.b_last_new_day .nil pass0 (pa_cons (pv 0) pa_nil)))
      (pss_cons (ps_set (i := 4) nd rfl (.inl rfl) (pe_lst (pa_cons (pe_call (ok_fst T) hr3 (by rfl) T.g_first_stay T.F_first_stay.kp T.b_first_stay .nil pass0 (pa_cons (pv 0) (pa_cons (pv 1) pa_nil))) (pa_cons (pe_call (ok_fst T) hr3 (by rfl) T.g_first_stay T.F_first_stay.kp T.b_first_stay .nil pass0 (pa_cons (pv 0) (pa_cons (pv 2) pa_nil))) pa_nil))))
      (pss_cons (ps_set (i := 5) nd rfl (.inr rfl) pe_int)
      (pss_cons (ps_while PassesOwn.never (pt_cmpR op_le (pv 5) (pv 3) (nomark _))
        (pss_cons (ps_if (pt_cmpR op_eq (pe_ix ix_tup (pe_ix ix_list (pv 4) pe_int (fun _ _ => rfl)) pe_int (fun _ _ => rfl)) (pe_ix ix_tup (pe_ix ix_list (pv 4) pe_int (fun _ _ => rfl)) pe_int (fun _ _ => rfl)) (nomark _))
          (pss_one (ps_ret (pe_tup (pa_cons (pv 5) (pa_cons (pe_ix ix_tup (pe_ix ix_list (pv 4) pe_int (fun _ _ => rfl)) pe_int (fun _ _ => rfl)) pa_nil))))) pss_nil)
        (pss_cons (ps_setLc (i := 6) (own := [("reader", 7), ("number", 8)]) rfl nd rfl rfl (sw_true rfl rfl rfl (by decide +kernel)) (pi_list (pv 4)) (blkOk_by (N := N_first_meeting) (sc := defScope s_first_meeting) (by decide +kernel))
          (fun _ _ _ _ _ => pg_two (K := K) (i := 7) (j := 8) rfl nd rfl rfl rfl rfl rfl) (fun _ _ _ _ _ => pts_nil)
          (fun _ _ _ _ _ => pe_call (ok_end T) hr3 (by rfl) T.g_end_day T.F_end_day.kp T.b_end_day .nil pass0 (pa_cons (pv 0) (pa_cons (pv 7) (pa_cons (pv 8) pa_nil)))))
        (pss_cons (ps_set (i := 5) nd rfl (.inr rfl) (pe_callB (cr_min rfl) (by rfl) T.z_min (by decide +kernel) (pa_cons (pv 6) pa_nil)))
        (pss_one (ps_setLc (i := 4) (own := [("stay", 9), ("end", 10)]) rfl nd rfl rfl (sw_true rfl rfl rfl (by decide +kernel)) (pi_zip (by rfl) T.z_zip (pa_cons (pv 4) (pa_cons (pv 6) pa_nil))) (blkOk_by (N := N_first_meeting) (sc := defScope s_first_meeting) (by decide +kernel))
          (fun _ _ _ _ _ => pg_two (K := K) (i := 9) (j := 10) rfl nd rfl rfl rfl rfl rfl) (fun _ _ _ _ _ => pts_nil)
          (fun _ _ _ _ _ => pe_ifExp (pt_cmpR op_eq (pv 10) (pv 5) (nomark _)) (pe_call (ok_nxs T) hr4 (by rfl) T.g_next_stay T.F_next_stay.kp T.b_next_stay .nil pass0 (pa_cons (pv 0) (pa_cons (pv 9) pa_nil))) (pv 9))))))))
      (pss_one (ps_ret pe_non)))))))), ?_⟩
    -- check_book, check_book, one == other
    refine ⟨_, rfl, _, rfl, p, dx, td, ts, ds, ss, b, rfl, R, b0, b1, ?_⟩
    refine ⟨_, rfl, _, rfl, p, dx, td, ts, ds, ss, c, rfl, R, c0, c1, ?_⟩
    refine ⟨_, rfl, _, rfl, rfl, _, rfl, ?_⟩
    rw [dec_eqI3, decide_eq_false bc]
    refine iteF ?_
    -- last, stays, day
    refine ⟨_, rfl, p, dx, td, ts, ds, ss, rfl, R, fun H1 L s1 hL => ?_⟩
    have R1 := R.same s1
    refine ⟨_, rfl, _, rfl, p, dx, td, ts, ds, ss, b, rfl, R1, b0, b1, fun H2 t1 u1 s2 ht1 F1 => ?_⟩
    have R2 := R1.same s2
    refine ⟨_, rfl, _, rfl, p, dx, td, ts, ds, ss, c, rfl, R2, c0, c1, fun H3 t2 u2 s3 ht2 F2 => ⟨(by show 2 ≤ sizeLine; decide), fun S hS => ?_⟩⟩
    have s4 := same_upd (o := .lst [.ref t1, .ref t2]) hS
    have R3 := (R2.same s3).same s4
    obtain ⟨M, hM, hMu⟩ := R.ok.max
    have RR := R.ok.ring hM hMu
    have G := R.ok
    have z1 := RR.E1 u1.1 F1.x0
    have z2 := RR.E1 u2.1 F2.x0
    have d1 := RR.d1 u1.1
    have d2 := RR.d1 u2.1
    refine ⟨fun m σ H' => ∃ (S a1 a2 : Addr) (u v : Int × Int) (D : Int) (y6 y7 y8 y9 y10 : Option V), m = (L + 1 - D).toNat ∧ σ = [some (.ref p), some (.int b), some (.int c), some (.int L), some (.ref S), some (.int D), y6, y7, y8, y9, y10] ∧ Same H H' ∧ H' S = some (.lst [.ref a1, .ref a2]) ∧ H' a1 = some (.tup [.int u.1, .int u.2]) ∧ H' a2 = some (.tup [.int v.1, .int v.2]) ∧
        Sty ds u ∧ Sty ds v ∧ D < Rm.E (at' ds) (at' ss) u.1 u.2 ∧ D < Rm.E (at' ds) (at' ss) v.1 v.2 ∧ ∀ r, Mt ds ss L u v D r → Mt ds ss L u1 u2 0 r,
      ⟨_, S, t1, t2, u1, u2, 0, none, none, none, none, none, rfl, rfl, ((s1.trans s2).trans s3).trans s4, upd_same, s4 _ _ (s3 _ _ ht1), s4 _ _ ht2, F1.sty, F2.sty, by omega, by omega, fun r h => h⟩, ?_⟩
    rintro m σ H7 ⟨S, a1, a2, u, v, D, y6, y7, y8, y9, y10, rfl, rfl, s7, hS7, ha1, ha2, hu, hv, du, dv, hM7⟩
    have R7 := R.same s7
    refine ⟨_, rfl, _, rfl, _, _, rfl, rfl, _, rfl, ?_⟩
    by_cases hc : D ≤ L
    · rw [decide_eq_true hc]
      refine iteT ⟨fun σ' H' => ∃ (S a1 a2 : Addr) (u v : Int × Int) (D' : Int) (y6 y7 y8 y9 y10 : Option V), (L + 1 - D').toNat < (L + 1 - D).toNat ∧ σ' = [some (.ref p), some (.int b), some (.int c), some (.int L), some (.ref S), some (.int D'), y6, y7, y8, y9, y10] ∧ Same H H' ∧ H' S = some (.lst [.ref a1, .ref a2]) ∧ H' a1 = some (.tup [.int u.1, .int u.2]) ∧ H' a2 = some (.tup [.int v.1, .int v.2]) ∧
          Sty ds u ∧ Sty ds v ∧ D' < Rm.E (at' ds) (at' ss) u.1 u.2 ∧ D' < Rm.E (at' ds) (at' ss) v.1 v.2 ∧ ∀ r, Mt ds ss L u v D' r → Mt ds ss L u1 u2 0 r,
        fun σ' H' ⟨S, a1, a2, u, v, D', y6, y7, y8, y9, y10, e1, e2⟩ => ⟨_, e1, S, a1, a2, u, v, D', y6, y7, y8, y9, y10, rfl, e2⟩, ?_⟩
      refine ⟨_, rfl, S, _, 0, _, rfl, rfl, .of hS7, atI_nat (j := 0) rfl, a1, _, 0, _, rfl, rfl, .of ha1, atI_nat (j := 0) rfl, _, rfl, S, _, 1, _, rfl, rfl, .of hS7, atI_nat (j := 1) rfl, a2, _, 0, _, rfl, rfl, .of ha2, atI_nat (j := 0) rfl, rfl, _, rfl, ?_⟩
      rw [dec_eqI3]
      by_cases he : u.1 = v.1
      · rw [decide_eq_true he]
        refine iteT ⟨_, rfl, _, rfl, S, _, 0, _, rfl, rfl, .of hS7, atI_nat (j := 0) rfl, a1, _, 0, _, rfl, rfl, .of ha1, atI_nat (j := 0) rfl, (by show 2 ≤ sizeLine; decide), fun t ht => ?_⟩
        exact q _ (.ref t) (some (D, u.1)) L u1 u2 (s7.trans (same_upd ht)) ⟨t, rfl, upd_same⟩ hL F1 F2 (hM7 _ (.hit hc he))
      · rw [decide_eq_false he]
        refine iteF ?_
        -- ends
        refine ⟨_, rfl, S, rfl, ⟨_, .of hS7⟩, fun D1 hD1 => lc_list (K := K) (a := S) (xs := [.ref a1, .ref a2]) (fun i H' => H' D1 = some (.lst ((([Rm.E (at' ds) (at' ss) u.1 u.2, Rm.E (at' ds) (at' ss) v.1 v.2]).take i).map V.int)) ∧ Same H7 H') ?_ ?_ ?_ ?_⟩
        · exact ⟨by rw [upd_same]; rfl, same_upd hD1⟩
        · exact fun i H' _ h => .of (h.2 _ _ hS7)
        · rintro i z H8 hz ⟨hacc, s8⟩
          have R8 := R7.same s8
          rcases two_get hz with ⟨rfl, rfl⟩ | ⟨rfl, rfl⟩
          · refine ⟨a1, _, rfl, .of (s8 _ _ ha1), rfl, _, _, rfl, _, _, rfl, rfl, rfl, lc_keep ?_⟩
            refine ⟨_, rfl, _, rfl, _, rfl, p, dx, td, ts, ds, ss, u.1, u.2, rfl, R8, hu.r0, hu.r1, hu.x0, ?_⟩
            exact ⟨_, hacc, (by show 0 < sizeLine; decide), by rw [upd_same]; rfl, Same.put2 s8 hD1⟩
          · refine ⟨a2, _, rfl, .of (s8 _ _ ha2), rfl, _, _, rfl, _, _, rfl, rfl, rfl, lc_keep ?_⟩
            refine ⟨_, rfl, _, rfl, _, rfl, p, dx, td, ts, ds, ss, v.1, v.2, rfl, R8, hv.r0, hv.r1, hv.x0, ?_⟩
            exact ⟨_, hacc, (by show 1 < sizeLine; decide), by rw [upd_same]; rfl, Same.put2 s8 hD1⟩
        · rintro H8 ⟨hacc, s8⟩
          have hE8 : H8 D1 = some (.lst ([Rm.E (at' ds) (at' ss) u.1 u.2, Rm.E (at' ds) (at' ss) v.1 v.2].map V.int)) := hacc
          -- day
          refine ⟨_, rfl, D1, [Rm.E (at' ds) (at' ss) u.1 u.2, Rm.E (at' ds) (at' ss) v.1 v.2], rfl, .of hE8, (by show 0 < 2; decide), fun e hm hmu => ?_⟩
          have e1 := hmu (Rm.E (at' ds) (at' ss) u.1 u.2) (by simp)
          have e2 := hmu (Rm.E (at' ds) (at' ss) v.1 v.2) (by simp)
          have ee : e = min (Rm.E (at' ds) (at' ss) u.1 u.2) (Rm.E (at' ds) (at' ss) v.1 v.2) := by
            rcases List.mem_cons.mp hm with z | z
            · omega
            · have := List.mem_singleton.mp z
              omega
          have hS8 := s8 _ _ hS7
          have R8 := R7.same s8
          -- stays
          refine ⟨_, rfl, _, rfl, S, D1, _, _, rfl, .of hS8, .of hE8, fun D2 hD2 => lc_it (walk_zip (xs := [.ref a1, .ref a2]) (ys := [.int (Rm.E (at' ds) (at' ss) u.1 u.2), .int (Rm.E (at' ds) (at' ss) v.1 v.2)]) (n := 2) rfl) (fun i H' => ∃ xs, H' D2 = some (.lst xs) ∧ Tups H' xs ((([goes ds ss e u, goes ds ss e v]).take i).map toP) ∧ Same H8 H') ?_ ?_ ?_ ?_⟩
          · exact ⟨[], upd_same, .nil, same_upd hD2⟩
          · exact fun i H' _ ⟨_, _, _, h⟩ => ⟨.of (h _ _ hS8), .of (h _ _ hE8)⟩
          · rintro i z H9 H10 hi ⟨xs, hxs, htt, s9⟩ ⟨t, x, y, rfl, nt, rfl, hx, hy⟩
            have hx' : ([.ref a1, .ref a2] : List V)[i]? = some x := hx
            have hy' : ([.int (Rm.E (at' ds) (at' ss) u.1 u.2), .int (Rm.E (at' ds) (at' ss) v.1 v.2)] : List V)[i]? = some y := hy
            have lx := htt.length
            have fin : ∀ (H11 : Hp) (a' : Addr) (w2 : Int × Int), Same H9 H11 → H11 a' = some (.tup [.int (goes ds ss e w2).1, .int (goes ds ss e w2).2]) → ((([goes ds ss e u, goes ds ss e v]).take (i + 1)).map toP = (([goes ds ss e u, goes ds ss e v]).take i).map toP ++ [toP (goes ds ss e w2)]) →
                ∃ acc, H11 D2 = some (.lst acc) ∧ acc.length < sizeLine ∧ ∃ xs, (upd H11 D2 (.lst (acc ++ [.ref a']))) D2 = some (.lst xs) ∧ Tups (upd H11 D2 (.lst (acc ++ [.ref a']))) xs ((([goes ds ss e u, goes ds ss e v]).take (i + 1)).map toP) ∧ Same H8 (upd H11 D2 (.lst (acc ++ [.ref a']))) := fun H11 a' w2 s11 ha' htk => by
              have hxs' := s11 _ _ hxs
              refine ⟨xs, hxs', ?_, xs ++ [.ref a'], upd_same, ?_, Same.put2 (s9.trans s11) hD2⟩
              · rw [lx, List.length_map, List.length_take]
                exact small1000 (by omega)
              · rw [htk]
                refine Tups.snoc ⟨a', rfl, ?_⟩ ((htt.same s11).put2 hxs')
                rw [upd_ne (ne_of ha' hxs' (by intro z; cases z))]
                exact ha'
            obtain ⟨a, w2, ex, ey, ha, htk⟩ : ∃ (a : Addr) (w2 : Int × Int), x = .ref a ∧ y = .int (Rm.E (at' ds) (at' ss) w2.1 w2.2) ∧ H8 a = some (.tup [.int w2.1, .int w2.2]) ∧ ((([goes ds ss e u, goes ds ss e v]).take (i + 1)).map toP = (([goes ds ss e u, goes ds ss e v]).take i).map toP ++ [toP (goes ds ss e w2)]) := by
              rcases two_get hx' with ⟨e0, ex⟩ | ⟨e0, ex⟩
              · subst e0
                exact ⟨a1, u, ex, by simpa using hy'.symm, s8 _ _ ha1, rfl⟩
              · subst e0
                exact ⟨a2, v, ex, by simpa using hy'.symm, s8 _ _ ha2, rfl⟩
            subst ex ey
            have sn := same_upd (o := .tup [.ref a, .int (Rm.E (at' ds) (at' ss) w2.1 w2.2)]) nt
            refine ⟨t, _, rfl, .of upd_same, rfl, _, _, rfl, _, _, rfl, rfl, rfl, lc_keep ?_⟩
            generalize (upd H9 t (.tup [.ref a, .int (Rm.E (at' ds) (at' ss) w2.1 w2.2)])) = H10 at sn ⊢
            have R10 := (R8.same s9).same sn
            have ha10 := sn _ _ (s9 _ _ ha)
            refine ⟨_, rfl, _, rfl, rfl, _, rfl, ?_⟩
            rw [dec_eqI3]
            by_cases cc : Rm.E (at' ds) (at' ss) w2.1 w2.2 = e
            · rw [decide_eq_true cc]
              have eg : goes ds ss e w2 = nxs ds ss w2 := if_pos cc
              refine iteT ⟨_, rfl, _, rfl, p, dx, td, ts, ds, ss, a, w2, rfl, R10, ha10, fun H11 b11 s11 hb11 => ?_⟩
              exact fin H11 b11 w2 (sn.trans s11) (by rw [eg]; exact hb11) htk
            · rw [decide_eq_false cc]
              have eg : goes ds ss e w2 = w2 := if_neg cc
              exact iteF ⟨_, rfl, fin H10 a w2 sn (by rw [eg]; exact ha10) htk⟩
          · rintro H9 ⟨xs, hxs, htt, s9⟩
            obtain ⟨c1', c2', rfl, hc1, hc2⟩ := tups_two htt
            have s79 := s7.trans (s8.trans s9)
            refine ⟨D2, c1', c2', goes ds ss e u, goes ds ss e v, e, _, _, _, _, _, by omega, rfl, s79, hxs, hc1, hc2, goes_ok G hu e, goes_ok G hv e, goes_later G hu e1, goes_later G hv e2, fun r hr2 => hM7 r ?_⟩
            refine .step hc he ?_
            rw [← ee]
            exact hr2
    · rw [decide_eq_false hc]
      refine iteF ?_
      exact q H7 .non none L u1 u2 s7 rfl hL F1 F2 (hM7 _ (.done (by omega)))
end
end Rp
namespace Rp
open PySem PySem.Spec PyProof.Rows L2 Rz Rm
section
variable {P : Program} {w : World} {K : PySem.W.Frag} {mg : Str → Option Value} {base : Heap}
def spGreat (K : PySem.W.Frag) : Sp := fun vs H Q _ => ∃ (row a : Addr) (ns : List Int) (many : Int), vs = [.ref row, .int many] ∧ RowAt K H row a ns ∧ 1 ≤ many ∧
  ∀ v H', 0 ≤ v → v < many → RowAt K H' row a ns → Kp row H H' → Q (.int v) H'
theorem ok_great (T : Tx K mg) : FnOk P w K mg base CX0 2 T.a_lgreat T.d_lgreat P_lgreat (spGreat K) := by
  refine T.F_lgreat.ok sc_lgreat (fun vs H Q E h => ?_) (fun cdv A outer s H vs Q E hr h => ?_)
  · obtain ⟨row, a, ns, many, rfl, _⟩ := h
    rfl
  · obtain ⟨row, a, ns, many, rfl, RA, m1, q⟩ := h
    refine ⟨_, pss_one (ps_ret (pe_op op_mod (pe_callTy call_int1 (by rfl) T.z_int (by decide +kernel) (pa_cons (pe_op op_add
      (pe_op op_mul (pe_call (ok_taken T) hr (by rfl) T.g_ltaken T.F_ltaken.kp T.b_ltaken .nil pass0 (pa_cons (pv 0) (pa_cons (pe_op op_pow pe_int pe_int) pa_nil))) (pe_op op_pow pe_int pe_int))
      (pe_call (ok_taken T) hr (by rfl) T.g_ltaken T.F_ltaken.kp T.b_ltaken .nil pass0 (pa_cons (pv 0) (pa_cons (pe_op op_pow pe_int pe_int) pa_nil)))) pa_nil)) (pv 1))), ?_⟩
    refine ⟨_, rfl, _, _, rfl, rfl, ⟨by decide, by decide, by decide⟩, row, a, ns, _, rfl, RA, by decide, by decide, fun v H1 v0 v1 RA1 k1 => ?_⟩
    refine ⟨_, _, rfl, rfl, ⟨by decide, by decide, by decide⟩, _, _, rfl, rfl, .inr ⟨by decide, by decide⟩, ?_⟩
    refine ⟨_, rfl, _, _, rfl, rfl, ⟨by decide, by decide, by decide⟩, row, a, ns, _, rfl, RA1, by decide, by decide, fun v2 H2 v20 v21 RA2 k2 => ?_⟩
    refine ⟨_, _, rfl, rfl, .inl ⟨_, rfl, _, rfl, _, _, rfl, rfl, by show (0 : Int) < many; omega, ?_⟩⟩
    exact q _ _ (Int.emod_nonneg _ (by omega)) (Int.emod_lt_of_pos _ (by omega)) RA2 (k1.trans k2)
end
end Rp
namespace Rp
open PySem PySem.Spec PyProof.Rows L2 Rz Rm
section
variable {P : Program} {w : World} {K : PySem.W.Frag} {mg : Str → Option Value} {base : Heap}
/-! ### numbers_to_compare -/
theorem lcm_small {a b g : Int} (a1 : 1 ≤ a) (a2 : a ≤ 12) (b1 : 1 ≤ b) (b2 : b ≤ 12) (h : PySem.W.McLcm a b g) : 0 ≤ g ∧ g ≤ 144 := by
  obtain ⟨g0, _, _, _, _, _, _, _, _, hg⟩ := h
  have h1 := hg (by omega) (by omega)
  have h2 : 0 < Nat.gcd a.natAbs b.natAbs := Nat.gcd_pos_of_pos_left _ (by omega)
  have h3 : (1 : Int) * g ≤ ((Nat.gcd a.natAbs b.natAbs : Nat) : Int) * g := Int.mul_le_mul_of_nonneg_right (by omega) g0
  have h4 : a * b ≤ 12 * b := Int.mul_le_mul_of_nonneg_right a2 (by omega)
  omega
def spNC (C : Addr) : Sp := fun vs H Q _ => ∃ p dx td ts ds ss p' dx' td' ts' ds' ss', vs = [.ref p, .ref p'] ∧ RingAt C H p dx td ts ds ss ∧ RingAt C H p' dx' td' ts' ds' ss' ∧ ∀ H' v, Same H H' → 0 ≤ v → v ≤ 100000 → Q (.int v) H'
theorem ok_nums (T : Tx K mg) : FnOk P w K mg base CX0 6 T.a_numbers_to_compare T.d_numbers_to_compare P_numbers_to_compare (spNC T.C) := by
  refine T.F_numbers_to_compare.ok sc_numbers_to_compare (fun vs H Q E h => ?_) (fun cdv A outer s H vs Q E hr h => ?_)
  · obtain ⟨p, dx, td, ts, ds, ss, p', dx', td', ts', ds', ss', rfl, _⟩ := h
    rfl
  · obtain ⟨p, dx, td, ts, ds, ss, p', dx', td', ts', ds', ss', rfl, R, R', q⟩ := h
    have nd := sc_numbers_to_compare.nd
    refine ⟨_, pss_cons (ps_asg (pe_call (ok_settled T) hr (by rfl) T.g_settled T.F_settled.kp T.b_settled .nil pass0 (pa_cons (pv 0) pa_nil)) (pg_tup rfl (pgs_cons (pg_name (i := 2) nd rfl (.inl rfl)) (pgs_cons (pg_name (i := 3) nd rfl (.inl rfl)) (pgs_cons (pg_name (i := 4) nd rfl (.inl rfl)) pgs_nil)))))
      (pss_cons (ps_asg (pe_call (ok_settled T) hr (by rfl) T.g_settled T.F_settled.kp T.b_settled .nil pass0 (pa_cons (pv 1) pa_nil)) (pg_tup rfl (pgs_cons (pg_name (i := 5) nd rfl (.inl rfl)) (pgs_cons (pg_name (i := 6) nd rfl (.inl rfl)) (pgs_cons (pg_name (i := 4) nd rfl (.inl rfl)) pgs_nil)))))
      (pss_one (ps_ret (pe_op op_add (pe_callB (call_max2 rfl) (by rfl) T.z_max (by decide +kernel) (pa_cons (pv 2) (pa_cons (pv 5) pa_nil))) (pe_op op_mul pe_int (pe_callBfun cr_lcm (by rfl) T.g_lcm (pa_cons (pv 3) (pa_cons (pv 6) pa_nil)))))))), ?_⟩
    have b1 := R.ok.b1
    have b12 := R.ok.b12
    have b1' := R'.ok.b1
    have b12' := R'.ok.b12
    refine ⟨_, rfl, p, dx, td, ts, ds, ss, rfl, R, fun M hM hMu H1 t1 n pp qq s1 ht1 hrep hset => ⟨t1, _, rfl, .of ht1, rfl, _, _, rfl, _, _, rfl, _, _, rfl, rfl, ?_⟩⟩
    refine ⟨_, rfl, p', dx', td', ts', ds', ss', rfl, R'.same s1, fun M' hM' hMu' H2 t2 n' pp' qq' s2 ht2 hrep' hset' => ⟨t2, _, rfl, .of ht2, rfl, _, _, rfl, _, _, rfl, _, _, rfl, rfl, ?_⟩⟩
    have n0 := hset.n0
    have n1 := hset.n1
    have n0' := hset'.n0
    have n1' := hset'.n1
    have hp : 1 ≤ pp ∧ pp ≤ 12 := by rcases hrep with ⟨_, rfl, rfl⟩ | ⟨_, rfl, rfl⟩ <;> omega
    have hp' : 1 ≤ pp' ∧ pp' ≤ 12 := by rcases hrep' with ⟨_, rfl, rfl⟩ | ⟨_, rfl, rfl⟩ <;> omega
    refine ⟨_, rfl, _, rfl, _, _, rfl, _, rfl, _, rfl, pp, pp', rfl, by omega, by omega, fun g hg => ?_⟩
    have hg2 := lcm_small hp.1 hp.2 hp'.1 hp'.2 hg
    refine ⟨_, _, rfl, rfl, .inl ⟨by decide, by decide⟩, _, _, rfl, rfl, ?_⟩
    rw [max_if]
    exact q H2 _ (s1.trans s2) (by omega) (by omega)
/-! ### first_unlike of two that are alike -/
def spFU (C : Addr) : Sp := fun vs H Q _ => ∃ p dx td ts ds ss p' dx' td' ts', vs = [.ref p, .ref p'] ∧ RingAt C H p dx td ts ds ss ∧ RingAt C H p' dx' td' ts' ds ss ∧ ∀ H', Same H H' → Q .non H'
theorem ok_unlike (T : Tx K mg) : FnOk P w K mg base CX0 7 T.a_first_unlike T.d_first_unlike P_first_unlike (spFU T.C) := by
  refine T.F_first_unlike.ok sc_first_unlike (fun vs H Q E h => ?_) (fun cdv A outer s H vs Q E hr h => ?_)
  · obtain ⟨p, dx, td, ts, ds, ss, p', dx', td', ts', rfl, _⟩ := h
    rfl
  · obtain ⟨p, dx, td, ts, ds, ss, p', dx', td', ts', rfl, R, R', q⟩ := h
    have hr3 : Room 3 _ := hr.mono (by decide)
    have hr2 : Room 2 _ := hr.mono (by decide)
    have nd := sc_first_unlike.nd
    have l8 := R.ok.l8
    refine ⟨_, pss_cons (ps_if (pt_cmpR op_ne (pe_callB (call_lenI T.lenC T.lenF ((ok_len T).raw T.b_rlen .nil) hr2 pass0) (by rfl) T.z_len PySem.boot_len (pa_cons (pv 0) pa_nil)) (pe_callB (call_lenI T.lenC T.lenF ((ok_len T).raw T.b_rlen .nil) hr2 pass0) (by rfl) T.z_len PySem.boot_len (pa_cons (pv 1) pa_nil)) (nomark _)) (pss_one ps_never) pss_nil)
      (pss_cons (ps_for PassesOwn.never rfl (pi_range1 (by rfl) T.z_range (pa_cons (pe_call (ok_nums T) hr (by rfl) T.g_numbers_to_compare T.F_numbers_to_compare.kp T.b_numbers_to_compare .nil pass0 (pa_cons (pv 0) (pa_cons (pv 1) pa_nil))) pa_nil)) (pg_name (i := 2) nd rfl (.inl rfl))
        (pss_one (ps_for PassesOwn.never rfl (pi_range1 (by rfl) T.z_range (pa_cons (pe_callB (call_lenI T.lenC T.lenF ((ok_len T).raw T.b_rlen .nil) hr2 pass0) (by rfl) T.z_len PySem.boot_len (pa_cons (pv 0) pa_nil)) pa_nil)) (pg_name (i := 3) nd rfl (.inl rfl))
          (pss_one (ps_if (pt_cmpR op_ne (pe_call (ok_end T) hr3 (by rfl) T.g_end_day T.F_end_day.kp T.b_end_day .nil pass0 (pa_cons (pv 0) (pa_cons (pv 3) (pa_cons (pv 2) pa_nil)))) (pe_call (ok_end T) hr3 (by rfl) T.g_end_day T.F_end_day.kp T.b_end_day .nil pass0 (pa_cons (pv 1) (pa_cons (pv 3) (pa_cons (pv 2) pa_nil)))) (nomark _))
            (pss_one (ps_ret (pe_tup (pa_cons (pv 2) (pa_cons (pv 3) pa_nil))))) pss_nil)))))
      (pss_one (ps_ret pe_non))), ?_⟩
    refine ⟨_, rfl, p, dx, _, rfl, R.ob, p, dx, td, ts, ds, ss, rfl, R, (ds.length : Int), rfl, by omega, by omega, _, rfl, p', dx', _, rfl, R'.ob, p', dx', td', ts', ds, ss, rfl, R', (ds.length : Int), rfl, by omega, by omega, rfl, _, rfl, ?_⟩
    refine iteNS rfl ?_
    refine ⟨_, rfl, _, rfl, p, dx, td, ts, ds, ss, p', dx', td', ts', ds, ss, rfl, R, R', fun H1 v s1 v0 v1 => ?_⟩
    have R1 := R.same s1
    have R1' := R'.same s1
    refine ⟨v, rfl, by omega, by omega, for_range (lo := 0) (n := v.toNat) (fun i σ H' => H' = H1 ∧ ∃ y2 y3, σ = [some (.ref p), some (.ref p'), y2, y3]) ⟨rfl, none, none, rfl⟩ ?_ ?_⟩
    · rintro i σ H2 hi ⟨rfl, y2, y3, rfl⟩
      show tFor _ _ _ _ [some (.ref p), some (.ref p'), some (.int (0 + (i : Int))), y3] H2
      refine ⟨_, rfl, p, dx, _, rfl, R1.ob, p, dx, td, ts, ds, ss, rfl, R1, (ds.length : Int), rfl, by omega, by omega, (ds.length : Int), rfl, by omega, by omega, for_range (lo := 0) (n := ((ds.length : Int)).toNat) (fun j σ H' => H' = H2 ∧ ∃ y3, σ = [some (.ref p), some (.ref p'), some (.int (0 + (i : Int))), y3]) ⟨rfl, y3, rfl⟩ ?_ ?_⟩
      · rintro j σ H3 hj ⟨rfl, y3, rfl⟩
        show tIfS _ _ _ _ [some (.ref p), some (.ref p'), some (.int (0 + (i : Int))), some (.int (0 + (j : Int)))] H3
        refine ⟨_, rfl, _, rfl, _, rfl, p, dx, td, ts, ds, ss, 0 + (j : Int), 0 + (i : Int), rfl, R1, by omega, by omega, by omega, ?_⟩
        refine ⟨_, rfl, _, rfl, _, rfl, p', dx', td', ts', ds, ss, 0 + (j : Int), 0 + (i : Int), rfl, R1', by omega, by omega, by omega, rfl, _, rfl, ?_⟩
        exact iteNS rfl ⟨rfl, _, rfl⟩
      · rintro σ H3 ⟨rfl, y3, rfl⟩
        exact ⟨rfl, _, _, rfl⟩
    · rintro σ H2 ⟨rfl, y2, y3, rfl⟩
      exact q _ s1
end
end Rp
namespace Rp
open PySem PySem.Spec PyProof.Rows L2 Rz Rm
structure Bu (K : PySem.W.Frag) (C : Addr) (H : Hp) (row a t p dx td ts q dq tq sq : Addr) (ns ds ss : List Int) (k : Int) : Prop where
  RA : RowAt K H row a ns
  R : RingAt C H p dx td ts ds ss
  Q : RingAt C H q dq tq sq (rot k ds) (rot k ss)
  ht : H t = some (.tup [.ref td, .ref ts])
  k0 : 0 ≤ k
  k1 : k < ds.length
theorem Bu.same {K : PySem.W.Frag} {C : Addr} {H H' : Hp} {row a t p dx td ts q dq tq sq : Addr} {ns ds ss : List Int} {k : Int} (b : Bu K C H row a t p dx td ts q dq tq sq ns ds ss k) (s : Same H H') : Bu K C H' row a t p dx td ts q dq tq sq ns ds ss k := ⟨b.RA.same s, b.R.same s, b.Q.same s, s _ _ b.ht, b.k0, b.k1⟩
theorem Bu.kp {K : PySem.W.Frag} {C : Addr} {H H' : Hp} {row a t p dx td ts q dq tq sq : Addr} {ns ds ss : List Int} {k : Int} (b : Bu K C H row a t p dx td ts q dq tq sq ns ds ss k) (RA : RowAt K H' row a ns) (kk : Kp row H H') : Bu K C H' row a t p dx td ts q dq tq sq ns ds ss k := ⟨RA, b.R.kp b.RA kk, b.Q.kp b.RA kk, tup_kp b.ht b.RA kk, b.k0, b.k1⟩
def uS (a row t p : Addr) (N : Nat) (k : Int) (q : Addr) (y7 y8 y9 y10 y11 y12 y13 y14 y15 : Option V) : L2.St := [some (.ref a), some (.ref row), some (.ref t), some (.ref p), some (.int N), some (.int k), some (.ref q), y7, y8, y9, y10, y11, y12, y13, y14, y15]
/-- two rings alike -/
def Alk (C : Addr) (a b : Addr) (H : Hp) : Prop := ∃ dx td ts dy te tt ds ss, RingAt C H a dx td ts ds ss ∧ RingAt C H b dy te tt ds ss
theorem rot_back {k : Int} {l : List Int} (k0 : 0 ≤ k) (k1 : k < l.length) : rot (((l.length : Int) - k) % (l.length : Int)) (rot k l) = l := by
  by_cases h : k = 0
  · subst h
    rw [Int.sub_zero, Int.emod_self]
    unfold rot
    simp
  · rw [Int.emod_eq_of_lt (by omega) (by omega)]
    unfold rot
    have e : ((l.length : Int) - k).toNat = (l.drop k.toNat).length := by
      rw [List.length_drop]
      omega
    rw [e, List.drop_left, List.take_left, List.take_append_drop]
theorem rot_cut {k : Int} {l : List Int} (k0 : 0 ≤ k) : ((l.map V.int).drop k.toNat) ++ ((l.map V.int).take k.toNat) = (rot k l).map V.int := rot_map k l
theorem mod_ne {B m x y : Int} (x0 : 0 ≤ x) (x1 : x < B) (y0 : 0 ≤ y) (y1 : y < B) (h : x ≠ y) : (x - m) % B ≠ (y - m) % B := by
  intro e
  have a := Int.emod_add_mul_ediv (x - m) B
  have b := Int.emod_add_mul_ediv (y - m) B
  have c : B * ((x - m) / B - (y - m) / B) = x - y := by
    rw [Int.mul_sub]
    omega
  generalize (x - m) / B - (y - m) / B = t at c
  rcases Int.lt_trichotomy t 0 with z | z | z
  · have : B * t ≤ B * (-1) := Int.mul_le_mul_of_nonneg_left (by omega) (by omega)
    omega
  · rw [z, Int.mul_zero] at c
    omega
  · have : B * 1 ≤ B * t := Int.mul_le_mul_of_nonneg_left (by omega) (by omega)
    omega
section
variable {P : Program} {w : World} {K : PySem.W.Frag} {mg : Str → Option Value} {base : Heap}
/-! ### Ring.__eq__ -/
theorem ok_eq (T : Tx K mg) : FnOk P w K mg base CX0 2 T.a_req T.d_req P_req (spEq (Alk T.C)) := by
  refine T.F_req.ok sc_req (fun vs H Q E h => ?_) (fun cdv A outer s H vs Q E hr h => ?_)
  · obtain ⟨a, b, rfl, _⟩ := h
    rfl
  · obtain ⟨a, b, rfl, ⟨dx, td, ts, dy, te, tt, ds, ss, Ra, Rb⟩, q⟩ := h
    refine ⟨_, pss_one (ps_ret (pe_and (pe_callB call_isi (by rfl) T.z_isinstance (by decide +kernel) (pa_cons (pv 1) (pa_cons (pe_glob (v := .ref T.C) (by rfl) T.gC rfl) pa_nil)))
      (pe_and (pe_cmpR (op_eqD hr.units) (pe_fld (pv 0) rfl) (pe_fld (pv 1) rfl) (nomark _)) (pe_one (pe_cmpR (op_eqD hr.units) (pe_fld (pv 0) rfl) (pe_fld (pv 1) rfl) (nomark _)))))), ?_⟩
    refine ⟨.ref b, rfl, .ref b, .ref T.C, .ref T.C, .ref T.C, true, rfl, .own _, .base (.ins Rb.ob T.cl T.clsC T.clsG T.clsT T.clsM), if_pos (beq_self_eq_true _), true, rfl, iteT ?_⟩
    refine ⟨_, rfl, a, _, dx, _, _, rfl, Ra.ob, T.cl, T.nD, flds_days _ _, _, rfl, b, _, dy, _, _, rfl, Rb.ob, T.cl, T.nD, flds_days _ _, ?_⟩
    refine tup_eq (as := ds) (bs := ds) Ra.td Rb.td ⟨_, rfl, ?_⟩
    rw [decide_eq_true rfl]
    refine iteT ⟨_, rfl, a, _, dx, _, _, rfl, Ra.ob, T.cl, T.nS, flds_starts _ _, _, rfl, b, _, dy, _, _, rfl, Rb.ob, T.cl, T.nS, flds_starts _ _, ?_⟩
    refine tup_eq (as := ss) (bs := ss) Ra.ts Rb.ts ?_
    rw [decide_eq_true rfl]
    exact q H (fun _ _ h => h)
def stBody : Stmt → List Stmt
  | .For _ _ b _ _ => b
  | _ => []
abbrev bs (j : Nat) : Stmt := (defBody s_law).getD j (.Pass ⟨0, 0, 0, 0⟩)
abbrev fl (j : Nat) : Stmt := (stBody (bs 9)).getD j (.Pass ⟨0, 0, 0, 0⟩)
abbrev gl (j : Nat) : Stmt := (stBody (bs 11)).getD j (.Pass ⟨0, 0, 0, 0⟩)
abbrev XL (P : Program) (w : World) (K : PySem.W.Frag) (mg : Str → Option Value) (base : Heap) (f : Addr) (cdv : Value) (A : Around) (outer : List Env) (s : Shared) (H0 : Hp) (E : XK) : Cx := (cxOf CX0 P w K mg base N_law "law" (defScope s_law) f cdv A outer s H0 E).nox
variable {f : Addr} {cdv : Value} {A : Around} {outer : List Env} {s : Shared} {H0 : Hp} {E : XK}
theorem lx_b5 (T : Tx K mg) (hr : Room 11 (XL P w K mg base f cdv A outer s H0 E).A) : ∃ tt : TS, PS (XL P w K mg base f cdv A outer s H0 E) (bs 5) tt ∧
    ∀ (D : Ends) (H : Hp) (row a t p dx td ts q dq tq sq : Addr) (ns ds ss : List Int) (k : Int) (y7 y8 y9 y10 y11 y12 y13 y14 y15 : Option V), Bu K T.C H row a t p dx td ts q dq tq sq ns ds ss k →
      (∀ H', Same H H' → D.nx (uS a row t p ds.length k q y7 y8 y9 y10 y11 y12 y13 y14 y15) H') →
      tt D (uS a row t p ds.length k q y7 y8 y9 y10 y11 y12 y13 y14 y15) H := by
  have hr2 : Room 2 _ := hr.mono (by decide)
  have nd := sc_law.nd
  refine ⟨_, ps_if (pt_cmpR (op_neD hr.units) (pe_callTy call_list_of (by rfl) T.z_list (by decide +kernel) (pa_cons (pe_prop (pv 6) T.cl T.q_rdays (ok_days T) hr2 T.b_rdays .nil pass0 rfl) pa_nil))
    (pe_callTy call_list_of (by rfl) T.z_list (by decide +kernel) (pa_cons (pe_op op_catA (pe_slice sl_tupA (pe_ix ix_tup (pv 2) pe_int (fun _ _ => rfl)) (po_some (pv 5)) po_none) (pe_slice sl_tupA (pe_ix ix_tup (pv 2) pe_int (fun _ _ => rfl)) po_none (po_some (pv 5)))) pa_nil)) (nomark _)) (pss_one (ps_ret pe_bl)) pss_nil, ?_⟩
  intro D H row a t p dx td ts q dq tq sq ns ds ss k y7 y8 y9 y10 y11 y12 y13 y14 y15 B nx
  have l8 := B.R.ok.l8
  have k0 := B.k0
  have k1 := B.k1
  refine ⟨_, rfl, q, dq, _, rfl, B.Q.ob, q, dq, tq, sq, _, _, rfl, B.Q, tq, _, rfl, .inr (.of B.Q.td), fun l1 hl1 => ?_⟩
  have s1 := same_upd (o := .lst ((rot k ds).map V.int)) hl1
  have B1 := B.same s1
  have h1 : (upd H l1 (.lst ((rot k ds).map V.int))) l1 = some (.lst ((rot k ds).map V.int)) := upd_same
  generalize (upd H l1 (.lst ((rot k ds).map V.int))) = H1 at s1 B1 h1 ⊢
  refine ⟨_, rfl, t, _, 0, _, rfl, rfl, .of B1.ht, atI_nat (j := 0) rfl, _, rfl, _, rfl, ?_⟩
  refine noPart ?_
  refine sl_from B1.R.td k0 (by rw [List.length_map]; omega) fun H2 p2 s2 h2 => ?_
  have B2 := B1.same s2
  refine ⟨_, rfl, t, _, 0, _, rfl, rfl, .of B2.ht, atI_nat (j := 0) rfl, _, rfl, _, rfl, ?_⟩
  refine sl_to B2.R.td k0 (by rw [List.length_map]; omega) fun H3 p3 s3 h3 => ?_
  refine cat_any (s3 _ _ h2) h3 (by rw [List.length_drop, List.length_take, List.length_map]; have := small1000 (n := ds.length) (by omega); omega) fun H4 p4 s4 h4 => ?_
  rw [rot_cut k0] at h4
  refine ⟨p4, _, rfl, .inr (.of h4), fun l2 hl2 => ?_⟩
  have s5 := same_upd (o := .lst ((rot k ds).map V.int)) hl2
  refine lst_ne (as := rot k ds) (bs := rot k ds) (.of (s5 _ _ (s4 _ _ (s3 _ _ (s2 _ _ h1))))) (.of upd_same) ⟨_, rfl, ?_⟩
  exact iteNS rfl (nx _ ((((s1.trans s2).trans s3).trans s4).trans s5))
theorem lx_b6 (T : Tx K mg) (hr : Room 11 (XL P w K mg base f cdv A outer s H0 E).A) : ∃ tt : TS, PS (XL P w K mg base f cdv A outer s H0 E) (bs 6) tt ∧
    ∀ (D : Ends) (H : Hp) (row a t p dx td ts q dq tq sq : Addr) (ns ds ss : List Int) (k : Int) (y7 y8 y9 y10 y11 y12 y13 y14 y15 : Option V), Bu K T.C H row a t p dx td ts q dq tq sq ns ds ss k →
      (∀ H', Same H H' → D.nx (uS a row t p ds.length k q y7 y8 y9 y10 y11 y12 y13 y14 y15) H') →
      tt D (uS a row t p ds.length k q y7 y8 y9 y10 y11 y12 y13 y14 y15) H := by
  have hr4 : Room 4 _ := hr.mono (by decide)
  have nd := sc_law.nd
  refine ⟨_, ps_if (pt_cmpR (op_neD hr.units) (pe_prop (pv 6) T.cl T.q_rpace (ok_rpace T) hr4 T.b_rpace .nil pass0 rfl) (pe_prop (pv 3) T.cl T.q_rpace (ok_rpace T) hr4 T.b_rpace .nil pass0 rfl) (nomark _)) (pss_one (ps_ret pe_bl)) pss_nil, ?_⟩
  intro D H row a t p dx td ts q dq tq sq ns ds ss k y7 y8 y9 y10 y11 y12 y13 y14 y15 B nx
  refine ⟨_, rfl, q, dq, _, rfl, B.Q.ob, q, dq, tq, sq, _, _, rfl, B.Q, fun H1 t1 s1 ht1 => ?_⟩
  have B1 := B.same s1
  refine ⟨_, rfl, p, dx, _, rfl, B1.R.ob, p, dx, td, ts, ds, ss, rfl, B1.R, fun H2 t2 s2 ht2 => ?_⟩
  rw [rot_sum, pX_rot B.R.ok.dys, pY_rot B.R.ok.dys] at ht1
  refine tup_ne (as := [pX ds ss.sum, pY ds ss.sum]) (bs := [pX ds ss.sum, pY ds ss.sum]) (s2 _ _ ht1) ht2 ⟨_, rfl, ?_⟩
  exact iteNS rfl (nx H2 (s1.trans s2))
theorem lx_b7 (T : Tx K mg) (hr : Room 11 (XL P w K mg base f cdv A outer s H0 E).A) : ∃ tt : TS, PS (XL P w K mg base f cdv A outer s H0 E) (bs 7) tt ∧
    ∀ (D : Ends) (H : Hp) (row a t p dx td ts q dq tq sq : Addr) (ns ds ss : List Int) (k : Int) (y7 y8 y9 y10 y11 y12 y13 y14 y15 : Option V), Bu K T.C H row a t p dx td ts q dq tq sq ns ds ss k →
      (∀ H', Same H H' → D.nx (uS a row t p ds.length k q y7 y8 y9 y10 y11 y12 y13 y14 y15) H') →
      tt D (uS a row t p ds.length k q y7 y8 y9 y10 y11 y12 y13 y14 y15) H := by
  have hr5 : Room 5 _ := hr.mono (by decide)
  have nd := sc_law.nd
  refine ⟨_, ps_if (pt_cmpR (op_neD hr.units) (pe_call (ok_settled T) hr5 (by rfl) T.g_settled T.F_settled.kp T.b_settled .nil pass0 (pa_cons (pv 6) pa_nil)) (pe_call (ok_settled T) hr5 (by rfl) T.g_settled T.F_settled.kp T.b_settled .nil pass0 (pa_cons (pv 3) pa_nil)) (nomark _)) (pss_one (ps_ret pe_bl)) pss_nil, ?_⟩
  intro D H row a t p dx td ts q dq tq sq ns ds ss k y7 y8 y9 y10 y11 y12 y13 y14 y15 B nx
  refine ⟨_, rfl, q, dq, tq, sq, rot k ds, rot k ss, rfl, B.Q, fun M hM hMu H1 t1 n pp qq s1 ht1 hrep hset => ?_⟩
  have B1 := B.same s1
  refine ⟨_, rfl, p, dx, td, ts, ds, ss, rfl, B1.R, fun M' hM' hMu' H2 t2 n' pp' qq' s2 ht2 hrep' hset' => ?_⟩
  have eM : M = M' := by rw [← mx_eq (dys_rot B.R.ok.dys k) hM hMu, ← mx_eq B.R.ok.dys hM' hMu', mx_rot B.R.ok.dys]
  rw [rot_sum, rot_sum, eM] at hrep
  obtain ⟨e1, e2⟩ := RepIs.inj hrep hrep'
  rw [e1, e2] at hset ht1
  have e3 := settled_rot B.R.ok B.k0 B.k1 hset hset'
  rw [e3] at ht1
  refine tup_ne (as := [n', pp', qq']) (bs := [n', pp', qq']) (s2 _ _ ht1) ht2 ⟨_, rfl, ?_⟩
  exact iteNS rfl (nx H2 (s1.trans s2))
theorem lx_b8 (T : Tx K mg) (hr : Room 11 (XL P w K mg base f cdv A outer s H0 E).A) : ∃ tt : TS, PS (XL P w K mg base f cdv A outer s H0 E) (bs 8) tt ∧
    ∀ (D : Ends) (H : Hp) (row a t p dx td ts q dq tq sq : Addr) (ns ds ss : List Int) (k : Int) (y7 y8 y9 y10 y11 y12 y13 y14 y15 : Option V), Bu K T.C H row a t p dx td ts q dq tq sq ns ds ss k →
      (∀ H', Same H H' → D.nx (uS a row t p ds.length k q y7 y8 y9 y10 y11 y12 y13 y14 y15) H') →
      tt D (uS a row t p ds.length k q y7 y8 y9 y10 y11 y12 y13 y14 y15) H := by
  have hr6 : Room 6 _ := hr.mono (by decide)
  have hr2 : Room 2 _ := hr.mono (by decide)
  have nd := sc_law.nd
  obtain ⟨fo, hfo⟩ := T.shI
  obtain ⟨ro, hro⟩ := T.shJ
  refine ⟨_, ps_if (pt_not (pt_cmpR (op_eqG (rcG_ins (ok_eq T) T.eqC T.eqF T.b_req pass0) hr2) (pe_op (op_shO T.sfC T.shC T.shF T.shN hfo hro T.shS ((ok_shift T).raw T.b_rrshift .nil) hr6 pass0) (pv 6) (pe_op op_mod (pe_callTy call_int1 (by rfl) T.z_int (by decide +kernel) (pa_cons (pe_op op_sub (pv 4) (pv 5)) pa_nil)) (pv 4))) (pv 3) (nomark _))) (pss_one (ps_ret pe_bl)) pss_nil, ?_⟩
  intro D H row a t p dx td ts q dq tq sq ns ds ss k y7 y8 y9 y10 y11 y12 y13 y14 y15 B nx
  have l2 := B.R.ok.l2
  have ls := B.R.ok.ls
  have k0 := B.k0
  have k1 := B.k1
  have j0 := Int.emod_nonneg ((ds.length : Int) - k) (show (ds.length : Int) ≠ 0 by omega)
  have j1 := Int.emod_lt_of_pos ((ds.length : Int) - k) (show (0 : Int) < ds.length by omega)
  refine ⟨_, rfl, _, rfl, _, rfl, _, _, rfl, rfl, .inl ⟨_, rfl, _, rfl, _, _, rfl, rfl, by show (0 : Int) < ds.length; omega, ?_⟩⟩
  refine ⟨q, dq, _, ((ds.length : Int) - k) % (ds.length : Int), rfl, rfl, B.Q.ob, q, dq, tq, sq, rot k ds, rot k ss, _, rfl, B.Q, j0, by rw [rot_len]; exact j1, fun H1 q2 dq2 tq2 sq2 s1 R2 => ⟨⟨q2, rfl⟩, _, rfl, ?_⟩⟩
  have e2 : rot (((ds.length : Int) - k) % (ds.length : Int)) (rot k ss) = ss := by
    have := rot_back (l := ss) k0 (by omega)
    rw [ls] at this
    exact this
  rw [rot_back k0 k1, e2] at R2
  have B1 := B.same s1
  refine ⟨⟨q2, p, _, _, _, _, rfl, rfl, R2.ob, B1.R.ob, _, _, _, _, _, _, ds, ss, R2, B1.R⟩, fun H2 s2 => ⟨_, rfl, ?_⟩⟩
  exact iteF (nx H2 (s1.trans s2))
theorem lx_c0 (T : Tx K mg) (hr : Room 11 (XL P w K mg base f cdv A outer s H0 E).A) : ∃ tt : TS, PS (XL P w K mg base f cdv A outer s H0 E) (fl 0) tt ∧
    ∀ (D : Ends) (H : Hp) (row a t p dx td ts q dq tq sq : Addr) (ns ds ss : List Int) (k : Int) (j : Int) (y8 y9 y10 y11 y12 y13 y14 y15 : Option V), Bu K T.C H row a t p dx td ts q dq tq sq ns ds ss k →
      (∀ H' x, Bu K T.C H' row a t p dx td ts q dq tq sq ns ds ss k → 0 ≤ x → x ≤ 100000000000000000 → D.nx (uS a row t p ds.length k q (some (.int j)) (some (.int ((j - k) % (ds.length : Int)))) (some (.int x)) y10 y11 y12 y13 y14 y15) H') →
      tt D (uS a row t p ds.length k q (some (.int j)) y8 y9 y10 y11 y12 y13 y14 y15) H := by
  have hr2 : Room 2 _ := hr.mono (by decide)
  have nd := sc_law.nd
  refine ⟨_, ps_par (i := 8) (j := 9) rfl nd rfl rfl (by decide) rfl rfl (pa_cons (pe_op op_mod (pe_callTy call_int1 (by rfl) T.z_int (by decide +kernel) (pa_cons (pe_op op_sub (pv 7) (pv 5)) pa_nil)) (pv 4)) (pa_cons (pe_call (ok_great T) hr2 (by rfl) T.g_lgreat T.F_lgreat.kp T.b_lgreat .nil pass0 (pa_cons (pv 1) (pa_cons (pe_op op_pow pe_int pe_int) pa_nil))) pa_nil)) rfl, ?_⟩
  intro D H row a t p dx td ts q dq tq sq ns ds ss k j y8 y9 y10 y11 y12 y13 y14 y15 B nx
  have l2 := B.R.ok.l2
  refine ⟨_, rfl, _, rfl, _, _, rfl, rfl, .inl ⟨_, rfl, _, rfl, _, _, rfl, rfl, by show (0 : Int) < ds.length; omega, ?_⟩⟩
  refine ⟨_, rfl, _, _, rfl, rfl, ⟨by decide, by decide, by decide⟩, row, a, ns, _, rfl, B.RA, by decide, fun x H1 x0 x1 RA1 k1 => ⟨_, _, rfl, ?_⟩⟩
  have x2 : x < 100000000000000000 := x1
  exact nx H1 x (B.kp RA1 k1) x0 (by omega)
theorem lx_c1 (T : Tx K mg) (hr : Room 11 (XL P w K mg base f cdv A outer s H0 E).A) : ∃ tt : TS, PS (XL P w K mg base f cdv A outer s H0 E) (fl 1) tt ∧
    ∀ (D : Ends) (H : Hp) (row a t p dx td ts q dq tq sq : Addr) (ns ds ss : List Int) (k : Int) (j x : Int) (y10 y11 y12 y13 y14 y15 : Option V), Bu K T.C H row a t p dx td ts q dq tq sq ns ds ss k → 0 ≤ j → j < ds.length → 0 ≤ x → x ≤ 100000000000000000 →
      (∀ H', Same H H' → D.nx (uS a row t p ds.length k q (some (.int j)) (some (.int ((j - k) % (ds.length : Int)))) (some (.int x)) y10 y11 y12 y13 y14 y15) H') →
      tt D (uS a row t p ds.length k q (some (.int j)) (some (.int ((j - k) % (ds.length : Int)))) (some (.int x)) y10 y11 y12 y13 y14 y15) H := by
  have hr4 : Room 4 _ := hr.mono (by decide)
  have nd := sc_law.nd
  refine ⟨_, ps_if (pt_cmpR op_ne (pe_callI (pv 6) T.callC ((ok_call T).raw T.b_rcall .nil) hr4 pass0 (pa_cons (pv 8) (pa_cons (pv 9) pa_nil))) (pe_callI (pv 3) T.callC ((ok_call T).raw T.b_rcall .nil) hr4 pass0 (pa_cons (pv 7) (pa_cons (pv 9) pa_nil))) (nomark _)) (pss_one (ps_ret pe_bl)) pss_nil, ?_⟩
  intro D H row a t p dx td ts q dq tq sq ns ds ss k j x y10 y11 y12 y13 y14 y15 B j0 j1 x0 x1 nx
  obtain ⟨h0, h1, _⟩ := there_is B.R.ok B.k0 B.k1 j0 j1
  refine ⟨_, rfl, q, rfl, _, rfl, _, rfl, ⟨dq, _, B.Q.ob⟩, q, dq, tq, sq, rot k ds, rot k ss, (j - k) % (ds.length : Int), x, rfl, B.Q, h0, by rw [rot_len]; exact h1, x0, by omega, ?_⟩
  refine ⟨_, rfl, p, rfl, _, rfl, _, rfl, ⟨dx, _, B.R.ob⟩, p, dx, td, ts, ds, ss, j, x, rfl, B.R, j0, j1, x0, by omega, rfl, _, rfl, ?_⟩
  exact iteNS (congrArg V.int (E_there B.R.ok B.k0 B.k1 j0 j1 x)) (nx H (Same.refl H))
theorem lx_c2 (T : Tx K mg) (hr : Room 11 (XL P w K mg base f cdv A outer s H0 E).A) : ∃ tt : TS, PS (XL P w K mg base f cdv A outer s H0 E) (fl 2) tt ∧
    ∀ (D : Ends) (H : Hp) (row a t p dx td ts q dq tq sq : Addr) (ns ds ss : List Int) (k : Int) (j x : Int) (y10 y11 y12 y13 y14 y15 : Option V), Bu K T.C H row a t p dx td ts q dq tq sq ns ds ss k → 0 ≤ j → j < ds.length → 0 ≤ x → x ≤ 100000000000000000 →
      (∀ H', Same H H' → D.nx (uS a row t p ds.length k q (some (.int j)) (some (.int ((j - k) % (ds.length : Int)))) (some (.int x)) y10 y11 y12 y13 y14 y15) H') →
      tt D (uS a row t p ds.length k q (some (.int j)) (some (.int ((j - k) % (ds.length : Int)))) (some (.int x)) y10 y11 y12 y13 y14 y15) H := by
  have hr6 : Room 6 _ := hr.mono (by decide)
  have nd := sc_law.nd
  refine ⟨_, ps_if (pt_cmpR op_ne (pe_call (ok_longest T) hr6 (by rfl) T.g_longest_heap T.F_longest_heap.kp T.b_longest_heap .nil pass0 (pa_cons (pv 6) (pa_cons (pv 8) pa_nil))) (pe_call (ok_longest T) hr6 (by rfl) T.g_longest_heap T.F_longest_heap.kp T.b_longest_heap .nil pass0 (pa_cons (pv 3) (pa_cons (pv 7) pa_nil))) (nomark _)) (pss_one (ps_ret pe_bl)) pss_nil, ?_⟩
  intro D H row a t p dx td ts q dq tq sq ns ds ss k j x y10 y11 y12 y13 y14 y15 B j0 j1 x0 x1 nx
  obtain ⟨h0, h1, _⟩ := there_is B.R.ok B.k0 B.k1 j0 j1
  refine ⟨_, rfl, _, rfl, q, dq, tq, sq, rot k ds, rot k ss, (j - k) % (ds.length : Int), rfl, B.Q, h0, by rw [rot_len]; exact h1, fun H1 L s1 hu ha => ?_⟩
  have B1 := B.same s1
  refine ⟨_, rfl, _, rfl, p, dx, td, ts, ds, ss, j, rfl, B1.R, j0, j1, fun H2 L' s2 hu' ha' => ⟨rfl, _, rfl, ?_⟩⟩
  refine iteNS (congrArg V.int ?_) (nx H2 (s1.trans s2))
  obtain ⟨D1, d1, e1⟩ := ha
  obtain ⟨D2, d2, e2⟩ := ha'
  have f1 := hu' D1 d1
  have f2 := hu D2 d2
  rw [hpo_there B.R.ok B.k0 B.k1 j0 j1] at e1 f2
  omega
theorem lx_c3 (T : Tx K mg) (hr : Room 11 (XL P w K mg base f cdv A outer s H0 E).A) : ∃ tt : TS, PS (XL P w K mg base f cdv A outer s H0 E) (fl 3) tt ∧
    ∀ (D : Ends) (H : Hp) (row a t p dx td ts q dq tq sq : Addr) (ns ds ss : List Int) (k : Int) (j x : Int) (y10 y11 y12 y13 y14 y15 : Option V), Bu K T.C H row a t p dx td ts q dq tq sq ns ds ss k → 0 ≤ j → j < ds.length → 0 ≤ x → x ≤ 100000000000000000 →
      (∀ H', Same H H' → D.nx (uS a row t p ds.length k q (some (.int j)) (some (.int ((j - k) % (ds.length : Int)))) (some (.int x)) y10 y11 y12 y13 y14 y15) H') →
      tt D (uS a row t p ds.length k q (some (.int j)) (some (.int ((j - k) % (ds.length : Int)))) (some (.int x)) y10 y11 y12 y13 y14 y15) H := by
  have hr5 : Room 5 _ := hr.mono (by decide)
  have nd := sc_law.nd
  refine ⟨_, ps_if (pt_cmpR op_ne (pe_call (ok_heap T) (hr.mono (by decide)) (by rfl) T.g_heap_on T.F_heap_on.kp T.b_heap_on .nil pass0 (pa_cons (pv 6) (pa_cons (pv 8) (pa_cons (pv 9) pa_nil)))) (pe_call (ok_heap T) (hr.mono (by decide)) (by rfl) T.g_heap_on T.F_heap_on.kp T.b_heap_on .nil pass0 (pa_cons (pv 3) (pa_cons (pv 7) (pa_cons (pv 9) pa_nil)))) (nomark _)) (pss_one (ps_ret pe_bl)) pss_nil, ?_⟩
  intro D H row a t p dx td ts q dq tq sq ns ds ss k j x y10 y11 y12 y13 y14 y15 B j0 j1 x0 x1 nx
  obtain ⟨h0, h1, _⟩ := there_is B.R.ok B.k0 B.k1 j0 j1
  refine ⟨_, rfl, _, rfl, _, rfl, q, dq, tq, sq, rot k ds, rot k ss, (j - k) % (ds.length : Int), x, rfl, B.Q, h0, by rw [rot_len]; exact h1, x0, by omega, ?_⟩
  refine ⟨_, rfl, _, rfl, _, rfl, p, dx, td, ts, ds, ss, j, x, rfl, B.R, j0, j1, x0, by omega, rfl, _, rfl, ?_⟩
  have e := hpo_there B.R.ok B.k0 B.k1 j0 j1 x
  unfold hpo at e
  exact iteNS (congrArg V.int e) (nx H (Same.refl H))
theorem lx_b10 (T : Tx K mg) (hr : Room 11 (XL P w K mg base f cdv A outer s H0 E).A) : ∃ tt : TS, PS (XL P w K mg base f cdv A outer s H0 E) (bs 10) tt ∧
    ∀ (D : Ends) (H : Hp) (row a t p dx td ts q dq tq sq : Addr) (ns ds ss : List Int) (k : Int) (y7 y8 y9 y10 y11 y12 y13 y14 y15 : Option V), Bu K T.C H row a t p dx td ts q dq tq sq ns ds ss k →
      (∀ H', Same H H' → D.nx (uS a row t p ds.length k q y7 y8 y9 (some (.int (ss.take k.toNat).sum)) y11 y12 y13 y14 y15) H') →
      tt D (uS a row t p ds.length k q y7 y8 y9 y10 y11 y12 y13 y14 y15) H := by
  have hr2 : Room 2 _ := hr.mono (by decide)
  have nd := sc_law.nd
  refine ⟨_, ps_set (i := 10) nd rfl (.inl rfl) (pe_callB (cr_sumT rfl) (by rfl) T.z_sum (by decide +kernel) (pa_cons (pe_slice sl_tupA (pe_ix ix_tup (pv 2) pe_int (fun _ _ => rfl)) po_none (po_some (pv 5))) pa_nil)), ?_⟩
  intro D H row a t p dx td ts q dq tq sq ns ds ss k y7 y8 y9 y10 y11 y12 y13 y14 y15 B nx
  have k0 := B.k0
  have k1 := B.k1
  have ls := B.R.ok.ls
  refine ⟨_, rfl, t, _, 1, _, rfl, rfl, .of B.ht, atI_nat (j := 1) rfl, _, rfl, _, rfl, ?_⟩
  refine sl_to B.R.ts k0 (by rw [List.length_map]; omega) fun H1 p1 s1 h1 => ?_
  rw [← List.map_take] at h1
  exact ⟨p1, ss.take k.toNat, rfl, .of h1, nx H1 s1⟩
theorem lx_e0 (T : Tx K mg) (hr : Room 11 (XL P w K mg base f cdv A outer s H0 E).A) : ∃ tt : TS, PS (XL P w K mg base f cdv A outer s H0 E) (gl 0) tt ∧
    ∀ (D : Ends) (H : Hp) (row a t p dx td ts q dq tq sq : Addr) (ns ds ss : List Int) (k : Int) (y7 y8 y9 y11 y12 y13 y14 y15 : Option V), Bu K T.C H row a t p dx td ts q dq tq sq ns ds ss k →
      (∀ H' b c, Bu K T.C H' row a t p dx td ts q dq tq sq ns ds ss k → 0 ≤ b → b < ss.sum → 0 ≤ c → c < ss.sum → D.nx (uS a row t p ds.length k q y7 y8 y9 (some (.int (ss.take k.toNat).sum)) y11 (some (.int b)) (some (.int c)) y14 y15) H') →
      tt D (uS a row t p ds.length k q y7 y8 y9 (some (.int (ss.take k.toNat).sum)) y11 y12 y13 y14 y15) H := by
  have hr2 : Room 2 _ := hr.mono (by decide)
  have hr1 : Room 1 _ := hr.mono (by decide)
  have nd := sc_law.nd
  refine ⟨_, ps_par (i := 12) (j := 13) rfl nd rfl rfl (by decide) rfl rfl (pa_cons (pe_call (ok_taken T) hr1 (by rfl) T.g_ltaken T.F_ltaken.kp T.b_ltaken .nil pass0 (pa_cons (pv 1) (pa_cons (pe_prop (pv 3) T.cl T.q_rbooks (ok_books T) hr2 T.b_rbooks .nil pass0 rfl) pa_nil))) (pa_cons (pe_call (ok_taken T) hr1 (by rfl) T.g_ltaken T.F_ltaken.kp T.b_ltaken .nil pass0 (pa_cons (pv 1) (pa_cons (pe_prop (pv 3) T.cl T.q_rbooks (ok_books T) hr2 T.b_rbooks .nil pass0 rfl) pa_nil))) pa_nil)) rfl, ?_⟩
  intro D H row a t p dx td ts q dq tq sq ns ds ss k y7 y8 y9 y11 y12 y13 y14 y15 B nx
  have b1 := B.R.ok.b1
  have b12 := B.R.ok.b12
  refine ⟨_, rfl, _, rfl, p, dx, _, rfl, B.R.ob, p, dx, td, ts, ds, ss, rfl, B.R, row, a, ns, _, rfl, B.RA, b1, by omega, fun v1 H1 v10 v11 RA1 kk1 => ?_⟩
  have B1 := B.kp RA1 kk1
  refine ⟨_, rfl, _, rfl, p, dx, _, rfl, B1.R.ob, p, dx, td, ts, ds, ss, rfl, B1.R, row, a, ns, _, rfl, RA1, b1, by omega, fun v2 H2 v20 v21 RA2 kk2 => ⟨_, _, rfl, ?_⟩⟩
  exact nx H2 v1 v2 (B1.kp RA2 kk2) v10 v11 v20 v21
theorem lx_e1 (T : Tx K mg) (hr : Room 11 (XL P w K mg base f cdv A outer s H0 E).A) : ∃ tt : TS, PS (XL P w K mg base f cdv A outer s H0 E) (gl 1) tt ∧
    ∀ (D : Ends) (H : Hp) (row a t p dx td ts q dq tq sq : Addr) (ns ds ss : List Int) (k : Int) (b c : Int) (y7 y8 y9 y11 y14 y15 : Option V), Bu K T.C H row a t p dx td ts q dq tq sq ns ds ss k → 0 ≤ b → b < ss.sum → 0 ≤ c → c < ss.sum →
      (∀ H' z14 z15, Same H H' → D.nx (uS a row t p ds.length k q y7 y8 y9 (some (.int (ss.take k.toNat).sum)) y11 (some (.int b)) (some (.int c)) z14 z15) H') →
      tt D (uS a row t p ds.length k q y7 y8 y9 (some (.int (ss.take k.toNat).sum)) y11 (some (.int b)) (some (.int c)) y14 y15) H := by
  have hr7 : Room 7 _ := hr.mono (by decide)
  have hr2 : Room 2 _ := hr.mono (by decide)
  have nd := sc_law.nd
  refine ⟨_, ps_if (pt_cmpR op_ne (pv 12) (pv 13) (nomark _))
    (pss_cons (ps_set (i := 14) nd rfl (.inl rfl) (pe_call (ok_meet T) hr7 (by rfl) T.g_first_meeting T.F_first_meeting.kp T.b_first_meeting .nil pass0 (pa_cons (pv 3) (pa_cons (pv 12) (pa_cons (pv 13) pa_nil)))))
    (pss_cons (ps_set (i := 15) nd rfl (.inl rfl) (pe_call (ok_meet T) hr7 (by rfl) T.g_first_meeting T.F_first_meeting.kp T.b_first_meeting .nil pass0 (pa_cons (pv 6) (pa_cons (pe_op op_mod (pe_callTy call_int1 (by rfl) T.z_int (by decide +kernel) (pa_cons (pe_op op_sub (pv 12) (pv 10)) pa_nil)) (pe_prop (pv 3) T.cl T.q_rbooks (ok_books T) hr2 T.b_rbooks .nil pass0 rfl)) (pa_cons (pe_op op_mod (pe_callTy call_int1 (by rfl) T.z_int (by decide +kernel) (pa_cons (pe_op op_sub (pv 13) (pv 10)) pa_nil)) (pe_prop (pv 3) T.cl T.q_rbooks (ok_books T) hr2 T.b_rbooks .nil pass0 rfl)) pa_nil)))))
    (pss_cons (ps_if (pt_cmpR op_ne (pe_cmpR op_isN (pv 14) pe_non (nomark _)) (pe_cmpR op_isN (pv 15) pe_non (nomark _)) (nomark _)) (pss_one (ps_ret pe_bl)) pss_nil)
    (pss_cons (ps_if (PW.pt (pw_and (pt_cmpR op_notN (pv 14) pe_non (nomark _)) (pw_and1 (pt_cmpR op_ne (pe_ix ix_tup (pv 14) pe_int (fun _ _ => rfl)) (pe_ix ix_tup (pv 15) pe_int (fun _ _ => rfl)) (nomark _))))) (pss_one (ps_ret pe_bl)) pss_nil)
    (pss_one (ps_if (pt_cmpR (op_neD hr.units) (pv 14) (pe_call (ok_meet T) hr7 (by rfl) T.g_first_meeting T.F_first_meeting.kp T.b_first_meeting .nil pass0 (pa_cons (pv 3) (pa_cons (pv 13) (pa_cons (pv 12) pa_nil)))) (nomark _)) (pss_one (ps_ret pe_bl)) pss_nil)))))) pss_nil, ?_⟩
  intro D H row a t p dx td ts q dq tq sq ns ds ss k b c y7 y8 y9 y11 y14 y15 B b0 b1 c0 c1 nx
  have G := B.R.ok
  have k0 := B.k0
  have k1 := B.k1
  refine ⟨_, rfl, _, rfl, rfl, _, rfl, ?_⟩
  rw [dec_eqI3]
  by_cases hbc : b = c
  · rw [decide_eq_true hbc]
    exact iteF (nx H _ _ (Same.refl H))
  · rw [decide_eq_false hbc]
    refine iteT ⟨_, rfl, _, rfl, _, rfl, p, dx, td, ts, ds, ss, b, c, rfl, B.R, b0, b1, c0, c1, hbc, fun H1 v1 r1 L1 u1 u2 s1 hv1 hL1 hF1 hF2 hM1 => ?_⟩
    have B1 := B.same s1
    have hB := B.R.ok.b1
    have m0 := Int.emod_nonneg (b - (ss.take k.toNat).sum) (show ss.sum ≠ 0 by omega)
    have m1 := Int.emod_lt_of_pos (b - (ss.take k.toNat).sum) (show (0 : Int) < ss.sum by omega)
    have n0 := Int.emod_nonneg (c - (ss.take k.toNat).sum) (show ss.sum ≠ 0 by omega)
    have n1 := Int.emod_lt_of_pos (c - (ss.take k.toNat).sum) (show (0 : Int) < ss.sum by omega)
    refine ⟨_, rfl, _, rfl, _, rfl, _, _, rfl, rfl, .inl ⟨_, rfl, _, rfl, p, dx, _, rfl, B1.R.ob, p, dx, td, ts, ds, ss, rfl, B1.R, _, _, rfl, rfl, by show (0 : Int) < ss.sum; omega, ?_⟩⟩
    refine ⟨_, rfl, _, rfl, _, _, rfl, rfl, .inl ⟨_, rfl, _, rfl, p, dx, _, rfl, B1.R.ob, p, dx, td, ts, ds, ss, rfl, B1.R, _, _, rfl, rfl, by show (0 : Int) < ss.sum; omega, ?_⟩⟩
    refine ⟨q, dq, tq, sq, rot k ds, rot k ss, _, _, rfl, B1.Q, m0, by rw [rot_sum]; exact m1, n0, by rw [rot_sum]; exact n1, mod_ne b0 b1 c0 c1 hbc, fun H2 v2 r2 LL w1 w2 s2 hv2 hL2 hW1 hW2 hM2 => ?_⟩
    have B2 := B1.same s2
    have eL := lst_rot G k0 k1 hL1 hL2
    have e1 := Fst.inj (G.rot k) hW1 (fst_rot G k0 k1 hF1)
    have e2 := Fst.inj (G.rot k) hW2 (fst_rot G k0 k1 hF2)
    have hM1r := mt_rot G k0 k1 hM1 hF1.sty hF2.sty
    rw [e1, e2, ← eL] at hM2
    have er : r2 = r1.map (tur2 ds k) := Mt.det hM2 hM1r
    subst er
    have third : ∀ (D9 : Ends) (σ9 : L2.St) H9, σ9 = uS a row t p ds.length k q y7 y8 y9 (some (.int (ss.take k.toNat).sum)) y11 (some (.int b)) (some (.int c)) (some v1) (some v2) → Same H1 H9 → (∀ H', Same H1 H' → D9.nx σ9 H') → tIfS (tTest (tOp (rNeD K) (tVar 14) (tCall (spMeet T.C) [] E0 (tCons (tVar 3) (tCons (tVar 13) (tCons (tVar 12) tNil)))))) (tRet (tC (.bl false))) tNext D9 σ9 H9 := fun D9 σ9 H9 eσ s9 n9 => by
      subst eσ
      have B9 := B1.same s9
      refine ⟨_, rfl, _, rfl, _, rfl, _, rfl, p, dx, td, ts, ds, ss, c, b, rfl, B9.R, c0, c1, b0, b1, Ne.symm hbc, fun H3 v3 r3 L3 x1 x2 s3 hv3 hL3 hX1 hX2 hM3 => ?_⟩
      rw [Fst.inj G hX1 hF2, Fst.inj G hX2 hF1, lst_inj G hL3 hL1] at hM3
      have er3 := Mt.det hM3 hM1.symm
      subst er3
      cases r3 with
      | none =>
        cases (show v1 = .non from hv1)
        cases (show v3 = .non from hv3)
        refine ⟨_, _, .non, .non, rfl, rfl, _, rfl, ?_⟩
        exact iteF (n9 H3 (s9.trans s3))
      | some z =>
        obtain ⟨D1, j1⟩ := z
        obtain ⟨t1, rfl, h1⟩ := (show ∃ t, v1 = .ref t ∧ H1 t = some (.tup [.int D1, .int j1]) from hv1)
        obtain ⟨t3, rfl, h3⟩ := (show ∃ t, v3 = .ref t ∧ H3 t = some (.tup [.int D1, .int j1]) from hv3)
        refine tup_ne (as := [D1, j1]) (bs := [D1, j1]) (s3 _ _ (s9 _ _ h1)) h3 ⟨_, rfl, ?_⟩
        exact iteNS rfl (n9 H3 (s9.trans s3))
    cases r1 with
    | none =>
      have hv1' : v1 = .non := hv1
      have hv2' : v2 = .non := hv2
      refine ⟨v1, rfl, rfl, v2, rfl, rfl, rfl, _, rfl, ?_⟩
      rw [hv1', hv2']
      refine iteF ?_
      refine ⟨.non, ?_, rfl, _, rfl, ?_⟩
      · rfl
      refine iteF (iteF ?_)
      refine third _ _ H2 (by rw [hv1', hv2']; rfl) s2 fun H' s' => ?_
      exact nx H' _ _ (s1.trans s')
    | some z =>
      obtain ⟨D1, j1⟩ := z
      obtain ⟨t1, hv1', h1⟩ := (show ∃ t, v1 = .ref t ∧ H1 t = some (.tup [.int D1, .int j1]) from hv1)
      obtain ⟨t2, hv2', h2⟩ := (show ∃ t, v2 = .ref t ∧ H2 t = some (.tup [.int D1, .int ((j1 - k) % (ds.length : Int))]) from hv2)
      refine ⟨v1, rfl, rfl, v2, rfl, rfl, rfl, _, rfl, ?_⟩
      rw [hv1', hv2']
      refine iteF ?_
      refine ⟨.ref t1, ?_, rfl, _, rfl, ?_⟩
      · rfl
      refine iteT ⟨_, rfl, t1, _, 0, _, rfl, rfl, .of (s2 _ _ h1), atI_nat (j := 0) rfl, _, rfl, t2, _, 0, _, rfl, rfl, .of h2, atI_nat (j := 0) rfl, rfl, _, rfl, ?_⟩
      refine iteNS rfl ?_
      refine third _ _ H2 (by rw [hv1', hv2']; rfl) s2 fun H' s' => ?_
      exact nx H' _ _ (s1.trans s')
theorem lx_b12 (T : Tx K mg) (hr : Room 11 (XL P w K mg base f cdv A outer s H0 E).A) : ∃ tt : TS, PS (XL P w K mg base f cdv A outer s H0 E) (bs 12) tt ∧
    ∀ (D : Ends) (H : Hp) (row a t p dx td ts q dq tq sq : Addr) (ns ds ss : List Int) (k : Int) (y7 y8 y9 y10 y11 y12 y13 y14 y15 : Option V), Bu K T.C H row a t p dx td ts q dq tq sq ns ds ss k → (∀ H', D.rt (.bl true) H') →
      tt D (uS a row t p ds.length k q y7 y8 y9 y10 y11 y12 y13 y14 y15) H := by
  have hr7 : Room 7 _ := hr.mono (by decide)
  have hr6 : Room 6 _ := hr.mono (by decide)
  have nd := sc_law.nd
  obtain ⟨fo, hfo⟩ := T.shI
  obtain ⟨ro, hro⟩ := T.shJ
  refine ⟨_, ps_ret (pe_cmpR op_isN (pe_call (ok_unlike T) hr7 (by rfl) T.g_first_unlike T.F_first_unlike.kp T.b_first_unlike .nil pass0 (pa_cons (pv 3) (pa_cons (pe_op (op_shO T.sfC T.shC T.shF T.shN hfo hro T.shS ((ok_shift T).raw T.b_rrshift .nil) hr6 pass0) (pv 3) pe_int) pa_nil))) pe_non (nomark _)), ?_⟩
  intro D H row a t p dx td ts q dq tq sq ns ds ss k y7 y8 y9 y10 y11 y12 y13 y14 y15 B nx
  have l2 := B.R.ok.l2
  refine ⟨_, rfl, _, rfl, p, dx, _, 0, rfl, rfl, B.R.ob, p, dx, td, ts, ds, ss, 0, rfl, B.R, Int.le_refl _, by omega, fun H1 q2 dq2 tq2 sq2 s1 R2 => ⟨⟨q2, rfl⟩, ?_⟩⟩
  have e0 : ∀ l : List Int, rot 0 l = l := fun l => by
    unfold rot
    simp
  rw [e0, e0] at R2
  exact ⟨p, dx, td, ts, ds, ss, q2, dq2, tq2, sq2, rfl, B.R.same s1, R2, fun H2 s2 => ⟨rfl, nx H2⟩⟩
end
end Rp
namespace Rp
open PySem PySem.Spec PyProof.Rows L2 Rz Rm
section
variable {P : Program} {w : World} {K : PySem.W.Frag} {mg : Str → Option Value} {base : Heap}
def spLaw (K : PySem.W.Frag) : Sp := fun vs H Q _ => ∃ (a : Addr) (ns : List Int), vs = [.ref a] ∧ SqL K H a (ns.map V.int) ∧ ns.length ≤ 63 ∧ ∀ H', Q (.bl true) H'
theorem ok_law (T : Tx K mg) : FnOk P w K mg base CX0 12 T.a_law T.d_law P_law (spLaw K) := by
  refine T.F_law.ok sc_law (fun vs H Q E h => ?_) (fun cdv A outer s H vs Q E hr h => ?_)
  · obtain ⟨a, ns, rfl, _⟩ := h
    rfl
  · obtain ⟨a, ns, rfl, hS, hlen, hq⟩ := h
    have hr6 : Room 6 _ := hr.mono (by decide)
    have hr5 : Room 5 _ := hr.mono (by decide)
    have hr2 : Room 2 _ := hr.mono (by decide)
    have hr1 : Room 1 _ := hr.mono (by decide)
    have nd := sc_law.nd
    obtain ⟨fo, hfo⟩ := T.shI
    obtain ⟨ro, hro⟩ := T.shJ
    obtain ⟨u_b5, q_b5, v_b5⟩ := lx_b5 (P := P) (w := w) (base := base) (f := T.a_law) (cdv := cdv) (A := A) (outer := outer) (s := s) (H0 := H) (E := E) T hr
    obtain ⟨u_b6, q_b6, v_b6⟩ := lx_b6 (P := P) (w := w) (base := base) (f := T.a_law) (cdv := cdv) (A := A) (outer := outer) (s := s) (H0 := H) (E := E) T hr
    obtain ⟨u_b7, q_b7, v_b7⟩ := lx_b7 (P := P) (w := w) (base := base) (f := T.a_law) (cdv := cdv) (A := A) (outer := outer) (s := s) (H0 := H) (E := E) T hr
    obtain ⟨u_b8, q_b8, v_b8⟩ := lx_b8 (P := P) (w := w) (base := base) (f := T.a_law) (cdv := cdv) (A := A) (outer := outer) (s := s) (H0 := H) (E := E) T hr
    obtain ⟨u_c0, q_c0, v_c0⟩ := lx_c0 (P := P) (w := w) (base := base) (f := T.a_law) (cdv := cdv) (A := A) (outer := outer) (s := s) (H0 := H) (E := E) T hr
    obtain ⟨u_c1, q_c1, v_c1⟩ := lx_c1 (P := P) (w := w) (base := base) (f := T.a_law) (cdv := cdv) (A := A) (outer := outer) (s := s) (H0 := H) (E := E) T hr
    obtain ⟨u_c2, q_c2, v_c2⟩ := lx_c2 (P := P) (w := w) (base := base) (f := T.a_law) (cdv := cdv) (A := A) (outer := outer) (s := s) (H0 := H) (E := E) T hr
    obtain ⟨u_c3, q_c3, v_c3⟩ := lx_c3 (P := P) (w := w) (base := base) (f := T.a_law) (cdv := cdv) (A := A) (outer := outer) (s := s) (H0 := H) (E := E) T hr
    obtain ⟨u_b10, q_b10, v_b10⟩ := lx_b10 (P := P) (w := w) (base := base) (f := T.a_law) (cdv := cdv) (A := A) (outer := outer) (s := s) (H0 := H) (E := E) T hr
    obtain ⟨u_e0, q_e0, v_e0⟩ := lx_e0 (P := P) (w := w) (base := base) (f := T.a_law) (cdv := cdv) (A := A) (outer := outer) (s := s) (H0 := H) (E := E) T hr
    obtain ⟨u_e1, q_e1, v_e1⟩ := lx_e1 (P := P) (w := w) (base := base) (f := T.a_law) (cdv := cdv) (A := A) (outer := outer) (s := s) (H0 := H) (E := E) T hr
    obtain ⟨u_b12, q_b12, v_b12⟩ := lx_b12 (P := P) (w := w) (base := base) (f := T.a_law) (cdv := cdv) (A := A) (outer := outer) (s := s) (H0 := H) (E := E) T hr
    refine ⟨_, pss_cons (ps_set (i := 1) nd rfl (.inl rfl) (pe_lst (pa_cons (pv 0) (pa_cons pe_int (pa_cons pe_int (pa_cons pe_int pa_nil))))))
      (pss_cons (ps_set (i := 2) nd rfl (.inl rfl) (pe_call (ok_parts T) hr2 (by rfl) T.g_lparts T.F_lparts.kp T.b_lparts .nil pass0 (pa_cons (pv 1) (pa_cons pe_int pa_nil))))
      (pss_cons (ps_par (i := 3) (j := 4) rfl nd rfl rfl (by decide) rfl rfl (pa_cons (pe_make T.mkR (ok_init T) hr5 (by rfl) T.gC T.b_rinit .nil pass0 (pa_cons (pe_ix ix_tup (pv 2) pe_int (fun _ _ => rfl)) (pa_cons (pe_ix ix_tup (pv 2) pe_int (fun _ _ => rfl)) pa_nil)))
          (pa_cons (pe_callB call_len_seq (by rfl) T.z_len PySem.boot_len (pa_cons (pe_ix ix_tup (pv 2) pe_int (fun _ _ => rfl)) pa_nil)) pa_nil)) rfl)
      (pss_cons (ps_set (i := 5) nd rfl (.inl rfl) (pe_call (ok_taken T) hr1 (by rfl) T.g_ltaken T.F_ltaken.kp T.b_ltaken .nil pass0 (pa_cons (pv 1) (pa_cons (pv 4) pa_nil))))
      (pss_cons (ps_set (i := 6) nd rfl (.inl rfl) (pe_op (op_shO T.sfC T.shC T.shF T.shN hfo hro T.shS ((ok_shift T).raw T.b_rrshift .nil) hr6 pass0) (pv 3) (pv 5)))
      (pss_cons q_b5 (pss_cons q_b6 (pss_cons q_b7 (pss_cons q_b8
      (pss_cons (ps_for PassesOwn.never rfl (pi_range1 (by rfl) T.z_range (pa_cons (pv 4) pa_nil)) (pg_name (i := 7) nd rfl (.inl rfl)) (pss_cons q_c0 (pss_cons q_c1 (pss_cons q_c2 (pss_one q_c3)))))
      (pss_cons q_b10
      (pss_cons (ps_for PassesOwn.never rfl (pi_range1 (by rfl) T.z_range (pa_cons pe_int pa_nil)) (pg_name (i := 11) nd rfl (.inl rfl)) (pss_cons q_e0 (pss_one q_e1)))
      (pss_one q_b12)))))))))))), ?_⟩
    refine ⟨_, rfl, (by show 4 ≤ sizeLine; decide), fun row hrow => ?_⟩
    have RA0 : RowAt K (upd H row (.lst [.ref a, .int 0, .int 0, .int 0])) row a ns := ⟨⟨0, 0, 0, upd_same, Int.le_refl _⟩, (same_upd hrow).seq hS, far_of hS hrow⟩
    refine ⟨_, rfl, row, a, ns, 7, rfl, RA0, by decide, by decide, fun H2 t td ts ds ss G RA2 _ ht htd hts => ?_⟩
    refine ⟨_, rfl, t, _, 0, _, rfl, rfl, .of ht, atI_nat (j := 0) rfl, _, rfl, t, _, 1, _, rfl, rfl, .of ht, atI_nat (j := 1) rfl, fun p dx np ndx ne => ?_⟩
    have s0 : Same H2 (upd (upd H2 dx (.own p)) p (.ins T.C dx [])) := fun b o e => by
      rw [upd_ne (ne_of_none e np), upd_ne (ne_of_none e ndx)]
      exact e
    refine ⟨p, dx, td, ts, ds, ss, rfl, upd_same, s0 _ _ htd, s0 _ _ hts, G, fun H3 R3 k3 => ⟨rfl, ?_⟩⟩
    have s3 : Same H2 H3 := Same.made np ndx k3
    have ht3 := s3 _ _ ht
    have l2 := G.l2
    have l8 := G.l8
    refine ⟨_, rfl, t, _, 0, _, rfl, rfl, .of ht3, atI_nat (j := 0) rfl, td, _, rfl, .inr (.of R3.td), _, _, rfl, ?_⟩
    rw [List.length_map]
    refine ⟨_, rfl, _, rfl, row, a, ns, _, rfl, RA2.same s3, by omega, by omega, fun k H4 k0 k1 RA4 kk4 => ?_⟩
    have R4 := R3.kp (RA2.same s3) kk4
    have ht4 := tup_kp ht3 (RA2.same s3) kk4
    refine ⟨_, rfl, _, rfl, p, dx, _, k, rfl, rfl, R4.ob, p, dx, td, ts, ds, ss, k, rfl, R4, k0, k1, fun H5 q dq tq sq s5 RQ => ⟨⟨q, rfl⟩, ?_⟩⟩
    have B5 : Bu K T.C H5 row a t p dx td ts q dq tq sq ns ds ss k := ⟨RA4.same s5, R4.same s5, RQ, s5 _ _ ht4, k0, k1⟩
    refine v_b5 _ H5 row a t p dx td ts q dq tq sq ns ds ss k none none none none none none none none none B5 fun H6 s6 => ?_
    have B6 := B5.same s6
    refine v_b6 _ H6 row a t p dx td ts q dq tq sq ns ds ss k none none none none none none none none none B6 fun H7 s7 => ?_
    have B7 := B6.same s7
    refine v_b7 _ H7 row a t p dx td ts q dq tq sq ns ds ss k none none none none none none none none none B7 fun H8 s8 => ?_
    have B8 := B7.same s8
    refine v_b8 _ H8 row a t p dx td ts q dq tq sq ns ds ss k none none none none none none none none none B8 fun H9 s9 => ?_
    have B9 := B8.same s9
    refine ⟨_, rfl, (ds.length : Int), rfl, by omega, by omega, ?_⟩
    refine for_range (lo := 0) (n := ((ds.length : Int)).toNat) (fun i σ H' => (∃ y7 y8 y9 y10 y11 y12 y13 y14 y15, σ = uS a row t p ds.length k q y7 y8 y9 y10 y11 y12 y13 y14 y15) ∧ Bu K T.C H' row a t p dx td ts q dq tq sq ns ds ss k)
      ⟨⟨_, _, _, _, _, _, _, _, _, rfl⟩, B9⟩ ?_ ?_
    · rintro i σ H10 hi ⟨⟨y7, y8, y9, y10, y11, y12, y13, y14, y15, rfl⟩, B10⟩
      show tSeq _ _ _ (uS a row t p ds.length k q (some (.int (0 + (i : Int)))) y8 y9 y10 y11 y12 y13 y14 y15) H10
      rw [show (0 : Int) + (i : Int) = i by omega]
      refine v_c0 _ H10 row a t p dx td ts q dq tq sq ns ds ss k i y8 y9 y10 y11 y12 y13 y14 y15 B10 fun H11 x B11 x0 x1 => ?_
      refine v_c1 _ H11 row a t p dx td ts q dq tq sq ns ds ss k i x y10 y11 y12 y13 y14 y15 B11 (by omega) (by omega) x0 x1 fun H12 s12 => ?_
      have B12 := B11.same s12
      refine v_c2 _ H12 row a t p dx td ts q dq tq sq ns ds ss k i x y10 y11 y12 y13 y14 y15 B12 (by omega) (by omega) x0 x1 fun H13 s13 => ?_
      have B13 := B12.same s13
      refine v_c3 _ H13 row a t p dx td ts q dq tq sq ns ds ss k i x y10 y11 y12 y13 y14 y15 B13 (by omega) (by omega) x0 x1 fun H14 s14 => ?_
      exact ⟨⟨_, _, _, _, _, _, _, _, _, rfl⟩, B13.same s14⟩
    · rintro σ H10 ⟨⟨y7, y8, y9, y10, y11, y12, y13, y14, y15, rfl⟩, B10⟩
      refine v_b10 _ H10 row a t p dx td ts q dq tq sq ns ds ss k y7 y8 y9 y10 y11 y12 y13 y14 y15 B10 fun H11 s11 => ?_
      have B11 := B10.same s11
      refine ⟨3, rfl, by decide, by decide, ?_⟩
      refine for_range (lo := 0) (n := 3) (fun i σ H' => (∃ y11 y12 y13 y14 y15, σ = uS a row t p ds.length k q y7 y8 y9 (some (.int (ss.take k.toNat).sum)) y11 y12 y13 y14 y15) ∧ Bu K T.C H' row a t p dx td ts q dq tq sq ns ds ss k)
        ⟨⟨_, _, _, _, _, rfl⟩, B11⟩ ?_ ?_
      · rintro i σ H12 hi ⟨⟨y11, y12, y13, y14, y15, rfl⟩, B12⟩
        show tSeq _ _ _ (uS a row t p ds.length k q y7 y8 y9 (some (.int (ss.take k.toNat).sum)) (some (.int (0 + (i : Int)))) y12 y13 y14 y15) H12
        refine v_e0 _ H12 row a t p dx td ts q dq tq sq ns ds ss k y7 y8 y9 _ y12 y13 y14 y15 B12 fun H13 b c B13 b0 b1 c0 c1 => ?_
        exact v_e1 _ H13 row a t p dx td ts q dq tq sq ns ds ss k b c y7 y8 y9 _ y14 y15 B13 b0 b1 c0 c1 fun H14 z14 z15 s14 => ⟨⟨_, _, _, _, _, rfl⟩, B13.same s14⟩
      · rintro σ H12 ⟨⟨y11, y12, y13, y14, y15, rfl⟩, B12⟩
        exact v_b12 _ H12 row a t p dx td ts q dq tq sq ns ds ss k y7 y8 y9 _ y11 y12 y13 y14 y15 B12 fun H' => hq H'
end
end Rp
namespace Rp
open PySem PySem.Spec PyProof.Rows L2 Rz Rm
theorem all_mk {l : PySem.W.OpenLaw} {w : World} {K : PySem.W.Frag} {h : Heap} {mg : Str → Option Value} {fa C : Addr} (X : K.In h) (G : h.Ns mainGlobals mg) (hfa : mg "law" = some (.ref fa))
    {f_is_number : Addr} {od_is_number an_is_number : Option Addr} {sl_is_number : Array (Option Value)} {oc_is_number kV_is_number dc_is_number pm_is_number cd_is_number ct_is_number : Value}
    {f_lies_between : Addr} {od_lies_between an_lies_between : Option Addr} {sl_lies_between : Array (Option Value)} {oc_lies_between kV_lies_between dc_lies_between pm_lies_between cd_lies_between ct_lies_between : Value}
    {f_check_number : Addr} {od_check_number an_check_number : Option Addr} {sl_check_number : Array (Option Value)} {oc_check_number kV_check_number dc_check_number pm_check_number cd_check_number ct_check_number : Value}
    {f_check_reader : Addr} {od_check_reader an_check_reader : Option Addr} {sl_check_reader : Array (Option Value)} {oc_check_reader kV_check_reader dc_check_reader pm_check_reader cd_check_reader ct_check_reader : Value}
    {f_rinit : Addr} {od_rinit an_rinit : Option Addr} {sl_rinit : Array (Option Value)} {oc_rinit kV_rinit dc_rinit pm_rinit cd_rinit ct_rinit : Value}
    {f_rdays : Addr} {od_rdays an_rdays : Option Addr} {sl_rdays : Array (Option Value)} {oc_rdays kV_rdays dc_rdays pm_rdays cd_rdays ct_rdays : Value}
    {pp_rdays : Addr} {re_rdays : List Value}
    {f_rstarts : Addr} {od_rstarts an_rstarts : Option Addr} {sl_rstarts : Array (Option Value)} {oc_rstarts kV_rstarts dc_rstarts pm_rstarts cd_rstarts ct_rstarts : Value}
    {pp_rstarts : Addr} {re_rstarts : List Value}
    {f_rbooks : Addr} {od_rbooks an_rbooks : Option Addr} {sl_rbooks : Array (Option Value)} {oc_rbooks kV_rbooks dc_rbooks pm_rbooks cd_rbooks ct_rbooks : Value}
    {pp_rbooks : Addr} {re_rbooks : List Value}
    {f_rpace : Addr} {od_rpace an_rpace : Option Addr} {sl_rpace : Array (Option Value)} {oc_rpace kV_rpace dc_rpace pm_rpace cd_rpace ct_rpace : Value}
    {pp_rpace : Addr} {re_rpace : List Value}
    {f_rlen : Addr} {od_rlen an_rlen : Option Addr} {sl_rlen : Array (Option Value)} {oc_rlen kV_rlen dc_rlen pm_rlen cd_rlen ct_rlen : Value}
    {f_rcall : Addr} {od_rcall an_rcall : Option Addr} {sl_rcall : Array (Option Value)} {oc_rcall kV_rcall dc_rcall pm_rcall cd_rcall ct_rcall : Value}
    {f_rrshift : Addr} {od_rrshift an_rrshift : Option Addr} {sl_rrshift : Array (Option Value)} {oc_rrshift kV_rrshift dc_rrshift pm_rrshift cd_rrshift ct_rrshift : Value}
    {f_req : Addr} {od_req an_req : Option Addr} {sl_req : Array (Option Value)} {oc_req kV_req dc_req pm_req cd_req ct_req : Value}
    {f_check_part : Addr} {od_check_part an_check_part : Option Addr} {sl_check_part : Array (Option Value)} {oc_check_part kV_check_part dc_check_part pm_check_part cd_check_part ct_check_part : Value}
    {f_slowest_decides : Addr} {od_slowest_decides an_slowest_decides : Option Addr} {sl_slowest_decides : Array (Option Value)} {oc_slowest_decides kV_slowest_decides dc_slowest_decides pm_slowest_decides cd_slowest_decides ct_slowest_decides : Value}
    {f_pace_of : Addr} {od_pace_of an_pace_of : Option Addr} {sl_pace_of : Array (Option Value)} {oc_pace_of kV_pace_of dc_pace_of pm_pace_of cd_pace_of ct_pace_of : Value}
    {f_round_pace : Addr} {od_round_pace an_round_pace : Option Addr} {sl_round_pace : Array (Option Value)} {oc_round_pace kV_round_pace dc_round_pace pm_round_pace cd_round_pace ct_round_pace : Value}
    {f_end_day : Addr} {od_end_day an_end_day : Option Addr} {sl_end_day : Array (Option Value)} {oc_end_day kV_end_day dc_end_day pm_end_day cd_end_day ct_end_day : Value}
    {f_heap_on : Addr} {od_heap_on an_heap_on : Option Addr} {sl_heap_on : Array (Option Value)} {oc_heap_on kV_heap_on dc_heap_on pm_heap_on cd_heap_on ct_heap_on : Value}
    {f_longest_heap : Addr} {od_longest_heap an_longest_heap : Option Addr} {sl_longest_heap : Array (Option Value)} {oc_longest_heap kV_longest_heap dc_longest_heap pm_longest_heap cd_longest_heap ct_longest_heap : Value}
    {f_settled : Addr} {od_settled an_settled : Option Addr} {sl_settled : Array (Option Value)} {oc_settled kV_settled dc_settled pm_settled cd_settled ct_settled : Value}
    {f_first_meeting : Addr} {od_first_meeting an_first_meeting : Option Addr} {sl_first_meeting : Array (Option Value)} {oc_first_meeting kV_first_meeting dc_first_meeting pm_first_meeting cd_first_meeting ct_first_meeting : Value}
    {f_check_book : Addr} {od_check_book an_check_book : Option Addr} {sl_check_book : Array (Option Value)} {oc_check_book kV_check_book dc_check_book pm_check_book cd_check_book ct_check_book : Value}
    {f_reader_before : Addr} {od_reader_before an_reader_before : Option Addr} {sl_reader_before : Array (Option Value)} {oc_reader_before kV_reader_before dc_reader_before pm_reader_before cd_reader_before ct_reader_before : Value}
    {f_reader_after : Addr} {od_reader_after an_reader_after : Option Addr} {sl_reader_after : Array (Option Value)} {oc_reader_after kV_reader_after dc_reader_after pm_reader_after cd_reader_after ct_reader_after : Value}
    {f_ended_by : Addr} {od_ended_by an_ended_by : Option Addr} {sl_ended_by : Array (Option Value)} {oc_ended_by kV_ended_by dc_ended_by pm_ended_by cd_ended_by ct_ended_by : Value}
    {f_begun_by : Addr} {od_begun_by an_begun_by : Option Addr} {sl_begun_by : Array (Option Value)} {oc_begun_by kV_begun_by dc_begun_by pm_begun_by cd_begun_by ct_begun_by : Value}
    {f_repetition : Addr} {od_repetition an_repetition : Option Addr} {sl_repetition : Array (Option Value)} {oc_repetition kV_repetition dc_repetition pm_repetition cd_repetition ct_repetition : Value}
    {f_row_repeats : Addr} {od_row_repeats an_row_repeats : Option Addr} {sl_row_repeats : Array (Option Value)} {oc_row_repeats kV_row_repeats dc_row_repeats pm_row_repeats cd_row_repeats ct_row_repeats : Value}
    {f_last_new_day : Addr} {od_last_new_day an_last_new_day : Option Addr} {sl_last_new_day : Array (Option Value)} {oc_last_new_day kV_last_new_day dc_last_new_day pm_last_new_day cd_last_new_day ct_last_new_day : Value}
    {f_first_stay : Addr} {od_first_stay an_first_stay : Option Addr} {sl_first_stay : Array (Option Value)} {oc_first_stay kV_first_stay dc_first_stay pm_first_stay cd_first_stay ct_first_stay : Value}
    {f_next_stay : Addr} {od_next_stay an_next_stay : Option Addr} {sl_next_stay : Array (Option Value)} {oc_next_stay kV_next_stay dc_next_stay pm_next_stay cd_next_stay ct_next_stay : Value}
    {f_first_unlike : Addr} {od_first_unlike an_first_unlike : Option Addr} {sl_first_unlike : Array (Option Value)} {oc_first_unlike kV_first_unlike dc_first_unlike pm_first_unlike cd_first_unlike ct_first_unlike : Value}
    {f_numbers_to_compare : Addr} {od_numbers_to_compare an_numbers_to_compare : Option Addr} {sl_numbers_to_compare : Array (Option Value)} {oc_numbers_to_compare kV_numbers_to_compare dc_numbers_to_compare pm_numbers_to_compare cd_numbers_to_compare ct_numbers_to_compare : Value}
    {f_ltaken : Addr} {od_ltaken an_ltaken : Option Addr} {sl_ltaken : Array (Option Value)} {oc_ltaken kV_ltaken dc_ltaken pm_ltaken cd_ltaken ct_ltaken : Value}
    {f_lgreat : Addr} {od_lgreat an_lgreat : Option Addr} {sl_lgreat : Array (Option Value)} {oc_lgreat kV_lgreat dc_lgreat pm_lgreat cd_lgreat ct_lgreat : Value}
    {f_lparts : Addr} {od_lparts an_lparts : Option Addr} {sl_lparts : Array (Option Value)} {oc_lparts kV_lparts dc_lparts pm_lparts cd_lparts ct_lparts : Value}
    {f_law : Addr} {od_law an_law : Option Addr} {sl_law : Array (Option Value)} {oc_law kV_law dc_law pm_law cd_law ct_law : Value}
    {sh_fo sh_ro : Option Value}
    {t_LATEST : Tok}
    {t_FEWEST_READERS : Tok}
    {t_MOST_READERS : Tok}
    {t_MOST_DAYS : Tok}
    {t_MOST_BOOKS : Tok}
    (aC : PySem.W.nsIn K mainGlobals "Ring" = some (some (.ref C)))
    (x_is_number : PySem.W.nsIn K mainGlobals "is_number" = some (some (.ref f_is_number)))
    (l_is_number : K.lookup f_is_number = some ⟨oc_is_number, od_is_number, .func (PySem.W.fnOf "is_number" "is_number" (defArgs s_is_number) (defBody s_is_number) (defScope s_is_number) .none kV_is_number dc_is_number pm_is_number an_is_number cd_is_number ct_is_number), sl_is_number⟩)
    (c_is_number : PySem.W.codeIn K cd_is_number "is_number" = true)
    (k_is_number : PySem.W.keepIn K (.ref f_is_number) = true)
    (x_lies_between : PySem.W.nsIn K mainGlobals "lies_between" = some (some (.ref f_lies_between)))
    (l_lies_between : K.lookup f_lies_between = some ⟨oc_lies_between, od_lies_between, .func (PySem.W.fnOf "lies_between" "lies_between" (defArgs s_lies_between) (defBody s_lies_between) (defScope s_lies_between) .none kV_lies_between dc_lies_between pm_lies_between an_lies_between cd_lies_between ct_lies_between), sl_lies_between⟩)
    (c_lies_between : PySem.W.codeIn K cd_lies_between "lies_between" = true)
    (k_lies_between : PySem.W.keepIn K (.ref f_lies_between) = true)
    (x_check_number : PySem.W.nsIn K mainGlobals "check_number" = some (some (.ref f_check_number)))
    (l_check_number : K.lookup f_check_number = some ⟨oc_check_number, od_check_number, .func (PySem.W.fnOf "check_number" "check_number" (defArgs s_check_number) (defBody s_check_number) (defScope s_check_number) .none kV_check_number dc_check_number pm_check_number an_check_number cd_check_number ct_check_number), sl_check_number⟩)
    (c_check_number : PySem.W.codeIn K cd_check_number "check_number" = true)
    (k_check_number : PySem.W.keepIn K (.ref f_check_number) = true)
    (x_check_reader : PySem.W.nsIn K mainGlobals "check_reader" = some (some (.ref f_check_reader)))
    (l_check_reader : K.lookup f_check_reader = some ⟨oc_check_reader, od_check_reader, .func (PySem.W.fnOf "check_reader" "check_reader" (defArgs s_check_reader) (defBody s_check_reader) (defScope s_check_reader) .none kV_check_reader dc_check_reader pm_check_reader an_check_reader cd_check_reader ct_check_reader), sl_check_reader⟩)
    (c_check_reader : PySem.W.codeIn K cd_check_reader "check_reader" = true)
    (k_check_reader : PySem.W.keepIn K (.ref f_check_reader) = true)
    (x_rinit : PySem.W.findIn K (.ref C) "__init__" = some (some (.ref f_rinit)))
    (i_rinit : PySem.W.isFn K (.ref f_rinit) = true)
    (l_rinit : K.lookup f_rinit = some ⟨oc_rinit, od_rinit, .func (PySem.W.fnOf "__init__" "Ring.__init__" (defArgs s_rinit) (defBody s_rinit) (defScope s_rinit) .none kV_rinit dc_rinit pm_rinit an_rinit cd_rinit ct_rinit), sl_rinit⟩)
    (c_rinit : PySem.W.codeIn K cd_rinit "Ring.__init__" = true)
    (k_rinit : PySem.W.keepIn K (.ref f_rinit) = true)
    (pa_rdays : PySem.W.findIn K (.ref C) "days" = some (some (.ref pp_rdays)))
    (pg_rdays : PySem.W.specialIn K (.ref pp_rdays) "__get__" = some (some (.builtin "property.__get__")))
    (pt_rdays : PySem.W.takesIn K (.ref pp_rdays) = some true)
    (pr_rdays : PySem.W.recIn K pp_rdays "property" = some (.ref f_rdays :: re_rdays))
    (l_rdays : K.lookup f_rdays = some ⟨oc_rdays, od_rdays, .func (PySem.W.fnOf "days" "Ring.days" (defArgs s_rdays) (defBody s_rdays) (defScope s_rdays) .none kV_rdays dc_rdays pm_rdays an_rdays cd_rdays ct_rdays), sl_rdays⟩)
    (c_rdays : PySem.W.codeIn K cd_rdays "Ring.days" = true)
    (k_rdays : PySem.W.keepIn K (.ref f_rdays) = true)
    (pa_rstarts : PySem.W.findIn K (.ref C) "starts" = some (some (.ref pp_rstarts)))
    (pg_rstarts : PySem.W.specialIn K (.ref pp_rstarts) "__get__" = some (some (.builtin "property.__get__")))
    (pt_rstarts : PySem.W.takesIn K (.ref pp_rstarts) = some true)
    (pr_rstarts : PySem.W.recIn K pp_rstarts "property" = some (.ref f_rstarts :: re_rstarts))
    (l_rstarts : K.lookup f_rstarts = some ⟨oc_rstarts, od_rstarts, .func (PySem.W.fnOf "starts" "Ring.starts" (defArgs s_rstarts) (defBody s_rstarts) (defScope s_rstarts) .none kV_rstarts dc_rstarts pm_rstarts an_rstarts cd_rstarts ct_rstarts), sl_rstarts⟩)
    (c_rstarts : PySem.W.codeIn K cd_rstarts "Ring.starts" = true)
    (k_rstarts : PySem.W.keepIn K (.ref f_rstarts) = true)
    (pa_rbooks : PySem.W.findIn K (.ref C) "books" = some (some (.ref pp_rbooks)))
    (pg_rbooks : PySem.W.specialIn K (.ref pp_rbooks) "__get__" = some (some (.builtin "property.__get__")))
    (pt_rbooks : PySem.W.takesIn K (.ref pp_rbooks) = some true)
    (pr_rbooks : PySem.W.recIn K pp_rbooks "property" = some (.ref f_rbooks :: re_rbooks))
    (l_rbooks : K.lookup f_rbooks = some ⟨oc_rbooks, od_rbooks, .func (PySem.W.fnOf "books" "Ring.books" (defArgs s_rbooks) (defBody s_rbooks) (defScope s_rbooks) .none kV_rbooks dc_rbooks pm_rbooks an_rbooks cd_rbooks ct_rbooks), sl_rbooks⟩)
    (c_rbooks : PySem.W.codeIn K cd_rbooks "Ring.books" = true)
    (k_rbooks : PySem.W.keepIn K (.ref f_rbooks) = true)
    (pa_rpace : PySem.W.findIn K (.ref C) "pace" = some (some (.ref pp_rpace)))
    (pg_rpace : PySem.W.specialIn K (.ref pp_rpace) "__get__" = some (some (.builtin "property.__get__")))
    (pt_rpace : PySem.W.takesIn K (.ref pp_rpace) = some true)
    (pr_rpace : PySem.W.recIn K pp_rpace "property" = some (.ref f_rpace :: re_rpace))
    (l_rpace : K.lookup f_rpace = some ⟨oc_rpace, od_rpace, .func (PySem.W.fnOf "pace" "Ring.pace" (defArgs s_rpace) (defBody s_rpace) (defScope s_rpace) .none kV_rpace dc_rpace pm_rpace an_rpace cd_rpace ct_rpace), sl_rpace⟩)
    (c_rpace : PySem.W.codeIn K cd_rpace "Ring.pace" = true)
    (k_rpace : PySem.W.keepIn K (.ref f_rpace) = true)
    (x_rlen : PySem.W.findIn K (.ref C) "__len__" = some (some (.ref f_rlen)))
    (i_rlen : PySem.W.isFn K (.ref f_rlen) = true)
    (l_rlen : K.lookup f_rlen = some ⟨oc_rlen, od_rlen, .func (PySem.W.fnOf "__len__" "Ring.__len__" (defArgs s_rlen) (defBody s_rlen) (defScope s_rlen) .none kV_rlen dc_rlen pm_rlen an_rlen cd_rlen ct_rlen), sl_rlen⟩)
    (c_rlen : PySem.W.codeIn K cd_rlen "Ring.__len__" = true)
    (k_rlen : PySem.W.keepIn K (.ref f_rlen) = true)
    (x_rcall : PySem.W.findIn K (.ref C) "__call__" = some (some (.ref f_rcall)))
    (i_rcall : PySem.W.isFn K (.ref f_rcall) = true)
    (j_rcall : PySem.W.fnIn K f_rcall = true)
    (l_rcall : K.lookup f_rcall = some ⟨oc_rcall, od_rcall, .func (PySem.W.fnOf "__call__" "Ring.__call__" (defArgs s_rcall) (defBody s_rcall) (defScope s_rcall) .none kV_rcall dc_rcall pm_rcall an_rcall cd_rcall ct_rcall), sl_rcall⟩)
    (c_rcall : PySem.W.codeIn K cd_rcall "Ring.__call__" = true)
    (k_rcall : PySem.W.keepIn K (.ref f_rcall) = true)
    (x_rrshift : PySem.W.findIn K (.ref C) "__rshift__" = some (some (.ref f_rrshift)))
    (i_rrshift : PySem.W.isFn K (.ref f_rrshift) = true)
    (l_rrshift : K.lookup f_rrshift = some ⟨oc_rrshift, od_rrshift, .func (PySem.W.fnOf "__rshift__" "Ring.__rshift__" (defArgs s_rrshift) (defBody s_rrshift) (defScope s_rrshift) .none kV_rrshift dc_rrshift pm_rrshift an_rrshift cd_rrshift ct_rrshift), sl_rrshift⟩)
    (c_rrshift : PySem.W.codeIn K cd_rrshift "Ring.__rshift__" = true)
    (k_rrshift : PySem.W.keepIn K (.ref f_rrshift) = true)
    (x_req : PySem.W.findIn K (.ref C) "__eq__" = some (some (.ref f_req)))
    (i_req : PySem.W.isFn K (.ref f_req) = true)
    (l_req : K.lookup f_req = some ⟨oc_req, od_req, .func (PySem.W.fnOf "__eq__" "Ring.__eq__" (defArgs s_req) (defBody s_req) (defScope s_req) .none kV_req dc_req pm_req an_req cd_req ct_req), sl_req⟩)
    (c_req : PySem.W.codeIn K cd_req "Ring.__eq__" = true)
    (k_req : PySem.W.keepIn K (.ref f_req) = true)
    (x_check_part : PySem.W.nsIn K mainGlobals "check_part" = some (some (.ref f_check_part)))
    (l_check_part : K.lookup f_check_part = some ⟨oc_check_part, od_check_part, .func (PySem.W.fnOf "check_part" "check_part" (defArgs s_check_part) (defBody s_check_part) (defScope s_check_part) .none kV_check_part dc_check_part pm_check_part an_check_part cd_check_part ct_check_part), sl_check_part⟩)
    (c_check_part : PySem.W.codeIn K cd_check_part "check_part" = true)
    (k_check_part : PySem.W.keepIn K (.ref f_check_part) = true)
    (x_slowest_decides : PySem.W.nsIn K mainGlobals "slowest_decides" = some (some (.ref f_slowest_decides)))
    (l_slowest_decides : K.lookup f_slowest_decides = some ⟨oc_slowest_decides, od_slowest_decides, .func (PySem.W.fnOf "slowest_decides" "slowest_decides" (defArgs s_slowest_decides) (defBody s_slowest_decides) (defScope s_slowest_decides) .none kV_slowest_decides dc_slowest_decides pm_slowest_decides an_slowest_decides cd_slowest_decides ct_slowest_decides), sl_slowest_decides⟩)
    (c_slowest_decides : PySem.W.codeIn K cd_slowest_decides "slowest_decides" = true)
    (k_slowest_decides : PySem.W.keepIn K (.ref f_slowest_decides) = true)
    (x_pace_of : PySem.W.nsIn K mainGlobals "pace_of" = some (some (.ref f_pace_of)))
    (l_pace_of : K.lookup f_pace_of = some ⟨oc_pace_of, od_pace_of, .func (PySem.W.fnOf "pace_of" "pace_of" (defArgs s_pace_of) (defBody s_pace_of) (defScope s_pace_of) .none kV_pace_of dc_pace_of pm_pace_of an_pace_of cd_pace_of ct_pace_of), sl_pace_of⟩)
    (c_pace_of : PySem.W.codeIn K cd_pace_of "pace_of" = true)
    (k_pace_of : PySem.W.keepIn K (.ref f_pace_of) = true)
    (x_round_pace : PySem.W.nsIn K mainGlobals "round_pace" = some (some (.ref f_round_pace)))
    (l_round_pace : K.lookup f_round_pace = some ⟨oc_round_pace, od_round_pace, .func (PySem.W.fnOf "round_pace" "round_pace" (defArgs s_round_pace) (defBody s_round_pace) (defScope s_round_pace) .none kV_round_pace dc_round_pace pm_round_pace an_round_pace cd_round_pace ct_round_pace), sl_round_pace⟩)
    (c_round_pace : PySem.W.codeIn K cd_round_pace "round_pace" = true)
    (k_round_pace : PySem.W.keepIn K (.ref f_round_pace) = true)
    (x_end_day : PySem.W.nsIn K mainGlobals "end_day" = some (some (.ref f_end_day)))
    (l_end_day : K.lookup f_end_day = some ⟨oc_end_day, od_end_day, .func (PySem.W.fnOf "end_day" "end_day" (defArgs s_end_day) (defBody s_end_day) (defScope s_end_day) .none kV_end_day dc_end_day pm_end_day an_end_day cd_end_day ct_end_day), sl_end_day⟩)
    (c_end_day : PySem.W.codeIn K cd_end_day "end_day" = true)
    (k_end_day : PySem.W.keepIn K (.ref f_end_day) = true)
    (x_heap_on : PySem.W.nsIn K mainGlobals "heap_on" = some (some (.ref f_heap_on)))
    (l_heap_on : K.lookup f_heap_on = some ⟨oc_heap_on, od_heap_on, .func (PySem.W.fnOf "heap_on" "heap_on" (defArgs s_heap_on) (defBody s_heap_on) (defScope s_heap_on) .none kV_heap_on dc_heap_on pm_heap_on an_heap_on cd_heap_on ct_heap_on), sl_heap_on⟩)
    (c_heap_on : PySem.W.codeIn K cd_heap_on "heap_on" = true)
    (k_heap_on : PySem.W.keepIn K (.ref f_heap_on) = true)
    (x_longest_heap : PySem.W.nsIn K mainGlobals "longest_heap" = some (some (.ref f_longest_heap)))
    (l_longest_heap : K.lookup f_longest_heap = some ⟨oc_longest_heap, od_longest_heap, .func (PySem.W.fnOf "longest_heap" "longest_heap" (defArgs s_longest_heap) (defBody s_longest_heap) (defScope s_longest_heap) .none kV_longest_heap dc_longest_heap pm_longest_heap an_longest_heap cd_longest_heap ct_longest_heap), sl_longest_heap⟩)
    (c_longest_heap : PySem.W.codeIn K cd_longest_heap "longest_heap" = true)
    (k_longest_heap : PySem.W.keepIn K (.ref f_longest_heap) = true)
    (x_settled : PySem.W.nsIn K mainGlobals "settled" = some (some (.ref f_settled)))
    (l_settled : K.lookup f_settled = some ⟨oc_settled, od_settled, .func (PySem.W.fnOf "settled" "settled" (defArgs s_settled) (defBody s_settled) (defScope s_settled) .none kV_settled dc_settled pm_settled an_settled cd_settled ct_settled), sl_settled⟩)
    (c_settled : PySem.W.codeIn K cd_settled "settled" = true)
    (k_settled : PySem.W.keepIn K (.ref f_settled) = true)
    (x_first_meeting : PySem.W.nsIn K mainGlobals "first_meeting" = some (some (.ref f_first_meeting)))
    (l_first_meeting : K.lookup f_first_meeting = some ⟨oc_first_meeting, od_first_meeting, .func (PySem.W.fnOf "first_meeting" "first_meeting" (defArgs s_first_meeting) (defBody s_first_meeting) (defScope s_first_meeting) .none kV_first_meeting dc_first_meeting pm_first_meeting an_first_meeting cd_first_meeting ct_first_meeting), sl_first_meeting⟩)
    (c_first_meeting : PySem.W.codeIn K cd_first_meeting "first_meeting" = true)
    (k_first_meeting : PySem.W.keepIn K (.ref f_first_meeting) = true)
    (x_check_book : PySem.W.nsIn K mainGlobals "check_book" = some (some (.ref f_check_book)))
    (l_check_book : K.lookup f_check_book = some ⟨oc_check_book, od_check_book, .func (PySem.W.fnOf "check_book" "check_book" (defArgs s_check_book) (defBody s_check_book) (defScope s_check_book) .none kV_check_book dc_check_book pm_check_book an_check_book cd_check_book ct_check_book), sl_check_book⟩)
    (c_check_book : PySem.W.codeIn K cd_check_book "check_book" = true)
    (k_check_book : PySem.W.keepIn K (.ref f_check_book) = true)
    (x_reader_before : PySem.W.nsIn K mainGlobals "reader_before" = some (some (.ref f_reader_before)))
    (l_reader_before : K.lookup f_reader_before = some ⟨oc_reader_before, od_reader_before, .func (PySem.W.fnOf "reader_before" "reader_before" (defArgs s_reader_before) (defBody s_reader_before) (defScope s_reader_before) .none kV_reader_before dc_reader_before pm_reader_before an_reader_before cd_reader_before ct_reader_before), sl_reader_before⟩)
    (c_reader_before : PySem.W.codeIn K cd_reader_before "reader_before" = true)
    (k_reader_before : PySem.W.keepIn K (.ref f_reader_before) = true)
    (x_reader_after : PySem.W.nsIn K mainGlobals "reader_after" = some (some (.ref f_reader_after)))
    (l_reader_after : K.lookup f_reader_after = some ⟨oc_reader_after, od_reader_after, .func (PySem.W.fnOf "reader_after" "reader_after" (defArgs s_reader_after) (defBody s_reader_after) (defScope s_reader_after) .none kV_reader_after dc_reader_after pm_reader_after an_reader_after cd_reader_after ct_reader_after), sl_reader_after⟩)
    (c_reader_after : PySem.W.codeIn K cd_reader_after "reader_after" = true)
    (k_reader_after : PySem.W.keepIn K (.ref f_reader_after) = true)
    (x_ended_by : PySem.W.nsIn K mainGlobals "ended_by" = some (some (.ref f_ended_by)))
    (l_ended_by : K.lookup f_ended_by = some ⟨oc_ended_by, od_ended_by, .func (PySem.W.fnOf "ended_by" "ended_by" (defArgs s_ended_by) (defBody s_ended_by) (defScope s_ended_by) .none kV_ended_by dc_ended_by pm_ended_by an_ended_by cd_ended_by ct_ended_by), sl_ended_by⟩)
    (c_ended_by : PySem.W.codeIn K cd_ended_by "ended_by" = true)
    (k_ended_by : PySem.W.keepIn K (.ref f_ended_by) = true)
    (x_begun_by : PySem.W.nsIn K mainGlobals "begun_by" = some (some (.ref f_begun_by)))
    (l_begun_by : K.lookup f_begun_by = some ⟨oc_begun_by, od_begun_by, .func (PySem.W.fnOf "begun_by" "begun_by" (defArgs s_begun_by) (defBody s_begun_by) (defScope s_begun_by) .none kV_begun_by dc_begun_by pm_begun_by an_begun_by cd_begun_by ct_begun_by), sl_begun_by⟩)
    (c_begun_by : PySem.W.codeIn K cd_begun_by "begun_by" = true)
    (k_begun_by : PySem.W.keepIn K (.ref f_begun_by) = true)
    (x_repetition : PySem.W.nsIn K mainGlobals "repetition" = some (some (.ref f_repetition)))
    (l_repetition : K.lookup f_repetition = some ⟨oc_repetition, od_repetition, .func (PySem.W.fnOf "repetition" "repetition" (defArgs s_repetition) (defBody s_repetition) (defScope s_repetition) .none kV_repetition dc_repetition pm_repetition an_repetition cd_repetition ct_repetition), sl_repetition⟩)
    (c_repetition : PySem.W.codeIn K cd_repetition "repetition" = true)
    (k_repetition : PySem.W.keepIn K (.ref f_repetition) = true)
    (x_row_repeats : PySem.W.nsIn K mainGlobals "row_repeats" = some (some (.ref f_row_repeats)))
    (l_row_repeats : K.lookup f_row_repeats = some ⟨oc_row_repeats, od_row_repeats, .func (PySem.W.fnOf "row_repeats" "row_repeats" (defArgs s_row_repeats) (defBody s_row_repeats) (defScope s_row_repeats) .none kV_row_repeats dc_row_repeats pm_row_repeats an_row_repeats cd_row_repeats ct_row_repeats), sl_row_repeats⟩)
    (c_row_repeats : PySem.W.codeIn K cd_row_repeats "row_repeats" = true)
    (k_row_repeats : PySem.W.keepIn K (.ref f_row_repeats) = true)
    (x_last_new_day : PySem.W.nsIn K mainGlobals "last_new_day" = some (some (.ref f_last_new_day)))
    (l_last_new_day : K.lookup f_last_new_day = some ⟨oc_last_new_day, od_last_new_day, .func (PySem.W.fnOf "last_new_day" "last_new_day" (defArgs s_last_new_day) (defBody s_last_new_day) (defScope s_last_new_day) .none kV_last_new_day dc_last_new_day pm_last_new_day an_last_new_day cd_last_new_day ct_last_new_day), sl_last_new_day⟩)
    (c_last_new_day : PySem.W.codeIn K cd_last_new_day "last_new_day" = true)
    (k_last_new_day : PySem.W.keepIn K (.ref f_last_new_day) = true)
    (x_first_stay : PySem.W.nsIn K mainGlobals "first_stay" = some (some (.ref f_first_stay)))
    (l_first_stay : K.lookup f_first_stay = some ⟨oc_first_stay, od_first_stay, .func (PySem.W.fnOf "first_stay" "first_stay" (defArgs s_first_stay) (defBody s_first_stay) (defScope s_first_stay) .none kV_first_stay dc_first_stay pm_first_stay an_first_stay cd_first_stay ct_first_stay), sl_first_stay⟩)
    (c_first_stay : PySem.W.codeIn K cd_first_stay "first_stay" = true)
    (k_first_stay : PySem.W.keepIn K (.ref f_first_stay) = true)
    (x_next_stay : PySem.W.nsIn K mainGlobals "next_stay" = some (some (.ref f_next_stay)))
    (l_next_stay : K.lookup f_next_stay = some ⟨oc_next_stay, od_next_stay, .func (PySem.W.fnOf "next_stay" "next_stay" (defArgs s_next_stay) (defBody s_next_stay) (defScope s_next_stay) .none kV_next_stay dc_next_stay pm_next_stay an_next_stay cd_next_stay ct_next_stay), sl_next_stay⟩)
    (c_next_stay : PySem.W.codeIn K cd_next_stay "next_stay" = true)
    (k_next_stay : PySem.W.keepIn K (.ref f_next_stay) = true)
    (x_first_unlike : PySem.W.nsIn K mainGlobals "first_unlike" = some (some (.ref f_first_unlike)))
    (l_first_unlike : K.lookup f_first_unlike = some ⟨oc_first_unlike, od_first_unlike, .func (PySem.W.fnOf "first_unlike" "first_unlike" (defArgs s_first_unlike) (defBody s_first_unlike) (defScope s_first_unlike) .none kV_first_unlike dc_first_unlike pm_first_unlike an_first_unlike cd_first_unlike ct_first_unlike), sl_first_unlike⟩)
    (c_first_unlike : PySem.W.codeIn K cd_first_unlike "first_unlike" = true)
    (k_first_unlike : PySem.W.keepIn K (.ref f_first_unlike) = true)
    (x_numbers_to_compare : PySem.W.nsIn K mainGlobals "numbers_to_compare" = some (some (.ref f_numbers_to_compare)))
    (l_numbers_to_compare : K.lookup f_numbers_to_compare = some ⟨oc_numbers_to_compare, od_numbers_to_compare, .func (PySem.W.fnOf "numbers_to_compare" "numbers_to_compare" (defArgs s_numbers_to_compare) (defBody s_numbers_to_compare) (defScope s_numbers_to_compare) .none kV_numbers_to_compare dc_numbers_to_compare pm_numbers_to_compare an_numbers_to_compare cd_numbers_to_compare ct_numbers_to_compare), sl_numbers_to_compare⟩)
    (c_numbers_to_compare : PySem.W.codeIn K cd_numbers_to_compare "numbers_to_compare" = true)
    (k_numbers_to_compare : PySem.W.keepIn K (.ref f_numbers_to_compare) = true)
    (x_ltaken : PySem.W.nsIn K mainGlobals "_law_taken" = some (some (.ref f_ltaken)))
    (l_ltaken : K.lookup f_ltaken = some ⟨oc_ltaken, od_ltaken, .func (PySem.W.fnOf "_law_taken" "_law_taken" (defArgs s_ltaken) (defBody s_ltaken) (defScope s_ltaken) .none kV_ltaken dc_ltaken pm_ltaken an_ltaken cd_ltaken ct_ltaken), sl_ltaken⟩)
    (c_ltaken : PySem.W.codeIn K cd_ltaken "_law_taken" = true)
    (k_ltaken : PySem.W.keepIn K (.ref f_ltaken) = true)
    (x_lgreat : PySem.W.nsIn K mainGlobals "_law_great" = some (some (.ref f_lgreat)))
    (l_lgreat : K.lookup f_lgreat = some ⟨oc_lgreat, od_lgreat, .func (PySem.W.fnOf "_law_great" "_law_great" (defArgs s_lgreat) (defBody s_lgreat) (defScope s_lgreat) .none kV_lgreat dc_lgreat pm_lgreat an_lgreat cd_lgreat ct_lgreat), sl_lgreat⟩)
    (c_lgreat : PySem.W.codeIn K cd_lgreat "_law_great" = true)
    (k_lgreat : PySem.W.keepIn K (.ref f_lgreat) = true)
    (x_lparts : PySem.W.nsIn K mainGlobals "_law_parts" = some (some (.ref f_lparts)))
    (l_lparts : K.lookup f_lparts = some ⟨oc_lparts, od_lparts, .func (PySem.W.fnOf "_law_parts" "_law_parts" (defArgs s_lparts) (defBody s_lparts) (defScope s_lparts) .none kV_lparts dc_lparts pm_lparts an_lparts cd_lparts ct_lparts), sl_lparts⟩)
    (c_lparts : PySem.W.codeIn K cd_lparts "_law_parts" = true)
    (k_lparts : PySem.W.keepIn K (.ref f_lparts) = true)
    (x_law : PySem.W.nsIn K mainGlobals "law" = some (some (.ref f_law)))
    (l_law : K.lookup f_law = some ⟨oc_law, od_law, .func (PySem.W.fnOf "law" "law" (defArgs s_law) (defBody s_law) (defScope s_law) .none kV_law dc_law pm_law an_law cd_law ct_law), sl_law⟩)
    (c_law : PySem.W.codeIn K cd_law "law" = true)
    (k_law : PySem.W.keepIn K (.ref f_law) = true)
    (pgC : PySem.W.plainGet K C Str.empty = true)
    (hdC : PySem.W.hasDictIn K C = true)
    (poC : PySem.W.plainOver K C = true)
    (saC : PySem.W.findIn K (.ref C) "__setattr__" = some (some (.builtin "object.__setattr__")))
    (mkC : PySem.W.makesIn K C = true)
    (kC : PySem.W.keepIn K (.ref C) = true)
    (shN : PySem.W.findIn K (.ref C) "__rrshift__" = some none)
    (shI : PySem.W.findIn K (.type "int") "__rshift__" = some sh_fo)
    (shJ : PySem.W.findIn K (.type "int") "__rrshift__" = some sh_ro)
    (shS : PySem.W.subIn K (.type "int") (.ref C) = some false)
    (sfC : PySem.W.selfFirst K C = true)
    (clsC : PySem.W.findIn K (.ref C) "__class__" = some (some (.builtin "object.__class__")))
    (clsG : PySem.W.specialIn K (.builtin "object.__class__") "__get__" = some (some (.builtin "getset_descriptor.__get__")))
    (clsT : PySem.W.takesIn K (.builtin "object.__class__") = some true)
    (clsM : PySem.W.mroIn K C (.type "object") = some true)
    (nD : PySem.W.findIn K (.ref C) "_days" = some none)
    (nS : PySem.W.findIn K (.ref C) "_starts" = some none)
    (v_LATEST : PySem.W.nsIn K mainGlobals "LATEST" = some (some (.int 1000000000000000000 t_LATEST)))
    (v_FEWEST_READERS : PySem.W.nsIn K mainGlobals "FEWEST_READERS" = some (some (.int 2 t_FEWEST_READERS)))
    (v_MOST_READERS : PySem.W.nsIn K mainGlobals "MOST_READERS" = some (some (.int 8 t_MOST_READERS)))
    (v_MOST_DAYS : PySem.W.nsIn K mainGlobals "MOST_DAYS" = some (some (.int 30 t_MOST_DAYS)))
    (v_MOST_BOOKS : PySem.W.nsIn K mainGlobals "MOST_BOOKS" = some (some (.int 12 t_MOST_BOOKS)))
    (v_gcd : PySem.W.nsIn K mainGlobals "gcd" = some (some (.builtin "math.gcd")))
    (v_lcm : PySem.W.nsIn K mainGlobals "lcm" = some (some (.builtin "math.lcm")))
    (z_len : PySem.W.nsIn K mainGlobals "len" = some none)
    (z_sum : PySem.W.nsIn K mainGlobals "sum" = some none)
    (z_max : PySem.W.nsIn K mainGlobals "max" = some none)
    (z_min : PySem.W.nsIn K mainGlobals "min" = some none)
    (z_range : PySem.W.nsIn K mainGlobals "range" = some none)
    (z_int : PySem.W.nsIn K mainGlobals "int" = some none)
    (z_bool : PySem.W.nsIn K mainGlobals "bool" = some none)
    (z_isinstance : PySem.W.nsIn K mainGlobals "isinstance" = some none)
    (z_tuple : PySem.W.nsIn K mainGlobals "tuple" = some none)
    (z_enumerate : PySem.W.nsIn K mainGlobals "enumerate" = some none)
    (z_list : PySem.W.nsIn K mainGlobals "list" = some none)
    (z_str : PySem.W.nsIn K mainGlobals "str" = some none)
    (z_sorted : PySem.W.nsIn K mainGlobals "sorted" = some none)
    (z_zip : PySem.W.nsIn K mainGlobals "zip" = some none)
    : ∃ fd : FuncData, (∀ (s : Shared) (v : Value), BindsTo s fd ⟨[v], []⟩ [("_law_script", v)]) ∧ ∀ base : Heap, K.In base → base.Ns mainGlobals mg → FnOk l.prog w K mg base CX0 12 fa fd ["_law_script"] (spLaw K) := by
  have e := hfa.symm.trans (PySem.W.mg_of X G x_law)
  cases e
  have F_is_number := fun_mk (st := s_is_number) l_is_number c_is_number k_is_number
  have b_is_number := F_is_number.binds (ps := P_is_number) fun _ _ _ _ _ _ us hl => match us, hl with | [_], _ => rfl
  have F_lies_between := fun_mk (st := s_lies_between) l_lies_between c_lies_between k_lies_between
  have b_lies_between := F_lies_between.binds (ps := P_lies_between) fun _ _ _ _ _ _ us hl => match us, hl with | [_, _, _], _ => rfl
  have F_check_number := fun_mk (st := s_check_number) l_check_number c_check_number k_check_number
  have b_check_number := F_check_number.binds (ps := P_check_number) fun _ _ _ _ _ _ us hl => match us, hl with | [_, _, _], _ => rfl
  have F_check_reader := fun_mk (st := s_check_reader) l_check_reader c_check_reader k_check_reader
  have b_check_reader := F_check_reader.binds (ps := P_check_reader) fun _ _ _ _ _ _ us hl => match us, hl with | [_, _], _ => rfl
  have F_rinit := fun_mk (st := s_rinit) l_rinit c_rinit k_rinit
  have b_rinit := F_rinit.binds (ps := P_rinit) fun _ _ _ _ _ _ us hl => match us, hl with | [_, _, _], _ => rfl
  have F_rdays := fun_mk (st := s_rdays) l_rdays c_rdays k_rdays
  have b_rdays := F_rdays.binds (ps := P_rdays) fun _ _ _ _ _ _ us hl => match us, hl with | [_], _ => rfl
  have F_rstarts := fun_mk (st := s_rstarts) l_rstarts c_rstarts k_rstarts
  have b_rstarts := F_rstarts.binds (ps := P_rstarts) fun _ _ _ _ _ _ us hl => match us, hl with | [_], _ => rfl
  have F_rbooks := fun_mk (st := s_rbooks) l_rbooks c_rbooks k_rbooks
  have b_rbooks := F_rbooks.binds (ps := P_rbooks) fun _ _ _ _ _ _ us hl => match us, hl with | [_], _ => rfl
  have F_rpace := fun_mk (st := s_rpace) l_rpace c_rpace k_rpace
  have b_rpace := F_rpace.binds (ps := P_rpace) fun _ _ _ _ _ _ us hl => match us, hl with | [_], _ => rfl
  have F_rlen := fun_mk (st := s_rlen) l_rlen c_rlen k_rlen
  have b_rlen := F_rlen.binds (ps := P_rlen) fun _ _ _ _ _ _ us hl => match us, hl with | [_], _ => rfl
  have F_rcall := fun_mk (st := s_rcall) l_rcall c_rcall k_rcall
  have b_rcall := F_rcall.binds (ps := P_rcall) fun _ _ _ _ _ _ us hl => match us, hl with | [_, _, _], _ => rfl
  have F_rrshift := fun_mk (st := s_rrshift) l_rrshift c_rrshift k_rrshift
  have b_rrshift := F_rrshift.binds (ps := P_rrshift) fun _ _ _ _ _ _ us hl => match us, hl with | [_, _], _ => rfl
  have F_req := fun_mk (st := s_req) l_req c_req k_req
  have b_req := F_req.binds (ps := P_req) fun _ _ _ _ _ _ us hl => match us, hl with | [_, _], _ => rfl
  have F_check_part := fun_mk (st := s_check_part) l_check_part c_check_part k_check_part
  have b_check_part := F_check_part.binds (ps := P_check_part) fun _ _ _ _ _ _ us hl => match us, hl with | [_, _, _, _], _ => rfl
  have F_slowest_decides := fun_mk (st := s_slowest_decides) l_slowest_decides c_slowest_decides k_slowest_decides
  have b_slowest_decides := F_slowest_decides.binds (ps := P_slowest_decides) fun _ _ _ _ _ _ us hl => match us, hl with | [_, _], _ => rfl
  have F_pace_of := fun_mk (st := s_pace_of) l_pace_of c_pace_of k_pace_of
  have b_pace_of := F_pace_of.binds (ps := P_pace_of) fun _ _ _ _ _ _ us hl => match us, hl with | [_, _], _ => rfl
  have F_round_pace := fun_mk (st := s_round_pace) l_round_pace c_round_pace k_round_pace
  have b_round_pace := F_round_pace.binds (ps := P_round_pace) fun _ _ _ _ _ _ us hl => match us, hl with | [_, _], _ => rfl
  have F_end_day := fun_mk (st := s_end_day) l_end_day c_end_day k_end_day
  have b_end_day := F_end_day.binds (ps := P_end_day) fun _ _ _ _ _ _ us hl => match us, hl with | [_, _, _], _ => rfl
  have F_heap_on := fun_mk (st := s_heap_on) l_heap_on c_heap_on k_heap_on
  have b_heap_on := F_heap_on.binds (ps := P_heap_on) fun _ _ _ _ _ _ us hl => match us, hl with | [_, _, _], _ => rfl
  have F_longest_heap := fun_mk (st := s_longest_heap) l_longest_heap c_longest_heap k_longest_heap
  have b_longest_heap := F_longest_heap.binds (ps := P_longest_heap) fun _ _ _ _ _ _ us hl => match us, hl with | [_, _], _ => rfl
  have F_settled := fun_mk (st := s_settled) l_settled c_settled k_settled
  have b_settled := F_settled.binds (ps := P_settled) fun _ _ _ _ _ _ us hl => match us, hl with | [_], _ => rfl
  have F_first_meeting := fun_mk (st := s_first_meeting) l_first_meeting c_first_meeting k_first_meeting
  have b_first_meeting := F_first_meeting.binds (ps := P_first_meeting) fun _ _ _ _ _ _ us hl => match us, hl with | [_, _, _], _ => rfl
  have F_check_book := fun_mk (st := s_check_book) l_check_book c_check_book k_check_book
  have b_check_book := F_check_book.binds (ps := P_check_book) fun _ _ _ _ _ _ us hl => match us, hl with | [_, _], _ => rfl
  have F_reader_before := fun_mk (st := s_reader_before) l_reader_before c_reader_before k_reader_before
  have b_reader_before := F_reader_before.binds (ps := P_reader_before) fun _ _ _ _ _ _ us hl => match us, hl with | [_, _], _ => rfl
  have F_reader_after := fun_mk (st := s_reader_after) l_reader_after c_reader_after k_reader_after
  have b_reader_after := F_reader_after.binds (ps := P_reader_after) fun _ _ _ _ _ _ us hl => match us, hl with | [_, _], _ => rfl
  have F_ended_by := fun_mk (st := s_ended_by) l_ended_by c_ended_by k_ended_by
  have b_ended_by := F_ended_by.binds (ps := P_ended_by) fun _ _ _ _ _ _ us hl => match us, hl with | [_, _, _], _ => rfl
  have F_begun_by := fun_mk (st := s_begun_by) l_begun_by c_begun_by k_begun_by
  have b_begun_by := F_begun_by.binds (ps := P_begun_by) fun _ _ _ _ _ _ us hl => match us, hl with | [_, _, _], _ => rfl
  have F_repetition := fun_mk (st := s_repetition) l_repetition c_repetition k_repetition
  have b_repetition := F_repetition.binds (ps := P_repetition) fun _ _ _ _ _ _ us hl => match us, hl with | [_], _ => rfl
  have F_row_repeats := fun_mk (st := s_row_repeats) l_row_repeats c_row_repeats k_row_repeats
  have b_row_repeats := F_row_repeats.binds (ps := P_row_repeats) fun _ _ _ _ _ _ us hl => match us, hl with | [_, _, _, _], _ => rfl
  have F_last_new_day := fun_mk (st := s_last_new_day) l_last_new_day c_last_new_day k_last_new_day
  have b_last_new_day := F_last_new_day.binds (ps := P_last_new_day) fun _ _ _ _ _ _ us hl => match us, hl with | [_], _ => rfl
  have F_first_stay := fun_mk (st := s_first_stay) l_first_stay c_first_stay k_first_stay
  have b_first_stay := F_first_stay.binds (ps := P_first_stay) fun _ _ _ _ _ _ us hl => match us, hl with | [_, _], _ => rfl
  have F_next_stay := fun_mk (st := s_next_stay) l_next_stay c_next_stay k_next_stay
  have b_next_stay := F_next_stay.binds (ps := P_next_stay) fun _ _ _ _ _ _ us hl => match us, hl with | [_, _], _ => rfl
  have F_first_unlike := fun_mk (st := s_first_unlike) l_first_unlike c_first_unlike k_first_unlike
  have b_first_unlike := F_first_unlike.binds (ps := P_first_unlike) fun _ _ _ _ _ _ us hl => match us, hl with | [_, _], _ => rfl
  have F_numbers_to_compare := fun_mk (st := s_numbers_to_compare) l_numbers_to_compare c_numbers_to_compare k_numbers_to_compare
  have b_numbers_to_compare := F_numbers_to_compare.binds (ps := P_numbers_to_compare) fun _ _ _ _ _ _ us hl => match us, hl with | [_, _], _ => rfl
  have F_ltaken := fun_mk (st := s_ltaken) l_ltaken c_ltaken k_ltaken
  have b_ltaken := F_ltaken.binds (ps := P_ltaken) fun _ _ _ _ _ _ us hl => match us, hl with | [_, _], _ => rfl
  have F_lgreat := fun_mk (st := s_lgreat) l_lgreat c_lgreat k_lgreat
  have b_lgreat := F_lgreat.binds (ps := P_lgreat) fun _ _ _ _ _ _ us hl => match us, hl with | [_, _], _ => rfl
  have F_lparts := fun_mk (st := s_lparts) l_lparts c_lparts k_lparts
  have b_lparts := F_lparts.binds (ps := P_lparts) fun _ _ _ _ _ _ us hl => match us, hl with | [_, _], _ => rfl
  have F_law := fun_mk (st := s_law) l_law c_law k_law
  have b_law := F_law.binds (ps := P_law) fun _ _ _ _ _ _ us hl => match us, hl with | [_], _ => rfl
  exact ⟨_, fun s v => .of_eq rfl, fun base _ _ => ok_law (mg := mg) {
    C := C,
    a_is_number := f_is_number, d_is_number := _, F_is_number := F_is_number, b_is_number := b_is_number,
    g_is_number := PySem.W.mg_of X G x_is_number,
    a_lies_between := f_lies_between, d_lies_between := _, F_lies_between := F_lies_between, b_lies_between := b_lies_between,
    g_lies_between := PySem.W.mg_of X G x_lies_between,
    a_check_number := f_check_number, d_check_number := _, F_check_number := F_check_number, b_check_number := b_check_number,
    g_check_number := PySem.W.mg_of X G x_check_number,
    a_check_reader := f_check_reader, d_check_reader := _, F_check_reader := F_check_reader, b_check_reader := b_check_reader,
    g_check_reader := PySem.W.mg_of X G x_check_reader,
    a_rinit := f_rinit, d_rinit := _, F_rinit := F_rinit, b_rinit := b_rinit,
    a_rdays := f_rdays, d_rdays := _, F_rdays := F_rdays, b_rdays := b_rdays,
    a_rstarts := f_rstarts, d_rstarts := _, F_rstarts := F_rstarts, b_rstarts := b_rstarts,
    a_rbooks := f_rbooks, d_rbooks := _, F_rbooks := F_rbooks, b_rbooks := b_rbooks,
    a_rpace := f_rpace, d_rpace := _, F_rpace := F_rpace, b_rpace := b_rpace,
    a_rlen := f_rlen, d_rlen := _, F_rlen := F_rlen, b_rlen := b_rlen,
    a_rcall := f_rcall, d_rcall := _, F_rcall := F_rcall, b_rcall := b_rcall,
    a_rrshift := f_rrshift, d_rrshift := _, F_rrshift := F_rrshift, b_rrshift := b_rrshift,
    a_req := f_req, d_req := _, F_req := F_req, b_req := b_req,
    a_check_part := f_check_part, d_check_part := _, F_check_part := F_check_part, b_check_part := b_check_part,
    g_check_part := PySem.W.mg_of X G x_check_part,
    a_slowest_decides := f_slowest_decides, d_slowest_decides := _, F_slowest_decides := F_slowest_decides, b_slowest_decides := b_slowest_decides,
    g_slowest_decides := PySem.W.mg_of X G x_slowest_decides,
    a_pace_of := f_pace_of, d_pace_of := _, F_pace_of := F_pace_of, b_pace_of := b_pace_of,
    g_pace_of := PySem.W.mg_of X G x_pace_of,
    a_round_pace := f_round_pace, d_round_pace := _, F_round_pace := F_round_pace, b_round_pace := b_round_pace,
    g_round_pace := PySem.W.mg_of X G x_round_pace,
    a_end_day := f_end_day, d_end_day := _, F_end_day := F_end_day, b_end_day := b_end_day,
    g_end_day := PySem.W.mg_of X G x_end_day,
    a_heap_on := f_heap_on, d_heap_on := _, F_heap_on := F_heap_on, b_heap_on := b_heap_on,
    g_heap_on := PySem.W.mg_of X G x_heap_on,
    a_longest_heap := f_longest_heap, d_longest_heap := _, F_longest_heap := F_longest_heap, b_longest_heap := b_longest_heap,
    g_longest_heap := PySem.W.mg_of X G x_longest_heap,
    a_settled := f_settled, d_settled := _, F_settled := F_settled, b_settled := b_settled,
    g_settled := PySem.W.mg_of X G x_settled,
    a_first_meeting := f_first_meeting, d_first_meeting := _, F_first_meeting := F_first_meeting, b_first_meeting := b_first_meeting,
    g_first_meeting := PySem.W.mg_of X G x_first_meeting,
    a_check_book := f_check_book, d_check_book := _, F_check_book := F_check_book, b_check_book := b_check_book,
    g_check_book := PySem.W.mg_of X G x_check_book,
    a_reader_before := f_reader_before, d_reader_before := _, F_reader_before := F_reader_before, b_reader_before := b_reader_before,
    g_reader_before := PySem.W.mg_of X G x_reader_before,
    a_reader_after := f_reader_after, d_reader_after := _, F_reader_after := F_reader_after, b_reader_after := b_reader_after,
    g_reader_after := PySem.W.mg_of X G x_reader_after,
    a_ended_by := f_ended_by, d_ended_by := _, F_ended_by := F_ended_by, b_ended_by := b_ended_by,
    g_ended_by := PySem.W.mg_of X G x_ended_by,
    a_begun_by := f_begun_by, d_begun_by := _, F_begun_by := F_begun_by, b_begun_by := b_begun_by,
    g_begun_by := PySem.W.mg_of X G x_begun_by,
    a_repetition := f_repetition, d_repetition := _, F_repetition := F_repetition, b_repetition := b_repetition,
    g_repetition := PySem.W.mg_of X G x_repetition,
    a_row_repeats := f_row_repeats, d_row_repeats := _, F_row_repeats := F_row_repeats, b_row_repeats := b_row_repeats,
    g_row_repeats := PySem.W.mg_of X G x_row_repeats,
    a_last_new_day := f_last_new_day, d_last_new_day := _, F_last_new_day := F_last_new_day, b_last_new_day := b_last_new_day,
    g_last_new_day := PySem.W.mg_of X G x_last_new_day,
    a_first_stay := f_first_stay, d_first_stay := _, F_first_stay := F_first_stay, b_first_stay := b_first_stay,
    g_first_stay := PySem.W.mg_of X G x_first_stay,
    a_next_stay := f_next_stay, d_next_stay := _, F_next_stay := F_next_stay, b_next_stay := b_next_stay,
    g_next_stay := PySem.W.mg_of X G x_next_stay,
    a_first_unlike := f_first_unlike, d_first_unlike := _, F_first_unlike := F_first_unlike, b_first_unlike := b_first_unlike,
    g_first_unlike := PySem.W.mg_of X G x_first_unlike,
    a_numbers_to_compare := f_numbers_to_compare, d_numbers_to_compare := _, F_numbers_to_compare := F_numbers_to_compare, b_numbers_to_compare := b_numbers_to_compare,
    g_numbers_to_compare := PySem.W.mg_of X G x_numbers_to_compare,
    a_ltaken := f_ltaken, d_ltaken := _, F_ltaken := F_ltaken, b_ltaken := b_ltaken,
    g_ltaken := PySem.W.mg_of X G x_ltaken,
    a_lgreat := f_lgreat, d_lgreat := _, F_lgreat := F_lgreat, b_lgreat := b_lgreat,
    g_lgreat := PySem.W.mg_of X G x_lgreat,
    a_lparts := f_lparts, d_lparts := _, F_lparts := F_lparts, b_lparts := b_lparts,
    g_lparts := PySem.W.mg_of X G x_lparts,
    a_law := _, d_law := _, F_law := F_law, b_law := b_law,
    g_law := PySem.W.mg_of X G x_law,
    cl := ⟨pgC, hdC, poC, saC⟩, nD := nD, nS := nS, mkR := ⟨mkC, x_rinit, i_rinit, kC⟩, gC := PySem.W.mg_of X G aC,
    p_rdays := pp_rdays, q_rdays := ⟨pa_rdays, pg_rdays, pt_rdays, ⟨_, pr_rdays⟩⟩,
    p_rstarts := pp_rstarts, q_rstarts := ⟨pa_rstarts, pg_rstarts, pt_rstarts, ⟨_, pr_rstarts⟩⟩,
    p_rbooks := pp_rbooks, q_rbooks := ⟨pa_rbooks, pg_rbooks, pt_rbooks, ⟨_, pr_rbooks⟩⟩,
    p_rpace := pp_rpace, q_rpace := ⟨pa_rpace, pg_rpace, pt_rpace, ⟨_, pr_rpace⟩⟩,
    shC := x_rrshift, shF := i_rrshift, shN := shN, shI := ⟨_, shI⟩, shJ := ⟨_, shJ⟩, shS := shS, sfC := sfC,
    clsC := clsC, clsG := clsG, clsT := clsT, clsM := clsM, eqC := x_req, eqF := i_req, kC := kC,
    lenC := x_rlen, lenF := i_rlen, callC := ⟨x_rcall, i_rcall, j_rcall⟩,
    c_LATEST := ⟨_, PySem.W.mg_of X G v_LATEST⟩,
    c_FEWEST_READERS := ⟨_, PySem.W.mg_of X G v_FEWEST_READERS⟩,
    c_MOST_READERS := ⟨_, PySem.W.mg_of X G v_MOST_READERS⟩,
    c_MOST_DAYS := ⟨_, PySem.W.mg_of X G v_MOST_DAYS⟩,
    c_MOST_BOOKS := ⟨_, PySem.W.mg_of X G v_MOST_BOOKS⟩,
    g_gcd := PySem.W.mg_of X G v_gcd,
    g_lcm := PySem.W.mg_of X G v_lcm,
    z_len := PySem.W.mg_none_of X G z_len,
    z_sum := PySem.W.mg_none_of X G z_sum,
    z_max := PySem.W.mg_none_of X G z_max,
    z_min := PySem.W.mg_none_of X G z_min,
    z_range := PySem.W.mg_none_of X G z_range,
    z_int := PySem.W.mg_none_of X G z_int,
    z_bool := PySem.W.mg_none_of X G z_bool,
    z_isinstance := PySem.W.mg_none_of X G z_isinstance,
    z_tuple := PySem.W.mg_none_of X G z_tuple,
    z_enumerate := PySem.W.mg_none_of X G z_enumerate,
    z_list := PySem.W.mg_none_of X G z_list,
    z_str := PySem.W.mg_none_of X G z_str,
    z_sorted := PySem.W.mg_none_of X G z_sorted,
    z_zip := PySem.W.mg_none_of X G z_zip }⟩
end Rp
open PySem PySem.W PyProof.Rows
set_option maxRecDepth 100000 in
set_option maxHeartbeats 0 in
theorem PySem.Challenge.cw_readingring_k55_whole_rings_from_another_holds : PySem.Challenge.rw_readingring_k55_whole_rings_from_another.Holds := by
  w_on; o_law; k_head; (case hw => w_witness2)
  k_fill
  refine L2.walk_of (l := PySem.Challenge.rw_readingring_k55_whole_rings_from_another) (n := 63) (k := 12) (x := "_law_script") (CX := fun _ => L2.CX0) (sp := fun w => Rp.spLaw _) rfl (by decide) rfl ⟨rfl, by decide, by decide⟩ (fun w h Y => PySem.W.kIn_of Y) ?F (fun _ _ a ns hl _ hS => ⟨a, ns, rfl, hS, hl, fun _ => rfl⟩) (fun _ _ _ _ _ h => h)
  case F =>
    intro w mg fa h KX G hmg
    refine' Rp.all_mk KX G hmg ?aC ?x_is_number ?l_is_number ?c_is_number ?k_is_number ?x_lies_between ?l_lies_between ?c_lies_between ?k_lies_between ?x_check_number ?l_check_number ?c_check_number ?k_check_number ?x_check_reader ?l_check_reader ?c_check_reader ?k_check_reader ?x_rinit ?i_rinit ?l_rinit ?c_rinit ?k_rinit ?pa_rdays ?pg_rdays ?pt_rdays ?pr_rdays ?l_rdays ?c_rdays ?k_rdays ?pa_rstarts ?pg_rstarts ?pt_rstarts ?pr_rstarts ?l_rstarts ?c_rstarts ?k_rstarts ?pa_rbooks ?pg_rbooks ?pt_rbooks ?pr_rbooks ?l_rbooks ?c_rbooks ?k_rbooks ?pa_rpace ?pg_rpace ?pt_rpace ?pr_rpace ?l_rpace ?c_rpace ?k_rpace ?x_rlen ?i_rlen ?l_rlen ?c_rlen ?k_rlen ?x_rcall ?i_rcall ?j_rcall ?l_rcall ?c_rcall ?k_rcall ?x_rrshift ?i_rrshift ?l_rrshift ?c_rrshift ?k_rrshift ?x_req ?i_req ?l_req ?c_req ?k_req ?x_check_part ?l_check_part ?c_check_part ?k_check_part ?x_slowest_decides ?l_slowest_decides ?c_slowest_decides ?k_slowest_decides ?x_pace_of ?l_pace_of ?c_pace_of ?k_pace_of ?x_round_pace ?l_round_pace ?c_round_pace ?k_round_pace ?x_end_day ?l_end_day ?c_end_day ?k_end_day ?x_heap_on ?l_heap_on ?c_heap_on ?k_heap_on ?x_longest_heap ?l_longest_heap ?c_longest_heap ?k_longest_heap ?x_settled ?l_settled ?c_settled ?k_settled ?x_first_meeting ?l_first_meeting ?c_first_meeting ?k_first_meeting ?x_check_book ?l_check_book ?c_check_book ?k_check_book ?x_reader_before ?l_reader_before ?c_reader_before ?k_reader_before ?x_reader_after ?l_reader_after ?c_reader_after ?k_reader_after ?x_ended_by ?l_ended_by ?c_ended_by ?k_ended_by ?x_begun_by ?l_begun_by ?c_begun_by ?k_begun_by ?x_repetition ?l_repetition ?c_repetition ?k_repetition ?x_row_repeats ?l_row_repeats ?c_row_repeats ?k_row_repeats ?x_last_new_day ?l_last_new_day ?c_last_new_day ?k_last_new_day ?x_first_stay ?l_first_stay ?c_first_stay ?k_first_stay ?x_next_stay ?l_next_stay ?c_next_stay ?k_next_stay ?x_first_unlike ?l_first_unlike ?c_first_unlike ?k_first_unlike ?x_numbers_to_compare ?l_numbers_to_compare ?c_numbers_to_compare ?k_numbers_to_compare ?x_ltaken ?l_ltaken ?c_ltaken ?k_ltaken ?x_lgreat ?l_lgreat ?c_lgreat ?k_lgreat ?x_lparts ?l_lparts ?c_lparts ?k_lparts ?x_law ?l_law ?c_law ?k_law ?pgC ?hdC ?poC ?saC ?mkC ?kC ?shN ?shI ?shJ ?shS ?sfC ?clsC ?clsG ?clsT ?clsM ?nD ?nS ?v_LATEST ?v_FEWEST_READERS ?v_MOST_READERS ?v_MOST_DAYS ?v_MOST_BOOKS ?v_gcd ?v_lcm ?z_len ?z_sum ?z_max ?z_min ?z_range ?z_int ?z_bool ?z_isinstance ?z_tuple ?z_enumerate ?z_list ?z_str ?z_sorted ?z_zip
    (case aC => k_is); (case x_is_number => k_is); (case l_is_number => k_is); (case c_is_number => k_is); (case k_is_number => k_is); (case x_lies_between => k_is); (case l_lies_between => k_is); (case c_lies_between => k_is)
    (case k_lies_between => k_is); (case x_check_number => k_is); (case l_check_number => k_is); (case c_check_number => k_is); (case k_check_number => k_is); (case x_check_reader => k_is); (case l_check_reader => k_is); (case c_check_reader => k_is)
    (case k_check_reader => k_is); (case x_rinit => k_is); (case i_rinit => k_is); (case l_rinit => k_is); (case c_rinit => k_is); (case k_rinit => k_is); (case pa_rdays => k_is); (case pg_rdays => k_is)
    (case pt_rdays => k_is); (case pr_rdays => k_is); (case l_rdays => k_is); (case c_rdays => k_is); (case k_rdays => k_is); (case pa_rstarts => k_is); (case pg_rstarts => k_is); (case pt_rstarts => k_is)
    (case pr_rstarts => k_is); (case l_rstarts => k_is); (case c_rstarts => k_is); (case k_rstarts => k_is); (case pa_rbooks => k_is); (case pg_rbooks => k_is); (case pt_rbooks => k_is); (case pr_rbooks => k_is)
    (case l_rbooks => k_is); (case c_rbooks => k_is); (case k_rbooks => k_is); (case pa_rpace => k_is); (case pg_rpace => k_is); (case pt_rpace => k_is); (case pr_rpace => k_is); (case l_rpace => k_is)
    (case c_rpace => k_is); (case k_rpace => k_is); (case x_rlen => k_is); (case i_rlen => k_is); (case l_rlen => k_is); (case c_rlen => k_is); (case k_rlen => k_is); (case x_rcall => k_is)
    (case i_rcall => k_is); (case j_rcall => k_is); (case l_rcall => k_is); (case c_rcall => k_is); (case k_rcall => k_is); (case x_rrshift => k_is); (case i_rrshift => k_is); (case l_rrshift => k_is)
    (case c_rrshift => k_is); (case k_rrshift => k_is); (case x_req => k_is); (case i_req => k_is); (case l_req => k_is); (case c_req => k_is); (case k_req => k_is); (case x_check_part => k_is)
    (case l_check_part => k_is); (case c_check_part => k_is); (case k_check_part => k_is); (case x_slowest_decides => k_is); (case l_slowest_decides => k_is); (case c_slowest_decides => k_is); (case k_slowest_decides => k_is); (case x_pace_of => k_is)
    (case l_pace_of => k_is); (case c_pace_of => k_is); (case k_pace_of => k_is); (case x_round_pace => k_is); (case l_round_pace => k_is); (case c_round_pace => k_is); (case k_round_pace => k_is); (case x_end_day => k_is)
    (case l_end_day => k_is); (case c_end_day => k_is); (case k_end_day => k_is); (case x_heap_on => k_is); (case l_heap_on => k_is); (case c_heap_on => k_is); (case k_heap_on => k_is); (case x_longest_heap => k_is)
    (case l_longest_heap => k_is); (case c_longest_heap => k_is); (case k_longest_heap => k_is); (case x_settled => k_is); (case l_settled => k_is); (case c_settled => k_is); (case k_settled => k_is); (case x_first_meeting => k_is)
    (case l_first_meeting => k_is); (case c_first_meeting => k_is); (case k_first_meeting => k_is); (case x_check_book => k_is); (case l_check_book => k_is); (case c_check_book => k_is); (case k_check_book => k_is); (case x_reader_before => k_is)
    (case l_reader_before => k_is); (case c_reader_before => k_is); (case k_reader_before => k_is); (case x_reader_after => k_is); (case l_reader_after => k_is); (case c_reader_after => k_is); (case k_reader_after => k_is); (case x_ended_by => k_is)
    (case l_ended_by => k_is); (case c_ended_by => k_is); (case k_ended_by => k_is); (case x_begun_by => k_is); (case l_begun_by => k_is); (case c_begun_by => k_is); (case k_begun_by => k_is); (case x_repetition => k_is)
    (case l_repetition => k_is); (case c_repetition => k_is); (case k_repetition => k_is); (case x_row_repeats => k_is); (case l_row_repeats => k_is); (case c_row_repeats => k_is); (case k_row_repeats => k_is); (case x_last_new_day => k_is)
    (case l_last_new_day => k_is); (case c_last_new_day => k_is); (case k_last_new_day => k_is); (case x_first_stay => k_is); (case l_first_stay => k_is); (case c_first_stay => k_is); (case k_first_stay => k_is); (case x_next_stay => k_is)
    (case l_next_stay => k_is); (case c_next_stay => k_is); (case k_next_stay => k_is); (case x_first_unlike => k_is); (case l_first_unlike => k_is); (case c_first_unlike => k_is); (case k_first_unlike => k_is); (case x_numbers_to_compare => k_is)
    (case l_numbers_to_compare => k_is); (case c_numbers_to_compare => k_is); (case k_numbers_to_compare => k_is); (case x_ltaken => k_is); (case l_ltaken => k_is); (case c_ltaken => k_is); (case k_ltaken => k_is); (case x_lgreat => k_is)
    (case l_lgreat => k_is); (case c_lgreat => k_is); (case k_lgreat => k_is); (case x_lparts => k_is); (case l_lparts => k_is); (case c_lparts => k_is); (case k_lparts => k_is); (case x_law => k_is)
    (case l_law => k_is); (case c_law => k_is); (case k_law => k_is); (case pgC => k_is); (case hdC => k_is); (case poC => k_is); (case saC => k_is); (case mkC => k_is)
    (case kC => k_is); (case shN => k_is); (case shI => k_is); (case shJ => k_is); (case shS => k_is); (case sfC => k_is); (case clsC => k_is); (case clsG => k_is)
    (case clsT => k_is); (case clsM => k_is); (case nD => k_is); (case nS => k_is); (case v_LATEST => k_is); (case v_FEWEST_READERS => k_is); (case v_MOST_READERS => k_is); (case v_MOST_DAYS => k_is)
    (case v_MOST_BOOKS => k_is); (case v_gcd => k_is); (case v_lcm => k_is); (case z_len => k_is); (case z_sum => k_is); (case z_max => k_is); (case z_min => k_is); (case z_range => k_is)
    (case z_int => k_is); (case z_bool => k_is); (case z_isinstance => k_is); (case z_tuple => k_is); (case z_enumerate => k_is); (case z_list => k_is); (case z_str => k_is); (case z_sorted => k_is)
    (case z_zip => k_is)
