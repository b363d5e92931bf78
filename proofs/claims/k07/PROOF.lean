import PyProof.Rows.All
import Wide.All
import OpenK.AllK
import Wide.FinOn
import PyProof.EqAt
import PyProof.EqKinds
import PyProof.TupleCall
import HandS.ForMost
import HandS.Walk
import HandS.Property
import HandS.Star
import HandS.IsInst
import HandS.Gcd
import HandS.Flow
import KE.KTupSum
import KE.GoesEnum
import HandS.Strs
import HandS.Conv
import HandS.Sort
import HandS.ExcInit
import HandS.ClsMeth
import HandS.FStr
import KE.KEqDeep
import HandS.Style
import HandS.Nested
import HandS.Lambda
import KE.KDflt
import HandS.List
import HandS.SetFor
import HandS.Words
import HandS.ExcIs
import HandS.ExcCtx
import HandS.ExcField
import HandS.WordsExc
import PyProof.Rows.RegStrFacts
import KE.KExcIs
import HandS.EndOwn
import PySem.Challenge.RW_readingring_k07_evidence_for_the_pace
set_option Elab.async false
set_option linter.all false
set_option maxRecDepth 100000
set_option maxHeartbeats 8000000
/-! Rules beside the layer's: len of an own instance, enumerate over a tuple, sum and max of a tuple. -/
namespace Rz
open PySem PySem.Spec PyProof.Rows L2

section
variable {X : Cx}
/-! ### len(o), o an instance whose class defines it -/
def rLenI (C : Addr) (sp : Sp) (E : XK) : List V → Hp → VK → Prop := fun xs H Q => ∃ a dx fs, xs = [.ref a] ∧ H a = some (.ins C dx fs) ∧
  sp [.ref a] H (fun v H' => ∃ n : Int, v = .int n ∧ 0 ≤ n ∧ n < 2 ^ 63 ∧ Q (.int n) H') E
theorem call_lenI {CX : CXT} {k : Nat} {f C : Addr} {sp : Sp} {E : XK} (hs : PySem.W.findIn X.K (.ref C) "__len__" = some (some (.ref f))) (hf : PySem.W.isFn X.K (.ref f) = true)
    (F : FnR X.prog X.w X.K X.mg X.base CX k f sp) (hr : Room (k + 1) X.A) (hx : Passes CX X E) : CallR X (.builtin "len") (rLenI C sp E) := by
  intro pins s σ H xs us Q I r h
  obtain ⟨a, dx, fs, rfl, ea, q⟩ := h
  rw [Vals.ref1 r]
  obtain ⟨mA, O, _⟩ := ins_get I.hok ea
  obtain ⟨od, J, _⟩ := O.look
  have hc : wpAny (model X.prog X.w) X.A.in1 (call (.ref f) [.ref a]) (EP X pins σ (fun v H' => ∃ n : Int, v = .int n ∧ 0 ≤ n ∧ n < 2 ^ 63 ∧ Q (.int n) H')) X.xe s := by
    refine wpAny_call (codeAny_mono (F X.A.in1 X.stack s H [.ref a] [.ref a] _ E hr.in1 I.env0.in1 (.cons rfl .nil) q) fun r s' hq => ?_)
    cases r with
    | error e => exact hx pins σ H s e s' I hq
    | ok fl =>
      cases fl with
      | ret u => exact I.after hq
      | next => exact False.elim hq
      | brk => exact False.elim hq
      | cont => exact False.elim hq
  refine Calls.call_function_entry kind_len plain_len entry_len (args_len1 _) ?_
  unfold Builtin.«len»
  refine wpAny_bind (m := oneArg "len" _) (wpAny_pure ?_)
  refine wpAny_bind (m := callSpecial? (.ref a) (Str.ofString "__len__")) (PySem.W.special_fn I.kIn J hs (beq_iff_eq.mp hf) (wpAny_mono hc (fun r s' hr => ?_) fun _ _ y => y))
  obtain ⟨v, H', I', rv, n, rfl, h0, h1, hq⟩ := hr
  obtain ⟨t, rfl⟩ := rv
  refine wpAny_bind (wpAny_holding (wpAny_pure ?_))
  refine wpAny_bind (wpAny_letGo ?_)
  show wpAny _ _ (if n < 0 then _ else _) _ _ _
  rw [if_neg (by omega)]
  show wpAny _ _ (if n ≥ 2 ^ 63 then _ else _) _ _ _
  rw [if_neg (by omega)]
  exact wpAny_bind (wpAny_mkInt (wpAny_pure ⟨_, rfl, ⟨.int n, H', I'.tok _, ⟨_, rfl⟩, hq⟩⟩))

/-! ### sum, max of a tuple of ints -/
def rSumT (K : PySem.W.Frag) : List V → Hp → VK → Prop := fun vs H Q => ∃ (a : Addr) (ns : List Int), vs = [V.ref a] ∧ SqT K H a (ns.map V.int) ∧ Q (.int ns.sum) H
def rMaxT (K : PySem.W.Frag) : List V → Hp → VK → Prop := fun vs H Q => ∃ (a : Addr) (ns : List Int), vs = [V.ref a] ∧ SqT K H a (ns.map V.int) ∧ 0 < ns.length ∧
  ∀ m, m ∈ ns → (∀ y, y ∈ ns → y ≤ m) → Q (.int m) H
theorem cr_sumT (hc : X.calm = true) : CallR X (.builtin "sum") (rSumT X.K) := by
  intro pins s σ H vs us Q I r h
  obtain ⟨a, ns, rfl, hs, q⟩ := h
  obtain ⟨its, rv, hl, _⟩ := I.tuple hs
  rw [Vals.ref1 r]
  have hi := rv.ints
  have hl' : s.heap.IsTuple a its.toArray := hl
  obtain ⟨xs, e⟩ := hi.allInts.items
  have hn : numsOf (intItems xs).toList = ns := by rw [← e]; exact hi.numsOf
  rw [nums_intItems] at hn
  rw [e] at hl'
  refine PySem.W.ktm_sumG (I.ok.hd hc) hl' fun h' tk t' hk => ?_
  have J : Inv X pins σ H { s with heap := h', toks := tk } := I.kept hk
  refine ⟨.int ns.sum, H, J, ⟨t', ?_⟩, q⟩
  rw [preSum_eq, List.take_of_length_le (by simp), hn]
theorem max_tup {prog : Program} {w : World} {A : Around} {E : Value → Shared → Prop} {s : Shared} {l : Addr} {xs : Array (Int × Tok)} {Q : Value → Shared → Prop} (hh : A.handled = none) (ht : s.heap.IsTuple l (intItems xs)) (hne : 0 < xs.size)
    (h : ∀ v h' tk, (intItems xs)[argBest (fun i j => decide (numAt xs i > numAt xs j)) (xs.size - 1)]? = some v → (∀ b o, s.heap.get? b = some o → h'.get? b = some o) → Q v { s with heap := h', toks := tk }) :
    wpAny (model prog w) A (call (.builtin "max") [.ref l]) Q E s := by
  obtain ⟨o, ho, hc, n, hd⟩ := id ht
  have hlt : l < s.heap.objs.size := Heap.lt_size ho
  refine call_max_walk (wpAny_pyIter_tuple ht ?_)
  refine ⟨s.heap.objs.size, _, _, _, _, _, _, rfl, Walks.tuple (A := A.in1) hh _ l (Nat.ne_of_lt hlt) (intItems xs), ⟨⟨_, Heap.get?_push_size _ rfl, rfl, rfl⟩, ht.at fun o e => Heap.get?_push_of_some _ e⟩, fun b hb => ?_, by simpa [intItems] using hne,
    CmpOf.ints_gt (numAt xs) (fun _ _ => intItems_at), fun v h' tk hP hk => ?_⟩
  · rcases List.mem_cons.mp hb with rfl | hb
    · exact Heap.lt_size (Heap.get?_push_size _ rfl)
    · obtain rfl := List.mem_singleton.mp hb
      exact Heap.lt_size (Heap.get?_push_of_some _ ho)
  · refine h v h' tk (by simpa [intItems] using hP) fun b o e => ?_
    refine hk b o (fun hm => ?_) (Heap.get?_push_of_some _ e)
    have := List.mem_singleton.mp hm
    exact absurd (this ▸ Heap.lt_size e) (Nat.lt_irrefl _)
theorem cr_maxT (hc : X.calm = true) : CallR X (.builtin "max") (rMaxT X.K) := by
  intro pins s σ H vs us Q I r h
  obtain ⟨a, ns, rfl, hs, hne, q⟩ := h
  obtain ⟨its, rv, hl, _⟩ := I.tuple hs
  rw [Vals.ref1 r]
  have hi := rv.ints
  have hl' : s.heap.IsTuple a its.toArray := hl
  obtain ⟨xs, e⟩ := hi.allInts.items
  have hn : numsOf (intItems xs).toList = ns := by rw [← e]; exact hi.numsOf
  rw [nums_intItems] at hn
  subst hn
  rw [e] at hl'
  have hsz : 0 < xs.size := by simpa using hne
  refine max_tup (I.ok.hd hc) hl' hsz fun v h' tk hv hk => ?_
  obtain ⟨t, rfl⟩ := intItems_at hv
  obtain ⟨h1, h2⟩ := argBest_gt (numAt xs) (xs.size - 1)
  refine ⟨.int _, H, I.kept hk, ⟨t, rfl⟩, q _ ?_ fun a ha => ?_⟩
  · rw [numAt_eq]; exact PySem.getD_mem (by rw [List.length_map, Array.length_toList]; omega)
  · obtain ⟨j, hj, rfl⟩ := mem_getD ha
    rw [List.length_map, Array.length_toList] at hj
    rw [← numAt_eq]; exact h2 j (by omega)
end

/-! ### enumerate(t), t a tuple -/
theorem meets_enumerate_newT (l : Addr) (items : Array Value) (n : Nat) (dct : Option Addr) (sl : Array (Option Value)) :
    Meets (Builtin.«enumerate.__new__» ⟨[.type "enumerate", .ref l], []⟩) (fun _ R s => s.heap.get? l = some { cls := .type "tuple", dict := dct, data := .seq items n, slots := sl } ∧
      R (.ok (.ret (.ref (s.heap.push { cls := .type "tuple_iterator", data := .fields #[.ref l, .int 0 0] }).objs.size)))
        { s with heap := (s.heap.push { cls := .type "tuple_iterator", data := .fields #[.ref l, .int 0 0] }).push { cls := .type "enumerate", data := .fields #[.none, .bool false, .ref s.heap.objs.size, rawInt 0, .none, .none] } }) :=
  .of_wp fun prog w A R s h => by
    obtain ⟨hp, g, d, tk, os⟩ := s; obtain ⟨hl, h⟩ := h
    have hsub := sub_enumerate
    have hL : Heap.IsTuple (Shared.heap ⟨hp, g, d, tk, os⟩) l items := ⟨_, hl, rfl, n, rfl⟩
    wp_walk using AutoSeq1.wpAny_loadPart' hl
    refine wpAny_stack_any fun st => wpAny_pure ?_
    split
    · rename_i c _ _ _ _ _
      cases (c == Value.type "enumerate")
      · wp_walk using AutoSeq1.wpAny_loadPart' hl, wpAny_pyIter_tuple hL
        exact ⟨_, rfl, h⟩
      · wp_walk using AutoSeq1.wpAny_loadPart' hl, wpAny_pyIter_tuple hL
        exact ⟨_, rfl, h⟩
    · wp_walk using AutoSeq1.wpAny_loadPart' hl, wpAny_pyIter_tuple hL
      exact ⟨_, rfl, h⟩
theorem call_enumerate_tuple {prog : Program} {w : World} {A : Around} {E : Value → Shared → Prop} {s : Shared} {l : Addr} {items : Array Value} {Q : Value → Shared → Prop} (hL : s.heap.IsTuple l items)
    (h : ∀ h', IsEnum h' (s.heap.objs.size + 1) s.heap.objs.size 0 .none → h'.IsTupleIter s.heap.objs.size l 0 → h'.objs.size = s.heap.objs.size + 2 →
      (∀ b o, s.heap.get? b = some o → h'.get? b = some o) → Q (.ref (s.heap.objs.size + 1)) { s with heap := h' }) :
    wpAny (model prog w) A (call (.type "enumerate") [.ref l]) Q E s := by
  obtain ⟨⟨c, dct, dt, sl⟩, hl, hc, n, hd⟩ := hL
  replace hc : c = .type "tuple" := hc
  replace hd : dt = .seq items n := hd
  subst hc hd
  refine callType_new F.called_enumerate (by decide) (F.typeCall_enumerate_1 _) (F.newCall_enumerate_1 _) (fun obj => F.args_object_init_2 obj _) F.entry_enumerate_new
    (meets_enumerate_newT l items n dct sl) ⟨hl, ?_⟩
  have hz : (s.heap.push { cls := .type "tuple_iterator", data := .fields #[.ref l, .int 0 0] }).objs.size = s.heap.objs.size + 1 := Heap.size_push ..
  show _ ∧ _
  rw [hz]
  have he : IsEnum ((s.heap.push { cls := .type "tuple_iterator", data := .fields #[.ref l, .int 0 0] }).push
      { cls := .type "enumerate", data := .fields #[.none, .bool false, .ref s.heap.objs.size, rawInt 0, .none, .none] }) (s.heap.objs.size + 1) s.heap.objs.size 0 .none := by
    have := Heap.get?_push_size (s.heap.push { cls := .type "tuple_iterator", data := .fields #[.ref l, .int 0 0] })
      (o := { cls := .type "enumerate", data := .fields #[.none, .bool false, .ref s.heap.objs.size, rawInt 0, .none, .none] }) rfl
    rw [hz] at this; exact this
  refine ⟨⟨_, he, rfl⟩, h _ he ⟨_, Heap.get?_push_of_some _ (Heap.get?_push_size _ rfl), rfl, rfl⟩ (by rw [Heap.size_push, hz]) fun b o x => Heap.get?_push_of_some _ (Heap.get?_push_of_some _ x)⟩

/-- the tuple at a, each item in a new pair with its number -/
def IteT (K : PySem.W.Frag) (a : Addr) : It :=
  ⟨fun i H => ∃ (xs : List V) (x : V), SqT K H a xs ∧ xs[i]? = some x, fun i H v H' => ∃ T x, v = .ref T ∧ H T = none ∧ H' = upd H T (.tup [.int (i : Nat), x]) ∧ ∀ xs, SqT K H a xs → xs[i]? = some x, fun i H => ∃ xs : List V, SqT K H a xs ∧ xs.length = i⟩
theorem turn_enumT {P : Program} {w : World} {K : PySem.W.Frag} {elts : List Expr} {kk : Nat} {tpos : Pos} (a e it : Addr) :
    Turn P w K (.Tuple elts kk tpos) (IteT K a) [e, it] e (fun i h => (∃ old, IsEnum h e it ((i : Nat) : Int) old) ∧ h.IsTupleIter it a i ∧ e ≠ it ∧ e ≠ a ∧ it ≠ a) where
  mem := by simp
  obj := fun i h st b hb => by
    obtain ⟨⟨old, he⟩, ⟨o, ho, hc, hd⟩, _⟩ := st
    have e' : b = e ∨ b = it := by simpa using hb
    rcases e' with z | z
    · rw [z]; exact ⟨_, he, fun v q => nomatch q⟩
    · rw [z]; exact ⟨o, ho, fun v q => by rw [hd] at q; cases q⟩
  keep := fun i h h' st k => let ⟨⟨old, he⟩, hi, hne⟩ := st; ⟨⟨old, k e (by simp) _ he⟩, hi.at fun o q => k it (by simp) o q, hne⟩
  item := by
    intro X hP hw hK hc i pins s σ H E I hf st hg
    subst hP hw hK
    obtain ⟨⟨old, he⟩, hit, hne, hea, hia⟩ := st
    obtain ⟨xs, x, hq, hx⟩ := hg
    obtain ⟨its, rv, p, hz⟩ := I.tuple hq
    obtain ⟨u, hu, ru⟩ := rv.get hx
    have hel : e < s.heap.objs.size := Heap.lt_size he
    have hil : it < s.heap.objs.size := by obtain ⟨_, q, _⟩ := hit; exact Heap.lt_size q
    have hlt : i < its.toArray.size := by
      have := (List.getElem?_eq_some_iff.mp hu).1
      simpa using this
    refine wpAny_pyNext_enum_itemC (Draws.tuple (prog := X.prog) (w := X.w) (A := X.A.in1) (I.ok.hd hc) it a (Ne.symm hia) its.toArray) he ⟨hit, p⟩ hlt hne (by simp [hne, hea]) fun x' h' tk hPx ho hst' hT hsz hk => ?_
    have ex : x' = u := by
      have h1 : its.toArray[i]? = some u := by simpa using hu
      exact Option.some.inj (hPx.symm.trans h1)
    subst ex
    obtain ⟨hit', _⟩ := hst'
    refine ⟨_, rfl, wpAny_letOwnedTupleGo_enum (s := { s with heap := h', toks := tk + 1 }) ho fun h'' he' sb => ?_⟩
    have hT2 : h''.get? s.heap.objs.size = some { cls := .type "tuple", data := .seq #[.int i tk, x'] } := (sb.2 _ (Nat.ne_of_gt hel)).trans hT
    have new : ObjOk X.prog X.w (upd H s.heap.objs.size (.tup [.int (i : Nat), x])) h'' s.heap.objs.size (.tup [.int (i : Nat), x]) :=
      ⟨by show 2 ≤ sizeLine; decide, [.int i tk, x'], .cons ⟨_, rfl⟩ (.cons ru .nil), ⟨_, hT2, rfl, _, rfl⟩⟩
    have I1 : Inv X pins σ (upd H s.heap.objs.size (.tup [.int (i : Nat), x])) { s with heap := h'', toks := tk + 1 } :=
      I.turnedNew (ch := [e, it]) (fun b ob hb q => (sb.2 b (fun z => hb (by simp [z]))).trans (hk b ob (fun z => hb (by simp [z])) (fun z => hb (by simp [z])) q)) hf (Nat.le_refl _) new
    refine ⟨.ref s.heap.objs.size, _, I1, rfl, ⟨_, x, rfl, I.hok.fresh (Nat.le_refl _), rfl, fun ys hy => by rw [I.tuple_inj hy hq]; exact hx⟩, ⟨⟨x', ?_⟩, hit'.at fun o q => (sb.2 it (Ne.symm hne)).trans q, hne, hea, hia⟩, fun b hb => ?_⟩
    · have e1 : ((i + 1 : Nat) : Int) = (i : Int) + 1 := by omega
      rw [e1]; exact he'
    · have hb' : b < s.heap.objs.size := by
        have e' : b = e ∨ b = it := by simpa using hb
        rcases e' with z | z
        · rw [z]; exact hel
        · rw [z]; exact hil
      rw [upd_ne (Nat.ne_of_lt hb')]
      exact (hf b hb).1
  done := by
    intro X hP hw hK hc i pins s σ H E I hf st hg
    subst hP hw hK
    obtain ⟨⟨old, he⟩, hit, hne, hea, hia⟩ := st
    obtain ⟨xs, hq, hx⟩ := hg
    obtain ⟨its, rv, p, hz⟩ := I.tuple hq
    obtain ⟨f0, f1, f2, f3, f4, f5⟩ := hf it (by simp)
    have hl := rv.length
    have hn : i = its.toArray.size := by simp; omega
    subst hn
    exact wpAny_pyNext_enum_endD (Draws.tuple (prog := X.prog) (w := X.w) (A := X.A.in1) (I.ok.hd hc) it a (Ne.symm hia) its.toArray) he ⟨hit, p⟩ fun h' eb => ⟨rfl, I.turned (t' := s.toks) (fun b o hb q => eb b o hb q) f0 f1 f3 f4 f5⟩
  self := fun A i s Q E st h => let ⟨⟨_, he⟩, _⟩ := st; wpAny_pyIter_enum he h
def iEnumT (K : PySem.W.Frag) (ta : TA) : TI := fun σ H R => ta σ H fun vs H1 => ∃ a xs, vs = [.ref a] ∧ SqT K H1 a xs ∧ R (IteT K a) H1
theorem pi_enumT {X : Cx} {e : Expr} {ta : TA} {p pos tpos : Pos} {elts : List Expr} {kk : Nat} (hg : Gl X "enumerate") (hm : X.mg "enumerate" = none) (ha : PA X [e] ta) (hs : starEach [e] X.env = [(false, eval e X.env)] := by rfl) :
    PI X (.Tuple elts kk tpos) (.Call (.Name "enumerate" p) [e] [] pos) (iEnumT X.K ta) := by
  refine ⟨fun pins s σ H R I h => ?_⟩
  refine Call_ (ld_blt I hg hm boot_enumerate (PyProof.Rows.callWith_type1 (thn (ha.run pos pins s σ H _ I h) fun us s1 ⟨vs, H1, I1, r1, q1⟩ => ?_) hs rfl))
  obtain ⟨a, xs, ex, hq, q⟩ := q1
  subst ex
  cases r1 with
  | cons r rr =>
    cases rr
    cases r
    obtain ⟨its, rv, p', hz⟩ := I1.tuple hq
    have la : a < s1.heap.objs.size := by obtain ⟨_, y, _⟩ := p'; exact Heap.lt_size y
    refine call_enumerate_tuple (show s1.heap.IsTuple a its.toArray from p') fun h' he hit hsz hk => wpAny_pyIter_enum he ?_
    have I2 : Inv X pins σ H1 { s1 with heap := h' } := I1.kept (t' := s1.toks) hk
    refine ⟨s1.heap.objs.size + 1, [s1.heap.objs.size + 1, s1.heap.objs.size], _, _, H1, rfl, I2, turn_enumT a (s1.heap.objs.size + 1) s1.heap.objs.size, ⟨⟨.none, he⟩, hit, Nat.succ_ne_self _, Nat.ne_of_gt (Nat.lt_succ_of_lt la), Nat.ne_of_gt la⟩, fun b hb => ?_, q⟩
    have e' : b = s1.heap.objs.size + 1 ∨ b = s1.heap.objs.size := by simpa using hb
    have hle : s1.heap.objs.size ≤ b := by
      rcases e' with z | z
      · rw [z]; exact Nat.le_add_right _ _
      · rw [z]; exact Nat.le_refl _
    exact I1.fpOk hle (I1.hok.fresh hle)
theorem walk_enumT {K : PySem.W.Frag} {a : Addr} {xs : List V} : Walk (IteT K a) xs.length (fun H => SqT K H a xs) (YPair (fun i => some (.int (i : Nat))) (fun i => xs[i]?)) := by
  refine ⟨fun i _ hi q => ⟨xs, xs[i], q, by simp [hi]⟩, fun _ q => ⟨xs, q, rfl⟩, fun i H v H' _ q y => ?_⟩
  obtain ⟨T, x, h1, h2, h3, h4⟩ := y
  exact ⟨T, .int (i : Nat), x, h1, h2, h3, rfl, h4 xs q⟩
/-! ### f(e, ..), f an instance: a reading that speaks of no context -/
def tCallI (C : Addr) (sp : Sp) (E : XK) (tf : TE) (t : TA) : TE := fun σ H Q => tf σ H fun y H1 => ∃ a, y = V.ref a ∧ t σ H1 fun vs H2 => (∃ dx fs, H2 a = some (.ins C dx fs)) ∧ sp (V.ref a :: vs) H2 Q E
theorem pe_callI {X : Cx} {CX : CXT} {k : Nat} {C g : Addr} {sp : Sp} {E : XK} {fe e : Expr} {es : List Expr} {tf : TE} {t : TA} {pos : Pos} (hf : PE X fe tf) (c : StX.CallO X.K C g) (F : FnR X.prog X.w X.K X.mg X.base CX k g sp) (hr : Room k X.A) (hx : Passes CX X E) (ha : PA X (e :: es) t)
    (ht : eval (.Call fe (e :: es) [] pos) X.env = (do callWith pos (← eval fe X.env) [] (backTo pos (starEach (e :: es) X.env)) (backToKw pos (keywordEach [] X.env))) := by rfl)
    (he : starEach (e :: es) X.env = (false, eval e X.env) :: starEach es X.env := by rfl) (hpl : (backTo pos (starEach es X.env)).any (·.1) = false := by rfl) : PE X (.Call fe (e :: es) [] pos) (tCallI C sp E tf t) := by
  refine ⟨fun pins s σ H Q I h => ?_⟩
  refine Call_ (thn (hf.run pins s σ H _ I h) fun u s1 ⟨y, H1, I1, ry, a, ey, q⟩ => ?_) ht
  subst ey
  obtain rfl : u = Value.ref a := ry
  refine StX.callO_with (thn (ha.run pos pins s1 σ H1 _ I1 q) fun us s2 ⟨vs, H2, I2, r, hi, q2⟩ => ?_) he hpl
  have hi' : StX.InsC X H2 a C := .inr hi
  obtain ⟨ox, od, J, hd⟩ := StX.insC_at I2 hi'
  exact ⟨⟨C, ox, od, J, hd⟩, StX.run_callO c F hr hx I2 hi' r q2⟩
end Rz
/-! More rules beside the layer's: a range that stands in a slot, walked; a tuple's index of an int. -/
namespace Rz
open PySem PySem.Spec PyProof.Rows L2
section
variable {X : Cx}
def iRngV (te : TE) : TI := fun σ H R => te σ H fun x H1 => ∃ a lo hi, x = .ref a ∧ H1 a = some (.rng lo hi) ∧ (-(2 ^ 62) ≤ lo ∧ lo < 2 ^ 62 ∧ -(2 ^ 62) ≤ hi ∧ hi < 2 ^ 62) ∧ R (Itr lo (hi - lo).toNat) H1
theorem pi_rngV {tg e : Expr} {te : TE} (he : PE X e te) : PI X tg e (iRngV te) := by
  refine ⟨fun pins s σ H R I h => ?_⟩
  refine thn (he.run pins s σ H _ I h) fun v s1 ⟨x, H1, I1, r1, q1⟩ => ?_
  obtain ⟨a, lo, hi, ex, ha, ⟨h1, h2, h3, h4⟩, q⟩ := q1
  subst ex
  cases r1
  obtain ⟨t, u, v, ho⟩ := (show ObjOk X.prog X.w H1 s1.heap a (.rng lo hi) from I1.hok a _ ha)
  refine wpAny_pyIter_range (show IsRange s1.heap a lo hi 1 t u v from ho) (small_one h1 h2 h3 h4) ?_
  refine ⟨s1.heap.objs.size, [s1.heap.objs.size], _, _, H1, rfl, I1.kept (t' := s1.toks) fun b o e => Heap.get?_push_of_some _ e, turn_range _ lo (hi - lo).toNat, ?_, fun b hb => ?_, q⟩
  · have e1 : lo + ((0 : Nat) : Int) * 1 = lo := by simp
    have e2 : (((hi - lo).toNat : Nat) : Int) - ((0 : Nat) : Int) = Builtin.Range.rangeSize lo hi 1 := by rw [rangeSize_one]; split <;> omega
    show IsRangeIter _ _ (lo + ((0 : Nat) : Int) * 1) ((((hi - lo).toNat : Nat) : Int) - ((0 : Nat) : Int)) 1
    rw [e1, e2]
    exact Heap.get?_push_size _ rfl
  · have e : b = s1.heap.objs.size := by simpa using hb
    subst e
    exact I1.fpOk (Nat.le_refl _) (I1.hok.fresh (Nat.le_refl _))
/-- t.index(i), the first place -/
theorem mt_tup_indexI : MtR X "tuple.index" (fun x xs H Q => ∃ p, ∃ ys : List Int, ∃ z j, x = .ref p ∧ xs = [.int z] ∧ SqT X.K H p (ys.map V.int) ∧ ys[j]? = some z ∧ (∀ m y, m < j → ys[m]? = some y → y ≠ z) ∧ Q (.int (j : Nat)) H) := by
  intro pins s σ H x xs v us Q I rx rs h
  obtain ⟨p, ys, z, j, rfl, rfl, hq, hy, hno, q⟩ := h
  cases rx
  obtain ⟨u, rfl, t, rfl⟩ := vals1 rs
  obtain ⟨its, r, pl, hz⟩ := I.tuple hq
  obtain ⟨⟨cls, dd, dt, sl⟩, ho, hc, n, hd⟩ := pl
  simp only at hc hd
  subst hc
  subst hd
  have fl : (ys.map V.int).all flatV = true := by
    rw [List.all_eq_true]
    intro x hx
    obtain ⟨i, _, rfl⟩ := List.mem_map.mp hx
    rfl
  have hl : its.toArray.size = ys.length := by rw [List.size_toArray, ← r.length, List.length_map]
  have hj : j < its.toArray.size := by rw [hl]; exact (List.getElem?_eq_some_iff.mp hy).1
  have at' : ∀ (m : Nat) (hm : m < its.toArray.size), ∃ y t', ys[m]? = some y ∧ its.toArray[m] = Value.int y t' := fun m hm => by
    have hm' : m < ys.length := by rw [← hl]; exact hm
    obtain ⟨w, hw, t', hw'⟩ := r.get (i := m) (x := .int ys[m]) (by simp [hm'])
    refine ⟨ys[m], t', List.getElem?_eq_getElem hm', ?_⟩
    have e := (List.getElem?_eq_some_iff.mp hw).2
    rw [← hw', ← e]
    simp
  refine call_meets PySem.F.slot_tuple_index ⟨_, ho, rfl⟩ PySem.F.entry_tuple_index (PySem.F.args_tuple_index_2 _ _) (TI.tuple_indexAt p its.toArray n dd sl (.int z t) (eqU (.int z)) j hj ?_ ?_)
    ⟨ho, fun w hw => mem_eqAt (x := .int z) ⟨t, rfl⟩ rfl r fl w (by simpa using hw), ⟨.int (j : Nat), H, I.tok _, ⟨_, rfl⟩, q⟩⟩
  · obtain ⟨y, t', h1, h2⟩ := at' j hj
    rw [hy] at h1
    cases h1
    rw [h2]
    show (z == z) = true
    exact beq_self_eq_true z
  · intro m hm hmj
    obtain ⟨y, t', h1, h2⟩ := at' m hm
    rw [h2]
    show (y == z) = false
    exact beq_eq_false_iff_ne.mpr (hno m y hmj h1)
/-- tuple(l): a new one whose object is known -/
def rTupF (K : PySem.W.Frag) : List V → Hp → VK → Prop := fun xs H Q => ∃ p ys, xs = [.ref p] ∧ SqL K H p ys ∧ ∀ (l : Addr) (o : Obj), H l = none → o.dict = none → Q (.ref l) (upd H l (.frz o (.tup ys)))
theorem call_tuple_frz : CallR X (.type "tuple") (rTupF X.K) := by
  intro pins s σ H xs us Q I r h
  obtain ⟨p, ys, rfl, hq, q⟩ := h
  obtain ⟨u, rfl, rx⟩ := vals1 r
  cases rx
  obtain ⟨its, r', pl, hz⟩ := I.list hq
  have hlen := r'.length
  refine call_tuple_list pl.isList (fun h' kp => ?_) (by simp only [List.size_toArray] <;> omega)
  have I1 : Inv X pins σ H { s with heap := h' } := I.kept (t' := s.toks) kp
  have ho : (h'.push { cls := .type "tuple", data := .seq its.toArray }).get? h'.objs.size = some { cls := .type "tuple", data := .seq its.toArray } := Heap.get?_push_size _ rfl
  have I2 : Inv X pins σ (upd H h'.objs.size (.frz { cls := .type "tuple", data := .seq its.toArray } (.tup ys))) { s with heap := h'.push { cls := .type "tuple", data := .seq its.toArray } } :=
    I1.laid (t' := s.toks) (fun b o e => Heap.get?_push_of_some _ e) (Nat.le_refl _) (show ObjOk X.prog X.w _ _ _ (.frz _ (.tup ys)) from ⟨ho, hz, its, r', IsTup.new _ _⟩)
  exact ⟨.ref h'.objs.size, _, I2, rfl, q _ _ (I1.hok.fresh (Nat.le_refl _)) rfl⟩
/-- t.m(e, ..), t a tuple whose object is known -/
def tBMF (r : V → List V → Hp → VK → Prop) (to : TE) (t : TA) : TE := fun σ H Q => to σ H fun x H1 => ∃ (a : Addr) (xs : List V), x = .ref a ∧ (∃ o : Obj, o.dict = none ∧ H1 a = some (.frz o (.tup xs))) ∧ t σ H1 fun vs H2 => r x vs H2 Q
theorem pe_bmF {o e : Expr} {es : List Expr} {to : TE} {t : TA} {name : Str} {apos cpos : Pos} {id : String} {r : V → List V → Hp → VK → Prop} (pa : PlainAttrs "tuple") (slot : Slot "tuple" name id) (hty : typeOf (.builtin id) = pure (.type "method_descriptor")) (hm : MtR X id r) (ho : PE X o to) (ha : PA X (e :: es) t)
    (hbase : attributeBase o name X.env (eval o X.env) = eval o X.env := by rfl)
    (hfew : ((backTo cpos (starEach (e :: es) X.env)).all (fun x => !x.1) && (backToKw cpos (keywordEach [] X.env)).all (fun x => x.1.isSome)
      && decide ((e :: es).length + ([] : List Keyword).length + (if ([] : List Keyword).isEmpty then 0 else 1) < 30)) = true := by rfl)
    (hline : (apos.endLine == cpos.line) = true := by rfl) (hs : starEach (e :: es) X.env = (false, eval e X.env) :: starEach es X.env := by rfl) (hplain : (backTo cpos (starEach es X.env)).any (·.1) = false := by rfl) :
    PE X (.Call (.Attribute o name apos) (e :: es) [] cpos) (tBMF r to t) := by
  refine ⟨fun pins s σ H Q I h => ?_⟩
  refine wpAny_Call_method_late hbase hfew hline rfl (thn (ho.run pins s σ H _ I h) fun v s1 ⟨x, H1, I1, r1, a, xs, ex, ⟨ob, hd, hf⟩, q1⟩ => ?_)
  subst ex
  obtain rfl : v = Value.ref a := r1
  obtain ⟨hob, hz, its, rv, pt⟩ := (show ObjOk X.prog X.w H1 s1.heap a (.frz ob (.tup xs)) from I1.hok a _ hf)
  have pt2 := pt
  obtain ⟨ob2, h1, h2, _⟩ := pt2
  refine ⟨"tuple", id, pa, slot, hty, ⟨ob2, h1, h2⟩, fun b e => ?_, ?_⟩
  · cases e
    exact ⟨ob, hob, hd⟩
  have hA := ha.run cpos pins s1 σ H1 _ I1 q1
  rw [hs] at hA ⊢
  refine Calls.callWith_builtin (by show (false || (backTo cpos (starEach es X.env)).any (·.1)) = false; rw [hplain] <;> rfl) (Calls.evalArgs_plain ?_)
  exact thn hA fun us s2 ⟨vs, H2, I2, r2, q2⟩ => hm pins s2 σ H2 (.ref a) vs (.ref a) us Q I2 rfl r2 q2
end
end Rz
/-! The mathematics of a ring: the ends as the greatest sum over chains, Bellman's equation, where ends repeat. -/
namespace Rm
/-- f r + f (r - 1) + .. , k terms -/
def sumBack (f : Int → Int) (r : Int) : Nat → Int
  | 0 => 0
  | k + 1 => sumBack f r k + f (r - k)
/-- the greatest of f r .. f (r - k) -/
def maxBack (f : Int → Int) (r : Int) : Nat → Int
  | 0 => f r
  | k + 1 => max (maxBack f r k) (f (r - (k + 1 : Nat)))
theorem sum_front (f : Int → Int) : ∀ (k : Nat) (r : Int), sumBack f r (k + 1) = f r + sumBack f (r - 1) k
  | 0, r => by simp [sumBack]
  | k + 1, r => by
    show sumBack f r (k + 1) + f (r - (k + 1 : Nat)) = f r + (sumBack f (r - 1) k + f (r - 1 - k))
    rw [sum_front f k r, show r - ((k + 1 : Nat) : Int) = r - 1 - k by omega]
    omega
theorem max_front (f : Int → Int) : ∀ (k : Nat) (r : Int), maxBack f r (k + 1) = max (f r) (maxBack f (r - 1) k)
  | 0, r => by simp [maxBack]
  | k + 1, r => by
    show max (maxBack f r (k + 1)) (f (r - (k + 1 + 1 : Nat))) = max (f r) (max (maxBack f (r - 1) k) (f (r - 1 - (k + 1 : Nat))))
    rw [max_front f k r, show r - ((k + 1 + 1 : Nat) : Int) = r - 1 - (k + 1 : Nat) by omega]
    omega
theorem sum_add (f : Int → Int) (r : Int) (k : Nat) : ∀ n : Nat, sumBack f r (k + n) = sumBack f r k + sumBack f (r - k) n
  | 0 => by simp [sumBack]
  | n + 1 => by
    show sumBack f r (k + n) + f (r - (k + n : Nat)) = sumBack f r k + (sumBack f (r - k) n + f (r - k - n))
    rw [sum_add f r k n, show r - ((k + n : Nat) : Int) = r - k - n by omega]
    omega
theorem sum_mono {f : Int → Int} (h : ∀ i, 0 ≤ f i) (r : Int) {j k : Nat} (hjk : j ≤ k) : sumBack f r j ≤ sumBack f r k := by
  induction k with
  | zero =>
    have : j = 0 := by omega
    subst this
    exact Int.le_refl _
  | succ k ih =>
    by_cases e : j = k + 1
    · subst e
      exact Int.le_refl _
    · have := ih (by omega)
      have h2 := h (r - k)
      show sumBack f r j ≤ sumBack f r k + f (r - k)
      omega
theorem sum_nn {f : Int → Int} (h : ∀ i, 0 ≤ f i) (r : Int) (k : Nat) : 0 ≤ sumBack f r k := sum_mono h r (Nat.zero_le k)
theorem max_ge {f : Int → Int} (r : Int) : ∀ {j k : Nat}, j ≤ k → f (r - j) ≤ maxBack f r k
  | j, 0, h => by
    have : j = 0 := by omega
    subst this
    simp [maxBack]
  | j, k + 1, h => by
    show f (r - j) ≤ max (maxBack f r k) (f (r - (k + 1 : Nat)))
    by_cases e : j = k + 1
    · subst e
      omega
    · have := max_ge (f := f) r (j := j) (k := k) (by omega)
      omega
theorem max_le {f : Int → Int} {M : Int} (h : ∀ i, f i ≤ M) (r : Int) : ∀ k : Nat, maxBack f r k ≤ M
  | 0 => h r
  | k + 1 => by
    have h1 := max_le h r k
    have h2 := h (r - (k + 1 : Nat))
    show max (maxBack f r k) (f (r - (k + 1 : Nat))) ≤ M
    omega
theorem max_mono {f : Int → Int} (r : Int) {j k : Nat} (h : j ≤ k) : maxBack f r j ≤ maxBack f r k := by
  induction k with
  | zero =>
    have : j = 0 := by omega
    subst this
    exact Int.le_refl _
  | succ k ih =>
    by_cases e : j = k + 1
    · subst e
      exact Int.le_refl _
    · have := ih (by omega)
      show maxBack f r j ≤ max (maxBack f r k) (f (r - (k + 1 : Nat)))
      omega

/-- readers in a ring: days, books at first, all books, all days, the slowest -/
structure Ring (N : Nat) (d s : Int → Int) (B T M : Int) : Prop where
  pos : 0 < N
  dper : ∀ i t : Int, d (i + N * t) = d i
  sper : ∀ i t : Int, s (i + N * t) = s i
  d1 : ∀ i, 1 ≤ d i
  s0 : ∀ i, 0 ≤ s i
  b : ∀ r, sumBack s r N = B
  b1 : 1 ≤ B
  t : ∀ r, sumBack d r N = T
  mu : ∀ i, d i ≤ M
  ma : ∃ i, d i = M

/-- the sum of the chain from reading x of reader r that goes k readers back -/
def ch (d s : Int → Int) (r : Int) (k : Nat) (x : Int) : Int := sumBack d r (k + 1) + (x - sumBack s r k) * maxBack d r k
/-- e is the greatest of them -/
def IsEnd (d s : Int → Int) (r x e : Int) : Prop := (∀ k, sumBack s r k ≤ x → ch d s r k x ≤ e) ∧ ∃ k, sumBack s r k ≤ x ∧ ch d s r k x = e
theorem IsEnd.inj {d s : Int → Int} {r x e e' : Int} (h : IsEnd d s r x e) (h' : IsEnd d s r x e') : e = e' := by
  obtain ⟨k, h1, h2⟩ := h.2
  obtain ⟨k', h1', h2'⟩ := h'.2
  have := h.1 k' h1'
  have := h'.1 k h1
  omega

section
variable {N : Nat} {d s : Int → Int} {B T M : Int} (R : Ring N d s B T M)
include R
theorem Ring.sumS (r : Int) (k : Nat) : ∀ m : Nat, sumBack s r (k + m * N) = sumBack s r k + m * B
  | 0 => by simp
  | m + 1 => by
    rw [show k + (m + 1) * N = k + m * N + N by rw [Nat.add_mul, Nat.one_mul, Nat.add_assoc], sum_add, Ring.sumS r k m, R.b, show ((m + 1 : Nat) : Int) = (m : Int) + 1 by omega, Int.add_mul]
    omega
theorem Ring.sumD (r : Int) (k : Nat) : ∀ m : Nat, sumBack d r (k + m * N) = sumBack d r k + m * T
  | 0 => by simp
  | m + 1 => by
    rw [show k + (m + 1) * N = k + m * N + N by rw [Nat.add_mul, Nat.one_mul, Nat.add_assoc], sum_add, Ring.sumD r k m, R.t, show ((m + 1 : Nat) : Int) = (m : Int) + 1 by omega, Int.add_mul]
    omega
theorem Ring.maxM (r : Int) {k : Nat} (h : N ≤ k + 1) : maxBack d r k = M := by
  obtain ⟨i, hi⟩ := R.ma
  have hN := R.pos
  have h0 : 0 ≤ (r - i) % (N : Int) := Int.emod_nonneg _ (by omega)
  have h1 : (r - i) % (N : Int) < N := Int.emod_lt_of_pos _ (by omega)
  have e : r - (((r - i) % (N : Int)).toNat : Nat) = i + N * ((r - i) / (N : Int)) := by
    have := Int.emod_add_mul_ediv (r - i) (N : Int)
    omega
  have h2 := max_ge (f := d) r (j := ((r - i) % (N : Int)).toNat) (k := k) (by omega)
  rw [e, R.dper, hi] at h2
  have h3 := max_le R.mu r k
  omega
theorem Ring.M1 : 1 ≤ M := by
  obtain ⟨i, hi⟩ := R.ma
  have := R.d1 i
  omega
theorem Ring.round (r x : Int) (k : Nat) {m : Nat} (hm : 1 ≤ m) : ch d s r (k + m * N) x = sumBack d r (k + 1) + (x - sumBack s r k) * M + m * (T - B * M) := by
  unfold ch
  have e1 : sumBack d r (k + m * N + 1) = sumBack d r (k + 1) + m * T := by
    rw [show k + m * N + 1 = k + 1 + m * N by omega, R.sumD]
  have e2 : N ≤ k + m * N + 1 := by
    have : 1 * N ≤ m * N := Nat.mul_le_mul_right N hm
    omega
  rw [e1, R.sumS, R.maxM r e2]
  have e3 : (x - (sumBack s r k + m * B)) * M = (x - sumBack s r k) * M - m * (B * M) := by
    rw [show x - (sumBack s r k + m * B) = (x - sumBack s r k) - m * B by omega, Int.sub_mul, Int.mul_assoc]
  rw [e3, Int.mul_sub]
  omega
end

/-- what the loop over the first i readers back has found -/
def Sofar (N : Nat) (d s : Int → Int) (r x : Int) (i : Nat) (L : Int) : Prop :=
  (∀ j m : Nat, j < i → sumBack s r (j + m * N) ≤ x → ch d s r (j + m * N) x ≤ L) ∧ ((i = 0 ∧ L = 0) ∨ ∃ k, sumBack s r k ≤ x ∧ ch d s r k x = L)
section
variable {N : Nat} {d s : Int → Int} {B T M : Int} (R : Ring N d s B T M)
include R
theorem Ring.ch_pos (r x : Int) (k : Nat) (h : sumBack s r k ≤ x) : 1 ≤ ch d s r k x := by
  unfold ch
  have h1 : d (r - k) ≤ sumBack d r (k + 1) := by
    have := sum_nn (f := d) (fun i => by have := R.d1 i; omega) r k
    show d (r - k) ≤ sumBack d r k + d (r - k)
    omega
  have h2 := R.d1 (r - k)
  have h3 : 0 ≤ maxBack d r k := by
    have := max_ge (f := d) r (j := 0) (k := k) (Nat.zero_le _)
    have := R.d1 (r - (0 : Nat))
    omega
  have h4 := Int.mul_nonneg (show 0 ≤ x - sumBack s r k by omega) h3
  omega
theorem Ring.step {r x L : Int} {i : Nat} (P : Sofar N d s r x i L) (hl : sumBack s r i ≤ x) {L2 : Int}
    (h2 : L2 = if B ≤ x - sumBack s r i then max (max L (ch d s r i x)) (sumBack d r (i + 1) + (x - sumBack s r i) * M + (if 0 < T - B * M then (x - sumBack s r i) / B else 1) * (T - B * M)) else max L (ch d s r i x)) :
    Sofar N d s r x (i + 1) L2 := by
  have P1 := P.1
  have hB := R.b1
  have hge : max L (ch d s r i x) ≤ L2 := by
    rw [h2]
    split <;> omega
  have key : ∀ m : Nat, 1 ≤ m → sumBack s r (i + m * N) ≤ x → ch d s r (i + m * N) x ≤ L2 := by
    intro m hm hv
    rw [R.round r x i hm]
    rw [R.sumS] at hv
    have hmB : (1 : Int) * B ≤ m * B := Int.mul_le_mul_of_nonneg_right (by omega) (by omega)
    have hBl : B ≤ x - sumBack s r i := by omega
    rw [if_pos hBl] at h2
    have hc : (m : Int) * (T - B * M) ≤ (if 0 < T - B * M then (x - sumBack s r i) / B else 1) * (T - B * M) := by
      split
      · rename_i hg
        refine Int.mul_le_mul_of_nonneg_right ?_ (by omega)
        exact (Int.le_ediv_iff_mul_le (by omega)).mpr (by omega)
      · rename_i hg
        have h5 : (0 : Int) ≤ ((m : Int) - 1) * (-(T - B * M)) := Int.mul_nonneg (by omega) (by omega)
        rw [Int.sub_mul, Int.mul_neg] at h5
        omega
    omega
  refine ⟨fun j m hj hv => ?_, ?_⟩
  · by_cases e : j = i
    · subst e
      cases m with
      | zero =>
        have e0 : j + 0 * N = j := by omega
        rw [e0]
        omega
      | succ m => exact key (m + 1) (by omega) hv
    · have := P1 j m (by omega) hv
      omega
  · right
    have hcp := R.ch_pos r x i hl
    have hL : ∃ k, sumBack s r k ≤ x ∧ ch d s r k x = max L (ch d s r i x) := by
      rcases P.2 with ⟨h0, hL0⟩ | ⟨k, hk, hk2⟩
      · exact ⟨i, hl, by omega⟩
      · by_cases hh : ch d s r i x ≤ L
        · exact ⟨k, hk, by omega⟩
        · exact ⟨i, hl, by omega⟩
    by_cases hBl : B ≤ x - sumBack s r i
    · rw [if_pos hBl] at h2
      -- the candidate of whole rounds is a chain too
      have hcand : ∃ k, sumBack s r k ≤ x ∧ ch d s r k x = sumBack d r (i + 1) + (x - sumBack s r i) * M + (if 0 < T - B * M then (x - sumBack s r i) / B else 1) * (T - B * M) := by
        by_cases hg : 0 < T - B * M
        · rw [if_pos hg]
          have hq1 : 1 ≤ (x - sumBack s r i) / B := (Int.le_ediv_iff_mul_le (by omega)).mpr (by omega)
          have hq2 : (x - sumBack s r i) / B * B ≤ x - sumBack s r i := Int.ediv_mul_le _ (by omega)
          have hqn : ((((x - sumBack s r i) / B).toNat : Nat) : Int) = (x - sumBack s r i) / B := by omega
          refine ⟨i + ((x - sumBack s r i) / B).toNat * N, ?_, ?_⟩
          · rw [R.sumS, hqn]
            omega
          · rw [R.round r x i (by omega), hqn]
        · rw [if_neg hg]
          refine ⟨i + 1 * N, ?_, ?_⟩
          · rw [R.sumS]
            omega
          · rw [R.round r x i (by omega)]
            simp
      obtain ⟨k1, a1, a2⟩ := hL
      obtain ⟨k2, c1, c2⟩ := hcand
      by_cases hh : max L (ch d s r i x) ≤ sumBack d r (i + 1) + (x - sumBack s r i) * M + (if 0 < T - B * M then (x - sumBack s r i) / B else 1) * (T - B * M)
      · exact ⟨k2, c1, by rw [c2, h2]; omega⟩
      · exact ⟨k1, a1, by rw [a2, h2]; omega⟩
    · rw [if_neg hBl] at h2
      rw [h2]
      exact hL
theorem Ring.fin {r x L : Int} {i : Nat} (P : Sofar N d s r x i L) (hi : i = N ∨ (0 < i ∧ x < sumBack s r i)) : IsEnd d s r x L := by
  have P1 := P.1
  have hN := R.pos
  refine ⟨fun k hk => ?_, ?_⟩
  · have ek : k = k % N + k / N * N := by
      have := Nat.mod_add_div k N
      rw [Nat.mul_comm] at this
      exact this.symm
    rw [ek] at hk ⊢
    refine P1 _ _ ?_ hk
    rcases hi with hi | ⟨_, hi⟩
    · rw [hi]
      exact Nat.mod_lt _ hN
    · rcases Nat.lt_or_ge (k % N) i with h | h
      · exact h
      · have := sum_mono R.s0 r h
        have h2 := R.sumS r (k % N) (k / N)
        have h3 : (0 : Int) ≤ ((k / N : Nat) : Int) * B := Int.mul_nonneg (Int.natCast_nonneg _) (by have := R.b1; omega)
        omega
  · rcases P.2 with ⟨h0, _⟩ | h
    · rcases hi with hi | ⟨hi, _⟩ <;> omega
    · exact h
theorem Ring.sofar0 (r x : Int) : Sofar N d s r x 0 0 := ⟨fun _ _ h => absurd h (Nat.not_lt_zero _), .inl ⟨rfl, rfl⟩⟩
theorem Ring.ends (r : Int) {x : Int} (hx : 0 ≤ x) : ∃ e, IsEnd d s r x e := by
  have go : ∀ n i L, i + n = N → sumBack s r i ≤ x → Sofar N d s r x i L → ∃ e, IsEnd d s r x e := by
    intro n
    induction n with
    | zero =>
      intro i L hi _ P
      exact ⟨L, R.fin P (.inl (by omega))⟩
    | succ n ih =>
      intro i L hi hl P
      have P' := R.step P hl rfl
      by_cases h : sumBack s r (i + 1) ≤ x
      · exact ih (i + 1) _ (by omega) h P'
      · exact ⟨_, R.fin P' (.inr ⟨by omega, by omega⟩)⟩
  exact go N 0 0 (by omega) (by show (0 : Int) ≤ x; exact hx) (R.sofar0 r x)
end
/-- the day on which reading x of reader r ends -/
noncomputable def E (d s : Int → Int) (r x : Int) : Int := open Classical in if h : ∃ e, IsEnd d s r x e then Classical.choose h else 0
section
variable {N : Nat} {d s : Int → Int} {B T M : Int} (R : Ring N d s B T M)
include R
theorem Ring.isE (r : Int) {x : Int} (hx : 0 ≤ x) : IsEnd d s r x (E d s r x) := by
  have h := R.ends r hx
  unfold E
  rw [dif_pos h]
  exact Classical.choose_spec h
theorem Ring.E_of {r x e : Int} (h : IsEnd d s r x e) : E d s r x = e := by
  have h' : ∃ e, IsEnd d s r x e := ⟨e, h⟩
  unfold E
  rw [dif_pos h']
  exact (Classical.choose_spec h').inj h
theorem Ring.E_per (r x t : Int) : E d s (r + N * t) x = E d s r x := by
  have hs : ∀ k, sumBack s (r + N * t) k = sumBack s r k := by
    intro k
    induction k with
    | zero => rfl
    | succ k ih =>
      show sumBack s (r + N * t) k + s (r + N * t - k) = sumBack s r k + s (r - k)
      rw [ih, show r + N * t - k = (r - k) + N * t by omega, R.sper]
  have hd : ∀ k, sumBack d (r + N * t) k = sumBack d r k := by
    intro k
    induction k with
    | zero => rfl
    | succ k ih =>
      show sumBack d (r + N * t) k + d (r + N * t - k) = sumBack d r k + d (r - k)
      rw [ih, show r + N * t - k = (r - k) + N * t by omega, R.dper]
  have hm : ∀ k, maxBack d (r + N * t) k = maxBack d r k := by
    intro k
    induction k with
    | zero => exact R.dper r t
    | succ k ih =>
      show max (maxBack d (r + N * t) k) (d (r + N * t - (k + 1 : Nat))) = max (maxBack d r k) (d (r - (k + 1 : Nat)))
      rw [ih, show r + N * t - ((k + 1 : Nat) : Int) = (r - (k + 1 : Nat)) + N * t by omega, R.dper]
  have he : IsEnd d s (r + N * t) x = IsEnd d s r x := by
    funext e
    unfold IsEnd ch
    simp only [hs, hd, hm]
  unfold E
  rw [he]
theorem Ring.E_mod (r x : Int) : E d s (r % N) x = E d s r x := by
  have h := R.E_per (r % N) x (r / N)
  rw [Int.emod_add_mul_ediv] at h
  exact h.symm
theorem Ring.ub (r : Int) {x : Int} (hx : 0 ≤ x) (k : Nat) (h : sumBack s r k ≤ x) : ch d s r k x ≤ E d s r x := (R.isE r hx).1 k h
theorem Ring.att (r : Int) {x : Int} (hx : 0 ≤ x) : ∃ k, sumBack s r k ≤ x ∧ ch d s r k x = E d s r x := (R.isE r hx).2
theorem Ring.low (r : Int) {x : Int} (hx : 0 ≤ x) : (x + 1) * d r ≤ E d s r x := by
  have h := R.ub r hx 0 hx
  have e : ch d s r 0 x = (x + 1) * d r := by
    unfold ch
    show 0 + d (r - (0 : Nat)) + (x - 0) * d r = _
    rw [show r - ((0 : Nat) : Int) = r by omega, Int.add_mul]
    simp
    omega
  omega
theorem Ring.E1 (r : Int) {x : Int} (hx : 0 ≤ x) : d r ≤ E d s r x := by
  have h := R.low r hx
  have h2 : (0 : Int) ≤ x * d r := Int.mul_nonneg hx (by have := R.d1 r; omega)
  rw [Int.add_mul] at h
  omega
/-- Bellman, from below -/
theorem Ring.next (r : Int) {x : Int} (hx : 0 ≤ x) : E d s r x + d r ≤ E d s r (x + 1) := by
  obtain ⟨k, hk, e⟩ := R.att r hx
  have h := R.ub r (x := x + 1) (by omega) k (by omega)
  have h2 := max_ge (f := d) r (j := 0) (k := k) (Nat.zero_le _)
  rw [show r - ((0 : Nat) : Int) = r by omega] at h2
  unfold ch at h e
  have e3 : (x + 1 - sumBack s r k) * maxBack d r k = (x - sumBack s r k) * maxBack d r k + maxBack d r k := by
    rw [show x + 1 - sumBack s r k = (x - sumBack s r k) + 1 by omega, Int.add_mul]
    omega
  omega
theorem Ring.from (r : Int) {x : Int} (hs : s r ≤ x) : E d s (r - 1) (x - s r) + d r ≤ E d s r x := by
  have hx : 0 ≤ x - s r := by omega
  have hx0 : 0 ≤ x := by have := R.s0 r; omega
  obtain ⟨k, hk, e⟩ := R.att (r - 1) hx
  have hS : sumBack s r (k + 1) = s r + sumBack s (r - 1) k := sum_front s k r
  have h := R.ub r hx0 (k + 1) (by omega)
  unfold ch at h e
  rw [sum_front d (k + 1) r, hS, max_front d k r] at h
  have e2 : x - (s r + sumBack s (r - 1) k) = x - s r - sumBack s (r - 1) k := by omega
  rw [e2] at h
  have h4 : (x - s r - sumBack s (r - 1) k) * maxBack d (r - 1) k ≤ (x - s r - sumBack s (r - 1) k) * max (d r) (maxBack d (r - 1) k) :=
    Int.mul_le_mul_of_nonneg_left (by omega) (by omega)
  omega
/-- .. from above -/
theorem Ring.bell (r : Int) {x : Int} (hx : 0 ≤ x) : E d s r x = d r ∨ (1 ≤ x ∧ E d s r x = E d s r (x - 1) + d r) ∨ (s r ≤ x ∧ E d s r x = E d s (r - 1) (x - s r) + d r) := by
  obtain ⟨k, hk, e⟩ := R.att r hx
  cases k with
  | zero =>
    have e0 : ch d s r 0 x = d r + x * d r := by
      unfold ch
      show 0 + d (r - (0 : Nat)) + (x - 0) * d r = _
      rw [show r - ((0 : Nat) : Int) = r by omega]
      simp
    by_cases h0 : x = 0
    · left
      subst h0
      simp at e0
      omega
    · right; left
      refine ⟨by omega, ?_⟩
      have h1 := R.ub r (x := x - 1) (by omega) 0 (by show (0 : Int) ≤ x - 1; omega)
      have e1 : ch d s r 0 (x - 1) = x * d r := by
        unfold ch
        show 0 + d (r - (0 : Nat)) + (x - 1 - 0) * d r = _
        rw [show r - ((0 : Nat) : Int) = r by omega, show x - 1 - 0 = x - 1 by omega, Int.sub_mul]
        omega
      have h2 := R.next r (x := x - 1) (by omega)
      rw [show x - 1 + 1 = x by omega] at h2
      omega
  | succ k =>
    have hS : sumBack s r (k + 1) = s r + sumBack s (r - 1) k := sum_front s k r
    have hnn := sum_nn R.s0 (r - 1) k
    have hsr : s r ≤ x := by omega
    have h1 := R.ub (r - 1) (x := x - s r) (by omega) k (by omega)
    have h3 := R.from r hsr
    have e' := e
    unfold ch at e' h1
    rw [sum_front d (k + 1) r, hS, max_front d k r, show x - (s r + sumBack s (r - 1) k) = x - s r - sumBack s (r - 1) k by omega] at e'
    by_cases hm : d r ≤ maxBack d (r - 1) k
    · right; right
      refine ⟨hsr, ?_⟩
      rw [show max (d r) (maxBack d (r - 1) k) = maxBack d (r - 1) k by omega] at e'
      omega
    · rw [show max (d r) (maxBack d (r - 1) k) = d r by omega] at e'
      by_cases hl : x - s r - sumBack s (r - 1) k = 0
      · right; right
        refine ⟨hsr, ?_⟩
        rw [hl] at e' h1
        simp at e' h1
        omega
      · right; left
        have hx1 : 1 ≤ x := by have := R.s0 r; omega
        refine ⟨hx1, ?_⟩
        have h5 := R.ub r (x := x - 1) (by omega) (k + 1) (by omega)
        unfold ch at h5
        rw [sum_front d (k + 1) r, hS, max_front d k r, show max (d r) (maxBack d (r - 1) k) = d r by omega,
          show x - 1 - (s r + sumBack s (r - 1) k) = (x - s r - sumBack s (r - 1) k) - 1 by omega, Int.sub_mul] at h5
        have h2 := R.next r (x := x - 1) (by omega)
        rw [show x - 1 + 1 = x by omega] at h2
        omega
end
end Rm
/-! Where ends repeat; counts by a day; heaps. -/
namespace Rm
def Rep (d s : Int → Int) (p q x : Int) : Prop := ∀ r, E d s r (x + p) = E d s r x + q
section
variable {N : Nat} {d s : Int → Int} {B T M : Int} (R : Ring N d s B T M)
include R
theorem Ring.T0 : 0 ≤ T := by
  have h := sum_nn (f := d) (fun i => by have := R.d1 i; omega) 0 N
  rw [R.t] at h
  exact h
theorem Ring.BM0 : 0 ≤ B * M := Int.mul_nonneg (by have := R.b1; omega) (by have := R.M1; omega)
theorem Ring.S_le (r : Int) {k m : Nat} (h : k ≤ m * N) : sumBack s r k ≤ m * B := by
  have h1 := sum_mono R.s0 r h
  have h2 := R.sumS r 0 m
  rw [Nat.zero_add] at h2
  rw [h2] at h1
  show sumBack s r k ≤ m * B
  have : sumBack s r 0 = 0 := rfl
  omega
/-- one more unit of x -/
theorem ch_succ (d s : Int → Int) (r : Int) (k : Nat) (x y : Int) : ch d s r k (x + y) = ch d s r k x + y * maxBack d r k := by
  unfold ch
  rw [show x + y - sumBack s r k = (x - sumBack s r k) + y by omega, Int.add_mul]
  omega
theorem Ring.rep_slow (hg : T ≤ B * M) {x : Int} (hx : 4 * B + B * M ≤ x) : Rep d s 1 M x := by
  intro r
  have hB := R.b1
  have hT := R.T0
  have hBM := R.BM0
  have hM := R.M1
  have hx0 : 0 ≤ x := by omega
  apply Int.le_antisymm
  · obtain ⟨k, hk, e⟩ := R.att r (x := x + 1) (by omega)
    by_cases hv : sumBack s r k ≤ x
    · have h1 := R.ub r hx0 k hv
      rw [ch_succ R d s r k x 1] at e
      have h2 := max_le R.mu r k
      omega
    · have hkN : 2 * N ≤ k := by
        rcases Nat.lt_or_ge k (2 * N) with h | h
        · have := R.S_le r (k := k) (m := 2) (by omega)
          omega
        · exact h
      obtain ⟨k', rfl⟩ : ∃ k', k = k' + 1 * N := ⟨k - 1 * N, by omega⟩
      rw [R.round r (x + 1) k' (by omega)] at e
      rw [R.sumS] at hk hv
      have h1 := R.ub r hx0 k' (by omega)
      unfold ch at h1
      rw [R.maxM r (k := k') (by omega)] at h1
      rw [show x + 1 - sumBack s r k' = (x - sumBack s r k') + 1 by omega, Int.add_mul] at e
      omega
  · obtain ⟨k, hk, e⟩ := R.att r hx0
    by_cases hm : maxBack d r k = M
    · have h1 := R.ub r (x := x + 1) (by omega) k (by omega)
      rw [ch_succ R d s r k x 1, hm] at h1
      omega
    · have hkN : k + 1 < N := by
        rcases Nat.lt_or_ge (k + 1) N with h | h
        · exact h
        · exact absurd (R.maxM r h) hm
      have hS := R.S_le r (k := k) (m := 1) (by omega)
      have h1 := R.ub r (x := x + 1) (by omega) (k + 1 * N) (by rw [R.sumS]; omega)
      rw [R.round r (x + 1) k (by omega)] at h1
      have h2 := max_le R.mu r k
      unfold ch at e
      have h3 : (x - sumBack s r k) * (maxBack d r k + 1) ≤ (x - sumBack s r k) * M := Int.mul_le_mul_of_nonneg_left (by omega) (by omega)
      rw [Int.mul_add] at h3
      rw [show x + 1 - sumBack s r k = (x - sumBack s r k) + 1 by omega, Int.add_mul] at h1
      omega
theorem Ring.rep_fast (hg : B * M < T) {x : Int} (hx : 4 * B + B * M ≤ x) : Rep d s B T x := by
  intro r
  have hB := R.b1
  have hBM := R.BM0
  have hx0 : 0 ≤ x := by omega
  apply Int.le_antisymm
  · obtain ⟨k, hk, e⟩ := R.att r (x := x + B) (by omega)
    by_cases hkN : 2 * N ≤ k + 1
    · obtain ⟨k', rfl⟩ : ∃ k', k = k' + 1 * N := ⟨k - 1 * N, by have := R.pos; omega⟩
      rw [R.round r (x + B) k' (by omega)] at e
      rw [R.sumS] at hk
      have h1 := R.ub r hx0 k' (by omega)
      unfold ch at h1
      rw [R.maxM r (k := k') (by omega)] at h1
      rw [show x + B - sumBack s r k' = (x - sumBack s r k') + B by omega, Int.add_mul] at e
      omega
    · have hS := R.S_le r (k := k) (m := 2) (by omega)
      have h1 := R.ub r hx0 (k + 1 * N) (by rw [R.sumS]; omega)
      rw [R.round r x k (by omega)] at h1
      unfold ch at e
      have h2 := max_le R.mu r k
      have h3 : (x + B - sumBack s r k) * maxBack d r k ≤ (x + B - sumBack s r k) * M := Int.mul_le_mul_of_nonneg_left h2 (by omega)
      rw [show x + B - sumBack s r k = (x - sumBack s r k) + B by omega, Int.add_mul, Int.add_mul] at h3
      rw [show x + B - sumBack s r k = (x - sumBack s r k) + B by omega, Int.add_mul] at e
      omega
  · obtain ⟨k, hk, e⟩ := R.att r hx0
    have h1 := R.ub r (x := x + B) (by omega) (k + 1 * N) (by rw [R.sumS]; omega)
    rw [R.round r (x + B) k (by omega)] at h1
    have h2 := max_le R.mu r k
    unfold ch at e
    have h3 : (x - sumBack s r k) * maxBack d r k ≤ (x - sumBack s r k) * M := Int.mul_le_mul_of_nonneg_left h2 (by omega)
    rw [show x + B - sumBack s r k = (x - sumBack s r k) + B by omega, Int.add_mul] at h1
    omega
theorem Ring.claim {p q m r : Int} (hp : 1 ≤ p) (hm : 1 ≤ m) (hsm : s r ≤ m) (h1 : E d s r (m - 1 + p) = E d s r (m - 1) + q) (h2 : E d s (r - 1) (m - s r + p) = E d s (r - 1) (m - s r) + q) : E d s r (m + p) = E d s r m + q := by
  have n1 := R.next r (x := m - 1) (by omega)
  have n2 := R.next r (x := m - 1 + p) (by omega)
  have f1 := R.from r (x := m) hsm
  have f2 := R.from r (x := m + p) (by omega)
  have b1 := R.bell r (x := m) (by omega)
  have b2 := R.bell r (x := m + p) (by omega)
  have e1 := R.E1 r (x := m - 1) (by omega)
  have e2 := R.E1 r (x := m - 1 + p) (by omega)
  have d1 := R.d1 r
  rw [show m - 1 + 1 = m by omega] at n1
  rw [show m - 1 + p + 1 = m + p by omega] at n2
  rw [show m + p - s r = m - s r + p by omega] at f2 b2
  rw [show m + p - 1 = m - 1 + p by omega] at b2
  rcases b1 with b1 | ⟨_, b1⟩ | ⟨_, b1⟩ <;> rcases b2 with b2 | ⟨_, b2⟩ | ⟨_, b2⟩ <;> omega
/-- as many in a row as the greatest number of books at first: then all later ones -/
theorem Ring.later {w p q n : Int} (hw : ∀ i, s i ≤ w) (hw1 : ∃ i, s i = w) (w1 : 1 ≤ w) (hp : 1 ≤ p) (hn : 0 ≤ n) (h : ∀ j, 0 ≤ j → j < w → Rep d s p q (n + j)) : ∀ m, n ≤ m → Rep d s p q m := by
  have go : ∀ k : Nat, ∀ m, n ≤ m → m - n < k → Rep d s p q m := by
    intro k
    induction k with
    | zero => intro m h1 h2; omega
    | succ k ih =>
      intro m h1 h2
      by_cases hmw : m < n + w
      · have := h (m - n) (by omega) (by omega)
        rw [show n + (m - n) = m by omega] at this
        exact this
      · obtain ⟨r0, hr0⟩ := hw1
        -- around the ring from r0
        have around : ∀ j : Nat, E d s (r0 + j) (m + p) = E d s (r0 + j) m + q := by
          intro j
          induction j with
          | zero =>
            have hs := hw r0
            refine R.claim hp (by omega) (by rw [show r0 + ((0 : Nat) : Int) = r0 by omega]; omega) (ih (m - 1) (by omega) (by omega) _) ?_
            rw [show r0 + ((0 : Nat) : Int) = r0 by omega]
            exact ih (m - s r0) (by omega) (by omega) _
          | succ j ihj =>
            have hs := hw (r0 + (j + 1 : Nat))
            have hs0 := R.s0 (r0 + (j + 1 : Nat))
            refine R.claim hp (by omega) (by omega) (ih (m - 1) (by omega) (by omega) _) ?_
            rw [show r0 + ((j + 1 : Nat) : Int) - 1 = r0 + j by omega]
            by_cases hz : s (r0 + (j + 1 : Nat)) = 0
            · rw [hz, show m - 0 = m by omega]
              exact ihj
            · exact ih (m - s (r0 + (j + 1 : Nat))) (by omega) (by omega) _
        intro r
        have hN := R.pos
        have a0 : 0 ≤ (r - r0) % (N : Int) := Int.emod_nonneg _ (by omega)
        have h3 := around ((r - r0) % (N : Int)).toNat
        have e3 : r0 + ((((r - r0) % (N : Int)).toNat : Nat) : Int) = r + N * (-((r - r0) / (N : Int))) := by
          have := Int.emod_add_mul_ediv (r - r0) (N : Int)
          rw [Int.mul_neg]
          omega
        rw [e3, R.E_per, R.E_per] at h3
        exact h3
  intro m hm
  exact go ((m - n).toNat + 1) m hm (by omega)
theorem Ring.rounds {p q n : Int} (hp : 1 ≤ p) (h : ∀ m, n ≤ m → Rep d s p q m) (r : Int) {x : Int} (hx : n ≤ x) : ∀ k : Nat, E d s r (x + k * p) = E d s r x + k * q
  | 0 => by simp
  | k + 1 => by
    have ih := Ring.rounds hp h r hx k
    have h0 : (0 : Int) ≤ (k : Int) * p := Int.mul_nonneg (Int.natCast_nonneg _) (by omega)
    have h1 := h (x + k * p) (by omega) r
    rw [show ((k + 1 : Nat) : Int) = (k : Int) + 1 by omega, Int.add_mul, Int.add_mul, Int.one_mul, Int.one_mul, ← Int.add_assoc, h1, ih]
    omega
theorem Ring.mono (r : Int) {x : Int} (hx : 0 ≤ x) : ∀ k : Nat, E d s r x + (k + 1) * d r ≤ E d s r (x + (k + 1))
  | 0 => by
    have := R.next r hx
    simpa using this
  | k + 1 => by
    have ih := Ring.mono r hx k
    have h1 := R.next r (x := x + (k + 1)) (by omega)
    rw [show ((k + 1 : Nat) : Int) = (k : Int) + 1 by omega, show x + ((k : Int) + 1 + 1) = x + ((k : Int) + 1) + 1 by omega, Int.add_mul ((k : Int) + 1) 1]
    omega
theorem Ring.lt (r : Int) {x y : Int} (hx : 0 ≤ x) (h : x < y) : E d s r x + d r ≤ E d s r y := by
  have h1 := R.mono r hx (y - x - 1).toNat
  rw [show ((((y - x - 1).toNat : Nat) : Int) + 1) = y - x by omega, show x + (y - x) = y by omega] at h1
  have h2 : (1 : Int) * d r ≤ (y - x) * d r := Int.mul_le_mul_of_nonneg_right (by omega) (by have := R.d1 r; omega)
  omega
theorem Ring.le (r : Int) {x y : Int} (hx : 0 ≤ x) (h : x ≤ y) : E d s r x ≤ E d s r y := by
  by_cases e : x = y
  · subst e
    exact Int.le_refl _
  · have := R.lt r hx (show x < y by omega)
    have := R.d1 r
    omega
end

/-- c readings of reader r have ended by day D -/
def Cnt (d s : Int → Int) (r D c : Int) : Prop := 0 ≤ c ∧ (c = 0 ∨ E d s r (c - 1) ≤ D) ∧ D < E d s r c
noncomputable def Cn (d s : Int → Int) (r D : Int) : Int := open Classical in if h : ∃ c, Cnt d s r D c then Classical.choose h else 0
section
variable {N : Nat} {d s : Int → Int} {B T M : Int} (R : Ring N d s B T M)
include R
theorem Ring.cnt_inj {r D c c' : Int} (h : Cnt d s r D c) (h' : Cnt d s r D c') : c = c' := by
  obtain ⟨a0, a1, a2⟩ := h
  obtain ⟨b0, b1, b2⟩ := h'
  rcases Int.lt_trichotomy c c' with z | z | z
  · have := R.le r (x := c) (y := c' - 1) a0 (by omega)
    omega
  · exact z
  · have := R.le r (x := c') (y := c - 1) b0 (by omega)
    omega
theorem Ring.cnt_ex (r D : Int) : ∃ c, Cnt d s r D c := by
  have go : ∀ n : Nat, D < E d s r n → ∃ c, Cnt d s r D c := by
    intro n
    induction n with
    | zero => intro h; exact ⟨0, by omega, .inl rfl, h⟩
    | succ n ih =>
      intro h
      by_cases hh : E d s r n ≤ D
      · exact ⟨((n + 1 : Nat) : Int), by omega, .inr (by rw [show ((n + 1 : Nat) : Int) - 1 = n by omega]; exact hh), h⟩
      · exact ih (by omega)
  refine go D.toNat ?_
  have h := R.low r (x := (D.toNat : Nat)) (by omega)
  have h2 : (((D.toNat : Nat) : Int) + 1) * 1 ≤ (((D.toNat : Nat) : Int) + 1) * d r := Int.mul_le_mul_of_nonneg_left (R.d1 r) (by omega)
  omega
theorem Ring.cn (r D : Int) : Cnt d s r D (Cn d s r D) := by
  have h := R.cnt_ex r D
  unfold Cn
  rw [dif_pos h]
  exact Classical.choose_spec h
theorem Ring.cn_of {r D c : Int} (h : Cnt d s r D c) : Cn d s r D = c := R.cnt_inj (R.cn r D) h
theorem Ring.cn_per (r D t : Int) : Cn d s (r + N * t) D = Cn d s r D := by
  refine R.cn_of ?_
  have h := R.cn r D
  unfold Cnt at h ⊢
  rw [R.E_per, R.E_per]
  exact h
theorem Ring.cn_mod (r D : Int) : Cn d s (r % N) D = Cn d s r D := by
  have h := R.cn_per (r % N) D (r / N)
  rw [Int.emod_add_mul_ediv] at h
  exact h.symm
theorem Ring.cn_end (r : Int) {x : Int} (hx : 0 ≤ x) : Cn d s r (E d s r x) = x + 1 := by
  refine R.cn_of ⟨by omega, .inr (by rw [show x + 1 - 1 = x by omega]; exact Int.le_refl _), ?_⟩
  have := R.lt r hx (show x < x + 1 by omega)
  have := R.d1 r
  omega
theorem Ring.cn_before (r : Int) {x : Int} (hx : 0 ≤ x) : Cn d s r (E d s r x - 1) = x := by
  refine R.cn_of ⟨hx, ?_, by omega⟩
  by_cases h : x = 0
  · exact .inl h
  · right
    have := R.lt r (x := x - 1) (y := x) (by omega) (by omega)
    have := R.d1 r
    omega
theorem Ring.cn_next (r D : Int) : Cn d s r D ≤ Cn d s r (D + d r) ∧ Cn d s r (D + d r) ≤ Cn d s r D + 1 := by
  obtain ⟨a0, a1, a2⟩ := R.cn r D
  obtain ⟨b0, b1, b2⟩ := R.cn r (D + d r)
  have d1 := R.d1 r
  constructor
  · rcases Int.lt_or_le (Cn d s r (D + d r)) (Cn d s r D) with z | z
    · rcases a1 with a1 | a1
      · omega
      · have := R.le r (x := Cn d s r (D + d r)) (y := Cn d s r D - 1) b0 (by omega)
        omega
    · exact z
  · rcases Int.lt_or_le (Cn d s r D + 1) (Cn d s r (D + d r)) with z | z
    · rcases b1 with b1 | b1
      · omega
      · have := R.lt r (x := Cn d s r D) (y := Cn d s r (D + d r) - 1) a0 (by omega)
        omega
    · exact z
/-- a reader who has a book and is not reading begins -/
theorem Ring.cn_reads {r D : Int} (hD : 0 ≤ D) (h : Cn d s r D < s r + Cn d s (r - 1) D) : Cn d s r D + 1 ≤ Cn d s r (D + d r) := by
  obtain ⟨a0, a1, a2⟩ := R.cn r D
  obtain ⟨b0, b1, b2⟩ := R.cn r (D + d r)
  obtain ⟨c0, c1, c2⟩ := R.cn (r - 1) D
  have hs := R.s0 r
  rcases Int.lt_or_le (Cn d s r (D + d r)) (Cn d s r D + 1) with z | z
  · have h1 := R.le r (x := Cn d s r (D + d r)) (y := Cn d s r D) b0 (by omega)
    have b := R.bell r (x := Cn d s r D) a0
    rcases b with b | ⟨h2, b⟩ | ⟨h2, b⟩
    · omega
    · rcases a1 with a1 | a1 <;> omega
    · rcases c1 with c1 | c1
      · omega
      · have h3 := R.le (r - 1) (x := Cn d s r D - s r) (y := Cn d s (r - 1) D - 1) (by omega) (by omega)
        omega
  · exact z
end
theorem sum_lin (f g h : Int → Int) (r : Int) : ∀ n : Nat, sumBack (fun j => f j + g (j - 1) - h j) r n = sumBack f r n + sumBack g (r - 1) n - sumBack h r n
  | 0 => by simp [sumBack]
  | n + 1 => by
    show sumBack (fun j => f j + g (j - 1) - h j) r n + (f (r - n) + g (r - n - 1) - h (r - n)) = sumBack f r n + f (r - n) + (sumBack g (r - 1) n + g (r - 1 - n)) - (sumBack h r n + h (r - n))
    rw [sum_lin f g h r n, show r - 1 - (n : Int) = r - n - 1 by omega]
    omega
theorem sum_win {f : Int → Int} {N : Nat} (hp : ∀ i t : Int, f (i + N * t) = f i) (r : Int) : sumBack f (r - 1) N = sumBack f r N := by
  have h1 := sum_front f N r
  have h2 : sumBack f r (N + 1) = sumBack f r N + f (r - N) := rfl
  have h3 := hp (r - N) 1
  rw [show r - (N : Int) + N * 1 = r by omega] at h3
  omega
theorem sum_le {f g : Int → Int} (h : ∀ i, f i ≤ g i) (r : Int) : ∀ n : Nat, sumBack f r n ≤ sumBack g r n
  | 0 => Int.le_refl _
  | n + 1 => by
    have h1 := sum_le h r n
    have h2 := h (r - n)
    show sumBack f r n + f (r - n) ≤ sumBack g r n + g (r - n)
    omega
theorem sum_lt {f g : Int → Int} (h : ∀ i, f i ≤ g i) (r : Int) : ∀ {n j : Nat}, j < n → f (r - j) < g (r - j) → sumBack f r n < sumBack g r n
  | 0, j, hj, _ => absurd hj (Nat.not_lt_zero _)
  | n + 1, j, hj, hh => by
    show sumBack f r n + f (r - n) < sumBack g r n + g (r - n)
    by_cases e : j = n
    · subst e
      have := sum_le h r j
      omega
    · have h1 := sum_lt h r (n := n) (j := j) (by omega) hh
      have h2 := h (r - n)
      omega
theorem sum_shift (f : Int → Int) (r c : Int) : ∀ n : Nat, sumBack (fun i => f i + c) r n = sumBack f r n + n * c
  | 0 => by simp [sumBack]
  | n + 1 => by
    show sumBack (fun i => f i + c) r n + (f (r - n) + c) = sumBack f r n + f (r - n) + ((n + 1 : Nat) : Int) * c
    rw [sum_shift f r c n, show ((n + 1 : Nat) : Int) = (n : Int) + 1 by omega, Int.add_mul]
    omega
section
variable {N : Nat} {d s : Int → Int} {B T M : Int} (R : Ring N d s B T M)
include R
/-- the heaps of a day, all together: fewer than all books, as at least one is being read; at most one a reader is -/
theorem Ring.heaps {D : Int} (hD : 0 ≤ D) (r : Int) : B - N ≤ sumBack (fun j => s j + Cn d s (j - 1) D - Cn d s j (D + d j)) r N ∧ sumBack (fun j => s j + Cn d s (j - 1) D - Cn d s j (D + d j)) r N < B := by
  rw [sum_lin s (fun j => Cn d s j D) (fun j => Cn d s j (D + d j)) r N, R.b, sum_win (f := fun j => Cn d s j D) (N := N) (fun i t => R.cn_per i D t)]
  have h1 := sum_le (f := fun j => Cn d s j D) (g := fun j => Cn d s j (D + d j)) (fun i => (R.cn_next i D).1) r N
  have h2 := sum_le (f := fun j => Cn d s j (D + d j)) (g := fun j => Cn d s j D + 1) (fun i => (R.cn_next i D).2) r N
  rw [sum_shift (fun j => Cn d s j D) r 1 N] at h2
  refine ⟨by omega, ?_⟩
  -- someone reads
  have some_reads : ∃ j : Nat, j < N ∧ Cn d s (r - j) D < Cn d s (r - j) (D + d (r - j)) := by
    apply Classical.byContradiction
    intro hno
    have hall : ∀ j : Nat, j < N → s (r - j) + Cn d s (r - j - 1) D ≤ Cn d s (r - j) D := by
      intro j hj
      apply Classical.byContradiction
      intro hh
      have := R.cn_reads (r := r - j) hD (by omega)
      exact hno ⟨j, hj, by omega⟩
    have go : ∀ n : Nat, n ≤ N → sumBack s r n + sumBack (fun j => Cn d s j D) (r - 1) n ≤ sumBack (fun j => Cn d s j D) r n := by
      intro n
      induction n with
      | zero => intro _; show (0 : Int) + 0 ≤ 0; omega
      | succ n ih =>
        intro hn
        have h3 := ih (by omega)
        have h4 := hall n (by omega)
        show sumBack s r n + s (r - n) + (sumBack (fun j => Cn d s j D) (r - 1) n + Cn d s (r - 1 - n) D) ≤ sumBack (fun j => Cn d s j D) r n + Cn d s (r - n) D
        rw [show r - 1 - (n : Int) = r - n - 1 by omega]
        omega
    have h5 := go N (Nat.le_refl _)
    rw [R.b, sum_win (f := fun j => Cn d s j D) (N := N) (fun i t => R.cn_per i D t)] at h5
    have := R.b1
    omega
  obtain ⟨j, hj, hjr⟩ := some_reads
  have h6 := sum_lt (f := fun j => Cn d s j D) (g := fun j => Cn d s j (D + d j)) (fun i => (R.cn_next i D).1) r hj hjr
  omega
end

/-! ### from lists -/
/-- round the list, from any index -/
def at' (l : List Int) (i : Int) : Int := l.getD (i % (l.length : Int)).toNat 0
theorem at_per (l : List Int) (i t : Int) : at' l (i + (l.length : Int) * t) = at' l i := by
  unfold at'
  rw [Int.add_mul_emod_self_left]
theorem at_nat {l : List Int} {j : Nat} {v : Int} (h : l[j]? = some v) : at' l (j : Int) = v := by
  have hj := (List.getElem?_eq_some_iff.mp h).1
  unfold at'
  rw [Int.emod_eq_of_lt (by omega) (by omega), List.getD_eq_getElem?_getD, Int.toNat_natCast, h]
  rfl
theorem at_mem {l : List Int} (hl : 0 < l.length) (i : Int) : at' l i ∈ l := by
  unfold at'
  have h0 : 0 ≤ i % (l.length : Int) := Int.emod_nonneg _ (by omega)
  have h1 : i % (l.length : Int) < l.length := Int.emod_lt_of_pos _ (by omega)
  rw [List.getD_eq_getElem?_getD, List.getElem?_eq_getElem (show (i % (l.length : Int)).toNat < l.length by omega)]
  exact List.getElem_mem _
theorem mem_at {l : List Int} {v : Int} (h : v ∈ l) : ∃ i, at' l i = v := by
  obtain ⟨j, hj, e⟩ := List.getElem_of_mem h
  exact ⟨j, at_nat (by rw [List.getElem?_eq_getElem hj, e])⟩
theorem sum_list (l : List Int) : sumBack (at' l) ((l.length : Int) - 1) l.length = l.sum := by
  have go : ∀ n : Nat, n ≤ l.length → sumBack (at' l) ((n : Int) - 1) n = (l.take n).sum := by
    intro n
    induction n with
    | zero => intro _; simp [sumBack]
    | succ n ih =>
      intro hn
      rw [show ((n + 1 : Nat) : Int) - 1 = n by omega, sum_front, ih (by omega), List.take_add_one, List.sum_append, at_nat (List.getElem?_eq_getElem (show n < l.length by omega)), List.getElem?_eq_getElem (show n < l.length by omega)]
      simp
      omega
  have h := go l.length (Nat.le_refl _)
  rw [List.take_length] at h
  exact h
theorem sum_any {f : Int → Int} {N : Nat} (hp : ∀ i t : Int, f (i + N * t) = f i) (p q : Int) : sumBack f p N = sumBack f q N := by
  have go : ∀ (n : Nat) (r : Int), sumBack f (r - n) N = sumBack f r N := by
    intro n
    induction n with
    | zero => intro r; rw [show r - ((0 : Nat) : Int) = r by omega]
    | succ n ih =>
      intro r
      rw [show r - ((n + 1 : Nat) : Int) = r - n - 1 by omega, sum_win hp, ih]
  rcases Int.le_total p q with h | h
  · have := go (q - p).toNat q
    rw [show q - ((q - p).toNat : Int) = p by omega] at this
    exact this
  · have := go (p - q).toNat p
    rw [show p - ((p - q).toNat : Int) = q by omega] at this
    exact this.symm
theorem ring_of {ds ss : List Int} {M : Int} (hl : 0 < ds.length) (hls : ss.length = ds.length) (h1 : ∀ y ∈ ds, 1 ≤ y) (h2 : ∀ y ∈ ss, 0 ≤ y) (hB : 1 ≤ ss.sum) (hM : M ∈ ds) (hMu : ∀ y ∈ ds, y ≤ M) :
    Ring ds.length (at' ds) (at' ss) ss.sum ds.sum M where
  pos := hl
  dper := at_per ds
  sper := by rw [← hls]; exact at_per ss
  d1 := fun i => h1 _ (at_mem hl i)
  s0 := fun i => h2 _ (at_mem (by omega) i)
  b := fun r => by
    rw [sum_any (f := at' ss) (N := ds.length) (by rw [← hls]; exact at_per ss) r ((ss.length : Int) - 1), ← hls]
    exact sum_list ss
  b1 := hB
  t := fun r => by
    rw [sum_any (f := at' ds) (N := ds.length) (at_per ds) r ((ds.length : Int) - 1)]
    exact sum_list ds
  mu := fun i => hMu _ (at_mem hl i)
  ma := mem_at hM
end Rm
/-! An own exception class with its own __init__, which calls its own base's. -/
namespace Rp
open PySem PySem.Spec PyProof.Rows L2
/-- the slots that a class over ValueError has -/
def oxS : List (Option Value) → Bool
  | [_, _, _, _, some (.builtin n), _] => n == "ValueError.__new__"
  | _ => false
/-- the record of such a class -/
def oxO (C : Addr) : Obj → Bool
  | ⟨.type t, _, .cls cd, sl⟩ => t == "type" && cd.hasDict && !cd.hasDel && oxS sl.toList && (match cd.mro with
    | .ref c :: r => c == C && PySem.HandSPX.refsVE r
    | _ => false)
  | _ => false
def oxB (K : PySem.W.Frag) (C : Addr) : Bool := (K.lookup C).any (oxO C) && (decide (PySem.W.findIn K (.ref C) "__setattr__" = some (some (.builtin "object.__setattr__"))) && (decide (PySem.W.subIn K (.ref C) (.type "BaseException") = some true) && (decide (PySem.W.typeIn K (.ref C) = some (.type "type")) && PySem.W.keepIn K (.ref C))))
theorem oxB_ok {K : PySem.W.Frag} {C : Addr} (h : oxB K C = true) : OexC K C := by
  unfold oxB at h
  simp only [Bool.and_eq_true, decide_eq_true_eq] at h
  obtain ⟨h0, h1, h2, h3, h4⟩ := h
  refine ⟨?_, h1, h2, h3, h4⟩
  cases e : K.lookup C with
  | none => rw [e] at h0; cases h0
  | some o =>
    rw [e] at h0
    have h0 : oxO C o = true := h0
    unfold oxO at h0
    split at h0
    · rename_i t dd cd sl q0
      simp only [Bool.and_eq_true, beq_iff_eq, Bool.not_eq_true'] at h0
      obtain ⟨⟨⟨⟨rfl, hd⟩, hl⟩, hs⟩, hm⟩ := h0
      unfold oxS at hs
      split at hs
      · rename_i k0 k1 k2 k3 n k5 es
        have hn : n = "ValueError.__new__" := beq_iff_eq.mp hs
        subst hn
        split at hm
        · rename_i c r em
          simp only [Bool.and_eq_true, beq_iff_eq] at hm
          obtain ⟨rfl, hr⟩ := hm
          obtain ⟨nm, bs, mro, ns, qn, hdct, sn, sub, ab, col, del⟩ := cd
          have hd : hdct = true := hd
          have hl : del = false := hl
          have em : mro = _ := em
          subst hd hl em
          have esl : sl = #[k0, k1, k2, k3, some (.builtin "ValueError.__new__"), k5] := by
            obtain ⟨l⟩ := sl
            simp only at es
            rw [es]
          subst esl
          exact ⟨nm, qn, ns, bs, r, sn, sub, ab, col, dd, k0, k1, k2, k3, k5, rfl, hr⟩
        · cases hm
      · cases hs
    · cases h0
section
variable {X : Cx} {e : Expr} {es : List Expr} {ta : TA} {p1 p2 pos : Pos}
/-- Base.__init__(self, ..), Base an own class over ValueError -/
theorem pe_reinit {pl : Sem Bool} {x : Str} {B : Addr} {mc : Value} (hg : Gl X x) (hm : X.mg x = some (.ref B)) (r : ClX.CRead X.K B mc) (vV : PySem.W.findCls X.K (.ref B) mc "__init__" = some (.val (.builtin "ValueError.__init__"))) (ha : PA X (e :: es) ta)
    (hc : eval (.Call (.Attribute (.Name x p1) "__init__" p2) (e :: es) [] pos) X.env = (do
      let ov ← eval (.Name x p1) X.env
      standAt p2.atName
      let (f, first) ← holding [ov] (getMethod ov "__init__" pl)
      callWith pos f first (backTo pos (starEach (e :: es) X.env)) (backToKw pos (keywordEach [] X.env))) := by rfl)
    (hdb : (x == ("__debug__" : Str)) = false := by decide) (he : starEach (e :: es) X.env = (false, eval e X.env) :: starEach es X.env := by rfl) (hpl : (backTo pos (starEach es X.env)).any (·.1) = false := by rfl) :
    PE X (.Call (.Attribute (.Name x p1) "__init__" p2) (e :: es) [] pos) (tVeI X.K ta) := by
  refine ⟨fun pins s σ H Q I h => ?_⟩
  refine PySem.W.methodCall_KW (ld_glob I hg hm ?_ hdb) hc
  refine PySem.W.method_cls I.kIn r.ga (PySem.W.cls_value I.kIn r.rd vV (by decide +kernel) ?_)
  show wpAny _ _ (callWith pos (Value.builtin "ValueError.__init__") [] (backTo pos (starEach (e :: es) X.env)) []) _ _ _
  refine PyProof.Rows.callWith_method1 (thn (ha.run pos pins _ σ H _ (I.tok _) h) fun us s1 ⟨vs, H1, I1, r1, a, C, ws, ev, hl, T, ea, q⟩ => ?_) he hpl
  subst ev
  cases r1 with
  | @cons _ u0 _ ur ra rw' =>
    obtain rfl : u0 = Value.ref a := ra
    exact oinit_ok T I1 ea (by rw [← Paired.length rw', sizeLine_eq]; omega) fun s' J => ⟨.non, H1, J, rfl, q⟩
end
end Rp
namespace Rp
open PySem PySem.Spec PyProof.Rows L2
def topS (i : Nat) : Stmt := PySem.Challenge.pw_readingring_k07_evidence_for_the_pace.main.body.getD i (.Pass ⟨0, 0, 0, 0⟩)
abbrev s_iInvalidChain : Stmt := inClass (topS 10) 0
abbrev s_is_number : Stmt := topS 13
abbrev s_lies_between : Stmt := topS 14
abbrev s_check_number : Stmt := topS 15
abbrev s_check_reader : Stmt := topS 16
abbrev s_rinit : Stmt := inClass (topS 22) 0
abbrev s_rdays : Stmt := inClass (topS 22) 2
abbrev s_rstarts : Stmt := inClass (topS 22) 3
abbrev s_rbooks : Stmt := inClass (topS 22) 4
abbrev s_rpace : Stmt := inClass (topS 22) 5
abbrev s_rlen : Stmt := inClass (topS 22) 7
abbrev s_rcall : Stmt := inClass (topS 22) 10
abbrev s_check_part : Stmt := topS 23
abbrev s_slowest_decides : Stmt := topS 24
abbrev s_pace_of : Stmt := topS 25
abbrev s_round_pace : Stmt := topS 26
abbrev s_end_day : Stmt := topS 27
abbrev s_reader_before : Stmt := topS 29
abbrev s_pace_readers : Stmt := topS 31
abbrev s_judge_pace : Stmt := topS 32
abbrev s_ldice : Stmt := topS 34
abbrev s_lnext : Stmt := topS 35
abbrev s_llike : Stmt := topS 36
abbrev s_lpick : Stmt := topS 37
abbrev s_ltold : Stmt := topS 38
abbrev s_lring : Stmt := topS 39
abbrev s_lterms : Stmt := topS 40
abbrev s_ljudged : Stmt := topS 41
abbrev s_law : Stmt := topS 42
abbrev N_iInvalidChain : List Str := ["self", "index"]
abbrev P_iInvalidChain : List Str := ["self", "index"]
theorem sc_iInvalidChain : FnScope N_iInvalidChain P_iInvalidChain (defScope s_iInvalidChain) := ⟨rfl, rfl, rfl, by decide +kernel, rfl, by decide +kernel, by decide +kernel⟩
abbrev N_is_number : List Str := ["value"]
abbrev P_is_number : List Str := ["value"]
theorem sc_is_number : FnScope N_is_number P_is_number (defScope s_is_number) := ⟨rfl, rfl, rfl, by decide +kernel, rfl, by decide +kernel, by decide +kernel⟩
abbrev N_lies_between : List Str := ["value", "low", "high"]
abbrev P_lies_between : List Str := ["value", "low", "high"]
theorem sc_lies_between : FnScope N_lies_between P_lies_between (defScope s_lies_between) := ⟨rfl, rfl, rfl, by decide +kernel, rfl, by decide +kernel, by decide +kernel⟩
abbrev N_check_number : List Str := ["value", "low", "high"]
abbrev P_check_number : List Str := ["value", "low", "high"]
theorem sc_check_number : FnScope N_check_number P_check_number (defScope s_check_number) := ⟨rfl, rfl, rfl, by decide +kernel, rfl, by decide +kernel, by decide +kernel⟩
abbrev N_check_reader : List Str := ["ring", "reader"]
abbrev P_check_reader : List Str := ["ring", "reader"]
theorem sc_check_reader : FnScope N_check_reader P_check_reader (defScope s_check_reader) := ⟨rfl, rfl, rfl, by decide +kernel, rfl, by decide +kernel, by decide +kernel⟩
abbrev N_rinit : List Str := ["self", "days", "starts"]
abbrev P_rinit : List Str := ["self", "days", "starts"]
theorem sc_rinit : FnScope N_rinit P_rinit (defScope s_rinit) := ⟨rfl, rfl, rfl, by decide +kernel, rfl, by decide +kernel, by decide +kernel⟩
abbrev N_rdays : List Str := ["self"]
abbrev P_rdays : List Str := ["self"]
theorem sc_rdays : FnScope N_rdays P_rdays (defScope s_rdays) := ⟨rfl, rfl, rfl, by decide +kernel, rfl, by decide +kernel, by decide +kernel⟩
abbrev N_rstarts : List Str := ["self"]
abbrev P_rstarts : List Str := ["self"]
theorem sc_rstarts : FnScope N_rstarts P_rstarts (defScope s_rstarts) := ⟨rfl, rfl, rfl, by decide +kernel, rfl, by decide +kernel, by decide +kernel⟩
abbrev N_rbooks : List Str := ["self"]
abbrev P_rbooks : List Str := ["self"]
theorem sc_rbooks : FnScope N_rbooks P_rbooks (defScope s_rbooks) := ⟨rfl, rfl, rfl, by decide +kernel, rfl, by decide +kernel, by decide +kernel⟩
abbrev N_rpace : List Str := ["self"]
abbrev P_rpace : List Str := ["self"]
theorem sc_rpace : FnScope N_rpace P_rpace (defScope s_rpace) := ⟨rfl, rfl, rfl, by decide +kernel, rfl, by decide +kernel, by decide +kernel⟩
abbrev N_rlen : List Str := ["self"]
abbrev P_rlen : List Str := ["self"]
theorem sc_rlen : FnScope N_rlen P_rlen (defScope s_rlen) := ⟨rfl, rfl, rfl, by decide +kernel, rfl, by decide +kernel, by decide +kernel⟩
abbrev N_rcall : List Str := ["self", "reader", "number"]
abbrev P_rcall : List Str := ["self", "reader", "number"]
theorem sc_rcall : FnScope N_rcall P_rcall (defScope s_rcall) := ⟨rfl, rfl, rfl, by decide +kernel, rfl, by decide +kernel, by decide +kernel⟩
abbrev N_check_part : List Str := ["part", "values", "limits", "lengths", "low", "high", "fewest", "most", "index", "value"]
abbrev P_check_part : List Str := ["part", "values", "limits", "lengths"]
theorem sc_check_part : FnScope N_check_part P_check_part (defScope s_check_part) := ⟨rfl, rfl, rfl, by decide +kernel, rfl, by decide +kernel, by decide +kernel⟩
abbrev N_slowest_decides : List Str := ["days", "books"]
abbrev P_slowest_decides : List Str := ["days", "books"]
theorem sc_slowest_decides : FnScope N_slowest_decides P_slowest_decides (defScope s_slowest_decides) := ⟨rfl, rfl, rfl, by decide +kernel, rfl, by decide +kernel, by decide +kernel⟩
abbrev N_pace_of : List Str := ["days", "books"]
abbrev P_pace_of : List Str := ["days", "books"]
theorem sc_pace_of : FnScope N_pace_of P_pace_of (defScope s_pace_of) := ⟨rfl, rfl, rfl, by decide +kernel, rfl, by decide +kernel, by decide +kernel⟩
abbrev N_round_pace : List Str := ["days", "books", "common"]
abbrev P_round_pace : List Str := ["days", "books"]
theorem sc_round_pace : FnScope N_round_pace P_round_pace (defScope s_round_pace) := ⟨rfl, rfl, rfl, by decide +kernel, rfl, by decide +kernel, by decide +kernel⟩
abbrev N_end_day : List Str := ["ring", "reader", "number", "books", "slowest", "gain", "latest", "total", "slowest_met", "left", "step", "rounds"]
abbrev P_end_day : List Str := ["ring", "reader", "number"]
theorem sc_end_day : FnScope N_end_day P_end_day (defScope s_end_day) := ⟨rfl, rfl, rfl, by decide +kernel, rfl, by decide +kernel, by decide +kernel⟩
abbrev N_reader_before : List Str := ["ring", "reader"]
abbrev P_reader_before : List Str := ["ring", "reader"]
theorem sc_reader_before : FnScope N_reader_before P_reader_before (defScope s_reader_before) := ⟨rfl, rfl, rfl, by decide +kernel, rfl, by decide +kernel, by decide +kernel⟩
abbrev N_pace_readers : List Str := ["ring"]
abbrev P_pace_readers : List Str := ["ring"]
theorem sc_pace_readers : FnScope N_pace_readers P_pace_readers (defScope s_pace_readers) := ⟨rfl, rfl, rfl, by decide +kernel, rfl, by decide +kernel, by decide +kernel⟩
abbrev N_judge_pace : List Str := ["ring", "readers", "index", "reader"]
abbrev P_judge_pace : List Str := ["ring", "readers"]
theorem sc_judge_pace : FnScope N_judge_pace P_judge_pace (defScope s_judge_pace) := ⟨rfl, rfl, rfl, by decide +kernel, rfl, by decide +kernel, by decide +kernel⟩
abbrev N_ldice : List Str := ["_law_script", "_law_mixed", "_law_cell"]
abbrev P_ldice : List Str := ["_law_script"]
theorem sc_ldice : FnScope N_ldice P_ldice (defScope s_ldice) := ⟨rfl, rfl, rfl, by decide +kernel, rfl, by decide +kernel, by decide +kernel⟩
abbrev N_lnext : List Str := ["_law_dice_here", "_law_many", "_law_found", "_law_cell"]
abbrev P_lnext : List Str := ["_law_dice_here", "_law_many"]
theorem sc_lnext : FnScope N_lnext P_lnext (defScope s_lnext) := ⟨rfl, rfl, rfl, by decide +kernel, rfl, by decide +kernel, by decide +kernel⟩
abbrev N_llike : List Str := ["_law_found", "_law_due", "_law_k"]
abbrev P_llike : List Str := ["_law_found", "_law_due"]
theorem sc_llike : FnScope N_llike P_llike (defScope s_llike) := ⟨rfl, rfl, rfl, by decide +kernel, rfl, by decide +kernel, by decide +kernel⟩
abbrev N_lpick : List Str := ["_law_d", "_law_some"]
abbrev P_lpick : List Str := ["_law_d", "_law_some"]
theorem sc_lpick : FnScope N_lpick P_lpick (defScope s_lpick) := ⟨rfl, rfl, rfl, by decide +kernel, rfl, by decide +kernel, by decide +kernel⟩
abbrev N_ltold : List Str := ["_law_work", "e", "_law_some", "_law_k"]
abbrev P_ltold : List Str := ["_law_work"]
theorem sc_ltold : FnScope N_ltold P_ltold (defScope s_ltold) := ⟨rfl, rfl, rfl, by decide +kernel, rfl, by decide +kernel, by decide +kernel⟩
abbrev N_lring : List Str := ["_law_d", "_law_size", "_law_most", "_law_count", "_law_days", "_law_starts", "_law_k"]
abbrev P_lring : List Str := ["_law_d", "_law_size", "_law_most"]
theorem sc_lring : FnScope N_lring P_lring (defScope s_lring) := ⟨rfl, rfl, rfl, by decide +kernel, rfl, by decide +kernel, by decide +kernel⟩
abbrev N_lterms : List Str := ["_law_one", "_law_other", "_law_low", "_law_k"]
abbrev P_lterms : List Str := ["_law_one", "_law_other"]
theorem sc_lterms : FnScope N_lterms P_lterms (defScope s_lterms) := ⟨rfl, rfl, rfl, by decide +kernel, rfl, by decide +kernel, by decide +kernel⟩
abbrev N_ljudged : List Str := ["_law_days", "_law_books", "_law_readers", "_law_size", "_law_k", "_law_one", "_law_good"]
abbrev P_ljudged : List Str := ["_law_days", "_law_books", "_law_readers"]
theorem sc_ljudged : FnScope N_ljudged P_ljudged (defScope s_ljudged) := ⟨rfl, rfl, rfl, by decide +kernel, rfl, by decide +kernel, by decide +kernel⟩
abbrev N_law : List Str := ["_law_script", "_law_d", "_law_turn", "_law_days", "_law_starts", "_law_ring_here", "_law_books", "_law_size", "_law_due", "_law_k", "_law_readers", "_law_whole"]
abbrev P_law : List Str := ["_law_script"]
theorem sc_law : FnScope N_law P_law (defScope s_law) := ⟨rfl, rfl, rfl, by decide +kernel, rfl, by decide +kernel, by decide +kernel⟩
/-- what the top has written: the defs where they stand, the class, constants, built-ins that are still so -/
structure Tx (K : PySem.W.Frag) (mg : Str → Option Value) where
  C : Addr
  a_iInvalidChain : Addr
  d_iInvalidChain : FuncData
  F_iInvalidChain : Fun K "__init__" "InvalidChain.__init__" s_iInvalidChain a_iInvalidChain d_iInvalidChain
  b_iInvalidChain : Binds K d_iInvalidChain P_iInvalidChain []
  c_iInvalidChain : Addr
  gc_iInvalidChain : mg "InvalidChain" = some (.ref c_iInvalidChain)
  ic_iInvalidChain : PySem.W.findIn K (.ref c_iInvalidChain) "__init__" = some (some (.ref a_iInvalidChain))
  it_iInvalidChain : PySem.W.typeIn K (.ref a_iInvalidChain) = some (.type "function")
  io_iInvalidChain : oxB K c_iInvalidChain = true
  a_is_number : Addr
  d_is_number : FuncData
  F_is_number : Fun K "is_number" "is_number" s_is_number a_is_number d_is_number
  b_is_number : Binds K d_is_number P_is_number []
  g_is_number : mg "is_number" = some (.ref a_is_number)
  a_lies_between : Addr
  d_lies_between : FuncData
  F_lies_between : Fun K "lies_between" "lies_between" s_lies_between a_lies_between d_lies_between
  b_lies_between : Binds K d_lies_between P_lies_between []
  g_lies_between : mg "lies_between" = some (.ref a_lies_between)
  a_check_number : Addr
  d_check_number : FuncData
  F_check_number : Fun K "check_number" "check_number" s_check_number a_check_number d_check_number
  b_check_number : Binds K d_check_number P_check_number []
  g_check_number : mg "check_number" = some (.ref a_check_number)
  a_check_reader : Addr
  d_check_reader : FuncData
  F_check_reader : Fun K "check_reader" "check_reader" s_check_reader a_check_reader d_check_reader
  b_check_reader : Binds K d_check_reader P_check_reader []
  g_check_reader : mg "check_reader" = some (.ref a_check_reader)
  a_rinit : Addr
  d_rinit : FuncData
  F_rinit : Fun K "__init__" "Ring.__init__" s_rinit a_rinit d_rinit
  b_rinit : Binds K d_rinit P_rinit []
  a_rdays : Addr
  d_rdays : FuncData
  F_rdays : Fun K "days" "Ring.days" s_rdays a_rdays d_rdays
  b_rdays : Binds K d_rdays P_rdays []
  a_rstarts : Addr
  d_rstarts : FuncData
  F_rstarts : Fun K "starts" "Ring.starts" s_rstarts a_rstarts d_rstarts
  b_rstarts : Binds K d_rstarts P_rstarts []
  a_rbooks : Addr
  d_rbooks : FuncData
  F_rbooks : Fun K "books" "Ring.books" s_rbooks a_rbooks d_rbooks
  b_rbooks : Binds K d_rbooks P_rbooks []
  a_rpace : Addr
  d_rpace : FuncData
  F_rpace : Fun K "pace" "Ring.pace" s_rpace a_rpace d_rpace
  b_rpace : Binds K d_rpace P_rpace []
  a_rlen : Addr
  d_rlen : FuncData
  F_rlen : Fun K "__len__" "Ring.__len__" s_rlen a_rlen d_rlen
  b_rlen : Binds K d_rlen P_rlen []
  a_rcall : Addr
  d_rcall : FuncData
  F_rcall : Fun K "__call__" "Ring.__call__" s_rcall a_rcall d_rcall
  b_rcall : Binds K d_rcall P_rcall []
  a_check_part : Addr
  d_check_part : FuncData
  F_check_part : Fun K "check_part" "check_part" s_check_part a_check_part d_check_part
  b_check_part : Binds K d_check_part P_check_part []
  g_check_part : mg "check_part" = some (.ref a_check_part)
  a_slowest_decides : Addr
  d_slowest_decides : FuncData
  F_slowest_decides : Fun K "slowest_decides" "slowest_decides" s_slowest_decides a_slowest_decides d_slowest_decides
  b_slowest_decides : Binds K d_slowest_decides P_slowest_decides []
  g_slowest_decides : mg "slowest_decides" = some (.ref a_slowest_decides)
  a_pace_of : Addr
  d_pace_of : FuncData
  F_pace_of : Fun K "pace_of" "pace_of" s_pace_of a_pace_of d_pace_of
  b_pace_of : Binds K d_pace_of P_pace_of []
  g_pace_of : mg "pace_of" = some (.ref a_pace_of)
  a_round_pace : Addr
  d_round_pace : FuncData
  F_round_pace : Fun K "round_pace" "round_pace" s_round_pace a_round_pace d_round_pace
  b_round_pace : Binds K d_round_pace P_round_pace []
  g_round_pace : mg "round_pace" = some (.ref a_round_pace)
  a_end_day : Addr
  d_end_day : FuncData
  F_end_day : Fun K "end_day" "end_day" s_end_day a_end_day d_end_day
  b_end_day : Binds K d_end_day P_end_day []
  g_end_day : mg "end_day" = some (.ref a_end_day)
  a_reader_before : Addr
  d_reader_before : FuncData
  F_reader_before : Fun K "reader_before" "reader_before" s_reader_before a_reader_before d_reader_before
  b_reader_before : Binds K d_reader_before P_reader_before []
  g_reader_before : mg "reader_before" = some (.ref a_reader_before)
  a_pace_readers : Addr
  d_pace_readers : FuncData
  F_pace_readers : Fun K "pace_readers" "pace_readers" s_pace_readers a_pace_readers d_pace_readers
  b_pace_readers : Binds K d_pace_readers P_pace_readers []
  g_pace_readers : mg "pace_readers" = some (.ref a_pace_readers)
  a_judge_pace : Addr
  d_judge_pace : FuncData
  F_judge_pace : Fun K "judge_pace" "judge_pace" s_judge_pace a_judge_pace d_judge_pace
  b_judge_pace : Binds K d_judge_pace P_judge_pace []
  g_judge_pace : mg "judge_pace" = some (.ref a_judge_pace)
  a_ldice : Addr
  d_ldice : FuncData
  F_ldice : Fun K "_law_dice" "_law_dice" s_ldice a_ldice d_ldice
  b_ldice : Binds K d_ldice P_ldice []
  g_ldice : mg "_law_dice" = some (.ref a_ldice)
  a_lnext : Addr
  d_lnext : FuncData
  F_lnext : Fun K "_law_next" "_law_next" s_lnext a_lnext d_lnext
  b_lnext : Binds K d_lnext P_lnext []
  g_lnext : mg "_law_next" = some (.ref a_lnext)
  a_llike : Addr
  d_llike : FuncData
  F_llike : Fun K "_law_like" "_law_like" s_llike a_llike d_llike
  b_llike : Binds K d_llike P_llike []
  g_llike : mg "_law_like" = some (.ref a_llike)
  a_lpick : Addr
  d_lpick : FuncData
  F_lpick : Fun K "_law_pick" "_law_pick" s_lpick a_lpick d_lpick
  b_lpick : Binds K d_lpick P_lpick []
  g_lpick : mg "_law_pick" = some (.ref a_lpick)
  a_ltold : Addr
  d_ltold : FuncData
  F_ltold : Fun K "_law_told" "_law_told" s_ltold a_ltold d_ltold
  b_ltold : Binds K d_ltold P_ltold []
  g_ltold : mg "_law_told" = some (.ref a_ltold)
  a_lring : Addr
  d_lring : FuncData
  F_lring : Fun K "_law_ring" "_law_ring" s_lring a_lring d_lring
  b_lring : Binds K d_lring P_lring []
  g_lring : mg "_law_ring" = some (.ref a_lring)
  a_lterms : Addr
  d_lterms : FuncData
  F_lterms : Fun K "_law_terms" "_law_terms" s_lterms a_lterms d_lterms
  b_lterms : Binds K d_lterms P_lterms []
  g_lterms : mg "_law_terms" = some (.ref a_lterms)
  a_ljudged : Addr
  d_ljudged : FuncData
  F_ljudged : Fun K "_law_judged" "_law_judged" s_ljudged a_ljudged d_ljudged
  b_ljudged : Binds K d_ljudged P_ljudged []
  g_ljudged : mg "_law_judged" = some (.ref a_ljudged)
  a_law : Addr
  d_law : FuncData
  F_law : Fun K "law" "law" s_law a_law d_law
  b_law : Binds K d_law P_law []
  g_law : mg "law" = some (.ref a_law)
  cl : Cls K C
  nD : NoAttr K C "_days"
  nS : NoAttr K C "_starts"
  mkR : Mk K C a_rinit
  gC : mg "Ring" = some (.ref C)
  p_rdays : Addr
  q_rdays : PropOf K C "days" p_rdays a_rdays
  p_rstarts : Addr
  q_rstarts : PropOf K C "starts" p_rstarts a_rstarts
  p_rbooks : Addr
  q_rbooks : PropOf K C "books" p_rbooks a_rbooks
  p_rpace : Addr
  q_rpace : PropOf K C "pace" p_rpace a_rpace
  lenC : PySem.W.findIn K (.ref C) "__len__" = some (some (.ref a_rlen))
  lenF : PySem.W.isFn K (.ref a_rlen) = true
  callC : StX.CallO K C a_rcall
  c_LATEST : ∃ t, mg "LATEST" = some (.int 1000000000000000000 t)
  c_FEWEST_READERS : ∃ t, mg "FEWEST_READERS" = some (.int 2 t)
  c_MOST_READERS : ∃ t, mg "MOST_READERS" = some (.int 8 t)
  c_MOST_DAYS : ∃ t, mg "MOST_DAYS" = some (.int 30 t)
  c_MOST_BOOKS : ∃ t, mg "MOST_BOOKS" = some (.int 12 t)
  g_gcd : mg "gcd" = some (.builtin "math.gcd")
  z_len : mg "len" = none
  z_sum : mg "sum" = none
  z_max : mg "max" = none
  z_min : mg "min" = none
  z_range : mg "range" = none
  z_int : mg "int" = none
  z_bool : mg "bool" = none
  z_isinstance : mg "isinstance" = none
  z_tuple : mg "tuple" = none
  z_enumerate : mg "enumerate" = none
  z_list : mg "list" = none
  z_str : mg "str" = none
  z_sorted : mg "sorted" = none
end Rp
namespace Rp
open PySem PySem.Spec PyProof.Rows L2 Rz Rm
/-! ### a ring as it stands -/
theorem ds_ne : ¬ (("_days" : Str) = "_starts") := by decide +kernel
def flds (td ts : Addr) : List (Str × V) := putF "_starts" (.ref ts) (putF "_days" (.ref td) [])
theorem flds_days (td ts : Addr) : (flds td ts).lookup ("_days" : Str) = some (.ref td) := by
  unfold flds
  rw [lookup_putF, if_neg ds_ne, lookup_putF, if_pos rfl]
theorem flds_starts (td ts : Addr) : (flds td ts).lookup ("_starts" : Str) = some (.ref ts) := by
  unfold flds
  rw [lookup_putF, if_pos rfl]
/-- days and books at first that make a ring -/
structure Good (ds ss : List Int) : Prop where
  l2 : 2 ≤ ds.length
  l8 : ds.length ≤ 8
  ls : ss.length = ds.length
  d1 : ∀ y ∈ ds, 1 ≤ y ∧ y ≤ 30
  s0 : ∀ y ∈ ss, 0 ≤ y ∧ y ≤ 12
  b1 : 1 ≤ ss.sum
  b12 : ss.sum ≤ 12
/-- a tuple that stands in H, its object known or not -/
def Tq (H : Hp) (a : Addr) (xs : List V) : Prop := H a = some (.tup xs) ∨ ∃ o : Obj, o.dict = none ∧ H a = some (.frz o (.tup xs))
def Tf (H : Hp) (a : Addr) (xs : List V) : Prop := ∃ o : Obj, o.dict = none ∧ H a = some (.frz o (.tup xs))
theorem Tf.tq {H : Hp} {a : Addr} {xs : List V} (h : Tf H a xs) : Tq H a xs := .inr h
theorem Tf.same {H H' : Hp} {a : Addr} {xs : List V} (h : Tf H a xs) (s : Same H H') : Tf H' a xs := let ⟨o, d, e⟩ := h; ⟨o, d, s _ _ e⟩
theorem Tq.rd {H : Hp} {a : Addr} {xs : List V} (h : Tq H a xs) : Rd H a (.tup xs) := h.elim .inl fun ⟨o, _, e⟩ => .inr ⟨o, e⟩
theorem Tq.same {H H' : Hp} {a : Addr} {xs : List V} (h : Tq H a xs) (s : Same H H') : Tq H' a xs := h.elim (fun e => .inl (s _ _ e)) fun ⟨o, d, e⟩ => .inr ⟨o, d, s _ _ e⟩
theorem Tq.ne {H : Hp} {a p C dx : Addr} {xs : List V} {fs : List (Str × V)} (h : Tq H a xs) (e : H p = some (.ins C dx fs)) : a ≠ p := by
  rcases h with h | ⟨o, _, h⟩
  · exact ne_of h e (by intro z; cases z)
  · exact ne_of h e (by intro z; cases z)
theorem Tq.put {H : Hp} {a p : Addr} {xs : List V} {o : HO} (h : Tq H a xs) (n : a ≠ p) : Tq (upd H p o) a xs := by
  rcases h with h | ⟨u, d, h⟩
  · exact .inl (by rw [upd_ne n]; exact h)
  · exact .inr ⟨u, d, by rw [upd_ne n]; exact h⟩
theorem Tq.ty {K : PySem.W.Frag} {H : Hp} {a : Addr} {xs : List V} (h : Tq H a xs) : TyX K H (.ref a) (.type "tuple") := by
  rcases h with h | ⟨u, _, h⟩
  · exact .base (.tup h)
  · exact .fTuple h
structure RingAt (C : Addr) (H : Hp) (p dx td ts : Addr) (ds ss : List Int) : Prop where
  ob : H p = some (.ins C dx (flds td ts))
  td : Tq H td (ds.map V.int)
  ts : Tq H ts (ss.map V.int)
  ok : Good ds ss
theorem RingAt.same {C : Addr} {H H' : Hp} {p dx td ts : Addr} {ds ss : List Int} (R : RingAt C H p dx td ts ds ss) (s : Same H H') : RingAt C H' p dx td ts ds ss :=
  ⟨s _ _ R.ob, R.td.same s, R.ts.same s, R.ok⟩
theorem sq_same {K : PySem.W.Frag} {H H' : Hp} {a : Addr} {xs : List V} (e : Same H H') (h : H a = some (.tup xs)) : SqT K H' a xs := .of (e _ _ h)
theorem same_upd {H : Hp} {p : Addr} {o : HO} (h : H p = none) : Same H (upd H p o) := fun b x e => by
  rw [upd_ne (ne_of_none e h)]
  exact e
section
variable {P : Program} {w : World} {K : PySem.W.Frag} {mg : Str → Option Value} {base : Heap}
/-! ### checks -/
/-- a number is one -/
def spIsNum : Sp := fun vs H Q _ => ∃ i : Int, vs = [.int i] ∧ Q (.bl true) H
theorem ok_is_number (T : Tx K mg) : FnOk P w K mg base CX0 1 T.a_is_number T.d_is_number P_is_number spIsNum := by
  refine T.F_is_number.ok sc_is_number (fun vs H Q E h => ?_) (fun cdv A outer s H vs Q E hr h => ?_)
  · obtain ⟨i, rfl, _⟩ := h
    rfl
  · obtain ⟨i, rfl, q⟩ := h
    refine ⟨_, pss_one (ps_ret (pe_and (pe_callB call_isi (by rfl) T.z_isinstance (by decide +kernel) (pa_cons (pv 0) (pa_cons (pe_bltn (v := .ty "int") (u := .type "int") (by rfl) T.z_int (by decide +kernel) rfl) pa_nil)))
      (pe_one (pe_not (pe_callB call_isi (by rfl) T.z_isinstance (by decide +kernel) (pa_cons (pv 0) (pa_cons (pe_bltn (v := .ty "bool") (u := .type "bool") (by rfl) T.z_bool (by decide +kernel) rfl) pa_nil))))))), ?_⟩
    refine ⟨.int i, rfl, .int i, .ty "int", .type "int", .type "int", true, rfl, .ty _, .base (.int i), kit_ty (by decide +kernel), true, rfl, iteT ?_⟩
    exact ⟨.int i, rfl, .int i, .ty "bool", .type "int", .type "bool", false, rfl, .ty _, .base (.int i), kit_ty (by decide +kernel), false, rfl, q⟩
def spLies : Sp := fun vs H Q _ => ∃ v lo hi : Int, vs = [.int v, .int lo, .int hi] ∧ Q (.bl (decide (lo ≤ v) && decide (v ≤ hi))) H
theorem ok_lies (T : Tx K mg) : FnOk P w K mg base CX0 2 T.a_lies_between T.d_lies_between P_lies_between spLies := by
  refine T.F_lies_between.ok sc_lies_between (fun vs H Q E h => ?_) (fun cdv A outer s H vs Q E hr h => ?_)
  · obtain ⟨v, lo, hi, rfl, _⟩ := h
    rfl
  · obtain ⟨v, lo, hi, rfl, q⟩ := h
    refine ⟨_, pss_one (ps_ret (pe_and (pe_call (ok_is_number T) hr (by rfl) T.g_is_number T.F_is_number.kp T.b_is_number .nil pass0 (pa_cons (pv 0) pa_nil)) (pe_one (pe_chain op_le op_le (pv 1) (pv 0) (pv 2))))), ?_⟩
    refine ⟨.int v, rfl, v, rfl, true, rfl, iteT ?_⟩
    refine ⟨.int lo, rfl, .int v, rfl, lo, v, rfl, rfl, decide (lo ≤ v), rfl, ?_⟩
    by_cases h : lo ≤ v
    · rw [decide_eq_true h] at q ⊢
      exact iteT ⟨.int hi, rfl, v, hi, rfl, rfl, q⟩
    · rw [decide_eq_false h] at q ⊢
      exact iteF q
theorem in_lim {v lo hi : Int} (h1 : lo ≤ v) (h2 : v ≤ hi) : (decide (lo ≤ v) && decide (v ≤ hi)) = true := by
  rw [decide_eq_true h1, decide_eq_true h2] <;> rfl
def spChk : Sp := fun vs H Q _ => ∃ v lo hi : Int, vs = [.int v, .int lo, .int hi] ∧ lo ≤ v ∧ v ≤ hi ∧ Q .non H
theorem ok_chk (T : Tx K mg) : FnOk P w K mg base CX0 3 T.a_check_number T.d_check_number P_check_number spChk := by
  refine T.F_check_number.ok sc_check_number (fun vs H Q E h => ?_) (fun cdv A outer s H vs Q E hr h => ?_)
  · obtain ⟨v, lo, hi, rfl, _⟩ := h
    rfl
  · obtain ⟨v, lo, hi, rfl, h1, h2, q⟩ := h
    refine ⟨_, pss_one (ps_if (pt_not (pt_val (pe_call (ok_lies T) hr (by rfl) T.g_lies_between T.F_lies_between.kp T.b_lies_between .nil pass0 (pa_cons (pv 0) (pa_cons (pv 1) (pa_cons (pv 2) pa_nil)))))) (pss_one ps_never) pss_nil), ?_⟩
    refine ⟨.int v, rfl, .int lo, rfl, .int hi, rfl, v, lo, hi, rfl, _, rfl, ?_⟩
    rw [in_lim h1 h2]
    exact iteF q
/-! ### the ring's own -/
def spLen (C : Addr) : Sp := fun vs H Q _ => ∃ p dx td ts ds ss, vs = [.ref p] ∧ RingAt C H p dx td ts ds ss ∧ Q (.int ds.length) H
theorem ok_len (T : Tx K mg) : FnOk P w K mg base CX0 1 T.a_rlen T.d_rlen P_rlen (spLen T.C) := by
  refine T.F_rlen.ok sc_rlen (fun vs H Q E h => ?_) (fun cdv A outer s H vs Q E hr h => ?_)
  · obtain ⟨p, dx, td, ts, ds, ss, rfl, _⟩ := h
    rfl
  · obtain ⟨p, dx, td, ts, ds, ss, rfl, R, q⟩ := h
    refine ⟨_, pss_one (ps_ret (pe_callB call_len_seq (by rfl) T.z_len PySem.boot_len (pa_cons (pe_fld (pv 0) rfl) pa_nil))), ?_⟩
    refine ⟨_, rfl, p, _, dx, _, _, rfl, R.ob, T.cl, T.nD, flds_days _ _, td, _, rfl, .inr (.inl R.td.rd), ?_⟩
    rw [List.length_map]
    exact q
def spDays (C : Addr) : Sp := fun vs H Q _ => ∃ p dx td ts ds ss, vs = [.ref p] ∧ RingAt C H p dx td ts ds ss ∧ Q (.ref td) H
def spStarts (C : Addr) : Sp := fun vs H Q _ => ∃ p dx td ts ds ss, vs = [.ref p] ∧ RingAt C H p dx td ts ds ss ∧ Q (.ref ts) H
def spBooks (C : Addr) : Sp := fun vs H Q _ => ∃ p dx td ts ds ss, vs = [.ref p] ∧ RingAt C H p dx td ts ds ss ∧ Q (.int ss.sum) H
theorem ok_days (T : Tx K mg) : FnOk P w K mg base CX0 1 T.a_rdays T.d_rdays P_rdays (spDays T.C) := by
  refine T.F_rdays.ok sc_rdays (fun vs H Q E h => ?_) (fun cdv A outer s H vs Q E hr h => ?_)
  · obtain ⟨p, dx, td, ts, ds, ss, rfl, _⟩ := h
    rfl
  · obtain ⟨p, dx, td, ts, ds, ss, rfl, R, q⟩ := h
    refine ⟨_, pss_one (ps_ret (pe_fld (pv 0) rfl)), ?_⟩
    exact ⟨_, rfl, p, _, dx, _, _, rfl, R.ob, T.cl, T.nD, flds_days _ _, q⟩
theorem ok_starts (T : Tx K mg) : FnOk P w K mg base CX0 1 T.a_rstarts T.d_rstarts P_rstarts (spStarts T.C) := by
  refine T.F_rstarts.ok sc_rstarts (fun vs H Q E h => ?_) (fun cdv A outer s H vs Q E hr h => ?_)
  · obtain ⟨p, dx, td, ts, ds, ss, rfl, _⟩ := h
    rfl
  · obtain ⟨p, dx, td, ts, ds, ss, rfl, R, q⟩ := h
    refine ⟨_, pss_one (ps_ret (pe_fld (pv 0) rfl)), ?_⟩
    exact ⟨_, rfl, p, _, dx, _, _, rfl, R.ob, T.cl, T.nS, flds_starts _ _, q⟩
theorem ok_books (T : Tx K mg) : FnOk P w K mg base CX0 1 T.a_rbooks T.d_rbooks P_rbooks (spBooks T.C) := by
  refine T.F_rbooks.ok sc_rbooks (fun vs H Q E h => ?_) (fun cdv A outer s H vs Q E hr h => ?_)
  · obtain ⟨p, dx, td, ts, ds, ss, rfl, _⟩ := h
    rfl
  · obtain ⟨p, dx, td, ts, ds, ss, rfl, R, q⟩ := h
    refine ⟨_, pss_one (ps_ret (pe_callB (cr_sumT rfl) (by rfl) T.z_sum (by decide +kernel) (pa_cons (pe_fld (pv 0) rfl) pa_nil))), ?_⟩
    exact ⟨_, rfl, p, _, dx, _, _, rfl, R.ob, T.cl, T.nS, flds_starts _ _, ts, ss, rfl, .inl R.ts.rd, q⟩
/-! ### check_reader -/
def spReader (C : Addr) : Sp := fun vs H Q _ => ∃ p dx td ts ds ss, ∃ r : Int, vs = [.ref p, .int r] ∧ RingAt C H p dx td ts ds ss ∧ 0 ≤ r ∧ r < ds.length ∧ Q .non H
theorem ok_reader (T : Tx K mg) : FnOk P w K mg base CX0 3 T.a_check_reader T.d_check_reader P_check_reader (spReader T.C) := by
  refine T.F_check_reader.ok sc_check_reader (fun vs H Q E h => ?_) (fun cdv A outer s H vs Q E hr h => ?_)
  · obtain ⟨p, dx, td, ts, ds, ss, r, rfl, _⟩ := h
    rfl
  · obtain ⟨p, dx, td, ts, ds, ss, r, rfl, R, h1, h2, q⟩ := h
    refine ⟨_, pss_one (ps_if (pt_not (pt_val (pe_call (ok_lies T) hr (by rfl) T.g_lies_between T.F_lies_between.kp T.b_lies_between .nil pass0
      (pa_cons (pv 1) (pa_cons pe_int (pa_cons (pe_op op_sub (pe_callB (call_lenI T.lenC T.lenF ((ok_len T).raw T.b_rlen .nil) hr pass0) (by rfl) T.z_len PySem.boot_len (pa_cons (pv 0) pa_nil)) pe_int) pa_nil)))))) (pss_one ps_never) pss_nil), ?_⟩
    have hl := R.ok.l8
    refine ⟨.int r, rfl, .ref p, rfl, p, dx, _, rfl, R.ob, p, dx, td, ts, ds, ss, rfl, R, (ds.length : Int), rfl, by omega, by omega, _, _, rfl, rfl, ?_⟩
    refine ⟨r, 0, (ds.length : Int) - 1, rfl, _, rfl, ?_⟩
    rw [in_lim h1 (show r ≤ (ds.length : Int) - 1 by omega)]
    exact iteF q
end
end Rp
namespace Rp
open PySem PySem.Spec PyProof.Rows L2 Rz Rm
/-! ### the pace -/
/-- days that readers need -/
structure Dys (ds : List Int) : Prop where
  ne : 0 < ds.length
  d1 : ∀ y ∈ ds, 1 ≤ y
theorem Good.dys {ds ss : List Int} (G : Good ds ss) : Dys ds := ⟨by have := G.l2; omega, fun y h => (G.d1 y h).1⟩
def mx (ds : List Int) : Int := ds.foldr max 0
theorem mx_nn : ∀ ds : List Int, 0 ≤ mx ds
  | [] => Int.le_refl _
  | a :: r => by
    have := mx_nn r
    show 0 ≤ max a (mx r)
    omega
theorem le_mx : ∀ {ds : List Int} {y : Int}, y ∈ ds → y ≤ mx ds
  | a :: r, y, h => by
    show y ≤ max a (mx r)
    rcases List.mem_cons.mp h with e | e
    · omega
    · have := le_mx e
      omega
theorem mx_le : ∀ {ds : List Int} {M : Int}, 0 ≤ M → (∀ y ∈ ds, y ≤ M) → mx ds ≤ M
  | [], _, h, _ => h
  | a :: r, M, h, hu => by
    have h1 := hu a List.mem_cons_self
    have h2 := mx_le (ds := r) h fun y hy => hu y (List.mem_cons_of_mem _ hy)
    show max a (mx r) ≤ M
    omega
theorem mx_eq {ds : List Int} {M : Int} (D : Dys ds) (hM : M ∈ ds) (hMu : ∀ y ∈ ds, y ≤ M) : mx ds = M :=
  Int.le_antisymm (mx_le (by have := D.d1 M hM; omega) hMu) (le_mx hM)
theorem mx_mem : ∀ {ds : List Int}, ds ≠ [] → (∀ y ∈ ds, 0 ≤ y) → mx ds ∈ ds
  | [], h, _ => absurd rfl h
  | [a], _, h => by
    have h1 := h a (by simp)
    show max a 0 ∈ [a]
    rw [show max a 0 = a by omega]
    simp
  | a :: b :: r, _, h => by
    have ih := mx_mem (ds := b :: r) (by simp) fun y hy => h y (List.mem_cons_of_mem _ hy)
    show max a (mx (b :: r)) ∈ a :: b :: r
    by_cases c : a ≤ mx (b :: r)
    · rw [show max a (mx (b :: r)) = mx (b :: r) by omega]
      exact List.mem_cons_of_mem _ ih
    · rw [show max a (mx (b :: r)) = a by omega]
      exact List.mem_cons_self
theorem Dys.mem {ds : List Int} (D : Dys ds) : mx ds ∈ ds := mx_mem (fun e => by
  have := D.ne
  rw [e] at this
  exact absurd this (Nat.lt_irrefl _)) fun y h => by have := D.d1 y h; omega
def gq (ds : List Int) (b : Int) : Int := ((Nat.gcd ds.sum.natAbs b.natAbs : Nat) : Int)
/-- the pace's two numbers -/
def pX (ds : List Int) (b : Int) : Int := if ds.sum ≤ mx ds * b then mx ds else ds.sum / gq ds b
def pY (ds : List Int) (b : Int) : Int := if ds.sum ≤ mx ds * b then 1 else b / gq ds b
theorem gq_facts {ds : List Int} {b : Int} (h : 1 ≤ b) : 1 ≤ gq ds b ∧ gq ds b ≤ b ∧ gq ds b ∣ ds.sum ∧ gq ds b ∣ b := by
  have g0 : 0 < Nat.gcd ds.sum.natAbs b.natAbs := Nat.gcd_pos_of_pos_right _ (by omega)
  have gle : Nat.gcd ds.sum.natAbs b.natAbs ≤ b.natAbs := Nat.le_of_dvd (by omega) (Nat.gcd_dvd_right _ _)
  unfold gq
  exact ⟨by omega, by omega, Int.ofNat_dvd_left.mpr (Nat.gcd_dvd_left _ _), Int.ofNat_dvd_left.mpr (Nat.gcd_dvd_right _ _)⟩
section
variable {P : Program} {w : World} {K : PySem.W.Frag} {mg : Str → Option Value} {base : Heap}
/-! ### check_part -/
def spPart : Sp := fun vs H Q _ => ∃ (part : Str) (v l n : Addr) (ns : List Int) (lo hi f m : Int), vs = [.str part, .ref v, .ref l, .ref n] ∧ Tq H v (ns.map V.int) ∧ H l = some (.tup [.int lo, .int hi]) ∧ H n = some (.tup [.int f, .int m]) ∧
  (∀ y ∈ ns, lo ≤ y ∧ y ≤ hi) ∧ f ≤ ns.length ∧ (ns.length : Int) ≤ m ∧ ∀ H', Same H H' → Q .non H'
theorem get_int {ns : List Int} {i : Nat} {y : V} (h : (ns.map V.int)[i]? = some y) : ∃ z, ns[i]? = some z ∧ y = .int z := by
  rw [List.getElem?_map] at h
  cases e : ns[i]? with
  | none =>
    rw [e] at h
    cases h
  | some z =>
    rw [e] at h
    exact ⟨z, rfl, (Option.some.inj h).symm⟩
theorem ok_part (T : Tx K mg) : FnOk P w K mg base CX0 3 T.a_check_part T.d_check_part P_check_part spPart := by
  refine T.F_check_part.ok sc_check_part (fun vs H Q E h => ?_) (fun cdv A outer s H vs Q E hr h => ?_)
  · obtain ⟨part, v, l, n, ns, lo, hi, f, m, rfl, _⟩ := h
    rfl
  · obtain ⟨part, v, l, n, ns, lo, hi, f, m, rfl, hv, hl, hn, hall, hf, hm, q⟩ := h
    have nd := sc_check_part.nd
    refine ⟨_, pss_cons (ps_if (pt_not (pt_val (pe_callB call_isi (by rfl) T.z_isinstance (by decide +kernel) (pa_cons (pv 1) (pa_cons (pe_bltn (v := .ty "tuple") (u := .type "tuple") (by rfl) T.z_tuple (by decide +kernel) rfl) pa_nil))))) (pss_one ps_never) pss_nil)
      (pss_cons (ps_asg (pv 2) (pg_tup rfl (pgs_cons (pg_name (i := 4) nd rfl (.inl rfl)) (pgs_cons (pg_name (i := 5) nd rfl (.inl rfl)) pgs_nil))))
      (pss_cons (ps_asg (pv 3) (pg_tup rfl (pgs_cons (pg_name (i := 6) nd rfl (.inl rfl)) (pgs_cons (pg_name (i := 7) nd rfl (.inl rfl)) pgs_nil))))
      (pss_cons (ps_for PassesOwn.never rfl (pi_enumT (by rfl) T.z_enumerate (pa_cons (pv 1) pa_nil)) (pg_tup rfl (pgs_cons (pg_name (i := 8) nd rfl (.inl rfl)) (pgs_cons (pg_name (i := 9) nd rfl (.inl rfl)) pgs_nil)))
        (pss_one (ps_if (PW.pt (pw_or (pt_cmpR op_ge (pv 8) (pv 7) (nomark _)) (pw_or1 (pt_not (pt_val (pe_call (ok_lies T) hr (by rfl) T.g_lies_between T.F_lies_between.kp T.b_lies_between .nil pass0 (pa_cons (pv 9) (pa_cons (pv 4) (pa_cons (pv 5) pa_nil)))))))))
          (pss_one ps_never) pss_nil)))
      (pss_one (ps_if (pt_cmpR op_lt (pe_callB call_len_seq (by rfl) T.z_len PySem.boot_len (pa_cons (pv 1) pa_nil)) (pv 6) (nomark _)) (pss_one ps_never) pss_nil))))), ?_⟩
    -- isinstance(values, tuple)
    refine ⟨.ref v, rfl, .ref v, .ty "tuple", .type "tuple", .type "tuple", true, rfl, .ty _, hv.ty, kit_ty (by decide +kernel), true, rfl, iteF ?_⟩
    -- low, high = limits; fewest, most = lengths
    refine ⟨.ref l, rfl, l, _, rfl, .of hl, rfl, _, _, rfl, _, _, rfl, rfl, ?_⟩
    refine ⟨.ref n, rfl, n, _, rfl, .of hn, rfl, _, _, rfl, _, _, rfl, rfl, ?_⟩
    -- for index, value in enumerate(values)
    refine ⟨.ref v, rfl, v, _, rfl, .inl hv.rd, for_it walk_enumT (fun i σ H' => ∃ y8 y9, σ = [some (.str part), some (.ref v), some (.ref l), some (.ref n), some (.int lo), some (.int hi), some (.int f), some (.int m), y8, y9] ∧ Same H H')
      ⟨none, none, rfl, Same.refl H⟩ (fun i σ H' _ ⟨_, _, _, sm⟩ => .inl (hv.same sm).rd) ?_ ?_⟩
    · rintro i x σ H1 H2 hi1 ⟨y8, y9, rfl, sm⟩ ⟨t, a, b, rfl, nt, rfl, ha, hb⟩
      have ha' : a = .int (i : Nat) := (Option.some.inj ha).symm
      subst ha'
      obtain ⟨z, hz, rfl⟩ := get_int hb
      rw [List.length_map] at hi1
      have hz2 := hall z (List.mem_of_getElem? hz)
      refine ⟨t, _, rfl, .of upd_same, rfl, _, _, rfl, _, _, rfl, rfl, ?_⟩
      refine ⟨.int (i : Nat), rfl, .int m, rfl, _, _, rfl, rfl, _, rfl, ?_⟩
      rw [decide_eq_false (show ¬ m ≤ ((i : Nat) : Int) by omega)]
      refine iteF ?_
      refine ⟨.int z, rfl, .int lo, rfl, .int hi, rfl, z, lo, hi, rfl, _, rfl, ?_⟩
      rw [in_lim hz2.1 hz2.2]
      exact iteF ⟨_, _, rfl, sm.trans (same_upd nt)⟩
    · rintro σ H1 ⟨y8, y9, rfl, sm⟩
      refine ⟨.ref v, rfl, v, _, rfl, .inr ((.inl (hv.same sm).rd)), .int f, rfl, _, _, rfl, rfl, _, rfl, ?_⟩
      rw [List.length_map, decide_eq_false (show ¬ (ns.length : Int) < f by omega)]
      exact iteF (q H1 sm)
/-! ### Ring.__init__ -/
def spInit (C : Addr) : Sp := fun vs H Q _ => ∃ (p dx td ts : Addr) (ds ss : List Int), vs = [.ref p, .ref td, .ref ts] ∧ H p = some (.ins C dx []) ∧ Tq H td (ds.map V.int) ∧ Tq H ts (ss.map V.int) ∧ Good ds ss ∧
  ∀ H', RingAt C H' p dx td ts ds ss → (∀ b o, H b = some o → b ≠ p → H' b = some o) → Q .non H'
theorem ok_init (T : Tx K mg) : FnOk P w K mg base CX0 4 T.a_rinit T.d_rinit P_rinit (spInit T.C) := by
  refine T.F_rinit.ok sc_rinit (fun vs H Q E h => ?_) (fun cdv A outer s H vs Q E hr h => ?_)
  · obtain ⟨p, dx, td, ts, ds, ss, rfl, _⟩ := h
    rfl
  · obtain ⟨p, dx, td, ts, ds, ss, rfl, hp, hd, hs, G, q⟩ := h
    obtain ⟨u1, c1⟩ := T.c_MOST_DAYS
    obtain ⟨u2, c2⟩ := T.c_FEWEST_READERS
    obtain ⟨u3, c3⟩ := T.c_MOST_READERS
    obtain ⟨u4, c4⟩ := T.c_MOST_BOOKS
    have l2 := G.l2
    have l8 := G.l8
    have ls := G.ls
    refine ⟨_, pss_cons (ps_expr (pe_call (ok_part T) hr (by rfl) T.g_check_part T.F_check_part.kp T.b_check_part .nil pass0 (pa_cons pe_str (pa_cons (pv 1) (pa_cons (pe_tup (pa_cons pe_int (pa_cons (pe_glob (v := .int 30) (by rfl) c1 ⟨_, rfl⟩) pa_nil))) (pa_cons (pe_tup (pa_cons (pe_glob (v := .int 2) (by rfl) c2 ⟨_, rfl⟩) (pa_cons (pe_glob (v := .int 8) (by rfl) c3 ⟨_, rfl⟩) pa_nil))) pa_nil))))))
      (pss_cons (ps_expr (pe_call (ok_part T) hr (by rfl) T.g_check_part T.F_check_part.kp T.b_check_part .nil pass0 (pa_cons pe_str (pa_cons (pv 2) (pa_cons (pe_tup (pa_cons pe_int (pa_cons (pe_glob (v := .int 12) (by rfl) c4 ⟨_, rfl⟩) pa_nil)))
        (pa_cons (pe_tup (pa_cons (pe_callB call_len_seq (by rfl) T.z_len PySem.boot_len (pa_cons (pv 1) pa_nil)) (pa_cons (pe_callB call_len_seq (by rfl) T.z_len PySem.boot_len (pa_cons (pv 1) pa_nil)) pa_nil))) pa_nil))))))
      (pss_cons (ps_if (pt_not (pt_chain op_le op_le pe_int (pe_callB (cr_sumT rfl) (by rfl) T.z_sum (by decide +kernel) (pa_cons (pv 2) pa_nil)) (pe_glob (v := .int 12) (by rfl) c4 ⟨_, rfl⟩))) (pss_one ps_never) pss_nil)
      (pss_cons (ps_fld (pv 0) (pe_callTy call_tupleT (by rfl) T.z_tuple (by decide +kernel) (pa_cons (pv 1) pa_nil)) rfl)
      (pss_one (ps_fld (pv 0) (pe_callTy call_tupleT (by rfl) T.z_tuple (by decide +kernel) (pa_cons (pv 2) pa_nil)) rfl))))), ?_⟩
    -- check_part("days", ..)
    refine ⟨.ref td, rfl, (by show 2 ≤ sizeLine; decide), fun a1 h1 => ⟨(by show 2 ≤ sizeLine; decide), fun a2 h2 => ?_⟩⟩
    have s1 := same_upd (o := .tup [.int 1, .int 30]) h1
    have s2 := same_upd (o := .tup [.int 2, .int 8]) h2
    refine ⟨_, td, a1, a2, ds, 1, 30, 2, 8, rfl, (hd.same s1).same s2, s2 _ _ upd_same, upd_same, G.d1, by omega, by omega, fun H1 s3 => ?_⟩
    have t1 : Same H H1 := (s1.trans s2).trans s3
    -- check_part("starts", ..)
    refine ⟨.ref ts, rfl, (by show 2 ≤ sizeLine; decide), fun a3 h3 => ?_⟩
    have s4 := same_upd (o := .tup [.int 0, .int 12]) h3
    refine ⟨.ref td, rfl, td, _, rfl, .inr (.inl (hd.same (t1.trans s4)).rd), .ref td, rfl, td, _, rfl, .inr (.inl (hd.same (t1.trans s4)).rd), (by show 2 ≤ sizeLine; decide), fun a4 h4 => ?_⟩
    have s5 := same_upd (o := .tup [.int ((ds.map V.int).length : Nat), .int ((ds.map V.int).length : Nat)]) h4
    refine ⟨_, ts, a3, a4, ss, 0, 12, ((ds.map V.int).length : Nat), ((ds.map V.int).length : Nat), rfl, ((hs.same t1).same s4).same s5, s5 _ _ upd_same, upd_same, G.s0, by rw [List.length_map]; omega, by rw [List.length_map]; omega, fun H2 s6 => ?_⟩
    have t2 : Same H H2 := ((t1.trans s4).trans s5).trans s6
    -- not 1 <= sum(starts) <= MOST_BOOKS
    refine ⟨.ref ts, rfl, ts, ss, rfl, .inl (hs.same t2).rd, _, _, rfl, rfl, _, rfl, ?_⟩
    rw [decide_eq_true G.b1]
    refine iteT ⟨_, _, rfl, rfl, _, rfl, ?_⟩
    rw [decide_eq_true G.b12]
    refine iteF ?_
    -- the two attributes
    refine ⟨.ref td, rfl, td, _, rfl, .inl (hd.same t2).rd, _, rfl, p, T.C, dx, [], rfl, t2 _ _ hp, T.cl, T.nD, (by show 0 < 1000; decide), ?_⟩
    have npt : ts ≠ p := hs.ne hp
    have npd : td ≠ p := hd.ne hp
    refine ⟨.ref ts, rfl, ts, ss.map V.int, rfl, .inl ((hs.same t2).put npt).rd, _, rfl, p, T.C, dx, _, rfl, upd_same, T.cl, T.nS, (by show 1 < 1000; decide), ?_⟩
    refine q _ ⟨upd_same, ((hd.same t2).put npd).put npd, ((hs.same t2).put npt).put npt, G⟩ fun b o e hb => ?_
    rw [upd_ne hb, upd_ne hb]
    exact t2 _ _ e
end
end Rp
namespace Rp
open PySem PySem.Spec PyProof.Rows L2 Rz Rm
section
variable {P : Program} {w : World} {K : PySem.W.Frag} {mg : Str → Option Value} {base : Heap}
def spSlow : Sp := fun vs H Q _ => ∃ (td : Addr) (ds : List Int) (b : Int), vs = [.ref td, .int b] ∧ Tq H td (ds.map V.int) ∧ Dys ds ∧ 0 ≤ b ∧ b < 2 ^ 64 ∧ Q (.bl (decide (ds.sum ≤ mx ds * b))) H
theorem ok_slow (T : Tx K mg) : FnOk P w K mg base CX0 1 T.a_slowest_decides T.d_slowest_decides P_slowest_decides spSlow := by
  refine T.F_slowest_decides.ok sc_slowest_decides (fun vs H Q E h => ?_) (fun cdv A outer s H vs Q E hr h => ?_)
  · obtain ⟨td, ds, b, rfl, _⟩ := h
    rfl
  · obtain ⟨td, ds, b, rfl, hd, D, b0, b1, q⟩ := h
    refine ⟨_, pss_one (ps_ret (pe_cmpR op_ge (pe_op op_mul (pe_callB (cr_maxT rfl) (by rfl) T.z_max (by decide +kernel) (pa_cons (pv 0) pa_nil)) (pv 1)) (pe_callB (cr_sumT rfl) (by rfl) T.z_sum (by decide +kernel) (pa_cons (pv 0) pa_nil)) (nomark _))), ?_⟩
    refine ⟨.ref td, rfl, td, ds, rfl, .inl hd.rd, D.ne, fun M hM hMu => ⟨.int b, rfl, M, b, rfl, rfl, .inr ⟨by omega, b1⟩, .ref td, rfl, td, ds, rfl, .inl hd.rd, _, _, rfl, rfl, ?_⟩⟩
    rw [mx_eq D hM hMu] at q
    exact q
def spRound : Sp := fun vs H Q _ => ∃ (td : Addr) (ds : List Int) (b : Int), vs = [.ref td, .int b] ∧ Tq H td (ds.map V.int) ∧ 1 ≤ b ∧ b ≤ 1000 ∧ ∀ H' t, Same H H' → H' t = some (.tup [.int (ds.sum / gq ds b), .int (b / gq ds b)]) → Q (.ref t) H'
theorem ok_round (T : Tx K mg) : FnOk P w K mg base CX0 1 T.a_round_pace T.d_round_pace P_round_pace spRound := by
  refine T.F_round_pace.ok sc_round_pace (fun vs H Q E h => ?_) (fun cdv A outer s H vs Q E hr h => ?_)
  · obtain ⟨td, ds, b, rfl, _⟩ := h
    rfl
  · obtain ⟨td, ds, b, rfl, hd, b1, b2, q⟩ := h
    have nd := sc_round_pace.nd
    refine ⟨_, pss_cons (ps_set (i := 2) nd rfl (.inl rfl) (pe_callBfun cr_gcd (by rfl) T.g_gcd (pa_cons (pe_callB (cr_sumT rfl) (by rfl) T.z_sum (by decide +kernel) (pa_cons (pv 0) pa_nil)) (pa_cons (pv 1) pa_nil))))
      (pss_one (ps_ret (pe_tup (pa_cons (pe_op op_fdiv (pe_callB (cr_sumT rfl) (by rfl) T.z_sum (by decide +kernel) (pa_cons (pv 0) pa_nil)) (pv 2)) (pa_cons (pe_op op_fdiv (pv 1) (pv 2)) pa_nil))))), ?_⟩
    refine ⟨.ref td, rfl, td, ds, rfl, .inl hd.rd, .int b, rfl, ds.sum, b, rfl, ?_⟩
    obtain ⟨g0, gle, _, _⟩ := gq_facts (ds := ds) b1
    unfold gq at g0 gle q
    generalize ((Nat.gcd ds.sum.natAbs b.natAbs : Nat) : Int) = g at g0 gle q ⊢
    refine ⟨.ref td, rfl, td, ds, rfl, .inl hd.rd, .int g, rfl, _, _, rfl, rfl, ⟨by omega, by omega⟩, .int b, rfl, .int g, rfl, _, _, rfl, rfl, ⟨by omega, by omega⟩, (by show 2 ≤ sizeLine; decide), fun t ht => ?_⟩
    exact q _ t (same_upd ht) upd_same
def spPace : Sp := fun vs H Q _ => ∃ (td : Addr) (ds : List Int) (b : Int), vs = [.ref td, .int b] ∧ Tq H td (ds.map V.int) ∧ Dys ds ∧ 1 ≤ b ∧ b ≤ 1000 ∧
  ∀ H' t, Same H H' → H' t = some (.tup [.int (pX ds b), .int (pY ds b)]) → Q (.ref t) H'
theorem ok_pace_of (T : Tx K mg) : FnOk P w K mg base CX0 2 T.a_pace_of T.d_pace_of P_pace_of spPace := by
  refine T.F_pace_of.ok sc_pace_of (fun vs H Q E h => ?_) (fun cdv A outer s H vs Q E hr h => ?_)
  · obtain ⟨td, ds, b, rfl, _⟩ := h
    rfl
  · obtain ⟨td, ds, b, rfl, hd, D, b1, b12, q⟩ := h
    have nd := sc_pace_of.nd
    refine ⟨_, pss_cons (ps_if (pt_val (pe_call (ok_slow T) hr (by rfl) T.g_slowest_decides T.F_slowest_decides.kp T.b_slowest_decides .nil pass0 (pa_cons (pv 0) (pa_cons (pv 1) pa_nil))))
        (pss_one (ps_ret (pe_tup (pa_cons (pe_callB (cr_maxT rfl) (by rfl) T.z_max (by decide +kernel) (pa_cons (pv 0) pa_nil)) (pa_cons pe_int pa_nil))))) pss_nil)
      (pss_one (ps_ret (pe_call (ok_round T) hr (by rfl) T.g_round_pace T.F_round_pace.kp T.b_round_pace .nil pass0 (pa_cons (pv 0) (pa_cons (pv 1) pa_nil))))), ?_⟩
    refine ⟨.ref td, rfl, .int b, rfl, td, ds, b, rfl, hd, D, by omega, by omega, _, rfl, ?_⟩
    by_cases hc : ds.sum ≤ mx ds * b
    · rw [decide_eq_true hc]
      refine iteT ?_
      refine ⟨.ref td, rfl, td, ds, rfl, .inl hd.rd, D.ne, fun M' hM' hMu' => ⟨(by show 2 ≤ sizeLine; decide), fun t ht => ?_⟩⟩
      refine q _ t (same_upd ht) ?_
      rw [upd_same, pX, pY, if_pos hc, if_pos hc, mx_eq D hM' hMu']
    · rw [decide_eq_false hc]
      refine iteF ?_
      refine ⟨.ref td, rfl, .int b, rfl, td, ds, b, rfl, hd, b1, b12, fun H' t s0 ht => q H' t s0 ?_⟩
      rw [ht, pX, pY, if_neg hc, if_neg hc]
def spRPace (C : Addr) : Sp := fun vs H Q _ => ∃ p dx td ts ds ss, vs = [.ref p] ∧ RingAt C H p dx td ts ds ss ∧ ∀ H' t, Same H H' → H' t = some (.tup [.int (pX ds ss.sum), .int (pY ds ss.sum)]) → Q (.ref t) H'
theorem ok_rpace (T : Tx K mg) : FnOk P w K mg base CX0 3 T.a_rpace T.d_rpace P_rpace (spRPace T.C) := by
  refine T.F_rpace.ok sc_rpace (fun vs H Q E h => ?_) (fun cdv A outer s H vs Q E hr h => ?_)
  · obtain ⟨p, dx, td, ts, ds, ss, rfl, _⟩ := h
    rfl
  · obtain ⟨p, dx, td, ts, ds, ss, rfl, R, q⟩ := h
    have b12 := R.ok.b12
    refine ⟨_, pss_one (ps_ret (pe_call (ok_pace_of T) hr (by rfl) T.g_pace_of T.F_pace_of.kp T.b_pace_of .nil pass0 (pa_cons (pe_fld (pv 0) rfl) (pa_cons (pe_callB (cr_sumT rfl) (by rfl) T.z_sum (by decide +kernel) (pa_cons (pe_fld (pv 0) rfl) pa_nil)) pa_nil)))), ?_⟩
    exact ⟨_, rfl, p, _, dx, _, _, rfl, R.ob, T.cl, T.nD, flds_days _ _, _, rfl, p, _, dx, _, _, rfl, R.ob, T.cl, T.nS, flds_starts _ _, ts, ss, rfl, .inl R.ts.rd, td, ds, ss.sum, rfl, R.td, R.ok.dys, R.ok.b1, by omega, q⟩
end
end Rp
namespace Rp
open PySem PySem.Spec PyProof.Rows L2 Rz Rm
theorem at_ix {ds : List Int} {z : Int} (h1 : -(ds.length : Int) ≤ z) (h2 : z < ds.length) : atI (ds.map V.int) z = some (.int (at' ds z)) := by
  have hl : 0 < ds.length := by omega
  have h0 := Int.emod_nonneg z (show (ds.length : Int) ≠ 0 by omega)
  have hlt := Int.emod_lt_of_pos z (show (0 : Int) < ds.length by omega)
  have e : ixN (ds.map V.int).length z = some (z % (ds.length : Int)).toNat := by
    unfold ixN
    rw [List.length_map]
    by_cases h : 0 ≤ z
    · rw [if_pos h, if_pos h2, Int.emod_eq_of_lt h h2]
    · rw [if_neg h, if_pos h1]
      have e2 := Int.add_mul_emod_self_left z (ds.length : Int) 1
      rw [Int.mul_one, Int.emod_eq_of_lt (a := z + ds.length) (by omega) (by omega)] at e2
      rw [e2]
  unfold atI
  rw [e]
  show (ds.map V.int)[(z % (ds.length : Int)).toNat]? = _
  rw [List.getElem?_map]
  unfold at'
  rw [List.getD_eq_getElem?_getD, List.getElem?_eq_getElem (show (z % (ds.length : Int)).toNat < ds.length by omega)]
  rfl
theorem Good.ring {ds ss : List Int} (G : Good ds ss) {M : Int} (hM : M ∈ ds) (hMu : ∀ y ∈ ds, y ≤ M) : Rm.Ring ds.length (at' ds) (at' ss) ss.sum ds.sum M :=
  ring_of (by have := G.l2; omega) G.ls (fun y h => (G.d1 y h).1) (fun y h => (G.s0 y h).1) G.b1 hM hMu
theorem exists_max : ∀ {ds : List Int}, ds ≠ [] → ∃ M, M ∈ ds ∧ ∀ y ∈ ds, y ≤ M
  | [], h => absurd rfl h
  | [a], _ => ⟨a, by simp, by simp⟩
  | a :: b :: r, _ => by
    obtain ⟨M, h1, h2⟩ := exists_max (ds := b :: r) (by simp)
    by_cases h : a ≤ M
    · exact ⟨M, List.mem_cons_of_mem _ h1, fun y hy => by
        rcases List.mem_cons.mp hy with e | e
        · omega
        · exact h2 y e⟩
    · exact ⟨a, List.mem_cons_self, fun y hy => by
        rcases List.mem_cons.mp hy with e | e
        · omega
        · have := h2 y e; omega⟩
theorem Good.max {ds ss : List Int} (G : Good ds ss) : ∃ M, M ∈ ds ∧ ∀ y ∈ ds, y ≤ M := exists_max (by
  intro e
  have := G.l2
  rw [e] at this
  simp at this)
theorem sum_bounds : ∀ {ds : List Int}, (∀ y ∈ ds, 1 ≤ y ∧ y ≤ 30) → (ds.length : Int) ≤ ds.sum ∧ ds.sum ≤ 30 * ds.length
  | [], _ => by simp
  | a :: r, h => by
    have h1 := h a List.mem_cons_self
    have ih := sum_bounds (ds := r) fun y hy => h y (List.mem_cons_of_mem _ hy)
    rw [List.sum_cons, List.length_cons]
    omega
theorem max_if (i j : Int) : (if j > i then j else i) = max i j := by
  by_cases h : j > i
  · rw [if_pos h]
    omega
  · rw [if_neg h]
    omega
section
variable {P : Program} {w : World} {K : PySem.W.Frag} {mg : Str → Option Value} {base : Heap}
/-! ### end_day -/
def spEnd (C : Addr) : Sp := fun vs H Q _ => ∃ p dx td ts ds ss, ∃ r x : Int, vs = [.ref p, .int r, .int x] ∧ RingAt C H p dx td ts ds ss ∧ 0 ≤ r ∧ r < ds.length ∧ 0 ≤ x ∧ Q (.int (Rm.E (at' ds) (at' ss) r x)) H
/-- the loop's slots ahead of step i -/
def edS (p : Addr) (r x B M g L : Int) (ds ss : List Int) (i : Nat) (y10 y11 : Option V) : L2.St :=
  [some (.ref p), some (.int r), some (.int x), some (.int B), some (.int M), some (.int g), some (.int L), some (.int (sumBack (at' ds) r i)), some (.int (if i = 0 then 0 else maxBack (at' ds) r (i - 1))), some (.int (x - sumBack (at' ss) r i)), y10, y11]
theorem met_next {ds : List Int} (h1 : ∀ i, 1 ≤ at' ds i) (r : Int) (i : Nat) : (if at' ds (r - i) > (if i = 0 then 0 else maxBack (at' ds) r (i - 1)) then at' ds (r - i) else (if i = 0 then 0 else maxBack (at' ds) r (i - 1))) = maxBack (at' ds) r i := by
  rw [max_if]
  cases i with
  | zero =>
    have := h1 (r - (0 : Nat))
    show max 0 (at' ds (r - (0 : Nat))) = at' ds r
    rw [show r - ((0 : Nat) : Int) = r by omega] at this ⊢
    omega
  | succ i =>
    rw [if_neg (Nat.succ_ne_zero i)]
    show max (maxBack (at' ds) r i) (at' ds (r - (i + 1 : Nat))) = max (maxBack (at' ds) r i) (at' ds (r - (i + 1 : Nat)))
    rfl
theorem ok_end (T : Tx K mg) : FnOk P w K mg base CX0 3 T.a_end_day T.d_end_day P_end_day (spEnd T.C) := by
  refine T.F_end_day.ok sc_end_day (fun vs H Q E h => ?_) (fun cdv A outer s H vs Q E hr h => ?_)
  · obtain ⟨p, dx, td, ts, ds, ss, r, x, rfl, _⟩ := h
    rfl
  · obtain ⟨p, dx, td, ts, ds, ss, r, x, rfl, R, r0, r1, x0, q⟩ := h
    have nd := sc_end_day.nd
    have G := R.ok
    have l2 := G.l2
    have l8 := G.l8
    have ls := G.ls
    have rdD : ∀ {Q' : VK} {E' : XK}, Q' (.ref td) H → spDays T.C [.ref p] H Q' E' := fun z => ⟨p, dx, td, ts, ds, ss, rfl, R, z⟩
    have rdS : ∀ {Q' : VK} {E' : XK}, Q' (.ref ts) H → spStarts T.C [.ref p] H Q' E' := fun z => ⟨p, dx, td, ts, ds, ss, rfl, R, z⟩
    refine ⟨_, pss_cons (ps_set (i := 3) nd rfl (.inl rfl) (pe_prop (pv 0) T.cl T.q_rbooks (ok_books T) hr T.b_rbooks .nil pass0 rfl))
      (pss_cons (ps_set (i := 4) nd rfl (.inl rfl) (pe_callB (cr_maxT rfl) (by rfl) T.z_max (by decide +kernel) (pa_cons (pe_prop (pv 0) T.cl T.q_rdays (ok_days T) hr T.b_rdays .nil pass0 rfl) pa_nil)))
      (pss_cons (ps_set (i := 5) nd rfl (.inl rfl) (pe_op op_sub (pe_callB (cr_sumT rfl) (by rfl) T.z_sum (by decide +kernel) (pa_cons (pe_prop (pv 0) T.cl T.q_rdays (ok_days T) hr T.b_rdays .nil pass0 rfl) pa_nil)) (pe_op op_mul (pv 3) (pv 4))))
      (pss_cons (ps_asg3 pe_int (pg_name (i := 6) nd rfl (.inl rfl)) (pg_name (i := 7) nd rfl (.inl rfl)) (pg_name (i := 8) nd rfl (.inl rfl)))
      (pss_cons (ps_set (i := 9) nd rfl (.inl rfl) (pv 2))
      (pss_cons (ps_for PassesOwn.never rfl (pi_range1 (by rfl) T.z_range (pa_cons (pe_callB (call_lenI T.lenC T.lenF ((ok_len T).raw T.b_rlen .nil) hr pass0) (by rfl) T.z_len PySem.boot_len (pa_cons (pv 0) pa_nil)) pa_nil)) (pg_name (i := 10) nd rfl (.inl rfl))
        (pss_cons (ps_aug (i := 7) nd rfl (.inl rfl) (pe_ix ix_tup (pe_prop (pv 0) T.cl T.q_rdays (ok_days T) hr T.b_rdays .nil pass0 rfl) (pe_op op_sub (pv 1) (pv 10)) (fun _ _ => rfl)) ip_add)
        (pss_cons (ps_set (i := 8) nd rfl (.inl rfl) (pe_callB (call_max2 rfl) (by rfl) T.z_max (by decide +kernel) (pa_cons (pv 8) (pa_cons (pe_ix ix_tup (pe_prop (pv 0) T.cl T.q_rdays (ok_days T) hr T.b_rdays .nil pass0 rfl) (pe_op op_sub (pv 1) (pv 10)) (fun _ _ => rfl)) pa_nil))))
        (pss_cons (ps_set (i := 6) nd rfl (.inl rfl) (pe_callB (call_max2 rfl) (by rfl) T.z_max (by decide +kernel) (pa_cons (pv 6) (pa_cons (pe_op op_add (pv 7) (pe_op op_mul (pv 9) (pv 8))) pa_nil))))
        (pss_cons (ps_if (pt_cmpR op_ge (pv 9) (pv 3) (nomark _))
          (pss_cons (ps_set (i := 11) nd rfl (.inl rfl) (pe_ifExp (pt_cmpR op_gt (pv 5) pe_int (nomark _)) (pe_op op_fdiv (pv 9) (pv 3)) pe_int))
          (pss_one (ps_set (i := 6) nd rfl (.inl rfl) (pe_callB (call_max2 rfl) (by rfl) T.z_max (by decide +kernel) (pa_cons (pv 6) (pa_cons (pe_op op_add (pe_op op_add (pv 7) (pe_op op_mul (pv 9) (pv 4))) (pe_op op_mul (pv 11) (pv 5))) pa_nil)))))) pss_nil)
        (pss_cons (ps_aug (i := 9) nd rfl (.inl rfl) (pe_ix ix_tup (pe_prop (pv 0) T.cl T.q_rstarts (ok_starts T) hr T.b_rstarts .nil pass0 rfl) (pe_op op_sub (pv 1) (pv 10)) (fun _ _ => rfl)) ip_sub)
        (pss_one (ps_if (pt_cmpR op_lt (pv 9) pe_int (nomark _)) (pss_one ps_break) pss_nil))))))))
      (pss_one (ps_ret (pv 6)))))))), ?_⟩
    -- books, slowest, gain
    refine ⟨.ref p, rfl, p, dx, _, rfl, R.ob, p, dx, td, ts, ds, ss, rfl, R, ?_⟩
    refine ⟨.ref p, rfl, p, dx, _, rfl, R.ob, rdD ⟨td, ds, rfl, .inl R.td.rd, by omega, fun M hM hMu => ?_⟩⟩
    have RR := G.ring hM hMu
    have b1 := G.b1
    have b12 := G.b12
    have hM30 := G.d1 M hM
    have hT := sum_bounds G.d1
    have hBM : 0 ≤ ss.sum * M ∧ ss.sum * M ≤ 360 := by
      constructor
      · exact Int.mul_nonneg (by omega) (by omega)
      · have := Int.mul_le_mul_of_nonneg_right b12 (show 0 ≤ M by omega)
        omega
    refine ⟨.ref p, rfl, p, dx, _, rfl, R.ob, rdD ⟨td, ds, rfl, .inl R.td.rd, .int ss.sum, rfl, .int M, rfl, _, _, rfl, rfl, .inl ⟨by omega, by omega⟩, _, _, rfl, rfl, ?_⟩⟩
    -- latest = total = slowest_met = 0; left = number
    refine ⟨.int x, rfl, ?_⟩
    -- for step in range(len(ring))
    refine ⟨.ref p, rfl, p, dx, _, rfl, R.ob, p, dx, td, ts, ds, ss, rfl, R, (ds.length : Int), rfl, by omega, by omega, (ds.length : Int), rfl, by omega, by omega, for_range (lo := 0) (n := ((ds.length : Int) - 0).toNat)
      (fun i σ H' => H' = H ∧ ∃ L y10 y11, σ = edS p r x ss.sum M (ds.sum - ss.sum * M) L ds ss i y10 y11 ∧ sumBack (at' ss) r i ≤ x ∧ Sofar ds.length (at' ds) (at' ss) r x i L)
      ⟨rfl, 0, none, none, ?_, ?_, RR.sofar0 r x⟩ ?_ ?_⟩
    · show _ = ([some (.ref p), some (.int r), some (.int x), some (.int ss.sum), some (.int M), some (.int (ds.sum - ss.sum * M)), some (.int 0), some (.int 0), some (.int 0), some (.int (x - 0)), none, none] : L2.St)
      rw [show x - 0 = x by omega]
      rfl
    · show (0 : Int) ≤ x
      exact x0
    · rintro i σ H1 hi ⟨rfl, L, y10, y11, rfl, hle, SF⟩
      have hin : i < ds.length := by omega
      have e0 : (0 : Int) + (i : Int) = i := by omega
      have hix : atI (ds.map V.int) (r - (0 + (i : Int))) = some (.int (at' ds (r - i))) := by
        rw [e0]
        exact at_ix (by omega) (by omega)
      have hix2 : atI (ss.map V.int) (r - (0 + (i : Int))) = some (.int (at' ss (r - i))) := by
        rw [e0]
        exact at_ix (by omega) (by omega)
      -- total
      refine ⟨.int (sumBack (at' ds) r i), rfl, .ref p, rfl, p, dx, _, rfl, R.ob, rdD ⟨.int r, rfl, _, rfl, _, _, rfl, rfl, td, _, _, _, rfl, rfl, .inl R.td.rd, hix, _, _, rfl, rfl, ?_⟩⟩
      -- slowest_met
      refine ⟨_, rfl, .ref p, rfl, p, dx, _, rfl, R.ob, rdD ⟨.int r, rfl, _, rfl, _, _, rfl, rfl, td, _, _, _, rfl, rfl, .inl R.td.rd, hix, _, _, rfl, ?_⟩⟩
      rw [met_next RR.d1 r i]
      have hm1 : maxBack (at' ds) r i ≤ M := max_le RR.mu r i
      have hm0 : 1 ≤ maxBack (at' ds) r i := by
        have h1 := max_ge (f := at' ds) r (j := 0) (k := i) (Nat.zero_le _)
        have h2 := RR.d1 (r - (0 : Nat))
        omega
      -- latest
      refine ⟨.int L, rfl, .int (sumBack (at' ds) r (i + 1)), rfl, .int (x - sumBack (at' ss) r i), rfl, .int (maxBack (at' ds) r i), rfl, _, _, rfl, rfl, .inr ⟨by omega, by omega⟩, _, _, rfl, rfl, _, _, rfl, ?_⟩
      rw [max_if]
      have hch : sumBack (at' ds) r (i + 1) + (x - sumBack (at' ss) r i) * maxBack (at' ds) r i = ch (at' ds) (at' ss) r i x := rfl
      rw [hch]
      have hs : sumBack (at' ss) r (i + 1) = sumBack (at' ss) r i + at' ss (r - i) := rfl
      -- the end of a turn
      have fin : ∀ (L2 : Int) (y11' : Option V), Sofar ds.length (at' ds) (at' ss) r x (i + 1) L2 → tSeq (tAug 9 (tOp (rIxT K) (tProp T.C (spStarts T.C) [] E0 (tVar 0)) (tOp (rI0 fun i j => .int (i - j)) (tVar 1) (tVar 10))) (ipI fun i j => i - j)) (tIfS (tTest (tOp (rI0 fun i j => .bl (decide (i < j))) (tVar 9) (tC (.int 0)))) tBreak tNext)
          { nx := fun σ H' => H' = H1 ∧ ∃ L y10 y11, σ = edS p r x ss.sum M (ds.sum - ss.sum * M) L ds ss (i + 1) y10 y11 ∧ sumBack (at' ss) r (i + 1) ≤ x ∧ Sofar ds.length (at' ds) (at' ss) r x (i + 1) L,
            ct := fun σ H' => H' = H1 ∧ ∃ L y10 y11, σ = edS p r x ss.sum M (ds.sum - ss.sum * M) L ds ss (i + 1) y10 y11 ∧ sumBack (at' ss) r (i + 1) ≤ x ∧ Sofar ds.length (at' ds) (at' ss) r x (i + 1) L,
            rt := Q, bk := fun σ H' => tRet (tVar 6) { nx := fun _ H' => Q .non H', rt := Q } σ H' }
          [some (.ref p), some (.int r), some (.int x), some (.int ss.sum), some (.int M), some (.int (ds.sum - ss.sum * M)), some (.int L2), some (.int (sumBack (at' ds) r (i + 1))), some (.int (maxBack (at' ds) r i)), some (.int (x - sumBack (at' ss) r i)), some (.int (0 + (i : Int))), y11'] H1 := by
        intro L2 y11' SF2
        refine ⟨_, rfl, .ref p, rfl, p, dx, _, rfl, R.ob, rdS ⟨.int r, rfl, _, rfl, _, _, rfl, rfl, ts, _, _, _, rfl, rfl, .inl R.ts.rd, hix2, _, _, rfl, rfl, ?_⟩⟩
        have el : x - sumBack (at' ss) r i - at' ss (r - i) = x - sumBack (at' ss) r (i + 1) := by omega
        refine ⟨.int (x - sumBack (at' ss) r i - at' ss (r - i)), rfl, _, _, rfl, rfl, _, rfl, ?_⟩
        by_cases hb : x - sumBack (at' ss) r i - at' ss (r - i) < 0
        · rw [decide_eq_true hb]
          refine iteT ⟨.int L2, rfl, ?_⟩
          have := RR.E_of (RR.fin SF2 (.inr ⟨by omega, by omega⟩))
          rw [this] at q
          exact q
        · rw [decide_eq_false hb]
          refine iteF ⟨rfl, L2, some (.int (0 + (i : Int))), y11', ?_, by omega, SF2⟩
          unfold edS
          rw [← el]
          rfl
      -- if left >= books
      refine ⟨.int (x - sumBack (at' ss) r i), rfl, .int ss.sum, rfl, _, _, rfl, rfl, _, rfl, ?_⟩
      by_cases hb : ss.sum ≤ x - sumBack (at' ss) r i
      · rw [decide_eq_true hb]
        refine iteT ?_
        have go : ∀ rounds : Int, rounds = (if 0 < ds.sum - ss.sum * M then (x - sumBack (at' ss) r i) / ss.sum else 1) → _ := fun rounds hrd =>
          fin (max (max L (ch (at' ds) (at' ss) r i x)) (sumBack (at' ds) r (i + 1) + (x - sumBack (at' ss) r i) * M + rounds * (ds.sum - ss.sum * M))) (some (.int rounds)) (RR.step SF hle (by rw [if_pos hb, hrd]))
        -- rounds
        refine ⟨.int (ds.sum - ss.sum * M), rfl, _, _, rfl, rfl, _, rfl, ?_⟩
        by_cases hg : 0 < ds.sum - ss.sum * M
        · rw [decide_eq_true hg]
          refine iteT ⟨.int (x - sumBack (at' ss) r i), rfl, .int ss.sum, rfl, _, _, rfl, rfl, ⟨by omega, by omega⟩, ?_⟩
          refine ⟨_, rfl, .int (sumBack (at' ds) r (i + 1)), rfl, .int (x - sumBack (at' ss) r i), rfl, .int M, rfl, _, _, rfl, rfl, .inr ⟨by omega, by omega⟩, _, _, rfl, rfl, _, rfl, .int (ds.sum - ss.sum * M), rfl, _, _, rfl, rfl, .inr ⟨by omega, by omega⟩, _, _, rfl, rfl, _, _, rfl, ?_⟩
          rw [max_if]
          exact go _ (by rw [if_pos hg])
        · rw [decide_eq_false hg]
          refine iteF ?_
          refine ⟨_, rfl, .int (sumBack (at' ds) r (i + 1)), rfl, .int (x - sumBack (at' ss) r i), rfl, .int M, rfl, _, _, rfl, rfl, .inr ⟨by omega, by omega⟩, _, _, rfl, rfl, _, rfl, .int (ds.sum - ss.sum * M), rfl, _, _, rfl, rfl, .inr ⟨by omega, by omega⟩, _, _, rfl, rfl, _, _, rfl, ?_⟩
          rw [max_if]
          exact go _ (by rw [if_neg hg])
      · rw [decide_eq_false hb]
        refine iteF ?_
        exact fin _ y11 (RR.step SF hle (by rw [if_neg hb]))
    · rintro σ H1 ⟨rfl, L, y10, y11, rfl, hle, SF⟩
      have := RR.E_of (RR.fin SF (.inl (by omega)))
      rw [this] at q
      exact ⟨.int L, rfl, q⟩
end
end Rp
namespace Rp
open PySem PySem.Spec PyProof.Rows L2 Rz Rm
/-- readings and days of a repetition -/
def RepIs (T B M p q : Int) : Prop := (T ≤ M * B ∧ p = 1 ∧ q = M) ∨ (¬ T ≤ M * B ∧ p = B ∧ q = T)
theorem at_emod {ss : List Int} (i : Int) : at' ss (i % (ss.length : Int)) = at' ss i := by
  unfold at'
  rw [Int.emod_emod_of_dvd _ (Int.dvd_refl _)]
theorem emod_pred (z n : Int) : (z % n - 1) % n = (z - 1) % n := by
  have h := Int.emod_add_mul_ediv z n
  have e : z - 1 = (z % n - 1) + n * (z / n) := by omega
  rw [e, Int.add_mul_emod_self_left]
/-- the book of place q at reader r -/
def Bk (ss : List Int) (r q v : Int) : Prop := ∃ i : Nat, i < ss.length ∧ sumBack (at' ss) r i ≤ q ∧ q < sumBack (at' ss) r (i + 1) ∧ v = (ss.take ((r - i) % (ss.length : Int)).toNat).sum + (q - sumBack (at' ss) r i)
theorem Bk.inj {ss : List Int} (h0 : ∀ i, 0 ≤ at' ss i) {r q v v' : Int} (h : Bk ss r q v) (h' : Bk ss r q v') : v = v' := by
  obtain ⟨i, _, a1, a2, rfl⟩ := h
  obtain ⟨j, _, b1, b2, rfl⟩ := h'
  have e : i = j := by
    rcases Nat.lt_trichotomy i j with z | z | z
    · have := sum_mono h0 r (show i + 1 ≤ j by omega)
      omega
    · exact z
    · have := sum_mono h0 r (show j + 1 ≤ i by omega)
      omega
  rw [e]
section
variable {P : Program} {w : World} {K : PySem.W.Frag} {mg : Str → Option Value} {base : Heap}
/-! ### ring(reader, number) -/
def spCall (C : Addr) : Sp := fun vs H Q _ => ∃ p dx td ts ds ss, ∃ r x : Int, vs = [.ref p, .int r, .int x] ∧ RingAt C H p dx td ts ds ss ∧ 0 ≤ r ∧ r < ds.length ∧ 0 ≤ x ∧ x ≤ 1000000000000000000 ∧ Q (.int (Rm.E (at' ds) (at' ss) r x)) H
theorem ok_call (T : Tx K mg) : FnOk P w K mg base CX0 4 T.a_rcall T.d_rcall P_rcall (spCall T.C) := by
  refine T.F_rcall.ok sc_rcall (fun vs H Q E h => ?_) (fun cdv A outer s H vs Q E hr h => ?_)
  · obtain ⟨p, dx, td, ts, ds, ss, r, x, rfl, _⟩ := h
    rfl
  · obtain ⟨p, dx, td, ts, ds, ss, r, x, rfl, R, r0, r1, x0, x1, q⟩ := h
    obtain ⟨u1, c1⟩ := T.c_LATEST
    refine ⟨_, pss_cons (ps_expr (pe_call (ok_reader T) hr (by rfl) T.g_check_reader T.F_check_reader.kp T.b_check_reader .nil pass0 (pa_cons (pv 0) (pa_cons (pv 1) pa_nil))))
      (pss_cons (ps_expr (pe_call (ok_chk T) hr (by rfl) T.g_check_number T.F_check_number.kp T.b_check_number .nil pass0 (pa_cons (pv 2) (pa_cons pe_int (pa_cons (pe_glob (v := .int 1000000000000000000) (by rfl) c1 ⟨_, rfl⟩) pa_nil)))))
      (pss_one (ps_ret (pe_call (ok_end T) hr (by rfl) T.g_end_day T.F_end_day.kp T.b_end_day .nil pass0 (pa_cons (pv 0) (pa_cons (pv 1) (pa_cons (pv 2) pa_nil))))))), ?_⟩
    refine ⟨_, rfl, _, rfl, p, dx, td, ts, ds, ss, r, rfl, R, r0, r1, ?_⟩
    refine ⟨_, rfl, x, 0, 1000000000000000000, rfl, x0, x1, ?_⟩
    exact ⟨_, rfl, _, rfl, _, rfl, p, dx, td, ts, ds, ss, r, x, rfl, R, r0, r1, x0, q⟩
/-! ### reader_before -/
def spBefore (C : Addr) : Sp := fun vs H Q _ => ∃ p dx td ts ds ss, ∃ r : Int, vs = [.ref p, .int r] ∧ RingAt C H p dx td ts ds ss ∧ Q (.int ((r - 1) % (ds.length : Int))) H
theorem ok_before (T : Tx K mg) : FnOk P w K mg base CX0 3 T.a_reader_before T.d_reader_before P_reader_before (spBefore T.C) := by
  refine T.F_reader_before.ok sc_reader_before (fun vs H Q E h => ?_) (fun cdv A outer s H vs Q E hr h => ?_)
  · obtain ⟨p, dx, td, ts, ds, ss, r, rfl, _⟩ := h
    rfl
  · obtain ⟨p, dx, td, ts, ds, ss, r, rfl, R, q⟩ := h
    have l2 := R.ok.l2
    have l8 := R.ok.l8
    refine ⟨_, pss_one (ps_ret (pe_op op_mod (pe_callTy call_int1 (by rfl) T.z_int (by decide +kernel) (pa_cons (pe_op op_sub (pv 1) pe_int) pa_nil))
      (pe_callB (call_lenI T.lenC T.lenF ((ok_len T).raw T.b_rlen .nil) hr pass0) (by rfl) T.z_len PySem.boot_len (pa_cons (pv 0) pa_nil)))), ?_⟩
    exact ⟨_, rfl, _, _, rfl, rfl, .inl ⟨_, rfl, _, rfl, p, dx, _, rfl, R.ob, p, dx, td, ts, ds, ss, rfl, R, _, rfl, by omega, by omega, _, _, rfl, rfl, by show (0 : Int) < ds.length; omega, q⟩⟩
end
end Rp
namespace Rp
open PySem PySem.Spec PyProof.Rows L2 Rz Rm
theorem cut_front {xs : List V} {r : Int} (h0 : 0 ≤ r) (h1 : r < xs.length) : cutV xs none (some r) = xs.take r.toNat ∧ ¬ (HT.sIx xs.length 0 none = 0 ∧ HT.sIx xs.length xs.length (some r) = xs.length) := by
  have e : r = ((r.toNat : Nat) : Int) := by omega
  have e1 : HT.sIx xs.length xs.length (some r) = r.toNat := by
    rw [e, HT.sIx_nat]
    omega
  constructor
  · unfold cutV
    rw [HT.sIx_none, e1]
    simp
  · rw [e1]
    omega
theorem sum_le_zero : ∀ {l : List Int}, (∀ y ∈ l, y ≤ 0) → l.sum ≤ 0
  | [], _ => by simp
  | a :: r, h => by
    have h1 := h a List.mem_cons_self
    have ih := sum_le_zero (l := r) fun y hy => h y (List.mem_cons_of_mem _ hy)
    rw [List.sum_cons]
    omega
section
variable {N : Nat} {d s : Int → Int} {B T M : Int} (R : Rm.Ring N d s B T M)
include R
theorem _root_.Rm.Ring.rep_big {p q x : Int} (h : RepIs T B M p q) (hx : 4 * B + B * M ≤ x) : Rep d s p q x := by
  rw [RepIs, Int.mul_comm M B] at h
  rcases h with ⟨h1, rfl, rfl⟩ | ⟨h1, rfl, rfl⟩
  · exact R.rep_slow h1 hx
  · exact R.rep_fast (by omega) hx
theorem _root_.Rm.Ring.p1 {p q : Int} (h : RepIs T B M p q) : 1 ≤ p := by
  have := R.b1
  rcases h with ⟨_, rfl, _⟩ | ⟨_, rfl, _⟩ <;> omega
end
section
variable {P : Program} {w : World} {K : PySem.W.Frag} {mg : Str → Option Value} {base : Heap}
end
end Rp
namespace Rp
open PySem PySem.Spec PyProof.Rows L2 Rz Rm
/-! ### the drawn row -/
/-- all that was tracked but the row is as it was -/
def Kp (row : Addr) (H H' : Hp) : Prop := ∀ b o, H b = some o → b ≠ row → H' b = some o
theorem Kp.refl (row : Addr) (H : Hp) : Kp row H H := fun _ _ h _ => h
theorem Kp.trans {row : Addr} {H H1 H2 : Hp} (a : Kp row H H1) (b : Kp row H1 H2) : Kp row H H2 := fun c o h n => b c o (a c o h n) n
theorem Same.kp {row : Addr} {H H' : Hp} (s : Same H H') : Kp row H H' := fun b o h _ => s b o h
/-- the script stands in the written part -/
def Wr (K : PySem.W.Frag) (a : Addr) (xs : List V) : Prop := ∃ (o : Obj) (its : Array Value) (n : Nat), K.lookup a = some o ∧ o.cls = .type "list" ∧ o.dict = none ∧ o.data = .seq its n ∧ its.size ≤ sizeLine ∧ Vals xs its.toList
theorem far_of {K : PySem.W.Frag} {H : Hp} {D a : Addr} {xs : List V} (h : SqL K H a xs) (hD : H D = none) : D ≠ a ∨ Wr K a xs := by
  rcases h with (h | ⟨o, h⟩) | h
  · exact .inl fun e => by rw [e, h] at hD; cases hD
  · exact .inl fun e => by rw [e, h] at hD; cases hD
  · exact .inr h
theorem sq_upd {K : PySem.W.Frag} {H : Hp} {D a : Addr} {xs : List V} {o : HO} (h : SqL K H a xs) (f : D ≠ a ∨ Wr K a xs) : SqL K (upd H D o) a xs := by
  rcases f with f | f
  · rcases h with (h | ⟨u, h⟩) | h
    · exact .inl (.inl (by rw [upd_ne f.symm]; exact h))
    · exact .inl (.inr ⟨u, by rw [upd_ne f.symm]; exact h⟩)
    · exact .inr h
  · exact .inr f
structure RowAt (K : PySem.W.Frag) (H : Hp) (row a : Addr) (ns : List Int) : Prop where
  ob : ∃ i m q : Int, H row = some (.lst [.ref a, .int i, .int m, .int q]) ∧ 0 ≤ i
  sc : SqL K H a (ns.map V.int)
  ne : row ≠ a ∨ Wr K a (ns.map V.int)
theorem RowAt.same {K : PySem.W.Frag} {H H' : Hp} {row a : Addr} {ns : List Int} (R : RowAt K H row a ns) (s : Same H H') : RowAt K H' row a ns := by
  obtain ⟨i, m, q, h, h0⟩ := R.ob
  exact ⟨⟨i, m, q, s _ _ h, h0⟩, s.seq R.sc, R.ne⟩
theorem kp_upd {row : Addr} {H : Hp} {o : HO} : Kp row H (upd H row o) := fun b z h n => by
  rw [upd_ne n]
  exact h
/-- the row is written -/
theorem RowAt.put {K : PySem.W.Frag} {H : Hp} {row a : Addr} {ns : List Int} (R : RowAt K H row a ns) {i m q : Int} (h : 0 ≤ i) : RowAt K (upd H row (.lst [.ref a, .int i, .int m, .int q])) row a ns :=
  ⟨⟨i, m, q, upd_same, h⟩, sq_upd R.sc R.ne, R.ne⟩
theorem first_ix : ∀ {l : List Int} {m : Int}, m ∈ l → ∃ j : Nat, l[j]? = some m ∧ ∀ k z, k < j → l[k]? = some z → z ≠ m
  | a :: r, m, h => by
    by_cases e : a = m
    · exact ⟨0, by simp [e], fun k z hk => absurd hk (Nat.not_lt_zero _)⟩
    · obtain ⟨j, h1, h2⟩ := first_ix (l := r) (m := m) (by
        rcases List.mem_cons.mp h with q | q
        · exact absurd q.symm e
        · exact q)
      refine ⟨j + 1, by simpa using h1, fun k z hk hz => ?_⟩
      cases k with
      | zero =>
        simp at hz
        rw [← hz]
        exact e
      | succ k => exact h2 k z (by omega) (by simpa using hz)
theorem mem_le_sum : ∀ {l : List Int}, (∀ y ∈ l, 0 ≤ y) → ∀ x ∈ l, x ≤ l.sum
  | a :: r, h, x, hx => by
    have ha := h a List.mem_cons_self
    have hr : ∀ y ∈ r, 0 ≤ y := fun y hy => h y (List.mem_cons_of_mem _ hy)
    have hs : 0 ≤ r.sum := sum_nonneg' hr
    rw [List.sum_cons]
    rcases List.mem_cons.mp hx with e | e
    · omega
    · have := mem_le_sum hr x e
      omega
where sum_nonneg' : ∀ {l : List Int}, (∀ y ∈ l, 0 ≤ y) → 0 ≤ l.sum
  | [], _ => by simp
  | a :: r, h => by
    have h1 := h a List.mem_cons_self
    have h2 := sum_nonneg' (l := r) fun y hy => h y (List.mem_cons_of_mem _ hy)
    rw [List.sum_cons]
    omega
theorem mem_set {l : List Int} {j : Nat} {v y : Int} (h : y ∈ l.set j v) : y ∈ l ∨ y = v := List.mem_or_eq_of_mem_set h
theorem flat_ints (l : List Int) : (l.map V.int).all flatV = true := by
  rw [List.all_eq_true]
  intro x hx
  obtain ⟨i, _, rfl⟩ := List.mem_map.mp hx
  rfl
theorem lc_keep {σ : L2.St} {H : Hp} {F G : Hp → Prop} (h : F H) : tYes σ H (fun b H3 => if b = true then F H3 else G H3) := by
  show if true = true then F H else G H
  rw [if_pos rfl]
  exact h
theorem map_snoc (l : List Int) (v : Int) : l.map V.int ++ [V.int v] = (l ++ [v]).map V.int := by
  rw [List.map_append]
  rfl
theorem RowAt.upd' {K : PySem.W.Frag} {H : Hp} {D row a : Addr} {ns : List Int} {o : HO} (R : RowAt K H row a ns) (n : D ≠ row) (f : D ≠ a ∨ Wr K a (ns.map V.int)) : RowAt K (upd H D o) row a ns := by
  obtain ⟨i, m, q, h, h0⟩ := R.ob
  exact ⟨⟨i, m, q, by rw [upd_ne n.symm]; exact h, h0⟩, sq_upd R.sc f, R.ne⟩
theorem RowAt.nn {K : PySem.W.Frag} {H : Hp} {D row a : Addr} {ns : List Int} (R : RowAt K H row a ns) (h : H D = none) : D ≠ row := fun e => by
  obtain ⟨i, m, q, h2, _⟩ := R.ob
  rw [e, h2] at h
  cases h
theorem kp_new {row D : Addr} {H0 H : Hp} {o : HO} (k : Kp row H0 H) (h : H0 D = none) : Kp row H0 (upd H D o) := fun b z e n => by
  rw [upd_ne (ne_of_none e h)]
  exact k b z e n
end Rp
/-! Equal values are alike, whatever their depth. -/
namespace Rp
open PySem PySem.Spec PyProof.Rows L2 Rz Rm
/-- equal values: ints, None; tuples and lists of such -/
def LkD : Nat → Hp → V → V → Prop
  | 0, _, v, w => (∃ x, v = .int x ∧ w = .int x) ∨ (v = .non ∧ w = .non) ∨ ∃ x, v = .str x ∧ w = .str x
  | n + 1, H, v, w => LkD n H v w ∨ ∃ (f g : Addr) (xs ys : List V), v = .ref f ∧ w = .ref g ∧ ((H f = some (.tup xs) ∧ H g = some (.tup ys)) ∨ (H f = some (.lst xs) ∧ H g = some (.lst ys))) ∧ ys.length = xs.length ∧ xs.length ≤ 1000000 ∧
      ∀ (i : Nat) (x y : V), xs[i]? = some x → ys[i]? = some y → LkD n H x y
theorem LkD.same {H H' : Hp} (s : Same H H') : ∀ {n : Nat} {v w : V}, LkD n H v w → LkD n H' v w
  | 0, _, _, h => h
  | n + 1, _, _, h => by
    rcases h with h | ⟨f, g, xs, ys, e1, e2, ho, hl, h1, ht⟩
    · exact .inl (LkD.same s h)
    · refine .inr ⟨f, g, xs, ys, e1, e2, ?_, hl, h1, fun i x y hx hy => LkD.same s (ht i x y hx hy)⟩
      rcases ho with ⟨a, b⟩ | ⟨a, b⟩
      · exact .inl ⟨s _ _ a, s _ _ b⟩
      · exact .inr ⟨s _ _ a, s _ _ b⟩
theorem LkD.ints {H : Hp} {f g : Addr} {l : List Int} (h : (H f = some (.tup (l.map V.int)) ∧ H g = some (.tup (l.map V.int))) ∨ (H f = some (.lst (l.map V.int)) ∧ H g = some (.lst (l.map V.int)))) (hl : l.length ≤ 1000) : LkD 1 H (.ref f) (.ref g) := by
  refine .inr ⟨f, g, _, _, rfl, rfl, h, rfl, by rw [List.length_map]; omega, fun i x y hx hy => ?_⟩
  rw [hx] at hy
  cases hy
  rw [List.getElem?_map] at hx
  cases e : l[i]? with
  | none => rw [e] at hx; cases hx
  | some z => rw [e] at hx; cases hx; exact .inl ⟨z, rfl, rfl⟩
section
variable {P : Program} {w : World} {K : PySem.W.Frag} {mg : Str → Option Value} {base : Heap}
def spLikeD (n : Nat) : Sp := fun vs H Q _ => ∃ v y : V, vs = [v, y] ∧ LkD n H v y ∧ ∀ H', Same H H' → Q (.bl true) H'
theorem ok_like0 (T : Tx K mg) : FnOk P w K mg base CX0 1 T.a_llike T.d_llike P_llike (spLikeD 0) := by
  refine T.F_llike.ok sc_llike (fun vs H Q E h => ?_) (fun cdv A outer s H vs Q E hr h => ?_)
  · obtain ⟨x, y, rfl, _⟩ := h
    rfl
  · obtain ⟨v, y, rfl, hv, q⟩ := h
    have q := q H (fun _ _ z => z)
    refine ⟨_, pss_cons (ps_if (PW.pt (pw_or (pt_val (pe_callB call_isi (by rfl) T.z_isinstance (by decide +kernel) (pa_cons (pv 1) (pa_cons (pe_bltn (v := .ty "tuple") (u := .type "tuple") (by rfl) T.z_tuple (by decide +kernel) rfl) pa_nil))))
        (pw_or1 (pt_val (pe_callB call_isi (by rfl) T.z_isinstance (by decide +kernel) (pa_cons (pv 1) (pa_cons (pe_bltn (v := .ty "list") (u := .type "list") (by rfl) T.z_list (by decide +kernel) rfl) pa_nil))))))) pss_never pss_nil)
      (pss_cons (ps_if (pt_cmpR op_ne (pe_callB call_isi (by rfl) T.z_isinstance (by decide +kernel) (pa_cons (pv 0) (pa_cons (pe_bltn (v := .ty "bool") (u := .type "bool") (by rfl) T.z_bool (by decide +kernel) rfl) pa_nil)))
        (pe_callB call_isi (by rfl) T.z_isinstance (by decide +kernel) (pa_cons (pv 1) (pa_cons (pe_bltn (v := .ty "bool") (u := .type "bool") (by rfl) T.z_bool (by decide +kernel) rfl) pa_nil))) (nomark _)) (pss_one (ps_ret pe_bl)) pss_nil)
      (pss_cons (ps_if (PW.pt (pw_or (pt_cmpR op_ne (pe_callB call_isi (by rfl) T.z_isinstance (by decide +kernel) (pa_cons (pv 0) (pa_cons (pe_bltn (v := .ty "int") (u := .type "int") (by rfl) T.z_int (by decide +kernel) rfl) pa_nil)))
        (pe_callB call_isi (by rfl) T.z_isinstance (by decide +kernel) (pa_cons (pv 1) (pa_cons (pe_bltn (v := .ty "int") (u := .type "int") (by rfl) T.z_int (by decide +kernel) rfl) pa_nil))) (nomark _))
        (pw_or1 (pt_cmpR op_ne (pe_callB call_isi (by rfl) T.z_isinstance (by decide +kernel) (pa_cons (pv 0) (pa_cons (pe_bltn (v := .ty "str") (u := .type "str") (by rfl) T.z_str (by decide +kernel) rfl) pa_nil)))
        (pe_callB call_isi (by rfl) T.z_isinstance (by decide +kernel) (pa_cons (pv 1) (pa_cons (pe_bltn (v := .ty "str") (u := .type "str") (by rfl) T.z_str (by decide +kernel) rfl) pa_nil))) (nomark _))))) (pss_one (ps_ret pe_bl)) pss_nil)
      (pss_one (ps_ret (pe_cmpR op_eq (pv 0) (pv 1) (nomark _)))))), ?_⟩
    rcases hv with ⟨x, rfl, rfl⟩ | ⟨rfl, rfl⟩ | ⟨x, rfl, rfl⟩
    · refine ⟨_, rfl, .int x, .ty "tuple", .type "int", .type "tuple", false, rfl, .ty _, .base (.int x), kit_ty (by decide +kernel), _, rfl, iteF ?_⟩
      refine ⟨_, rfl, .int x, .ty "list", .type "int", .type "list", false, rfl, .ty _, .base (.int x), kit_ty (by decide +kernel), _, rfl, iteF ?_⟩
      refine ⟨_, rfl, .int x, .ty "bool", .type "int", .type "bool", false, rfl, .ty _, .base (.int x), kit_ty (by decide +kernel), _, rfl, .int x, .ty "bool", .type "int", .type "bool", false, rfl, .ty _, .base (.int x), kit_ty (by decide +kernel), rfl, _, rfl, iteNS rfl ?_⟩
      refine ⟨_, rfl, .int x, .ty "int", .type "int", .type "int", true, rfl, .ty _, .base (.int x), kit_ty (by decide +kernel), _, rfl, .int x, .ty "int", .type "int", .type "int", true, rfl, .ty _, .base (.int x), kit_ty (by decide +kernel), rfl, _, rfl, iteNS rfl ?_⟩
      refine ⟨_, rfl, .int x, .ty "str", .type "int", .type "str", false, rfl, .ty _, .base (.int x), kit_ty (by decide +kernel), _, rfl, .int x, .ty "str", .type "int", .type "str", false, rfl, .ty _, .base (.int x), kit_ty (by decide +kernel), rfl, _, rfl, iteNS rfl ?_⟩
      exact ⟨_, rfl, _, rfl, rfl, by rw [decide_eq_true rfl]; exact q⟩
    · refine ⟨_, rfl, .non, .ty "tuple", .type "NoneType", .type "tuple", false, rfl, .ty _, .base (.non), kit_ty (by decide +kernel), _, rfl, iteF ?_⟩
      refine ⟨_, rfl, .non, .ty "list", .type "NoneType", .type "list", false, rfl, .ty _, .base (.non), kit_ty (by decide +kernel), _, rfl, iteF ?_⟩
      refine ⟨_, rfl, .non, .ty "bool", .type "NoneType", .type "bool", false, rfl, .ty _, .base (.non), kit_ty (by decide +kernel), _, rfl, .non, .ty "bool", .type "NoneType", .type "bool", false, rfl, .ty _, .base (.non), kit_ty (by decide +kernel), rfl, _, rfl, iteNS rfl ?_⟩
      refine ⟨_, rfl, .non, .ty "int", .type "NoneType", .type "int", false, rfl, .ty _, .base (.non), kit_ty (by decide +kernel), _, rfl, .non, .ty "int", .type "NoneType", .type "int", false, rfl, .ty _, .base (.non), kit_ty (by decide +kernel), rfl, _, rfl, iteNS rfl ?_⟩
      refine ⟨_, rfl, .non, .ty "str", .type "NoneType", .type "str", false, rfl, .ty _, .base (.non), kit_ty (by decide +kernel), _, rfl, .non, .ty "str", .type "NoneType", .type "str", false, rfl, .ty _, .base (.non), kit_ty (by decide +kernel), rfl, _, rfl, iteNS rfl ?_⟩
      exact ⟨_, rfl, _, rfl, rfl, q⟩
    · refine ⟨_, rfl, .str x, .ty "tuple", .type "str", .type "tuple", false, rfl, .ty _, .base (.str x), kit_ty (by decide +kernel), _, rfl, iteF ?_⟩
      refine ⟨_, rfl, .str x, .ty "list", .type "str", .type "list", false, rfl, .ty _, .base (.str x), kit_ty (by decide +kernel), _, rfl, iteF ?_⟩
      refine ⟨_, rfl, .str x, .ty "bool", .type "str", .type "bool", false, rfl, .ty _, .base (.str x), kit_ty (by decide +kernel), _, rfl, .str x, .ty "bool", .type "str", .type "bool", false, rfl, .ty _, .base (.str x), kit_ty (by decide +kernel), rfl, _, rfl, iteNS rfl ?_⟩
      refine ⟨_, rfl, .str x, .ty "int", .type "str", .type "int", false, rfl, .ty _, .base (.str x), kit_ty (by decide +kernel), _, rfl, .str x, .ty "int", .type "str", .type "int", false, rfl, .ty _, .base (.str x), kit_ty (by decide +kernel), rfl, _, rfl, iteNS rfl ?_⟩
      refine ⟨_, rfl, .str x, .ty "str", .type "str", .type "str", true, rfl, .ty _, .base (.str x), kit_ty (by decide +kernel), _, rfl, .str x, .ty "str", .type "str", .type "str", true, rfl, .ty _, .base (.str x), kit_ty (by decide +kernel), rfl, _, rfl, iteNS rfl ?_⟩
      exact ⟨_, rfl, _, rfl, rfl, by rw [decide_eq_true rfl]; exact q⟩
theorem ok_likeS {n : Nat} (T : Tx K mg) (IH : FnOk P w K mg base CX0 (n + 1) T.a_llike T.d_llike P_llike (spLikeD n)) : FnOk P w K mg base CX0 (n + 2) T.a_llike T.d_llike P_llike (fun vs H Q _ => ∃ (f g : Addr) (xs ys : List V), vs = [.ref f, .ref g] ∧ (H f = some (.tup xs) ∧ H g = some (.tup ys)) ∧ ys.length = xs.length ∧ xs.length ≤ 1000000 ∧
      (∀ (i : Nat) (x y : V), xs[i]? = some x → ys[i]? = some y → LkD n H x y) ∧ ∀ H', Same H H' → Q (.bl true) H') := by
  refine T.F_llike.ok sc_llike (fun vs H Q E h => ?_) (fun cdv A outer s H vs Q E hr h => ?_)
  · obtain ⟨f, g, xs, ys, rfl, _⟩ := h
    rfl
  · obtain ⟨f, g, xs, ys, rfl, ⟨hf, hg⟩, hl, h1000, ht, q⟩ := h
    have nd := sc_llike.nd
    refine ⟨_, pss_cons (ps_if (PW.pt (pw_or (pt_val (pe_callB call_isi (by rfl) T.z_isinstance (by decide +kernel) (pa_cons (pv 1) (pa_cons (pe_bltn (v := .ty "tuple") (u := .type "tuple") (by rfl) T.z_tuple (by decide +kernel) rfl) pa_nil))))
        (pw_or1 (pt_val (pe_callB call_isi (by rfl) T.z_isinstance (by decide +kernel) (pa_cons (pv 1) (pa_cons (pe_bltn (v := .ty "list") (u := .type "list") (by rfl) T.z_list (by decide +kernel) rfl) pa_nil)))))))
        (pss_cons (ps_if (pt_cmpR op_ne (pe_callB call_isi (by rfl) T.z_isinstance (by decide +kernel) (pa_cons (pv 0) (pa_cons (pe_bltn (v := .ty "tuple") (u := .type "tuple") (by rfl) T.z_tuple (by decide +kernel) rfl) pa_nil)))
          (pe_callB call_isi (by rfl) T.z_isinstance (by decide +kernel) (pa_cons (pv 1) (pa_cons (pe_bltn (v := .ty "tuple") (u := .type "tuple") (by rfl) T.z_tuple (by decide +kernel) rfl) pa_nil))) (nomark _)) (pss_one (ps_ret pe_bl)) pss_nil)
        (pss_cons (ps_if (PW.pt (pw_or (pt_cmpR op_ne (pe_callB call_isi (by rfl) T.z_isinstance (by decide +kernel) (pa_cons (pv 0) (pa_cons (pe_bltn (v := .ty "list") (u := .type "list") (by rfl) T.z_list (by decide +kernel) rfl) pa_nil)))
          (pe_callB call_isi (by rfl) T.z_isinstance (by decide +kernel) (pa_cons (pv 1) (pa_cons (pe_bltn (v := .ty "list") (u := .type "list") (by rfl) T.z_list (by decide +kernel) rfl) pa_nil))) (nomark _))
          (pw_or1 (pt_cmpR op_ne (pe_callB call_len_seq (by rfl) T.z_len PySem.boot_len (pa_cons (pv 0) pa_nil)) (pe_callB call_len_seq (by rfl) T.z_len PySem.boot_len (pa_cons (pv 1) pa_nil)) (nomark _))))) (pss_one (ps_ret pe_bl)) pss_nil)
        (pss_one (ps_ret (pe_cmpR (op_eqD hr.units) (pe_lc (own := [("_law_k", 2)]) rfl nd (pi_range1 (by rfl) T.z_range (pa_cons (pe_callB call_len_seq (by rfl) T.z_len PySem.boot_len (pa_cons (pv 1) pa_nil)) pa_nil)) (blkOk_by (N := N_llike) (sc := defScope s_llike) (by decide +kernel))
          (fun _ _ _ _ _ => pg_name (i := 2) nd rfl (.inl rfl))
          (fun _ _ _ _ _ => pts_one (pt_not (pt_val (pe_call (IH) hr (by rfl) T.g_llike T.F_llike.kp T.b_llike .nil pass0 (pa_cons (pe_ix (r := rIxT K) ix_tup (pv 0) (pv 2) (fun _ _ => rfl)) (pa_cons (pe_ix (r := rIxT K) ix_tup (pv 1) (pv 2) (fun _ _ => rfl)) pa_nil))))))
          (fun _ _ _ _ _ => pv 2)) (pe_lst pa_nil) (nomark _)))))) pss_nil) pss_never, ?_⟩
    refine ⟨_, rfl, .ref g, .ty "tuple", .type "tuple", .type "tuple", true, rfl, .ty _, .base (.tup hg), kit_ty (by decide +kernel), _, rfl, iteT ?_⟩
    refine ⟨_, rfl, .ref f, .ty "tuple", .type "tuple", .type "tuple", true, rfl, .ty _, .base (.tup hf), kit_ty (by decide +kernel), _, rfl, .ref g, .ty "tuple", .type "tuple", .type "tuple", true, rfl, .ty _, .base (.tup hg), kit_ty (by decide +kernel), rfl, _, rfl, iteNS rfl ?_⟩
    refine ⟨_, rfl, .ref f, .ty "list", .type "tuple", .type "list", false, rfl, .ty _, .base (.tup hf), kit_ty (by decide +kernel), _, rfl, .ref g, .ty "list", .type "tuple", .type "list", false, rfl, .ty _, .base (.tup hg), kit_ty (by decide +kernel), rfl, _, rfl, iteNS rfl ?_⟩
    refine ⟨_, rfl, f, _, rfl, .inr (.of hf), _, rfl, g, _, rfl, .inr (.of hg), rfl, _, rfl, iteNS (by rw [hl]) ?_⟩
    refine ⟨_, rfl, g, _, rfl, .inr (.of hg), _, rfl, by omega, by omega, fun D hD => lc_range (lo := 0) (n := (((ys.length : Nat) : Int)).toNat) (fun i H' => H' D = some (.lst []) ∧ Same H H') ⟨upd_same, same_upd hD⟩ ?_ ?_⟩
    · rintro i H1 hi ⟨h1, s1⟩
      have hi' : i < xs.length := by omega
      have hi2 : i < ys.length := by omega
      refine ⟨rfl, ?_⟩
      refine ⟨_, rfl, _, rfl, f, _, _, _, rfl, rfl, sq_same s1 hf, at_of (j := i) (by omega) (List.getElem?_eq_getElem hi'), _, rfl, _, rfl, g, _, _, _, rfl, rfl, sq_same s1 hg, at_of (j := i) (by omega) (List.getElem?_eq_getElem hi2), _, _, rfl, (ht i _ _ (List.getElem?_eq_getElem hi') (List.getElem?_eq_getElem hi2)).same s1, fun H2 s2 => ⟨_, rfl, ?_⟩⟩
      exact iteF ⟨s2 _ _ h1, s1.trans s2⟩
    · rintro H1 ⟨h1, s1⟩
      refine ⟨Nat.zero_le _, fun e he => ?_⟩
      have s2 := same_upd (o := .lst []) he
      exact ⟨.list [], .list [], .lst (.of (s2 _ _ h1)) .nil, .lst (.of upd_same) .nil, rfl, rfl, q _ (s1.trans s2)⟩
theorem ok_likeSL {n : Nat} (T : Tx K mg) (IH : FnOk P w K mg base CX0 (n + 1) T.a_llike T.d_llike P_llike (spLikeD n)) : FnOk P w K mg base CX0 (n + 2) T.a_llike T.d_llike P_llike (fun vs H Q _ => ∃ (f g : Addr) (xs ys : List V), vs = [.ref f, .ref g] ∧ (H f = some (.lst xs) ∧ H g = some (.lst ys)) ∧ ys.length = xs.length ∧ xs.length ≤ 1000000 ∧
      (∀ (i : Nat) (x y : V), xs[i]? = some x → ys[i]? = some y → LkD n H x y) ∧ ∀ H', Same H H' → Q (.bl true) H') := by
  refine T.F_llike.ok sc_llike (fun vs H Q E h => ?_) (fun cdv A outer s H vs Q E hr h => ?_)
  · obtain ⟨f, g, xs, ys, rfl, _⟩ := h
    rfl
  · obtain ⟨f, g, xs, ys, rfl, ⟨hf, hg⟩, hl, h1000, ht, q⟩ := h
    have nd := sc_llike.nd
    refine ⟨_, pss_cons (ps_if (PW.pt (pw_or (pt_val (pe_callB call_isi (by rfl) T.z_isinstance (by decide +kernel) (pa_cons (pv 1) (pa_cons (pe_bltn (v := .ty "tuple") (u := .type "tuple") (by rfl) T.z_tuple (by decide +kernel) rfl) pa_nil))))
        (pw_or1 (pt_val (pe_callB call_isi (by rfl) T.z_isinstance (by decide +kernel) (pa_cons (pv 1) (pa_cons (pe_bltn (v := .ty "list") (u := .type "list") (by rfl) T.z_list (by decide +kernel) rfl) pa_nil)))))))
        (pss_cons (ps_if (pt_cmpR op_ne (pe_callB call_isi (by rfl) T.z_isinstance (by decide +kernel) (pa_cons (pv 0) (pa_cons (pe_bltn (v := .ty "tuple") (u := .type "tuple") (by rfl) T.z_tuple (by decide +kernel) rfl) pa_nil)))
          (pe_callB call_isi (by rfl) T.z_isinstance (by decide +kernel) (pa_cons (pv 1) (pa_cons (pe_bltn (v := .ty "tuple") (u := .type "tuple") (by rfl) T.z_tuple (by decide +kernel) rfl) pa_nil))) (nomark _)) (pss_one (ps_ret pe_bl)) pss_nil)
        (pss_cons (ps_if (PW.pt (pw_or (pt_cmpR op_ne (pe_callB call_isi (by rfl) T.z_isinstance (by decide +kernel) (pa_cons (pv 0) (pa_cons (pe_bltn (v := .ty "list") (u := .type "list") (by rfl) T.z_list (by decide +kernel) rfl) pa_nil)))
          (pe_callB call_isi (by rfl) T.z_isinstance (by decide +kernel) (pa_cons (pv 1) (pa_cons (pe_bltn (v := .ty "list") (u := .type "list") (by rfl) T.z_list (by decide +kernel) rfl) pa_nil))) (nomark _))
          (pw_or1 (pt_cmpR op_ne (pe_callB call_len_seq (by rfl) T.z_len PySem.boot_len (pa_cons (pv 0) pa_nil)) (pe_callB call_len_seq (by rfl) T.z_len PySem.boot_len (pa_cons (pv 1) pa_nil)) (nomark _))))) (pss_one (ps_ret pe_bl)) pss_nil)
        (pss_one (ps_ret (pe_cmpR (op_eqD hr.units) (pe_lc (own := [("_law_k", 2)]) rfl nd (pi_range1 (by rfl) T.z_range (pa_cons (pe_callB call_len_seq (by rfl) T.z_len PySem.boot_len (pa_cons (pv 1) pa_nil)) pa_nil)) (blkOk_by (N := N_llike) (sc := defScope s_llike) (by decide +kernel))
          (fun _ _ _ _ _ => pg_name (i := 2) nd rfl (.inl rfl))
          (fun _ _ _ _ _ => pts_one (pt_not (pt_val (pe_call (IH) hr (by rfl) T.g_llike T.F_llike.kp T.b_llike .nil pass0 (pa_cons (pe_ix (r := rIxL K) ix_list (pv 0) (pv 2) (fun _ _ => rfl)) (pa_cons (pe_ix (r := rIxL K) ix_list (pv 1) (pv 2) (fun _ _ => rfl)) pa_nil))))))
          (fun _ _ _ _ _ => pv 2)) (pe_lst pa_nil) (nomark _)))))) pss_nil) pss_never, ?_⟩
    refine ⟨_, rfl, .ref g, .ty "tuple", .type "list", .type "tuple", false, rfl, .ty _, .base (.lst hg), kit_ty (by decide +kernel), _, rfl, iteF ?_⟩
    refine ⟨_, rfl, .ref g, .ty "list", .type "list", .type "list", true, rfl, .ty _, .base (.lst hg), kit_ty (by decide +kernel), _, rfl, iteT ?_⟩
    refine ⟨_, rfl, .ref f, .ty "tuple", .type "list", .type "tuple", false, rfl, .ty _, .base (.lst hf), kit_ty (by decide +kernel), _, rfl, .ref g, .ty "tuple", .type "list", .type "tuple", false, rfl, .ty _, .base (.lst hg), kit_ty (by decide +kernel), rfl, _, rfl, iteNS rfl ?_⟩
    refine ⟨_, rfl, .ref f, .ty "list", .type "list", .type "list", true, rfl, .ty _, .base (.lst hf), kit_ty (by decide +kernel), _, rfl, .ref g, .ty "list", .type "list", .type "list", true, rfl, .ty _, .base (.lst hg), kit_ty (by decide +kernel), rfl, _, rfl, iteNS rfl ?_⟩
    refine ⟨_, rfl, f, _, rfl, .inl (.of hf), _, rfl, g, _, rfl, .inl (.of hg), rfl, _, rfl, iteNS (by rw [hl]) ?_⟩
    refine ⟨_, rfl, g, _, rfl, .inl (.of hg), _, rfl, by omega, by omega, fun D hD => lc_range (lo := 0) (n := (((ys.length : Nat) : Int)).toNat) (fun i H' => H' D = some (.lst []) ∧ Same H H') ⟨upd_same, same_upd hD⟩ ?_ ?_⟩
    · rintro i H1 hi ⟨h1, s1⟩
      have hi' : i < xs.length := by omega
      have hi2 : i < ys.length := by omega
      refine ⟨rfl, ?_⟩
      refine ⟨_, rfl, _, rfl, f, _, _, _, rfl, rfl, .of (s1 _ _ hf), at_of (j := i) (by omega) (List.getElem?_eq_getElem hi'), _, rfl, _, rfl, g, _, _, _, rfl, rfl, .of (s1 _ _ hg), at_of (j := i) (by omega) (List.getElem?_eq_getElem hi2), _, _, rfl, (ht i _ _ (List.getElem?_eq_getElem hi') (List.getElem?_eq_getElem hi2)).same s1, fun H2 s2 => ⟨_, rfl, ?_⟩⟩
      exact iteF ⟨s2 _ _ h1, s1.trans s2⟩
    · rintro H1 ⟨h1, s1⟩
      refine ⟨Nat.zero_le _, fun e he => ?_⟩
      have s2 := same_upd (o := .lst []) he
      exact ⟨.list [], .list [], .lst (.of (s2 _ _ h1)) .nil, .lst (.of upd_same) .nil, rfl, rfl, q _ (s1.trans s2)⟩
theorem ok_likeD (T : Tx K mg) : ∀ n : Nat, FnOk P w K mg base CX0 (n + 1) T.a_llike T.d_llike P_llike (spLikeD n)
  | 0 => ok_like0 T
  | n + 1 => by
    have IH := ok_likeD T n
    have h0 := IH.mono (show n + 1 ≤ n + 2 by omega)
    have hT := ok_likeS T IH
    have hL := ok_likeSL T IH
    refine ⟨fun vs H Q E h => ?_, fun A outer s H args us vs Q E hr e b r h => ?_⟩
    · obtain ⟨v, y, rfl, _⟩ := h
      rfl
    · obtain ⟨v, y, rfl, hv, q⟩ := h
      rcases hv with hv | ⟨f, g, xs, ys, rfl, rfl, ho | ho, hl, h1, ht⟩
      · exact h0.run A outer s H args us _ Q E hr e b r ⟨v, y, rfl, hv, q⟩
      · exact hT.run A outer s H args us _ Q E hr e b r ⟨f, g, xs, ys, rfl, ho, hl, h1, ht, q⟩
      · exact hL.run A outer s H args us _ Q E hr e b r ⟨f, g, xs, ys, rfl, ho, hl, h1, ht, q⟩
end
end Rp
namespace Rp
open PySem PySem.Spec PyProof.Rows L2 Rz Rm
/-- tuples of ints at addresses -/
def Tups (H : Hp) : List V → List (List Int) → Prop := Paired fun v l => ∃ t, v = V.ref t ∧ H t = some (.tup (l.map V.int))
theorem Tups.snoc {H : Hp} {v : V} {l : List Int} (h2 : ∃ t, v = V.ref t ∧ H t = some (.tup (l.map V.int))) : ∀ {xs : List V} {ls : List (List Int)}, Tups H xs ls → Tups H (xs ++ [v]) (ls ++ [l])
  | _, _, .nil => .cons h2 .nil
  | _, _, .cons r t => .cons r (Tups.snoc h2 t)
theorem Tups.mono {H H' : Hp} (k : ∀ b xs, H b = some (.tup xs) → H' b = some (.tup xs)) : ∀ {xs : List V} {ls : List (List Int)}, Tups H xs ls → Tups H' xs ls
  | _, _, .nil => .nil
  | _, _, .cons ⟨t, e, h⟩ r => .cons ⟨t, e, k _ _ h⟩ (Tups.mono k r)
theorem Tups.length {H : Hp} {xs : List V} {ls : List (List Int)} (h : Tups H xs ls) : xs.length = ls.length := Paired.length h
theorem Tups.get {H : Hp} : ∀ {xs : List V} {ls : List (List Int)} {i : Nat} {l : List Int}, Tups H xs ls → ls[i]? = some l → ∃ t, xs[i]? = some (.ref t) ∧ H t = some (.tup (l.map V.int))
  | _, _, i, l, .nil, h => by simp at h
  | _, _, 0, l, .cons ⟨t, e, h2⟩ r, h => by
    simp at h
    subst h
    exact ⟨t, by rw [e]; rfl, h2⟩
  | _, _, i + 1, l, .cons _ r, h => by
    obtain ⟨t, h1, h2⟩ := Tups.get (i := i) (l := l) r (by simpa using h)
    exact ⟨t, by simpa using h1, h2⟩
/-- as data, for == -/
theorem dp_is {K : PySem.W.Frag} {H : Hp} : ∀ l : List Int, DpAll K H (l.map V.int) (l.map PyData.int)
  | [] => .nil
  | x :: r => .cons (.int x) (dp_is r)
theorem Tups.data {K : PySem.W.Frag} {H : Hp} : ∀ {xs : List V} {ls : List (List Int)}, Tups H xs ls → DpAll K H xs (ls.map fun l => PyData.tuple (l.map PyData.int))
  | _, _, .nil => .nil
  | _, _, .cons ⟨t, e, h⟩ r => .cons (by subst e; exact .tup (.of h) (dp_is _)) (Tups.data r)
theorem lay_tups : ∀ ls : List (List Int), PyData.canLayAll0 (ls.map fun l => PyData.tuple (l.map PyData.int)) = true ∧ PyData.depthAll (ls.map fun l => PyData.tuple (l.map PyData.int)) ≤ 1
  | [] => ⟨rfl, Nat.zero_le _⟩
  | l :: r => by
    obtain ⟨h1, h2⟩ := lay_tups r
    constructor
    · simp [PyData.canLayAll0, PyData.canLay0, PySem.W.ke_canLayAll0 l, h1]
    · simp only [List.map_cons, PyData.depthAll, PyData.depth, PySem.W.ke_depthAll l]
      omega
theorem shaped_tups (ls : List (List Int)) : SeqAt.shaped (.list (ls.map fun l => PyData.tuple (l.map PyData.int))) = true := by
  obtain ⟨h1, h2⟩ := lay_tups ls
  simp only [SeqAt.shaped, PyData.canLay0, PyData.depth, h1, Bool.true_and]
  exact decide_eq_true (by omega)
theorem tup_kp {K : PySem.W.Frag} {H H' : Hp} {t row a : Addr} {xs : List V} {ns : List Int} (ht : H t = some (.tup xs)) (RA : RowAt K H row a ns) (k : Kp row H H') : H' t = some (.tup xs) := by
  obtain ⟨i, m, q, h, _⟩ := RA.ob
  exact k _ _ ht (ne_of ht h (by intro z; cases z))
theorem up {N : Nat} {d s : Int → Int} {B T M : Int} (R : Rm.Ring N d s B T M) (r : Int) {x : Int} (hx : 0 ≤ x) : Rm.E d s r x ≤ (x + 1) * T + x * M := by
  obtain ⟨k, hk, e⟩ := R.att r hx
  have hN := R.pos
  have hB := R.b1
  have hT := R.T0
  have ek : k = k % N + k / N * N := by
    have := Nat.mod_add_div k N
    rw [Nat.mul_comm] at this
    exact this.symm
  have hj := Nat.mod_lt k hN
  have hS := R.sumS r (k % N) (k / N)
  have hD := R.sumD r (k % N + 1) (k / N)
  rw [← ek] at hS
  rw [show k % N + 1 + k / N * N = k + 1 by omega] at hD
  have hm : ((k / N : Nat) : Int) ≤ x := by
    have h1 := sum_nn R.s0 r (k % N)
    have h2 : ((k / N : Nat) : Int) * 1 ≤ ((k / N : Nat) : Int) * B := Int.mul_le_mul_of_nonneg_left hB (Int.natCast_nonneg _)
    omega
  have hd0 : sumBack d r (k % N + 1) ≤ T := by
    have := sum_mono (f := d) (fun i => by have := R.d1 i; omega) r (show k % N + 1 ≤ N by omega)
    rw [R.t] at this
    exact this
  have h3 : ((k / N : Nat) : Int) * T ≤ x * T := Int.mul_le_mul_of_nonneg_right hm hT
  have h4 := max_le R.mu r k
  have h40 : 0 ≤ maxBack d r k := by
    have h1 := max_ge (f := d) r (j := 0) (k := k) (Nat.zero_le _)
    have h2 := R.d1 (r - (0 : Nat))
    omega
  have h5 : (x - sumBack s r k) * maxBack d r k ≤ x * M := by
    have a1 : (x - sumBack s r k) * maxBack d r k ≤ x * maxBack d r k := Int.mul_le_mul_of_nonneg_right (by have := sum_nn R.s0 r k; omega) h40
    have a2 : x * maxBack d r k ≤ x * M := Int.mul_le_mul_of_nonneg_left h4 hx
    omega
  unfold ch at e
  rw [Int.add_mul]
  omega
theorem and_go {c : Bool} {u : TT} {σ : L2.St} {H : Hp} {F : Bool → Hp → Prop} (G : Hp → Prop) (next : ∀ H9, G H9 → F false H9) (hH : G H) (h1 : c = true → (∀ H9, G H9 → F false H9) → u σ H F) : if c = true then u σ H F else F false H := by
  cases c with
  | true => exact iteT (h1 rfl next)
  | false => exact iteF (next H hH)
theorem dp_ints {K : PySem.W.Frag} {H : Hp} : ∀ l : List Int, DpAll K H (l.map V.int) (l.map PyData.int)
  | [] => .nil
  | x :: r => .cons (.int x) (dp_ints r)
theorem Tups.rev {H : Hp} : ∀ {xs : List V} {ls : List (List Int)}, Tups H xs ls → Tups H xs.reverse ls.reverse
  | _, _, .nil => .nil
  | _, _, .cons r t => by
    rw [List.reverse_cons, List.reverse_cons]
    exact Tups.snoc r (Tups.rev t)
theorem Tups.drop {H : Hp} : ∀ {xs : List V} {ls : List (List Int)} (k : Nat), Tups H xs ls → Tups H (xs.drop k) (ls.drop k)
  | _, _, 0, h => h
  | _, _, k + 1, .nil => .nil
  | _, _, k + 1, .cons _ t => Tups.drop k t
theorem Tups.same {H H' : Hp} (s : Same H H') {xs : List V} {ls : List (List Int)} (h : Tups H xs ls) : Tups H' xs ls := h.mono fun b xs e => s _ _ e
/-- two tuples of ints are compared -/
theorem eqv_tup (as bs : List Int) : PyData.eqv (.tuple (as.map PyData.int)) (.tuple (bs.map PyData.int)) = decide (as = bs) := PySem.W.ked_eqvAll _ _
theorem eqv_lst (as bs : List Int) : PyData.eqv (.list (as.map PyData.int)) (.list (bs.map PyData.int)) = decide (as = bs) := PySem.W.ked_eqvAll _ _
theorem shaped_tup (as : List Int) : SeqAt.shaped (.tuple (as.map PyData.int)) = true := by
  simp only [SeqAt.shaped, PyData.canLay0, PyData.depth, PySem.W.ke_canLayAll0 as, PySem.W.ke_depthAll as, Bool.true_and]
  exact decide_eq_true (by omega)
theorem shaped_lst (as : List Int) : SeqAt.shaped (.list (as.map PyData.int)) = true := by
  simp only [SeqAt.shaped, PyData.canLay0, PyData.depth, PySem.W.ke_canLayAll0 as, PySem.W.ke_depthAll as, Bool.true_and]
  exact decide_eq_true (by omega)
section
variable {K : PySem.W.Frag} {H : Hp} {a b : Addr} {as bs : List Int} {Q : VK}
theorem tup_eq (ha : H a = some (.tup (as.map V.int))) (hb : H b = some (.tup (bs.map V.int))) (q : Q (.bl (decide (as = bs))) H) : rEqD K (.ref a) (.ref b) H Q :=
  ⟨_, _, .tup (.of ha) (dp_is as), .tup (.of hb) (dp_is bs), shaped_tup as, shaped_tup bs, by rw [eqv_tup]; exact q⟩
theorem tup_ne (ha : H a = some (.tup (as.map V.int))) (hb : H b = some (.tup (bs.map V.int))) (q : Q (.bl (!decide (as = bs))) H) : rNeD K (.ref a) (.ref b) H Q :=
  ⟨_, _, .tup (.of ha) (dp_is as), .tup (.of hb) (dp_is bs), shaped_tup as, shaped_tup bs, by rw [eqv_tup]; exact q⟩
theorem lst_ne (ha : SqL K H a (as.map V.int)) (hb : SqL K H b (bs.map V.int)) (q : Q (.bl (!decide (as = bs))) H) : rNeD K (.ref a) (.ref b) H Q :=
  ⟨_, _, .lst ha (dp_is as), .lst hb (dp_is bs), shaped_lst as, shaped_lst bs, by rw [eqv_lst]; exact q⟩
theorem lst_eq (ha : SqL K H a (as.map V.int)) (hb : SqL K H b (bs.map V.int)) (q : Q (.bl (decide (as = bs))) H) : rEqD K (.ref a) (.ref b) H Q :=
  ⟨_, _, .lst ha (dp_is as), .lst hb (dp_is bs), shaped_lst as, shaped_lst bs, by rw [eqv_lst]; exact q⟩
end
end Rp
namespace Rp
open PySem PySem.Spec PyProof.Rows L2 Rz Rm
section
variable {P : Program} {w : World} {K : PySem.W.Frag} {mg : Str → Option Value} {base : Heap}
/-! ### the dice -/
def spDice (K : PySem.W.Frag) : Sp := fun vs H Q _ => ∃ (a : Addr) (ns : List Int), vs = [.ref a] ∧ SqL K H a (ns.map V.int) ∧ ∀ H' row, RowAt K H' row a ns → Same H H' → Q (.ref row) H'
theorem ok_dice (T : Tx K mg) : FnOk P w K mg base CX0 1 T.a_ldice T.d_ldice P_ldice (spDice K) := by
  refine T.F_ldice.ok sc_ldice (fun vs H Q E h => ?_) (fun cdv A outer s H vs Q E hr h => ?_)
  · obtain ⟨a, ns, rfl, _⟩ := h
    rfl
  · obtain ⟨a, ns, rfl, hS, q⟩ := h
    have nd := sc_ldice.nd
    refine ⟨_, pss_cons (ps_set (i := 1) nd rfl (.inl rfl) pe_int)
      (pss_cons (ps_for PassesOwn.never rfl (pi_list (pv 0)) (pg_name (i := 2) nd rfl (.inl rfl))
        (pss_one (ps_set (i := 1) nd rfl (.inl rfl) (pe_op op_mod (pe_callTy call_int1 (by rfl) T.z_int (by decide +kernel) (pa_cons (pe_op op_add (pe_op op_add (pe_op op_mul (pv 1) pe_int)
          (pe_op op_mul (pe_op op_mod (pe_callTy call_int1 (by rfl) T.z_int (by decide +kernel) (pa_cons (pv 2) pa_nil)) pe_int) pe_int)) pe_int) pa_nil)) pe_int))))
      (pss_one (ps_ret (pe_lst (pa_cons (pv 0) (pa_cons pe_int (pa_cons (pe_op op_mul (pv 1) (pe_callTy call_int1 (by rfl) T.z_int (by decide +kernel) (pa_cons (pe_cmpR op_gt (pe_callB call_len_seq (by rfl) T.z_len PySem.boot_len (pa_cons (pv 0) pa_nil)) pe_int (nomark _)) pa_nil))) (pa_cons pe_int pa_nil)))))))), ?_⟩
    refine ⟨_, rfl, a, rfl, ⟨_, hS⟩, for_list (K := K) (a := a) (xs := ns.map V.int) (fun i σ H' => H' = H ∧ ∃ m y2, σ = [some (.ref a), some (.int m), y2]) ⟨rfl, 0, none, rfl⟩ (fun i σ H' _ ⟨e, _⟩ => by rw [e]; exact hS) ?_ ?_⟩
    · rintro i y σ H1 hi ⟨rfl, m, y2, rfl⟩
      obtain ⟨z, _, rfl⟩ := get_int hi
      refine ⟨_, rfl, _, _, rfl, rfl, .inr ⟨by decide, by decide⟩, _, rfl, .inl ⟨_, rfl, _, _, rfl, rfl, (by show (0 : Int) < 2147483647; decide), _, _, rfl, rfl, .inr ⟨by decide, by decide⟩, _, _, rfl, rfl, _, _, rfl, rfl, .inl ⟨_, rfl, _, _, rfl, rfl, (by show (0 : Int) < 2147483647; decide), ?_⟩⟩⟩
      exact ⟨rfl, _, _, rfl⟩
    · rintro σ H1 ⟨rfl, m, y2, rfl⟩
      refine ⟨_, rfl, _, rfl, _, rfl, a, _, rfl, .inl hS, _, _, rfl, rfl, .inr ⟨_, rfl, _, _, rfl, rfl, .inr (by split <;> exact ⟨by decide, by decide⟩), (by show 4 ≤ sizeLine; decide), fun row hrow => ?_⟩⟩
      exact q _ row ⟨⟨_, _, _, upd_same, Int.le_refl _⟩, (same_upd hrow).seq hS, far_of hS hrow⟩ (same_upd hrow)
def spNext (K : PySem.W.Frag) : Sp := fun vs H Q _ => ∃ (row a : Addr) (ns : List Int) (many : Int), vs = [.ref row, .int many] ∧ RowAt K H row a ns ∧ 1 ≤ many ∧ many < 1073741824 ∧
  ∀ v H', 0 ≤ v → v < many → RowAt K H' row a ns → Kp row H H' → Q (.int v) H'
theorem ok_next (T : Tx K mg) : FnOk P w K mg base CX0 1 T.a_lnext T.d_lnext P_lnext (spNext K) := by
  refine T.F_lnext.ok sc_lnext (fun vs H Q E h => ?_) (fun cdv A outer s H vs Q E hr h => ?_)
  · obtain ⟨row, a, ns, many, rfl, _⟩ := h
    rfl
  · obtain ⟨row, a, ns, many, rfl, RA, m1, m2, q⟩ := h
    obtain ⟨i, m, c, hrow, i0⟩ := RA.ob
    have nd := sc_lnext.nd
    refine ⟨_, pss_cons (ps_if (pt_cmpR op_gt (pe_ix ix_list (pv 0) pe_int (fun _ _ => rfl)) pe_int (nomark _))
        (pss_cons (ps_set (i := 2) nd rfl (.inl rfl) (pe_op op_mod (pe_callTy call_int1 (by rfl) T.z_int (by decide +kernel) (pa_cons (pe_ix ix_list (pv 0) pe_int (fun _ _ => rfl)) pa_nil)) (pv 1)))
        (pss_cons (ps_asg (pe_op op_fdiv (pe_ix ix_list (pv 0) pe_int (fun _ _ => rfl)) (pv 1)) (pg_sub (pv 0) pe_int set_list))
        (pss_one (ps_ret (pv 2))))) pss_nil)
      (pss_cons (ps_asg (pe_op op_add (pe_ix ix_list (pv 0) pe_int (fun _ _ => rfl)) pe_int) (pg_sub (pv 0) pe_int set_list))
      (pss_cons (ps_if (pt_cmpR op_le (pe_ix ix_list (pv 0) pe_int (fun _ _ => rfl)) (pe_callB call_len_seq (by rfl) T.z_len PySem.boot_len (pa_cons (pe_ix ix_list (pv 0) pe_int (fun _ _ => rfl)) pa_nil)) (nomark _))
        (pss_cons (ps_set (i := 3) nd rfl (.inl rfl) (pe_ix ix_list (pe_ix ix_list (pv 0) pe_int (fun _ _ => rfl)) (pe_op op_sub (pe_ix ix_list (pv 0) pe_int (fun _ _ => rfl)) pe_int) (fun _ _ => rfl)))
        (pss_cons (ps_asg (pe_ifExp (pt_cmpR op_ge (pv 3) (pe_op op_pow pe_int pe_int) (nomark _)) (pe_op op_fdiv (pv 3) (pv 1)) pe_int) (pg_sub (pv 0) pe_int set_list))
        (pss_one (ps_ret (pe_op op_mod (pe_callTy call_int1 (by rfl) T.z_int (by decide +kernel) (pa_cons (pv 3) pa_nil)) (pv 1)))))) pss_nil)
      (pss_cons (ps_asg (pe_op op_mod (pe_callTy call_int1 (by rfl) T.z_int (by decide +kernel) (pa_cons (pe_op op_mul (pe_ix ix_list (pv 0) pe_int (fun _ _ => rfl)) pe_int) pa_nil)) pe_int) (pg_sub (pv 0) pe_int set_list))
      (pss_one (ps_ret (pe_op op_mod (pe_callTy call_int1 (by rfl) T.z_int (by decide +kernel) (pa_cons (pe_op op_fdiv (pe_ix ix_list (pv 0) pe_int (fun _ _ => rfl)) pe_int) pa_nil)) (pv 1))))))), ?_⟩
    have mod0 : ∀ z : Int, 0 ≤ z % many := fun z => Int.emod_nonneg _ (by omega)
    have mod1 : ∀ z : Int, z % many < many := fun z => Int.emod_lt_of_pos _ (by omega)
    refine ⟨_, rfl, row, _, 3, _, rfl, rfl, .of hrow, atI_nat (j := 3) rfl, _, _, rfl, rfl, _, rfl, ?_⟩
    by_cases hc : 0 < c
    · rw [decide_eq_true hc]
      refine iteT ?_
      refine ⟨_, rfl, row, _, 3, _, rfl, rfl, .of hrow, atI_nat (j := 3) rfl, .inl ⟨_, rfl, _, rfl, _, _, rfl, rfl, by show (0 : Int) < many; omega, ?_⟩⟩
      refine ⟨_, rfl, row, _, 3, _, rfl, rfl, .of hrow, atI_nat (j := 3) rfl, _, rfl, _, _, rfl, rfl, ⟨by omega, by omega⟩, ?_⟩
      refine ⟨_, rfl, row, _, 3, 3, rfl, rfl, hrow, rfl, ?_⟩
      exact ⟨_, rfl, q _ _ (mod0 c) (mod1 c) (RA.put i0) kp_upd⟩
    · rw [decide_eq_false hc]
      refine iteF ?_
      refine ⟨_, rfl, row, _, 1, _, rfl, rfl, .of hrow, atI_nat (j := 1) rfl, _, _, rfl, rfl, ?_⟩
      refine ⟨_, rfl, row, _, 1, 1, rfl, rfl, hrow, rfl, ?_⟩
      have RA1 : RowAt K (upd H row (.lst [.ref a, .int (i + 1), .int m, .int c])) row a ns := RA.put (by omega)
      have hrow1 : (upd H row (.lst [.ref a, .int (i + 1), .int m, .int c])) row = some (.lst [.ref a, .int (i + 1), .int m, .int c]) := upd_same
      have kp1 : Kp row H (upd H row (.lst [.ref a, .int (i + 1), .int m, .int c])) := kp_upd
      show tSeq _ _ _ _ (upd H row (.lst [.ref a, .int (i + 1), .int m, .int c]))
      generalize (upd H row (.lst [.ref a, .int (i + 1), .int m, .int c])) = H1 at RA1 hrow1 kp1
      refine ⟨_, rfl, row, _, 1, _, rfl, rfl, .of hrow1, atI_nat (j := 1) rfl, _, rfl, row, _, 0, _, rfl, rfl, .of hrow1, atI_nat (j := 0) rfl, a, _, rfl, .inl RA1.sc, _, _, rfl, rfl, _, rfl, ?_⟩
      rw [List.length_map]
      by_cases hl : i + 1 ≤ (ns.length : Int)
      · rw [decide_eq_true hl]
        refine iteT ?_
        have hi : i.toNat < ns.length := by omega
        have hg : atI (ns.map V.int) (i + 1 - 1) = some (.int ns[i.toNat]) := by
          refine at_of (j := i.toNat) (by omega) ?_
          rw [List.getElem?_map, List.getElem?_eq_getElem hi]
          rfl
        refine ⟨_, rfl, row, _, 0, _, rfl, rfl, .of hrow1, atI_nat (j := 0) rfl, _, rfl, row, _, 1, _, rfl, rfl, .of hrow1, atI_nat (j := 1) rfl, _, _, rfl, rfl, a, _, _, _, rfl, rfl, RA1.sc, hg, ?_⟩
        generalize ns[i.toNat] = cell
        refine ⟨_, rfl, _, _, rfl, rfl, ⟨by decide, by decide, by decide⟩, _, _, rfl, rfl, _, rfl, ?_⟩
        refine ite2 (fun _ => ?_) (fun _ => ?_)
        · refine ⟨_, rfl, _, rfl, _, _, rfl, rfl, ⟨by omega, by omega⟩, ?_⟩
          refine ⟨_, rfl, row, _, 3, 3, rfl, rfl, hrow1, rfl, ?_⟩
          refine ⟨_, rfl, .inl ⟨_, rfl, _, rfl, _, _, rfl, rfl, by show (0 : Int) < many; omega, ?_⟩⟩
          exact q _ _ (mod0 _) (mod1 _) (RA1.put (by omega)) (kp1.trans kp_upd)
        · refine ⟨_, rfl, row, _, 3, 3, rfl, rfl, hrow1, rfl, ?_⟩
          refine ⟨_, rfl, .inl ⟨_, rfl, _, rfl, _, _, rfl, rfl, by show (0 : Int) < many; omega, ?_⟩⟩
          exact q _ _ (mod0 _) (mod1 _) (RA1.put (by omega)) (kp1.trans kp_upd)
      · rw [decide_eq_false hl]
        refine iteF ?_
        refine ⟨_, rfl, row, _, 2, _, rfl, rfl, .of hrow1, atI_nat (j := 2) rfl, _, _, rfl, rfl, .inr ⟨by decide, by decide⟩, .inl ⟨_, rfl, _, _, rfl, rfl, (by show (0 : Int) < 2147483647; decide), ?_⟩⟩
        refine ⟨_, rfl, row, _, 2, 2, rfl, rfl, hrow1, rfl, ?_⟩
        refine ⟨_, rfl, row, _, 2, _, rfl, rfl, .of upd_same, atI_nat (j := 2) rfl, _, _, rfl, rfl, ⟨by decide, by decide⟩, .inl ⟨_, rfl, _, rfl, _, _, rfl, rfl, by show (0 : Int) < many; omega, ?_⟩⟩
        exact q _ _ (mod0 _) (mod1 _) (RA1.put (by omega)) (kp1.trans kp_upd)
end
theorem sum_le_len : ∀ {l : List Int}, (∀ y ∈ l, y ≤ 1) → l.sum ≤ l.length
  | [], _ => by simp
  | a :: r, h => by
    have h1 := h a List.mem_cons_self
    have ih := sum_le_len (l := r) fun y hy => h y (List.mem_cons_of_mem _ hy)
    rw [List.sum_cons, List.length_cons]
    omega
section
variable {P : Program} {w : World} {K : PySem.W.Frag} {mg : Str → Option Value} {base : Heap}
def Acc (K : PySem.W.Frag) (H0 : Hp) (row a D : Addr) (ns : List Int) (lo hi : Int) (i : Nat) (H : Hp) : Prop :=
  ∃ acc : List Int, acc.length = i ∧ (∀ y ∈ acc, lo ≤ y ∧ y ≤ hi) ∧ H D = some (.lst (acc.map V.int)) ∧ RowAt K H row a ns ∧ Kp row H0 H
theorem acc_next {H0 H H' : Hp} {row a D : Addr} {ns : List Int} {lo hi v : Int} {i : Nat} (hD : H0 D = none) (nD : D ≠ row) (f : D ≠ a ∨ Wr K a (ns.map V.int)) {acc : List Int} (hlen : acc.length = i) (hall : ∀ y ∈ acc, lo ≤ y ∧ y ≤ hi)
    (hacc : H D = some (.lst (acc.map V.int))) (k : Kp row H0 H) (RA : RowAt K H' row a ns) (k' : Kp row H H') (v0 : lo ≤ v) (v1 : v ≤ hi) : Acc K H0 row a D ns lo hi (i + 1) (upd H' D (.lst (acc.map V.int ++ [V.int v]))) := by
  refine ⟨acc ++ [v], by rw [List.length_append, hlen]; rfl, fun y hy => ?_, by rw [upd_same, map_snoc], RA.upd' nD f, kp_new (k.trans k') hD⟩
  rcases List.mem_append.mp hy with z | z
  · exact hall y z
  · have := List.mem_singleton.mp z
    omega
/-- two new tuples that make a ring -/
def spRing (K : PySem.W.Frag) : Sp := fun vs H Q _ => ∃ (row a : Addr) (ns : List Int) (size most : Int), vs = [.ref row, .int size, .int most] ∧ RowAt K H row a ns ∧ 2 ≤ size ∧ size ≤ 8 ∧ 1 ≤ most ∧ most ≤ 30 ∧
  ∀ H' t td ts ds ss, Good ds ss → RowAt K H' row a ns → Kp row H H' → H' t = some (.tup [.ref td, .ref ts]) → Tf H' td (ds.map V.int) → Tf H' ts (ss.map V.int) → Q (.ref t) H'
theorem ok_ring (T : Tx K mg) : FnOk P w K mg base CX0 2 T.a_lring T.d_lring P_lring (spRing K) := by
  refine T.F_lring.ok sc_lring (fun vs H Q E h => ?_) (fun cdv A outer s H vs Q E hr h => ?_)
  · obtain ⟨row, a, ns, size, most, rfl, _⟩ := h
    rfl
  · obtain ⟨row, a, ns, size, most, rfl, RA, z2, z8, m1, m30, q⟩ := h
    have nd := sc_lring.nd
    refine ⟨_, pss_cons (ps_set (i := 3) nd rfl (.inl rfl) (pe_op op_add pe_int (pe_call (ok_next T) hr (by rfl) T.g_lnext T.F_lnext.kp T.b_lnext .nil pass0 (pa_cons (pv 0) (pa_cons (pe_op op_sub (pv 1) pe_int) pa_nil)))))
      (pss_cons (ps_setLc (i := 4) (own := [("_law_k", 6)]) rfl nd rfl rfl (sw_true rfl rfl rfl (by decide +kernel)) (pi_range1 (by rfl) T.z_range (pa_cons (pv 3) pa_nil)) (blkOk_by (N := N_lring) (sc := defScope s_lring) (by decide +kernel))
        (fun _ _ _ _ _ => pg_name (i := 6) nd rfl (.inl rfl)) (fun _ _ _ _ _ => pts_nil)
        (fun _ _ _ _ _ => pe_op op_add pe_int (pe_call (ok_next T) hr (by rfl) T.g_lnext T.F_lnext.kp T.b_lnext .nil pass0 (pa_cons (pv 0) (pa_cons (pv 2) pa_nil)))))
      (pss_cons (ps_setLc (i := 5) (own := [("_law_k", 6)]) rfl nd rfl rfl (sw_true rfl rfl rfl (by decide +kernel)) (pi_range1 (by rfl) T.z_range (pa_cons (pv 3) pa_nil)) (blkOk_by (N := N_lring) (sc := defScope s_lring) (by decide +kernel))
        (fun _ _ _ _ _ => pg_name (i := 6) nd rfl (.inl rfl)) (fun _ _ _ _ _ => pts_nil)
        (fun _ _ _ _ _ => pe_call (ok_next T) hr (by rfl) T.g_lnext T.F_lnext.kp T.b_lnext .nil pass0 (pa_cons (pv 0) (pa_cons (pe_ix (r := rIxL K) ix_list (pe_lst (pa_cons pe_int (pa_cons pe_int pa_nil))) (pe_call (ok_next T) hr (by rfl) T.g_lnext T.F_lnext.kp T.b_lnext .nil pass0 (pa_cons (pv 0) (pa_cons pe_int pa_nil))) (fun _ _ => rfl)) pa_nil))))
      (pss_cons (ps_set (i := 6) nd rfl (.inl rfl) (pe_call (ok_next T) hr (by rfl) T.g_lnext T.F_lnext.kp T.b_lnext .nil pass0 (pa_cons (pv 0) (pa_cons (pv 3) pa_nil))))
      (pss_cons (ps_asg (pe_callB (call_max2 rfl) (by rfl) T.z_max (by decide +kernel) (pa_cons pe_int (pa_cons (pe_ix ix_list (pv 5) (pv 6) (fun _ _ => rfl)) pa_nil))) (pg_sub (pv 5) (pv 6) set_list))
      (pss_cons (ps_while PassesOwn.never (pt_cmpR op_gt (pe_callB (cr_sum rfl) (by rfl) T.z_sum (by decide +kernel) (pa_cons (pv 5) pa_nil)) pe_int (nomark _))
        (pss_one (ps_asg pe_int
          (pg_sub (pv 5) (pe_bm PySem.F.plainAttrs_list PySem.F.slot_list_index PySem.F.type_list_index mt_index (pv 5) (pa_cons (pe_callB (cr_max rfl) (by rfl) T.z_max (by decide +kernel) (pa_cons (pv 5) pa_nil)) pa_nil)) set_list))))
      (pss_one (ps_ret (pe_tup (pa_cons (pe_callTy call_tuple_frz (by rfl) T.z_tuple (by decide +kernel) (pa_cons (pv 4) pa_nil)) (pa_cons (pe_callTy call_tuple_frz (by rfl) T.z_tuple (by decide +kernel) (pa_cons (pv 5) pa_nil)) pa_nil)))))))))), ?_⟩
    -- count
    refine ⟨_, rfl, _, rfl, _, _, rfl, rfl, row, a, ns, _, rfl, RA, by omega, by omega, fun v1 H3 v10 v11 RA3 k3 => ⟨_, _, rfl, rfl, ?_⟩⟩
    -- days
    refine ⟨_, rfl, _, rfl, by omega, by omega, fun D hD => lc_range (lo := 0) (n := (2 + v1).toNat) (Acc K H3 row a D ns 1 30) ?_ ?_ ?_⟩
    · exact ⟨[], rfl, fun y hy => absurd hy (by simp), upd_same, RA3.same (same_upd hD), Same.kp (same_upd hD)⟩
    · rintro i H4 hi ⟨acc, hlen, hall, hacc, RA4, k4⟩
      have nD := RA3.nn hD
      refine ⟨rfl, lc_keep ?_⟩
      refine ⟨_, rfl, _, rfl, row, a, ns, _, rfl, RA4, m1, by omega, fun v H5 v0 v1' RA5 k5 => ?_⟩
      exact ⟨_, _, rfl, rfl, acc.map V.int, k5 _ _ hacc nD, by rw [List.length_map]; exact small1000 (by omega), acc_next hD nD (far_of RA3.sc hD) hlen hall hacc k4 RA5 k5 (by omega) (by omega)⟩
    rintro H4 ⟨ds, dlen, dall, hds, RA4, k4⟩
    have nD := RA3.nn hD
    have k04 := k3.trans k4
    -- starts
    refine ⟨_, rfl, _, rfl, by omega, by omega, fun D2 hD2 => lc_range (lo := 0) (n := (2 + v1).toNat) (Acc K H4 row a D2 ns 0 3) ?_ ?_ ?_⟩
    · exact ⟨[], rfl, fun y hy => absurd hy (by simp), upd_same, RA4.same (same_upd hD2), Same.kp (same_upd hD2)⟩
    · rintro i H5 hi ⟨acc, hlen, hall, hacc, RA5, k5⟩
      have nD2 := RA4.nn hD2
      refine ⟨rfl, lc_keep ?_⟩
      refine ⟨_, rfl, (by show 2 ≤ sizeLine; decide), fun l3 hl3 => ?_⟩
      have s1 := same_upd (o := .lst [.int 2, .int 4]) hl3
      have nl3 := RA5.nn hl3
      refine ⟨_, rfl, row, a, ns, _, rfl, RA5.same s1, by decide, by decide, fun v2 H6 v20 v21 RA6 k6 => ?_⟩
      have hl3' : H6 l3 = some (.lst [.int 2, .int 4]) := k6 _ _ upd_same nl3
      have k56 : Kp row H5 H6 := (Same.kp s1).trans k6
      obtain ⟨far, hfar, f1, f4⟩ : ∃ far : Int, atI [V.int 2, V.int 4] v2 = some (.int far) ∧ 1 ≤ far ∧ far ≤ 4 := by
        have : v2 = 0 ∨ v2 = 1 := by omega
        rcases this with rfl | rfl
        · exact ⟨2, rfl, by omega, by omega⟩
        · exact ⟨4, rfl, by omega, by omega⟩
      refine ⟨l3, _, v2, _, rfl, rfl, .of hl3', hfar, row, a, ns, _, rfl, RA6, f1, by omega, fun v H7 v0 v1' RA7 k7 => ?_⟩
      have k57 := k56.trans k7
      exact ⟨acc.map V.int, k57 _ _ hacc nD2, by rw [List.length_map]; exact small1000 (by omega), acc_next hD2 nD2 (far_of RA4.sc hD2) hlen hall hacc k5 RA7 k57 (by omega) (by omega)⟩
    rintro H5 ⟨ss0, slen0, sall0, hss0, RA5, k5⟩
    have nD2 := RA4.nn hD2
    have nDD : D ≠ D2 := ne_of_none hds hD2
    have fD2 := far_of RA4.sc hD2
    have hds5 : H5 D = some (.lst (ds.map V.int)) := k5 _ _ hds nD
    have k05 := k04.trans k5
    have hD20 : ∀ b o, H b = some o → b ≠ row → b ≠ D2 := fun b o e n => ne_of_none (k04 b o e n) hD2
    -- k
    refine ⟨_, rfl, _, rfl, row, a, ns, _, rfl, RA5, by omega, by omega, fun kk H6 kk0 kk1 RA6 k6 => ?_⟩
    have hss6 : H6 D2 = some (.lst (ss0.map V.int)) := k6 _ _ hss0 nD2
    have hds6 : H6 D = some (.lst (ds.map V.int)) := k6 _ _ hds5 nD
    have hkk : kk.toNat < ss0.length := by omega
    have hix : atI (ss0.map V.int) kk = some (.int ss0[kk.toNat]) := by
      refine at_of (j := kk.toNat) (by omega) ?_
      rw [List.getElem?_map, List.getElem?_eq_getElem hkk]
      rfl
    have hixn : ixN (ss0.map V.int).length kk = some kk.toNat := by
      unfold ixN
      rw [List.length_map, if_pos (by omega), if_pos (by omega)]
    -- starts[k] = max(1, starts[k])
    refine ⟨_, rfl, _, rfl, D2, _, kk, _, rfl, rfl, .of hss6, hix, _, _, rfl, ?_⟩
    rw [max_if]
    refine ⟨_, rfl, _, rfl, D2, _, kk, kk.toNat, rfl, rfl, hss6, hixn, ?_⟩
    have hzz := sall0 _ (List.getElem_mem hkk)
    generalize ss0[kk.toNat] = zz at hzz
    have hmem : max 1 zz ∈ ss0.set kk.toNat (max 1 zz) := List.mem_set hkk _
    have hall1 : ∀ y ∈ ss0.set kk.toNat (max 1 zz), 0 ≤ y ∧ y ≤ 12 := fun y hy => by
      rcases mem_set hy with z | z
      · have := sall0 y z; omega
      · omega
    have hsum1 := mem_le_sum (fun y hy => (hall1 y hy).1) _ hmem
    refine ⟨fun m σ H' => σ = [some (.ref row), some (.int size), some (.int most), some (.int (2 + v1)), some (.ref D), some (.ref D2), some (.int kk)] ∧ ∃ ss : List Int, m = ss.sum.toNat ∧ ss.length = (2 + v1).toNat ∧ (∀ y ∈ ss, 0 ≤ y ∧ y ≤ 12) ∧ 1 ≤ ss.sum ∧ H' D2 = some (.lst (ss.map V.int)) ∧ H' D = some (.lst (ds.map V.int)) ∧ RowAt K H' row a ns ∧ Kp row H H',
      ⟨_, rfl, ss0.set kk.toNat (max 1 zz), rfl, by rw [List.length_set]; exact slen0, hall1, by omega, by rw [upd_same, List.map_set], by rw [upd_ne nDD]; exact hds6, RA6.upd' nD2 fD2, fun b o e n => by rw [upd_ne (hD20 b o e n)]; exact (k05.trans k6) b o e n⟩, ?_⟩
    rintro m σ H7 ⟨rfl, ss, rfl, slen, sall, ssum, hss, hdd, RA7, k7⟩
    refine ⟨_, rfl, D2, ss, rfl, .of hss, _, _, rfl, rfl, _, rfl, ?_⟩
    by_cases hc : 12 < ss.sum
    · rw [decide_eq_true hc]
      refine iteT ⟨fun σ' H' => σ' = [some (.ref row), some (.int size), some (.int most), some (.int (2 + v1)), some (.ref D), some (.ref D2), some (.int kk)] ∧ ∃ ss' : List Int, ss'.sum < ss.sum ∧ 1 ≤ ss'.sum ∧ ss'.length = (2 + v1).toNat ∧ (∀ y ∈ ss', 0 ≤ y ∧ y ≤ 12) ∧ H' D2 = some (.lst (ss'.map V.int)) ∧ H' D = some (.lst (ds.map V.int)) ∧ RowAt K H' row a ns ∧ Kp row H H',
        fun σ' H' ⟨e1, ss', e2, e20, e3, e4, e5, e6, e7, e8⟩ => ⟨ss'.sum.toNat, by omega, e1, ss', rfl, e3, e4, e20, e5, e6, e7, e8⟩, ?_⟩
      refine ⟨_, rfl, _, rfl, .inl ⟨rfl, _, .of hss⟩, _, rfl, D2, ss, rfl, .of hss, by omega, fun mm hm hmu => ?_⟩
      obtain ⟨j, hj, hno⟩ := first_ix hm
      have hjl : j < ss.length := (List.getElem?_eq_some_iff.mp hj).1
      refine ⟨D2, ss.map V.int, .int mm, j, .int mm, rfl, rfl, .of hss, rfl, flat_ints ss, by rw [List.getElem?_map, hj]; rfl, beq_self_eq_true mm, fun k z' hk hz => ?_, ?_⟩
      · obtain ⟨z, hz2, rfl⟩ := get_int hz
        exact beq_eq_false_iff_ne.mpr (hno k z hk hz2)
      · have hixn2 : ixN (ss.map V.int).length ((j : Nat) : Int) = some j := by
          unfold ixN
          rw [List.length_map, if_pos (by omega), if_pos (by omega), Int.toNat_natCast]
        have hm2 : 2 ≤ mm := by
          rcases Int.lt_or_le mm 2 with z | z
          · have := sum_le_len (l := ss) fun y hy => by have := hmu _ hy; omega
            omega
          · exact z
        have hall2 : ∀ y ∈ ss.set j 1, 0 ≤ y ∧ y ≤ 12 := fun y hy => by
          rcases mem_set hy with z | z
          · exact sall y z
          · omega
        refine ⟨D2, _, ((j : Nat) : Int), j, rfl, rfl, hss, hixn2, rfl, ss.set j 1, ?_, ?_, by rw [List.length_set]; exact slen, hall2, by rw [upd_same, List.map_set], by rw [upd_ne nDD]; exact hdd, RA7.upd' nD2 fD2, fun b o e n => by rw [upd_ne (hD20 b o e n)]; exact k7 b o e n⟩
        · rw [sum_set hj]
          omega
        · exact mem_le_sum (fun y hy => (hall2 y hy).1) 1 (List.mem_set hjl 1)
    · rw [decide_eq_false hc]
      refine iteF ?_
      refine ⟨_, rfl, D, _, rfl, .of hdd, fun l1 o1 hl1 hd1 => ?_⟩
      have u1 := same_upd (o := .frz o1 (.tup (ds.map V.int))) hl1
      refine ⟨_, rfl, D2, _, rfl, .of (u1 _ _ hss), fun l2 o2 hl2 hd2 => ⟨(by show 2 ≤ sizeLine; decide), fun t ht => ?_⟩⟩
      have u2 := same_upd (o := .frz o2 (.tup (ss.map V.int))) hl2
      have u3 := same_upd (o := .tup [.ref l1, .ref l2]) ht
      exact q _ t l1 l2 ds ss ⟨by omega, by omega, by omega, dall, sall, ssum, by omega⟩ (((RA7.same u1).same u2).same u3) (((k7.trans (Same.kp u1)).trans (Same.kp u2)).trans (Same.kp u3)) upd_same ⟨o1, hd1, u3 _ _ (u2 _ _ upd_same)⟩ ⟨o2, hd2, u3 _ _ upd_same⟩
end
end Rp
namespace Rp
open PySem PySem.Spec PyProof.Rows L2 Rz Rm
theorem set_map {ds : List Int} {r d : Int} (h0 : 0 ≤ r) (h1 : r < ds.length) : ((ds.map V.int).take r.toNat ++ [V.int d]) ++ (ds.map V.int).drop (r + 1).toNat = (ds.set r.toNat d).map V.int := by
  have e : (r + 1).toNat = r.toNat + 1 := by omega
  rw [List.map_set, List.set_eq_take_append_cons_drop, if_pos (by rw [List.length_map]; omega), e]
  simp
theorem Good.set {ds ss : List Int} (G : Good ds ss) (i : Nat) {d : Int} (h : 1 ≤ d ∧ d ≤ 30) : Good (ds.set i d) ss :=
  ⟨by rw [List.length_set]; exact G.l2, by rw [List.length_set]; exact G.l8, by rw [List.length_set]; exact G.ls, fun y hy => (mem_set hy).elim (G.d1 y) (fun e => by rw [e]; exact h), G.s0, G.b1, G.b12⟩
/-! ### numbers from 0 on -/
def iot (n : Nat) : List Int := (List.range n).map fun i => ((i : Nat) : Int)
theorem rgV_iot (n : Nat) : rgV 0 (n : Int) = (iot n).map V.int := by
  unfold rgV iot
  rw [List.map_map, show ((n : Int) - 0).toNat = n by omega]
  refine List.map_congr_left fun i _ => ?_
  show V.int (0 + (i : Int)) = V.int (i : Int)
  rw [Int.zero_add]
theorem iot_len (n : Nat) : (iot n).length = n := by unfold iot; rw [List.length_map, List.length_range]
end Rp
namespace Rp
open PySem PySem.Spec PyProof.Rows L2 Rz Rm
section
variable {P : Program} {w : World} {K : PySem.W.Frag} {mg : Str → Option Value} {base : Heap}
def spPR (C : Addr) : Sp := fun vs H Q _ => ∃ p dx td ts ds ss, vs = [.ref p] ∧ RingAt C H p dx td ts ds ss ∧ Tf H td (ds.map V.int) ∧
  ∀ H' l rs, Same H H' → H' l = some (.lst (rs.map V.int)) → H l = none → ((ds.sum ≤ mx ds * ss.sum ∧ ∃ j : Nat, rs = [(j : Int)] ∧ ds[j]? = some (mx ds) ∧ ∀ k z, k < j → ds[k]? = some z → z ≠ mx ds) ∨ (¬ ds.sum ≤ mx ds * ss.sum ∧ rs = iot ds.length)) → Q (.ref l) H'
theorem ok_paceR (T : Tx K mg) : FnOk P w K mg base CX0 3 T.a_pace_readers T.d_pace_readers P_pace_readers (spPR T.C) := by
  refine T.F_pace_readers.ok sc_pace_readers (fun vs H Q E h => ?_) (fun cdv A outer s H vs Q E hr h => ?_)
  · obtain ⟨p, dx, td, ts, ds, ss, rfl, _⟩ := h
    rfl
  · obtain ⟨p, dx, td, ts, ds, ss, rfl, R, hf, q⟩ := h
    have hr1 : Room 1 _ := hr.mono (by decide)
    have nd := sc_pace_readers.nd
    have b1 := R.ok.b1
    have b12 := R.ok.b12
    have l8 := R.ok.l8
    have rdD : ∀ {Q' : VK} {E' : XK}, Q' (.ref td) H → spDays T.C [.ref p] H Q' E' := fun z => ⟨p, dx, td, ts, ds, ss, rfl, R, z⟩
    refine ⟨_, pss_cons (ps_if (pt_val (pe_call (ok_slow T) hr1 (by rfl) T.g_slowest_decides T.F_slowest_decides.kp T.b_slowest_decides .nil pass0 (pa_cons (pe_prop (pv 0) T.cl T.q_rdays (ok_days T) hr T.b_rdays .nil pass0 rfl) (pa_cons (pe_prop (pv 0) T.cl T.q_rbooks (ok_books T) hr T.b_rbooks .nil pass0 rfl) pa_nil))))
        (pss_one (ps_ret (pe_lst (pa_cons (pe_bmF PySem.F.plainAttrs_tuple PySem.F.slot_tuple_index PySem.F.type_tuple_index mt_tup_indexI (pe_prop (pv 0) T.cl T.q_rdays (ok_days T) hr T.b_rdays .nil pass0 rfl) (pa_cons (pe_callB (cr_maxT rfl) (by rfl) T.z_max (by decide +kernel) (pa_cons (pe_prop (pv 0) T.cl T.q_rdays (ok_days T) hr T.b_rdays .nil pass0 rfl) pa_nil)) pa_nil)) pa_nil)))) pss_nil)
      (pss_one (ps_ret (pe_listRg rfl (by rfl) T.z_list (prg_1 (by rfl) T.z_range (pe_callB (call_lenI T.lenC T.lenF ((ok_len T).raw T.b_rlen .nil) hr pass0) (by rfl) T.z_len PySem.boot_len (pa_cons (pv 0) pa_nil)))))), ?_⟩
    refine ⟨_, rfl, p, dx, _, rfl, R.ob, rdD ⟨_, rfl, p, dx, _, rfl, R.ob, p, dx, td, ts, ds, ss, rfl, R, td, ds, ss.sum, rfl, R.td, R.ok.dys, by omega, by omega, _, rfl, ?_⟩⟩
    by_cases hc : ds.sum ≤ mx ds * ss.sum
    · rw [decide_eq_true hc]
      refine iteT ⟨_, rfl, p, dx, _, rfl, R.ob, rdD ⟨td, _, rfl, hf, _, rfl, p, dx, _, rfl, R.ob, rdD ⟨td, ds, rfl, .inl R.td.rd, R.ok.dys.ne, fun M hM hMu => ?_⟩⟩⟩
      obtain ⟨j, hj, hno⟩ := first_ix hM
      refine ⟨td, ds, M, j, rfl, rfl, .inl R.td.rd, hj, hno, (by show 1 ≤ sizeLine; decide), fun l hl => ?_⟩
      have eM := mx_eq R.ok.dys hM hMu
      exact q _ l [(j : Int)] (same_upd hl) upd_same hl (.inl ⟨hc, j, rfl, by rw [eM]; exact hj, by rw [eM]; exact hno⟩)
    · rw [decide_eq_false hc]
      refine iteF ⟨_, rfl, p, dx, _, rfl, R.ob, p, dx, td, ts, ds, ss, rfl, R, (ds.length : Int), rfl, by omega, by omega, (ds.length : Int), rfl, .of_le (by omega) (by omega) (by omega) (by omega), fun l hl => ?_⟩
      exact q _ l (iot ds.length) (same_upd hl) (by rw [upd_same, rgV_iot]) hl (.inr ⟨hc, rfl⟩)
end
end Rp
/-! Lambdas as values: made and kept (in lists, in slots), with or without a default value. -/
namespace Rl
open PySem PySem.Spec PyProof.Rows L2 LamX
/-- what a lambda is -/
structure LF where
  q : Str
  params : Arguments
  body : Expr
  scope : Scope
  cl : List (Str × Addr)
  dV : Value
  c : Addr
def LamO (f : Addr) (F : LF) : HO := .ext fun h => ∃ (doc pm ctv : Value), h.get? f = some (PySem.W.kdv_obj "<lambda>" F.q F.params (.expr F.body) F.scope F.cl F.dV doc pm F.c ctv)
theorem lamO_ne {f : Addr} {F : LF} (ps : Array Value) : LamO f F ≠ .tbl ps := fun z => by
  unfold LamO at z
  cases z
section
variable {X : Cx} {pins : List (Addr × Obj)} {σ : L2.St} {H : Hp} {s : Shared}
theorem inv_lam {F : LF} {o : Obj} {t' : Nat} {doc pm ctv : Value} (I : Inv X pins σ H s) (ho : o = PySem.W.kdv_obj "<lambda>" F.q F.params (.expr F.body) F.scope F.cl F.dV doc pm F.c ctv) :
    Inv X pins σ (upd H s.heap.objs.size (LamO s.heap.objs.size F)) { s with heap := s.heap.push o, toks := t' } := by
  subst ho
  have e : (s.heap.push (PySem.W.kdv_obj "<lambda>" F.q F.params (.expr F.body) F.scope F.cl F.dV doc pm F.c ctv)).get? s.heap.objs.size = some (PySem.W.kdv_obj "<lambda>" F.q F.params (.expr F.body) F.scope F.cl F.dV doc pm F.c ctv) := Heap.get?_push_size _ rfl
  exact I.laid (a := s.heap.objs.size) (fun b u g => Heap.get?_push_of_some _ g) (Nat.le_refl _) ⟨⟨doc, pm, ctv, e⟩, ⟨_, e⟩, fun h1 h2 ⟨d1, p1, v1, z⟩ st => ⟨d1, p1, v1, st _ z⟩⟩
/-- the rest of the making, the default values evaluated -/
theorem lam_tail {T : List (Addr × Str)} {c P : Addr} {params : Arguments} {body : Expr} {scope : Scope} {pos : Pos} {dV : Value} {E : Value → Shared → Prop} {Q : Value → Shared → Prop} (I : Inv X pins σ H s) (TB : TabB X.base X.mg c P) (hcode : X.env.code = .ref c)
    (hm : (P, X.env.qual ++ "<lambda>") ∈ T) (hu : ∀ p ∈ T, p.1 = P → p.2 = X.env.qual ++ "<lambda>") (hT : Tabs T H) (hfree : ∀ y ∈ scope.names, y.2 = .free → ∃ c, X.env.cells.lookup y.1 = some c)
    (h : ∀ (f c' : Addr) (H1 : Hp) (s' : Shared), Inv X pins σ H1 s' → ExtN H H1 → Tabs T H1 → H f = none → H1 f = some (LamO f ⟨X.env.qual ++ "<lambda>", params, body, scope, cloFrom X.env.cells scope.names [], dV, c'⟩) → H1 c' = some (CodeO c' (X.env.qual ++ "<lambda>")) → Q (.ref f) s') :
    wpAny (model X.prog X.w) X.A (makeTail "<lambda>" (X.env.qual ++ "<lambda>") params (.expr body) scope X.env dV .none none pos pos.line) Q E s := by
  obtain ⟨ps, hP, ht, ha⟩ := hT _ hm
  have bP : s.heap.BuiltinsAt X.mg P := TB.bm.keeps I.bk
  have gP : s.heap.get? P = some { cls := .none, data := .fields ps } := I.hok P _ hP
  cases hc : codeAmong pos ps.toList with
  | none =>
    refine PySem.W.kdv_makeTail (mg := X.mg) (c := c) (P := P) (ps := ps) (closure_ok hfree) I.ok.glob (I.mod.glob.keeps I.bk) hcode (TB.code.keeps I.bk) gP ht hc TB.gP bP fun c' ctv doc h' tk hx hge hlt hrec htb => ?_
    obtain ⟨c2, oc, vs, t, e2, r1, r2, r3⟩ := hrec
    cases e2
    have nC := I.hok.fresh hge
    have J := inv_table (t' := tk) (more := #[rawInt pos.line, rawInt pos.col, .ref c']) (h' := h') I hP (fun b o n e => hx b o n e) htb hge ⟨oc, vs, t, r1, r2, r3⟩
    obtain ⟨H1, hH1⟩ : ∃ H1, H1 = upd (upd H P (.tbl (ps ++ #[rawInt pos.line, rawInt pos.col, .ref c']))) c' (CodeO c' (X.env.qual ++ "<lambda>")) := ⟨_, rfl⟩
    have ext1 : ExtN H H1 := fun b o e n => by
      rw [hH1, upd_ne (ne_of_none e nC), upd_ne (fun z => by subst z; rw [hP] at e; exact n ps (Option.some.inj e).symm)]
      exact e
    have atC : H1 c' = some (CodeO c' (X.env.qual ++ "<lambda>")) := by rw [hH1, upd_same]
    have tabs1 : Tabs T H1 := fun p hp => by
      by_cases hb : p.1 = P
      · rw [hu p hp hb, hb]
        refine ⟨ps ++ #[rawInt pos.line, rawInt pos.col, .ref c'], by rw [hH1, upd_ne (ne_of_none hP nC), upd_same], ?_, fun p' cv hcv => ?_⟩
        · rw [Array.toList_append]
          exact PySem.TriplesOk_snoc _ _ _ _ ht
        · rw [Array.toList_append] at hcv
          rcases among_app _ ht hcv with z | z
          · obtain ⟨c0, e1, e2⟩ := ha p' cv z
            exact ⟨c0, e1, ext1 _ _ e2 codeO_ne⟩
          · exact ⟨c', z, atC⟩
      · obtain ⟨ps', a1, a2, a3⟩ := hT p hp
        refine ⟨ps', by rw [hH1, upd_ne (ne_of_none a1 nC), upd_ne hb]; exact a1, a2, fun p' cv hcv => ?_⟩
        obtain ⟨c0, e1, e2⟩ := a3 p' cv hcv
        exact ⟨c0, e1, ext1 _ _ e2 codeO_ne⟩
    rw [← hH1] at J
    have nF := J.hok.fresh (Nat.le_refl _)
    have J2 := inv_lam (F := ⟨X.env.qual ++ "<lambda>", params, body, scope, cloFrom X.env.cells scope.names [], dV, c'⟩) (t' := tk) (doc := doc) (pm := (X.mg "__name__").getD .none) (ctv := ctv) J rfl
    have kp : ∀ {b o}, H1 b = some o → (upd H1 h'.objs.size (LamO h'.objs.size ⟨X.env.qual ++ "<lambda>", params, body, scope, cloFrom X.env.cells scope.names [], dV, c'⟩)) b = some o := fun e => (upd_ne (ne_of_none e nF)).trans e
    exact h h'.objs.size c' _ _ J2 (fun b o e n => kp (ext1 b o e n)) (tabs1.ext fun b o e => kp e) (I.hok.fresh (Nat.le_trans hge (Nat.le_of_lt hlt))) upd_same (kp atC)
  | some cv =>
    obtain ⟨c', e, hco⟩ := ha pos cv hc
    subst e
    refine PySem.W.kdv_makeTailHit (mg := X.mg) (c := c) (P := P) (ps := ps) (closure_ok hfree) I.ok.glob (I.mod.glob.keeps I.bk) hcode (TB.code.keeps I.bk) gP ht hc bP fun ctv doc h' tk hx hsz => ?_
    have J : Inv X pins σ H { s with heap := h', toks := tk } := I.kept hx
    have nF : H h'.objs.size = none := J.hok.fresh (Nat.le_refl _)
    have J2 := inv_lam (F := ⟨X.env.qual ++ "<lambda>", params, body, scope, cloFrom X.env.cells scope.names [], dV, c'⟩) (t' := tk) (doc := doc) (pm := (X.mg "__name__").getD .none) (ctv := ctv) J rfl
    have kp : ∀ {b o}, H b = some o → (upd H h'.objs.size (LamO h'.objs.size ⟨X.env.qual ++ "<lambda>", params, body, scope, cloFrom X.env.cells scope.names [], dV, c'⟩)) b = some o := fun e => (upd_ne (ne_of_none e nF)).trans e
    exact h h'.objs.size c' _ _ J2 (fun b o e n => kp e) (hT.ext fun b o e => kp e) nF upd_same (kp hco)
end
/-- the value of a lambda -/
def tLamV (T : List (Addr × Str)) (mk : Addr → LF) : TE := fun _ H Q => Tabs T H ∧ ∀ (f c' : Addr) (H1 : Hp), ExtN H H1 → Tabs T H1 → H f = none → H1 f = some (LamO f (mk c')) → H1 c' = some (CodeO c' (mk c').q) → Q (.ref f) H1
/-- the same, one int by default: the tuple of the values is told, too -/
def tLamD (T : List (Addr × Str)) (d : Int) (mk : Addr → Addr → LF) : TE := fun _ H Q => Tabs T H ∧ ∀ (f c' t : Addr) (H1 : Hp), ExtN H H1 → Tabs T H1 → H f = none → H1 t = some (.tup [.int d]) → H1 f = some (LamO f (mk t c')) → H1 c' = some (CodeO c' (mk t c').q) → Q (.ref f) H1
section
variable {X : Cx} {T : List (Addr × Str)} {c P : Addr} {params : Arguments} {body : Expr} {scope : Scope} {pos : Pos}
theorem pe_lam0 (TB : TabB X.base X.mg c P) (hcode : X.env.code = .ref c) (hm : (P, X.env.qual ++ "<lambda>") ∈ T) (hu : ∀ p ∈ T, p.1 = P → p.2 = X.env.qual ++ "<lambda>")
    (hF : ∀ y ∈ scope.names, y.2 = .free → X.env.scope.names.lookup y.1 = some .cell ∨ X.env.scope.names.lookup y.1 = some .free) (hdef : defaultsOf params X.env = ([], [])) :
    PE X (.Lambda params body scope pos) (tLamV T fun c' => ⟨X.env.qual ++ "<lambda>", params, body, scope, cloFrom X.env.cells scope.names [], .none, c'⟩) := by
  refine ⟨fun pins s σ H Q I h => ?_⟩
  obtain ⟨hT, h⟩ := h
  have hfree : ∀ y ∈ scope.names, y.2 = .free → ∃ c, X.env.cells.lookup y.1 = some c := fun y hy e => (hF y hy e).elim (fun z => I.ok.has _ (.inl z)) fun z => I.ok.has _ (.inr z)
  refine PySem.W.kla_eval hdef ?_
  simp only [makeFunction_eq, List.isEmpty_nil, List.filterMap_nil, List.zip_nil_right, pure_bind, if_true]
  exact lam_tail I TB hcode hm hu hT hfree fun f c' H1 s' I1 x1 t1 hf e1 e2 => ⟨.ref f, H1, I1, rfl, h f c' H1 x1 t1 hf e1 e2⟩
theorem pe_lam1 {d : Int} {j : Nat} {dp : Pos} (TB : TabB X.base X.mg c P) (hcode : X.env.code = .ref c) (hm : (P, X.env.qual ++ "<lambda>") ∈ T) (hu : ∀ p ∈ T, p.1 = P → p.2 = X.env.qual ++ "<lambda>")
    (hF : ∀ y ∈ scope.names, y.2 = .free → X.env.scope.names.lookup y.1 = some .cell ∨ X.env.scope.names.lookup y.1 = some .free) (hd : params.defaults = [.Constant (.int d) j dp]) (hk : params.kw_defaults = []) :
    PE X (.Lambda params body scope pos) (tLamD T d fun t c' => ⟨X.env.qual ++ "<lambda>", params, body, scope, cloFrom X.env.cells scope.names [], .ref t, c'⟩) := by
  refine ⟨fun pins s σ H Q I h => ?_⟩
  obtain ⟨hT, h⟩ := h
  have hfree : ∀ y ∈ scope.names, y.2 = .free → ∃ c, X.env.cells.lookup y.1 = some c := fun y hy e => (hF y hy e).elim (fun z => I.ok.has _ (.inl z)) fun z => I.ok.has _ (.inr z)
  refine PySem.W.kdv_lam (by rw [hd]; rfl) hk ?_
  rw [hd]
  refine PySem.W.kdv_all1 (thn ((pe_int (X := X) (i := d) (j := j) (pos := dp)).run pins s σ H (fun v H1 => v = .int d ∧ H1 = H) I ⟨rfl, rfl⟩) fun u s1 ⟨v, H1, I1, rv, e1, e2⟩ => PySem.W.kdv_all0 ?_)
  subst e1
  subst e2
  obtain ⟨tk, rfl⟩ := rv
  simp only [makeFunction_eq, List.isEmpty_nil, List.isEmpty_cons, List.filterMap_nil, List.zip_nil_right, pure_bind, if_true, Bool.false_eq_true, if_false]
  refine wpAny_bind (wpAny_newTextTuple ?_)
  have nt := I1.hok.fresh (Nat.le_refl _)
  have I2 : Inv X pins σ (upd H1 s1.heap.objs.size (.tup [.int d])) { s1 with heap := s1.heap.push { cls := .type "tuple", data := .seq [Value.int d tk].toArray } } :=
    I1.laid (t' := s1.toks) (fun b u e => Heap.get?_push_of_some _ e) (Nat.le_refl _) ⟨by show 1 ≤ sizeLine; decide, [.int d tk], .cons ⟨_, rfl⟩ .nil, ⟨_, Heap.get?_push_size _ rfl, rfl, _, rfl⟩⟩
  have kp : ∀ {b o}, H1 b = some o → (upd H1 s1.heap.objs.size (.tup [.int d])) b = some o := fun e => (upd_ne (ne_of_none e nt)).trans e
  refine lam_tail I2 TB hcode hm hu (hT.ext fun b o e => kp e) hfree fun f c' H3 s' I3 x1 t1 hf e1 e2 => ⟨.ref f, H3, I3, rfl, h f c' s1.heap.objs.size H3 (fun b o e n => x1 b o (kp e) n) t1 ?_ (x1 _ _ upd_same (by intro ps z; cases z)) e1 e2⟩
  unfold upd at hf
  split at hf
  · cases hf
  · exact hf
end
end Rl
/-! A kept lambda is called, in a def that the maker calls. -/
namespace Rl
open PySem PySem.Spec PyProof.Rows L2 LamX
/-- its names: captured ones, globals, parameters that the maker's slots don't name -/
structure LamP (N : List Str) (sc scope : Scope) : Prop where
  kind : scope.kind = .function
  co : scope.isCoroutine = false
  gen : scope.isGenerator = false
  nocell : ∀ y ∈ scope.names, y.2 ≠ .cell
  own : ∀ y ∈ scope.names, y.2 = .local → y.1 ∉ N
  free : ∀ y ∈ scope.names, y.2 = .free → sc.names.lookup y.1 = some .cell ∨ sc.names.lookup y.1 = some .free
def lamPB (N : List Str) (sc scope : Scope) : Bool :=
  decide (scope.kind = .function) && !scope.isCoroutine && !scope.isGenerator && scope.names.all fun y => !decide (y.2 = .cell) && (!decide (y.2 = .local) || !decide (y.1 ∈ N)) && (!decide (y.2 = .free) || (decide (sc.names.lookup y.1 = some .cell) || decide (sc.names.lookup y.1 = some .free)))
theorem lamP_by {N : List Str} {sc scope : Scope} (h : lamPB N sc scope = true) : LamP N sc scope := by
  unfold lamPB at h
  simp only [Bool.and_eq_true, List.all_eq_true, Bool.not_eq_true', Bool.or_eq_true, decide_eq_false_iff_not, decide_eq_true_eq] at h
  obtain ⟨⟨⟨k1, k2⟩, k3⟩, k4⟩ := h
  refine ⟨k1, k2, k3, fun y hy => (k4 y hy).1.1, fun y hy e => ?_, fun y hy e => ?_⟩
  · rcases (k4 y hy).1.2 with z | z
    · exact absurd e z
    · exact z
  · rcases (k4 y hy).2 with z | z
    · exact absurd e z
    · exact z
section
variable {X : Cx} {pins : List (Addr × Obj)} {σ : L2.St} {H HZ : Hp} {s s1 : Shared}
theorem LamP.has {scope : Scope} (L : LamP X.N X.env.scope scope) (ok : X.Ok) : ∀ y ∈ scope.names, y.2 = .free → ∃ c, X.env.cells.lookup y.1 = some c := fun y hy e => (L.free y hy e).elim (fun z => ok.has _ (.inl z)) fun z => ok.has _ (.inr z)
theorem lam_enter {ex : List Addr} {A : Around} {outer : List Env} {E : XK} {scope : Scope} {f c' : Addr} {g : Heap} {tk : Nat} {m1 : Str → Option Value} (I : Inv X pins σ H s) (L : LamP X.N X.env.scope scope) (e0 : Env0 X.prog X.w X.K X.mg X.base A outer s1 HZ) (hd : A.handled = none) (hex : ∀ y d, X.env.cells.lookup y = some d → d ∉ ex)
    (un : Un (frs X.stack) ex H HZ s.heap s1.heap) (hns : g.Ns s1.heap.objs.size m1) (kp : ∀ b o, s1.heap.get? b = some o → g.get? b = some o) :
    Inv (lamCx X A outer s1 HZ E scope f c') [] σ HZ { s1 with heap := g, toks := tk } := by
  have hfree := L.has I.ok
  have back : ∀ {y d}, (cloFrom X.env.cells scope.names []).lookup y = some d → X.env.cells.lookup y = some d := fun {y d} e => NdefX.clo_cm hfree e
  have there : ∀ {y}, scope.names.lookup y = some .free → ∃ d, (cloFrom X.env.cells scope.names []).lookup y = some d := fun {y} hl => mem_lookup (cloFrom_has (cells := X.env.cells) (acc := []) (PySem.mem_of_lookup hl))
  have cellK : ∀ {d : Addr} {v : Option Value}, H d = none → d ∉ ex → s.heap.IsCell d v → g.IsCell d v := fun {d v} n nx z => by
    obtain ⟨o, ho, hv⟩ := z
    obtain ⟨sl, q⟩ := un.any ho n nx
    exact ⟨_, kp _ _ q, hv⟩
  have none1 : ∀ b : Addr, b ∉ (lamCx X A outer s1 HZ E scope f c').ex := fun b z => absurd (show b ∈ ([] : List Addr) from z) (by simp)
  refine ⟨⟨e0.mod, L.kind, rfl, rfl, Nat.le_refl _, fun y z d e1 e2 => I.ok.inj y z d (back e1) (back e2), fun y hy => ?_, fun y d z _ => ?_, fun _ => hd, Around.frames_deeper e0.frames, .inr ⟨rfl, rfl⟩, fun b z => absurd z (none1 b), e0.bs, e0.bsz, fun b _ _ => none1 b, fun b z => absurd z (none1 b), e0.funs, e0.frf⟩,
    rfl, e0.bare, Un.kept kp, ⟨_, hns, fun i y v e1 e2 e3 => ?_⟩, fun y d e => ?_, e0.hok.fresh (Nat.le_refl _), fun y d e => ?_, fun q hq => absurd (show q ∈ ([] : List (Addr × Obj)) ++ [] from hq) (by simp), e0.hok.kept kp, I.len⟩
  · have hy : scope.names.lookup y = some .cell ∨ scope.names.lookup y = some .free := hy
    rcases hy with hy | hy
    · exact absurd rfl (L.nocell _ (PySem.mem_of_lookup hy))
    · exact there hy
  · have z : false = true := z
    cases z
  · have e3 : Vis scope y := e3
    have e1 : X.N[i]? = some y := e1
    rcases e3 with k | k | k
    · exact absurd (List.mem_of_getElem? e1) (L.own _ (PySem.mem_of_lookup k) rfl)
    · exact absurd rfl (L.nocell _ (PySem.mem_of_lookup k))
    · obtain ⟨m, hn, hl⟩ := I.loc
      have vis : Vis X.env.scope y := (L.free _ (PySem.mem_of_lookup k) rfl).elim (fun z => .inr (.inl z)) fun z => .inr (.inr z)
      obtain ⟨w', r, q⟩ := hl i y v e1 e2 vis
      obtain ⟨d, h2⟩ := there k
      refine ⟨w', r, .inr ⟨.inr k, d, h2, ?_⟩⟩
      have h3 := back h2
      rcases q with ⟨k', _⟩ | ⟨_, d3, e', z⟩
      · have k' : X.env.scope.names.lookup y = some .local := k'
        rcases L.free _ (PySem.mem_of_lookup k) rfl with k2 | k2
        · rw [show X.env.scope.names.lookup y = _ from k2] at k'
          cases k'
        · rw [show X.env.scope.names.lookup y = _ from k2] at k'
          cases k'
      · rw [h3] at e'
        cases e'
        exact cellK (I.freeC y _ h3) (hex y _ h3) z
  · obtain ⟨w', z⟩ := I.cell y d (back e)
    exact ⟨w', cellK (I.freeC y d (back e)) (hex y d (back e)) z⟩
  · obtain ⟨v, o, ho, hv⟩ := I.cell y d (back e)
    exact un.free d o ho (I.freeC y d (back e)) (hex y d (back e))
/-- a(), in the def that the maker calls and that got the lambda -/
theorem un_more {fs ex : List Addr} {H H' : Hp} {h h' : Heap} (u : Un fs [] H H' h h') : Un fs ex H H' h h' :=
  ⟨fun b o e n k _ => u.keep b o e n k (by simp), fun b o e n k _ => u.slot b o e n k (by simp), fun b o e n _ => u.free b o e n (by simp), fun b o e _ => u.there b o e (by simp), u.tups, u.frzs, u.tbls⟩
theorem pe_actVB {ex : List Addr} {sC : Shared} {HC : Hp} {CXg : CXT} {Eg : XK} {Ng : List Str} {qg : Str} {sg : Scope} {g f : Addr} {cdg : Value} {k i : Nat} {a : Str} {pn : List (Addr × Obj)} {xe : Value → Shared → Prop} {W : WX} {E : L2.St → XK} {tb : XK → TE} {p1 p2 : Pos} {F : LF} {G : Hp → Prop}
    (I : Inv X pins σ H s) (hex : ∀ y d, X.env.cells.lookup y = some d → d ∉ ex) (unB : Un (frs X.stack) ex H HC s.heap sC.heap) (L : LamP X.N X.env.scope F.scope) (hcl : F.cl = cloFrom X.env.cells F.scope.names []) (hq : F.q = X.env.qual ++ "<lambda>")
    (hbind : ∀ (doc pm ctv : Value) (sZ : Shared) (HZ : Hp), HOk X.prog X.w HZ sZ.heap → G HZ → ∃ binds, BindsTo sZ (PySem.W.kdv_fn "<lambda>" F.q F.params (.expr F.body) F.scope F.cl F.dV doc pm (.ref F.c) ctv) ⟨[], []⟩ binds ∧ ∀ y ∈ binds, F.scope.names.lookup y.1 = some .local)
    (tk : Takes ((cxOf CXg X.prog X.w X.K X.mg X.base Ng qg sg g cdg X.A X.stack sC HC Eg).tr pn xe) W) (hW : ∀ cls d σ' H', E σ' cls d H' → W cls d σ' H') (hr : Room (k + 1) (X.A.deeper (envOfC qg sg sC.heap.objs.size g cdg)))
    (hbody : ∀ (E' : XK) (A : Around) (outer : List Env) (s : Shared) (H : Hp), Room k (A.deeper (lamEnv X F.scope s.heap.objs.size f F.c)) → PE (lamCx X A outer s H E' F.scope f F.c) F.body (tb E'))
    (hN : Ng[i]? = some a) (hv : Vis sg a) (hd : (a == ("__debug__" : Str)) = false := by decide) (hcd : (a == ("__classdict__" : Str)) = false := by decide) :
    PE ((cxOf CXg X.prog X.w X.K X.mg X.base Ng qg sg g cdg X.A X.stack sC HC Eg).tr pn xe) (.Call (.Name a p1) [] [] p2)
      (fun σZ HZ Q => σZ[i]? = some (some (.ref f)) ∧ HZ f = some (LamO f F) ∧ HZ F.c = some (CodeO F.c F.q) ∧ G HZ ∧ tb (E σZ) σ HZ Q) := by
  refine ⟨fun pinsZ sZ σZ HZ Q IZ h => ?_⟩
  obtain ⟨hs, hf, hc, hg, ht⟩ := h
  refine wpAny_Call_Name_kw (thn ((pe_var (pos := p1) (i := i) hN hv hd hcd).run pinsZ sZ σZ HZ (fun v H1 => v = .ref f ∧ H1 = HZ) IZ ⟨.ref f, hs, rfl, rfl⟩) fun u s2 ⟨v, H2, I2, rv, e1, e2⟩ => ?_)
  subst e1
  rw [e2] at I2
  obtain rfl : u = Value.ref f := rv
  obtain ⟨⟨doc, pm, ctv, of1⟩, _, _⟩ := I2.hok f _ hf
  obtain ⟨⟨oc, vs, t, c1, c2, c3⟩, _, _⟩ := I2.hok F.c _ hc
  refine PySem.W.callWith_F0 ⟨_, _, _, _, of1⟩ ?_
  have un : Un (frs X.stack) ex H HZ s.heap s2.heap := unB.trans (un_more I2.base)
  obtain ⟨binds, hbi, hloc⟩ := hbind doc pm ctv s2 HZ I2.hok hg
  have rc : codeAny (model X.prog X.w) (X.A.deeper (envOfC qg sg sC.heap.objs.size g cdg)) (.call (.ref f) ⟨[], []⟩) (CR (L2.CX X.prog X.w) (envOfC qg sg sC.heap.objs.size g cdg :: X.stack) X.prog X.w HZ s2 Q (E σZ)) s2 := by
    refine PySem.W.kla_callFunE hr.depth of1 rfl L.co L.gen rfl ⟨F.c, oc, vs, t, rfl, c1, c2, c3⟩ (hbi _ _ _ _ ?_)
    refine wpAny_newFunctionEnv L.nocell hloc (fun h1 hns hsb => ⟨I2.nolimit.fresh _ hsb, ?_⟩) L.kind
    have ee : PySem.W.envX F.q F.scope s2.heap.objs.size f (.ref F.c) F.cl = lamEnv X F.scope s2.heap.objs.size f F.c := by rw [hq, hcl]
    show codeAny _ _ (.expr F.body (PySem.W.envX F.q F.scope s2.heap.objs.size f (.ref F.c) F.cl)) _ _
    rw [ee]
    have kp : ∀ b o, s2.heap.get? b = some o → h1.get? b = some o := fun b o e => hsb.extBut b o (Nat.ne_of_lt (Heap.lt_size e)) (Heap.get?_push_of_some _ e)
    have J := lam_enter (E := E σZ) (scope := F.scope) (f := f) (c' := F.c) (tk := s2.toks + binds.length) I L I2.env0 hr.hd hex un hns kp
    refine PySem.W.kla_codeExpr (wpAny_mono ((hbody (E σZ) _ _ s2 HZ (hr.deeper _)).run [] _ _ HZ Q J ht) (fun v s' hh => ?_) fun e s' hh => hh)
    obtain ⟨w', H', J', r', q'⟩ := hh
    exact ⟨w', H', J'.os, J'.bare, J'.base, J'.hok, r', q'⟩
  refine wpAny_call (codeAny_mono rc fun r s' hh => ?_)
  cases r with
  | error e => exact tk e s' (XE.of_call I2 (fun cls d H' z => hW cls d σZ H' z) hh)
  | ok fl =>
    cases fl with
    | ret u => exact I2.after hh
    | next => exact hh.elim
    | brk => exact hh.elim
    | cont => exact hh.elim
/-- a(), in the def that the maker calls and that got the lambda -/
theorem pe_actV {CXg : CXT} {Eg : XK} {Ng : List Str} {qg : Str} {sg : Scope} {g f : Addr} {cdg : Value} {k i : Nat} {a : Str} {pn : List (Addr × Obj)} {xe : Value → Shared → Prop} {W : WX} {E : L2.St → XK} {tb : XK → TE} {p1 p2 : Pos} {F : LF} {G : Hp → Prop}
    (I : Inv X pins σ H s) (L : LamP X.N X.env.scope F.scope) (hcl : F.cl = cloFrom X.env.cells F.scope.names []) (hq : F.q = X.env.qual ++ "<lambda>")
    (hbind : ∀ (doc pm ctv : Value) (sZ : Shared) (HZ : Hp), HOk X.prog X.w HZ sZ.heap → G HZ → ∃ binds, BindsTo sZ (PySem.W.kdv_fn "<lambda>" F.q F.params (.expr F.body) F.scope F.cl F.dV doc pm (.ref F.c) ctv) ⟨[], []⟩ binds ∧ ∀ y ∈ binds, F.scope.names.lookup y.1 = some .local)
    (tk : Takes ((cxOf CXg X.prog X.w X.K X.mg X.base Ng qg sg g cdg X.A X.stack s H Eg).tr pn xe) W) (hW : ∀ cls d σ' H', E σ' cls d H' → W cls d σ' H') (hr : Room (k + 1) (X.A.deeper (envOfC qg sg s.heap.objs.size g cdg)))
    (hbody : ∀ (E' : XK) (A : Around) (outer : List Env) (s : Shared) (H : Hp), Room k (A.deeper (lamEnv X F.scope s.heap.objs.size f F.c)) → PE (lamCx X A outer s H E' F.scope f F.c) F.body (tb E'))
    (hN : Ng[i]? = some a) (hv : Vis sg a) (hd : (a == ("__debug__" : Str)) = false := by decide) (hcd : (a == ("__classdict__" : Str)) = false := by decide) :
    PE ((cxOf CXg X.prog X.w X.K X.mg X.base Ng qg sg g cdg X.A X.stack s H Eg).tr pn xe) (.Call (.Name a p1) [] [] p2)
      (fun σZ HZ Q => σZ[i]? = some (some (.ref f)) ∧ HZ f = some (LamO f F) ∧ HZ F.c = some (CodeO F.c F.q) ∧ G HZ ∧ tb (E σZ) σ HZ Q) :=
  pe_actVB (ex := []) I (fun _ _ _ => by simp) Un.refl L hcl hq hbind tk hW hr hbody hN hv hd hcd
end
end Rl
/-! x(e), e a kept lambda, x a def that calls what it gets. -/
namespace Rl
open PySem PySem.Spec PyProof.Rows L2 LamX
/-- the def that calls what it got: a calls it; R: what must be true of the abstract heap at the call; TT: what the def makes of the lambda's reading -/
def GivesV (X : Cx) (Ng : List Str) (x : Str) (sg : Scope) (g : Addr) (cdg : Value) (bg : List Stmt) (a : Str) (TT : (XK → Hp → VK → Prop) → Hp → VK → Prop) : Prop :=
  ∀ (f : Addr) (R : Hp → Prop) (s : Shared) (H : Hp) (Q : VK) (tl : XK → Hp → VK → Prop),
    (∀ (W : WX) (pn : List (Addr × Obj)) (xe : Value → Shared → Prop) (p1 p2 : Pos), Takes ((cxOf C8.CX0 X.prog X.w X.K X.mg X.base Ng x sg g cdg X.A X.stack s H C8.E0).tr pn xe) W →
      PE ((cxOf C8.CX0 X.prog X.w X.K X.mg X.base Ng x sg g cdg X.A X.stack s H C8.E0).tr pn xe) (.Call (.Name a p1) [] [] p2) (fun σZ HZ Q => σZ[0]? = some (some (.ref f)) ∧ R HZ ∧ tl (fun cls d H' => W cls d σZ H') HZ Q)) →
    R H → TT tl H Q →
    ∃ t, PSs (cxOf C8.CX0 X.prog X.w X.K X.mg X.base Ng x sg g cdg X.A X.stack s H C8.E0).nox bg t ∧ t { nx := fun _ H' => Q .non H', rt := Q } (L2.start Ng [.ref f]) H
/-- one of a family of lambdas, all made where X stands -/
structure Fam (X : Cx) (ι : Type) (F : ι → LF) (G : ι → Hp → Prop) : Prop where
  nm : ∀ i, LamP X.N X.env.scope (F i).scope
  cl : ∀ i, (F i).cl = cloFrom X.env.cells (F i).scope.names []
  q : ∀ i, (F i).q = X.env.qual ++ "<lambda>"
  bind : ∀ i (doc pm ctv : Value) (sZ : Shared) (HZ : Hp), HOk X.prog X.w HZ sZ.heap → G i HZ → ∃ binds, BindsTo sZ (PySem.W.kdv_fn "<lambda>" (F i).q (F i).params (.expr (F i).body) (F i).scope (F i).cl (F i).dV doc pm (.ref (F i).c) ctv) ⟨[], []⟩ binds ∧ ∀ y ∈ binds, (F i).scope.names.lookup y.1 = some .local
def tLamC {ι : Type} (F : ι → LF) (G : ι → Hp → Prop) (TT : (XK → Hp → VK → Prop) → Hp → VK → Prop) (ta : TA) (t : ι → XK → TE) : TE := fun σ H Q => ta σ H fun vs H1 => ∃ (f : Addr) (i : ι), vs = [.ref f] ∧ H1 f = some (LamO f (F i)) ∧ H1 (F i).c = some (CodeO (F i).c (F i).q) ∧ G i H1 ∧ TT (fun E H' Q' => t i E σ H' Q') H1 Q
section
variable {X : Cx}
theorem pe_lamcallV {ι : Type} {F : ι → LF} {G : ι → Hp → Prop} {TT : (XK → Hp → VK → Prop) → Hp → VK → Prop} {x a : Str} {g : Addr} {k : Nat} {pg : Arguments} {bg : List Stmt} {sg : Scope} {dV kV doc pm cdv ct oc : Value} {an od : Option Addr} {osl : Array (Option Value)} {Ng : List Str}
    {e : Expr} {ta : TA} {t : ι → XK → TE} {p pos : Pos} (hg : Gl X x) (hm : X.mg x = some (.ref g)) (hk : PySem.W.keepIn X.K (.ref g) = true)
    (lk : X.K.lookup g = some ⟨oc, od, .func (PySem.W.fnOf x x pg bg sg dV kV doc pm an cdv ct), osl⟩) (hcg : PySem.W.codeIn X.K cdv x = true) (hb : L2.Binds X.K (PySem.W.fnOf x x pg bg sg dV kV doc pm an cdv ct) [a] []) (Sg : FnScope Ng [a] sg) (hNg : Ng[0]? = some a) (hva : Vis sg a)
    (hG : GivesV X Ng x sg g cdv bg a TT) (fam : Fam X ι F G) (ha : PA X [e] ta) (hr : Room (k + 2) X.A)
    (hbody : ∀ (i : ι) (A : Around) (outer : List Env) (s : Shared) (H : Hp) (E : XK) (f : Addr), Room k (A.deeper (lamEnv X (F i).scope s.heap.objs.size f (F i).c)) → PE (lamCx X A outer s H E (F i).scope f (F i).c) (F i).body (t i E))
    (hst : starEach [e] X.env = (false, eval e X.env) :: starEach [] X.env := by rfl) (hpl : (backTo pos (starEach ([] : List Expr) X.env)).any (·.1) = false := by rfl)
    (hdb : (x == ("__debug__" : Str)) = false := by decide) (hd : (a == ("__debug__" : Str)) = false := by decide) (hcd : (a == ("__classdict__" : Str)) = false := by decide) :
    PE X (.Call (.Name x p) [e] [] pos) (tLamC F G TT ta t) := by
  refine ⟨fun pins s σ H Q I h => ?_⟩
  refine wpAny_Call_Name_kw (ld_glob I hg hm ?_ hdb)
  refine PySem.W.callWith_K (h₀ := X.base) I.ok.mod.kin hk (thn (ha.run pos pins s σ H _ I h) fun us s1 ⟨vs, H1, I1, r, q⟩ => ⟨I1.kIn, ?_⟩) hst hpl
  obtain ⟨f, i, rfl, e1, e2, e3, q⟩ := q
  rw [Vals.ref1 r]
  have rc : codeAny (model X.prog X.w) X.A (.call (.ref g) ⟨[.ref f], []⟩) (CR C8.CX0 X.stack X.prog X.w H1 s1 Q C8.E0) s1 := by
    refine run_ofS (N := Ng) (ps := [a]) (us := [.ref f]) (vs := [.ref f]) lk hcg Sg hr I1.env0 (hb s1 [.ref f] I1.kIn rfl) (.cons rfl .nil) rfl fun hr2 => ?_
    have go := hG f (fun HZ => HZ f = some (LamO f (F i)) ∧ HZ (F i).c = some (CodeO (F i).c (F i).q) ∧ G i HZ) s1 H1 Q (fun E H' Q' => t i E σ H' Q') (fun W pn xe p1 p2 tk => by
      have act := pe_actV (i := 0) (p1 := p1) (p2 := p2) (E := fun σ' cls d H' => W cls d σ' H') (tb := t i) I1 (fam.nm i) (fam.cl i) (fam.q i) (fam.bind i) tk (fun _ _ _ _ z => z) hr2 (fun E' A outer s H hr3 => hbody i A outer s H E' f hr3) hNg hva hd hcd
      exact ⟨fun pins2 s2 σ2 H2 Q2 I2 ⟨a1, ⟨a2, a3, a4⟩, a5⟩ => act.run pins2 s2 σ2 H2 Q2 I2 ⟨a1, a2, a3, a4, a5⟩⟩) ⟨e1, e2, e3⟩ q
    obtain ⟨t', ht', hq'⟩ := go
    exact ⟨t', ht'.nox, hq'⟩
  refine wpAny_call (codeAny_mono rc fun r s2 hh => ?_)
  cases r with
  | error e => exact (show False from hh).elim
  | ok fl =>
    cases fl with
    | ret u => exact I1.after hh
    | next => exact hh.elim
    | brk => exact hh.elim
    | cont => exact hh.elim
end
end Rl
/-! A comprehension whose element may use what the def's slots held when the block began: kept lambdas are called in it. -/
namespace Rl
open PySem PySem.Spec PyProof.Rows L2 LamX
section
variable {X : Cx}
/-- the block of a comprehension that begins at z -/
abbrev bCx (X : Cx) (z : Shared) (Z : Hp) (sc : Scope) (L : Addr) (cl : List (Str × Addr)) (fp : List Addr) : Cx := X.blk z Z sc (compEnvC sc cl L X.env) fp
/-- the element is read in a block that began where the def's slots are τ -/
def ElB (X : Cx) (τ : L2.St) (sc : Scope) (e : Expr) (te : TE) : Prop :=
  ∀ (pins : List (Addr × Obj)) (z : Shared) (Z : Hp) (L : Addr) (cl : List (Str × Addr)) (fp : List Addr), Inv X pins τ Z z → (∀ b ∈ fp, FpOk X pins Z b) → PE (bCx X z Z sc L cl fp) e te
theorem lcB_loop {pins : List (Addr × Obj)} {τ : L2.St} {Q : VK} {e tg it0 : Expr} {sc : Scope} {own : List (Str × Nat)} {pos : Pos} {g : TG} {te : TE} {R : Result → Shared → Prop} {it D L : Addr} {cl : List (Str × Addr)} {fp : List Addr} {tn : Nat → Heap → Prop} {J : It} {z zs : Shared} {Z : Hp}
    (hc : X.calm = true) (T : Turn X.prog X.w X.K tg J fp it tn) (IZ : Inv X pins τ Z z) (fZ : ∀ b ∈ fp, FpOk X pins Z b) (hL : (compEnvC sc cl L X.env).locals = L) (hLz : z.heap.objs.size ≤ L)
    (pg : PG (bCx X z Z sc L cl fp) tg g) (pe : PE (bCx X z Z sc L cl fp) e te)
    (IS : Inv (bCx X z Z sc L cl fp) [] (wipe τ (own.map (·.2))) Z zs) (tS : tn 0 zs.heap)
    {W : Nat → Nat → Hp → Prop} {m₀ : Nat} (w₀ : W 0 m₀ Z)
    (turn : ∀ i m H, W i m H → (J.stop i H ∧ Q (.ref D) H) ∨ (J.go i H ∧ ∃ Nx : Hp → Prop, (∀ H', Nx H' → ∃ m', m' < m ∧ W (i + 1) m' H') ∧ ∀ x H', J.yld i H x H' → g x (wipe τ (own.map (·.2))) H' fun σ2 H2 => wipe σ2 (own.map (·.2)) = wipe τ (own.map (·.2)) ∧ tYes σ2 H2 fun b H3 =>
      if b = true then te σ2 H3 fun y H4 => ∃ acc, H4 D = some (.lst acc) ∧ acc.length < sizeLine ∧ Nx (upd H4 D (.lst (acc ++ [y]))) else Nx H3))
    (fin : ∀ s' m H', Inv X pins τ H' s' → Q (.ref D) H' → s'.heap.Ns L m → FpOk X pins H' L → R (.ok .next) s') :
    codeAny (model X.prog X.w) X.A (.compLoop (.ListComp e [⟨tg, it0, [], 0⟩] sc pos) 0 (.ref it) (.ref D) (compEnvC sc cl L X.env)) R zs := by
  have ofB : ∀ {σ' : L2.St} {H' : Hp} {s' : Shared}, Inv (bCx X z Z sc L cl fp) [] σ' H' s' → (∀ b ∈ fp, H' b = none) → ∀ b ∈ fp, FpOk (bCx X z Z sc L cl fp) [] H' b := fun {σ' H' s'} J0 nn b hb =>
    ⟨nn b hb, (J0.ok.exf b hb).1, J0.ok.exfs b hb, .inl hb, fun y d k => (J0.ok.exf b hb).2 y d k, fun p hp => by
      have hp : p ∈ ([] : List (Addr × Obj)) ++ [] := hp
      simp at hp⟩
  refine compLoop_any (fun m s' => ∃ i H', Inv (bCx X z Z sc L cl fp) [] (wipe τ (own.map (·.2))) H' s' ∧ tn i s'.heap ∧ (∀ b ∈ fp, H' b = none) ∧ W i m H') ?_ m₀ ⟨0, Z, IS, tS, fun b hb => (fZ b hb).1, w₀⟩
  intro m s1 ⟨i, H1, I1, t1, n1, w1⟩
  cases turn i m H1 w1 with
  | inl hs =>
    refine thnF (T.done (bCx X z Z sc L cl fp) rfl rfl rfl hc i [] s1 _ H1 (fun _ _ => False) I1 (ofB I1 n1) t1 hs.1) fun r s2 hr => ?_
    rw [hr.1]
    have IX : Inv X pins τ H1 s2 := IZ.call' (ch := fp) hr.2.os hr.2.base hr.2.hok hr.2.bare fun b hb => by
      obtain ⟨_, q1, _, q3, q4, q5⟩ := fZ b hb
      exact ⟨q3, q1, q4, q5⟩
    have nL : H1 L = none := by
      have q := hr.2.free
      rw [show (bCx X z Z sc L cl fp).env.locals = L from hL] at q
      exact q
    obtain ⟨mm, hmm, _⟩ := hr.2.loc
    rw [show (bCx X z Z sc L cl fp).env.locals = L from hL] at hmm
    exact fin s2 mm H1 IX hs.2 hmm (IZ.fpOk hLz nL)
  | inr hg =>
    obtain ⟨hgo, Nx, hNx, hstep⟩ := hg
    refine thnF (T.item (bCx X z Z sc L cl fp) rfl rfl rfl hc i [] s1 _ H1 (fun _ _ => False) I1 (ofB I1 n1) t1 hgo) fun r s2 ⟨u, hr, q2⟩ => ?_
    rw [hr]
    refine thnF q2 fun _ s3 ⟨x, H3, I3, r3, y3, t3, n3⟩ => ?_
    refine thnF (pg.run _ s3 _ H3 x u _ (I3.pinned (ofB I3 n3) (T.obj _ _ t3)) r3 (hstep x H3 y3)) fun _ s4 ⟨σ4, H4, I4, hw, q4⟩ => ?_
    refine thnF ((pts_nil (X := bCx X z Z sc L cl fp)).run _ s4 σ4 H4 _ I4 q4) fun b s5 ⟨H5, I5, q5⟩ => ?_
    have back : ∀ {s' : Shared} {H' : Hp}, Inv (bCx X z Z sc L cl fp) ([] ++ pinsAt fp s3.heap) σ4 H' s' → Nx H' → ∃ k, k < m ∧ ∃ i H', Inv (bCx X z Z sc L cl fp) [] (wipe τ (own.map (·.2))) H' s' ∧ tn i s'.heap ∧ (∀ b ∈ fp, H' b = none) ∧ W i k H' := fun {s' H'} JJ nx => by
      obtain ⟨k, hk, wk⟩ := hNx H' nx
      have pn : ∀ b ∈ fp, ∀ o, s3.heap.get? b = some o → s'.heap.get? b = some o ∧ H' b = none := fun b hb o ho => by
        obtain ⟨p1, p2, _⟩ := JJ.pin (b, o) (List.mem_append_right _ (List.mem_append_right _ (mem_pinsAt hb ho)))
        exact ⟨p1, p2⟩
      refine ⟨k, hk, i + 1, H', (JJ.unpinned (pins := [])).weak (by rw [← hw, wipe_length]) (fun j v hj => ?_), T.keep _ _ _ t3 fun b hb o ho => (pn b hb o ho).1, fun b hb => ?_, wk⟩
      · rw [← hw] at hj
        exact (wipe_some hj).1
      · obtain ⟨o, ho, _⟩ := T.obj _ _ t3 b hb
        exact (pn b hb o ho).2
    cases b with
    | false =>
      rw [if_neg Bool.false_ne_true] at q5
      rw [if_neg Bool.false_ne_true]
      exact back I5 q5
    | true =>
      rw [if_pos rfl] at q5
      rw [if_pos rfl]
      refine thnF (pe.run _ s5 σ4 H5 _ I5 q5) fun v s6 ⟨y, H6, I6, r6, acc, hD, hz, nx⟩ => ?_
      exact app_ok (X := bCx X z Z sc L cl fp) I6 hD hz r6 fun s7 I7 => back I7 nx
theorem lcB_core {pins : List (Addr × Obj)} {s : Shared} {τ : L2.St} {H : Hp} {Q : VK} {e tg iter : Expr} {sc : Scope} {own : List (Str × Nat)} {pos pos' : Pos} {wi : TI} {g : TG} {te : TE} {use : Option (Value → Sem Unit)} {Qf : Value → Shared → Prop}
    (hc : X.calm = true) (hN : X.N.Nodup) (I : Inv X pins τ H s) (hi : PI X tg iter wi) (ok : BlkOk X.N X.env.scope sc own)
    (hg : ∀ (z : Shared) (Z : Hp) (L : Addr) (cl : List (Str × Addr)) (fp : List Addr), PG (bCx X z Z sc L cl fp) tg g) (he : ElB X τ sc e te) (hs : ∀ x, foldedSetIterable iter X.env x = pure x)
    (h : tLc wi g tYes te (own.map (·.2)) τ H Q)
    (hR : ∀ D L s' m H', Inv X pins τ H' s' → Q (.ref D) H' → s'.heap.Ns L m → FpOk X pins H' L → compPost (model X.prog X.w) X.A X.xe use Qf (.ref D) L (.ok .next) s') :
    wpAny (model X.prog X.w) X.A (comprehension (.ListComp e [⟨tg, iter, [], 0⟩] sc pos) sc X.env pos' (newList []) false (eval iter X.env) use) Qf X.xe s := by
  have hf : ∀ y ∈ sc.names, y.2 = .free → ∃ d, X.env.cells.lookup y.1 = some d := fun y hy k => (ok.free y hy k).elim (fun q => I.ok.has _ (.inl q)) fun q => I.ok.has _ (.inr q)
  refine wpAny_comprehension_free (use := use) rfl hs (closure_ok hf) ok.kind (fun y hy k => by rw [ok.uniq y hy, k]) ?_
  refine thn (hi.run pins s τ H _ I h) fun _ s1 h1 => thn h1 fun itv s2 h2 => ?_
  obtain ⟨it, fp, tn, J, H2, rfl, I2, T, t2, f2, q⟩ := h2
  refine wpAny_newObj_type (newEnv_comp ?_) (by show 0 ≤ sizeLine; decide)
  have nD : H2 s2.heap.objs.size = none := I2.hok.fresh (Nat.le_refl _)
  obtain ⟨W, ⟨m₀, w₀⟩, turn⟩ := q _ nD
  obtain ⟨D, eD⟩ : ∃ D, D = s2.heap.objs.size := ⟨_, rfl⟩
  have push : ∀ b o, s2.heap.get? b = some o → (s2.heap.push { cls := .type "list", data := .seq ([] : List Value).toArray }).get? b = some o := fun b o k => Heap.get?_push_of_some _ k
  have I3 : Inv X pins τ (upd H2 s2.heap.objs.size (.lst [])) { s2 with heap := s2.heap.push { cls := .type "list", data := .seq ([] : List Value).toArray } } :=
    I2.laid (t' := s2.toks) push (Nat.le_refl _) ⟨Nat.zero_le _, [], 0, .nil, Heap.get?_push_size _ rfl⟩
  have f3 : ∀ b ∈ fp, FpOk X pins (upd H2 s2.heap.objs.size (.lst [])) b ∧ b < (s2.heap.push { cls := .type "list", data := .seq ([] : List Value).toArray }).objs.size := fun b hb => by
    obtain ⟨o, ho, _⟩ := T.obj _ _ t2 b hb
    have lt := Heap.lt_size ho
    refine ⟨⟨?_, (f2 b hb).2⟩, ?_⟩
    · rw [upd_ne (Nat.ne_of_lt lt)]
      exact (f2 b hb).1
    · rw [Heap.size_push]
      exact Nat.lt_succ_of_lt lt
  have IS := block_start I3 ok hN f3
  have t3 := T.keep _ _ (pushCells ((s2.heap.push { cls := .type "list", data := .seq ([] : List Value).toArray }).push { cls := .type "dict", data := .dict #[] }) sc.names) t2 fun b _ o ho => pushCells_keeps _ _ _ _ (Heap.get?_push_of_some _ (push b o ho))
  have go := lcB_loop (own := own) (e := e) (it0 := iter) (pos := pos) (Q := Q) (D := s2.heap.objs.size) (R := compPost (model X.prog X.w) X.A X.xe use Qf (.ref s2.heap.objs.size) (s2.heap.push { cls := .type "list", data := .seq ([] : List Value).toArray }).objs.size) hc T I3 (fun b hb => (f3 b hb).1) rfl (Nat.le_refl _) (hg _ _ _ _ _) (he pins _ _ _ _ _ I3 fun b hb => (f3 b hb).1) IS t3 w₀ turn
    (fun s' m H' I' q' hm hl => hR _ _ s' m H' I' q' hm hl)
  exact codeAny_compStart_list go (T.self X.A 0 _ _ _ t3 go)
/-- as a value -/
theorem pe_lcB {e tg iter : Expr} {sc : Scope} {own : List (Str × Nat)} {pos : Pos} {wi : TI} {g : TG} {te : L2.St → TE} (hc : X.calm = true) (hN : X.N.Nodup) (hi : PI X tg iter wi) (ok : BlkOk X.N X.env.scope sc own)
    (hg : ∀ (z : Shared) (Z : Hp) (L : Addr) (cl : List (Str × Addr)) (fp : List Addr), PG (bCx X z Z sc L cl fp) tg g) (he : ∀ τ, ElB X τ sc e (te τ)) (hs : ∀ x, foldedSetIterable iter X.env x = pure x := by intro _; rfl) :
    PE X (.ListComp e [⟨tg, iter, [], 0⟩] sc pos) (fun σ H Q => tLc wi g tYes (te σ) (own.map (·.2)) σ H Q) := by
  refine ⟨fun pins s σ H Q I h => ?_⟩
  rw [eval_ListComp]
  refine lcB_core hc hN I hi ok hg (he σ) hs h fun D L s' m H' I' q hn f => ⟨m, hn, fun h'' sb => ?_⟩
  obtain ⟨f0, f1, _, f3, f4, f5⟩ := f
  exact ⟨.ref D, H', I'.turned (t' := s'.toks) (fun b o hb k => (sb.2 b hb).trans k) f0 f1 f3 f4 f5, rfl, q⟩
end
end Rl
/-! Kept lambdas are called in a comprehension's block: x(e) with x a def that calls what it gets, and a(). -/
namespace Rl
open PySem PySem.Spec PyProof.Rows L2 LamX
def tLamB {ι : Type} (F : ι → LF) (G : ι → Hp → Prop) (TT : (XK → Hp → VK → Prop) → Hp → VK → Prop) (ta : TA) (t : ι → XK → TE) (τ : L2.St) : TE := fun σ H Q => ta σ H fun vs H1 => ∃ (f : Addr) (i : ι), vs = [.ref f] ∧ H1 f = some (LamO f (F i)) ∧ H1 (F i).c = some (CodeO (F i).c (F i).q) ∧ G i H1 ∧ TT (fun E H' Q' => t i E τ H' Q') H1 Q
section
variable {X : Cx}
theorem el_lamB {ι : Type} {F : ι → LF} {G : ι → Hp → Prop} {TT : (XK → Hp → VK → Prop) → Hp → VK → Prop} {x a : Str} {g : Addr} {k : Nat} {pg : Arguments} {bg : List Stmt} {sg : Scope} {dV kV doc pm cdv ct oc : Value} {an od : Option Addr} {osl : Array (Option Value)} {Ng : List Str}
    {sc : Scope} {e : Expr} {ta : TA} {t : ι → XK → TE} {p pos : Pos} (hg : ∀ (z : Shared) (Z : Hp) (L : Addr) (cl : List (Str × Addr)) (fp : List Addr), Gl (bCx X z Z sc L cl fp) x) (hm : X.mg x = some (.ref g)) (hk : PySem.W.keepIn X.K (.ref g) = true)
    (lk : X.K.lookup g = some ⟨oc, od, .func (PySem.W.fnOf x x pg bg sg dV kV doc pm an cdv ct), osl⟩) (hcg : PySem.W.codeIn X.K cdv x = true) (hb : L2.Binds X.K (PySem.W.fnOf x x pg bg sg dV kV doc pm an cdv ct) [a] []) (Sg : FnScope Ng [a] sg) (hNg : Ng[0]? = some a) (hva : Vis sg a)
    (hG : GivesV X Ng x sg g cdv bg a TT) (fam : Fam X ι F G) (ha : ∀ (z : Shared) (Z : Hp) (L : Addr) (cl : List (Str × Addr)) (fp : List Addr), PA (bCx X z Z sc L cl fp) [e] ta) (hr : Room (k + 2) X.A)
    (hbody : ∀ (i : ι) (A : Around) (outer : List Env) (s : Shared) (H : Hp) (E : XK) (f : Addr), Room k (A.deeper (lamEnv X (F i).scope s.heap.objs.size f (F i).c)) → PE (lamCx X A outer s H E (F i).scope f (F i).c) (F i).body (t i E))
    (hst : ∀ (L : Addr) (cl : List (Str × Addr)), starEach [e] (compEnvC sc cl L X.env) = (false, eval e (compEnvC sc cl L X.env)) :: starEach [] (compEnvC sc cl L X.env) := by intros; rfl)
    (hpl : ∀ (L : Addr) (cl : List (Str × Addr)), (backTo pos (starEach ([] : List Expr) (compEnvC sc cl L X.env))).any (·.1) = false := by intros; rfl)
    (hdb : (x == ("__debug__" : Str)) = false := by decide) (hd : (a == ("__debug__" : Str)) = false := by decide) (hcd : (a == ("__classdict__" : Str)) = false := by decide) (τ : L2.St) :
    ElB X τ sc (.Call (.Name x p) [e] [] pos) (tLamB F G TT ta t τ) := by
  intro pinsX z Z L cl fp IX fpo
  refine ⟨fun pins s σ H Q I h => ?_⟩
  have hex : ∀ y d, X.env.cells.lookup y = some d → d ∉ fp := fun y d hy hd => (fpo d hd).2.2.2.2.1 y d hy rfl
  refine wpAny_Call_Name_kw (ld_glob I (hg z Z L cl fp) hm ?_ hdb)
  refine PySem.W.callWith_K (h₀ := X.base) I.ok.mod.kin hk (thn ((ha z Z L cl fp).run pos pins s σ H _ I h) fun us s1 ⟨vs, H1, I1, r, q⟩ => ⟨I1.kIn, ?_⟩) (hst L cl) (hpl L cl)
  obtain ⟨f, i, rfl, e1, e2, e3, q⟩ := q
  rw [Vals.ref1 r]
  have rc : codeAny (model X.prog X.w) X.A (.call (.ref g) ⟨[.ref f], []⟩) (CR C8.CX0 X.stack X.prog X.w H1 s1 Q C8.E0) s1 := by
    refine run_ofS (N := Ng) (ps := [a]) (us := [.ref f]) (vs := [.ref f]) lk hcg Sg hr I1.env0 (hb s1 [.ref f] I1.kIn rfl) (.cons rfl .nil) rfl fun hr2 => ?_
    have go := hG f (fun HZ => HZ f = some (LamO f (F i)) ∧ HZ (F i).c = some (CodeO (F i).c (F i).q) ∧ G i HZ) s1 H1 Q (fun E H' Q' => t i E τ H' Q') (fun W pn xe p1 p2 tk => by
      have act := pe_actVB (i := 0) (p1 := p1) (p2 := p2) (E := fun σ' cls d H' => W cls d σ' H') (tb := t i) IX hex I1.base (fam.nm i) (fam.cl i) (fam.q i) (fam.bind i) tk (fun _ _ _ _ z => z) hr2 (fun E' A outer s H hr3 => hbody i A outer s H E' f hr3) hNg hva hd hcd
      exact ⟨fun pins2 s2 σ2 H2 Q2 I2 ⟨a1, ⟨a2, a3, a4⟩, a5⟩ => act.run pins2 s2 σ2 H2 Q2 I2 ⟨a1, a2, a3, a4, a5⟩⟩) ⟨e1, e2, e3⟩ q
    obtain ⟨t', ht', hq'⟩ := go
    exact ⟨t', ht'.nox, hq'⟩
  refine wpAny_call (codeAny_mono rc fun r s2 hh => ?_)
  cases r with
  | error e => exact (show False from hh).elim
  | ok fl =>
    cases fl with
    | ret u => exact I1.after hh
    | next => exact hh.elim
    | brk => exact hh.elim
    | cont => exact hh.elim
/-- a() in the block, a its own name -/
theorem el_actB {ι : Type} {F : ι → LF} {G : ι → Hp → Prop} {sc : Scope} {j k : Nat} {a : Str} {t : ι → TE} {p1 p2 : Pos} (fam : Fam X ι F G) (hr : Room (k + 1) X.A)
    (hbody : ∀ (i : ι) (A : Around) (outer : List Env) (s : Shared) (H : Hp) (f : Addr), Room k (A.deeper (lamEnv X (F i).scope s.heap.objs.size f (F i).c)) → PE (lamCx X A outer s H C8.E0 (F i).scope f (F i).c) (F i).body (t i))
    (hN : X.N[j]? = some a) (hv : ∀ (L : Addr) (cl : List (Str × Addr)), Vis (compEnvC sc cl L X.env).scope a) (hd : (a == ("__debug__" : Str)) = false := by decide) (hcd : (a == ("__classdict__" : Str)) = false := by decide) (τ : L2.St) :
    ElB X τ sc (.Call (.Name a p1) [] [] p2) (fun σ H Q => ∃ (f : Addr) (i : ι), σ[j]? = some (some (.ref f)) ∧ H f = some (LamO f (F i)) ∧ H (F i).c = some (CodeO (F i).c (F i).q) ∧ G i H ∧ t i τ H Q) := by
  intro pinsX z Z L cl fp IX fpo
  refine ⟨fun pins s σ H Q I h => ?_⟩
  have hex : ∀ y d, X.env.cells.lookup y = some d → d ∉ fp := fun y d hy hd => (fpo d hd).2.2.2.2.1 y d hy rfl
  obtain ⟨f, i, hs, hf, hc, hg, ht⟩ := h
  refine wpAny_Call_Name_kw (thn ((pe_var (X := bCx X z Z sc L cl fp) (pos := p1) (i := j) hN (hv L cl) hd hcd).run pins s σ H (fun v H1 => v = .ref f ∧ H1 = H) I ⟨.ref f, hs, rfl, rfl⟩) fun u s2 ⟨v, H2, I2, rv, e1, e2⟩ => ?_)
  subst e1
  rw [e2] at I2
  obtain rfl : u = Value.ref f := rv
  obtain ⟨⟨doc, pm, ctv, of1⟩, _, _⟩ := I2.hok f _ hf
  obtain ⟨⟨oc, vs, tt, c1, c2, c3⟩, _, _⟩ := I2.hok (F i).c _ hc
  refine PySem.W.callWith_F0 ⟨_, _, _, _, of1⟩ ?_
  have un : Un (frs X.stack) fp Z H z.heap s2.heap := I2.base
  obtain ⟨binds, hbi, hloc⟩ := fam.bind i doc pm ctv s2 H I2.hok hg
  have rc : codeAny (model X.prog X.w) X.A (.call (.ref f) ⟨[], []⟩) (CR (L2.CX X.prog X.w) X.stack X.prog X.w H s2 Q C8.E0) s2 := by
    refine PySem.W.kla_callFunE hr.depth of1 rfl (fam.nm i).co (fam.nm i).gen rfl ⟨(F i).c, oc, vs, tt, rfl, c1, c2, c3⟩ (hbi _ _ _ _ ?_)
    refine wpAny_newFunctionEnv (fam.nm i).nocell hloc (fun h1 hns hsb => ⟨I2.nolimit.fresh _ hsb, ?_⟩) (fam.nm i).kind
    have ee : PySem.W.envX (F i).q (F i).scope s2.heap.objs.size f (.ref (F i).c) (F i).cl = lamEnv X (F i).scope s2.heap.objs.size f (F i).c := by rw [fam.q i, fam.cl i]
    show codeAny _ _ (.expr (F i).body (PySem.W.envX (F i).q (F i).scope s2.heap.objs.size f (.ref (F i).c) (F i).cl)) _ _
    rw [ee]
    have kp : ∀ b o, s2.heap.get? b = some o → h1.get? b = some o := fun b o q => hsb.extBut b o (Nat.ne_of_lt (Heap.lt_size q)) (Heap.get?_push_of_some _ q)
    have J := lam_enter (E := C8.E0) (scope := (F i).scope) (f := f) (c' := (F i).c) (tk := s2.toks + binds.length) IX (fam.nm i) I2.env0 hr.hd hex un hns kp
    refine PySem.W.kla_codeExpr (wpAny_mono ((hbody i _ _ s2 H f (hr.deeper _)).run [] _ _ H Q J ht) (fun v s' hh => ?_) fun q s' hh => hh)
    obtain ⟨w', H', J', r', q'⟩ := hh
    exact ⟨w', H', J'.os, J'.bare, J'.base, J'.hok, r', q'⟩
  refine wpAny_call (codeAny_mono rc fun r s3 hh => ?_)
  cases r with
  | error q =>
    obtain ⟨_, _, _, _, _, _, _, _, _, _, _, _, z⟩ := (show L2.CX X.prog X.w X.stack H s2 C8.E0 q s3 from hh)
    exact (show False from z).elim
  | ok fl =>
    cases fl with
    | ret u => exact I2.after hh
    | next => exact hh.elim
    | brk => exact hh.elim
    | cont => exact hh.elim
/-- name = [..] on one line, the name a local -/
theorem ps_setLcB {i : Nat} {y : Str} {py : Pos} {e tg iter : Expr} {sc : Scope} {own : List (Str × Nat)} {pos spos : Pos} {wi : TI} {g : TG} {te : L2.St → TE} (hc : X.calm = true) (hN : X.N.Nodup) (hy : X.N[i]? = some y) (hyl : X.env.scope.names.lookup y = some .local)
    (hsw : swapsWith (.ListComp e [⟨tg, iter, [], 0⟩] sc pos) (some (.Name y py)) spos.line X.env = pure true) (hi : PI X tg iter wi) (ok : BlkOk X.N X.env.scope sc own)
    (hg : ∀ (z : Shared) (Z : Hp) (L : Addr) (cl : List (Str × Addr)) (fp : List Addr), PG (bCx X z Z sc L cl fp) tg g) (he : ∀ τ, ElB X τ sc e (te τ)) (hs : ∀ x, foldedSetIterable iter X.env x = pure x := by intro _; rfl) :
    PS X (.Assign [.Name y py] (.ListComp e [⟨tg, iter, [], 0⟩] sc pos) spos) (tAsg (fun σ H Q => tLc wi g tYes (te σ) (own.map (·.2)) σ H Q) (gName i)) := by
  refine ⟨fun pins s σ H D I h => ?_⟩
  rw [exec_Assign_Name_used _ _ _ _ hsw]
  refine wpAny_bind (wpAny_standAt (wpAny_bind ?_))
  have h : tLc wi g tYes (te σ) (own.map (·.2)) σ H (fun x H1 => gName i x σ H1 D.nx) := h
  refine wpAny_bind (thn (lcB_core (Qf := fun _ s' => SP X pins D .next s') (use := some (assign (.Name y py) X.env)) hc hN I hi ok hg (he σ) hs h ?_) fun _ s' hq => wpAny_pure (wpAny_pure hq))
  intro L C s' m H' I' q hn f
  obtain ⟨f0, f1, f2, f3, f4, f5⟩ := f
  refine wpAny_assign_Name (store_ok2 (v := V.ref L) I' hN hy (.inl hyl) rfl (fun s2 I2 ⟨a, sb, ha⟩ => ?_) (.inr hyl))
  have haC : C ≠ a := by
    rcases ha with z | z
    · rw [z]; exact f1
    · exact fun e => f4 y a z e.symm
  exact ⟨m, hn.sameBut sb haC, fun h3 sb3 => ⟨_, H', I2.turned (t' := s2.toks) (fun b o hb e => (sb3.2 b hb).trans e) f0 f1 f3 f4 f5, q⟩⟩
end
end Rl
/-! xs.count(y) of flat items; what a suite that knows the class of its error wants. -/
namespace Rt
open PySem PySem.Spec PyProof.Rows L2
section
variable {X : Cx}
def rCntV (K : PySem.W.Frag) : V → List V → Hp → VK → Prop := fun x xs H Q => ∃ (p : Addr) (ys : List V) (y : V), x = .ref p ∧ xs = [y] ∧ SqL K H p ys ∧ flatV y = true ∧ ys.all flatV = true ∧ Q (.int (ys.countP (fun z => eqV z y) : Nat)) H
theorem cntV_eq {y : V} : ∀ {ys : List V} {its : List Value}, Vals ys its → ys.all flatV = true → its.countP (eqU y) = ys.countP (fun z => eqV z y)
  | [], _, .nil, _ => rfl
  | z :: ys, _, .cons r rr, f => by
    simp only [List.all_cons, Bool.and_eq_true] at f
    rw [List.countP_cons, List.countP_cons, cntV_eq rr f.2, eqU_of r f.1]
theorem mt_countV : MtR X "list.count" (rCntV X.K) := by
  intro pins s σ H x xs v us Q I rx rxs h
  obtain ⟨p, ys, y, rfl, rfl, hs, fy, fys, q⟩ := h
  cases rx
  cases rxs with
  | cons ry rt =>
    rename_i uy ut
    cases rt
    obtain ⟨its, rv, ⟨⟨cls, dd, data, sl⟩, n, ho, hc, hdn, hd⟩, hlen⟩ := I.list hs
    simp only at hc hd
    subst hc hd
    refine call_meets PySem.F.slot_list_count ⟨_, ho, rfl⟩ PySem.F.entry_list_count (PySem.F.args_list_count_2 _ _)
      (SeqAt.list_countAt p its.toArray n dd sl uy (eqU y)) ⟨ho, fun u' hu' => mem_eqAt ry fy rv fys u' (by simpa using hu'), ?_⟩
    have ec : its.toArray.toList.countP (eqU y) = ys.countP (fun z => eqV z y) := cntV_eq rv fys
    rw [ec]
    exact ⟨.int _, H, I.kept (t' := s.toks + 1) fun _ _ z => z, ⟨_, rfl⟩, q⟩
/-- the classes that the suite asks for -/
structure TdS (K : PySem.W.Frag) (mg : Str → Option Value) where
  c0 : Addr
  c1 : Addr
  c2 : Addr
  c3 : Addr
  c4 : Addr
  c5 : Addr
  c6 : Addr
  cE : Addr
  g0 : mg "InvalidRing" = some (.ref c0)
  g1 : mg "InvalidChain" = some (.ref c1)
  g2 : mg "UnknownReader" = some (.ref c2)
  g3 : mg "UnknownBook" = some (.ref c3)
  g4 : mg "InvalidNumber" = some (.ref c4)
  g5 : mg "SameBook" = some (.ref c5)
  g6 : mg "OtherRing" = some (.ref c6)
  gE : mg "ReadingError" = some (.ref cE)
  zV : mg "ValueError" = none
  zI : mg "isinstance" = none
/-- the class at D is the j-th of them, without fields -/
structure TdR {K : PySem.W.Frag} {mg : Str → Option Value} (S : TdS K mg) (D : Addr) (j : Nat) : Prop where
  lo : 2 ≤ j
  hi : j ≤ 6
  ex : ExcC K D
  ee : PySem.W.exmOne K (.ref D) (.ref S.cE) = some true
  k0 : PySem.W.kitOne K (.ref D) (.ref S.c0) = some (decide (j = 0))
  k1 : PySem.W.kitOne K (.ref D) (.ref S.c1) = some (decide (j = 1))
  k2 : PySem.W.kitOne K (.ref D) (.ref S.c2) = some (decide (j = 2))
  k3 : PySem.W.kitOne K (.ref D) (.ref S.c3) = some (decide (j = 3))
  k4 : PySem.W.kitOne K (.ref D) (.ref S.c4) = some (decide (j = 4))
  k5 : PySem.W.kitOne K (.ref D) (.ref S.c5) = some (decide (j = 5))
  k6 : PySem.W.kitOne K (.ref D) (.ref S.c6) = some (decide (j = 6))
  kv : PySem.W.kitOne K (.ref D) (.type "ValueError") = some true
/-- the same class, as the program raises it by its name -/
structure TdE {K : PySem.W.Frag} {mg : Str → Option Value} (S : TdS K mg) (x : Str) (D : Addr) (j : Nat) : Prop where
  r : TdR S D j
  g : mg x = some (.ref D)
  xF : PySem.W.excIn K D [.type "ValueError", .type "Exception", .type "BaseException", .type "object"] "ValueError.__new__" = true
  bF : PySem.W.subIn K (.ref D) (.type "BaseException") = some true
  tF : PySem.W.typeIn K (.ref D) = some (.type "type")
  kF : PySem.W.keepIn K (.ref D) = true
/-- a def whose code object is known -/
structure FunC (K : PySem.W.Frag) (x qual : Str) (st : Stmt) (f : Addr) (fd : FuncData) (cd : Value) : Prop where
  ex : ∃ (oc : Value) (od : Option Addr) (kV doc pm : Value) (an : Option Addr) (ct : Value) (osl : Array (Option Value)),
    fd = PySem.W.fnOf x qual (defArgs st) (defBody st) (defScope st) .none kV doc pm an cd ct ∧ K.lookup f = some ⟨oc, od, .func fd, osl⟩ ∧ PySem.W.codeIn K cd qual = true
theorem FunC.ok {P : Program} {w : World} {K : PySem.W.Frag} {mg : Str → Option Value} {base : Heap} {x qual : Str} {st : Stmt} {f : Addr} {fd : FuncData} {cd : Value} {N ps : List Str} {k : Nat} {sp : Sp} (F : FunC K x qual st f fd cd) (S : FnScope N ps (defScope st)) (len : ∀ vs H Q E, sp vs H Q E → vs.length = ps.length)
    (hbody : ∀ (A : Around) (outer : List Env) (s : Shared) (H : Hp) (vs : List V) (Q : VK) (E : XK), Room k (A.deeper (envOfC qual (defScope st) s.heap.objs.size f cd)) → sp vs H Q E →
      ∃ t, PSs (cxOf CX0 P w K mg base N qual (defScope st) f cd A outer s H E).nox (defBody st) t ∧ t { nx := fun _ H' => Q .non H', rt := Q } (start N vs) H) : FnOk P w K mg base CX0 (k + 1) f fd ps sp := by
  obtain ⟨oc, od, kV, doc, pm, an, ct, osl, rfl, lk, hcd⟩ := F.ex
  refine fn_of lk hcd S len fun A outer s H vs Q E hr hsp => ?_
  obtain ⟨t, h, q⟩ := hbody A outer s H vs Q E hr hsp
  exact ⟨t, h.nox, q⟩
/-- what told says of the j-th -/
def tdNm (j : Nat) : Str := (["UnknownReader", "UnknownBook", "InvalidNumber", "SameBook", "OtherRing", "other"] : List Str).getD (j - 2) ""
/-- the end of told at an error: its reading -/
def TO {K : PySem.W.Frag} {mg : Str → Option Value} (S : TdS K mg) (Q : VK) : XK := fun cls d H => ∃ (D : Addr) (j : Nat), cls = .ref D ∧ d = none ∧ TdR S D j ∧
  ∀ (p : Addr) (H' : Hp), (∀ b o, H b = some o → H' b = some o) → H p = none → H' p = some (.tup [.str "error", .str (tdNm j)]) → Q (.ref p) H'
end
end Rt
/-! told: a kept lambda is called, its error is told. -/
namespace Rp
open PySem PySem.Spec PyProof.Rows L2 Rz Rm Rt Rl
section
variable {X : Cx} {g f : Addr} {cdg : Value} {s : Shared} {H : Hp} {K : PySem.W.Frag} {mg : Str → Option Value}
abbrev toldCx (X : Cx) (g : Addr) (cdg : Value) (s : Shared) (H : Hp) : Cx := (cxOf C8.CX0 X.prog X.w X.K X.mg X.base N_ltold "_law_told" (defScope s_ltold) g cdg X.A X.stack s H C8.E0).nox
/-- the suite of told's except clause -/
abbrev toldSuite : List Stmt := match (defBody s_ltold).getLast? with
  | some (.Try _ [.ExceptHandler _ _ st _] _ _ _) => st
  | _ => []
theorem told_suite (S : TdS X.K X.mg) {D : Addr} {j : Nat} (R : TdR S D j) {a : Addr} {oe : Obj} {pn : List (Addr × Obj)} (hz : Zc (.ref D) none oe) (hf : ∃ vs, oe.data = .fields vs)
    {DD : Ends} {wv y2 y3 : Option V} {H1 : Hp} {Q : VK} (hrt : DD.rt = Q)
    (q : ∀ (p : Addr) (H' : Hp), (∀ b o, H1 b = some o → H' b = some o) → H1 p = none → H' p = some (.tup [.str "error", .str (tdNm j)]) → Q (.ref p) H') :
    ∃ t, PSs ((toldCx X g cdg s H).suite a ((a, oe) :: pn)) toldSuite t ∧ t DD [wv, some (.ref a), y2, y3] H1 := by
  have nd := sc_ltold.nd
  subst hrt
  refine ⟨_, pss_cons (ps_set (i := 2) nd rfl (.inl rfl) (pe_lst (pa_cons (pe_callB (call_isE R.ex hz hf) (by rfl) S.zI (by decide +kernel) (pa_cons (pv 1) (pa_cons (pe_glob (v := .ref S.c0) (by rfl) S.g0 rfl) pa_nil))) (pa_cons (pe_callB (call_isE R.ex hz hf) (by rfl) S.zI (by decide +kernel) (pa_cons (pv 1) (pa_cons (pe_glob (v := .ref S.c1) (by rfl) S.g1 rfl) pa_nil))) (pa_cons (pe_callB (call_isE R.ex hz hf) (by rfl) S.zI (by decide +kernel) (pa_cons (pv 1) (pa_cons (pe_glob (v := .ref S.c2) (by rfl) S.g2 rfl) pa_nil))) pa_nil)))))
    (pss_cons (ps_set (i := 2) nd rfl (.inl rfl) (pe_op op_cat (pv 2) (pe_lst (pa_cons (pe_callB (call_isE R.ex hz hf) (by rfl) S.zI (by decide +kernel) (pa_cons (pv 1) (pa_cons (pe_glob (v := .ref S.c3) (by rfl) S.g3 rfl) pa_nil))) (pa_cons (pe_callB (call_isE R.ex hz hf) (by rfl) S.zI (by decide +kernel) (pa_cons (pv 1) (pa_cons (pe_glob (v := .ref S.c4) (by rfl) S.g4 rfl) pa_nil))) (pa_cons (pe_callB (call_isE R.ex hz hf) (by rfl) S.zI (by decide +kernel) (pa_cons (pv 1) (pa_cons (pe_glob (v := .ref S.c5) (by rfl) S.g5 rfl) pa_nil))) pa_nil))))))
    (pss_cons (ps_expr (pe_bm PySem.F.plainAttrs_list PySem.F.slot_list_append PySem.F.type_list_append mt_append (pv 2) (pa_cons (pe_callB (call_isE R.ex hz hf) (by rfl) S.zI (by decide +kernel) (pa_cons (pv 1) (pa_cons (pe_glob (v := .ref S.c6) (by rfl) S.g6 rfl) pa_nil))) pa_nil)))
    (pss_cons (ps_set (i := 3) nd rfl (.inl rfl) (pe_ifExp (PW.pt (pw_and (pt_cmpR op_eq (pe_bm PySem.F.plainAttrs_list PySem.F.slot_list_count PySem.F.type_list_count mt_countV (pv 2) (pa_cons pe_bl pa_nil)) pe_int (nomark _))
        (pw_and1 (pt_val (pe_callB (call_isE R.ex hz hf) (by rfl) S.zI (by decide +kernel) (pa_cons (pv 1) (pa_cons (pe_bltn (v := .ty "ValueError") (u := .type "ValueError") (by rfl) S.zV (by decide +kernel) rfl) pa_nil)))))))
      (pe_bm PySem.F.plainAttrs_list PySem.F.slot_list_index PySem.F.type_list_index mt_index (pv 2) (pa_cons pe_bl pa_nil)) pe_int))
    (pss_cons (ps_if (pt_cmpR op_eq (pv 3) pe_int (nomark _)) (pss_one ps_never) pss_nil)
    (pss_cons (ps_if (pt_cmpR op_eq (pv 3) pe_int (nomark _)) (pss_one ps_never) pss_nil)
    (pss_one (ps_ret (pe_tup (pa_cons pe_str (pa_cons (pe_ix ix_list (pe_lst (pa_cons pe_str (pa_cons pe_str (pa_cons pe_str (pa_cons pe_str (pa_cons pe_str (pa_cons pe_str pa_nil))))))) (pe_op op_sub (pv 3) pe_int) (fun _ _ => rfl)) pa_nil)))))))))), ?_⟩
  have lo := R.lo
  have hi := R.hi
  refine ⟨.ref a, rfl, .ref S.c0, .ref S.c0, _, rfl, fun u h => h, R.k0, .ref a, rfl, .ref S.c1, .ref S.c1, _, rfl, fun u h => h, R.k1, .ref a, rfl, .ref S.c2, .ref S.c2, _, rfl, fun u h => h, R.k2, (by show 3 ≤ sizeLine; decide), fun p1 hp1 => ?_⟩
  refine ⟨.ref p1, rfl, .ref a, rfl, .ref S.c3, .ref S.c3, _, rfl, fun u h => h, R.k3, .ref a, rfl, .ref S.c4, .ref S.c4, _, rfl, fun u h => h, R.k4, .ref a, rfl, .ref S.c5, .ref S.c5, _, rfl, fun u h => h, R.k5, (by show 3 ≤ sizeLine; decide), fun p2 hp2 => ⟨p1, p2, _, _, rfl, rfl, (upd_ne (ne_of_none upd_same hp2)).trans upd_same, upd_same, (by show 3 + 3 ≤ sizeLine; decide), fun p3 hp3 => ?_⟩⟩
  have s3 : ∀ b o, H1 b = some o → (upd (upd (upd H1 p1 (.lst [.bl (decide (j = 0)), .bl (decide (j = 1)), .bl (decide (j = 2))])) p2 (.lst [.bl (decide (j = 3)), .bl (decide (j = 4)), .bl (decide (j = 5))])) p3 (.lst [.bl (decide (j = 0)), .bl (decide (j = 1)), .bl (decide (j = 2)), .bl (decide (j = 3)), .bl (decide (j = 4)), .bl (decide (j = 5))])) b = some o := fun b o e => by
    have e1 : (upd H1 p1 (.lst [.bl (decide (j = 0)), .bl (decide (j = 1)), .bl (decide (j = 2))])) b = some o := (upd_ne (ne_of_none e hp1)).trans e
    exact (upd_ne (ne_of_none ((upd_ne (ne_of_none e1 hp2)).trans e1) hp3)).trans ((upd_ne (ne_of_none e1 hp2)).trans e1)
  have n3 : H1 p3 = none := by
    cases e : H1 p3 with
    | none => rfl
    | some o =>
      have e1 : (upd H1 p1 (.lst [.bl (decide (j = 0)), .bl (decide (j = 1)), .bl (decide (j = 2))])) p3 = some o := (upd_ne (ne_of_none e hp1)).trans e
      have z := hp3.symm.trans ((upd_ne (ne_of_none e1 hp2)).trans e1)
      cases z
  have g3 : (upd (upd (upd H1 p1 (.lst [.bl (decide (j = 0)), .bl (decide (j = 1)), .bl (decide (j = 2))])) p2 (.lst [.bl (decide (j = 3)), .bl (decide (j = 4)), .bl (decide (j = 5))])) p3 (.lst [.bl (decide (j = 0)), .bl (decide (j = 1)), .bl (decide (j = 2)), .bl (decide (j = 3)), .bl (decide (j = 4)), .bl (decide (j = 5))])) p3 = some (.lst [.bl (decide (j = 0)), .bl (decide (j = 1)), .bl (decide (j = 2)), .bl (decide (j = 3)), .bl (decide (j = 4)), .bl (decide (j = 5))]) := upd_same
  show tSeq _ _ _ [wv, some (.ref a), some (.ref p3), y3] (upd (upd (upd H1 p1 (.lst [.bl (decide (j = 0)), .bl (decide (j = 1)), .bl (decide (j = 2))])) p2 (.lst [.bl (decide (j = 3)), .bl (decide (j = 4)), .bl (decide (j = 5))])) p3 (.lst [.bl (decide (j = 0)), .bl (decide (j = 1)), .bl (decide (j = 2)), .bl (decide (j = 3)), .bl (decide (j = 4)), .bl (decide (j = 5))]))
  generalize (upd (upd (upd H1 p1 (.lst [.bl (decide (j = 0)), .bl (decide (j = 1)), .bl (decide (j = 2))])) p2 (.lst [.bl (decide (j = 3)), .bl (decide (j = 4)), .bl (decide (j = 5))])) p3 (.lst [.bl (decide (j = 0)), .bl (decide (j = 1)), .bl (decide (j = 2)), .bl (decide (j = 3)), .bl (decide (j = 4)), .bl (decide (j = 5))])) = H3 at s3 g3
  refine ⟨.ref p3, rfl, .inl ⟨rfl, _, SqL.of g3⟩, .ref a, rfl, .ref S.c6, .ref S.c6, _, rfl, fun u h => h, R.k6, p3, _, _, rfl, rfl, g3, (by show 6 < sizeLine; decide), ?_⟩
  have hj : j = 2 ∨ j = 3 ∨ j = 4 ∨ j = 5 ∨ j = 6 := by omega
  have s4 : ∀ b o, H1 b = some o → (upd H3 p3 (.lst ([.bl (decide (j = 0)), .bl (decide (j = 1)), .bl (decide (j = 2)), .bl (decide (j = 3)), .bl (decide (j = 4)), .bl (decide (j = 5))] ++ [.bl (decide (j = 6))]))) b = some o := fun b o e => (upd_ne (ne_of_none e n3)).trans (s3 b o e)
  have g4 : (upd H3 p3 (.lst ([.bl (decide (j = 0)), .bl (decide (j = 1)), .bl (decide (j = 2)), .bl (decide (j = 3)), .bl (decide (j = 4)), .bl (decide (j = 5))] ++ [.bl (decide (j = 6))]))) p3 = some (.lst ([.bl (decide (j = 0)), .bl (decide (j = 1)), .bl (decide (j = 2)), .bl (decide (j = 3)), .bl (decide (j = 4)), .bl (decide (j = 5))] ++ [.bl (decide (j = 6))])) := upd_same
  show tSeq _ _ _ [wv, some (.ref a), some (.ref p3), y3] (upd H3 p3 (.lst ([.bl (decide (j = 0)), .bl (decide (j = 1)), .bl (decide (j = 2)), .bl (decide (j = 3)), .bl (decide (j = 4)), .bl (decide (j = 5))] ++ [.bl (decide (j = 6))])))
  generalize (upd H3 p3 (.lst ([.bl (decide (j = 0)), .bl (decide (j = 1)), .bl (decide (j = 2)), .bl (decide (j = 3)), .bl (decide (j = 4)), .bl (decide (j = 5))] ++ [.bl (decide (j = 6))]))) = H4 at s4 g4
  have hcnt : List.countP (fun z => eqV z (.bl true)) (([.bl (decide (j = 0)), .bl (decide (j = 1)), .bl (decide (j = 2)), .bl (decide (j = 3)), .bl (decide (j = 4)), .bl (decide (j = 5))] ++ [.bl (decide (j = 6))]) : List V) = 1 := by
    rcases hj with rfl | rfl | rfl | rfl | rfl <;> rfl
  have hget : (([.bl (decide (j = 0)), .bl (decide (j = 1)), .bl (decide (j = 2)), .bl (decide (j = 3)), .bl (decide (j = 4)), .bl (decide (j = 5))] ++ [.bl (decide (j = 6))]) : List V)[j]? = some (.bl true) := by
    rcases hj with rfl | rfl | rfl | rfl | rfl <;> rfl
  have hno : ∀ (m : Nat) (z' : V), m < j → (([.bl (decide (j = 0)), .bl (decide (j = 1)), .bl (decide (j = 2)), .bl (decide (j = 3)), .bl (decide (j = 4)), .bl (decide (j = 5))] ++ [.bl (decide (j = 6))]) : List V)[m]? = some z' → eqV z' (.bl true) = false := by
    intro m z' hm e
    have hm' : m = 0 ∨ m = 1 ∨ m = 2 ∨ m = 3 ∨ m = 4 ∨ m = 5 := by omega
    have ez : z' = .bl (decide (j = m)) := by
      rcases hm' with rfl | rfl | rfl | rfl | rfl | rfl <;> (cases e; rfl)
    rw [ez, decide_eq_false (by omega)]
    rfl
  have hnm : atI ([.str "UnknownReader", .str "UnknownBook", .str "InvalidNumber", .str "SameBook", .str "OtherRing", .str "other"] : List V) ((j : Int) - 2) = some (.str (tdNm j)) := by
    rcases hj with rfl | rfl | rfl | rfl | rfl <;> rfl
  refine ⟨.ref p3, rfl, .inl ⟨rfl, _, SqL.of g4⟩, p3, _, .bl true, rfl, rfl, SqL.of g4, rfl, rfl, ?_⟩
  rw [hcnt]
  refine ⟨rfl, true, rfl, ?_⟩
  refine iteT ?_
  refine ⟨.ref a, rfl, .ty "ValueError", .type "ValueError", true, rfl, fun u h => h, R.kv, true, rfl, ?_⟩
  refine iteT ?_
  refine ⟨.ref p3, rfl, .inl ⟨rfl, _, SqL.of g4⟩, p3, _, .bl true, j, .bl true, rfl, rfl, SqL.of g4, rfl, rfl, hget, rfl, hno, ?_⟩
  show tSeq _ _ _ [wv, some (.ref a), some (.ref p3), some (.int (j : Int))] H4
  refine ⟨_, rfl, rfl, _, rfl, ?_⟩
  rw [decide_eq_false (show ¬ V.int (j : Int) = V.int 0 from fun z => by injection z with z; omega)]
  refine iteF ?_
  refine ⟨_, rfl, rfl, _, rfl, ?_⟩
  rw [decide_eq_false (show ¬ V.int (j : Int) = V.int 1 from fun z => by injection z with z; omega)]
  refine iteF ?_
  refine ⟨(by show 6 ≤ sizeLine; decide), fun p5 hp5 => ?_⟩
  refine ⟨_, rfl, _, _, rfl, rfl, ?_⟩
  refine ⟨p5, _, _, _, rfl, rfl, SqL.of upd_same, hnm, ?_⟩
  refine ⟨(by show 2 ≤ sizeLine; decide), fun p6 hp6 => ?_⟩
  have s5 : ∀ b o, H1 b = some o → (upd H4 p5 (.lst [.str "UnknownReader", .str "UnknownBook", .str "InvalidNumber", .str "SameBook", .str "OtherRing", .str "other"])) b = some o := fun b o e => (upd_ne (ne_of_none (s4 b o e) hp5)).trans (s4 b o e)
  refine q p6 _ (fun b o e => (upd_ne (ne_of_none (s5 b o e) hp6)).trans (s5 b o e)) ?_ upd_same
  cases e : H1 p6 with
  | none => rfl
  | some o =>
    have z := hp6.symm.trans (s5 _ _ e)
    cases z
/-- told's end: what the lambda gives, or what is told of its error -/
def TTold {K : PySem.W.Frag} {mg : Str → Option Value} (S : TdS K mg) : (XK → Hp → VK → Prop) → Hp → VK → Prop := fun tl H Q => ∀ E : XK, (∀ cls d H', TO S Q cls d H' → E cls d H') → tl E H Q
theorem gives_told (S : TdS X.K X.mg) : GivesV X N_ltold "_law_told" (defScope s_ltold) g cdg (defBody s_ltold) "_law_work" (TTold S) := by
  intro f R s H Q tl hact hR ht
  have nd := sc_ltold.nd
  refine ⟨_, pss_one (ps_try_as (i := 1) (c := .ref S.cE) (Wout := fun _ _ _ _ => False)
    (ts := fun a cls d DD σ1 H1 => ∀ (oe : Obj) (pn : List (Addr × Obj)), Zc cls d oe → (∃ vs, oe.data = .fields vs) → ∃ t, PSs ((toldCx X g cdg s H).suite a ((a, oe) :: pn)) toldSuite t ∧ t DD σ1 H1)
    rfl rfl nd rfl rfl ⟨rfl, by decide, Or.inl S.gE⟩ LamX.takes0
    (fun W pn xe tk _ => pss_one (ps_ret (hact W pn xe _ _ tk)))
    (fun a oe cls d pn hz hf => ⟨fun pins s1 σ1 H1 DD I h => by
      obtain ⟨t, ht, hh⟩ := h oe pn hz hf
      exact ht.run pins s1 σ1 H1 DD I hh⟩)), ?_⟩
  refine ⟨rfl, hR, ht _ fun cls d H' hto => ?_⟩
  obtain ⟨D, j, rfl, rfl, RR, q⟩ := hto
  refine ⟨true, RR.ee, fun _ a ha oe pn hz hf => ?_, fun z => Bool.noConfusion z⟩
  exact told_suite S RR hz hf rfl q
end
end Rp
/-! InvalidChain(index): made, raised and told. -/
namespace Rp
open PySem PySem.Spec PyProof.Rows L2 Rz Rm Rt Rl LamX
/-- what ReadingError.__init__ is, and that InvalidChain has no class field index -/
structure TdB {K : PySem.W.Frag} {mg : Str → Option Value} (S : TdS K mg) : Prop where
  rd : ClX.CRead K S.cE (.type "type")
  vi : PySem.W.findCls K (.ref S.cE) (.type "type") "__init__" = some (.val (.builtin "ValueError.__init__"))
  nx : PySem.W.findIn K (.ref S.c1) "index" = some none
  xf : XfC K S.c1
  rs : PySem.W.subIn K (.ref S.c1) (.type "BaseException") = some true ∧ PySem.W.typeIn K (.ref S.c1) = some (.type "type")
  ex : ExcC K S.c1
  ee : PySem.W.exmOne K (.ref S.c1) (.ref S.cE) = some true
  k0 : PySem.W.kitOne K (.ref S.c1) (.ref S.c0) = some false
  k1 : PySem.W.kitOne K (.ref S.c1) (.ref S.c1) = some true
  k2 : PySem.W.kitOne K (.ref S.c1) (.ref S.c2) = some false
  k3 : PySem.W.kitOne K (.ref S.c1) (.ref S.c3) = some false
  k4 : PySem.W.kitOne K (.ref S.c1) (.ref S.c4) = some false
  k5 : PySem.W.kitOne K (.ref S.c1) (.ref S.c5) = some false
  k6 : PySem.W.kitOne K (.ref S.c1) (.ref S.c6) = some false
  kv : PySem.W.kitOne K (.ref S.c1) (.type "ValueError") = some true
theorem txt_len (a b : Str) : (a ++ b).length = a.length + b.length := strLen_append a b
section
variable {P : Program} {w : World} {K : PySem.W.Frag} {mg : Str → Option Value} {base : Heap}
/-- InvalidChain.__init__ -/
def spIc (c : Addr) : Sp := fun vs H Q _ => ∃ (a : Addr) (i : Int), vs = [.ref a, .int i] ∧ H a = some (exo a c none) ∧ 0 ≤ i ∧ i < 1900 ∧ ∀ dx, H dx = none → dx ≠ a → Q .non (upd (upd H dx (exd dx [("index", .int i)])) a (exo a c (some dx)))
theorem ok_ic {S : TdS K mg} (T : Tx K mg) (B : TdB S) (eq : T.c_iInvalidChain = S.c1) : FnOk P w K mg base CX0 1 T.a_iInvalidChain T.d_iInvalidChain P_iInvalidChain (spIc S.c1) := by
  refine T.F_iInvalidChain.ok sc_iInvalidChain (fun vs H Q E h => ?_) (fun cdv A outer s H vs Q E hr h => ?_)
  · obtain ⟨a, i, rfl, _⟩ := h
    rfl
  · obtain ⟨a, i, rfl, ha, i0, i1, q⟩ := h
    have OX : OexC K S.c1 := by rw [← eq]; exact oxB_ok T.io_iInvalidChain
    refine ⟨_, pss_cons (ps_expr (pe_reinit (by rfl) S.gE B.rd B.vi (pa_cons (pv 0) (pa_cons (pe_joined (.cons pe_str (.cons (pe_fmt (pv 1)) (.cons pe_str .nil)))) pa_nil))))
      (pss_one (ps_ost (pv 0) (pv 1))), ?_⟩
    have hl : i.natAbs.log2 < 1920 := Nat.lt_of_le_of_lt (Nat.log2_le_self _) (by omega)
    have ht := PyProof.Rows.int_text_len_1921 hl
    refine ⟨_, rfl, _, rfl, by decide, _, rfl, .inr ⟨i, rfl, hl, _, rfl, ?_, _, rfl, ?_, a, S.c1, _, rfl, by show 1 ≤ 1000; decide, OX, ha, ?_⟩⟩
    · rw [txt_len]
      refine Nat.le_trans (Nat.add_le_add (by decide +kernel : _ ≤ 100) ht) (by rw [sizeLine_eq]; decide)
    · rw [txt_len, txt_len]
      refine Nat.le_trans (Nat.add_le_add (Nat.add_le_add (by decide +kernel : _ ≤ 100) ht) (by decide +kernel : _ ≤ 100)) (by rw [sizeLine_eq]; decide)
    · exact ⟨_, rfl, _, rfl, a, S.c1, rfl, OX, B.nx, .inl ⟨ha, fun dx n ne => q dx n ne⟩⟩
end
end Rp
/-! isinstance of a caught error of an own class that has a dict of its own. -/
namespace Rp
open PySem PySem.Spec PySem.Calls PyProof.Rows PySem.W
theorem kit_exc {K : Frag} {e D : Addr} {oe : Obj} {od : Option Obj} (C : L2.ExcC K D) : KitX K (.ref e) (.ref D) (fun h => InstAt h e oe D od) :=
  kitx_exc (by obtain ⟨cd, hcd, _⟩ := any_some C.hd; exact Option.isSome_iff_exists.mpr ⟨cd, hcd⟩) C.hg C.hk C.hs C.ha C.hn C.ht C.hm
end Rp
namespace Rp
open PySem PySem.Spec PyProof.Rows L2
/-- isinstance(e, c), e the exception that the suite holds, its dict at dd -/
theorem call_isF {X : Cx} {a D dd : Addr} {oe : Obj} {pn : List (Addr × Obj)} (C : ExcC X.K D) (hz : Zc (.ref D) (some dd) oe) (hf : ∃ vs, oe.data = .fields vs) :
    CallR (X.suite a ((a, oe) :: pn)) (.builtin "isinstance") (fun xs H Q => (∃ fs, H dd = some (.xd fs)) ∧ rIsE X.K D a xs H Q) := by
  intro pins s σ H xs us Q I r h
  obtain ⟨⟨fs, hd⟩, c, cv, b, rfl, hcv, e, q⟩ := h
  match us, r with
  | [_, _], .cons rx (.cons rt .nil) =>
    cases rx
    have ec := hcv _ rt
    subst ec
    obtain ⟨at0, _⟩ := I.pin (a, oe) (List.mem_append.mpr (.inl List.mem_cons_self))
    obtain ⟨mA, hns, _⟩ := (show ObjOk X.prog X.w H s.heap dd (.xd fs) from I.hok dd _ hd)
    obtain ⟨o2, ho2, _⟩ := lookIn_ns hns
    obtain ⟨vs, hv⟩ := hf
    have J : PySem.W.InstAt s.heap a oe D (some o2) := ⟨at0, hz.1, by unfold PySem.W.notCls; rw [hv] <;> rfl, by rw [hz.2]; exact ho2⟩
    exact PySem.W.kia_one (kit_exc C) I.kIn J e (fun z => nomatch z) fun tk => ⟨.bl b, H, I.kept (t' := tk) fun _ _ z => z, rfl, q⟩
end Rp
/-! told: InvalidChain with its index. -/
namespace Rp
open PySem PySem.Spec PyProof.Rows L2 Rz Rm Rt Rl LamX
section
variable {X : Cx} {g f : Addr} {cdg : Value} {s : Shared} {H : Hp} {K : PySem.W.Frag} {mg : Str → Option Value}
/-- what is told of InvalidChain(index) -/
def IcTold (Q : VK) (v : V) (H1 : Hp) : Prop := ∀ (p l : Addr) (H' : Hp), (∀ b o, H1 b = some o → H' b = some o) → H' l = some (.lst [v]) → H' p = some (.tup [.str "error", .str "InvalidChain", .ref l]) → Q (.ref p) H'
theorem told_suite1 {S : TdS X.K X.mg} (B : TdB S) {a dd : Addr} {oe : Obj} {pn : List (Addr × Obj)} (hz : Zc (.ref S.c1) (some dd) oe) (hf : ∃ vs, oe.data = .fields vs)
    {DD : Ends} {wv y2 y3 : Option V} {H1 : Hp} {Q : VK} {v : V} (hrt : DD.rt = Q) (hd : H1 dd = some (.xd [("index", v)])) (q : IcTold Q v H1) :
    ∃ t, PSs ((toldCx X g cdg s H).suite a ((a, oe) :: pn)) toldSuite t ∧ t DD [wv, some (.ref a), y2, y3] H1 := by
  have nd := sc_ltold.nd
  subst hrt
  refine ⟨_, pss_cons (ps_set (i := 2) nd rfl (.inl rfl) (pe_lst (pa_cons (pe_callB (call_isF B.ex hz hf) (by rfl) S.zI (by decide +kernel) (pa_cons (pv 1) (pa_cons (pe_glob (v := .ref S.c0) (by rfl) S.g0 rfl) pa_nil))) (pa_cons (pe_callB (call_isF B.ex hz hf) (by rfl) S.zI (by decide +kernel) (pa_cons (pv 1) (pa_cons (pe_glob (v := .ref S.c1) (by rfl) S.g1 rfl) pa_nil))) (pa_cons (pe_callB (call_isF B.ex hz hf) (by rfl) S.zI (by decide +kernel) (pa_cons (pv 1) (pa_cons (pe_glob (v := .ref S.c2) (by rfl) S.g2 rfl) pa_nil))) pa_nil)))))
    (pss_cons (ps_set (i := 2) nd rfl (.inl rfl) (pe_op op_cat (pv 2) (pe_lst (pa_cons (pe_callB (call_isF B.ex hz hf) (by rfl) S.zI (by decide +kernel) (pa_cons (pv 1) (pa_cons (pe_glob (v := .ref S.c3) (by rfl) S.g3 rfl) pa_nil))) (pa_cons (pe_callB (call_isF B.ex hz hf) (by rfl) S.zI (by decide +kernel) (pa_cons (pv 1) (pa_cons (pe_glob (v := .ref S.c4) (by rfl) S.g4 rfl) pa_nil))) (pa_cons (pe_callB (call_isF B.ex hz hf) (by rfl) S.zI (by decide +kernel) (pa_cons (pv 1) (pa_cons (pe_glob (v := .ref S.c5) (by rfl) S.g5 rfl) pa_nil))) pa_nil))))))
    (pss_cons (ps_expr (pe_bm PySem.F.plainAttrs_list PySem.F.slot_list_append PySem.F.type_list_append mt_append (pv 2) (pa_cons (pe_callB (call_isF B.ex hz hf) (by rfl) S.zI (by decide +kernel) (pa_cons (pv 1) (pa_cons (pe_glob (v := .ref S.c6) (by rfl) S.g6 rfl) pa_nil))) pa_nil)))
    (pss_cons (ps_set (i := 3) nd rfl (.inl rfl) (pe_ifExp (PW.pt (pw_and (pt_cmpR op_eq (pe_bm PySem.F.plainAttrs_list PySem.F.slot_list_count PySem.F.type_list_count mt_countV (pv 2) (pa_cons pe_bl pa_nil)) pe_int (nomark _))
        (pw_and1 (pt_val (pe_callB (call_isF B.ex hz hf) (by rfl) S.zI (by decide +kernel) (pa_cons (pv 1) (pa_cons (pe_bltn (v := .ty "ValueError") (u := .type "ValueError") (by rfl) S.zV (by decide +kernel) rfl) pa_nil)))))))
      (pe_bm PySem.F.plainAttrs_list PySem.F.slot_list_index PySem.F.type_list_index mt_index (pv 2) (pa_cons pe_bl pa_nil)) pe_int))
    (pss_cons (ps_if (pt_cmpR op_eq (pv 3) pe_int (nomark _)) (pss_one ps_never) pss_nil)
    (pss_cons (ps_if (pt_cmpR op_eq (pv 3) pe_int (nomark _)) (pss_one (ps_ret (pe_tup (pa_cons pe_str (pa_cons pe_str (pa_cons (pe_lst (pa_cons (pe_xf B.xf B.nx hz hf (pv 1)) pa_nil)) pa_nil)))))) pss_nil)
    pss_never))))), ?_⟩
  refine ⟨.ref a, rfl, ⟨_, hd⟩, .ref S.c0, .ref S.c0, _, rfl, fun u h => h, B.k0, .ref a, rfl, ⟨_, hd⟩, .ref S.c1, .ref S.c1, _, rfl, fun u h => h, B.k1, .ref a, rfl, ⟨_, hd⟩, .ref S.c2, .ref S.c2, _, rfl, fun u h => h, B.k2, (by show 3 ≤ sizeLine; decide), fun p1 hp1 => ?_⟩
  have s1 : ∀ b o, H1 b = some o → (upd H1 p1 (.lst [.bl false, .bl true, .bl false])) b = some o := fun b o e => (upd_ne (ne_of_none e hp1)).trans e
  have g1 : (upd H1 p1 (.lst [.bl false, .bl true, .bl false])) p1 = some (.lst [.bl false, .bl true, .bl false]) := upd_same
  show tSeq _ _ _ [wv, some (.ref a), some (.ref p1), y3] (upd H1 p1 (.lst [.bl false, .bl true, .bl false]))
  generalize (upd H1 p1 (.lst [.bl false, .bl true, .bl false])) = H2 at s1 g1 ⊢
  refine ⟨.ref p1, rfl, .ref a, rfl, ⟨_, (s1 _ _ hd)⟩, .ref S.c3, .ref S.c3, _, rfl, fun u h => h, B.k3, .ref a, rfl, ⟨_, (s1 _ _ hd)⟩, .ref S.c4, .ref S.c4, _, rfl, fun u h => h, B.k4, .ref a, rfl, ⟨_, (s1 _ _ hd)⟩, .ref S.c5, .ref S.c5, _, rfl, fun u h => h, B.k5, (by show 3 ≤ sizeLine; decide), fun p2 hp2 => ?_⟩
  have s2 : ∀ b o, H2 b = some o → (upd H2 p2 (.lst [.bl false, .bl false, .bl false])) b = some o := fun b o e => (upd_ne (ne_of_none e hp2)).trans e
  have g2 : (upd H2 p2 (.lst [.bl false, .bl false, .bl false])) p2 = some (.lst [.bl false, .bl false, .bl false]) := upd_same
  generalize (upd H2 p2 (.lst [.bl false, .bl false, .bl false])) = H3 at s2 g2 ⊢
  refine ⟨p1, p2, _, _, rfl, rfl, s2 _ _ g1, g2, (by show 3 + 3 ≤ sizeLine; decide), fun p3 hp3 => ?_⟩
  have s3 : ∀ b o, H3 b = some o → (upd H3 p3 (.lst ([.bl false, .bl true, .bl false] ++ [.bl false, .bl false, .bl false]))) b = some o := fun b o e => (upd_ne (ne_of_none e hp3)).trans e
  have g3 : (upd H3 p3 (.lst ([.bl false, .bl true, .bl false] ++ [.bl false, .bl false, .bl false]))) p3 = some (.lst [.bl false, .bl true, .bl false, .bl false, .bl false, .bl false]) := upd_same
  have n3 : H1 p3 = none := by
    cases e : H1 p3 with
    | none => rfl
    | some o => have z := s2 _ _ (s1 _ _ e); rw [hp3] at z; cases z
  show tSeq _ _ _ [wv, some (.ref a), some (.ref p3), y3] (upd H3 p3 (.lst ([.bl false, .bl true, .bl false] ++ [.bl false, .bl false, .bl false])))
  generalize (upd H3 p3 (.lst ([.bl false, .bl true, .bl false] ++ [.bl false, .bl false, .bl false]))) = H4 at s3 g3 ⊢
  refine ⟨.ref p3, rfl, .inl ⟨rfl, _, SqL.of g3⟩, .ref a, rfl, ⟨_, (s3 _ _ (s2 _ _ (s1 _ _ hd)))⟩, .ref S.c6, .ref S.c6, _, rfl, fun u h => h, B.k6, p3, _, _, rfl, rfl, g3, (by show 6 < sizeLine; decide), ?_⟩
  have s4 : ∀ b o, H1 b = some o → (upd H4 p3 (.lst ([.bl false, .bl true, .bl false, .bl false, .bl false, .bl false] ++ [.bl false]))) b = some o := fun b o e => (upd_ne (ne_of_none e n3)).trans (s3 _ _ (s2 _ _ (s1 _ _ e)))
  have g4 : (upd H4 p3 (.lst ([.bl false, .bl true, .bl false, .bl false, .bl false, .bl false] ++ [.bl false]))) p3 = some (.lst [.bl false, .bl true, .bl false, .bl false, .bl false, .bl false, .bl false]) := upd_same
  show tSeq _ _ _ [wv, some (.ref a), some (.ref p3), y3] (upd H4 p3 (.lst ([.bl false, .bl true, .bl false, .bl false, .bl false, .bl false] ++ [.bl false])))
  generalize (upd H4 p3 (.lst ([.bl false, .bl true, .bl false, .bl false, .bl false, .bl false] ++ [.bl false]))) = H5 at s4 g4 ⊢
  refine ⟨.ref p3, rfl, .inl ⟨rfl, _, SqL.of g4⟩, p3, _, .bl true, rfl, rfl, SqL.of g4, rfl, rfl, ?_⟩
  refine ⟨rfl, true, rfl, ?_⟩
  refine iteT ?_
  refine ⟨.ref a, rfl, ⟨_, s4 _ _ hd⟩, .ty "ValueError", .type "ValueError", true, rfl, fun u h => h, B.kv, true, rfl, ?_⟩
  refine iteT ?_
  refine ⟨.ref p3, rfl, .inl ⟨rfl, _, SqL.of g4⟩, p3, _, .bl true, 1, .bl true, rfl, rfl, SqL.of g4, rfl, rfl, rfl, rfl, fun m z' hm e => ?_, ?_⟩
  · have hm' : m = 0 := by omega
    subst hm'
    cases e
    rfl
  show tSeq _ _ _ [wv, some (.ref a), some (.ref p3), some (.int ((1 : Nat) : Int))] H5
  refine ⟨_, rfl, rfl, _, rfl, ?_⟩
  refine iteF ?_
  refine ⟨_, rfl, rfl, _, rfl, ?_⟩
  refine iteT ?_
  refine ⟨.ref a, rfl, rfl, rfl, dd, _, v, rfl, s4 _ _ hd, rfl, (by show 1 ≤ sizeLine; decide), fun l hl => ⟨(by show 3 ≤ sizeLine; decide), fun p hp => ?_⟩⟩
  have s5 : ∀ b o, H5 b = some o → (upd H5 l (.lst [v])) b = some o := fun b o e => (upd_ne (ne_of_none e hl)).trans e
  exact q p l _ (fun b o e => (upd_ne (ne_of_none (s5 _ _ (s4 _ _ e)) hp)).trans (s5 _ _ (s4 _ _ e))) ((upd_ne (ne_of_none upd_same hp)).trans upd_same) upd_same
/-- told's end: what the lambda gives, or what is told of its error, with or without a field -/
def TO1 {K : PySem.W.Frag} {mg : Str → Option Value} (S : TdS K mg) (Q : VK) : XK := fun cls d H => TO S Q cls d H ∨ ∃ (dd : Addr) (v : V), cls = .ref S.c1 ∧ d = some dd ∧ H dd = some (.xd [("index", v)]) ∧ IcTold Q v H
def TTold1 {K : PySem.W.Frag} {mg : Str → Option Value} (S : TdS K mg) : (XK → Hp → VK → Prop) → Hp → VK → Prop := fun tl H Q => ∀ E : XK, (∀ cls d H', TO1 S Q cls d H' → E cls d H') → tl E H Q
theorem gives_told1 {S : TdS X.K X.mg} (B : TdB S) : GivesV X N_ltold "_law_told" (defScope s_ltold) g cdg (defBody s_ltold) "_law_work" (TTold1 S) := by
  intro f R s H Q tl hact hR ht
  have nd := sc_ltold.nd
  refine ⟨_, pss_one (ps_try_as (i := 1) (c := .ref S.cE) (Wout := fun _ _ _ _ => False)
    (ts := fun a cls d DD σ1 H1 => ∀ (oe : Obj) (pn : List (Addr × Obj)), Zc cls d oe → (∃ vs, oe.data = .fields vs) → ∃ t, PSs ((toldCx X g cdg s H).suite a ((a, oe) :: pn)) toldSuite t ∧ t DD σ1 H1)
    rfl rfl nd rfl rfl ⟨rfl, by decide, Or.inl S.gE⟩ LamX.takes0
    (fun W pn xe tk _ => pss_one (ps_ret (hact W pn xe _ _ tk)))
    (fun a oe cls d pn hz hf => ⟨fun pins s1 σ1 H1 DD I h => by
      obtain ⟨t, ht, hh⟩ := h oe pn hz hf
      exact ht.run pins s1 σ1 H1 DD I hh⟩)), ?_⟩
  refine ⟨rfl, hR, ht _ fun cls d H' hto => ?_⟩
  rcases hto with ⟨D, j, rfl, rfl, RR, q⟩ | ⟨dd, v, rfl, rfl, hd, q⟩
  · refine ⟨true, RR.ee, fun _ a ha oe pn hz hf => ?_, fun z => Bool.noConfusion z⟩
    exact told_suite S RR hz hf rfl q
  · refine ⟨true, B.ee, fun _ a ha oe pn hz hf => ?_, fun z => Bool.noConfusion z⟩
    exact told_suite1 B hz hf rfl hd q
end
end Rp
/-! Checks that raise: any value. -/
namespace Rp
open PySem PySem.Spec PyProof.Rows L2 Rz Rm Rt Rl
/-- v is a number or not -/
def NumV (K : PySem.W.Frag) (H : Hp) (v : V) (b : Bool) : Prop := (∃ i, v = .int i ∧ b = true) ∨ (∃ y, v = .bl y ∧ b = false) ∨ (∃ t : String, TyX K H v (.type t) ∧ kitB t "int" = some false ∧ b = false)
/-- v lies between lo and hi, or not -/
def LieV (K : PySem.W.Frag) (H : Hp) (v : V) (lo hi : Int) (b : Bool) : Prop := (∃ i, v = .int i ∧ b = (decide (lo ≤ i) && decide (i ≤ hi))) ∨ (NumV K H v false ∧ b = false)
section
variable {P : Program} {w : World} {K : PySem.W.Frag} {mg : Str → Option Value} {base : Heap}
def spIsNumV (K : PySem.W.Frag) : Sp := fun vs H Q _ => ∃ (v : V) (b : Bool), vs = [v] ∧ NumV K H v b ∧ Q (.bl b) H
theorem ok_is_numberV (T : Tx K mg) : FnOk P w K mg base CX0 1 T.a_is_number T.d_is_number P_is_number (spIsNumV K) := by
  refine T.F_is_number.ok sc_is_number (fun vs H Q E h => ?_) (fun cdv A outer s H vs Q E hr h => ?_)
  · obtain ⟨i, b, rfl, _⟩ := h
    rfl
  · obtain ⟨v, b, rfl, hv, q⟩ := h
    refine ⟨_, pss_one (ps_ret (pe_and (pe_callB call_isi (by rfl) T.z_isinstance (by decide +kernel) (pa_cons (pv 0) (pa_cons (pe_bltn (v := .ty "int") (u := .type "int") (by rfl) T.z_int (by decide +kernel) rfl) pa_nil)))
      (pe_one (pe_not (pe_callB call_isi (by rfl) T.z_isinstance (by decide +kernel) (pa_cons (pv 0) (pa_cons (pe_bltn (v := .ty "bool") (u := .type "bool") (by rfl) T.z_bool (by decide +kernel) rfl) pa_nil))))))), ?_⟩
    rcases hv with ⟨i, rfl, rfl⟩ | ⟨y, rfl, rfl⟩ | ⟨t, ht, hk, rfl⟩
    · refine ⟨.int i, rfl, .int i, .ty "int", .type "int", .type "int", true, rfl, .ty _, .base (.int i), kit_ty (by decide +kernel), true, rfl, iteT ?_⟩
      exact ⟨.int i, rfl, .int i, .ty "bool", .type "int", .type "bool", false, rfl, .ty _, .base (.int i), kit_ty (by decide +kernel), false, rfl, q⟩
    · refine ⟨.bl y, rfl, .bl y, .ty "int", .type "bool", .type "int", true, rfl, .ty _, .base (.bl y), kit_ty (by decide +kernel), true, rfl, iteT ?_⟩
      exact ⟨.bl y, rfl, .bl y, .ty "bool", .type "bool", .type "bool", true, rfl, .ty _, .base (.bl y), kit_ty (by decide +kernel), true, rfl, q⟩
    · exact ⟨v, rfl, v, .ty "int", .type t, .type "int", false, rfl, .ty _, ht, kit_ty hk, false, rfl, iteF q⟩
def spLiesV (K : PySem.W.Frag) : Sp := fun vs H Q _ => ∃ (v : V) (lo hi : Int) (b : Bool), vs = [v, .int lo, .int hi] ∧ LieV K H v lo hi b ∧ Q (.bl b) H
theorem ok_liesV (T : Tx K mg) : FnOk P w K mg base CX0 2 T.a_lies_between T.d_lies_between P_lies_between (spLiesV K) := by
  refine T.F_lies_between.ok sc_lies_between (fun vs H Q E h => ?_) (fun cdv A outer s H vs Q E hr h => ?_)
  · obtain ⟨v, lo, hi, b, rfl, _⟩ := h
    rfl
  · obtain ⟨v, lo, hi, b, rfl, hv, q⟩ := h
    refine ⟨_, pss_one (ps_ret (pe_and (pe_call (ok_is_numberV T) hr (by rfl) T.g_is_number T.F_is_number.kp T.b_is_number .nil pass0 (pa_cons (pv 0) pa_nil)) (pe_one (pe_chain op_le op_le (pv 1) (pv 0) (pv 2))))), ?_⟩
    rcases hv with ⟨i, rfl, rfl⟩ | ⟨hn, rfl⟩
    · refine ⟨.int i, rfl, .int i, true, rfl, .inl ⟨i, rfl, rfl⟩, true, rfl, iteT ?_⟩
      refine ⟨.int lo, rfl, .int i, rfl, lo, i, rfl, rfl, decide (lo ≤ i), rfl, ?_⟩
      by_cases h : lo ≤ i
      · rw [decide_eq_true h] at q ⊢
        exact iteT ⟨.int hi, rfl, i, hi, rfl, rfl, q⟩
      · rw [decide_eq_false h] at q ⊢
        exact iteF q
    · exact ⟨v, rfl, v, false, rfl, hn, false, rfl, iteF q⟩
theorem lie_int {K : PySem.W.Frag} {H : Hp} {r lo hi : Int} (h0 : lo ≤ r) (h1 : r ≤ hi) : LieV K H (.int r) lo hi true := .inl ⟨r, rfl, by rw [decide_eq_true h0, decide_eq_true h1]; rfl⟩
theorem lie_no {K : PySem.W.Frag} {H : Hp} {v : V} {lo hi : Int} (h : (∃ r, v = .int r ∧ (r < lo ∨ hi < r)) ∨ v = .non ∨ v = .bl true) : LieV K H v lo hi false := by
  rcases h with ⟨r, rfl, h⟩ | rfl | rfl
  · refine .inl ⟨r, rfl, ?_⟩
    rcases h with h | h
    · rw [decide_eq_false (by omega)]; rfl
    · rw [decide_eq_false (show ¬ r ≤ hi by omega), Bool.and_false]
  · exact .inr ⟨.inr (.inr ⟨"NoneType", .base .non, by decide +kernel, rfl⟩), rfl⟩
  · exact .inr ⟨.inr (.inl ⟨true, rfl, rfl⟩), rfl⟩
/-! ### E2: rcall book_of -/
end
end Rp
/-! judge_pace, whatever it is asked. -/
namespace Rp
open PySem PySem.Spec PyProof.Rows L2 Rz Rm Rt Rl LamX
theorem dec_eqJ {a b : Int} : decide (V.int a = V.int b) = decide (a = b) := by
  by_cases h : a = b
  · rw [decide_eq_true h, decide_eq_true (congrArg V.int h)]
  · rw [decide_eq_false h, decide_eq_false fun z => h (V.int.inj z)]
/-- the i-th item may stand there -/
def OkR (n : Nat) (xs : List V) (i : Nat) : Prop := ∃ r : Int, xs[i]? = some (.int r) ∧ 0 ≤ r ∧ r < (n : Int) ∧ i < n ∧ ∀ e, 0 < i → xs[i - 1]? = some (.int e) → e = (r - 1) % (n : Int)
/-- the first that may not -/
def FBad (n : Nat) (xs : List V) (i : Nat) : Prop := i < xs.length ∧ ¬ OkR n xs i ∧ ∀ j, j < i → OkR n xs j
def AllOk (n : Nat) (xs : List V) : Prop := ∀ j, j < xs.length → OkR n xs j
/-- what comes of it: an error's index, or a fraction -/
def JOut (ds ss : List Int) (xs : List V) (o : Int ⊕ (Int × Int)) : Prop :=
  (∃ i : Nat, FBad ds.length xs i ∧ o = .inl (i : Int)) ∨ (AllOk ds.length xs ∧ xs.length ≠ 1 ∧ xs.length < ds.length ∧ o = .inl (xs.length : Int)) ∨
  (AllOk ds.length xs ∧ ∃ a, xs = [.int a] ∧ o = .inr (at' ds a, 1)) ∨ (AllOk ds.length xs ∧ xs.length = ds.length ∧ o = .inr (ds.sum / gq ds ss.sum, ss.sum / gq ds ss.sum))
theorem FBad.one {n : Nat} {xs : List V} {i j : Nat} (h : FBad n xs i) (g : FBad n xs j) : i = j := by
  rcases Nat.lt_trichotomy i j with z | z | z
  · exact absurd (g.2.2 i z) h.2.1
  · exact z
  · exact absurd (h.2.2 j z) g.2.1
theorem JOut.bad {ds ss : List Int} {xs : List V} {o : Int ⊕ (Int × Int)} (h : JOut ds ss xs o) {i : Nat} (g : FBad ds.length xs i) : o = .inl (i : Int) := by
  rcases h with ⟨k, f, rfl⟩ | ⟨f, _⟩ | ⟨f, _⟩ | ⟨f, _⟩
  · rw [f.one g]
  · exact absurd (f i g.1) g.2.1
  · exact absurd (f i g.1) g.2.1
  · exact absurd (f i g.1) g.2.1
theorem JOut.ok {ds ss : List Int} {xs : List V} {o : Int ⊕ (Int × Int)} (h : JOut ds ss xs o) (g : AllOk ds.length xs) (l2 : 2 ≤ ds.length) :
    (xs.length ≠ 1 ∧ xs.length < ds.length ∧ o = .inl (xs.length : Int)) ∨ (∃ a, xs = [.int a] ∧ 0 ≤ a ∧ a < (ds.length : Int) ∧ o = .inr (at' ds a, 1)) ∨ (xs.length = ds.length ∧ o = .inr (ds.sum / gq ds ss.sum, ss.sum / gq ds ss.sum)) := by
  rcases h with ⟨k, f, rfl⟩ | ⟨f, h1, h2, h3⟩ | ⟨f, a, rfl, h2⟩ | ⟨f, h1, h2⟩
  · exact absurd (g k f.1) f.2.1
  · exact .inl ⟨h1, h2, h3⟩
  · obtain ⟨r, e, r0, r1, _⟩ := f 0 (by simp)
    cases e
    exact .inr (.inl ⟨_, rfl, r0, r1, h2⟩)
  · exact .inr (.inr ⟨h1, h2⟩)
theorem jout_ex (ds ss : List Int) (xs : List V) : ∃ o, JOut ds ss xs o := by
  by_cases h : ∃ i, FBad ds.length xs i
  · obtain ⟨i, hi⟩ := h
    exact ⟨_, .inl ⟨i, hi, rfl⟩⟩
  · have hall : AllOk ds.length xs := fun j => by
      induction j using Nat.strongRecOn with
      | ind j ih =>
        intro hj
        rcases Classical.em (OkR ds.length xs j) with z | z
        · exact z
        · exact absurd ⟨j, hj, z, fun k hk => ih k hk (by omega)⟩ h
    by_cases h1 : xs.length = 1
    · obtain ⟨r, e, _⟩ := hall 0 (by omega)
      refine ⟨_, .inr (.inr (.inl ⟨hall, r, ?_, rfl⟩))⟩
      match xs, h1, e with
      | [x], _, e =>
        cases e
        rfl
    · by_cases h2 : xs.length < ds.length
      · exact ⟨_, .inr (.inl ⟨hall, h1, h2, rfl⟩)⟩
      · have h3 : xs.length = ds.length := by
          by_cases h0 : xs.length = 0
          · omega
          · obtain ⟨_, _, _, _, z, _⟩ := hall (xs.length - 1) (by omega)
            omega
        exact ⟨_, .inr (.inr (.inr ⟨hall, h3, rfl⟩))⟩
/-- the items -/
def JIt (xs : List V) : Prop := ∀ v ∈ xs, (∃ i, v = .int i) ∨ v = .non
section
variable {P : Program} {w : World} {K : PySem.W.Frag} {mg : Str → Option Value} {base : Heap}
theorem ic_go {C : Addr} {H1 : Hp} {Q : XK} {i : Int} (i0 : 0 ≤ i) (i1 : i < 1900) (q : ∀ (dd : Addr) (H2 : Hp), Same H1 H2 → H2 dd = some (.xd [("index", .int i)]) → Q (.ref C) (some dd) H2) :
    ([V.int i] : List V).length ≤ 1000 ∧ ∀ a, H1 a = none → spIc C (.ref a :: ([V.int i] ++ [])) (upd H1 a (exo a C none))
      (fun v H2 => v = .non ∧ ∃ (d : Addr) (fs : List (Str × V)), H2 a = some (exo a C (some d)) ∧ H2 d = some (exd d fs) ∧ H1 d = none ∧ Q (.ref C) (some d) (upd (del H2 a) d (.xd fs))) (fun _ _ _ => False) := by
  refine ⟨by show 1 ≤ 1000; decide, fun a ha => ⟨a, i, rfl, upd_same, i0, i1, fun dx hdx ne => ?_⟩⟩
  rw [upd_ne ne] at hdx
  refine ⟨rfl, dx, _, upd_same, (upd_ne ne).trans upd_same, hdx, q dx _ (fun b o e => ?_) upd_same⟩
  have n1 : b ≠ a := ne_of_none e ha
  have n2 : b ≠ dx := ne_of_none e hdx
  rw [upd_ne n2, del_ne n1, upd_ne n1, upd_ne n2, upd_ne n1]
  exact e
/-- judge_pace of a list -/
def spJPX (C C1 : Addr) : Sp := fun vs H Q E => ∃ p dx td ts ds ss, ∃ (l : Addr) (xs : List V) (o : Int ⊕ (Int × Int)), vs = [.ref p, .ref l] ∧ RingAt C H p dx td ts ds ss ∧ H l = some (.lst xs) ∧ JIt xs ∧ xs.length ≤ 20 ∧ JOut ds ss xs o ∧
  (∀ (i : Int) (dd : Addr) (H' : Hp), o = .inl i → Same H H' → H' dd = some (.xd [("index", .int i)]) → E (.ref C1) (some dd) H') ∧
  ∀ (a b : Int) (t : Addr) (H' : Hp), o = .inr (a, b) → Same H H' → H' t = some (.tup [.int a, .int b]) → Q (.ref t) H'
theorem ok_jpX {S : TdS K mg} (T : Tx K mg) (B : TdB S) : FnOk P w K mg base (L2.CX P w) 4 T.a_judge_pace T.d_judge_pace P_judge_pace (spJPX T.C S.c1) := by
  refine T.F_judge_pace.okX sc_judge_pace (fun vs H Q E h => ?_) (fun cdv A outer s H vs Q E hr h => ?_)
  · obtain ⟨p, dx, td, ts, ds, ss, l, xs, o, rfl, _⟩ := h
    rfl
  · obtain ⟨p, dx, td, ts, ds, ss, l, xs, o, rfl, R, hl, hit, hlen, hout, qe, q⟩ := h
    have eq : T.c_iInvalidChain = S.c1 := by
      have e := T.gc_iInvalidChain.symm.trans S.g1
      injection e with e
      injection e
    have OX : OexC K S.c1 := by rw [← eq]; exact oxB_ok T.io_iInvalidChain
    have ic : PySem.W.findIn K (.ref S.c1) "__init__" = some (some (.ref T.a_iInvalidChain)) := by rw [← eq]; exact T.ic_iInvalidChain
    have hr2 : Room 2 _ := hr.mono (by decide)
    have hr1 : Room 1 _ := hr.mono (by decide)
    have nd := sc_judge_pace.nd
    have l8 := R.ok.l8
    have l2 := R.ok.l2
    have b1 := R.ok.b1
    have b12 := R.ok.b12
    refine ⟨_, pss_cons (ps_if (pt_not (pt_val (pe_callB call_isi (by rfl) T.z_isinstance (by decide +kernel) (pa_cons (pv 1) (pa_cons (pe_bltn (v := .ty "list") (u := .type "list") (by rfl) T.z_list (by decide +kernel) rfl) pa_nil))))) (pss_one ps_never) pss_nil)
      (pss_cons (ps_for (passes_of rfl) rfl (pi_enum (by rfl) T.z_enumerate (pa_cons (pv 1) pa_nil)) (pg_tup rfl (pgs_cons (pg_name (i := 2) nd rfl (.inl rfl)) (pgs_cons (pg_name (i := 3) nd rfl (.inl rfl)) pgs_nil)))
        (pss_cons (ps_if (PW.pt (pw_or (pt_cmpR op_ge (pv 2) (pe_callB (call_lenI T.lenC T.lenF ((ok_len T).raw T.b_rlen .nil) hr2 pass0) (by rfl) T.z_len PySem.boot_len (pa_cons (pv 0) pa_nil)) (nomark _)) (pw_or1 (pt_not (pt_val (pe_call (ok_liesV T) hr2 (by rfl) T.g_lies_between T.F_lies_between.kp T.b_lies_between .nil pass0 (pa_cons (pv 3) (pa_cons pe_int (pa_cons (pe_op op_sub (pe_callB (call_lenI T.lenC T.lenF ((ok_len T).raw T.b_rlen .nil) hr2 pass0) (by rfl) T.z_len PySem.boot_len (pa_cons (pv 0) pa_nil)) pe_int) pa_nil)))))))))
          (pss_one (ps_raise rfl (takes_of rfl rfl rfl rfl) (pmk_oex OX ic T.it_iInvalidChain (ok_ic T B eq) hr2 T.b_iInvalidChain .nil pass0 (by rfl) S.g1 (pa_cons (pv 2) pa_nil)))) pss_nil)
        (pss_one (ps_if (PW.pt (pw_and (pt_cmpR op_gt (pv 2) pe_int (nomark _)) (pw_and1 (pt_cmpR op_ne (pe_ix ix_list (pv 1) (pe_op op_sub (pv 2) pe_int) (fun _ _ => rfl)) (pe_call (ok_before T) hr (by rfl) T.g_reader_before T.F_reader_before.kp T.b_reader_before .nil pass0 (pa_cons (pv 0) (pa_cons (pv 3) pa_nil))) (nomark _)))))
          (pss_one (ps_raise rfl (takes_of rfl rfl rfl rfl) (pmk_oex OX ic T.it_iInvalidChain (ok_ic T B eq) hr2 T.b_iInvalidChain .nil pass0 (by rfl) S.g1 (pa_cons (pv 2) pa_nil)))) pss_nil))))
      (pss_cons (ps_if (pt_cmpR op_eq (pe_callB call_len_seq (by rfl) T.z_len PySem.boot_len (pa_cons (pv 1) pa_nil)) pe_int (nomark _)) (pss_one (ps_ret (pe_tup (pa_cons (pe_ix ix_tup (pe_prop (pv 0) T.cl T.q_rdays (ok_days T) hr2 T.b_rdays .nil pass0 rfl) (pe_ix ix_list (pv 1) pe_int (fun _ _ => rfl)) (fun _ _ => rfl)) (pa_cons pe_int pa_nil))))) pss_nil)
      (pss_cons (ps_if (pt_cmpR op_lt (pe_callB call_len_seq (by rfl) T.z_len PySem.boot_len (pa_cons (pv 1) pa_nil)) (pe_callB (call_lenI T.lenC T.lenF ((ok_len T).raw T.b_rlen .nil) hr2 pass0) (by rfl) T.z_len PySem.boot_len (pa_cons (pv 0) pa_nil)) (nomark _))
          (pss_one (ps_raise rfl (takes_of rfl rfl rfl rfl) (pmk_oex OX ic T.it_iInvalidChain (ok_ic T B eq) hr2 T.b_iInvalidChain .nil pass0 (by rfl) S.g1 (pa_cons (pe_callB call_len_seq (by rfl) T.z_len PySem.boot_len (pa_cons (pv 1) pa_nil)) pa_nil)))) pss_nil)
      (pss_one (ps_ret (pe_call (ok_round T) hr1 (by rfl) T.g_round_pace T.F_round_pace.kp T.b_round_pace .nil pass0 (pa_cons (pe_prop (pv 0) T.cl T.q_rdays (ok_days T) hr2 T.b_rdays .nil pass0 rfl) (pa_cons (pe_prop (pv 0) T.cl T.q_rbooks (ok_books T) hr2 T.b_rbooks .nil pass0 rfl) pa_nil)))))))), ?_⟩
    refine ⟨.ref l, rfl, .ref l, .ty "list", .type "list", .type "list", true, rfl, .ty _, .base (.lst hl), kit_ty (by decide +kernel), true, rfl, iteF ?_⟩
    refine ⟨.ref l, rfl, l, _, rfl, .of hl, for_it walk_enum (fun i σ H' => (∃ y2 y3, σ = [some (.ref p), some (.ref l), y2, y3]) ∧ Same H H' ∧ ∀ j, j < i → OkR ds.length xs j) ⟨⟨none, none, rfl⟩, Same.refl H, fun j hj => absurd hj (by omega)⟩ (fun i σ H' _ h => .of (h.2.1 _ _ hl)) ?_ ?_⟩
    · rintro i z σ H1 H2 hi1 ⟨⟨y2, y3, rfl⟩, sm, hok⟩ ⟨t, a, b, rfl, nt, rfl, ha, hb⟩
      have ha' : a = .int (i : Nat) := (Option.some.inj ha).symm
      subst ha'
      have hb : xs[i]? = some b := hb
      have s2 : Same H (upd H1 t (.tup [.int (i : Nat), b])) := sm.trans (same_upd nt)
      have ht2 : (upd H1 t (.tup [.int (i : Nat), b])) t = some (.tup [.int (i : Nat), b]) := upd_same
      refine ⟨t, _, rfl, .of ht2, rfl, _, _, rfl, _, _, rfl, rfl, ?_⟩
      generalize (upd H1 t (.tup [.int (i : Nat), b])) = H3 at s2 ht2 ⊢
      have R3 := R.same s2
      have raise : ¬ OkR ds.length xs i → ∀ (dd : Addr) (H2 : Hp), Same H3 H2 → H2 dd = some (.xd [("index", .int (i : Nat))]) → E (.ref S.c1) (some dd) H2 := fun hno dd H2 s3 hd =>
        qe _ dd H2 (hout.bad ⟨hi1, hno, hok⟩) (s2.trans s3) hd
      refine ⟨_, rfl, _, rfl, p, dx, _, rfl, R3.ob, p, dx, td, ts, ds, ss, rfl, R3, (ds.length : Int), rfl, by omega, by omega, _, _, rfl, rfl, _, rfl, ?_⟩
      by_cases hn : (ds.length : Int) ≤ ((i : Nat) : Int)
      · rw [decide_eq_true hn]
        refine iteT ?_
        exact ⟨_, rfl, ic_go (by omega) (by omega) (raise fun ⟨r, _, _, _, h, _⟩ => by omega)⟩
      rw [decide_eq_false hn]
      refine iteF ?_
      have hlie : ∃ b2, LieV K H3 b 0 ((ds.length : Int) - 1) b2 ∧ (b2 = false → ¬ OkR ds.length xs i) ∧ (b2 = true → ∃ c, b = .int c ∧ 0 ≤ c ∧ c < (ds.length : Int)) := by
        rcases hit b (List.mem_of_getElem? hb) with ⟨c, rfl⟩ | rfl
        · by_cases hc : 0 ≤ c ∧ c < (ds.length : Int)
          · exact ⟨true, lie_int hc.1 (by omega), fun z => Bool.noConfusion z, fun _ => ⟨c, rfl, hc.1, hc.2⟩⟩
          · refine ⟨false, lie_no (.inl ⟨c, rfl, by omega⟩), fun _ ⟨r, e, h0, h1, _⟩ => ?_, fun z => Bool.noConfusion z⟩
            rw [hb] at e
            cases e
            exact hc ⟨h0, h1⟩
        · refine ⟨false, lie_no (.inr (.inl rfl)), fun _ ⟨r, e, h0, h1, _⟩ => ?_, fun z => Bool.noConfusion z⟩
          rw [hb] at e
          cases e
      obtain ⟨b2, hl2, hf2, ht2'⟩ := hlie
      refine ⟨_, rfl, _, rfl, p, dx, _, rfl, R3.ob, p, dx, td, ts, ds, ss, rfl, R3, (ds.length : Int), rfl, by omega, by omega, _, _, rfl, rfl, b, 0, (ds.length : Int) - 1, b2, rfl, hl2, _, rfl, ?_⟩
      cases b2 with
      | false =>
        refine iteT ?_
        exact ⟨_, rfl, ic_go (by omega) (by omega) (raise (hf2 rfl))⟩
      | true =>
      refine iteF ?_
      obtain ⟨c, rfl, c0, c1⟩ := ht2' rfl
      refine ⟨_, rfl, _, _, rfl, rfl, _, rfl, ?_⟩
      by_cases h0 : 0 < i
      · rw [decide_eq_true (show (0 : Int) < ((i : Nat) : Int) by omega)]
        obtain ⟨e, he, e0, e1, _⟩ := hok (i - 1) (by omega)
        refine iteT ⟨_, rfl, _, rfl, _, _, rfl, rfl, l, _, _, .int e, rfl, rfl, .of (s2 _ _ hl), at_of (j := i - 1) (by omega) he, _, rfl, _, rfl, p, dx, td, ts, ds, ss, c, rfl, R3, rfl, _, rfl, ?_⟩
        by_cases hec : e = (c - 1) % (ds.length : Int)
        · exact iteNS (congrArg V.int hec) ⟨⟨_, _, rfl⟩, s2, fun j hj => by
            rcases Nat.lt_or_ge j i with z | z
            · exact hok j z
            · have ej : j = i := by omega
              subst ej
              exact ⟨c, hb, c0, c1, by omega, fun e' _ he' => by rw [he] at he'; cases he'; exact hec⟩⟩
        · rw [show (!decide (V.int e = V.int ((c - 1) % (ds.length : Int)))) = true by rw [decide_eq_false fun z => hec (V.int.inj z)]; rfl]
          refine iteT ?_
          refine ⟨_, rfl, ic_go (by omega) (by omega) (raise fun ⟨r, e2, _, _, _, h⟩ => ?_)⟩
          rw [hb] at e2
          cases e2
          exact hec (h e h0 he)
      · rw [decide_eq_false (show ¬ (0 : Int) < ((i : Nat) : Int) by omega)]
        refine iteF (iteF ⟨⟨_, _, rfl⟩, s2, fun j hj => ?_⟩)
        have ej : j = i := by omega
        subst ej
        exact ⟨c, hb, c0, c1, by omega, fun e' z _ => absurd z h0⟩
    · rintro σ H1 ⟨⟨y2, y3, rfl⟩, sm, hok⟩
      have R1 := R.same sm
      have hl1 := sm _ _ hl
      have rdD : ∀ {Q' : VK} {E' : XK}, Q' (.ref td) H1 → spDays T.C [.ref p] H1 Q' E' := fun z => ⟨p, dx, td, ts, ds, ss, rfl, R1, z⟩
      refine ⟨_, rfl, l, _, rfl, .inl (.of hl1), rfl, _, rfl, ?_⟩
      rw [dec_eqJ]
      rcases hout.ok hok l2 with ⟨h1, h2, ho⟩ | ⟨a, rfl, a0, a1, ho⟩ | ⟨h1, ho⟩
      · rw [decide_eq_false (by omega)]
        refine iteF ⟨_, rfl, l, _, rfl, .inl (.of hl1), _, rfl, p, dx, _, rfl, R1.ob, p, dx, td, ts, ds, ss, rfl, R1, (ds.length : Int), rfl, by omega, by omega, _, _, rfl, rfl, _, rfl, ?_⟩
        rw [decide_eq_true (show ((xs.length : Nat) : Int) < (ds.length : Int) by omega)]
        refine iteT ⟨_, rfl, l, _, rfl, .inl (.of hl1), ic_go (by omega) (by omega) fun dd H2 s3 hd => qe _ dd H2 ho (sm.trans s3) hd⟩
      · rw [decide_eq_true (show (([V.int a] : List V).length : Int) = 1 from rfl)]
        refine iteT ⟨_, rfl, p, dx, _, rfl, R1.ob, rdD ⟨_, rfl, l, _, 0, .int a, rfl, rfl, .of hl1, atI_nat (j := 0) rfl, td, _, _, _, rfl, rfl, .inl R1.td.rd, at_ix (by omega) a1, (by show 2 ≤ sizeLine; decide), fun t ht => ?_⟩⟩
        exact q _ _ t _ ho (sm.trans (same_upd ht)) upd_same
      · rw [decide_eq_false (by omega)]
        refine iteF ⟨_, rfl, l, _, rfl, .inl (.of hl1), _, rfl, p, dx, _, rfl, R1.ob, p, dx, td, ts, ds, ss, rfl, R1, (ds.length : Int), rfl, by omega, by omega, _, _, rfl, rfl, _, rfl, ?_⟩
        rw [decide_eq_false (show ¬ ((xs.length : Nat) : Int) < (ds.length : Int) by omega)]
        refine iteF ⟨_, rfl, p, dx, _, rfl, R1.ob, rdD ⟨_, rfl, p, dx, _, rfl, R1.ob, p, dx, td, ts, ds, ss, rfl, R1, td, ds, ss.sum, rfl, R1.td, b1, by omega, fun H2 t s2 ht => ?_⟩⟩
        exact q _ _ t H2 ho (sm.trans s2) ht
end
end Rp
namespace Rp
open PySem PySem.Spec PyProof.Rows L2 Rz Rm
theorem sum_ltJ : ∀ (ds : List Int), (∀ y ∈ ds, 1 ≤ y ∧ y ≤ 30) → (ds.length : Int) ≤ ds.sum ∧ ds.sum ≤ 30 * ds.length
  | [], _ => ⟨Int.le_refl _, Int.le_refl _⟩
  | a :: r, h => by
    have h1 := sum_ltJ r fun y hy => h y (List.mem_cons_of_mem _ hy)
    have h2 := h a List.mem_cons_self
    rw [List.sum_cons, List.length_cons]
    omega
theorem Good.sum240 {ds ss : List Int} (G : Good ds ss) : 1 ≤ ds.sum ∧ ds.sum ≤ 240 := by
  have := sum_ltJ ds G.d1
  have := G.l2
  have := G.l8
  omega
theorem at_last {xs : List V} {v : V} (h : xs[xs.length - 1]? = some v) : atI xs (-1) = some v := by
  have hl := (List.getElem?_eq_some_iff.mp h).1
  unfold atI ixN
  rw [if_neg (by omega), if_pos (by omega)]
  show xs[((-1 : Int) + xs.length).toNat]? = some v
  rw [show ((-1 : Int) + xs.length).toNat = xs.length - 1 by omega]
  exact h
/-! ### lowest terms -/
/-- the common divisors up to m -/
def cmdv (a b : Int) : Nat → List Int
  | 0 => []
  | m + 1 => if a % ((m : Int) + 1) = 0 ∧ b % ((m : Int) + 1) = 0 then cmdv a b m ++ [(m : Int) + 1] else cmdv a b m
theorem cmdv_len (a b : Int) : ∀ m : Nat, (cmdv a b m).length ≤ m
  | 0 => Nat.le_refl _
  | m + 1 => by
    have := cmdv_len a b m
    show (if _ then _ else _ : List Int).length ≤ m + 1
    split
    · rw [List.length_append]
      simp
      omega
    · omega
theorem cmdv_last {ds : List Int} {b : Int} (hb : 1 ≤ b) : ∀ m : Nat, gq ds b ≤ m → ∃ pre, cmdv ds.sum b m = pre ++ [gq ds b]
  | 0, h => by
    have := (gq_facts (ds := ds) hb).1
    omega
  | m + 1, h => by
    obtain ⟨g1, g2, h1, h2⟩ := gq_facts (ds := ds) hb
    rcases Int.lt_or_le (gq ds b) ((m : Int) + 1) with z | z
    · obtain ⟨pre, e⟩ := cmdv_last (ds := ds) hb m (by omega)
      refine ⟨pre, ?_⟩
      show (if _ then _ else _ : List Int) = _
      rw [if_neg, e]
      rintro ⟨d1, d2⟩
      have k1 : ((m : Int) + 1) ∣ ds.sum := Int.dvd_of_emod_eq_zero d1
      have k2 : ((m : Int) + 1) ∣ b := Int.dvd_of_emod_eq_zero d2
      have k3 : (m + 1) ∣ Nat.gcd ds.sum.natAbs b.natAbs := Nat.dvd_gcd (by have := Int.natAbs_dvd_natAbs.mpr k1; rwa [show ((m : Int) + 1).natAbs = m + 1 by omega] at this) (by have := Int.natAbs_dvd_natAbs.mpr k2; rwa [show ((m : Int) + 1).natAbs = m + 1 by omega] at this)
      have k4 : m + 1 ≤ Nat.gcd ds.sum.natAbs b.natAbs := Nat.le_of_dvd (by unfold gq at g1; omega) k3
      unfold gq at z
      omega
    · have e : gq ds b = (m : Int) + 1 := by omega
      refine ⟨cmdv ds.sum b m, ?_⟩
      show (if _ then _ else _ : List Int) = _
      rw [if_pos ⟨Int.emod_eq_zero_of_dvd (e ▸ h1), Int.emod_eq_zero_of_dvd (e ▸ h2)⟩, e]
theorem gq_sum {ds : List Int} {b : Int} (hb : 1 ≤ b) (hs : 1 ≤ ds.sum) : gq ds b ≤ ds.sum := by
  unfold gq
  have := Nat.le_of_dvd (by omega) (Nat.gcd_dvd_left ds.sum.natAbs b.natAbs)
  omega
section
variable {P : Program} {w : World} {K : PySem.W.Frag} {mg : Str → Option Value} {base : Heap}
def spTerms : Sp := fun vs H Q _ => ∃ (ds : List Int) (b : Int), vs = [.int ds.sum, .int b] ∧ 1 ≤ ds.sum ∧ ds.sum ≤ 240 ∧ 1 ≤ b ∧ b ≤ 1000 ∧ ∀ H' t, Same H H' → H' t = some (.tup [.int (ds.sum / gq ds b), .int (b / gq ds b)]) → Q (.ref t) H'
theorem ok_terms (T : Tx K mg) : FnOk P w K mg base CX0 1 T.a_lterms T.d_lterms P_lterms spTerms := by
  refine T.F_lterms.ok sc_lterms (fun vs H Q E h => ?_) (fun cdv A outer s H vs Q E hr h => ?_)
  · obtain ⟨ds, b, rfl, _⟩ := h
    rfl
  · obtain ⟨ds, b, rfl, s1, s2, b1, b2, q⟩ := h
    have nd := sc_lterms.nd
    refine ⟨_, pss_cons (ps_set (i := 2) nd rfl (.inl rfl) (pe_ix ix_list (pe_lc (own := [("_law_k", 3)]) rfl nd (pi_range2 (by rfl) T.z_range (pa_cons pe_int (pa_cons (pe_op op_add pe_int (pe_callB (call_min2 rfl) (by rfl) T.z_min (by decide +kernel) (pa_cons (pv 0) (pa_cons (pv 1) pa_nil)))) pa_nil)))
        (blkOk_by (N := N_lterms) (sc := defScope s_lterms) (by decide +kernel))
        (fun _ _ _ _ _ => pg_name (i := 3) nd rfl (.inl rfl))
        (fun _ _ _ _ _ => pts_one (PW.pt (pw_and (pt_cmpR op_eq (pe_op op_mod (pe_callTy call_int1 (by rfl) T.z_int (by decide +kernel) (pa_cons (pv 0) pa_nil)) (pv 3)) pe_int (nomark _))
          (pw_and1 (pt_cmpR op_eq (pe_op op_mod (pe_callTy call_int1 (by rfl) T.z_int (by decide +kernel) (pa_cons (pv 1) pa_nil)) (pv 3)) pe_int (nomark _))))))
        (fun _ _ _ _ _ => pv 3)) (pe_un un_neg pe_int) (fun _ _ => rfl)))
      (pss_one (ps_ret (pe_tup (pa_cons (pe_op op_fdiv (pv 0) (pv 2)) (pa_cons (pe_op op_fdiv (pv 1) (pv 2)) pa_nil))))), ?_⟩
    have g0 := gq_facts (ds := ds) b1
    have gs := gq_sum b1 s1
    obtain ⟨m, hm⟩ : ∃ m : Nat, (m : Int) = if b < ds.sum then b else ds.sum := ⟨(if b < ds.sum then b else ds.sum).toNat, by split <;> omega⟩
    have m1 : gq ds b ≤ m := by
      rw [hm]
      split <;> omega
    have m2 : (m : Int) ≤ 1000 := by
      rw [hm]
      split <;> omega
    refine ⟨_, rfl, _, rfl, _, _, rfl, _, _, rfl, rfl, ?_⟩
    rw [← hm]
    refine ⟨_, _, rfl, ⟨by omega, by omega, by omega, by omega⟩, ?_⟩
    rw [show (1 + (m : Int) - 1).toNat = m by omega]
    refine fun D hD => lc_range (lo := 1) (n := m) (fun i H' => H' D = some (.lst ((cmdv ds.sum b i).map V.int)) ∧ Same H H') ⟨upd_same, same_upd hD⟩ ?_ ?_
    · rintro i H1 hi ⟨h1, st1⟩
      have hl := cmdv_len ds.sum b i
      have ei : (1 : Int) + (i : Int) = (i : Int) + 1 := by omega
      refine ⟨rfl, ?_⟩
      rw [ei]
      refine ⟨_, rfl, .inl ⟨_, rfl, _, rfl, _, _, rfl, rfl, by show (0 : Int) < (i : Int) + 1; omega, rfl, _, rfl, ?_⟩⟩
      by_cases d1 : ds.sum % ((i : Int) + 1) = 0
      · rw [decide_eq_true (congrArg V.int d1)]
        refine iteT ?_
        refine ⟨_, rfl, .inl ⟨_, rfl, _, rfl, _, _, rfl, rfl, by show (0 : Int) < (i : Int) + 1; omega, rfl, _, rfl, ?_⟩⟩
        by_cases d2 : b % ((i : Int) + 1) = 0
        · rw [decide_eq_true (congrArg V.int d2)]
          show if true = true then _ else _
          rw [if_pos rfl]
          refine ⟨_, rfl, _, h1, by rw [List.length_map]; exact small1000 (by omega), ?_, ?_⟩
          · rw [upd_same, map_snoc, show cmdv ds.sum b (i + 1) = cmdv ds.sum b i ++ [(i : Int) + 1] from if_pos ⟨d1, d2⟩]
          · exact fun c x e => by
              rw [upd_ne (ne_of_none e hD)]
              exact st1 c x e
        · rw [decide_eq_false fun z => d2 (V.int.inj z)]
          show if false = true then _ else _
          rw [if_neg (by decide)]
          exact ⟨by rw [h1, show cmdv ds.sum b (i + 1) = cmdv ds.sum b i from if_neg fun z => d2 z.2], st1⟩
      · rw [decide_eq_false fun z => d1 (V.int.inj z)]
        refine iteF ?_
        exact ⟨by rw [h1, show cmdv ds.sum b (i + 1) = cmdv ds.sum b i from if_neg fun z => d1 z.1], st1⟩
    · rintro H1 ⟨h1, st1⟩
      obtain ⟨pre, e⟩ := cmdv_last (ds := ds) b1 m m1
      rw [e, List.map_append] at h1
      refine ⟨_, rfl, D, _, -1, .int (gq ds b), rfl, rfl, .of h1, at_last (by rw [List.length_append, List.getElem?_append_right (by simp)]; simp), ?_⟩
      refine ⟨_, rfl, _, rfl, _, _, rfl, rfl, ⟨by omega, by omega⟩, _, rfl, _, rfl, _, _, rfl, rfl, ⟨by omega, by omega⟩, (by show 2 ≤ sizeLine; decide), fun t ht => ?_⟩
      exact q _ t (st1.trans (same_upd ht)) upd_same
/-! ### a pick of anything -/
def spPickV (K : PySem.W.Frag) : Sp := fun vs H Q _ => ∃ (row a sm : Addr) (ns : List Int) (l : List V), vs = [.ref row, .ref sm] ∧ RowAt K H row a ns ∧ H sm = some (.lst l) ∧ sm ≠ row ∧ 1 ≤ l.length ∧ l.length ≤ 1000 ∧
  ∀ v H', v ∈ l → RowAt K H' row a ns → Kp row H H' → Q v H'
theorem ok_pickV (T : Tx K mg) : FnOk P w K mg base CX0 2 T.a_lpick T.d_lpick P_lpick (spPickV K) := by
  refine T.F_lpick.ok sc_lpick (fun vs H Q E h => ?_) (fun cdv A outer s H vs Q E hr h => ?_)
  · obtain ⟨row, a, sm, ns, l, rfl, _⟩ := h
    rfl
  · obtain ⟨row, a, sm, ns, l, rfl, RA, hsm, hne, l1, l2, q⟩ := h
    refine ⟨_, pss_one (ps_ret (pe_ix ix_list (pv 1) (pe_call (ok_next T) hr (by rfl) T.g_lnext T.F_lnext.kp T.b_lnext .nil pass0 (pa_cons (pv 0) (pa_cons (pe_callB call_len_seq (by rfl) T.z_len PySem.boot_len (pa_cons (pv 1) pa_nil)) pa_nil))) (fun _ _ => rfl))), ?_⟩
    refine ⟨_, rfl, _, rfl, _, rfl, sm, _, rfl, .inl (.of hsm), row, a, ns, _, rfl, RA, by omega, by omega, fun v H' v0 v1 RA' k => ?_⟩
    have hv : v.toNat < l.length := by omega
    exact ⟨sm, _, v, l[v.toNat], rfl, rfl, .of (k _ _ hsm hne), at_of (j := v.toNat) (by omega) (List.getElem?_eq_getElem hv), q _ H' (List.getElem_mem hv) RA' k⟩
theorem modp {n c e : Int} (c0 : 0 ≤ c) (c1 : c < n) (e0 : 0 ≤ e) (e1 : e < n) : c = (e + 1) % n ↔ e = (c - 1) % n := by
  by_cases h : e + 1 = n
  · rw [h, Int.emod_self]
    constructor
    · intro z
      subst z
      rw [show (0 : Int) - 1 = (n - 1) + n * (-1) by omega, Int.add_mul_emod_self_left, Int.emod_eq_of_lt (by omega) (by omega)]
      omega
    · intro z
      by_cases h2 : c = 0
      · exact h2
      · rw [Int.emod_eq_of_lt (show 0 ≤ c - 1 by omega) (by omega)] at z
        omega
  · rw [Int.emod_eq_of_lt (show 0 ≤ e + 1 by omega) (by omega)]
    constructor
    · intro z
      rw [Int.emod_eq_of_lt (show 0 ≤ c - 1 by omega) (by omega)]
      omega
    · intro z
      by_cases h2 : c = 0
      · subst h2
        rw [show (0 : Int) - 1 = (n - 1) + n * (-1) by omega, Int.add_mul_emod_self_left, Int.emod_eq_of_lt (by omega) (by omega)] at z
        omega
      · rw [Int.emod_eq_of_lt (show 0 ≤ c - 1 by omega) (by omega)] at z
        omega
/-- what judge_pace must give -/
def spJd (Ds : Prop) : Sp := fun vs H Q _ => ∃ (td l : Addr) (ds ss : List Int) (xs : List V) (o : Int ⊕ (Int × Int)), vs = [.ref td, .int ss.sum, .ref l] ∧ Good ds ss ∧ Tf H td (ds.map V.int) ∧ H l = some (.lst xs) ∧ JIt xs ∧ xs.length ≤ 20 ∧ JOut ds ss xs o ∧
  (∀ (i : Int) (t l2 : Addr) (H' : Hp), o = .inl i → Same H H' → H' t = some (.tup [.str "error", .str "InvalidChain", .ref l2]) → H' l2 = some (.lst [.int i]) → Q (.ref t) H') ∧
  ∀ (a b : Int) (t : Addr) (H' : Hp), o = .inr (a, b) → Same H H' → H' t = some (.tup [.int a, .int b]) → Q (.ref t) H'
theorem ok_jd (T : Tx K mg) : FnOk P w K mg base CX0 2 T.a_ljudged T.d_ljudged P_ljudged (spJd True) := by
  refine T.F_ljudged.ok sc_ljudged (fun vs H Q E h => ?_) (fun cdv A outer s H vs Q E hr h => ?_)
  · obtain ⟨td, l, ds, ss, xs, o, rfl, _⟩ := h
    rfl
  · obtain ⟨td, l, ds, ss, xs, o, rfl, G, htd, hl, hit, hlen, hout, qe, q⟩ := h
    have nd := sc_ljudged.nd
    have l8 := G.l8
    have l2 := G.l2
    have b1 := G.b1
    have b12 := G.b12
    have err : ∀ (i : Int) (H1 : Hp) (l2 t : Addr), o = .inl i → Same H H1 → H1 l2 = none → (upd H1 l2 (.lst [.int i])) t = none → Q (.ref t) (upd (upd H1 l2 (.lst [.int i])) t (.tup [.str "error", .str "InvalidChain", .ref l2])) := fun i H1 l2 t ho sm h1 h2 =>
      qe i t l2 _ ho ((sm.trans (same_upd h1)).trans (same_upd h2)) upd_same ((same_upd h2) _ _ upd_same)
    refine ⟨_, pss_cons (ps_set (i := 3) nd rfl (.inl rfl) (pe_callB call_len_seq (by rfl) T.z_len PySem.boot_len (pa_cons (pv 0) pa_nil)))
      (pss_cons (ps_for PassesOwn.never rfl (pi_range1 (by rfl) T.z_range (pa_cons (pe_callB call_len_seq (by rfl) T.z_len PySem.boot_len (pa_cons (pv 2) pa_nil)) pa_nil)) (pg_name (i := 4) nd rfl (.inl rfl))
        (pss_cons (ps_set (i := 5) nd rfl (.inl rfl) (pe_ix ix_list (pv 2) (pv 4) (fun _ _ => rfl)))
        (pss_cons (ps_set (i := 6) nd rfl (.inl rfl) (pe_and (pe_callB call_isi (by rfl) T.z_isinstance (by decide +kernel) (pa_cons (pv 5) (pa_cons (pe_bltn (v := .ty "int") (u := .type "int") (by rfl) T.z_int (by decide +kernel) rfl) pa_nil)))
          (pe_and (pe_not (pe_callB call_isi (by rfl) T.z_isinstance (by decide +kernel) (pa_cons (pv 5) (pa_cons (pe_bltn (v := .ty "bool") (u := .type "bool") (by rfl) T.z_bool (by decide +kernel) rfl) pa_nil)))) (pe_one (pe_chain op_le op_lt pe_int (pv 5) (pv 3))))))
        (pss_one (ps_if (PW.pt (pw_or (pt_not (pt_val (pv 6))) (pw_or (PW.pt (pw_and (pt_cmpR op_gt (pv 4) pe_int (nomark _)) (pw_and1 (pt_cmpR op_ne (pv 5) (pe_op op_mod (pe_callTy call_int1 (by rfl) T.z_int (by decide +kernel) (pa_cons (pe_op op_add (pe_ix ix_list (pv 2) (pe_op op_sub (pv 4) pe_int) (fun _ _ => rfl)) pe_int) pa_nil)) (pv 3)) (nomark _)))))
          (pw_or1 (pt_cmpR op_eq (pv 4) (pv 3) (nomark _)))))) (pss_one (ps_ret (pe_tup (pa_cons pe_str (pa_cons pe_str (pa_cons (pe_lst (pa_cons (pv 4) pa_nil)) pa_nil)))))) pss_nil)))))
      (pss_cons (ps_if (pt_cmpR op_eq (pe_callB call_len_seq (by rfl) T.z_len PySem.boot_len (pa_cons (pv 2) pa_nil)) pe_int (nomark _)) (pss_one (ps_ret (pe_tup (pa_cons (pe_ix ix_tup (pv 0) (pe_ix ix_list (pv 2) pe_int (fun _ _ => rfl)) (fun _ _ => rfl)) (pa_cons pe_int pa_nil))))) pss_nil)
      (pss_one (ps_ret (pe_ifExp (pt_cmpR op_eq (pe_callB call_len_seq (by rfl) T.z_len PySem.boot_len (pa_cons (pv 2) pa_nil)) (pv 3) (nomark _))
        (pe_call (ok_terms T) hr (by rfl) T.g_lterms T.F_lterms.kp T.b_lterms .nil pass0 (pa_cons (pe_callB (cr_sumT rfl) (by rfl) T.z_sum (by decide +kernel) (pa_cons (pv 0) pa_nil)) (pa_cons (pv 1) pa_nil)))
        (pe_tup (pa_cons pe_str (pa_cons pe_str (pa_cons (pe_lst (pa_cons (pe_callB call_len_seq (by rfl) T.z_len PySem.boot_len (pa_cons (pv 2) pa_nil)) pa_nil)) pa_nil))))))))), ?_⟩
    refine ⟨_, rfl, td, _, rfl, .inr (.inl htd.tq.rd), ?_⟩
    rw [List.length_map]
    refine ⟨_, rfl, l, _, rfl, .inl (.of hl), _, rfl, by omega, by omega, for_range (lo := 0) (n := (((xs.length : Nat) : Int)).toNat) (fun i σ H' => (∃ y4 y5 y6, σ = [some (.ref td), some (.int ss.sum), some (.ref l), some (.int (ds.length : Int)), y4, y5, y6]) ∧ Same H H' ∧ ∀ j, j < i → OkR ds.length xs j) ⟨⟨none, none, none, rfl⟩, Same.refl H, fun j hj => absurd hj (by omega)⟩ ?_ ?_⟩
    · rintro i σ H1 hi1 ⟨⟨y4, y5, y6, rfl⟩, sm, hok⟩
      have hi1 : i < xs.length := by omega
      have hl1 := sm _ _ hl
      have e0 : (0 : Int) + (i : Int) = (i : Nat) := by omega
      rw [e0]
      obtain ⟨v, hv⟩ : ∃ v, xs[i]? = some v := ⟨_, List.getElem?_eq_getElem hi1⟩
      show tSeq _ _ _ [some (.ref td), some (.int ss.sum), some (.ref l), some (.int (ds.length : Int)), some (.int (i : Nat)), y5, y6] H1
      refine ⟨_, rfl, _, rfl, l, _, _, v, rfl, rfl, .of hl1, at_of (j := i) (by omega) hv, ?_⟩
      show tSeq _ _ _ [some (.ref td), some (.int ss.sum), some (.ref l), some (.int (ds.length : Int)), some (.int (i : Nat)), some v, y6] H1
      have bad : ¬ OkR ds.length xs i → o = .inl (i : Int) := fun hno => hout.bad ⟨hi1, hno, hok⟩
      have step : OkR ds.length xs i → ∀ j, j < i + 1 → OkR ds.length xs j := fun h j hj => by
        rcases Nat.lt_or_ge j i with z | z
        · exact hok j z
        · have ej : j = i := by omega
          subst ej
          exact h
      have hin : i ≤ ds.length := by
        by_cases z : 0 < i
        · obtain ⟨_, _, _, _, h, _⟩ := hok (i - 1) (by omega)
          omega
        · omega
      rcases hit v (List.mem_of_getElem? hv) with ⟨c, rfl⟩ | rfl
      · refine ⟨_, rfl, .int c, .ty "int", .type "int", .type "int", true, rfl, .ty _, .base (.int c), kit_ty (by decide +kernel), true, rfl, iteT ?_⟩
        refine ⟨_, rfl, .int c, .ty "bool", .type "int", .type "bool", false, rfl, .ty _, .base (.int c), kit_ty (by decide +kernel), false, rfl, true, rfl, iteT ?_⟩
        refine ⟨_, rfl, 0, c, rfl, rfl, _, rfl, ?_⟩
        by_cases c0 : 0 ≤ c
        · rw [decide_eq_true c0]
          refine iteT ⟨_, rfl, c, _, rfl, rfl, ?_⟩
          show tSeq _ _ _ [some (.ref td), some (.int ss.sum), some (.ref l), some (.int (ds.length : Int)), some (.int (i : Nat)), some (.int c), some (.bl (decide (c < (ds.length : Int))))] H1
          by_cases c1 : c < (ds.length : Int)
          · rw [decide_eq_true c1]
            refine ⟨_, rfl, _, rfl, iteF ?_⟩
            refine ⟨_, rfl, _, _, rfl, rfl, _, rfl, ?_⟩
            by_cases h0 : 0 < i
            · rw [decide_eq_true (show (0 : Int) < ((i : Nat) : Int) by omega)]
              obtain ⟨e, he, e0, e1, _⟩ := hok (i - 1) (by omega)
              refine iteT ⟨_, rfl, _, rfl, _, rfl, _, _, rfl, rfl, l, _, _, .int e, rfl, rfl, .of hl1, at_of (j := i - 1) (by omega) he, _, _, rfl, rfl, .inl ⟨_, rfl, _, rfl, _, _, rfl, rfl, (by show (0 : Int) < (ds.length : Int); omega), rfl, _, rfl, ?_⟩⟩
              have key : c = (e + 1) % (ds.length : Int) ↔ e = (c - 1) % (ds.length : Int) := modp c0 c1 e0 e1
              by_cases hec : c = (e + 1) % (ds.length : Int)
              · refine iteNS (congrArg V.int hec) ?_
                refine ⟨_, rfl, _, rfl, rfl, _, rfl, ?_⟩
                rw [dec_eqJ]
                by_cases hn : ((i : Nat) : Int) = (ds.length : Int)
                · rw [decide_eq_true hn]
                  refine iteT ?_
                  refine ⟨_, rfl, (by show 1 ≤ sizeLine; decide), fun l2 h2 => ⟨(by show 3 ≤ sizeLine; decide), fun t ht => ?_⟩⟩
                  exact err _ _ l2 t (bad fun ⟨_, _, _, _, h, _⟩ => by omega) sm h2 ht
                · rw [decide_eq_false hn]
                  exact iteF ⟨⟨_, _, _, rfl⟩, sm, step (⟨c, hv, c0, c1, by omega, fun e' _ he' => by rw [he] at he'; cases he'; exact key.mp hec⟩)⟩
              · rw [show (!decide (V.int c = V.int ((e + 1) % (ds.length : Int)))) = true by rw [decide_eq_false fun z => hec (V.int.inj z)]; rfl]
                refine iteT ?_
                refine ⟨_, rfl, (by show 1 ≤ sizeLine; decide), fun l2 h2 => ⟨(by show 3 ≤ sizeLine; decide), fun t ht => ?_⟩⟩
                exact err _ _ l2 t (bad fun ⟨r, e2, _, _, _, h⟩ => by rw [hv] at e2; cases e2; exact hec (key.mpr (h e h0 he))) sm h2 ht
            · rw [decide_eq_false (show ¬ (0 : Int) < ((i : Nat) : Int) by omega)]
              refine iteF (iteF ?_)
              refine ⟨_, rfl, _, rfl, rfl, _, rfl, ?_⟩
              rw [dec_eqJ]
              by_cases hn : ((i : Nat) : Int) = (ds.length : Int)
              · rw [decide_eq_true hn]
                refine iteT ?_
                refine ⟨_, rfl, (by show 1 ≤ sizeLine; decide), fun l2 h2 => ⟨(by show 3 ≤ sizeLine; decide), fun t ht => ?_⟩⟩
                exact err _ _ l2 t (bad fun ⟨_, _, _, _, h, _⟩ => by omega) sm h2 ht
              · rw [decide_eq_false hn]
                exact iteF ⟨⟨_, _, _, rfl⟩, sm, step (⟨c, hv, c0, c1, by omega, fun e' z _ => absurd z h0⟩)⟩
          · rw [decide_eq_false c1]
            refine ⟨_, rfl, _, rfl, iteT ?_⟩
            refine ⟨_, rfl, (by show 1 ≤ sizeLine; decide), fun l2 h2 => ⟨(by show 3 ≤ sizeLine; decide), fun t ht => ?_⟩⟩
            exact err _ _ l2 t (bad fun ⟨r, e2, _, h, _⟩ => by rw [hv] at e2; cases e2; exact c1 h) sm h2 ht
        · rw [decide_eq_false c0]
          refine iteF ?_
          show tSeq _ _ _ [some (.ref td), some (.int ss.sum), some (.ref l), some (.int (ds.length : Int)), some (.int (i : Nat)), some (.int c), some (.bl false)] H1
          refine ⟨_, rfl, _, rfl, iteT ?_⟩
          refine ⟨_, rfl, (by show 1 ≤ sizeLine; decide), fun l2 h2 => ⟨(by show 3 ≤ sizeLine; decide), fun t ht => ?_⟩⟩
          exact err _ _ l2 t (bad fun ⟨r, e2, h, _⟩ => by rw [hv] at e2; cases e2; exact c0 h) sm h2 ht
      · refine ⟨_, rfl, .non, .ty "int", .type "NoneType", .type "int", false, rfl, .ty _, .base .non, kit_ty (by decide +kernel), false, rfl, iteF ?_⟩
        show tSeq _ _ _ [some (.ref td), some (.int ss.sum), some (.ref l), some (.int (ds.length : Int)), some (.int (i : Nat)), some .non, some (.bl false)] H1
        refine ⟨_, rfl, _, rfl, iteT ?_⟩
        refine ⟨_, rfl, (by show 1 ≤ sizeLine; decide), fun l2 h2 => ⟨(by show 3 ≤ sizeLine; decide), fun t ht => ?_⟩⟩
        exact err _ _ l2 t (bad fun ⟨r, e2, _⟩ => by rw [hv] at e2; cases e2) sm h2 ht
    · rintro σ H1 ⟨⟨y4, y5, y6, rfl⟩, sm, hok⟩
      have hl1 := sm _ _ hl
      have htd1 := htd.same sm
      have hok : AllOk ds.length xs := fun j hj => hok j (by omega)
      refine ⟨_, rfl, l, _, rfl, .inl (.of hl1), rfl, _, rfl, ?_⟩
      rw [dec_eqJ]
      rcases hout.ok hok l2 with ⟨h1, h2, ho⟩ | ⟨a, rfl, a0, a1, ho⟩ | ⟨h1, ho⟩
      · rw [decide_eq_false (by omega)]
        refine iteF ⟨_, rfl, l, _, rfl, .inl (.of hl1), _, rfl, rfl, _, rfl, ?_⟩
        rw [dec_eqJ, decide_eq_false (show ¬ ((xs.length : Nat) : Int) = (ds.length : Int) by omega)]
        refine iteF ⟨_, rfl, l, _, rfl, .inl (.of hl1), (by show 1 ≤ sizeLine; decide), fun l2 h2 => ⟨(by show 3 ≤ sizeLine; decide), fun t ht => ?_⟩⟩
        exact err _ _ l2 t ho sm h2 ht
      · rw [decide_eq_true (show (([V.int a] : List V).length : Int) = 1 from rfl)]
        refine iteT ⟨_, rfl, _, rfl, l, _, 0, .int a, rfl, rfl, .of hl1, atI_nat (j := 0) rfl, td, _, _, _, rfl, rfl, .inl htd1.tq.rd, at_ix (by omega) a1, (by show 2 ≤ sizeLine; decide), fun t ht => ?_⟩
        exact q _ _ t _ ho (sm.trans (same_upd ht)) upd_same
      · rw [decide_eq_false (by omega)]
        refine iteF ⟨_, rfl, l, _, rfl, .inl (.of hl1), _, rfl, rfl, _, rfl, ?_⟩
        rw [dec_eqJ, decide_eq_true (show ((xs.length : Nat) : Int) = (ds.length : Int) by omega)]
        refine iteT ⟨_, rfl, td, _, rfl, .inl htd1.tq.rd, _, rfl, ds, ss.sum, rfl, G.sum240.1, G.sum240.2, b1, by omega, fun H2 t s2 ht => ?_⟩
        exact q _ _ t H2 ho (sm.trans s2) ht
end
end Rp
/-! told(lambda: ..) and told(lambda x=0: ..), an error's field told, too. -/
namespace Rp
open PySem PySem.Spec PyProof.Rows L2 Rz Rm Rt Rl LamX
def lpA : Expr → Arguments
  | .Lambda p _ _ _ => p
  | _ => ⟨[], [], none, [], [], none, []⟩
def lpB : Expr → Expr
  | .Lambda _ b _ _ => b
  | e => e
def lpS : Expr → Scope
  | .Lambda _ _ s _ => s
  | _ => ⟨.function, [], false, false, []⟩
def dfV : Option Addr → Value
  | none => .none
  | some t => .ref t
def mkF (q : Str) (cells : List (Str × Addr)) (e : Expr) (t : Option Addr) (c : Addr) : LF := ⟨q, lpA e, lpB e, lpS e, cloFrom cells (lpS e).names [], dfV t, c⟩
/-- without parameters -/
def Bd0 (e : Expr) : Prop := ∀ (q : Str) (cl : List (Str × Addr)) (c doc pm ctv : Value) (sZ : Shared), BindsTo sZ (PySem.W.kdv_fn "<lambda>" q (lpA e) (.expr (lpB e)) (lpS e) cl .none doc pm c ctv) ⟨[], []⟩ []
/-- one parameter with a default value -/
def Bd1 (e : Expr) : Prop := ∃ x : Str, (lpS e).names.lookup x = some .local ∧ ∀ (q : Str) (cl : List (Str × Addr)) (t : Addr) (c doc pm ctv : Value) (sZ : Shared) (o : Obj) (v : Value) (n : Nat), sZ.heap.get? t = some o → o.data = .seq #[v] n →
  BindsTo sZ (PySem.W.kdv_fn "<lambda>" q (lpA e) (.expr (lpB e)) (lpS e) cl (.ref t) doc pm c ctv) ⟨[], []⟩ [(x, v)]
def GD (e : Expr) (t : Option Addr) (H : Hp) : Prop := match t with
  | none => Bd0 e
  | some t => Bd1 e ∧ H t = some (.tup [.int 0])
/-- f is the lambda e, kept -/
def KLat (q : Str) (cells : List (Str × Addr)) (H : Hp) (e : Expr) (f : Addr) : Prop := ∃ (t : Option Addr) (c : Addr), H f = some (LamO f (mkF q cells e t c)) ∧ H c = some (CodeO c q) ∧ GD e t H
theorem KLat.extN {q : Str} {cells : List (Str × Addr)} {H H' : Hp} {e : Expr} {f : Addr} (k : KLat q cells H e f) (x : ExtN H H') : KLat q cells H' e f := by
  obtain ⟨t, c, h1, h2, h3⟩ := k
  refine ⟨t, c, x _ _ h1 (lamO_ne), x _ _ h2 codeO_ne, ?_⟩
  cases t with
  | none => exact h3
  | some t => exact ⟨h3.1, x _ _ h3.2 (by intro ps z; cases z)⟩
section
variable {X : Cx}
def lFam (X : Cx) (le : Nat → Expr) : Nat × Option Addr × Addr → LF := fun i => mkF (X.env.qual ++ "<lambda>") X.env.cells (le i.1) i.2.1 i.2.2
theorem fam_ok {le : Nat → Expr} (hl : ∀ j, LamP X.N X.env.scope (lpS (le j))) : Fam X (Nat × Option Addr × Addr) (lFam X le) (fun i H => GD (le i.1) i.2.1 H) where
  nm := fun i => hl i.1
  cl := fun _ => rfl
  q := fun _ => rfl
  bind := fun ⟨j, t, c⟩ doc pm ctv sZ HZ hok hg => by
    cases t with
    | none => exact ⟨[], hg _ _ _ _ _ _ _, fun y hy => by cases hy⟩
    | some t =>
      obtain ⟨⟨x, hx, hb⟩, ht⟩ := hg
      obtain ⟨_, its, rv, o, ho, _, n, hd⟩ := hok t _ ht
      cases rv with
      | cons r1 r2 =>
        rename_i v vs
        cases r2
        exact ⟨[(x, v)], hb _ _ _ _ _ _ _ _ _ _ _ ho hd, fun y hy => by
          obtain rfl := List.mem_singleton.mp hy
          exact hx⟩
/-- told(lambda: e), t being e's reading: Q at e's value, and at what is told of its error -/
def tTold1 {K : PySem.W.Frag} {mg : Str → Option Value} (S : TdS K mg) (Tb : List (Addr × Str)) (t : XK → TE) : TE := fun σ H Q => Tabs Tb H ∧ ∀ H1, ExtN H H1 → Tabs Tb H1 → ∀ E : XK, (∀ cls d H', TO1 S Q cls d H' → E cls d H') → t E σ H1 Q
theorem pe_told1 {c PT : Addr} {k : Nat} {params : Arguments} {body : Expr} {scope : Scope} {p lp pos : Pos} {t : XK → TE} (T : Tx X.K X.mg) {S : TdS X.K X.mg} (B : TdB S) (TB : TabB X.base X.mg c PT) (hcode : X.env.code = .ref c) (hg : Gl X "_law_told")
    (L : LamP X.N X.env.scope scope) (hdef : defaultsOf params X.env = ([], [])) (hno : ∀ (q : Str) (cl : List (Str × Addr)) (c' : Addr) (doc pm ctv : Value) (sZ : Shared), BindsTo sZ (PySem.W.kdv_fn "<lambda>" q params (.expr body) scope cl .none doc pm (.ref c') ctv) ⟨[], []⟩ []) (hr : Room (k + 2) X.A)
    (hbody : ∀ (A : Around) (outer : List Env) (s : Shared) (H : Hp) (E : XK) (f c' : Addr), Room k (A.deeper (lamEnv X scope s.heap.objs.size f c')) → PE (lamCx X A outer s H E scope f c') body (t E))
    (hst : starEach [.Lambda params body scope lp] X.env = (false, eval (.Lambda params body scope lp) X.env) :: starEach [] X.env := by rfl) (hpl : (backTo pos (starEach ([] : List Expr) X.env)).any (·.1) = false := by rfl) :
    PE X (.Call (.Name "_law_told" p) [.Lambda params body scope lp] [] pos) (tTold1 S [(PT, X.env.qual ++ "<lambda>")] t) := by
  obtain ⟨oc, od, kV, doc, pm, an, cdv, ct, osl, e, lk, hcd⟩ := T.F_ltold.ex
  have bt := T.b_ltold
  rw [e] at lk bt
  have go := pe_lamcallV (X := X) (ι := Addr) (F := fun c' => ⟨X.env.qual ++ "<lambda>", params, body, scope, cloFrom X.env.cells scope.names [], .none, c'⟩) (G := fun _ _ => True) (TT := TTold1 S) (x := "_law_told") (a := "_law_work") (k := k) (t := fun _ => t) (p := p) (pos := pos)
    hg T.g_ltold T.F_ltold.kp lk hcd bt sc_ltold rfl (.inl rfl) (gives_told1 B)
    ⟨fun _ => L, fun _ => rfl, fun _ => rfl, fun i doc pm ctv sZ HZ _ _ => ⟨[], hno _ _ _ _ _ _ _, fun y hy => by cases hy⟩⟩
    (pa_cons (pe_lam0 (pos := lp) TB hcode (List.mem_singleton.mpr rfl) (fun q hq _ => by rw [List.mem_singleton.mp hq]) (fun y hy z => L.free y hy z) hdef) pa_nil) hr
    (fun i A outer s H E f hr2 => hbody A outer s H E f i hr2) hst hpl
  refine ⟨fun pins s σ H Q I h => go.run pins s σ H Q I ?_⟩
  obtain ⟨hT, h⟩ := h
  exact ⟨hT, fun f c' H1 x1 t1 hf e1 e2 => ⟨f, c', rfl, e1, e2, True.intro, fun E hE => h H1 x1 t1 E hE⟩⟩
theorem pe_toldD1 {c PT : Addr} {k : Nat} {params : Arguments} {body : Expr} {scope : Scope} {p lp pos : Pos} {t : XK → TE} {j : Nat} {dp : Pos} (T : Tx X.K X.mg) {S : TdS X.K X.mg} (B : TdB S) (TB : TabB X.base X.mg c PT) (hcode : X.env.code = .ref c) (hg : Gl X "_law_told")
    (L : LamP X.N X.env.scope scope) (hd : params.defaults = [.Constant (.int 0) j dp]) (hk : params.kw_defaults = []) (hb : Bd1 (.Lambda params body scope lp)) (hr : Room (k + 2) X.A)
    (hbody : ∀ (A : Around) (outer : List Env) (s : Shared) (H : Hp) (E : XK) (f c' : Addr), Room k (A.deeper (lamEnv X scope s.heap.objs.size f c')) → PE (lamCx X A outer s H E scope f c') body (t E))
    (hst : starEach [.Lambda params body scope lp] X.env = (false, eval (.Lambda params body scope lp) X.env) :: starEach [] X.env := by rfl) (hpl : (backTo pos (starEach ([] : List Expr) X.env)).any (·.1) = false := by rfl) :
    PE X (.Call (.Name "_law_told" p) [.Lambda params body scope lp] [] pos) (tTold1 S [(PT, X.env.qual ++ "<lambda>")] t) := by
  obtain ⟨oc, od, kV, doc, pm, an, cdv, ct, osl, e, lk, hcd⟩ := T.F_ltold.ex
  have bt := T.b_ltold
  rw [e] at lk bt
  have go := pe_lamcallV (X := X) (ι := Nat × Option Addr × Addr) (F := lFam X fun _ => .Lambda params body scope lp) (G := fun i H => GD (.Lambda params body scope lp) i.2.1 H) (TT := TTold1 S) (x := "_law_told") (a := "_law_work") (k := k) (t := fun _ => t) (p := p) (pos := pos)
    hg T.g_ltold T.F_ltold.kp lk hcd bt sc_ltold rfl (.inl rfl) (gives_told1 B) (fam_ok fun _ => L)
    (pa_cons (pe_lam1 (pos := lp) TB hcode (List.mem_singleton.mpr rfl) (fun q hq _ => by rw [List.mem_singleton.mp hq]) (fun y hy z => L.free y hy z) hd hk) pa_nil) hr
    (fun i A outer s H E f hr2 => hbody A outer s H E f i.2.2 hr2) hst hpl
  refine ⟨fun pins s σ H Q I h => go.run pins s σ H Q I ?_⟩
  obtain ⟨hT, h⟩ := h
  exact ⟨hT, fun f c' t1 H1 x1 t1' hf et e1 e2 => ⟨f, (0, some t1, c'), rfl, e1, e2, ⟨hb, et⟩, fun E hE => h H1 x1 t1' E hE⟩⟩
end
end Rp
namespace Rp
open PySem PySem.Spec PyProof.Rows L2 Rz Rm Rt Rl LamX
theorem Good.mx1 {ds ss : List Int} (G : Good ds ss) : 1 ≤ mx ds ∧ mx ds ≤ 30 := ⟨(G.d1 _ G.dys.mem).1, (G.d1 _ G.dys.mem).2⟩
theorem pX_slow {ds : List Int} {b : Int} (h : ds.sum ≤ mx ds * b) : pX ds b = mx ds ∧ pY ds b = 1 := by
  unfold pX pY
  rw [if_pos h, if_pos h]
  exact ⟨rfl, rfl⟩
/-- what evidence is worth -/
theorem shown_le {ds ss : List Int} (G : Good ds ss) : (∀ d ∈ ds, d * pY ds ss.sum - pX ds ss.sum * 1 ≤ 0) ∧ ds.sum / gq ds ss.sum * pY ds ss.sum - pX ds ss.sum * (ss.sum / gq ds ss.sum) ≤ 0 ∧
    ((∃ d ∈ ds, d * pY ds ss.sum - pX ds ss.sum * 1 = 0) ∨ ds.sum / gq ds ss.sum * pY ds ss.sum - pX ds ss.sum * (ss.sum / gq ds ss.sum) = 0) := by
  have b1 := G.b1
  obtain ⟨g0, gle, gd1, gd2⟩ := gq_facts (ds := ds) b1
  by_cases hc : ds.sum ≤ mx ds * ss.sum
  · obtain ⟨e1, e2⟩ := pX_slow hc
    rw [e1, e2]
    generalize gq ds ss.sum = g at *
    obtain ⟨x, hx⟩ := gd1
    obtain ⟨y, hy⟩ := gd2
    have ex : ds.sum / g = x := by rw [hx, Int.mul_ediv_cancel_left x (by omega)]
    have ey : ss.sum / g = y := by rw [hy, Int.mul_ediv_cancel_left y (by omega)]
    rw [ex, ey]
    refine ⟨fun d hd => by have := le_mx hd; omega, ?_, .inl ⟨mx ds, G.dys.mem, by omega⟩⟩
    have h1 : g * x ≤ g * (mx ds * y) := by
      rw [← hx, Int.mul_left_comm, ← hy]
      exact hc
    have h2 : x ≤ mx ds * y := Int.le_of_mul_le_mul_left h1 (by omega)
    omega
  · have e1 : pX ds ss.sum = ds.sum / gq ds ss.sum := by unfold pX; rw [if_neg hc]
    have e2 : pY ds ss.sum = ss.sum / gq ds ss.sum := by unfold pY; rw [if_neg hc]
    rw [e1, e2]
    generalize gq ds ss.sum = g at *
    obtain ⟨x, hx⟩ := gd1
    obtain ⟨y, hy⟩ := gd2
    have ex : ds.sum / g = x := by rw [hx, Int.mul_ediv_cancel_left x (by omega)]
    have ey : ss.sum / g = y := by rw [hy, Int.mul_ediv_cancel_left y (by omega)]
    rw [ex, ey]
    have y1 : 1 ≤ y := by
      rcases Int.lt_or_le y 1 with z | z
      · have : g * y ≤ g * 0 := Int.mul_le_mul_of_nonneg_left (by omega) (by omega)
        omega
      · exact z
    refine ⟨fun d hd => ?_, by omega, .inr (by omega)⟩
    have h1 : d * y ≤ mx ds * y := Int.mul_le_mul_of_nonneg_right (le_mx hd) (by omega)
    have h2 : g * (mx ds * y) < g * x := by
      rw [← hx, Int.mul_left_comm, ← hy]
      omega
    have h3 : mx ds * y < x := Int.lt_of_mul_lt_mul_left h2 (by omega)
    omega
theorem pY_le {ds ss : List Int} (G : Good ds ss) : 0 ≤ pY ds ss.sum ∧ pY ds ss.sum ≤ 12 := by
  have b1 := G.b1
  have b12 := G.b12
  unfold pY
  split
  · omega
  · have g1 := (gq_facts (ds := ds) b1).1
    have h0 : 0 ≤ ss.sum / gq ds ss.sum := Int.ediv_nonneg (by omega) (by omega)
    have h1 : ss.sum / gq ds ss.sum ≤ ss.sum := Int.ediv_le_self _ (by omega)
    omega
def PR (ds ss rs : List Int) : Prop := (ds.sum ≤ mx ds * ss.sum ∧ ∃ j : Nat, rs = [(j : Int)] ∧ ds[j]? = some (mx ds) ∧ ∀ k z, k < j → ds[k]? = some z → z ≠ mx ds) ∨ (¬ ds.sum ≤ mx ds * ss.sum ∧ rs = iot ds.length)
theorem PR.one {ds ss rs rs' : List Int} (h : PR ds ss rs) (g : PR ds ss rs') : rs = rs' := by
  rcases h with ⟨h1, j, rfl, h2, h3⟩ | ⟨h1, rfl⟩
  · rcases g with ⟨_, k, rfl, g2, g3⟩ | ⟨g1, _⟩
    · rcases Nat.lt_trichotomy j k with z | z | z
      · exact absurd rfl (g3 j _ z h2)
      · rw [z]
      · exact absurd rfl (h3 k _ z g2)
    · exact absurd h1 g1
  · rcases g with ⟨g1, _⟩ | ⟨_, rfl⟩
    · exact absurd g1 h1
    · rfl
theorem PR.len {ds ss rs : List Int} (G : Good ds ss) (h : PR ds ss rs) : rs.length ≤ 8 := by
  rcases h with ⟨_, j, rfl, _⟩ | ⟨_, rfl⟩
  · simp
  · have := G.l8
    unfold iot
    rw [List.length_map, List.length_range]
    omega
section
variable {P : Program} {w : World} {K : PySem.W.Frag} {mg : Str → Option Value} {base : Heap}
/-! ### judge_pace -/
def spJP (C : Addr) : Sp := fun vs H Q _ => ∃ p dx td ts ds ss, ∃ (l : Addr) (rs : List Int), vs = [.ref p, .ref l] ∧ RingAt C H p dx td ts ds ss ∧ H l = some (.lst (rs.map V.int)) ∧ (∀ y ∈ rs, 0 ≤ y ∧ y < (ds.length : Int)) ∧ rs.length ≤ ds.length ∧ (∀ i a b, rs[i]? = some a → rs[i + 1]? = some b → a = (b - 1) % (ds.length : Int)) ∧
  ((∃ a, rs = [a] ∧ ∀ H' t, Same H H' → H' t = some (.tup [.int (at' ds a), .int 1]) → Q (.ref t) H') ∨ (rs.length = ds.length ∧ ∀ H' t, Same H H' → H' t = some (.tup [.int (ds.sum / gq ds ss.sum), .int (ss.sum / gq ds ss.sum)]) → Q (.ref t) H'))
theorem ok_jp (T : Tx K mg) : FnOk P w K mg base CX0 4 T.a_judge_pace T.d_judge_pace P_judge_pace (spJP T.C) := by
  refine T.F_judge_pace.ok sc_judge_pace (fun vs H Q E h => ?_) (fun cdv A outer s H vs Q E hr h => ?_)
  · obtain ⟨p, dx, td, ts, ds, ss, l, rs, rfl, _⟩ := h
    rfl
  · obtain ⟨p, dx, td, ts, ds, ss, l, rs, rfl, R, hl, hall, hlen, hfol, q⟩ := h
    have hr2 : Room 2 _ := hr.mono (by decide)
    have hr1 : Room 1 _ := hr.mono (by decide)
    have nd := sc_judge_pace.nd
    have l8 := R.ok.l8
    have l2 := R.ok.l2
    have b1 := R.ok.b1
    have b12 := R.ok.b12
    refine ⟨_, pss_cons (ps_if (pt_not (pt_val (pe_callB call_isi (by rfl) T.z_isinstance (by decide +kernel) (pa_cons (pv 1) (pa_cons (pe_bltn (v := .ty "list") (u := .type "list") (by rfl) T.z_list (by decide +kernel) rfl) pa_nil))))) (pss_one ps_never) pss_nil)
      (pss_cons (ps_for PassesOwn.never rfl (pi_enum (by rfl) T.z_enumerate (pa_cons (pv 1) pa_nil)) (pg_tup rfl (pgs_cons (pg_name (i := 2) nd rfl (.inl rfl)) (pgs_cons (pg_name (i := 3) nd rfl (.inl rfl)) pgs_nil)))
        (pss_cons (ps_if (PW.pt (pw_or (pt_cmpR op_ge (pv 2) (pe_callB (call_lenI T.lenC T.lenF ((ok_len T).raw T.b_rlen .nil) hr2 pass0) (by rfl) T.z_len PySem.boot_len (pa_cons (pv 0) pa_nil)) (nomark _)) (pw_or1 (pt_not (pt_val (pe_call (ok_lies T) hr2 (by rfl) T.g_lies_between T.F_lies_between.kp T.b_lies_between .nil pass0 (pa_cons (pv 3) (pa_cons pe_int (pa_cons (pe_op op_sub (pe_callB (call_lenI T.lenC T.lenF ((ok_len T).raw T.b_rlen .nil) hr2 pass0) (by rfl) T.z_len PySem.boot_len (pa_cons (pv 0) pa_nil)) pe_int) pa_nil))))))))) (pss_one ps_never) pss_nil)
        (pss_one (ps_if (PW.pt (pw_and (pt_cmpR op_gt (pv 2) pe_int (nomark _)) (pw_and1 (pt_cmpR op_ne (pe_ix ix_list (pv 1) (pe_op op_sub (pv 2) pe_int) (fun _ _ => rfl)) (pe_call (ok_before T) hr (by rfl) T.g_reader_before T.F_reader_before.kp T.b_reader_before .nil pass0 (pa_cons (pv 0) (pa_cons (pv 3) pa_nil))) (nomark _))))) (pss_one ps_never) pss_nil))))
      (pss_cons (ps_if (pt_cmpR op_eq (pe_callB call_len_seq (by rfl) T.z_len PySem.boot_len (pa_cons (pv 1) pa_nil)) pe_int (nomark _)) (pss_one (ps_ret (pe_tup (pa_cons (pe_ix ix_tup (pe_prop (pv 0) T.cl T.q_rdays (ok_days T) hr2 T.b_rdays .nil pass0 rfl) (pe_ix ix_list (pv 1) pe_int (fun _ _ => rfl)) (fun _ _ => rfl)) (pa_cons pe_int pa_nil))))) pss_nil)
      (pss_cons (ps_if (pt_cmpR op_lt (pe_callB call_len_seq (by rfl) T.z_len PySem.boot_len (pa_cons (pv 1) pa_nil)) (pe_callB (call_lenI T.lenC T.lenF ((ok_len T).raw T.b_rlen .nil) hr2 pass0) (by rfl) T.z_len PySem.boot_len (pa_cons (pv 0) pa_nil)) (nomark _)) (pss_one ps_never) pss_nil)
      (pss_one (ps_ret (pe_call (ok_round T) hr1 (by rfl) T.g_round_pace T.F_round_pace.kp T.b_round_pace .nil pass0 (pa_cons (pe_prop (pv 0) T.cl T.q_rdays (ok_days T) hr2 T.b_rdays .nil pass0 rfl) (pa_cons (pe_prop (pv 0) T.cl T.q_rbooks (ok_books T) hr2 T.b_rbooks .nil pass0 rfl) pa_nil)))))))), ?_⟩
    refine ⟨.ref l, rfl, .ref l, .ty "list", .type "list", .type "list", true, rfl, .ty _, .base (.lst hl), kit_ty (by decide +kernel), true, rfl, iteF ?_⟩
    refine ⟨.ref l, rfl, l, _, rfl, .of hl, for_it walk_enum (fun i σ H' => (∃ y2 y3, σ = [some (.ref p), some (.ref l), y2, y3]) ∧ Same H H') ⟨⟨none, none, rfl⟩, Same.refl H⟩ (fun i σ H' _ h => .of (h.2 _ _ hl)) ?_ ?_⟩
    · rintro i z σ H1 H2 hi1 ⟨⟨y2, y3, rfl⟩, sm⟩ ⟨t, a, b, rfl, nt, rfl, ha, hb⟩
      have ha' : a = .int (i : Nat) := (Option.some.inj ha).symm
      subst ha'
      obtain ⟨c, hc, rfl⟩ := get_int hb
      rw [List.length_map] at hi1
      have hc2 := hall c (List.mem_of_getElem? hc)
      have s2 : Same H (upd H1 t (.tup [.int (i : Nat), .int c])) := sm.trans (same_upd nt)
      have ht2 : (upd H1 t (.tup [.int (i : Nat), .int c])) t = some (.tup [.int (i : Nat), .int c]) := upd_same
      refine ⟨t, _, rfl, .of ht2, rfl, _, _, rfl, _, _, rfl, rfl, ?_⟩
      generalize (upd H1 t (.tup [.int (i : Nat), .int c])) = H3 at s2 ht2 ⊢
      have R3 := R.same s2
      refine ⟨_, rfl, _, rfl, p, dx, _, rfl, R3.ob, p, dx, td, ts, ds, ss, rfl, R3, (ds.length : Int), rfl, by omega, by omega, _, _, rfl, rfl, _, rfl, ?_⟩
      rw [decide_eq_false (show ¬ (ds.length : Int) ≤ ((i : Nat) : Int) by omega)]
      refine iteF ?_
      refine ⟨_, rfl, _, rfl, p, dx, _, rfl, R3.ob, p, dx, td, ts, ds, ss, rfl, R3, (ds.length : Int), rfl, by omega, by omega, _, _, rfl, rfl, c, 0, (ds.length : Int) - 1, rfl, _, rfl, ?_⟩
      rw [in_lim hc2.1 (show c ≤ (ds.length : Int) - 1 by omega)]
      refine iteF ?_
      refine ⟨_, rfl, _, _, rfl, rfl, _, rfl, ?_⟩
      by_cases h0 : 0 < i
      · rw [decide_eq_true (show (0 : Int) < ((i : Nat) : Int) by omega)]
        obtain ⟨e, he⟩ : ∃ e, rs[i - 1]? = some e := ⟨_, List.getElem?_eq_getElem (by omega)⟩
        refine iteT ⟨_, rfl, _, rfl, _, _, rfl, rfl, l, _, _, .int e, rfl, rfl, .of (s2 _ _ hl), at_of (j := i - 1) (by omega) (by rw [List.getElem?_map, he]; rfl), _, rfl, _, rfl, p, dx, td, ts, ds, ss, c, rfl, R3, rfl, _, rfl, ?_⟩
        exact iteNS (congrArg V.int (hfol (i - 1) e c he (by rw [show i - 1 + 1 = i by omega]; exact hc))) ⟨⟨_, _, rfl⟩, s2⟩
      · rw [decide_eq_false (show ¬ (0 : Int) < ((i : Nat) : Int) by omega)]
        exact iteF (iteF ⟨⟨_, _, rfl⟩, s2⟩)
    · rintro σ H1 ⟨⟨y2, y3, rfl⟩, sm⟩
      have R1 := R.same sm
      have hl1 := sm _ _ hl
      have rdD : ∀ {Q' : VK} {E' : XK}, Q' (.ref td) H1 → spDays T.C [.ref p] H1 Q' E' := fun z => ⟨p, dx, td, ts, ds, ss, rfl, R1, z⟩
      refine ⟨_, rfl, l, _, rfl, .inl (.of hl1), rfl, _, rfl, ?_⟩
      rw [List.length_map, dec_eqJ]
      rcases q with ⟨a, e, q⟩ | ⟨e, q⟩
      · subst e
        have ha := hall a (by simp)
        rw [decide_eq_true (show (([a] : List Int).length : Int) = 1 from rfl)]
        refine iteT ⟨_, rfl, p, dx, _, rfl, R1.ob, rdD ⟨_, rfl, l, _, 0, .int a, rfl, rfl, .of hl1, atI_nat (j := 0) rfl, td, _, _, _, rfl, rfl, .inl R1.td.rd, at_ix (by omega) ha.2, (by show 2 ≤ sizeLine; decide), fun t ht => ?_⟩⟩
        exact q _ t (sm.trans (same_upd ht)) upd_same
      · rw [decide_eq_false (show ¬ ((rs.length : Nat) : Int) = 1 by omega)]
        refine iteF ?_
        refine ⟨_, rfl, l, _, rfl, .inl (.of hl1), _, rfl, p, dx, _, rfl, R1.ob, p, dx, td, ts, ds, ss, rfl, R1, (ds.length : Int), rfl, by omega, by omega, _, _, rfl, rfl, _, rfl, ?_⟩
        rw [List.length_map, decide_eq_false (show ¬ ((rs.length : Nat) : Int) < (ds.length : Int) by omega)]
        refine iteF ⟨_, rfl, p, dx, _, rfl, R1.ob, rdD ⟨_, rfl, p, dx, _, rfl, R1.ob, p, dx, td, ts, ds, ss, rfl, R1, td, ds, ss.sum, rfl, R1.td, b1, by omega, fun H2 t s2 ht => ?_⟩⟩
        exact q H2 t (sm.trans s2) ht
/-- judge_pace of a tuple -/
def spJPT (K : PySem.W.Frag) (C1 : Addr) : Sp := fun vs H Q E => ∃ (p t : Addr) (xs : List V), vs = [.ref p, .ref t] ∧ Tq H t xs ∧ ∀ (dd : Addr) (H' : Hp), Same H H' → H' dd = some (.xd [("index", .int 0)]) → E (.ref C1) (some dd) H'
theorem ok_jpT {S : TdS K mg} (T : Tx K mg) (B : TdB S) : FnOk P w K mg base (L2.CX P w) 4 T.a_judge_pace T.d_judge_pace P_judge_pace (spJPT K S.c1) := by
  refine T.F_judge_pace.okX sc_judge_pace (fun vs H Q E h => ?_) (fun cdv A outer s H vs Q E hr h => ?_)
  · obtain ⟨p, t, xs, rfl, _⟩ := h
    rfl
  · obtain ⟨p, t, xs, rfl, ht, q⟩ := h
    have eq : T.c_iInvalidChain = S.c1 := by
      have e := T.gc_iInvalidChain.symm.trans S.g1
      injection e with e
      injection e
    have OX : OexC K S.c1 := by rw [← eq]; exact oxB_ok T.io_iInvalidChain
    have ic : PySem.W.findIn K (.ref S.c1) "__init__" = some (some (.ref T.a_iInvalidChain)) := by rw [← eq]; exact T.ic_iInvalidChain
    have hr2 : Room 2 _ := hr.mono (by decide)
    refine ⟨_, pss_cons (ps_if (pt_not (pt_val (pe_callB call_isi (by rfl) T.z_isinstance (by decide +kernel) (pa_cons (pv 1) (pa_cons (pe_bltn (v := .ty "list") (u := .type "list") (by rfl) T.z_list (by decide +kernel) rfl) pa_nil)))))
      (pss_one (ps_raise rfl (takes_of rfl rfl rfl rfl) (pmk_oex OX ic T.it_iInvalidChain (ok_ic T B eq) hr2 T.b_iInvalidChain .nil pass0 (by rfl) S.g1 (pa_cons pe_int pa_nil)))) pss_nil) pss_never, ?_⟩
    refine ⟨.ref t, rfl, .ref t, .ty "list", .type "tuple", .type "list", false, rfl, .ty _, ht.ty, kit_ty (by decide +kernel), false, rfl, iteT ?_⟩
    exact ic_go (by decide) (by decide) fun dd H2 s2 hd => q dd H2 s2 hd
end
end Rp
namespace Rp
open PySem PySem.Spec PyProof.Rows L2 Rz Rm Rt Rl LamX
def stBody : Stmt → List Stmt
  | .For _ _ b _ _ => b
  | _ => []
abbrev bs (j : Nat) : Stmt := (defBody s_law).getD j (.Pass ⟨0, 0, 0, 0⟩)
abbrev fl (j : Nat) : Stmt := (stBody (bs 1)).getD j (.Pass ⟨0, 0, 0, 0⟩)
abbrev XL (P : Program) (w : World) (K : PySem.W.Frag) (mg : Str → Option Value) (base : Heap) (f : Addr) (cdv : Value) (A : Around) (outer : List Env) (s : Shared) (H0 : Hp) (E : XK) : Cx := (cxOf CX0 P w K mg base N_law "law" (defScope s_law) f cdv A outer s H0 E).nox
theorem Tabs_kp {K : PySem.W.Frag} {H H' : Hp} {row a : Addr} {ns : List Int} {Tb : List (Addr × Str)} (RA : RowAt K H row a ns) (k : Kp row H H') (t : Tabs Tb H) : Tabs Tb H' := fun p hp => by
  obtain ⟨_, _, _, hrow, _⟩ := RA.ob
  obtain ⟨ps, h1, h2, h3⟩ := t p hp
  refine ⟨ps, k _ _ h1 (fun e => by rw [e, hrow] at h1; cases h1), h2, fun pos cv hc => ?_⟩
  obtain ⟨c, e1, e2⟩ := h3 pos cv hc
  refine ⟨c, e1, k _ _ e2 (fun e => ?_)⟩
  rw [e, hrow] at e2
  unfold CodeO at e2
  cases e2
theorem kp_of {K : PySem.W.Frag} {H H' : Hp} {row a b : Addr} {ns : List Int} {o : HO} (RA : RowAt K H row a ns) (k : Kp row H H') (h : H b = some o) (n : ∀ i m q : Int, o ≠ .lst [.ref a, .int i, .int m, .int q]) : H' b = some o := by
  obtain ⟨i, m, q, hrow, _⟩ := RA.ob
  refine k _ _ h fun e => ?_
  rw [e, hrow] at h
  exact n i m q (Option.some.inj h).symm
theorem Tf.kp {K : PySem.W.Frag} {H H' : Hp} {row a b : Addr} {ns : List Int} {xs : List V} (RA : RowAt K H row a ns) (k : Kp row H H') (h : Tf H b xs) : Tf H' b xs := by
  obtain ⟨o, d, e⟩ := h
  exact ⟨o, d, kp_of RA k e fun _ _ _ z => by cases z⟩
theorem Tq.kp {K : PySem.W.Frag} {H H' : Hp} {row a b : Addr} {ns : List Int} {xs : List V} (RA : RowAt K H row a ns) (k : Kp row H H') (h : Tq H b xs) : Tq H' b xs := by
  rcases h with e | ⟨o, d, e⟩
  · exact .inl (kp_of RA k e fun _ _ _ z => by cases z)
  · exact .inr ⟨o, d, kp_of RA k e fun _ _ _ z => by cases z⟩
theorem Tf.extN {H H' : Hp} {b : Addr} {xs : List V} (h : Tf H b xs) (s : ExtN H H') : Tf H' b xs := by
  obtain ⟨o, d, e⟩ := h
  exact ⟨o, d, s _ _ e (by intro ps z; cases z)⟩
theorem Tq.extN {H H' : Hp} {b : Addr} {xs : List V} (h : Tq H b xs) (s : ExtN H H') : Tq H' b xs := by
  rcases h with e | ⟨o, d, e⟩
  · exact .inl (s _ _ e (by intro ps z; cases z))
  · exact .inr ⟨o, d, s _ _ e (by intro ps z; cases z)⟩
theorem RingAt.kp {K : PySem.W.Frag} {C : Addr} {H H' : Hp} {row a p dx td ts : Addr} {ns ds ss : List Int} (RA : RowAt K H row a ns) (k : Kp row H H') (R : RingAt C H p dx td ts ds ss) : RingAt C H' p dx td ts ds ss :=
  ⟨kp_of RA k R.ob (fun _ _ _ z => by cases z), R.td.kp RA k, R.ts.kp RA k, R.ok⟩
theorem RingAt.extN {C : Addr} {H H' : Hp} {p dx td ts : Addr} {ds ss : List Int} (R : RingAt C H p dx td ts ds ss) (s : ExtN H H') : RingAt C H' p dx td ts ds ss :=
  ⟨s _ _ R.ob (by intro ps z; cases z), R.td.extN s, R.ts.extN s, R.ok⟩
theorem RowAt.extN {K : PySem.W.Frag} {H H' : Hp} {row a : Addr} {ns : List Int} (R : RowAt K H row a ns) (s : ExtN H H') : RowAt K H' row a ns := by
  obtain ⟨i, m, q, h, h0⟩ := R.ob
  refine ⟨⟨i, m, q, s _ _ h (by intro ps z; cases z), h0⟩, ?_, R.ne⟩
  rcases R.sc with (z | ⟨o, z⟩) | z
  · exact .inl (.inl (s _ _ z (by intro ps z; cases z)))
  · exact .inl (.inr ⟨o, s _ _ z (by intro ps z; cases z)⟩)
  · exact .inr z
theorem JIt.ints (rs : List Int) : JIt (rs.map V.int) := fun v hv => by
  obtain ⟨i, _, e⟩ := List.mem_map.mp hv
  exact .inl ⟨i, e.symm⟩
theorem JIt.app {xs ys : List V} (h : JIt xs) (g : JIt ys) : JIt (xs ++ ys) := fun v hv => (List.mem_append.mp hv).elim (h v) (g v)
theorem JIt.cut {xs : List V} (h : JIt xs) (lo hi : Option Int) : JIt (cutV xs lo hi) := fun v hv => h v (List.mem_of_mem_drop (List.mem_of_mem_take hv))
theorem JIt.rep {xs : List V} (h : JIt xs) (n : Nat) : JIt (List.replicate n xs).flatten := fun v hv => by
  obtain ⟨l, hl, hv⟩ := List.mem_flatten.mp hv
  rw [List.eq_of_mem_replicate hl] at hv
  exact h v hv
/-- a list that judge_pace may be asked -/
structure LJ (H : Hp) (l : Addr) (xs : List V) (k : Nat) : Prop where
  h : H l = some (.lst xs)
  it : JIt xs
  le : xs.length ≤ k
theorem LJ.same {H H' : Hp} {l : Addr} {xs : List V} {k : Nat} (b : LJ H l xs k) (s : Same H H') : LJ H' l xs k := ⟨s _ _ b.h, b.it, b.le⟩
theorem LJ.kp {K : PySem.W.Frag} {H H' : Hp} {row a l : Addr} {ns : List Int} {xs : List V} {k : Nat} (b : LJ H l xs k) (RA : RowAt K H row a ns) (s : Kp row H H') : LJ H' l xs k :=
  ⟨kp_of RA s b.h (fun i m q z => by
    cases z
    rcases b.it (.ref a) (by simp) with ⟨_, z⟩ | z <;> cases z), b.it, b.le⟩
theorem LJ.extN {H H' : Hp} {l : Addr} {xs : List V} {k : Nat} (b : LJ H l xs k) (s : ExtN H H') : LJ H' l xs k := ⟨s _ _ b.h (by intro ps z; cases z), b.it, b.le⟩
theorem LJ.up {H : Hp} {l : Addr} {xs : List V} {k m : Nat} (b : LJ H l xs k) (h : k ≤ m) : LJ H l xs m := ⟨b.h, b.it, Nat.le_trans b.le h⟩
structure B7 (K : PySem.W.Frag) (C : Addr) (Tb : List (Addr × Str)) (H : Hp) (row a : Addr) (ns : List Int) (p dx td ts : Addr) (ds ss : List Int) : Prop where
  RA : RowAt K H row a ns
  R : RingAt C H p dx td ts ds ss
  hf : Tf H td (ds.map V.int)
  tb : Tabs Tb H
structure B8 (K : PySem.W.Frag) (C : Addr) (Tb : List (Addr × Str)) (H : Hp) (row a : Addr) (ns : List Int) (p dx td ts : Addr) (ds ss : List Int) (du : Addr) (rs : List Int) : Prop where
  b : B7 K C Tb H row a ns p dx td ts ds ss
  du : H du = some (.lst (rs.map V.int))
  pr : PR ds ss rs
section
variable {K : PySem.W.Frag} {C : Addr} {Tb : List (Addr × Str)} {H H' : Hp} {row a : Addr} {ns : List Int} {p dx td ts du : Addr} {ds ss rs : List Int}
theorem B7.same (b : B7 K C Tb H row a ns p dx td ts ds ss) (s : Same H H') : B7 K C Tb H' row a ns p dx td ts ds ss := ⟨b.RA.same s, b.R.same s, b.hf.same s, b.tb.ext s⟩
theorem B7.kp (b : B7 K C Tb H row a ns p dx td ts ds ss) (k : Kp row H H') (RA' : RowAt K H' row a ns) : B7 K C Tb H' row a ns p dx td ts ds ss := ⟨RA', b.R.kp b.RA k, b.hf.kp b.RA k, Tabs_kp b.RA k b.tb⟩
theorem B8.same (b : B8 K C Tb H row a ns p dx td ts ds ss du rs) (s : Same H H') : B8 K C Tb H' row a ns p dx td ts ds ss du rs := ⟨b.b.same s, s _ _ b.du, b.pr⟩
theorem B8.kp (b : B8 K C Tb H row a ns p dx td ts ds ss du rs) (k : Kp row H H') (RA' : RowAt K H' row a ns) : B8 K C Tb H' row a ns p dx td ts ds ss du rs :=
  ⟨b.b.kp k RA', ((⟨b.du, JIt.ints rs, Nat.le_refl _⟩ : LJ H du (rs.map V.int) (rs.map V.int).length).kp b.b.RA k).h, b.pr⟩
theorem B8.extN (b : B8 K C Tb H row a ns p dx td ts ds ss du rs) (s : ExtN H H') (t : Tabs Tb H') : B8 K C Tb H' row a ns p dx td ts ds ss du rs :=
  ⟨⟨b.b.RA.extN s, b.b.R.extN s, b.b.hf.extN s, t⟩, s _ _ b.du (by intro ps z; cases z), b.pr⟩
end
theorem iot_get {n i : Nat} {a : Int} (h : (iot n)[i]? = some a) : a = (i : Int) ∧ i < n := by
  have hl := (List.getElem?_eq_some_iff.mp h).1
  rw [iot_len] at hl
  unfold iot at h
  rw [List.getElem?_map, List.getElem?_range hl] at h
  cases h
  exact ⟨rfl, hl⟩
theorem iot_fol {n : Nat} : (∀ y ∈ iot n, 0 ≤ y ∧ y < (n : Int)) ∧ ∀ i a b, (iot n)[i]? = some a → (iot n)[i + 1]? = some b → a = (b - 1) % (n : Int) := by
  refine ⟨fun y hy => ?_, fun i a b h1 h2 => ?_⟩
  · obtain ⟨i, hi⟩ := List.getElem?_of_mem hy
    obtain ⟨e, h⟩ := iot_get hi
    omega
  · obtain ⟨e1, l1⟩ := iot_get h1
    obtain ⟨e2, l2⟩ := iot_get h2
    rw [e1, e2, show ((i + 1 : Nat) : Int) - 1 = (i : Int) by omega, Int.emod_eq_of_lt (by omega) (by omega)]
theorem noP {σ : L2.St} {H : Hp} {Q : Option Int → Hp → Prop} (h : Q none H) : tNoPart σ H Q := h
theorem ic_shaped : SeqAt.shaped (.tuple [.str "error", .str "InvalidChain", .list [.int 0]]) = true := by
  have ha : PyData.strOk "error" = true := by decide +kernel
  have hb : PyData.strOk "InvalidChain" = true := by decide +kernel
  simp [SeqAt.shaped, PyData.canLay0, PyData.canLayAll0, PyData.depth, PyData.depthAll, ha, hb]
theorem ic_eqv : (!PyData.eqv (.tuple [.str "error", .str "InvalidChain", .list [.int 0]]) (.tuple [.str "error", .str "InvalidChain", .list [.int 0]])) = false := by decide +kernel
section
variable {P : Program} {w : World} {K : PySem.W.Frag} {mg : Str → Option Value} {base : Heap}
variable {f : Addr} {cT PT : Addr} {A : Around} {outer : List Env} {s : Shared} {H0 : Hp} {E : XK}
variable {Tb : List (Addr × Str)}
theorem lx_f0 (T : Tx K mg) (hr : Room 11 (XL P w K mg base f (.ref cT) A outer s H0 E).A) : ∃ tt : TS, PS (XL P w K mg base f (.ref cT) A outer s H0 E) (fl 0) tt ∧
    ∀ (D : Ends) (H : Hp) (a row : Addr) (ns : List Int) (y2 y3 y4 y5 y6 y7 y8 y9 y10 y11 : Option V), RowAt K H row a ns → Tabs Tb H → (∀ H' td ts ds ss, Good ds ss → RowAt K H' row a ns → Tabs Tb H' → Tf H' td (ds.map V.int) → Tf H' ts (ss.map V.int) → D.nx [some (.ref a), some (.ref row), y2, some (.ref td), some (.ref ts), y5, y6, y7, y8, y9, y10, y11] H') → tt D [some (.ref a), some (.ref row), y2, y3, y4, y5, y6, y7, y8, y9, y10, y11] H := by
  have nd := sc_law.nd
  refine ⟨_, ps_asg (pe_call (ok_ring T) (hr.mono (by decide : 2 ≤ 11)) (by rfl) T.g_lring T.F_lring.kp T.b_lring .nil pass0 (pa_cons (pv 1) (pa_cons pe_int (pa_cons (pe_ix ix_list (pe_lst (pa_cons pe_int (pa_cons pe_int pa_nil))) (pe_call (ok_next T) (hr.mono (by decide : 1 ≤ 11)) (by rfl) T.g_lnext T.F_lnext.kp T.b_lnext .nil pass0 (pa_cons (pv 1) (pa_cons pe_int pa_nil))) (fun _ _ => rfl)) pa_nil)))) (pg_tup rfl (pgs_cons (pg_name (i := 3) nd rfl (.inl rfl)) (pgs_cons (pg_name (i := 4) nd rfl (.inl rfl)) pgs_nil))), ?_⟩
  intro D H a row ns y2 y3 y4 y5 y6 y7 y8 y9 y10 y11 RA tb nx
  refine ⟨_, rfl, (by show 2 ≤ sizeLine; decide), fun l hl => ?_⟩
  have s1 := same_upd (o := .lst [.int 3, .int 9]) hl
  have RA1 := RA.same s1
  obtain ⟨_, _, _, hrw1, _⟩ := RA.ob
  have nl : l ≠ row := fun e => by rw [e, hrw1] at hl; cases hl
  refine ⟨_, rfl, row, a, ns, _, rfl, RA1, by decide, by decide, fun v2 H2 v20 v21 RA2 k2 => ?_⟩
  have hl2 : H2 l = some (.lst [.int 3, .int 9]) := k2 _ _ upd_same nl
  obtain ⟨far, hfar, f1, f2⟩ : ∃ far : Int, atI [V.int 3, V.int 9] v2 = some (.int far) ∧ 1 ≤ far ∧ far ≤ 30 := by
    have : v2 = 0 ∨ v2 = 1 := by omega
    rcases this with rfl | rfl
    · exact ⟨3, rfl, by omega, by omega⟩
    · exact ⟨9, rfl, by omega, by omega⟩
  refine ⟨l, _, v2, _, rfl, rfl, .of hl2, hfar, row, a, ns, 6, far, rfl, RA2, by decide, by decide, f1, f2, fun H3 t td ts ds ss G RA3 k3 ht htd hts => ?_⟩
  refine ⟨t, _, rfl, .of ht, rfl, _, _, rfl, _, _, rfl, rfl, ?_⟩
  exact nx H3 td ts ds ss G RA3 (Tabs_kp RA2 k3 (Tabs_kp RA1 k2 (tb.ext s1))) htd hts
theorem lx_f1 (T : Tx K mg) (hr : Room 11 (XL P w K mg base f (.ref cT) A outer s H0 E).A) : ∃ tt : TS, PS (XL P w K mg base f (.ref cT) A outer s H0 E) (fl 1) tt ∧
    ∀ (D : Ends) (H : Hp) (a row : Addr) (ns : List Int) (td ts : Addr) (ds ss : List Int) (y2 y5 y6 y7 y8 y9 y10 y11 : Option V), Good ds ss → RowAt K H row a ns → Tabs Tb H → Tf H td (ds.map V.int) → Tf H ts (ss.map V.int) → (∀ H' p dx, B7 K T.C Tb H' row a ns p dx td ts ds ss → D.nx [some (.ref a), some (.ref row), y2, some (.ref td), some (.ref ts), some (.ref p), some (.int ss.sum), some (.int (ds.length : Int)), y8, y9, y10, y11] H') → tt D [some (.ref a), some (.ref row), y2, some (.ref td), some (.ref ts), y5, y6, y7, y8, y9, y10, y11] H := by
  have nd := sc_law.nd
  refine ⟨_, ps_asg (pe_tup (pa_cons (pe_make T.mkR (ok_init T) (hr.mono (by decide : 5 ≤ 11)) (by rfl) T.gC T.b_rinit .nil pass0 (pa_cons (pv 3) (pa_cons (pv 4) pa_nil))) (pa_cons (pe_callB (cr_sumT rfl) (by rfl) T.z_sum (by decide +kernel) (pa_cons (pv 4) pa_nil)) (pa_cons (pe_callB call_len_seq (by rfl) T.z_len PySem.boot_len (pa_cons (pv 3) pa_nil)) pa_nil)))) (pg_tup rfl (pgs_cons (pg_name (i := 5) nd rfl (.inr rfl)) (pgs_cons (pg_name (i := 6) nd rfl (.inl rfl)) (pgs_cons (pg_name (i := 7) nd rfl (.inl rfl)) pgs_nil)))), ?_⟩
  intro D H a row ns td ts ds ss y2 y5 y6 y7 y8 y9 y10 y11 G RA tb htd hts nx
  refine ⟨_, rfl, _, rfl, fun p dx np ndx ne => ?_⟩
  have s0 : Same H (upd (upd H dx (.own p)) p (.ins T.C dx [])) := fun b o e => by
    rw [upd_ne (ne_of_none e np), upd_ne (ne_of_none e ndx)]
    exact e
  refine ⟨p, dx, td, ts, ds, ss, rfl, upd_same, (htd.same s0).tq, (hts.same s0).tq, G, fun H3 R3 k3 => ⟨rfl, ?_⟩⟩
  have s3 : Same H H3 := Same.made np ndx k3
  refine ⟨_, rfl, ts, ss, rfl, .inl R3.ts.rd, _, rfl, td, _, rfl, .inr (.inl R3.td.rd), (by show 3 ≤ sizeLine; decide), fun t ht => ?_⟩
  have s4 := same_upd (o := .tup [.ref p, .int ss.sum, .int ((ds.map V.int).length : Int)]) ht
  refine ⟨t, _, rfl, .of upd_same, rfl, _, _, rfl, _, _, rfl, _, _, rfl, rfl, ?_⟩
  rw [List.length_map] at s4 ⊢
  exact nx _ p dx ⟨(RA.same s3).same s4, R3.same s4, (htd.same s3).same s4, (tb.ext s3).ext s4⟩
theorem lx_f2 (T : Tx K mg) (hr : Room 11 (XL P w K mg base f (.ref cT) A outer s H0 E).A) : ∃ tt : TS, PS (XL P w K mg base f (.ref cT) A outer s H0 E) (fl 2) tt ∧
    ∀ (D : Ends) (H : Hp) (a row : Addr) (ns : List Int) (p dx td ts : Addr) (ds ss : List Int) (y2 y8 y9 y10 y11 : Option V), B7 K T.C Tb H row a ns p dx td ts ds ss → (∀ H' du rs, B8 K T.C Tb H' row a ns p dx td ts ds ss du rs → D.nx [some (.ref a), some (.ref row), y2, some (.ref td), some (.ref ts), some (.ref p), some (.int ss.sum), some (.int (ds.length : Int)), some (.ref du), y9, y10, y11] H') → tt D [some (.ref a), some (.ref row), y2, some (.ref td), some (.ref ts), some (.ref p), some (.int ss.sum), some (.int (ds.length : Int)), y8, y9, y10, y11] H := by
  have nd := sc_law.nd
  refine ⟨_, ps_set (i := 8) nd rfl (.inr rfl) (pe_ifExp (pt_cmpR op_ge (pe_op op_mul (pe_callB (cr_maxT rfl) (by rfl) T.z_max (by decide +kernel) (pa_cons (pv 3) pa_nil)) (pv 6)) (pe_callB (cr_sumT rfl) (by rfl) T.z_sum (by decide +kernel) (pa_cons (pv 3) pa_nil)) (nomark _)) (pe_lst (pa_cons (pe_bmF PySem.F.plainAttrs_tuple PySem.F.slot_tuple_index PySem.F.type_tuple_index mt_tup_indexI (pv 3) (pa_cons (pe_callB (cr_maxT rfl) (by rfl) T.z_max (by decide +kernel) (pa_cons (pv 3) pa_nil)) pa_nil)) pa_nil)) (pe_listRg rfl (by rfl) T.z_list (prg_1 (by rfl) T.z_range (pv 7)))), ?_⟩
  intro D H a row ns p dx td ts ds ss y2 y8 y9 y10 y11 B nx
  have G := B.R.ok
  have b1 := G.b1
  have b12 := G.b12
  have l8 := G.l8
  refine ⟨_, rfl, td, ds, rfl, .inl B.R.td.rd, G.dys.ne, fun M hM hMu => ?_⟩
  have eM := mx_eq G.dys hM hMu
  refine ⟨_, rfl, _, _, rfl, rfl, .inr ⟨by omega, by omega⟩, _, rfl, td, ds, rfl, .inl B.R.td.rd, _, _, rfl, rfl, _, rfl, ?_⟩
  rw [← eM]
  by_cases hc : ds.sum ≤ mx ds * ss.sum
  · rw [decide_eq_true hc]
    refine iteT ⟨_, rfl, td, _, rfl, B.hf, _, rfl, td, ds, rfl, .inl B.R.td.rd, G.dys.ne, fun M2 hM2 hMu2 => ?_⟩
    obtain ⟨j, hj, hno⟩ := first_ix hM2
    have eM2 := mx_eq G.dys hM2 hMu2
    refine ⟨td, ds, M2, j, rfl, rfl, .inl B.R.td.rd, hj, hno, (by show 1 ≤ sizeLine; decide), fun l hl => ?_⟩
    exact nx _ l [(j : Int)] ⟨B.same (same_upd hl), upd_same, .inl ⟨hc, j, rfl, by rw [eM2]; exact hj, by rw [eM2]; exact hno⟩⟩
  · rw [decide_eq_false hc]
    refine iteF ⟨_, rfl, (ds.length : Int), rfl, .of_le (by omega) (by omega) (by omega) (by omega), fun l hl => ?_⟩
    exact nx _ l (iot ds.length) ⟨B.same (same_upd hl), by rw [upd_same, rgV_iot], .inr ⟨hc, rfl⟩⟩
theorem lx_f3 (T : Tx K mg) (hr : Room 11 (XL P w K mg base f (.ref cT) A outer s H0 E).A) : ∃ tt : TS, PS (XL P w K mg base f (.ref cT) A outer s H0 E) (fl 3) tt ∧
    ∀ (D : Ends) (H : Hp) (a row : Addr) (ns : List Int) (p dx td ts : Addr) (ds ss : List Int) (du : Addr) (rs : List Int) (y2 y9 y10 y11 : Option V), B8 K T.C Tb H row a ns p dx td ts ds ss du rs → (∀ H', Same H H' → D.nx [some (.ref a), some (.ref row), y2, some (.ref td), some (.ref ts), some (.ref p), some (.int ss.sum), some (.int (ds.length : Int)), some (.ref du), y9, y10, y11] H') → tt D [some (.ref a), some (.ref row), y2, some (.ref td), some (.ref ts), some (.ref p), some (.int ss.sum), some (.int (ds.length : Int)), some (.ref du), y9, y10, y11] H := by
  have nd := sc_law.nd
  refine ⟨_, ps_if (PW.pt (pw_or (pt_not (pt_val (pe_call (ok_likeD T 1) (hr.mono (by decide : 2 ≤ 11)) (by rfl) T.g_llike T.F_llike.kp T.b_llike .nil pass0 (pa_cons (pe_call (ok_paceR T) (hr.mono (by decide : 3 ≤ 11)) (by rfl) T.g_pace_readers T.F_pace_readers.kp T.b_pace_readers .nil pass0 (pa_cons (pv 5) pa_nil)) (pa_cons (pv 8) pa_nil))))) (pw_or1 (pt_cmpR (op_neD hr.units) (pe_call (ok_jp T) (hr.mono (by decide : 4 ≤ 11)) (by rfl) T.g_judge_pace T.F_judge_pace.kp T.b_judge_pace .nil pass0 (pa_cons (pv 5) (pa_cons (pv 8) pa_nil))) (pe_prop (pv 5) T.cl T.q_rpace (ok_rpace T) (hr.mono (by decide : 4 ≤ 11)) T.b_rpace .nil pass0 rfl) (nomark _))))) (pss_one (ps_ret pe_bl)) pss_nil, ?_⟩
  intro D H a row ns p dx td ts ds ss du rs y2 y9 y10 y11 B nx
  have G := B.b.R.ok
  have R := B.b.R
  have l8 := G.l8
  have l2 := G.l2
  refine ⟨_, rfl, p, dx, td, ts, ds, ss, rfl, R, B.b.hf, fun H1 l1 rs1 s1 hl1 hn1 hpr1 => ?_⟩
  have e := PR.one hpr1 B.pr
  subst e
  have hlen := PR.len G B.pr
  refine ⟨_, rfl, _, _, rfl, LkD.ints (.inr ⟨hl1, s1 _ _ B.du⟩) (by omega), fun H2 s2 => ⟨_, rfl, iteF ?_⟩⟩
  have s12 := s1.trans s2
  have R2 := R.same s12
  have hdu2 := s12 _ _ B.du
  rcases B.pr with ⟨hc, j, rfl, hj, hno⟩ | ⟨hc, rfl⟩
  · have hjl := (List.getElem?_eq_some_iff.mp hj).1
    have ej := at_nat hj
    obtain ⟨eX, eY⟩ := pX_slow hc
    refine ⟨_, rfl, _, rfl, p, dx, td, ts, ds, ss, du, [(j : Int)], rfl, R2, hdu2, (fun y hy => by rw [List.mem_singleton.mp hy]; omega), (by show 1 ≤ ds.length; omega), (fun i a b h1 h2 => by simp at h2), .inl ⟨(j : Int), rfl, fun H3 t s3 ht => ?_⟩⟩
    have R3 := R2.same s3
    refine ⟨_, rfl, p, dx, _, rfl, R3.ob, p, dx, td, ts, ds, ss, rfl, R3, fun H4 t4 s4 ht4 => tup_ne (as := [at' ds (j : Int), 1]) (bs := [pX ds ss.sum, pY ds ss.sum]) (s4 _ _ ht) ht4 ⟨_, rfl, ?_⟩⟩
    rw [decide_eq_true (by rw [eX, eY, ej])]
    exact iteF (nx H4 ((s12.trans s3).trans s4))
  · have eX : pX ds ss.sum = ds.sum / gq ds ss.sum := by unfold pX; rw [if_neg hc]
    have eY : pY ds ss.sum = ss.sum / gq ds ss.sum := by unfold pY; rw [if_neg hc]
    refine ⟨_, rfl, _, rfl, p, dx, td, ts, ds, ss, du, iot ds.length, rfl, R2, hdu2, iot_fol.1, (by rw [iot_len]; exact Nat.le_refl _), iot_fol.2, .inr ⟨iot_len _, fun H3 t s3 ht => ?_⟩⟩
    have R3 := R2.same s3
    refine ⟨_, rfl, p, dx, _, rfl, R3.ob, p, dx, td, ts, ds, ss, rfl, R3, fun H4 t4 s4 ht4 => tup_ne (as := [ds.sum / gq ds ss.sum, ss.sum / gq ds ss.sum]) (bs := [pX ds ss.sum, pY ds ss.sum]) (s4 _ _ ht) ht4 ⟨_, rfl, ?_⟩⟩
    rw [decide_eq_true (by rw [eX, eY])]
    exact iteF (nx H4 ((s12.trans s3).trans s4))
theorem lx_f4 (T : Tx K mg) (hr : Room 11 (XL P w K mg base f (.ref cT) A outer s H0 E).A) : ∃ tt : TS, PS (XL P w K mg base f (.ref cT) A outer s H0 E) (fl 4) tt ∧
    ∀ (D : Ends) (H : Hp) (a row : Addr) (ns : List Int) (p dx td ts : Addr) (ds ss : List Int) (du : Addr) (rs : List Int) (y2 y9 y10 y11 : Option V), B8 K T.C Tb H row a ns p dx td ts ds ss du rs → (∀ H' k, B8 K T.C Tb H' row a ns p dx td ts ds ss du rs → D.nx [some (.ref a), some (.ref row), y2, some (.ref td), some (.ref ts), some (.ref p), some (.int ss.sum), some (.int (ds.length : Int)), some (.ref du), some (.int k), y10, y11] H') → tt D [some (.ref a), some (.ref row), y2, some (.ref td), some (.ref ts), some (.ref p), some (.int ss.sum), some (.int (ds.length : Int)), some (.ref du), y9, y10, y11] H := by
  have nd := sc_law.nd
  refine ⟨_, ps_set (i := 9) nd rfl (.inl rfl) (pe_call (ok_next T) (hr.mono (by decide : 1 ≤ 11)) (by rfl) T.g_lnext T.F_lnext.kp T.b_lnext .nil pass0 (pa_cons (pv 1) (pa_cons (pv 7) pa_nil))), ?_⟩
  intro D H a row ns p dx td ts ds ss du rs y2 y9 y10 y11 B nx
  have G := B.b.R.ok
  have l8 := G.l8
  have l2 := G.l2
  refine ⟨_, rfl, _, rfl, row, a, ns, _, rfl, B.b.RA, by omega, by omega, fun v H1 v0 v1 RA1 k1 => ?_⟩
  exact nx H1 v (B.kp k1 RA1)
theorem lx_f5 (T : Tx K mg) (hr : Room 11 (XL P w K mg base f (.ref cT) A outer s H0 E).A) : ∃ tt : TS, PS (XL P w K mg base f (.ref cT) A outer s H0 E) (fl 5) tt ∧
    ∀ (D : Ends) (H : Hp) (a row : Addr) (ns : List Int) (p dx td ts : Addr) (ds ss : List Int) (du : Addr) (rs : List Int) (k : Int) (y2 y10 y11 : Option V), B8 K T.C Tb H row a ns p dx td ts ds ss du rs → (∀ H' r xs, B8 K T.C Tb H' row a ns p dx td ts ds ss du rs → LJ H' r xs 16 → D.nx [some (.ref a), some (.ref row), y2, some (.ref td), some (.ref ts), some (.ref p), some (.int ss.sum), some (.int (ds.length : Int)), some (.ref du), some (.int k), some (.ref r), y11] H') → tt D [some (.ref a), some (.ref row), y2, some (.ref td), some (.ref ts), some (.ref p), some (.int ss.sum), some (.int (ds.length : Int)), some (.ref du), some (.int k), y10, y11] H := by
  have nd := sc_law.nd
  refine ⟨_, ps_set (i := 10) nd rfl (.inr rfl) (pe_slice sl_list (pe_op op_rep (pe_listRg rfl (by rfl) T.z_list (prg_1 (by rfl) T.z_range (pv 7))) pe_int) (po_some (pv 9)) (po_some (pe_op op_add (pv 9) (pv 7)))), ?_⟩
  intro D H a row ns p dx td ts ds ss du rs k y2 y10 y11 B nx
  have G := B.b.R.ok
  have l8 := G.l8
  have hrl : (rgV 0 (ds.length : Int)).length = ds.length := by rw [rgV_iot, List.length_map, iot_len]
  have hji : JIt (rgV 0 (ds.length : Int)) := by rw [rgV_iot]; exact JIt.ints _
  refine ⟨_, rfl, (ds.length : Int), rfl, .of_le (by omega) (by omega) (by omega) (by omega), fun l hl => ?_⟩
  have s1 := same_upd (o := .lst (rgV 0 (ds.length : Int))) hl
  refine ⟨l, 2, _, rfl, rfl, upd_same, by decide, by decide, (by rw [hrl, sizeLine_eq]; show ds.length * 2 ≤ _; omega), fun l2 hl2 => ?_⟩
  have s2 := same_upd (o := .lst (List.replicate (2 : Int).toNat (rgV 0 (ds.length : Int))).flatten) hl2
  refine ⟨_, rfl, _, rfl, _, rfl, _, rfl, _, _, rfl, rfl, _, rfl, l2, _, rfl, .of upd_same, fun l3 hl3 => ?_⟩
  have s3 := same_upd (o := .lst (cutV (List.replicate (2 : Int).toNat (rgV 0 (ds.length : Int))).flatten (some k) (some (k + (ds.length : Int))))) hl3
  refine nx _ l3 _ (((B.same s1).same s2).same s3) ⟨upd_same, (hji.rep _).cut _ _, ?_⟩
  refine Nat.le_trans (cutV_length _ _ _) ?_
  show (List.replicate 2 (rgV 0 (ds.length : Int))).flatten.length ≤ 16
  rw [show List.replicate 2 (rgV 0 (ds.length : Int)) = [rgV 0 (ds.length : Int), rgV 0 (ds.length : Int)] from rfl]
  simp [hrl]
  omega
theorem lx_f6 (T : Tx K mg) (hr : Room 11 (XL P w K mg base f (.ref cT) A outer s H0 E).A) : ∃ tt : TS, PS (XL P w K mg base f (.ref cT) A outer s H0 E) (fl 6) tt ∧
    ∀ (D : Ends) (H : Hp) (a row : Addr) (ns : List Int) (p dx td ts : Addr) (ds ss : List Int) (du : Addr) (rs : List Int) (k : Int) (r : Addr) (xs : List V) (y2 y11 : Option V), B8 K T.C Tb H row a ns p dx td ts ds ss du rs → LJ H r xs 16 → (∀ H' r xs, B8 K T.C Tb H' row a ns p dx td ts ds ss du rs → LJ H' r xs 16 → D.nx [some (.ref a), some (.ref row), y2, some (.ref td), some (.ref ts), some (.ref p), some (.int ss.sum), some (.int (ds.length : Int)), some (.ref du), some (.int k), some (.ref r), y11] H') → tt D [some (.ref a), some (.ref row), y2, some (.ref td), some (.ref ts), some (.ref p), some (.int ss.sum), some (.int (ds.length : Int)), some (.ref du), some (.int k), some (.ref r), y11] H := by
  have nd := sc_law.nd
  refine ⟨_, ps_set (i := 10) nd rfl (.inr rfl) (pe_call (ok_pickV T) (hr.mono (by decide : 2 ≤ 11)) (by rfl) T.g_lpick T.F_lpick.kp T.b_lpick .nil pass0 (pa_cons (pv 1) (pa_cons (pe_lst (pa_cons (pe_lst (pa_cons (pv 9) pa_nil)) (pa_cons (pv 10) (pa_cons (pe_slice sl_list (pv 10) (po_some pe_int) po_none) (pa_cons (pe_lst pa_nil) pa_nil))))) pa_nil))), ?_⟩
  intro D H a row ns p dx td ts ds ss du rs k r xs y2 y11 B L nx
  obtain ⟨_, _, _, hrw, _⟩ := B.b.RA.ob
  refine ⟨_, rfl, _, rfl, (by show 1 ≤ sizeLine; decide), fun l1 h1 => ?_⟩
  have s1 := same_upd (o := .lst [.int k]) h1
  refine ⟨_, rfl, _, rfl, _, rfl, ?_⟩
  refine noP ⟨r, xs, rfl, .of (L.same s1).h, fun l2 h2 => ?_⟩
  have s2 := same_upd (o := .lst (cutV xs (some 1) none)) h2
  refine ⟨(by show 0 ≤ sizeLine; decide), fun l3 h3 => ?_⟩
  have s3 := same_upd (o := .lst []) h3
  refine ⟨(by show 4 ≤ sizeLine; decide), fun l4 h4 => ?_⟩
  have s4 := same_upd (o := .lst [.ref l1, .ref r, .ref l2, .ref l3]) h4
  have B4 := (((B.same s1).same s2).same s3).same s4
  have L1 : LJ _ l1 [.int k] 16 := ⟨s4 _ _ (s3 _ _ (s2 _ _ upd_same)), JIt.ints [k], by show 1 ≤ 16; decide⟩
  have L0 := (((L.same s1).same s2).same s3).same s4
  have L2 : LJ _ l2 (cutV xs (some 1) none) 16 := ⟨s4 _ _ (s3 _ _ upd_same), L.it.cut _ _, Nat.le_trans (cutV_length _ _ _) L.le⟩
  have L3 : LJ _ l3 [] 16 := ⟨s4 _ _ upd_same, JIt.ints [], by show 0 ≤ 16; decide⟩
  refine ⟨row, a, l4, ns, _, rfl, B4.b.RA, upd_same, (((B.b.RA.same s1).same s2).same s3).nn h4, by show 1 ≤ 4; decide, by show 4 ≤ 1000; decide, fun v H5 hv RA5 k5 => ?_⟩
  have hv : v = .ref l1 ∨ v = .ref r ∨ v = .ref l2 ∨ v = .ref l3 := by simpa using hv
  rcases hv with rfl | rfl | rfl | rfl
  · exact nx H5 _ _ (B4.kp k5 RA5) (L1.kp B4.b.RA k5)
  · exact nx H5 _ _ (B4.kp k5 RA5) (L0.kp B4.b.RA k5)
  · exact nx H5 _ _ (B4.kp k5 RA5) (L2.kp B4.b.RA k5)
  · exact nx H5 _ _ (B4.kp k5 RA5) (L3.kp B4.b.RA k5)
theorem lx_f7 (T : Tx K mg) (hr : Room 11 (XL P w K mg base f (.ref cT) A outer s H0 E).A) : ∃ tt : TS, PS (XL P w K mg base f (.ref cT) A outer s H0 E) (fl 7) tt ∧
    ∀ (D : Ends) (H : Hp) (a row : Addr) (ns : List Int) (p dx td ts : Addr) (ds ss : List Int) (du : Addr) (rs : List Int) (k : Int) (r : Addr) (xs : List V) (y2 y11 : Option V), B8 K T.C Tb H row a ns p dx td ts ds ss du rs → LJ H r xs 16 → (∀ H' r xs, B8 K T.C Tb H' row a ns p dx td ts ds ss du rs → LJ H' r xs 17 → D.nx [some (.ref a), some (.ref row), y2, some (.ref td), some (.ref ts), some (.ref p), some (.int ss.sum), some (.int (ds.length : Int)), some (.ref du), some (.int k), some (.ref r), y11] H') → tt D [some (.ref a), some (.ref row), y2, some (.ref td), some (.ref ts), some (.ref p), some (.int ss.sum), some (.int (ds.length : Int)), some (.ref du), some (.int k), some (.ref r), y11] H := by
  have nd := sc_law.nd
  refine ⟨_, ps_set (i := 10) nd rfl (.inr rfl) (pe_call (ok_pickV T) (hr.mono (by decide : 2 ≤ 11)) (by rfl) T.g_lpick T.F_lpick.kp T.b_lpick .nil pass0 (pa_cons (pv 1) (pa_cons (pe_lst (pa_cons (pv 10) (pa_cons (pv 10) (pa_cons (pe_op op_cat (pv 10) (pe_lst (pa_cons (pe_call (ok_next T) (hr.mono (by decide : 1 ≤ 11)) (by rfl) T.g_lnext T.F_lnext.kp T.b_lnext .nil pass0 (pa_cons (pv 1) (pa_cons (pv 7) pa_nil))) pa_nil))) (pa_cons (pe_op op_cat (pv 10) (pe_lst (pa_cons pe_non pa_nil))) (pa_cons (pe_op op_cat (pe_lst (pa_cons (pe_un un_neg pe_int) pa_nil)) (pv 10)) pa_nil)))))) pa_nil))), ?_⟩
  intro D H a row ns p dx td ts ds ss du rs k r xs y2 y11 B L nx
  have G := B.b.R.ok
  have l8 := G.l8
  have l2 := G.l2
  have hxl := L.le
  refine ⟨_, rfl, _, rfl, _, rfl, _, rfl, _, rfl, _, rfl, row, a, ns, _, rfl, B.b.RA, by omega, by omega, fun v H1 v0 v1 RA1 k1 => ?_⟩
  have B1 := B.kp k1 RA1
  have L1 := L.kp B.b.RA k1
  refine ⟨(by show 1 ≤ sizeLine; decide), fun q1 g1 => ?_⟩
  have s1 := same_upd (o := .lst [.int v]) g1
  refine ⟨r, q1, _, _, rfl, rfl, (L1.same s1).h, upd_same, (by rw [sizeLine_eq]; show xs.length + 1 ≤ _; omega), fun q2 g2 => ?_⟩
  have s2 := same_upd (o := .lst (xs ++ [.int v])) g2
  refine ⟨_, rfl, (by show 1 ≤ sizeLine; decide), fun q3 g3 => ?_⟩
  have s3 := same_upd (o := .lst [.non]) g3
  refine ⟨r, q3, _, _, rfl, rfl, (((L1.same s1).same s2).same s3).h, upd_same, (by rw [sizeLine_eq]; show xs.length + 1 ≤ _; omega), fun q4 g4 => ?_⟩
  have s4 := same_upd (o := .lst (xs ++ [.non])) g4
  refine ⟨_, rfl, (by show 1 ≤ sizeLine; decide), fun q5 g5 => ?_⟩
  have s5 := same_upd (o := .lst [.int (-1)]) g5
  refine ⟨_, rfl, q5, r, _, _, rfl, rfl, upd_same, (((((L1.same s1).same s2).same s3).same s4).same s5).h, (by rw [sizeLine_eq]; show 1 + xs.length ≤ _; omega), fun q6 g6 => ?_⟩
  have s6 := same_upd (o := .lst ([.int (-1)] ++ xs)) g6
  refine ⟨(by show 5 ≤ sizeLine; decide), fun q7 g7 => ?_⟩
  have s7 := same_upd (o := .lst [.ref r, .ref r, .ref q2, .ref q4, .ref q6]) g7
  have RA6 := (((((B1.b.RA.same s1).same s2).same s3).same s4).same s5).same s6
  have B7 := ((((((B1.same s1).same s2).same s3).same s4).same s5).same s6).same s7
  have L0 := ((((((L1.same s1).same s2).same s3).same s4).same s5).same s6).same s7
  have M2 : LJ _ q2 (xs ++ [.int v]) 17 := ⟨s7 _ _ (s6 _ _ (s5 _ _ (s4 _ _ (s3 _ _ upd_same)))), L.it.app (JIt.ints [v]), by rw [List.length_append]; show xs.length + 1 ≤ 17; omega⟩
  have M4 : LJ _ q4 (xs ++ [.non]) 17 := ⟨s7 _ _ (s6 _ _ (s5 _ _ upd_same)), L.it.app (fun v hv => .inr (List.mem_singleton.mp hv)), by rw [List.length_append]; show xs.length + 1 ≤ 17; omega⟩
  have M6 : LJ _ q6 ([.int (-1)] ++ xs) 17 := ⟨s7 _ _ upd_same, (JIt.ints [-1]).app L.it, by rw [List.length_append]; show 1 + xs.length ≤ 17; omega⟩
  refine ⟨row, a, q7, ns, _, rfl, B7.b.RA, upd_same, RA6.nn g7, by show 1 ≤ 5; decide, by show 5 ≤ 1000; decide, fun z H8 hv RA8 k8 => ?_⟩
  have hv : z = .ref r ∨ z = .ref q2 ∨ z = .ref q4 ∨ z = .ref q6 := by simpa using hv
  rcases hv with rfl | rfl | rfl | rfl
  · exact nx H8 _ _ (B7.kp k8 RA8) ((L0.up (by decide)).kp B7.b.RA k8)
  · exact nx H8 _ _ (B7.kp k8 RA8) (M2.kp B7.b.RA k8)
  · exact nx H8 _ _ (B7.kp k8 RA8) (M4.kp B7.b.RA k8)
  · exact nx H8 _ _ (B7.kp k8 RA8) (M6.kp B7.b.RA k8)
theorem lx_f8 (T : Tx K mg) {S : TdS K mg} (B : TdB S) (TB : TabB base mg cT PT) (hr : Room 11 (XL P w K mg base f (.ref cT) A outer s H0 E).A) : ∃ tt : TS, PS (XL P w K mg base f (.ref cT) A outer s H0 E) (fl 8) tt ∧
    ∀ (D : Ends) (H : Hp) (a row : Addr) (ns : List Int) (p dx td ts : Addr) (ds ss : List Int) (du : Addr) (rs : List Int) (k : Int) (r : Addr) (xs : List V) (y2 y11 : Option V), B8 K T.C [(PT, (XL P w K mg base f (.ref cT) A outer s H0 E).env.qual ++ "<lambda>")] H row a ns p dx td ts ds ss du rs → LJ H r xs 17 → (∀ H', B8 K T.C [(PT, (XL P w K mg base f (.ref cT) A outer s H0 E).env.qual ++ "<lambda>")] H' row a ns p dx td ts ds ss du rs → D.nx [some (.ref a), some (.ref row), y2, some (.ref td), some (.ref ts), some (.ref p), some (.int ss.sum), some (.int (ds.length : Int)), some (.ref du), some (.int k), some (.ref r), y11] H') → tt D [some (.ref a), some (.ref row), y2, some (.ref td), some (.ref ts), some (.ref p), some (.int ss.sum), some (.int (ds.length : Int)), some (.ref du), some (.int k), some (.ref r), y11] H := by
  have nd := sc_law.nd
  refine ⟨_, ps_if (pt_not (pt_val (pe_call (ok_likeD T 2) (hr.mono (by decide : 3 ≤ 11)) (by rfl) T.g_llike T.F_llike.kp T.b_llike .nil pass0 (pa_cons (pe_told1 (k := 4) T B TB rfl (by rfl) (lamP_by (N := N_law) (sc := defScope s_law) (by decide +kernel)) rfl (fun _ _ _ _ _ _ _ => .of_eq rfl) (hr.mono (by decide : 6 ≤ 11)) (fun A outer s H E f c' hr2 => pe_callS (ok_jpX T B) hr2 (by rfl) T.g_judge_pace T.F_judge_pace.kp T.b_judge_pace (fun σ => passAt (takes_of rfl rfl rfl rfl) σ) (pa_cons (pv 5) (pa_cons (pv 10) pa_nil)))) (pa_cons (pe_call (ok_jd T) (hr.mono (by decide : 2 ≤ 11)) (by rfl) T.g_ljudged T.F_ljudged.kp T.b_ljudged .nil pass0 (pa_cons (pv 3) (pa_cons (pv 6) (pa_cons (pv 10) pa_nil)))) pa_nil))))) (pss_one (ps_ret pe_bl)) pss_nil, ?_⟩
  intro D H a row ns p dx td ts ds ss du rs k r xs y2 y11 b L nx
  have G := b.b.R.ok
  obtain ⟨o, ho⟩ := jout_ex ds ss xs
  have hle := L.le
  refine ⟨b.b.tb, fun H1 x1 t1 E' hE => ?_⟩
  have b1 := b.extN x1 t1
  have L1 := L.extN x1
  refine ⟨_, rfl, _, rfl, p, dx, td, ts, ds, ss, r, xs, o, rfl, b1.b.R, L1.h, L.it, by omega, ho, fun i dd H2 ho1 s2 hd => ?_, fun u v t H2 ho1 s2 ht => ?_⟩
  · refine hE _ _ _ (.inr ⟨dd, .int i, rfl, rfl, hd, fun p2 l2 H3 s3 hl2 hp2 => ?_⟩)
    have s23 := s2.trans s3
    have b3 := b1.same s23
    refine ⟨_, rfl, _, rfl, _, rfl, td, r, ds, ss, xs, o, rfl, G, b3.b.hf, (L1.same s23).h, L.it, by omega, ho, fun i' t l3 H4 ho2 s4 ht hl3 => ?_, fun u v t H4 ho2 s4 ht => ?_⟩
    · rw [ho1] at ho2
      cases ho2
      refine ⟨_, _, rfl, .inr ⟨p2, t, _, _, rfl, rfl, .inl ⟨s4 _ _ hp2, ht⟩, rfl, by show 3 ≤ 1000000; decide, fun j x y hx hy => ?_⟩, fun H5 s5 => ⟨_, rfl, iteF (nx H5 ((b3.same s4).same s5))⟩⟩
      match j, hx, hy with
      | 0, hx, hy => cases hx; cases hy; exact .inl (.inr (.inr ⟨_, rfl, rfl⟩))
      | 1, hx, hy => cases hx; cases hy; exact .inl (.inr (.inr ⟨_, rfl, rfl⟩))
      | 2, hx, hy => cases hx; cases hy; exact LkD.ints (l := [i]) (.inr ⟨s4 _ _ hl2, hl3⟩) (by show 1 ≤ 1000; decide)
      | j + 3, hx, hy => cases hx
    · rw [ho1] at ho2
      cases ho2
  · have b2 := b1.same s2
    refine ⟨_, rfl, _, rfl, _, rfl, td, r, ds, ss, xs, o, rfl, G, b2.b.hf, (L1.same s2).h, L.it, by omega, ho, fun i' t' l3 H4 ho2 s4 ht' hl3 => ?_, fun u' v' t' H4 ho2 s4 ht' => ?_⟩
    · rw [ho1] at ho2
      cases ho2
    · rw [ho1] at ho2
      cases ho2
      exact ⟨_, _, rfl, .inl (LkD.ints (l := [u, v]) (.inl ⟨s4 _ _ ht, ht'⟩) (by show 2 ≤ 1000; decide)), fun H5 s5 => ⟨_, rfl, iteF (nx H5 ((b2.same s4).same s5))⟩⟩
theorem lx_f9 (T : Tx K mg) {S : TdS K mg} (B : TdB S) (TB : TabB base mg cT PT) (hr : Room 11 (XL P w K mg base f (.ref cT) A outer s H0 E).A) : ∃ tt : TS, PS (XL P w K mg base f (.ref cT) A outer s H0 E) (fl 9) tt ∧
    ∀ (D : Ends) (H : Hp) (a row : Addr) (ns : List Int) (p dx td ts : Addr) (ds ss : List Int) (du : Addr) (rs : List Int) (k : Int) (r : Addr) (xs : List V) (y2 y11 : Option V), B8 K T.C [(PT, (XL P w K mg base f (.ref cT) A outer s H0 E).env.qual ++ "<lambda>")] H row a ns p dx td ts ds ss du rs → (∀ H', B8 K T.C [(PT, (XL P w K mg base f (.ref cT) A outer s H0 E).env.qual ++ "<lambda>")] H' row a ns p dx td ts ds ss du rs → D.nx [some (.ref a), some (.ref row), y2, some (.ref td), some (.ref ts), some (.ref p), some (.int ss.sum), some (.int (ds.length : Int)), some (.ref du), some (.int k), some (.ref r), y11] H') → tt D [some (.ref a), some (.ref row), y2, some (.ref td), some (.ref ts), some (.ref p), some (.int ss.sum), some (.int (ds.length : Int)), some (.ref du), some (.int k), some (.ref r), y11] H := by
  have nd := sc_law.nd
  refine ⟨_, ps_if (pt_cmpR (op_neD hr.units) (pe_toldD1 (k := 4) T B TB rfl (by rfl) (lamP_by (N := N_law) (sc := defScope s_law) (by decide +kernel)) rfl rfl ⟨"_law_a", by decide +kernel, fun _ _ _ _ _ _ _ _ _ _ _ ho hd => BindsTo.of_defaults rfl ho hd rfl rfl⟩ (hr.mono (by decide : 6 ≤ 11)) (fun A outer s H E f c' hr2 => pe_callS (ok_jpT T B) hr2 (by rfl) T.g_judge_pace T.F_judge_pace.kp T.b_judge_pace (fun σ => passAt (takes_of rfl rfl rfl rfl) σ) (pa_cons (pv 5) (pa_cons (pe_callTy (T := "tuple") (r := rTupF K) call_tuple_frz (by rfl) T.z_tuple (by decide +kernel) (pa_cons (pv 8) pa_nil)) pa_nil)))) (pe_tup (pa_cons pe_str (pa_cons pe_str (pa_cons (pe_lst (pa_cons pe_int pa_nil)) pa_nil)))) (nomark _)) (pss_one (ps_ret pe_bl)) pss_nil, ?_⟩
  intro D H a row ns p dx td ts ds ss du rs k r xs y2 y11 b nx
  refine ⟨b.b.tb, fun H1 x1 t1 E' hE => ?_⟩
  have b1 := b.extN x1 t1
  refine ⟨_, rfl, _, rfl, du, _, rfl, .of b1.du, fun l1 o1 hl1 hd1 => ?_⟩
  have s1 := same_upd (o := .frz o1 (.tup (rs.map V.int))) hl1
  refine ⟨p, l1, rs.map V.int, rfl, .inr ⟨o1, hd1, upd_same⟩, fun dd H2 s2 hd => ?_⟩
  refine hE _ _ _ (.inr ⟨dd, .int 0, rfl, rfl, hd, fun p2 l2 H3 s3 hl2 hp2 => ?_⟩)
  have b3 := ((b1.same s1).same s2).same s3
  refine ⟨(by show 1 ≤ sizeLine; decide), fun l3 h3 => ⟨(by show 3 ≤ sizeLine; decide), fun t3 ht3 => ?_⟩⟩
  have s4 := same_upd (o := .lst [.int 0]) h3
  have s5 := same_upd (o := .tup [.str "error", .str "InvalidChain", .ref l3]) ht3
  refine ⟨_, _, .tup (.of (s5 _ _ (s4 _ _ hp2))) (.cons (.str _) (.cons (.str _) (.cons (.lst (.of (s5 _ _ (s4 _ _ hl2))) (.cons (.int _) .nil)) .nil))), .tup (.of upd_same) (.cons (.str _) (.cons (.str _) (.cons (.lst (.of (s5 _ _ upd_same)) (.cons (.int _) .nil)) .nil))), ic_shaped, ic_shaped, _, rfl, ?_⟩
  rw [ic_eqv]
  exact iteF (nx _ ((b3.same s4).same s5))
theorem lx_f10 (T : Tx K mg) (hr : Room 11 (XL P w K mg base f (.ref cT) A outer s H0 E).A) : ∃ tt : TS, PS (XL P w K mg base f (.ref cT) A outer s H0 E) (fl 10) tt ∧
    ∀ (D : Ends) (H : Hp) (a row : Addr) (ns : List Int) (p dx td ts : Addr) (ds ss : List Int) (du : Addr) (rs : List Int) (k : Int) (r : Addr) (xs : List V) (y2 y11 : Option V), B8 K T.C Tb H row a ns p dx td ts ds ss du rs → (∀ H' t, B8 K T.C Tb H' row a ns p dx td ts ds ss du rs → H' t = some (.tup [.int (ds.sum / gq ds ss.sum), .int (ss.sum / gq ds ss.sum)]) → D.nx [some (.ref a), some (.ref row), y2, some (.ref td), some (.ref ts), some (.ref p), some (.int ss.sum), some (.int (ds.length : Int)), some (.ref du), some (.int k), some (.ref r), some (.ref t)] H') → tt D [some (.ref a), some (.ref row), y2, some (.ref td), some (.ref ts), some (.ref p), some (.int ss.sum), some (.int (ds.length : Int)), some (.ref du), some (.int k), some (.ref r), y11] H := by
  have nd := sc_law.nd
  refine ⟨_, ps_set (i := 11) nd rfl (.inl rfl) (pe_call (ok_jp T) (hr.mono (by decide : 4 ≤ 11)) (by rfl) T.g_judge_pace T.F_judge_pace.kp T.b_judge_pace .nil pass0 (pa_cons (pv 5) (pa_cons (pe_listRg rfl (by rfl) T.z_list (prg_1 (by rfl) T.z_range (pv 7))) pa_nil))), ?_⟩
  intro D H a row ns p dx td ts ds ss du rs k r xs y2 y11 B nx
  have l8 := B.b.R.ok.l8
  refine ⟨_, rfl, _, rfl, (ds.length : Int), rfl, .of_le (by omega) (by omega) (by omega) (by omega), fun l hl => ?_⟩
  have s1 := same_upd (o := .lst (rgV 0 (ds.length : Int))) hl
  have B1 := B.same s1
  refine ⟨p, dx, td, ts, ds, ss, l, iot ds.length, rfl, B1.b.R, by rw [upd_same, rgV_iot], iot_fol.1, (by rw [iot_len]; exact Nat.le_refl _), iot_fol.2, .inr ⟨iot_len _, fun H2 t s2 ht => ?_⟩⟩
  exact nx H2 t (B1.same s2) ht
theorem lx_f11 (T : Tx K mg) (hr : Room 11 (XL P w K mg base f (.ref cT) A outer s H0 E).A) : ∃ tt : TS, PS (XL P w K mg base f (.ref cT) A outer s H0 E) (fl 11) tt ∧
    ∀ (D : Ends) (H : Hp) (a row : Addr) (ns : List Int) (p dx td ts : Addr) (ds ss : List Int) (du : Addr) (rs : List Int) (k : Int) (r : Addr) (xs : List V) (t : Addr) (y2 : Option V), B8 K T.C Tb H row a ns p dx td ts ds ss du rs → H t = some (.tup [.int (ds.sum / gq ds ss.sum), .int (ss.sum / gq ds ss.sum)]) → (∀ H', B8 K T.C Tb H' row a ns p dx td ts ds ss du rs → D.nx [some (.ref a), some (.ref row), y2, some (.ref td), some (.ref ts), some (.ref p), some (.int ss.sum), some (.int (ds.length : Int)), some (.ref du), some (.int k), some (.ref r), some (.ref t)] H') → tt D [some (.ref a), some (.ref row), y2, some (.ref td), some (.ref ts), some (.ref p), some (.int ss.sum), some (.int (ds.length : Int)), some (.ref du), some (.int k), some (.ref r), some (.ref t)] H := by
  have nd := sc_law.nd
  refine ⟨_, ps_if (pt_not (pt_cmpR op_le (pe_op op_mul (pe_ix ix_tup (pv 11) pe_int (fun _ _ => rfl)) (pe_ix ix_tup (pe_prop (pv 5) T.cl T.q_rpace (ok_rpace T) (hr.mono (by decide : 4 ≤ 11)) T.b_rpace .nil pass0 rfl) pe_int (fun _ _ => rfl))) (pe_op op_mul (pe_ix ix_tup (pe_prop (pv 5) T.cl T.q_rpace (ok_rpace T) (hr.mono (by decide : 4 ≤ 11)) T.b_rpace .nil pass0 rfl) pe_int (fun _ _ => rfl)) (pe_ix ix_tup (pv 11) pe_int (fun _ _ => rfl))) (nomark _))) (pss_one (ps_ret pe_bl)) pss_nil, ?_⟩
  intro D H a row ns p dx td ts ds ss du rs k r xs t y2 B ht nx
  have G := B.b.R.ok
  have b1 := G.b1
  have b12 := G.b12
  have R := B.b.R
  have hy := pY_le G
  have hq0 : 0 ≤ ss.sum / gq ds ss.sum := Int.ediv_nonneg (by omega) (by have := (gq_facts (ds := ds) b1).1; omega)
  have hq1 : ss.sum / gq ds ss.sum ≤ ss.sum := Int.ediv_le_self _ (by omega)
  have key := (shown_le G).2.1
  refine ⟨_, rfl, t, _, 0, _, rfl, rfl, .of ht, atI_nat (j := 0) rfl, _, rfl, p, dx, _, rfl, R.ob, p, dx, td, ts, ds, ss, rfl, R, fun H2 t2 s2 e2 => ?_⟩
  have R2 := R.same s2
  refine ⟨t2, _, 1, _, rfl, rfl, .of e2, atI_nat (j := 1) rfl, _, _, rfl, rfl, .inr ⟨by omega, by omega⟩, _, rfl, p, dx, _, rfl, R2.ob, p, dx, td, ts, ds, ss, rfl, R2, fun H3 t3 s3 e3 => ?_⟩
  refine ⟨t3, _, 0, _, rfl, rfl, .of e3, atI_nat (j := 0) rfl, _, rfl, t, _, 1, _, rfl, rfl, .of (s3 _ _ (s2 _ _ ht)), atI_nat (j := 1) rfl, _, _, rfl, rfl, .inr ⟨by omega, by omega⟩, _, _, rfl, rfl, _, rfl, ?_⟩
  rw [decide_eq_true (by omega)]
  exact iteF (nx H3 ((B.same s2).same s3))
end
end Rp
namespace Rp
open PySem PySem.Spec PyProof.Rows L2 Rz Rm Rt Rl LamX
section
variable {P : Program} {w : World} {K : PySem.W.Frag} {mg : Str → Option Value} {base : Heap}
def spLawL (K : PySem.W.Frag) (PT : Addr) : Sp := fun vs H Q _ => ∃ (a : Addr) (ns : List Int), vs = [.ref a] ∧ SqL K H a (ns.map V.int) ∧ ns.length ≤ 63 ∧ H PT = some (.tbl #[]) ∧ ∀ H', Q (.bl true) H'
theorem ok_law {cT PT : Addr} (T : Tx K mg) (S : TdS K mg) (B : TdB S) (TB : TabB base mg cT PT) (FC : FunC K "law" "law" s_law T.a_law T.d_law (.ref cT)) : FnOk P w K mg base CX0 12 T.a_law T.d_law P_law (spLawL K PT) := by
  refine FC.ok sc_law (fun vs H Q E h => ?_) (fun A outer s H vs Q E hr h => ?_)
  · obtain ⟨a, ns, rfl, _⟩ := h
    rfl
  · obtain ⟨a, ns, rfl, hS, hlen, hP, q⟩ := h
    have hr1 : Room 1 _ := hr.mono (by decide)
    have nd := sc_law.nd
    obtain ⟨u0, q0, v0⟩ := lx_f0 (P := P) (w := w) (base := base) (f := T.a_law) (cT := cT) (A := A) (outer := outer) (s := s) (H0 := H) (E := E) (Tb := [(PT, (XL P w K mg base T.a_law (.ref cT) A outer s H E).env.qual ++ "<lambda>")]) T hr
    obtain ⟨u1, q1, v1⟩ := lx_f1 (P := P) (w := w) (base := base) (f := T.a_law) (cT := cT) (A := A) (outer := outer) (s := s) (H0 := H) (E := E) (Tb := [(PT, (XL P w K mg base T.a_law (.ref cT) A outer s H E).env.qual ++ "<lambda>")]) T hr
    obtain ⟨u2, q2, v2⟩ := lx_f2 (P := P) (w := w) (base := base) (f := T.a_law) (cT := cT) (A := A) (outer := outer) (s := s) (H0 := H) (E := E) (Tb := [(PT, (XL P w K mg base T.a_law (.ref cT) A outer s H E).env.qual ++ "<lambda>")]) T hr
    obtain ⟨u3, q3, v3⟩ := lx_f3 (P := P) (w := w) (base := base) (f := T.a_law) (cT := cT) (A := A) (outer := outer) (s := s) (H0 := H) (E := E) (Tb := [(PT, (XL P w K mg base T.a_law (.ref cT) A outer s H E).env.qual ++ "<lambda>")]) T hr
    obtain ⟨u4, q4, v4⟩ := lx_f4 (P := P) (w := w) (base := base) (f := T.a_law) (cT := cT) (A := A) (outer := outer) (s := s) (H0 := H) (E := E) (Tb := [(PT, (XL P w K mg base T.a_law (.ref cT) A outer s H E).env.qual ++ "<lambda>")]) T hr
    obtain ⟨u5, q5, v5⟩ := lx_f5 (P := P) (w := w) (base := base) (f := T.a_law) (cT := cT) (A := A) (outer := outer) (s := s) (H0 := H) (E := E) (Tb := [(PT, (XL P w K mg base T.a_law (.ref cT) A outer s H E).env.qual ++ "<lambda>")]) T hr
    obtain ⟨u6, q6, v6⟩ := lx_f6 (P := P) (w := w) (base := base) (f := T.a_law) (cT := cT) (A := A) (outer := outer) (s := s) (H0 := H) (E := E) (Tb := [(PT, (XL P w K mg base T.a_law (.ref cT) A outer s H E).env.qual ++ "<lambda>")]) T hr
    obtain ⟨u7, q7, v7⟩ := lx_f7 (P := P) (w := w) (base := base) (f := T.a_law) (cT := cT) (A := A) (outer := outer) (s := s) (H0 := H) (E := E) (Tb := [(PT, (XL P w K mg base T.a_law (.ref cT) A outer s H E).env.qual ++ "<lambda>")]) T hr
    obtain ⟨u8, q8, v8⟩ := lx_f8 (P := P) (w := w) (base := base) (f := T.a_law) (cT := cT) (A := A) (outer := outer) (s := s) (H0 := H) (E := E) (PT := PT) T B TB hr
    obtain ⟨u9, q9, v9⟩ := lx_f9 (P := P) (w := w) (base := base) (f := T.a_law) (cT := cT) (A := A) (outer := outer) (s := s) (H0 := H) (E := E) (PT := PT) T B TB hr
    obtain ⟨u10, q10, v10⟩ := lx_f10 (P := P) (w := w) (base := base) (f := T.a_law) (cT := cT) (A := A) (outer := outer) (s := s) (H0 := H) (E := E) (Tb := [(PT, (XL P w K mg base T.a_law (.ref cT) A outer s H E).env.qual ++ "<lambda>")]) T hr
    obtain ⟨u11, q11, v11⟩ := lx_f11 (P := P) (w := w) (base := base) (f := T.a_law) (cT := cT) (A := A) (outer := outer) (s := s) (H0 := H) (E := E) (Tb := [(PT, (XL P w K mg base T.a_law (.ref cT) A outer s H E).env.qual ++ "<lambda>")]) T hr
    refine ⟨_, pss_cons (ps_set (i := 1) nd rfl (.inl rfl) (pe_call (ok_dice T) hr1 (by rfl) T.g_ldice T.F_ldice.kp T.b_ldice .nil pass0 (pa_cons (pv 0) pa_nil)))
      (pss_cons (ps_for PassesOwn.never rfl (pi_range1 (by rfl) T.z_range (pa_cons pe_int pa_nil)) (pg_name (i := 2) nd rfl (.inl rfl)) (pss_cons q0 (pss_cons q1 (pss_cons q2 (pss_cons q3 (pss_cons q4 (pss_cons q5 (pss_cons q6 (pss_cons q7 (pss_cons q8 (pss_cons q9 (pss_cons q10 (pss_one q11)))))))))))))
      (pss_one (ps_ret pe_bl))), ?_⟩
    have tb0 : Tabs [(PT, (XL P w K mg base T.a_law (.ref cT) A outer s H E).env.qual ++ "<lambda>")] H := fun p hp => by
      cases List.mem_singleton.mp hp
      exact TabS.nil hP
    refine ⟨_, rfl, a, ns, rfl, hS, fun H1 row RA1 s1 => ?_⟩
    refine ⟨4, rfl, by decide, by decide, ?_⟩
    refine for_range (lo := 0) (n := 4) (fun i σ H' => (∃ y2 y3 y4 y5 y6 y7 y8 y9 y10 y11, σ = [some (.ref a), some (.ref row), y2, y3, y4, y5, y6, y7, y8, y9, y10, y11]) ∧ RowAt K H' row a ns ∧ Tabs [(PT, (XL P w K mg base T.a_law (.ref cT) A outer s H E).env.qual ++ "<lambda>")] H')
      ⟨⟨none, none, none, none, none, none, none, none, none, none, rfl⟩, RA1, tb0.ext s1⟩ ?_ ?_
    · rintro i σ H2 hi ⟨⟨y2, y3, y4, y5, y6, y7, y8, y9, y10, y11, rfl⟩, RA2, tb2⟩
      show tSeq _ _ _ [some (.ref a), some (.ref row), some (.int (0 + (i : Int))), y3, y4, y5, y6, y7, y8, y9, y10, y11] H2
      refine v0 _ H2 a row ns _ _ _ _ _ _ _ _ _ _ RA2 tb2 fun H3 td ts ds ss G RA3 tb3 htd hts => ?_
      refine v1 _ H3 a row ns td ts ds ss _ _ _ _ _ _ _ _ G RA3 tb3 htd hts fun H4 p dx B4 => ?_
      refine v2 _ H4 a row ns p dx td ts ds ss _ _ _ _ _ B4 fun H5 du rs B5 => ?_
      refine v3 _ H5 a row ns p dx td ts ds ss du rs _ _ _ _ B5 fun H6 s6 => ?_
      refine v4 _ H6 a row ns p dx td ts ds ss du rs _ _ _ _ (B5.same s6) fun H7 k B7 => ?_
      refine v5 _ H7 a row ns p dx td ts ds ss du rs k _ _ _ B7 fun H8 r xs B8 L8 => ?_
      refine v6 _ H8 a row ns p dx td ts ds ss du rs k r xs _ _ B8 L8 fun H9 r xs B9 L9 => ?_
      refine v7 _ H9 a row ns p dx td ts ds ss du rs k r xs _ _ B9 L9 fun H10 r xs B10 L10 => ?_
      refine v8 _ H10 a row ns p dx td ts ds ss du rs k r xs _ _ B10 L10 fun H11 B11 => ?_
      refine v9 _ H11 a row ns p dx td ts ds ss du rs k r xs _ _ B11 fun H12 B12 => ?_
      refine v10 _ H12 a row ns p dx td ts ds ss du rs k r xs _ _ B12 fun H13 t B13 ht => ?_
      refine v11 _ H13 a row ns p dx td ts ds ss du rs k r xs t _ B13 ht fun H14 B14 => ?_
      exact ⟨⟨_, _, _, _, _, _, _, _, _, _, rfl⟩, B14.b.RA, B14.b.tb⟩
    · rintro σ H2 ⟨_, _⟩
      exact q H2
end
end Rp
namespace Rp
open PySem PySem.Spec PyProof.Rows L2 Rz Rm Rt Rl LamX
theorem all_mk {l : PySem.W.OpenLaw} {w : World} {K : PySem.W.Frag} {h : Heap} {mg : Str → Option Value} {fa C : Addr} (X : K.In h) (G : h.Ns mainGlobals mg) (hfa : mg "law" = some (.ref fa))
    {f_iInvalidChain : Addr} {od_iInvalidChain an_iInvalidChain : Option Addr} {sl_iInvalidChain : Array (Option Value)} {oc_iInvalidChain kV_iInvalidChain dc_iInvalidChain pm_iInvalidChain cd_iInvalidChain ct_iInvalidChain : Value}
    {ec_iInvalidChain : Addr}
    {f_is_number : Addr} {od_is_number an_is_number : Option Addr} {sl_is_number : Array (Option Value)} {oc_is_number kV_is_number dc_is_number pm_is_number cd_is_number ct_is_number : Value}
    {f_lies_between : Addr} {od_lies_between an_lies_between : Option Addr} {sl_lies_between : Array (Option Value)} {oc_lies_between kV_lies_between dc_lies_between pm_lies_between cd_lies_between ct_lies_between : Value}
    {f_check_number : Addr} {od_check_number an_check_number : Option Addr} {sl_check_number : Array (Option Value)} {oc_check_number kV_check_number dc_check_number pm_check_number cd_check_number ct_check_number : Value}
    {f_check_reader : Addr} {od_check_reader an_check_reader : Option Addr} {sl_check_reader : Array (Option Value)} {oc_check_reader kV_check_reader dc_check_reader pm_check_reader cd_check_reader ct_check_reader : Value}
    {f_rinit : Addr} {od_rinit an_rinit : Option Addr} {sl_rinit : Array (Option Value)} {oc_rinit kV_rinit dc_rinit pm_rinit cd_rinit ct_rinit : Value}
    {f_rdays : Addr} {od_rdays an_rdays : Option Addr} {sl_rdays : Array (Option Value)} {oc_rdays kV_rdays dc_rdays pm_rdays cd_rdays ct_rdays : Value}
    {pp_rdays : Addr} {re_rdays : List Value}
    {f_rstarts : Addr} {od_rstarts an_rstarts : Option Addr} {sl_rstarts : Array (Option Value)} {oc_rstarts kV_rstarts dc_rstarts pm_rstarts cd_rstarts ct_rstarts : Value}
    {pp_rstarts : Addr} {re_rstarts : List Value}
    {f_rbooks : Addr} {od_rbooks an_rbooks : Option Addr} {sl_rbooks : Array (Option Value)} {oc_rbooks kV_rbooks dc_rbooks pm_rbooks cd_rbooks ct_rbooks : Value}
    {pp_rbooks : Addr} {re_rbooks : List Value}
    {f_rpace : Addr} {od_rpace an_rpace : Option Addr} {sl_rpace : Array (Option Value)} {oc_rpace kV_rpace dc_rpace pm_rpace cd_rpace ct_rpace : Value}
    {pp_rpace : Addr} {re_rpace : List Value}
    {f_rlen : Addr} {od_rlen an_rlen : Option Addr} {sl_rlen : Array (Option Value)} {oc_rlen kV_rlen dc_rlen pm_rlen cd_rlen ct_rlen : Value}
    {f_rcall : Addr} {od_rcall an_rcall : Option Addr} {sl_rcall : Array (Option Value)} {oc_rcall kV_rcall dc_rcall pm_rcall cd_rcall ct_rcall : Value}
    {f_check_part : Addr} {od_check_part an_check_part : Option Addr} {sl_check_part : Array (Option Value)} {oc_check_part kV_check_part dc_check_part pm_check_part cd_check_part ct_check_part : Value}
    {f_slowest_decides : Addr} {od_slowest_decides an_slowest_decides : Option Addr} {sl_slowest_decides : Array (Option Value)} {oc_slowest_decides kV_slowest_decides dc_slowest_decides pm_slowest_decides cd_slowest_decides ct_slowest_decides : Value}
    {f_pace_of : Addr} {od_pace_of an_pace_of : Option Addr} {sl_pace_of : Array (Option Value)} {oc_pace_of kV_pace_of dc_pace_of pm_pace_of cd_pace_of ct_pace_of : Value}
    {f_round_pace : Addr} {od_round_pace an_round_pace : Option Addr} {sl_round_pace : Array (Option Value)} {oc_round_pace kV_round_pace dc_round_pace pm_round_pace cd_round_pace ct_round_pace : Value}
    {f_end_day : Addr} {od_end_day an_end_day : Option Addr} {sl_end_day : Array (Option Value)} {oc_end_day kV_end_day dc_end_day pm_end_day cd_end_day ct_end_day : Value}
    {f_reader_before : Addr} {od_reader_before an_reader_before : Option Addr} {sl_reader_before : Array (Option Value)} {oc_reader_before kV_reader_before dc_reader_before pm_reader_before cd_reader_before ct_reader_before : Value}
    {f_pace_readers : Addr} {od_pace_readers an_pace_readers : Option Addr} {sl_pace_readers : Array (Option Value)} {oc_pace_readers kV_pace_readers dc_pace_readers pm_pace_readers cd_pace_readers ct_pace_readers : Value}
    {f_judge_pace : Addr} {od_judge_pace an_judge_pace : Option Addr} {sl_judge_pace : Array (Option Value)} {oc_judge_pace kV_judge_pace dc_judge_pace pm_judge_pace cd_judge_pace ct_judge_pace : Value}
    {f_ldice : Addr} {od_ldice an_ldice : Option Addr} {sl_ldice : Array (Option Value)} {oc_ldice kV_ldice dc_ldice pm_ldice cd_ldice ct_ldice : Value}
    {f_lnext : Addr} {od_lnext an_lnext : Option Addr} {sl_lnext : Array (Option Value)} {oc_lnext kV_lnext dc_lnext pm_lnext cd_lnext ct_lnext : Value}
    {f_llike : Addr} {od_llike an_llike : Option Addr} {sl_llike : Array (Option Value)} {oc_llike kV_llike dc_llike pm_llike cd_llike ct_llike : Value}
    {f_lpick : Addr} {od_lpick an_lpick : Option Addr} {sl_lpick : Array (Option Value)} {oc_lpick kV_lpick dc_lpick pm_lpick cd_lpick ct_lpick : Value}
    {f_ltold : Addr} {od_ltold an_ltold : Option Addr} {sl_ltold : Array (Option Value)} {oc_ltold kV_ltold dc_ltold pm_ltold cd_ltold ct_ltold : Value}
    {f_lring : Addr} {od_lring an_lring : Option Addr} {sl_lring : Array (Option Value)} {oc_lring kV_lring dc_lring pm_lring cd_lring ct_lring : Value}
    {f_lterms : Addr} {od_lterms an_lterms : Option Addr} {sl_lterms : Array (Option Value)} {oc_lterms kV_lterms dc_lterms pm_lterms cd_lterms ct_lterms : Value}
    {f_ljudged : Addr} {od_ljudged an_ljudged : Option Addr} {sl_ljudged : Array (Option Value)} {oc_ljudged kV_ljudged dc_ljudged pm_ljudged cd_ljudged ct_ljudged : Value}
    {f_law : Addr} {od_law an_law : Option Addr} {sl_law : Array (Option Value)} {oc_law kV_law dc_law pm_law cd_law ct_law : Value}
    {t_LATEST : Tok}
    {t_FEWEST_READERS : Tok}
    {t_MOST_READERS : Tok}
    {t_MOST_DAYS : Tok}
    {t_MOST_BOOKS : Tok}
    (aC : PySem.W.nsIn K mainGlobals "Ring" = some (some (.ref C)))
    (xc_iInvalidChain : PySem.W.nsIn K mainGlobals "InvalidChain" = some (some (.ref ec_iInvalidChain)))
    (x_iInvalidChain : PySem.W.findIn K (.ref ec_iInvalidChain) "__init__" = some (some (.ref f_iInvalidChain)))
    (xt_iInvalidChain : PySem.W.typeIn K (.ref f_iInvalidChain) = some (.type "function"))
    (xo_iInvalidChain : oxB K ec_iInvalidChain = true)
    (l_iInvalidChain : K.lookup f_iInvalidChain = some ⟨oc_iInvalidChain, od_iInvalidChain, .func (PySem.W.fnOf "__init__" "InvalidChain.__init__" (defArgs s_iInvalidChain) (defBody s_iInvalidChain) (defScope s_iInvalidChain) .none kV_iInvalidChain dc_iInvalidChain pm_iInvalidChain an_iInvalidChain cd_iInvalidChain ct_iInvalidChain), sl_iInvalidChain⟩)
    (c_iInvalidChain : PySem.W.codeIn K cd_iInvalidChain "InvalidChain.__init__" = true)
    (k_iInvalidChain : PySem.W.keepIn K (.ref f_iInvalidChain) = true)
    (x_is_number : PySem.W.nsIn K mainGlobals "is_number" = some (some (.ref f_is_number)))
    (l_is_number : K.lookup f_is_number = some ⟨oc_is_number, od_is_number, .func (PySem.W.fnOf "is_number" "is_number" (defArgs s_is_number) (defBody s_is_number) (defScope s_is_number) .none kV_is_number dc_is_number pm_is_number an_is_number cd_is_number ct_is_number), sl_is_number⟩)
    (c_is_number : PySem.W.codeIn K cd_is_number "is_number" = true)
    (k_is_number : PySem.W.keepIn K (.ref f_is_number) = true)
    (x_lies_between : PySem.W.nsIn K mainGlobals "lies_between" = some (some (.ref f_lies_between)))
    (l_lies_between : K.lookup f_lies_between = some ⟨oc_lies_between, od_lies_between, .func (PySem.W.fnOf "lies_between" "lies_between" (defArgs s_lies_between) (defBody s_lies_between) (defScope s_lies_between) .none kV_lies_between dc_lies_between pm_lies_between an_lies_between cd_lies_between ct_lies_between), sl_lies_between⟩)
    (c_lies_between : PySem.W.codeIn K cd_lies_between "lies_between" = true)
    (k_lies_between : PySem.W.keepIn K (.ref f_lies_between) = true)
    (x_check_number : PySem.W.nsIn K mainGlobals "check_number" = some (some (.ref f_check_number)))
    (l_check_number : K.lookup f_check_number = some ⟨oc_check_number, od_check_number, .func (PySem.W.fnOf "check_number" "check_number" (defArgs s_check_number) (defBody s_check_number) (defScope s_check_number) .none kV_check_number dc_check_number pm_check_number an_check_number cd_check_number ct_check_number), sl_check_number⟩)
    (c_check_number : PySem.W.codeIn K cd_check_number "check_number" = true)
    (k_check_number : PySem.W.keepIn K (.ref f_check_number) = true)
    (x_check_reader : PySem.W.nsIn K mainGlobals "check_reader" = some (some (.ref f_check_reader)))
    (l_check_reader : K.lookup f_check_reader = some ⟨oc_check_reader, od_check_reader, .func (PySem.W.fnOf "check_reader" "check_reader" (defArgs s_check_reader) (defBody s_check_reader) (defScope s_check_reader) .none kV_check_reader dc_check_reader pm_check_reader an_check_reader cd_check_reader ct_check_reader), sl_check_reader⟩)
    (c_check_reader : PySem.W.codeIn K cd_check_reader "check_reader" = true)
    (k_check_reader : PySem.W.keepIn K (.ref f_check_reader) = true)
    (x_rinit : PySem.W.findIn K (.ref C) "__init__" = some (some (.ref f_rinit)))
    (i_rinit : PySem.W.isFn K (.ref f_rinit) = true)
    (l_rinit : K.lookup f_rinit = some ⟨oc_rinit, od_rinit, .func (PySem.W.fnOf "__init__" "Ring.__init__" (defArgs s_rinit) (defBody s_rinit) (defScope s_rinit) .none kV_rinit dc_rinit pm_rinit an_rinit cd_rinit ct_rinit), sl_rinit⟩)
    (c_rinit : PySem.W.codeIn K cd_rinit "Ring.__init__" = true)
    (k_rinit : PySem.W.keepIn K (.ref f_rinit) = true)
    (pa_rdays : PySem.W.findIn K (.ref C) "days" = some (some (.ref pp_rdays)))
    (pg_rdays : PySem.W.specialIn K (.ref pp_rdays) "__get__" = some (some (.builtin "property.__get__")))
    (pt_rdays : PySem.W.takesIn K (.ref pp_rdays) = some true)
    (pr_rdays : PySem.W.recIn K pp_rdays "property" = some (.ref f_rdays :: re_rdays))
    (l_rdays : K.lookup f_rdays = some ⟨oc_rdays, od_rdays, .func (PySem.W.fnOf "days" "Ring.days" (defArgs s_rdays) (defBody s_rdays) (defScope s_rdays) .none kV_rdays dc_rdays pm_rdays an_rdays cd_rdays ct_rdays), sl_rdays⟩)
    (c_rdays : PySem.W.codeIn K cd_rdays "Ring.days" = true)
    (k_rdays : PySem.W.keepIn K (.ref f_rdays) = true)
    (pa_rstarts : PySem.W.findIn K (.ref C) "starts" = some (some (.ref pp_rstarts)))
    (pg_rstarts : PySem.W.specialIn K (.ref pp_rstarts) "__get__" = some (some (.builtin "property.__get__")))
    (pt_rstarts : PySem.W.takesIn K (.ref pp_rstarts) = some true)
    (pr_rstarts : PySem.W.recIn K pp_rstarts "property" = some (.ref f_rstarts :: re_rstarts))
    (l_rstarts : K.lookup f_rstarts = some ⟨oc_rstarts, od_rstarts, .func (PySem.W.fnOf "starts" "Ring.starts" (defArgs s_rstarts) (defBody s_rstarts) (defScope s_rstarts) .none kV_rstarts dc_rstarts pm_rstarts an_rstarts cd_rstarts ct_rstarts), sl_rstarts⟩)
    (c_rstarts : PySem.W.codeIn K cd_rstarts "Ring.starts" = true)
    (k_rstarts : PySem.W.keepIn K (.ref f_rstarts) = true)
    (pa_rbooks : PySem.W.findIn K (.ref C) "books" = some (some (.ref pp_rbooks)))
    (pg_rbooks : PySem.W.specialIn K (.ref pp_rbooks) "__get__" = some (some (.builtin "property.__get__")))
    (pt_rbooks : PySem.W.takesIn K (.ref pp_rbooks) = some true)
    (pr_rbooks : PySem.W.recIn K pp_rbooks "property" = some (.ref f_rbooks :: re_rbooks))
    (l_rbooks : K.lookup f_rbooks = some ⟨oc_rbooks, od_rbooks, .func (PySem.W.fnOf "books" "Ring.books" (defArgs s_rbooks) (defBody s_rbooks) (defScope s_rbooks) .none kV_rbooks dc_rbooks pm_rbooks an_rbooks cd_rbooks ct_rbooks), sl_rbooks⟩)
    (c_rbooks : PySem.W.codeIn K cd_rbooks "Ring.books" = true)
    (k_rbooks : PySem.W.keepIn K (.ref f_rbooks) = true)
    (pa_rpace : PySem.W.findIn K (.ref C) "pace" = some (some (.ref pp_rpace)))
    (pg_rpace : PySem.W.specialIn K (.ref pp_rpace) "__get__" = some (some (.builtin "property.__get__")))
    (pt_rpace : PySem.W.takesIn K (.ref pp_rpace) = some true)
    (pr_rpace : PySem.W.recIn K pp_rpace "property" = some (.ref f_rpace :: re_rpace))
    (l_rpace : K.lookup f_rpace = some ⟨oc_rpace, od_rpace, .func (PySem.W.fnOf "pace" "Ring.pace" (defArgs s_rpace) (defBody s_rpace) (defScope s_rpace) .none kV_rpace dc_rpace pm_rpace an_rpace cd_rpace ct_rpace), sl_rpace⟩)
    (c_rpace : PySem.W.codeIn K cd_rpace "Ring.pace" = true)
    (k_rpace : PySem.W.keepIn K (.ref f_rpace) = true)
    (x_rlen : PySem.W.findIn K (.ref C) "__len__" = some (some (.ref f_rlen)))
    (i_rlen : PySem.W.isFn K (.ref f_rlen) = true)
    (l_rlen : K.lookup f_rlen = some ⟨oc_rlen, od_rlen, .func (PySem.W.fnOf "__len__" "Ring.__len__" (defArgs s_rlen) (defBody s_rlen) (defScope s_rlen) .none kV_rlen dc_rlen pm_rlen an_rlen cd_rlen ct_rlen), sl_rlen⟩)
    (c_rlen : PySem.W.codeIn K cd_rlen "Ring.__len__" = true)
    (k_rlen : PySem.W.keepIn K (.ref f_rlen) = true)
    (x_rcall : PySem.W.findIn K (.ref C) "__call__" = some (some (.ref f_rcall)))
    (i_rcall : PySem.W.isFn K (.ref f_rcall) = true)
    (j_rcall : PySem.W.fnIn K f_rcall = true)
    (l_rcall : K.lookup f_rcall = some ⟨oc_rcall, od_rcall, .func (PySem.W.fnOf "__call__" "Ring.__call__" (defArgs s_rcall) (defBody s_rcall) (defScope s_rcall) .none kV_rcall dc_rcall pm_rcall an_rcall cd_rcall ct_rcall), sl_rcall⟩)
    (c_rcall : PySem.W.codeIn K cd_rcall "Ring.__call__" = true)
    (k_rcall : PySem.W.keepIn K (.ref f_rcall) = true)
    (x_check_part : PySem.W.nsIn K mainGlobals "check_part" = some (some (.ref f_check_part)))
    (l_check_part : K.lookup f_check_part = some ⟨oc_check_part, od_check_part, .func (PySem.W.fnOf "check_part" "check_part" (defArgs s_check_part) (defBody s_check_part) (defScope s_check_part) .none kV_check_part dc_check_part pm_check_part an_check_part cd_check_part ct_check_part), sl_check_part⟩)
    (c_check_part : PySem.W.codeIn K cd_check_part "check_part" = true)
    (k_check_part : PySem.W.keepIn K (.ref f_check_part) = true)
    (x_slowest_decides : PySem.W.nsIn K mainGlobals "slowest_decides" = some (some (.ref f_slowest_decides)))
    (l_slowest_decides : K.lookup f_slowest_decides = some ⟨oc_slowest_decides, od_slowest_decides, .func (PySem.W.fnOf "slowest_decides" "slowest_decides" (defArgs s_slowest_decides) (defBody s_slowest_decides) (defScope s_slowest_decides) .none kV_slowest_decides dc_slowest_decides pm_slowest_decides an_slowest_decides cd_slowest_decides ct_slowest_decides), sl_slowest_decides⟩)
    (c_slowest_decides : PySem.W.codeIn K cd_slowest_decides "slowest_decides" = true)
    (k_slowest_decides : PySem.W.keepIn K (.ref f_slowest_decides) = true)
    (x_pace_of : PySem.W.nsIn K mainGlobals "pace_of" = some (some (.ref f_pace_of)))
    (l_pace_of : K.lookup f_pace_of = some ⟨oc_pace_of, od_pace_of, .func (PySem.W.fnOf "pace_of" "pace_of" (defArgs s_pace_of) (defBody s_pace_of) (defScope s_pace_of) .none kV_pace_of dc_pace_of pm_pace_of an_pace_of cd_pace_of ct_pace_of), sl_pace_of⟩)
    (c_pace_of : PySem.W.codeIn K cd_pace_of "pace_of" = true)
    (k_pace_of : PySem.W.keepIn K (.ref f_pace_of) = true)
    (x_round_pace : PySem.W.nsIn K mainGlobals "round_pace" = some (some (.ref f_round_pace)))
    (l_round_pace : K.lookup f_round_pace = some ⟨oc_round_pace, od_round_pace, .func (PySem.W.fnOf "round_pace" "round_pace" (defArgs s_round_pace) (defBody s_round_pace) (defScope s_round_pace) .none kV_round_pace dc_round_pace pm_round_pace an_round_pace cd_round_pace ct_round_pace), sl_round_pace⟩)
    (c_round_pace : PySem.W.codeIn K cd_round_pace "round_pace" = true)
    (k_round_pace : PySem.W.keepIn K (.ref f_round_pace) = true)
    (x_end_day : PySem.W.nsIn K mainGlobals "end_day" = some (some (.ref f_end_day)))
    (l_end_day : K.lookup f_end_day = some ⟨oc_end_day, od_end_day, .func (PySem.W.fnOf "end_day" "end_day" (defArgs s_end_day) (defBody s_end_day) (defScope s_end_day) .none kV_end_day dc_end_day pm_end_day an_end_day cd_end_day ct_end_day), sl_end_day⟩)
    (c_end_day : PySem.W.codeIn K cd_end_day "end_day" = true)
    (k_end_day : PySem.W.keepIn K (.ref f_end_day) = true)
    (x_reader_before : PySem.W.nsIn K mainGlobals "reader_before" = some (some (.ref f_reader_before)))
    (l_reader_before : K.lookup f_reader_before = some ⟨oc_reader_before, od_reader_before, .func (PySem.W.fnOf "reader_before" "reader_before" (defArgs s_reader_before) (defBody s_reader_before) (defScope s_reader_before) .none kV_reader_before dc_reader_before pm_reader_before an_reader_before cd_reader_before ct_reader_before), sl_reader_before⟩)
    (c_reader_before : PySem.W.codeIn K cd_reader_before "reader_before" = true)
    (k_reader_before : PySem.W.keepIn K (.ref f_reader_before) = true)
    (x_pace_readers : PySem.W.nsIn K mainGlobals "pace_readers" = some (some (.ref f_pace_readers)))
    (l_pace_readers : K.lookup f_pace_readers = some ⟨oc_pace_readers, od_pace_readers, .func (PySem.W.fnOf "pace_readers" "pace_readers" (defArgs s_pace_readers) (defBody s_pace_readers) (defScope s_pace_readers) .none kV_pace_readers dc_pace_readers pm_pace_readers an_pace_readers cd_pace_readers ct_pace_readers), sl_pace_readers⟩)
    (c_pace_readers : PySem.W.codeIn K cd_pace_readers "pace_readers" = true)
    (k_pace_readers : PySem.W.keepIn K (.ref f_pace_readers) = true)
    (x_judge_pace : PySem.W.nsIn K mainGlobals "judge_pace" = some (some (.ref f_judge_pace)))
    (l_judge_pace : K.lookup f_judge_pace = some ⟨oc_judge_pace, od_judge_pace, .func (PySem.W.fnOf "judge_pace" "judge_pace" (defArgs s_judge_pace) (defBody s_judge_pace) (defScope s_judge_pace) .none kV_judge_pace dc_judge_pace pm_judge_pace an_judge_pace cd_judge_pace ct_judge_pace), sl_judge_pace⟩)
    (c_judge_pace : PySem.W.codeIn K cd_judge_pace "judge_pace" = true)
    (k_judge_pace : PySem.W.keepIn K (.ref f_judge_pace) = true)
    (x_ldice : PySem.W.nsIn K mainGlobals "_law_dice" = some (some (.ref f_ldice)))
    (l_ldice : K.lookup f_ldice = some ⟨oc_ldice, od_ldice, .func (PySem.W.fnOf "_law_dice" "_law_dice" (defArgs s_ldice) (defBody s_ldice) (defScope s_ldice) .none kV_ldice dc_ldice pm_ldice an_ldice cd_ldice ct_ldice), sl_ldice⟩)
    (c_ldice : PySem.W.codeIn K cd_ldice "_law_dice" = true)
    (k_ldice : PySem.W.keepIn K (.ref f_ldice) = true)
    (x_lnext : PySem.W.nsIn K mainGlobals "_law_next" = some (some (.ref f_lnext)))
    (l_lnext : K.lookup f_lnext = some ⟨oc_lnext, od_lnext, .func (PySem.W.fnOf "_law_next" "_law_next" (defArgs s_lnext) (defBody s_lnext) (defScope s_lnext) .none kV_lnext dc_lnext pm_lnext an_lnext cd_lnext ct_lnext), sl_lnext⟩)
    (c_lnext : PySem.W.codeIn K cd_lnext "_law_next" = true)
    (k_lnext : PySem.W.keepIn K (.ref f_lnext) = true)
    (x_llike : PySem.W.nsIn K mainGlobals "_law_like" = some (some (.ref f_llike)))
    (l_llike : K.lookup f_llike = some ⟨oc_llike, od_llike, .func (PySem.W.fnOf "_law_like" "_law_like" (defArgs s_llike) (defBody s_llike) (defScope s_llike) .none kV_llike dc_llike pm_llike an_llike cd_llike ct_llike), sl_llike⟩)
    (c_llike : PySem.W.codeIn K cd_llike "_law_like" = true)
    (k_llike : PySem.W.keepIn K (.ref f_llike) = true)
    (x_lpick : PySem.W.nsIn K mainGlobals "_law_pick" = some (some (.ref f_lpick)))
    (l_lpick : K.lookup f_lpick = some ⟨oc_lpick, od_lpick, .func (PySem.W.fnOf "_law_pick" "_law_pick" (defArgs s_lpick) (defBody s_lpick) (defScope s_lpick) .none kV_lpick dc_lpick pm_lpick an_lpick cd_lpick ct_lpick), sl_lpick⟩)
    (c_lpick : PySem.W.codeIn K cd_lpick "_law_pick" = true)
    (k_lpick : PySem.W.keepIn K (.ref f_lpick) = true)
    (x_ltold : PySem.W.nsIn K mainGlobals "_law_told" = some (some (.ref f_ltold)))
    (l_ltold : K.lookup f_ltold = some ⟨oc_ltold, od_ltold, .func (PySem.W.fnOf "_law_told" "_law_told" (defArgs s_ltold) (defBody s_ltold) (defScope s_ltold) .none kV_ltold dc_ltold pm_ltold an_ltold cd_ltold ct_ltold), sl_ltold⟩)
    (c_ltold : PySem.W.codeIn K cd_ltold "_law_told" = true)
    (k_ltold : PySem.W.keepIn K (.ref f_ltold) = true)
    (x_lring : PySem.W.nsIn K mainGlobals "_law_ring" = some (some (.ref f_lring)))
    (l_lring : K.lookup f_lring = some ⟨oc_lring, od_lring, .func (PySem.W.fnOf "_law_ring" "_law_ring" (defArgs s_lring) (defBody s_lring) (defScope s_lring) .none kV_lring dc_lring pm_lring an_lring cd_lring ct_lring), sl_lring⟩)
    (c_lring : PySem.W.codeIn K cd_lring "_law_ring" = true)
    (k_lring : PySem.W.keepIn K (.ref f_lring) = true)
    (x_lterms : PySem.W.nsIn K mainGlobals "_law_terms" = some (some (.ref f_lterms)))
    (l_lterms : K.lookup f_lterms = some ⟨oc_lterms, od_lterms, .func (PySem.W.fnOf "_law_terms" "_law_terms" (defArgs s_lterms) (defBody s_lterms) (defScope s_lterms) .none kV_lterms dc_lterms pm_lterms an_lterms cd_lterms ct_lterms), sl_lterms⟩)
    (c_lterms : PySem.W.codeIn K cd_lterms "_law_terms" = true)
    (k_lterms : PySem.W.keepIn K (.ref f_lterms) = true)
    (x_ljudged : PySem.W.nsIn K mainGlobals "_law_judged" = some (some (.ref f_ljudged)))
    (l_ljudged : K.lookup f_ljudged = some ⟨oc_ljudged, od_ljudged, .func (PySem.W.fnOf "_law_judged" "_law_judged" (defArgs s_ljudged) (defBody s_ljudged) (defScope s_ljudged) .none kV_ljudged dc_ljudged pm_ljudged an_ljudged cd_ljudged ct_ljudged), sl_ljudged⟩)
    (c_ljudged : PySem.W.codeIn K cd_ljudged "_law_judged" = true)
    (k_ljudged : PySem.W.keepIn K (.ref f_ljudged) = true)
    (x_law : PySem.W.nsIn K mainGlobals "law" = some (some (.ref f_law)))
    (l_law : K.lookup f_law = some ⟨oc_law, od_law, .func (PySem.W.fnOf "law" "law" (defArgs s_law) (defBody s_law) (defScope s_law) .none kV_law dc_law pm_law an_law cd_law ct_law), sl_law⟩)
    (c_law : PySem.W.codeIn K cd_law "law" = true)
    (k_law : PySem.W.keepIn K (.ref f_law) = true)
    (pgC : PySem.W.plainGet K C Str.empty = true)
    (hdC : PySem.W.hasDictIn K C = true)
    (poC : PySem.W.plainOver K C = true)
    (saC : PySem.W.findIn K (.ref C) "__setattr__" = some (some (.builtin "object.__setattr__")))
    (mkC : PySem.W.makesIn K C = true)
    (kC : PySem.W.keepIn K (.ref C) = true)
    (nD : PySem.W.findIn K (.ref C) "_days" = some none)
    (nS : PySem.W.findIn K (.ref C) "_starts" = some none)
    (v_LATEST : PySem.W.nsIn K mainGlobals "LATEST" = some (some (.int 1000000000000000000 t_LATEST)))
    (v_FEWEST_READERS : PySem.W.nsIn K mainGlobals "FEWEST_READERS" = some (some (.int 2 t_FEWEST_READERS)))
    (v_MOST_READERS : PySem.W.nsIn K mainGlobals "MOST_READERS" = some (some (.int 8 t_MOST_READERS)))
    (v_MOST_DAYS : PySem.W.nsIn K mainGlobals "MOST_DAYS" = some (some (.int 30 t_MOST_DAYS)))
    (v_MOST_BOOKS : PySem.W.nsIn K mainGlobals "MOST_BOOKS" = some (some (.int 12 t_MOST_BOOKS)))
    (v_gcd : PySem.W.nsIn K mainGlobals "gcd" = some (some (.builtin "math.gcd")))
    (z_len : PySem.W.nsIn K mainGlobals "len" = some none)
    (z_sum : PySem.W.nsIn K mainGlobals "sum" = some none)
    (z_max : PySem.W.nsIn K mainGlobals "max" = some none)
    (z_min : PySem.W.nsIn K mainGlobals "min" = some none)
    (z_range : PySem.W.nsIn K mainGlobals "range" = some none)
    (z_int : PySem.W.nsIn K mainGlobals "int" = some none)
    (z_bool : PySem.W.nsIn K mainGlobals "bool" = some none)
    (z_isinstance : PySem.W.nsIn K mainGlobals "isinstance" = some none)
    (z_tuple : PySem.W.nsIn K mainGlobals "tuple" = some none)
    (z_enumerate : PySem.W.nsIn K mainGlobals "enumerate" = some none)
    (z_list : PySem.W.nsIn K mainGlobals "list" = some none)
    (z_str : PySem.W.nsIn K mainGlobals "str" = some none)
    (z_sorted : PySem.W.nsIn K mainGlobals "sorted" = some none)
    (own : LamX.OwnTab K fa h)
    {c_tb P_tb : Addr} {e_tb : Value} {dd_tb : Option Addr} {vs_tb : Array Value} {sl_tb : Array (Option Value)}
    {e0 e1 e2 e3 e4 e5 e6 eE : Addr}
    (tb_c : cd_law = .ref c_tb)
    (tb_l : K.lookup c_tb = some ⟨e_tb, dd_tb, .fields vs_tb, sl_tb⟩)
    (tb_p : vs_tb[11]? = some (.ref P_tb))
    (tb_h : PySem.W.codeHdIn K c_tb P_tb = true)
    (tb_n : K.lookup P_tb = none)
    (x_e0 : PySem.W.nsIn K mainGlobals "InvalidRing" = some (some (.ref e0)))
    (x_e1 : PySem.W.nsIn K mainGlobals "InvalidChain" = some (some (.ref e1)))
    (x_e2 : PySem.W.nsIn K mainGlobals "UnknownReader" = some (some (.ref e2)))
    (x_e3 : PySem.W.nsIn K mainGlobals "UnknownBook" = some (some (.ref e3)))
    (x_e4 : PySem.W.nsIn K mainGlobals "InvalidNumber" = some (some (.ref e4)))
    (x_e5 : PySem.W.nsIn K mainGlobals "SameBook" = some (some (.ref e5)))
    (x_e6 : PySem.W.nsIn K mainGlobals "OtherRing" = some (some (.ref e6)))
    (x_eE : PySem.W.nsIn K mainGlobals "ReadingError" = some (some (.ref eE)))
    (z_VE : PySem.W.nsIn K mainGlobals "ValueError" = some none)
    (xc_n : PySem.W.specialIn K (.builtin "object.__class__") "__get__" = some (some (.builtin "getset_descriptor.__get__")))
    (xc_t : PySem.W.takesIn K (.builtin "object.__class__") = some true)
    (xg1 : PySem.W.findIn K (.ref e1) "__getattribute__" = some (some (.builtin "BaseException.__getattribute__")))
    (xk1 : PySem.W.findIn K (.ref e1) "__getattr__" = some none)
    (xs1 : PySem.W.subIn K (.ref e1) (.type "BaseException") = some true)
    (xd1 : PySem.W.hasDictIn K e1 = true)
    (xa1 : PySem.W.findIn K (.ref e1) "__class__" = some (some (.builtin "object.__class__")))
    (xm1 : PySem.W.mroIn K e1 (.type "object") = some true)
    (xx1 : PySem.W.exmOne K (.ref e1) (.ref eE) = some true)
    (xq1_0 : PySem.W.kitOne K (.ref e1) (.ref e0) = some false)
    (xq1_1 : PySem.W.kitOne K (.ref e1) (.ref e1) = some true)
    (xq1_2 : PySem.W.kitOne K (.ref e1) (.ref e2) = some false)
    (xq1_3 : PySem.W.kitOne K (.ref e1) (.ref e3) = some false)
    (xq1_4 : PySem.W.kitOne K (.ref e1) (.ref e4) = some false)
    (xq1_5 : PySem.W.kitOne K (.ref e1) (.ref e5) = some false)
    (xq1_6 : PySem.W.kitOne K (.ref e1) (.ref e6) = some false)
    (xv1 : PySem.W.kitOne K (.ref e1) (.type "ValueError") = some true)
    (xt1 : PySem.W.typeIn K (.ref e1) = some (.type "type"))
    (xn1 : PySem.W.findIn K (.ref e1) "index" = some none)
    (xr1 : PySem.W.readsIn K eE (.type "type") = true)
    (xr2 : PySem.W.specialIn K (.ref eE) "__getattribute__" = some (some (.builtin "type.__getattribute__")))
    (xr3 : PySem.W.findCls K (.ref eE) (.type "type") "__init__" = some (.val (.builtin "ValueError.__init__")))
    : LamX.LawAtS l w K CX0 12 63 "_law_script" mg fa h := by
  have e := hfa.symm.trans (PySem.W.mg_of X G x_law)
  cases e
  have F_iInvalidChain := fun_mk (st := s_iInvalidChain) l_iInvalidChain c_iInvalidChain k_iInvalidChain
  have b_iInvalidChain := F_iInvalidChain.binds (ps := P_iInvalidChain) fun _ _ _ _ _ _ us hl => match us, hl with | [_, _], _ => rfl
  have F_is_number := fun_mk (st := s_is_number) l_is_number c_is_number k_is_number
  have b_is_number := F_is_number.binds (ps := P_is_number) fun _ _ _ _ _ _ us hl => match us, hl with | [_], _ => rfl
  have F_lies_between := fun_mk (st := s_lies_between) l_lies_between c_lies_between k_lies_between
  have b_lies_between := F_lies_between.binds (ps := P_lies_between) fun _ _ _ _ _ _ us hl => match us, hl with | [_, _, _], _ => rfl
  have F_check_number := fun_mk (st := s_check_number) l_check_number c_check_number k_check_number
  have b_check_number := F_check_number.binds (ps := P_check_number) fun _ _ _ _ _ _ us hl => match us, hl with | [_, _, _], _ => rfl
  have F_check_reader := fun_mk (st := s_check_reader) l_check_reader c_check_reader k_check_reader
  have b_check_reader := F_check_reader.binds (ps := P_check_reader) fun _ _ _ _ _ _ us hl => match us, hl with | [_, _], _ => rfl
  have F_rinit := fun_mk (st := s_rinit) l_rinit c_rinit k_rinit
  have b_rinit := F_rinit.binds (ps := P_rinit) fun _ _ _ _ _ _ us hl => match us, hl with | [_, _, _], _ => rfl
  have F_rdays := fun_mk (st := s_rdays) l_rdays c_rdays k_rdays
  have b_rdays := F_rdays.binds (ps := P_rdays) fun _ _ _ _ _ _ us hl => match us, hl with | [_], _ => rfl
  have F_rstarts := fun_mk (st := s_rstarts) l_rstarts c_rstarts k_rstarts
  have b_rstarts := F_rstarts.binds (ps := P_rstarts) fun _ _ _ _ _ _ us hl => match us, hl with | [_], _ => rfl
  have F_rbooks := fun_mk (st := s_rbooks) l_rbooks c_rbooks k_rbooks
  have b_rbooks := F_rbooks.binds (ps := P_rbooks) fun _ _ _ _ _ _ us hl => match us, hl with | [_], _ => rfl
  have F_rpace := fun_mk (st := s_rpace) l_rpace c_rpace k_rpace
  have b_rpace := F_rpace.binds (ps := P_rpace) fun _ _ _ _ _ _ us hl => match us, hl with | [_], _ => rfl
  have F_rlen := fun_mk (st := s_rlen) l_rlen c_rlen k_rlen
  have b_rlen := F_rlen.binds (ps := P_rlen) fun _ _ _ _ _ _ us hl => match us, hl with | [_], _ => rfl
  have F_rcall := fun_mk (st := s_rcall) l_rcall c_rcall k_rcall
  have b_rcall := F_rcall.binds (ps := P_rcall) fun _ _ _ _ _ _ us hl => match us, hl with | [_, _, _], _ => rfl
  have F_check_part := fun_mk (st := s_check_part) l_check_part c_check_part k_check_part
  have b_check_part := F_check_part.binds (ps := P_check_part) fun _ _ _ _ _ _ us hl => match us, hl with | [_, _, _, _], _ => rfl
  have F_slowest_decides := fun_mk (st := s_slowest_decides) l_slowest_decides c_slowest_decides k_slowest_decides
  have b_slowest_decides := F_slowest_decides.binds (ps := P_slowest_decides) fun _ _ _ _ _ _ us hl => match us, hl with | [_, _], _ => rfl
  have F_pace_of := fun_mk (st := s_pace_of) l_pace_of c_pace_of k_pace_of
  have b_pace_of := F_pace_of.binds (ps := P_pace_of) fun _ _ _ _ _ _ us hl => match us, hl with | [_, _], _ => rfl
  have F_round_pace := fun_mk (st := s_round_pace) l_round_pace c_round_pace k_round_pace
  have b_round_pace := F_round_pace.binds (ps := P_round_pace) fun _ _ _ _ _ _ us hl => match us, hl with | [_, _], _ => rfl
  have F_end_day := fun_mk (st := s_end_day) l_end_day c_end_day k_end_day
  have b_end_day := F_end_day.binds (ps := P_end_day) fun _ _ _ _ _ _ us hl => match us, hl with | [_, _, _], _ => rfl
  have F_reader_before := fun_mk (st := s_reader_before) l_reader_before c_reader_before k_reader_before
  have b_reader_before := F_reader_before.binds (ps := P_reader_before) fun _ _ _ _ _ _ us hl => match us, hl with | [_, _], _ => rfl
  have F_pace_readers := fun_mk (st := s_pace_readers) l_pace_readers c_pace_readers k_pace_readers
  have b_pace_readers := F_pace_readers.binds (ps := P_pace_readers) fun _ _ _ _ _ _ us hl => match us, hl with | [_], _ => rfl
  have F_judge_pace := fun_mk (st := s_judge_pace) l_judge_pace c_judge_pace k_judge_pace
  have b_judge_pace := F_judge_pace.binds (ps := P_judge_pace) fun _ _ _ _ _ _ us hl => match us, hl with | [_, _], _ => rfl
  have F_ldice := fun_mk (st := s_ldice) l_ldice c_ldice k_ldice
  have b_ldice := F_ldice.binds (ps := P_ldice) fun _ _ _ _ _ _ us hl => match us, hl with | [_], _ => rfl
  have F_lnext := fun_mk (st := s_lnext) l_lnext c_lnext k_lnext
  have b_lnext := F_lnext.binds (ps := P_lnext) fun _ _ _ _ _ _ us hl => match us, hl with | [_, _], _ => rfl
  have F_llike := fun_mk (st := s_llike) l_llike c_llike k_llike
  have b_llike := F_llike.binds (ps := P_llike) fun _ _ _ _ _ _ us hl => match us, hl with | [_, _], _ => rfl
  have F_lpick := fun_mk (st := s_lpick) l_lpick c_lpick k_lpick
  have b_lpick := F_lpick.binds (ps := P_lpick) fun _ _ _ _ _ _ us hl => match us, hl with | [_, _], _ => rfl
  have F_ltold := fun_mk (st := s_ltold) l_ltold c_ltold k_ltold
  have b_ltold := F_ltold.binds (ps := P_ltold) fun _ _ _ _ _ _ us hl => match us, hl with | [_], _ => rfl
  have F_lring := fun_mk (st := s_lring) l_lring c_lring k_lring
  have b_lring := F_lring.binds (ps := P_lring) fun _ _ _ _ _ _ us hl => match us, hl with | [_, _, _], _ => rfl
  have F_lterms := fun_mk (st := s_lterms) l_lterms c_lterms k_lterms
  have b_lterms := F_lterms.binds (ps := P_lterms) fun _ _ _ _ _ _ us hl => match us, hl with | [_, _], _ => rfl
  have F_ljudged := fun_mk (st := s_ljudged) l_ljudged c_ljudged k_ljudged
  have b_ljudged := F_ljudged.binds (ps := P_ljudged) fun _ _ _ _ _ _ us hl => match us, hl with | [_, _, _], _ => rfl
  have F_law := fun_mk (st := s_law) l_law c_law k_law
  have b_law := F_law.binds (ps := P_law) fun _ _ _ _ _ _ us hl => match us, hl with | [_], _ => rfl
  cases tb_c
  refine ⟨PySem.W.fnOf "law" "law" (defArgs s_law) (defBody s_law) (defScope s_law) .none kV_law dc_law pm_law an_law (.ref c_tb) ct_law, [(c_tb, P_tb)], spLawL K P_tb, fun p hp => ?_, fun p hp => ?_, fun p hp => ?_, fun s v => .of_eq rfl, fun H a ns hl hb ht hS => ?_, fun base _ _ hTB => ?_⟩
  · cases List.mem_singleton.mp hp
    exact own _ _ _ _ _ _ _ _ l_law rfl rfl tb_l tb_p
  · cases List.mem_singleton.mp hp
    exact tb_n
  · cases List.mem_singleton.mp hp
    exact PySem.W.codeHd_of_K X tb_h
  · exact ⟨a, ns, rfl, hS, hl, ht _ (List.mem_singleton.mpr rfl), fun _ => rfl⟩
  · exact ok_law (mg := mg) (cT := c_tb) (PT := P_tb)
     {
    C := C,
    a_iInvalidChain := f_iInvalidChain, d_iInvalidChain := _, F_iInvalidChain := F_iInvalidChain, b_iInvalidChain := b_iInvalidChain,
    c_iInvalidChain := ec_iInvalidChain, gc_iInvalidChain := PySem.W.mg_of X G xc_iInvalidChain, ic_iInvalidChain := x_iInvalidChain, it_iInvalidChain := xt_iInvalidChain, io_iInvalidChain := xo_iInvalidChain,
    a_is_number := f_is_number, d_is_number := _, F_is_number := F_is_number, b_is_number := b_is_number,
    g_is_number := PySem.W.mg_of X G x_is_number,
    a_lies_between := f_lies_between, d_lies_between := _, F_lies_between := F_lies_between, b_lies_between := b_lies_between,
    g_lies_between := PySem.W.mg_of X G x_lies_between,
    a_check_number := f_check_number, d_check_number := _, F_check_number := F_check_number, b_check_number := b_check_number,
    g_check_number := PySem.W.mg_of X G x_check_number,
    a_check_reader := f_check_reader, d_check_reader := _, F_check_reader := F_check_reader, b_check_reader := b_check_reader,
    g_check_reader := PySem.W.mg_of X G x_check_reader,
    a_rinit := f_rinit, d_rinit := _, F_rinit := F_rinit, b_rinit := b_rinit,
    a_rdays := f_rdays, d_rdays := _, F_rdays := F_rdays, b_rdays := b_rdays,
    a_rstarts := f_rstarts, d_rstarts := _, F_rstarts := F_rstarts, b_rstarts := b_rstarts,
    a_rbooks := f_rbooks, d_rbooks := _, F_rbooks := F_rbooks, b_rbooks := b_rbooks,
    a_rpace := f_rpace, d_rpace := _, F_rpace := F_rpace, b_rpace := b_rpace,
    a_rlen := f_rlen, d_rlen := _, F_rlen := F_rlen, b_rlen := b_rlen,
    a_rcall := f_rcall, d_rcall := _, F_rcall := F_rcall, b_rcall := b_rcall,
    a_check_part := f_check_part, d_check_part := _, F_check_part := F_check_part, b_check_part := b_check_part,
    g_check_part := PySem.W.mg_of X G x_check_part,
    a_slowest_decides := f_slowest_decides, d_slowest_decides := _, F_slowest_decides := F_slowest_decides, b_slowest_decides := b_slowest_decides,
    g_slowest_decides := PySem.W.mg_of X G x_slowest_decides,
    a_pace_of := f_pace_of, d_pace_of := _, F_pace_of := F_pace_of, b_pace_of := b_pace_of,
    g_pace_of := PySem.W.mg_of X G x_pace_of,
    a_round_pace := f_round_pace, d_round_pace := _, F_round_pace := F_round_pace, b_round_pace := b_round_pace,
    g_round_pace := PySem.W.mg_of X G x_round_pace,
    a_end_day := f_end_day, d_end_day := _, F_end_day := F_end_day, b_end_day := b_end_day,
    g_end_day := PySem.W.mg_of X G x_end_day,
    a_reader_before := f_reader_before, d_reader_before := _, F_reader_before := F_reader_before, b_reader_before := b_reader_before,
    g_reader_before := PySem.W.mg_of X G x_reader_before,
    a_pace_readers := f_pace_readers, d_pace_readers := _, F_pace_readers := F_pace_readers, b_pace_readers := b_pace_readers,
    g_pace_readers := PySem.W.mg_of X G x_pace_readers,
    a_judge_pace := f_judge_pace, d_judge_pace := _, F_judge_pace := F_judge_pace, b_judge_pace := b_judge_pace,
    g_judge_pace := PySem.W.mg_of X G x_judge_pace,
    a_ldice := f_ldice, d_ldice := _, F_ldice := F_ldice, b_ldice := b_ldice,
    g_ldice := PySem.W.mg_of X G x_ldice,
    a_lnext := f_lnext, d_lnext := _, F_lnext := F_lnext, b_lnext := b_lnext,
    g_lnext := PySem.W.mg_of X G x_lnext,
    a_llike := f_llike, d_llike := _, F_llike := F_llike, b_llike := b_llike,
    g_llike := PySem.W.mg_of X G x_llike,
    a_lpick := f_lpick, d_lpick := _, F_lpick := F_lpick, b_lpick := b_lpick,
    g_lpick := PySem.W.mg_of X G x_lpick,
    a_ltold := f_ltold, d_ltold := _, F_ltold := F_ltold, b_ltold := b_ltold,
    g_ltold := PySem.W.mg_of X G x_ltold,
    a_lring := f_lring, d_lring := _, F_lring := F_lring, b_lring := b_lring,
    g_lring := PySem.W.mg_of X G x_lring,
    a_lterms := f_lterms, d_lterms := _, F_lterms := F_lterms, b_lterms := b_lterms,
    g_lterms := PySem.W.mg_of X G x_lterms,
    a_ljudged := f_ljudged, d_ljudged := _, F_ljudged := F_ljudged, b_ljudged := b_ljudged,
    g_ljudged := PySem.W.mg_of X G x_ljudged,
    a_law := _, d_law := _, F_law := F_law, b_law := b_law,
    g_law := PySem.W.mg_of X G x_law,
    cl := ⟨pgC, hdC, poC, saC⟩, nD := nD, nS := nS, mkR := ⟨mkC, x_rinit, i_rinit, kC⟩, gC := PySem.W.mg_of X G aC,
    p_rdays := pp_rdays, q_rdays := ⟨pa_rdays, pg_rdays, pt_rdays, ⟨_, pr_rdays⟩⟩,
    p_rstarts := pp_rstarts, q_rstarts := ⟨pa_rstarts, pg_rstarts, pt_rstarts, ⟨_, pr_rstarts⟩⟩,
    p_rbooks := pp_rbooks, q_rbooks := ⟨pa_rbooks, pg_rbooks, pt_rbooks, ⟨_, pr_rbooks⟩⟩,
    p_rpace := pp_rpace, q_rpace := ⟨pa_rpace, pg_rpace, pt_rpace, ⟨_, pr_rpace⟩⟩,
    lenC := x_rlen, lenF := i_rlen, callC := ⟨x_rcall, i_rcall, j_rcall⟩,
    c_LATEST := ⟨_, PySem.W.mg_of X G v_LATEST⟩,
    c_FEWEST_READERS := ⟨_, PySem.W.mg_of X G v_FEWEST_READERS⟩,
    c_MOST_READERS := ⟨_, PySem.W.mg_of X G v_MOST_READERS⟩,
    c_MOST_DAYS := ⟨_, PySem.W.mg_of X G v_MOST_DAYS⟩,
    c_MOST_BOOKS := ⟨_, PySem.W.mg_of X G v_MOST_BOOKS⟩,
    g_gcd := PySem.W.mg_of X G v_gcd,
    z_len := PySem.W.mg_none_of X G z_len,
    z_sum := PySem.W.mg_none_of X G z_sum,
    z_max := PySem.W.mg_none_of X G z_max,
    z_min := PySem.W.mg_none_of X G z_min,
    z_range := PySem.W.mg_none_of X G z_range,
    z_int := PySem.W.mg_none_of X G z_int,
    z_bool := PySem.W.mg_none_of X G z_bool,
    z_isinstance := PySem.W.mg_none_of X G z_isinstance,
    z_tuple := PySem.W.mg_none_of X G z_tuple,
    z_enumerate := PySem.W.mg_none_of X G z_enumerate,
    z_list := PySem.W.mg_none_of X G z_list,
    z_str := PySem.W.mg_none_of X G z_str,
    z_sorted := PySem.W.mg_none_of X G z_sorted }
     { c0 := e0, c1 := e1, c2 := e2, c3 := e3, c4 := e4, c5 := e5, c6 := e6, cE := eE, g0 := PySem.W.mg_of X G x_e0, g1 := PySem.W.mg_of X G x_e1, g2 := PySem.W.mg_of X G x_e2, g3 := PySem.W.mg_of X G x_e3, g4 := PySem.W.mg_of X G x_e4, g5 := PySem.W.mg_of X G x_e5, g6 := PySem.W.mg_of X G x_e6, gE := PySem.W.mg_of X G x_eE, zV := PySem.W.mg_none_of X G z_VE, zI := PySem.W.mg_none_of X G z_isinstance }
     ⟨⟨xr1, xr2⟩, xr3, xn1, ⟨xg1, xk1, xs1, xd1⟩, ⟨xs1, xt1⟩, ⟨xg1, xk1, xs1, xd1, xa1, xc_n, xc_t, xm1⟩, xx1, xq1_0, xq1_1, xq1_2, xq1_3, xq1_4, xq1_5, xq1_6, xv1⟩

     (hTB _ (List.mem_singleton.mpr rfl))
     ⟨⟨_, _, _, _, _, _, _, _, rfl, l_law, c_law⟩⟩

end Rp
open PySem PySem.W PyProof.Rows
set_option maxRecDepth 100000 in
set_option maxHeartbeats 0 in
theorem PySem.Challenge.cw_readingring_k07_evidence_for_the_pace_holds : PySem.Challenge.rw_readingring_k07_evidence_for_the_pace.Holds := by
  w_on; o_law; k_head; (case hw => w_witness2)
  k_fill
  refine LamX.walk_ofOwn (l := PySem.Challenge.rw_readingring_k07_evidence_for_the_pace) (n := 63) (k := 12) (x := "_law_script") (CX := fun _ => L2.CX0) rfl (by decide) rfl ⟨rfl, by decide, by decide⟩ (by decide +kernel) (fun w h Y => PySem.W.km_in_of Y) ?F (fun _ _ _ _ _ h => h)
  case F =>
    intro w mg fa h Y KX G hmg own
    refine' Rp.all_mk KX G hmg ?aC ?xc_iInvalidChain ?x_iInvalidChain ?xt_iInvalidChain ?xo_iInvalidChain ?l_iInvalidChain ?c_iInvalidChain ?k_iInvalidChain ?x_is_number ?l_is_number ?c_is_number ?k_is_number ?x_lies_between ?l_lies_between ?c_lies_between ?k_lies_between ?x_check_number ?l_check_number ?c_check_number ?k_check_number ?x_check_reader ?l_check_reader ?c_check_reader ?k_check_reader ?x_rinit ?i_rinit ?l_rinit ?c_rinit ?k_rinit ?pa_rdays ?pg_rdays ?pt_rdays ?pr_rdays ?l_rdays ?c_rdays ?k_rdays ?pa_rstarts ?pg_rstarts ?pt_rstarts ?pr_rstarts ?l_rstarts ?c_rstarts ?k_rstarts ?pa_rbooks ?pg_rbooks ?pt_rbooks ?pr_rbooks ?l_rbooks ?c_rbooks ?k_rbooks ?pa_rpace ?pg_rpace ?pt_rpace ?pr_rpace ?l_rpace ?c_rpace ?k_rpace ?x_rlen ?i_rlen ?l_rlen ?c_rlen ?k_rlen ?x_rcall ?i_rcall ?j_rcall ?l_rcall ?c_rcall ?k_rcall ?x_check_part ?l_check_part ?c_check_part ?k_check_part ?x_slowest_decides ?l_slowest_decides ?c_slowest_decides ?k_slowest_decides ?x_pace_of ?l_pace_of ?c_pace_of ?k_pace_of ?x_round_pace ?l_round_pace ?c_round_pace ?k_round_pace ?x_end_day ?l_end_day ?c_end_day ?k_end_day ?x_reader_before ?l_reader_before ?c_reader_before ?k_reader_before ?x_pace_readers ?l_pace_readers ?c_pace_readers ?k_pace_readers ?x_judge_pace ?l_judge_pace ?c_judge_pace ?k_judge_pace ?x_ldice ?l_ldice ?c_ldice ?k_ldice ?x_lnext ?l_lnext ?c_lnext ?k_lnext ?x_llike ?l_llike ?c_llike ?k_llike ?x_lpick ?l_lpick ?c_lpick ?k_lpick ?x_ltold ?l_ltold ?c_ltold ?k_ltold ?x_lring ?l_lring ?c_lring ?k_lring ?x_lterms ?l_lterms ?c_lterms ?k_lterms ?x_ljudged ?l_ljudged ?c_ljudged ?k_ljudged ?x_law ?l_law ?c_law ?k_law ?pgC ?hdC ?poC ?saC ?mkC ?kC ?nD ?nS ?v_LATEST ?v_FEWEST_READERS ?v_MOST_READERS ?v_MOST_DAYS ?v_MOST_BOOKS ?v_gcd ?z_len ?z_sum ?z_max ?z_min ?z_range ?z_int ?z_bool ?z_isinstance ?z_tuple ?z_enumerate ?z_list ?z_str ?z_sorted own ?tb_c ?tb_l ?tb_p ?tb_h ?tb_n ?x_e0 ?x_e1 ?x_e2 ?x_e3 ?x_e4 ?x_e5 ?x_e6 ?x_eE ?z_VE ?xc_n ?xc_t ?xg1 ?xk1 ?xs1 ?xd1 ?xa1 ?xm1 ?xx1 ?xq1_0 ?xq1_1 ?xq1_2 ?xq1_3 ?xq1_4 ?xq1_5 ?xq1_6 ?xv1 ?xt1 ?xn1 ?xr1 ?xr2 ?xr3
    (case aC => k_is); (case xc_iInvalidChain => k_is); (case x_iInvalidChain => k_is); (case xt_iInvalidChain => k_is); (case xo_iInvalidChain => first | exact rfl | decide +kernel); (case l_iInvalidChain => k_is); (case c_iInvalidChain => k_is); (case k_iInvalidChain => k_is)
    (case x_is_number => k_is); (case l_is_number => k_is); (case c_is_number => k_is); (case k_is_number => k_is); (case x_lies_between => k_is); (case l_lies_between => k_is); (case c_lies_between => k_is); (case k_lies_between => k_is)
    (case x_check_number => k_is); (case l_check_number => k_is); (case c_check_number => k_is); (case k_check_number => k_is); (case x_check_reader => k_is); (case l_check_reader => k_is); (case c_check_reader => k_is); (case k_check_reader => k_is)
    (case x_rinit => k_is); (case i_rinit => k_is); (case l_rinit => k_is); (case c_rinit => k_is); (case k_rinit => k_is); (case pa_rdays => k_is); (case pg_rdays => k_is); (case pt_rdays => k_is)
    (case pr_rdays => k_is); (case l_rdays => k_is); (case c_rdays => k_is); (case k_rdays => k_is); (case pa_rstarts => k_is); (case pg_rstarts => k_is); (case pt_rstarts => k_is); (case pr_rstarts => k_is)
    (case l_rstarts => k_is); (case c_rstarts => k_is); (case k_rstarts => k_is); (case pa_rbooks => k_is); (case pg_rbooks => k_is); (case pt_rbooks => k_is); (case pr_rbooks => k_is); (case l_rbooks => k_is)
    (case c_rbooks => k_is); (case k_rbooks => k_is); (case pa_rpace => k_is); (case pg_rpace => k_is); (case pt_rpace => k_is); (case pr_rpace => k_is); (case l_rpace => k_is); (case c_rpace => k_is)
    (case k_rpace => k_is); (case x_rlen => k_is); (case i_rlen => k_is); (case l_rlen => k_is); (case c_rlen => k_is); (case k_rlen => k_is); (case x_rcall => k_is); (case i_rcall => k_is)
    (case j_rcall => k_is); (case l_rcall => k_is); (case c_rcall => k_is); (case k_rcall => k_is); (case x_check_part => k_is); (case l_check_part => k_is); (case c_check_part => k_is); (case k_check_part => k_is)
    (case x_slowest_decides => k_is); (case l_slowest_decides => k_is); (case c_slowest_decides => k_is); (case k_slowest_decides => k_is); (case x_pace_of => k_is); (case l_pace_of => k_is); (case c_pace_of => k_is); (case k_pace_of => k_is)
    (case x_round_pace => k_is); (case l_round_pace => k_is); (case c_round_pace => k_is); (case k_round_pace => k_is); (case x_end_day => k_is); (case l_end_day => k_is); (case c_end_day => k_is); (case k_end_day => k_is)
    (case x_reader_before => k_is); (case l_reader_before => k_is); (case c_reader_before => k_is); (case k_reader_before => k_is); (case x_pace_readers => k_is); (case l_pace_readers => k_is); (case c_pace_readers => k_is); (case k_pace_readers => k_is)
    (case x_judge_pace => k_is); (case l_judge_pace => k_is); (case c_judge_pace => k_is); (case k_judge_pace => k_is); (case x_ldice => k_is); (case l_ldice => k_is); (case c_ldice => k_is); (case k_ldice => k_is)
    (case x_lnext => k_is); (case l_lnext => k_is); (case c_lnext => k_is); (case k_lnext => k_is); (case x_llike => k_is); (case l_llike => k_is); (case c_llike => k_is); (case k_llike => k_is)
    (case x_lpick => k_is); (case l_lpick => k_is); (case c_lpick => k_is); (case k_lpick => k_is); (case x_ltold => k_is); (case l_ltold => k_is); (case c_ltold => k_is); (case k_ltold => k_is)
    (case x_lring => k_is); (case l_lring => k_is); (case c_lring => k_is); (case k_lring => k_is); (case x_lterms => k_is); (case l_lterms => k_is); (case c_lterms => k_is); (case k_lterms => k_is)
    (case x_ljudged => k_is); (case l_ljudged => k_is); (case c_ljudged => k_is); (case k_ljudged => k_is); (case x_law => k_is); (case l_law => k_is); (case c_law => k_is); (case k_law => k_is)
    (case pgC => k_is); (case hdC => k_is); (case poC => k_is); (case saC => k_is); (case mkC => k_is); (case kC => k_is); (case nD => k_is); (case nS => k_is)
    (case v_LATEST => k_is); (case v_FEWEST_READERS => k_is); (case v_MOST_READERS => k_is); (case v_MOST_DAYS => k_is); (case v_MOST_BOOKS => k_is); (case v_gcd => k_is); (case z_len => k_is); (case z_sum => k_is)
    (case z_max => k_is); (case z_min => k_is); (case z_range => k_is); (case z_int => k_is); (case z_bool => k_is); (case z_isinstance => k_is); (case z_tuple => k_is); (case z_enumerate => k_is)
    (case z_list => k_is); (case z_str => k_is); (case z_sorted => k_is)
    (case tb_c => first | exact rfl | k_is | k_exc | decide +kernel)
    (case tb_l => first | exact rfl | k_is | k_exc | decide +kernel)
    (case tb_p => first | exact rfl | k_is | k_exc | decide +kernel)
    (case tb_h => first | exact rfl | k_is | k_exc | decide +kernel)
    (case tb_n => first | exact rfl | k_is | k_exc | decide +kernel)
    (case x_e0 => first | exact rfl | k_is | k_exc | decide +kernel)
    (case x_e1 => first | exact rfl | k_is | k_exc | decide +kernel)
    (case x_e2 => first | exact rfl | k_is | k_exc | decide +kernel)
    (case x_e3 => first | exact rfl | k_is | k_exc | decide +kernel)
    (case x_e4 => first | exact rfl | k_is | k_exc | decide +kernel)
    (case x_e5 => first | exact rfl | k_is | k_exc | decide +kernel)
    (case x_e6 => first | exact rfl | k_is | k_exc | decide +kernel)
    (case x_eE => first | exact rfl | k_is | k_exc | decide +kernel)
    (case z_VE => first | exact rfl | k_is | k_exc | decide +kernel)
    (case xc_n => first | exact rfl | k_is | k_exc | decide +kernel)
    (case xc_t => first | exact rfl | k_is | k_exc | decide +kernel)
    (case xg1 => first | exact rfl | k_is | k_exc | decide +kernel)
    (case xk1 => first | exact rfl | k_is | k_exc | decide +kernel)
    (case xs1 => first | exact rfl | k_is | k_exc | decide +kernel)
    (case xd1 => first | exact rfl | k_is | k_exc | decide +kernel)
    (case xa1 => first | exact rfl | k_is | k_exc | decide +kernel)
    (case xm1 => first | exact rfl | k_is | k_exc | decide +kernel)
    (case xx1 => first | exact rfl | k_is | k_exc | decide +kernel)
    (case xq1_0 => first | exact rfl | k_is | k_exc | decide +kernel)
    (case xq1_1 => first | exact rfl | k_is | k_exc | decide +kernel)
    (case xq1_2 => first | exact rfl | k_is | k_exc | decide +kernel)
    (case xq1_3 => first | exact rfl | k_is | k_exc | decide +kernel)
    (case xq1_4 => first | exact rfl | k_is | k_exc | decide +kernel)
    (case xq1_5 => first | exact rfl | k_is | k_exc | decide +kernel)
    (case xq1_6 => first | exact rfl | k_is | k_exc | decide +kernel)
    (case xv1 => first | exact rfl | k_is | k_exc | decide +kernel)
    (case xt1 => first | exact rfl | k_is | k_exc | decide +kernel)
    (case xn1 => first | exact rfl | k_is | k_exc | decide +kernel)
    (case xr1 => first | exact rfl | k_is | k_exc | decide +kernel)
    (case xr2 => first | exact rfl | k_is | k_exc | decide +kernel)
    (case xr3 => first | exact rfl | k_is | k_exc | decide +kernel)
