import PyProof.Rows.All
import Wide.All
import OpenK.AllK
import Wide.FinOn
import PyProof.EqAt
import PyProof.EqKinds
import PyProof.TupleCall
import HandS.ForMost
import HandS.Walk
import HandS.Property
import HandS.Star
import HandS.IsInst
import HandS.Gcd
import HandS.Flow
import KE.KTupSum
import KE.GoesEnum
import HandS.ClsMeth
import HandS.More
import HandS.Strs
import HandS.Conv
import HandS.Sort
import HandS.TupAny
import HandS.Nested
import HandS.Lambda
import KE.KDflt
import HandS.SetFor
import HandS.SetBool
import PyProof.Rows.SetFrom
import KE.KUnpackStar
import HandS.WordsExc
import HandS.ExcCtx
import KE.KOpsOwn
import HandS.OwnEq
import HandS.CallLocal
import OpenK.KMeth
import HandS.List
import HandS.Words
import HandS.ExcIs
import HandS.EndOwn
import KE.KEqDeep
import HandS.Style
import HandS.NoneIn
import PySem.Challenge.RW_readingring_k44_hidden_days
set_option Elab.async false
set_option linter.all false
set_option maxRecDepth 100000
set_option maxHeartbeats 8000000
/-! Rules beside the layer's: len of an own instance, enumerate over a tuple, sum and max of a tuple. -/
namespace Rz
open PySem PySem.Spec PyProof.Rows L2

section
variable {X : Cx}
/-! ### len(o), o an instance whose class defines it -/
def rLenI (C : Addr) (sp : Sp) (E : XK) : List V → Hp → VK → Prop := fun xs H Q => ∃ a dx fs, xs = [.ref a] ∧ H a = some (.ins C dx fs) ∧
  sp [.ref a] H (fun v H' => ∃ n : Int, v = .int n ∧ 0 ≤ n ∧ n < 2 ^ 63 ∧ Q (.int n) H') E
theorem call_lenI {CX : CXT} {k : Nat} {f C : Addr} {sp : Sp} {E : XK} (hs : PySem.W.findIn X.K (.ref C) "__len__" = some (some (.ref f))) (hf : PySem.W.isFn X.K (.ref f) = true)
    (F : FnR X.prog X.w X.K X.mg X.base CX k f sp) (hr : Room (k + 1) X.A) (hx : Passes CX X E) : CallR X (.builtin "len") (rLenI C sp E) := by
  intro pins s σ H xs us Q I r h
  obtain ⟨a, dx, fs, rfl, ea, q⟩ := h
  rw [Vals.ref1 r]
  obtain ⟨mA, O, _⟩ := ins_get I.hok ea
  obtain ⟨od, J, _⟩ := O.look
  have hc : wpAny (model X.prog X.w) X.A.in1 (call (.ref f) [.ref a]) (EP X pins σ (fun v H' => ∃ n : Int, v = .int n ∧ 0 ≤ n ∧ n < 2 ^ 63 ∧ Q (.int n) H')) X.xe s := by
    refine wpAny_call (codeAny_mono (F X.A.in1 X.stack s H [.ref a] [.ref a] _ E hr.in1 I.env0.in1 (.cons rfl .nil) q) fun r s' hq => ?_)
    cases r with
    | error e => exact hx pins σ H s e s' I hq
    | ok fl =>
      cases fl with
      | ret u => exact I.after hq
      | next => exact False.elim hq
      | brk => exact False.elim hq
      | cont => exact False.elim hq
  refine Calls.call_function_entry kind_len plain_len entry_len (args_len1 _) ?_
  unfold Builtin.«len»
  refine wpAny_bind (m := oneArg "len" _) (wpAny_pure ?_)
  refine wpAny_bind (m := callSpecial? (.ref a) (Str.ofString "__len__")) (PySem.W.special_fn I.kIn J hs (beq_iff_eq.mp hf) (wpAny_mono hc (fun r s' hr => ?_) fun _ _ y => y))
  obtain ⟨v, H', I', rv, n, rfl, h0, h1, hq⟩ := hr
  obtain ⟨t, rfl⟩ := rv
  refine wpAny_bind (wpAny_holding (wpAny_pure ?_))
  refine wpAny_bind (wpAny_letGo ?_)
  show wpAny _ _ (if n < 0 then _ else _) _ _ _
  rw [if_neg (by omega)]
  show wpAny _ _ (if n ≥ 2 ^ 63 then _ else _) _ _ _
  rw [if_neg (by omega)]
  exact wpAny_bind (wpAny_mkInt (wpAny_pure ⟨_, rfl, ⟨.int n, H', I'.tok _, ⟨_, rfl⟩, hq⟩⟩))

/-! ### sum, max of a tuple of ints -/
def rSumT (K : PySem.W.Frag) : List V → Hp → VK → Prop := fun vs H Q => ∃ (a : Addr) (ns : List Int), vs = [V.ref a] ∧ SqT K H a (ns.map V.int) ∧ Q (.int ns.sum) H
def rMaxT (K : PySem.W.Frag) : List V → Hp → VK → Prop := fun vs H Q => ∃ (a : Addr) (ns : List Int), vs = [V.ref a] ∧ SqT K H a (ns.map V.int) ∧ 0 < ns.length ∧
  ∀ m, m ∈ ns → (∀ y, y ∈ ns → y ≤ m) → Q (.int m) H
theorem cr_sumT (hc : X.calm = true) : CallR X (.builtin "sum") (rSumT X.K) := by
  intro pins s σ H vs us Q I r h
  obtain ⟨a, ns, rfl, hs, q⟩ := h
  obtain ⟨its, rv, hl, _⟩ := I.tuple hs
  rw [Vals.ref1 r]
  have hi := rv.ints
  have hl' : s.heap.IsTuple a its.toArray := hl
  obtain ⟨xs, e⟩ := hi.allInts.items
  have hn : numsOf (intItems xs).toList = ns := by rw [← e]; exact hi.numsOf
  rw [nums_intItems] at hn
  rw [e] at hl'
  refine PySem.W.ktm_sumG (I.ok.hd hc) hl' fun h' tk t' hk => ?_
  have J : Inv X pins σ H { s with heap := h', toks := tk } := I.kept hk
  refine ⟨.int ns.sum, H, J, ⟨t', ?_⟩, q⟩
  rw [preSum_eq, List.take_of_length_le (by simp), hn]
theorem max_tup {prog : Program} {w : World} {A : Around} {E : Value → Shared → Prop} {s : Shared} {l : Addr} {xs : Array (Int × Tok)} {Q : Value → Shared → Prop} (hh : A.handled = none) (ht : s.heap.IsTuple l (intItems xs)) (hne : 0 < xs.size)
    (h : ∀ v h' tk, (intItems xs)[argBest (fun i j => decide (numAt xs i > numAt xs j)) (xs.size - 1)]? = some v → (∀ b o, s.heap.get? b = some o → h'.get? b = some o) → Q v { s with heap := h', toks := tk }) :
    wpAny (model prog w) A (call (.builtin "max") [.ref l]) Q E s := by
  obtain ⟨o, ho, hc, n, hd⟩ := id ht
  have hlt : l < s.heap.objs.size := Heap.lt_size ho
  refine call_max_walk (wpAny_pyIter_tuple ht ?_)
  refine ⟨s.heap.objs.size, _, _, _, _, _, _, rfl, Walks.tuple (A := A.in1) hh _ l (Nat.ne_of_lt hlt) (intItems xs), ⟨⟨_, Heap.get?_push_size _ rfl, rfl, rfl⟩, ht.at fun o e => Heap.get?_push_of_some _ e⟩, fun b hb => ?_, by simpa [intItems] using hne,
    CmpOf.ints_gt (numAt xs) (fun _ _ => intItems_at), fun v h' tk hP hk => ?_⟩
  · rcases List.mem_cons.mp hb with rfl | hb
    · exact Heap.lt_size (Heap.get?_push_size _ rfl)
    · obtain rfl := List.mem_singleton.mp hb
      exact Heap.lt_size (Heap.get?_push_of_some _ ho)
  · refine h v h' tk (by simpa [intItems] using hP) fun b o e => ?_
    refine hk b o (fun hm => ?_) (Heap.get?_push_of_some _ e)
    have := List.mem_singleton.mp hm
    exact absurd (this ▸ Heap.lt_size e) (Nat.lt_irrefl _)
theorem cr_maxT (hc : X.calm = true) : CallR X (.builtin "max") (rMaxT X.K) := by
  intro pins s σ H vs us Q I r h
  obtain ⟨a, ns, rfl, hs, hne, q⟩ := h
  obtain ⟨its, rv, hl, _⟩ := I.tuple hs
  rw [Vals.ref1 r]
  have hi := rv.ints
  have hl' : s.heap.IsTuple a its.toArray := hl
  obtain ⟨xs, e⟩ := hi.allInts.items
  have hn : numsOf (intItems xs).toList = ns := by rw [← e]; exact hi.numsOf
  rw [nums_intItems] at hn
  subst hn
  rw [e] at hl'
  have hsz : 0 < xs.size := by simpa using hne
  refine max_tup (I.ok.hd hc) hl' hsz fun v h' tk hv hk => ?_
  obtain ⟨t, rfl⟩ := intItems_at hv
  obtain ⟨h1, h2⟩ := argBest_gt (numAt xs) (xs.size - 1)
  refine ⟨.int _, H, I.kept hk, ⟨t, rfl⟩, q _ ?_ fun a ha => ?_⟩
  · rw [numAt_eq]; exact PySem.getD_mem (by rw [List.length_map, Array.length_toList]; omega)
  · obtain ⟨j, hj, rfl⟩ := mem_getD ha
    rw [List.length_map, Array.length_toList] at hj
    rw [← numAt_eq]; exact h2 j (by omega)
end

/-! ### enumerate(t), t a tuple -/
theorem meets_enumerate_newT (l : Addr) (items : Array Value) (n : Nat) (dct : Option Addr) (sl : Array (Option Value)) :
    Meets (Builtin.«enumerate.__new__» ⟨[.type "enumerate", .ref l], []⟩) (fun _ R s => s.heap.get? l = some { cls := .type "tuple", dict := dct, data := .seq items n, slots := sl } ∧
      R (.ok (.ret (.ref (s.heap.push { cls := .type "tuple_iterator", data := .fields #[.ref l, .int 0 0] }).objs.size)))
        { s with heap := (s.heap.push { cls := .type "tuple_iterator", data := .fields #[.ref l, .int 0 0] }).push { cls := .type "enumerate", data := .fields #[.none, .bool false, .ref s.heap.objs.size, rawInt 0, .none, .none] } }) :=
  .of_wp fun prog w A R s h => by
    obtain ⟨hp, g, d, tk, os⟩ := s; obtain ⟨hl, h⟩ := h
    have hsub := sub_enumerate
    have hL : Heap.IsTuple (Shared.heap ⟨hp, g, d, tk, os⟩) l items := ⟨_, hl, rfl, n, rfl⟩
    wp_walk using AutoSeq1.wpAny_loadPart' hl
    refine wpAny_stack_any fun st => wpAny_pure ?_
    split
    · rename_i c _ _ _ _ _
      cases (c == Value.type "enumerate")
      · wp_walk using AutoSeq1.wpAny_loadPart' hl, wpAny_pyIter_tuple hL
        exact ⟨_, rfl, h⟩
      · wp_walk using AutoSeq1.wpAny_loadPart' hl, wpAny_pyIter_tuple hL
        exact ⟨_, rfl, h⟩
    · wp_walk using AutoSeq1.wpAny_loadPart' hl, wpAny_pyIter_tuple hL
      exact ⟨_, rfl, h⟩
theorem call_enumerate_tuple {prog : Program} {w : World} {A : Around} {E : Value → Shared → Prop} {s : Shared} {l : Addr} {items : Array Value} {Q : Value → Shared → Prop} (hL : s.heap.IsTuple l items)
    (h : ∀ h', IsEnum h' (s.heap.objs.size + 1) s.heap.objs.size 0 .none → h'.IsTupleIter s.heap.objs.size l 0 → h'.objs.size = s.heap.objs.size + 2 →
      (∀ b o, s.heap.get? b = some o → h'.get? b = some o) → Q (.ref (s.heap.objs.size + 1)) { s with heap := h' }) :
    wpAny (model prog w) A (call (.type "enumerate") [.ref l]) Q E s := by
  obtain ⟨⟨c, dct, dt, sl⟩, hl, hc, n, hd⟩ := hL
  replace hc : c = .type "tuple" := hc
  replace hd : dt = .seq items n := hd
  subst hc hd
  refine callType_new F.called_enumerate (by decide) (F.typeCall_enumerate_1 _) (F.newCall_enumerate_1 _) (fun obj => F.args_object_init_2 obj _) F.entry_enumerate_new
    (meets_enumerate_newT l items n dct sl) ⟨hl, ?_⟩
  have hz : (s.heap.push { cls := .type "tuple_iterator", data := .fields #[.ref l, .int 0 0] }).objs.size = s.heap.objs.size + 1 := Heap.size_push ..
  show _ ∧ _
  rw [hz]
  have he : IsEnum ((s.heap.push { cls := .type "tuple_iterator", data := .fields #[.ref l, .int 0 0] }).push
      { cls := .type "enumerate", data := .fields #[.none, .bool false, .ref s.heap.objs.size, rawInt 0, .none, .none] }) (s.heap.objs.size + 1) s.heap.objs.size 0 .none := by
    have := Heap.get?_push_size (s.heap.push { cls := .type "tuple_iterator", data := .fields #[.ref l, .int 0 0] })
      (o := { cls := .type "enumerate", data := .fields #[.none, .bool false, .ref s.heap.objs.size, rawInt 0, .none, .none] }) rfl
    rw [hz] at this; exact this
  refine ⟨⟨_, he, rfl⟩, h _ he ⟨_, Heap.get?_push_of_some _ (Heap.get?_push_size _ rfl), rfl, rfl⟩ (by rw [Heap.size_push, hz]) fun b o x => Heap.get?_push_of_some _ (Heap.get?_push_of_some _ x)⟩

/-- the tuple at a, each item in a new pair with its number -/
def IteT (K : PySem.W.Frag) (a : Addr) : It :=
  ⟨fun i H => ∃ (xs : List V) (x : V), SqT K H a xs ∧ xs[i]? = some x, fun i H v H' => ∃ T x, v = .ref T ∧ H T = none ∧ H' = upd H T (.tup [.int (i : Nat), x]) ∧ ∀ xs, SqT K H a xs → xs[i]? = some x, fun i H => ∃ xs : List V, SqT K H a xs ∧ xs.length = i⟩
theorem turn_enumT {P : Program} {w : World} {K : PySem.W.Frag} {elts : List Expr} {kk : Nat} {tpos : Pos} (a e it : Addr) :
    Turn P w K (.Tuple elts kk tpos) (IteT K a) [e, it] e (fun i h => (∃ old, IsEnum h e it ((i : Nat) : Int) old) ∧ h.IsTupleIter it a i ∧ e ≠ it ∧ e ≠ a ∧ it ≠ a) where
  mem := by simp
  obj := fun i h st b hb => by
    obtain ⟨⟨old, he⟩, ⟨o, ho, hc, hd⟩, _⟩ := st
    have e' : b = e ∨ b = it := by simpa using hb
    rcases e' with z | z
    · rw [z]; exact ⟨_, he, fun v q => nomatch q⟩
    · rw [z]; exact ⟨o, ho, fun v q => by rw [hd] at q; cases q⟩
  keep := fun i h h' st k => let ⟨⟨old, he⟩, hi, hne⟩ := st; ⟨⟨old, k e (by simp) _ he⟩, hi.at fun o q => k it (by simp) o q, hne⟩
  item := by
    intro X hP hw hK hc i pins s σ H E I hf st hg
    subst hP hw hK
    obtain ⟨⟨old, he⟩, hit, hne, hea, hia⟩ := st
    obtain ⟨xs, x, hq, hx⟩ := hg
    obtain ⟨its, rv, p, hz⟩ := I.tuple hq
    obtain ⟨u, hu, ru⟩ := rv.get hx
    have hel : e < s.heap.objs.size := Heap.lt_size he
    have hil : it < s.heap.objs.size := by obtain ⟨_, q, _⟩ := hit; exact Heap.lt_size q
    have hlt : i < its.toArray.size := by
      have := (List.getElem?_eq_some_iff.mp hu).1
      simpa using this
    refine wpAny_pyNext_enum_itemC (Draws.tuple (prog := X.prog) (w := X.w) (A := X.A.in1) (I.ok.hd hc) it a (Ne.symm hia) its.toArray) he ⟨hit, p⟩ hlt hne (by simp [hne, hea]) fun x' h' tk hPx ho hst' hT hsz hk => ?_
    have ex : x' = u := by
      have h1 : its.toArray[i]? = some u := by simpa using hu
      exact Option.some.inj (hPx.symm.trans h1)
    subst ex
    obtain ⟨hit', _⟩ := hst'
    refine ⟨_, rfl, wpAny_letOwnedTupleGo_enum (s := { s with heap := h', toks := tk + 1 }) ho fun h'' he' sb => ?_⟩
    have hT2 : h''.get? s.heap.objs.size = some { cls := .type "tuple", data := .seq #[.int i tk, x'] } := (sb.2 _ (Nat.ne_of_gt hel)).trans hT
    have new : ObjOk X.prog X.w (upd H s.heap.objs.size (.tup [.int (i : Nat), x])) h'' s.heap.objs.size (.tup [.int (i : Nat), x]) :=
      ⟨by show 2 ≤ sizeLine; decide, [.int i tk, x'], .cons ⟨_, rfl⟩ (.cons ru .nil), ⟨_, hT2, rfl, _, rfl⟩⟩
    have I1 : Inv X pins σ (upd H s.heap.objs.size (.tup [.int (i : Nat), x])) { s with heap := h'', toks := tk + 1 } :=
      I.turnedNew (ch := [e, it]) (fun b ob hb q => (sb.2 b (fun z => hb (by simp [z]))).trans (hk b ob (fun z => hb (by simp [z])) (fun z => hb (by simp [z])) q)) hf (Nat.le_refl _) new
    refine ⟨.ref s.heap.objs.size, _, I1, rfl, ⟨_, x, rfl, I.hok.fresh (Nat.le_refl _), rfl, fun ys hy => by rw [I.tuple_inj hy hq]; exact hx⟩, ⟨⟨x', ?_⟩, hit'.at fun o q => (sb.2 it (Ne.symm hne)).trans q, hne, hea, hia⟩, fun b hb => ?_⟩
    · have e1 : ((i + 1 : Nat) : Int) = (i : Int) + 1 := by omega
      rw [e1]; exact he'
    · have hb' : b < s.heap.objs.size := by
        have e' : b = e ∨ b = it := by simpa using hb
        rcases e' with z | z
        · rw [z]; exact hel
        · rw [z]; exact hil
      rw [upd_ne (Nat.ne_of_lt hb')]
      exact (hf b hb).1
  done := by
    intro X hP hw hK hc i pins s σ H E I hf st hg
    subst hP hw hK
    obtain ⟨⟨old, he⟩, hit, hne, hea, hia⟩ := st
    obtain ⟨xs, hq, hx⟩ := hg
    obtain ⟨its, rv, p, hz⟩ := I.tuple hq
    obtain ⟨f0, f1, f2, f3, f4, f5⟩ := hf it (by simp)
    have hl := rv.length
    have hn : i = its.toArray.size := by simp; omega
    subst hn
    exact wpAny_pyNext_enum_endD (Draws.tuple (prog := X.prog) (w := X.w) (A := X.A.in1) (I.ok.hd hc) it a (Ne.symm hia) its.toArray) he ⟨hit, p⟩ fun h' eb => ⟨rfl, I.turned (t' := s.toks) (fun b o hb q => eb b o hb q) f0 f1 f3 f4 f5⟩
  self := fun A i s Q E st h => let ⟨⟨_, he⟩, _⟩ := st; wpAny_pyIter_enum he h
def iEnumT (K : PySem.W.Frag) (ta : TA) : TI := fun σ H R => ta σ H fun vs H1 => ∃ a xs, vs = [.ref a] ∧ SqT K H1 a xs ∧ R (IteT K a) H1
theorem pi_enumT {X : Cx} {e : Expr} {ta : TA} {p pos tpos : Pos} {elts : List Expr} {kk : Nat} (hg : Gl X "enumerate") (hm : X.mg "enumerate" = none) (ha : PA X [e] ta) (hs : starEach [e] X.env = [(false, eval e X.env)] := by rfl) :
    PI X (.Tuple elts kk tpos) (.Call (.Name "enumerate" p) [e] [] pos) (iEnumT X.K ta) := by
  refine ⟨fun pins s σ H R I h => ?_⟩
  refine Call_ (ld_blt I hg hm boot_enumerate (PyProof.Rows.callWith_type1 (thn (ha.run pos pins s σ H _ I h) fun us s1 ⟨vs, H1, I1, r1, q1⟩ => ?_) hs rfl))
  obtain ⟨a, xs, ex, hq, q⟩ := q1
  subst ex
  cases r1 with
  | cons r rr =>
    cases rr
    cases r
    obtain ⟨its, rv, p', hz⟩ := I1.tuple hq
    have la : a < s1.heap.objs.size := by obtain ⟨_, y, _⟩ := p'; exact Heap.lt_size y
    refine call_enumerate_tuple (show s1.heap.IsTuple a its.toArray from p') fun h' he hit hsz hk => wpAny_pyIter_enum he ?_
    have I2 : Inv X pins σ H1 { s1 with heap := h' } := I1.kept (t' := s1.toks) hk
    refine ⟨s1.heap.objs.size + 1, [s1.heap.objs.size + 1, s1.heap.objs.size], _, _, H1, rfl, I2, turn_enumT a (s1.heap.objs.size + 1) s1.heap.objs.size, ⟨⟨.none, he⟩, hit, Nat.succ_ne_self _, Nat.ne_of_gt (Nat.lt_succ_of_lt la), Nat.ne_of_gt la⟩, fun b hb => ?_, q⟩
    have e' : b = s1.heap.objs.size + 1 ∨ b = s1.heap.objs.size := by simpa using hb
    have hle : s1.heap.objs.size ≤ b := by
      rcases e' with z | z
      · rw [z]; exact Nat.le_add_right _ _
      · rw [z]; exact Nat.le_refl _
    exact I1.fpOk hle (I1.hok.fresh hle)
theorem walk_enumT {K : PySem.W.Frag} {a : Addr} {xs : List V} : Walk (IteT K a) xs.length (fun H => SqT K H a xs) (YPair (fun i => some (.int (i : Nat))) (fun i => xs[i]?)) := by
  refine ⟨fun i _ hi q => ⟨xs, xs[i], q, by simp [hi]⟩, fun _ q => ⟨xs, q, rfl⟩, fun i H v H' _ q y => ?_⟩
  obtain ⟨T, x, h1, h2, h3, h4⟩ := y
  exact ⟨T, .int (i : Nat), x, h1, h2, h3, rfl, h4 xs q⟩
/-! ### f(e, ..), f an instance: a reading that speaks of no context -/
def tCallI (C : Addr) (sp : Sp) (E : XK) (tf : TE) (t : TA) : TE := fun σ H Q => tf σ H fun y H1 => ∃ a, y = V.ref a ∧ t σ H1 fun vs H2 => (∃ dx fs, H2 a = some (.ins C dx fs)) ∧ sp (V.ref a :: vs) H2 Q E
theorem pe_callI {X : Cx} {CX : CXT} {k : Nat} {C g : Addr} {sp : Sp} {E : XK} {fe e : Expr} {es : List Expr} {tf : TE} {t : TA} {pos : Pos} (hf : PE X fe tf) (c : StX.CallO X.K C g) (F : FnR X.prog X.w X.K X.mg X.base CX k g sp) (hr : Room k X.A) (hx : Passes CX X E) (ha : PA X (e :: es) t)
    (ht : eval (.Call fe (e :: es) [] pos) X.env = (do callWith pos (← eval fe X.env) [] (backTo pos (starEach (e :: es) X.env)) (backToKw pos (keywordEach [] X.env))) := by rfl)
    (he : starEach (e :: es) X.env = (false, eval e X.env) :: starEach es X.env := by rfl) (hpl : (backTo pos (starEach es X.env)).any (·.1) = false := by rfl) : PE X (.Call fe (e :: es) [] pos) (tCallI C sp E tf t) := by
  refine ⟨fun pins s σ H Q I h => ?_⟩
  refine Call_ (thn (hf.run pins s σ H _ I h) fun u s1 ⟨y, H1, I1, ry, a, ey, q⟩ => ?_) ht
  subst ey
  obtain rfl : u = Value.ref a := ry
  refine StX.callO_with (thn (ha.run pos pins s1 σ H1 _ I1 q) fun us s2 ⟨vs, H2, I2, r, hi, q2⟩ => ?_) he hpl
  have hi' : StX.InsC X H2 a C := .inr hi
  obtain ⟨ox, od, J, hd⟩ := StX.insC_at I2 hi'
  exact ⟨⟨C, ox, od, J, hd⟩, StX.run_callO c F hr hx I2 hi' r q2⟩
end Rz
/-! The mathematics of a ring: the ends as the greatest sum over chains, Bellman's equation, where ends repeat. -/
namespace Rm
/-- f r + f (r - 1) + .. , k terms -/
def sumBack (f : Int → Int) (r : Int) : Nat → Int
  | 0 => 0
  | k + 1 => sumBack f r k + f (r - k)
/-- the greatest of f r .. f (r - k) -/
def maxBack (f : Int → Int) (r : Int) : Nat → Int
  | 0 => f r
  | k + 1 => max (maxBack f r k) (f (r - (k + 1 : Nat)))
theorem sum_front (f : Int → Int) : ∀ (k : Nat) (r : Int), sumBack f r (k + 1) = f r + sumBack f (r - 1) k
  | 0, r => by simp [sumBack]
  | k + 1, r => by
    show sumBack f r (k + 1) + f (r - (k + 1 : Nat)) = f r + (sumBack f (r - 1) k + f (r - 1 - k))
    rw [sum_front f k r, show r - ((k + 1 : Nat) : Int) = r - 1 - k by omega]
    omega
theorem max_front (f : Int → Int) : ∀ (k : Nat) (r : Int), maxBack f r (k + 1) = max (f r) (maxBack f (r - 1) k)
  | 0, r => by simp [maxBack]
  | k + 1, r => by
    show max (maxBack f r (k + 1)) (f (r - (k + 1 + 1 : Nat))) = max (f r) (max (maxBack f (r - 1) k) (f (r - 1 - (k + 1 : Nat))))
    rw [max_front f k r, show r - ((k + 1 + 1 : Nat) : Int) = r - 1 - (k + 1 : Nat) by omega]
    omega
theorem sum_add (f : Int → Int) (r : Int) (k : Nat) : ∀ n : Nat, sumBack f r (k + n) = sumBack f r k + sumBack f (r - k) n
  | 0 => by simp [sumBack]
  | n + 1 => by
    show sumBack f r (k + n) + f (r - (k + n : Nat)) = sumBack f r k + (sumBack f (r - k) n + f (r - k - n))
    rw [sum_add f r k n, show r - ((k + n : Nat) : Int) = r - k - n by omega]
    omega
theorem sum_mono {f : Int → Int} (h : ∀ i, 0 ≤ f i) (r : Int) {j k : Nat} (hjk : j ≤ k) : sumBack f r j ≤ sumBack f r k := by
  induction k with
  | zero =>
    have : j = 0 := by omega
    subst this
    exact Int.le_refl _
  | succ k ih =>
    by_cases e : j = k + 1
    · subst e
      exact Int.le_refl _
    · have := ih (by omega)
      have h2 := h (r - k)
      show sumBack f r j ≤ sumBack f r k + f (r - k)
      omega
theorem sum_nn {f : Int → Int} (h : ∀ i, 0 ≤ f i) (r : Int) (k : Nat) : 0 ≤ sumBack f r k := sum_mono h r (Nat.zero_le k)
theorem max_ge {f : Int → Int} (r : Int) : ∀ {j k : Nat}, j ≤ k → f (r - j) ≤ maxBack f r k
  | j, 0, h => by
    have : j = 0 := by omega
    subst this
    simp [maxBack]
  | j, k + 1, h => by
    show f (r - j) ≤ max (maxBack f r k) (f (r - (k + 1 : Nat)))
    by_cases e : j = k + 1
    · subst e
      omega
    · have := max_ge (f := f) r (j := j) (k := k) (by omega)
      omega
theorem max_le {f : Int → Int} {M : Int} (h : ∀ i, f i ≤ M) (r : Int) : ∀ k : Nat, maxBack f r k ≤ M
  | 0 => h r
  | k + 1 => by
    have h1 := max_le h r k
    have h2 := h (r - (k + 1 : Nat))
    show max (maxBack f r k) (f (r - (k + 1 : Nat))) ≤ M
    omega
theorem max_mono {f : Int → Int} (r : Int) {j k : Nat} (h : j ≤ k) : maxBack f r j ≤ maxBack f r k := by
  induction k with
  | zero =>
    have : j = 0 := by omega
    subst this
    exact Int.le_refl _
  | succ k ih =>
    by_cases e : j = k + 1
    · subst e
      exact Int.le_refl _
    · have := ih (by omega)
      show maxBack f r j ≤ max (maxBack f r k) (f (r - (k + 1 : Nat)))
      omega

/-- readers in a ring: days, books at first, all books, all days, the slowest -/
structure Ring (N : Nat) (d s : Int → Int) (B T M : Int) : Prop where
  pos : 0 < N
  dper : ∀ i t : Int, d (i + N * t) = d i
  sper : ∀ i t : Int, s (i + N * t) = s i
  d1 : ∀ i, 1 ≤ d i
  s0 : ∀ i, 0 ≤ s i
  b : ∀ r, sumBack s r N = B
  b1 : 1 ≤ B
  t : ∀ r, sumBack d r N = T
  mu : ∀ i, d i ≤ M
  ma : ∃ i, d i = M

/-- the sum of the chain from reading x of reader r that goes k readers back -/
def ch (d s : Int → Int) (r : Int) (k : Nat) (x : Int) : Int := sumBack d r (k + 1) + (x - sumBack s r k) * maxBack d r k
/-- e is the greatest of them -/
def IsEnd (d s : Int → Int) (r x e : Int) : Prop := (∀ k, sumBack s r k ≤ x → ch d s r k x ≤ e) ∧ ∃ k, sumBack s r k ≤ x ∧ ch d s r k x = e
theorem IsEnd.inj {d s : Int → Int} {r x e e' : Int} (h : IsEnd d s r x e) (h' : IsEnd d s r x e') : e = e' := by
  obtain ⟨k, h1, h2⟩ := h.2
  obtain ⟨k', h1', h2'⟩ := h'.2
  have := h.1 k' h1'
  have := h'.1 k h1
  omega

section
variable {N : Nat} {d s : Int → Int} {B T M : Int} (R : Ring N d s B T M)
include R
theorem Ring.sumS (r : Int) (k : Nat) : ∀ m : Nat, sumBack s r (k + m * N) = sumBack s r k + m * B
  | 0 => by simp
  | m + 1 => by
    rw [show k + (m + 1) * N = k + m * N + N by rw [Nat.add_mul, Nat.one_mul, Nat.add_assoc], sum_add, Ring.sumS r k m, R.b, show ((m + 1 : Nat) : Int) = (m : Int) + 1 by omega, Int.add_mul]
    omega
theorem Ring.sumD (r : Int) (k : Nat) : ∀ m : Nat, sumBack d r (k + m * N) = sumBack d r k + m * T
  | 0 => by simp
  | m + 1 => by
    rw [show k + (m + 1) * N = k + m * N + N by rw [Nat.add_mul, Nat.one_mul, Nat.add_assoc], sum_add, Ring.sumD r k m, R.t, show ((m + 1 : Nat) : Int) = (m : Int) + 1 by omega, Int.add_mul]
    omega
theorem Ring.maxM (r : Int) {k : Nat} (h : N ≤ k + 1) : maxBack d r k = M := by
  obtain ⟨i, hi⟩ := R.ma
  have hN := R.pos
  have h0 : 0 ≤ (r - i) % (N : Int) := Int.emod_nonneg _ (by omega)
  have h1 : (r - i) % (N : Int) < N := Int.emod_lt_of_pos _ (by omega)
  have e : r - (((r - i) % (N : Int)).toNat : Nat) = i + N * ((r - i) / (N : Int)) := by
    have := Int.emod_add_mul_ediv (r - i) (N : Int)
    omega
  have h2 := max_ge (f := d) r (j := ((r - i) % (N : Int)).toNat) (k := k) (by omega)
  rw [e, R.dper, hi] at h2
  have h3 := max_le R.mu r k
  omega
theorem Ring.M1 : 1 ≤ M := by
  obtain ⟨i, hi⟩ := R.ma
  have := R.d1 i
  omega
theorem Ring.round (r x : Int) (k : Nat) {m : Nat} (hm : 1 ≤ m) : ch d s r (k + m * N) x = sumBack d r (k + 1) + (x - sumBack s r k) * M + m * (T - B * M) := by
  unfold ch
  have e1 : sumBack d r (k + m * N + 1) = sumBack d r (k + 1) + m * T := by
    rw [show k + m * N + 1 = k + 1 + m * N by omega, R.sumD]
  have e2 : N ≤ k + m * N + 1 := by
    have : 1 * N ≤ m * N := Nat.mul_le_mul_right N hm
    omega
  rw [e1, R.sumS, R.maxM r e2]
  have e3 : (x - (sumBack s r k + m * B)) * M = (x - sumBack s r k) * M - m * (B * M) := by
    rw [show x - (sumBack s r k + m * B) = (x - sumBack s r k) - m * B by omega, Int.sub_mul, Int.mul_assoc]
  rw [e3, Int.mul_sub]
  omega
end

/-- what the loop over the first i readers back has found -/
def Sofar (N : Nat) (d s : Int → Int) (r x : Int) (i : Nat) (L : Int) : Prop :=
  (∀ j m : Nat, j < i → sumBack s r (j + m * N) ≤ x → ch d s r (j + m * N) x ≤ L) ∧ ((i = 0 ∧ L = 0) ∨ ∃ k, sumBack s r k ≤ x ∧ ch d s r k x = L)
section
variable {N : Nat} {d s : Int → Int} {B T M : Int} (R : Ring N d s B T M)
include R
theorem Ring.ch_pos (r x : Int) (k : Nat) (h : sumBack s r k ≤ x) : 1 ≤ ch d s r k x := by
  unfold ch
  have h1 : d (r - k) ≤ sumBack d r (k + 1) := by
    have := sum_nn (f := d) (fun i => by have := R.d1 i; omega) r k
    show d (r - k) ≤ sumBack d r k + d (r - k)
    omega
  have h2 := R.d1 (r - k)
  have h3 : 0 ≤ maxBack d r k := by
    have := max_ge (f := d) r (j := 0) (k := k) (Nat.zero_le _)
    have := R.d1 (r - (0 : Nat))
    omega
  have h4 := Int.mul_nonneg (show 0 ≤ x - sumBack s r k by omega) h3
  omega
theorem Ring.step {r x L : Int} {i : Nat} (P : Sofar N d s r x i L) (hl : sumBack s r i ≤ x) {L2 : Int}
    (h2 : L2 = if B ≤ x - sumBack s r i then max (max L (ch d s r i x)) (sumBack d r (i + 1) + (x - sumBack s r i) * M + (if 0 < T - B * M then (x - sumBack s r i) / B else 1) * (T - B * M)) else max L (ch d s r i x)) :
    Sofar N d s r x (i + 1) L2 := by
  have P1 := P.1
  have hB := R.b1
  have hge : max L (ch d s r i x) ≤ L2 := by
    rw [h2]
    split <;> omega
  have key : ∀ m : Nat, 1 ≤ m → sumBack s r (i + m * N) ≤ x → ch d s r (i + m * N) x ≤ L2 := by
    intro m hm hv
    rw [R.round r x i hm]
    rw [R.sumS] at hv
    have hmB : (1 : Int) * B ≤ m * B := Int.mul_le_mul_of_nonneg_right (by omega) (by omega)
    have hBl : B ≤ x - sumBack s r i := by omega
    rw [if_pos hBl] at h2
    have hc : (m : Int) * (T - B * M) ≤ (if 0 < T - B * M then (x - sumBack s r i) / B else 1) * (T - B * M) := by
      split
      · rename_i hg
        refine Int.mul_le_mul_of_nonneg_right ?_ (by omega)
        exact (Int.le_ediv_iff_mul_le (by omega)).mpr (by omega)
      · rename_i hg
        have h5 : (0 : Int) ≤ ((m : Int) - 1) * (-(T - B * M)) := Int.mul_nonneg (by omega) (by omega)
        rw [Int.sub_mul, Int.mul_neg] at h5
        omega
    omega
  refine ⟨fun j m hj hv => ?_, ?_⟩
  · by_cases e : j = i
    · subst e
      cases m with
      | zero =>
        have e0 : j + 0 * N = j := by omega
        rw [e0]
        omega
      | succ m => exact key (m + 1) (by omega) hv
    · have := P1 j m (by omega) hv
      omega
  · right
    have hcp := R.ch_pos r x i hl
    have hL : ∃ k, sumBack s r k ≤ x ∧ ch d s r k x = max L (ch d s r i x) := by
      rcases P.2 with ⟨h0, hL0⟩ | ⟨k, hk, hk2⟩
      · exact ⟨i, hl, by omega⟩
      · by_cases hh : ch d s r i x ≤ L
        · exact ⟨k, hk, by omega⟩
        · exact ⟨i, hl, by omega⟩
    by_cases hBl : B ≤ x - sumBack s r i
    · rw [if_pos hBl] at h2
      -- the candidate of whole rounds is a chain too
      have hcand : ∃ k, sumBack s r k ≤ x ∧ ch d s r k x = sumBack d r (i + 1) + (x - sumBack s r i) * M + (if 0 < T - B * M then (x - sumBack s r i) / B else 1) * (T - B * M) := by
        by_cases hg : 0 < T - B * M
        · rw [if_pos hg]
          have hq1 : 1 ≤ (x - sumBack s r i) / B := (Int.le_ediv_iff_mul_le (by omega)).mpr (by omega)
          have hq2 : (x - sumBack s r i) / B * B ≤ x - sumBack s r i := Int.ediv_mul_le _ (by omega)
          have hqn : ((((x - sumBack s r i) / B).toNat : Nat) : Int) = (x - sumBack s r i) / B := by omega
          refine ⟨i + ((x - sumBack s r i) / B).toNat * N, ?_, ?_⟩
          · rw [R.sumS, hqn]
            omega
          · rw [R.round r x i (by omega), hqn]
        · rw [if_neg hg]
          refine ⟨i + 1 * N, ?_, ?_⟩
          · rw [R.sumS]
            omega
          · rw [R.round r x i (by omega)]
            simp
      obtain ⟨k1, a1, a2⟩ := hL
      obtain ⟨k2, c1, c2⟩ := hcand
      by_cases hh : max L (ch d s r i x) ≤ sumBack d r (i + 1) + (x - sumBack s r i) * M + (if 0 < T - B * M then (x - sumBack s r i) / B else 1) * (T - B * M)
      · exact ⟨k2, c1, by rw [c2, h2]; omega⟩
      · exact ⟨k1, a1, by rw [a2, h2]; omega⟩
    · rw [if_neg hBl] at h2
      rw [h2]
      exact hL
theorem Ring.fin {r x L : Int} {i : Nat} (P : Sofar N d s r x i L) (hi : i = N ∨ (0 < i ∧ x < sumBack s r i)) : IsEnd d s r x L := by
  have P1 := P.1
  have hN := R.pos
  refine ⟨fun k hk => ?_, ?_⟩
  · have ek : k = k % N + k / N * N := by
      have := Nat.mod_add_div k N
      rw [Nat.mul_comm] at this
      exact this.symm
    rw [ek] at hk ⊢
    refine P1 _ _ ?_ hk
    rcases hi with hi | ⟨_, hi⟩
    · rw [hi]
      exact Nat.mod_lt _ hN
    · rcases Nat.lt_or_ge (k % N) i with h | h
      · exact h
      · have := sum_mono R.s0 r h
        have h2 := R.sumS r (k % N) (k / N)
        have h3 : (0 : Int) ≤ ((k / N : Nat) : Int) * B := Int.mul_nonneg (Int.natCast_nonneg _) (by have := R.b1; omega)
        omega
  · rcases P.2 with ⟨h0, _⟩ | h
    · rcases hi with hi | ⟨hi, _⟩ <;> omega
    · exact h
theorem Ring.sofar0 (r x : Int) : Sofar N d s r x 0 0 := ⟨fun _ _ h => absurd h (Nat.not_lt_zero _), .inl ⟨rfl, rfl⟩⟩
theorem Ring.ends (r : Int) {x : Int} (hx : 0 ≤ x) : ∃ e, IsEnd d s r x e := by
  have go : ∀ n i L, i + n = N → sumBack s r i ≤ x → Sofar N d s r x i L → ∃ e, IsEnd d s r x e := by
    intro n
    induction n with
    | zero =>
      intro i L hi _ P
      exact ⟨L, R.fin P (.inl (by omega))⟩
    | succ n ih =>
      intro i L hi hl P
      have P' := R.step P hl rfl
      by_cases h : sumBack s r (i + 1) ≤ x
      · exact ih (i + 1) _ (by omega) h P'
      · exact ⟨_, R.fin P' (.inr ⟨by omega, by omega⟩)⟩
  exact go N 0 0 (by omega) (by show (0 : Int) ≤ x; exact hx) (R.sofar0 r x)
end
/-- the day on which reading x of reader r ends -/
noncomputable def E (d s : Int → Int) (r x : Int) : Int := open Classical in if h : ∃ e, IsEnd d s r x e then Classical.choose h else 0
section
variable {N : Nat} {d s : Int → Int} {B T M : Int} (R : Ring N d s B T M)
include R
theorem Ring.isE (r : Int) {x : Int} (hx : 0 ≤ x) : IsEnd d s r x (E d s r x) := by
  have h := R.ends r hx
  unfold E
  rw [dif_pos h]
  exact Classical.choose_spec h
theorem Ring.E_of {r x e : Int} (h : IsEnd d s r x e) : E d s r x = e := by
  have h' : ∃ e, IsEnd d s r x e := ⟨e, h⟩
  unfold E
  rw [dif_pos h']
  exact (Classical.choose_spec h').inj h
theorem Ring.E_per (r x t : Int) : E d s (r + N * t) x = E d s r x := by
  have hs : ∀ k, sumBack s (r + N * t) k = sumBack s r k := by
    intro k
    induction k with
    | zero => rfl
    | succ k ih =>
      show sumBack s (r + N * t) k + s (r + N * t - k) = sumBack s r k + s (r - k)
      rw [ih, show r + N * t - k = (r - k) + N * t by omega, R.sper]
  have hd : ∀ k, sumBack d (r + N * t) k = sumBack d r k := by
    intro k
    induction k with
    | zero => rfl
    | succ k ih =>
      show sumBack d (r + N * t) k + d (r + N * t - k) = sumBack d r k + d (r - k)
      rw [ih, show r + N * t - k = (r - k) + N * t by omega, R.dper]
  have hm : ∀ k, maxBack d (r + N * t) k = maxBack d r k := by
    intro k
    induction k with
    | zero => exact R.dper r t
    | succ k ih =>
      show max (maxBack d (r + N * t) k) (d (r + N * t - (k + 1 : Nat))) = max (maxBack d r k) (d (r - (k + 1 : Nat)))
      rw [ih, show r + N * t - ((k + 1 : Nat) : Int) = (r - (k + 1 : Nat)) + N * t by omega, R.dper]
  have he : IsEnd d s (r + N * t) x = IsEnd d s r x := by
    funext e
    unfold IsEnd ch
    simp only [hs, hd, hm]
  unfold E
  rw [he]
theorem Ring.E_mod (r x : Int) : E d s (r % N) x = E d s r x := by
  have h := R.E_per (r % N) x (r / N)
  rw [Int.emod_add_mul_ediv] at h
  exact h.symm
theorem Ring.ub (r : Int) {x : Int} (hx : 0 ≤ x) (k : Nat) (h : sumBack s r k ≤ x) : ch d s r k x ≤ E d s r x := (R.isE r hx).1 k h
theorem Ring.att (r : Int) {x : Int} (hx : 0 ≤ x) : ∃ k, sumBack s r k ≤ x ∧ ch d s r k x = E d s r x := (R.isE r hx).2
theorem Ring.low (r : Int) {x : Int} (hx : 0 ≤ x) : (x + 1) * d r ≤ E d s r x := by
  have h := R.ub r hx 0 hx
  have e : ch d s r 0 x = (x + 1) * d r := by
    unfold ch
    show 0 + d (r - (0 : Nat)) + (x - 0) * d r = _
    rw [show r - ((0 : Nat) : Int) = r by omega, Int.add_mul]
    simp
    omega
  omega
theorem Ring.E1 (r : Int) {x : Int} (hx : 0 ≤ x) : d r ≤ E d s r x := by
  have h := R.low r hx
  have h2 : (0 : Int) ≤ x * d r := Int.mul_nonneg hx (by have := R.d1 r; omega)
  rw [Int.add_mul] at h
  omega
/-- Bellman, from below -/
theorem Ring.next (r : Int) {x : Int} (hx : 0 ≤ x) : E d s r x + d r ≤ E d s r (x + 1) := by
  obtain ⟨k, hk, e⟩ := R.att r hx
  have h := R.ub r (x := x + 1) (by omega) k (by omega)
  have h2 := max_ge (f := d) r (j := 0) (k := k) (Nat.zero_le _)
  rw [show r - ((0 : Nat) : Int) = r by omega] at h2
  unfold ch at h e
  have e3 : (x + 1 - sumBack s r k) * maxBack d r k = (x - sumBack s r k) * maxBack d r k + maxBack d r k := by
    rw [show x + 1 - sumBack s r k = (x - sumBack s r k) + 1 by omega, Int.add_mul]
    omega
  omega
theorem Ring.from (r : Int) {x : Int} (hs : s r ≤ x) : E d s (r - 1) (x - s r) + d r ≤ E d s r x := by
  have hx : 0 ≤ x - s r := by omega
  have hx0 : 0 ≤ x := by have := R.s0 r; omega
  obtain ⟨k, hk, e⟩ := R.att (r - 1) hx
  have hS : sumBack s r (k + 1) = s r + sumBack s (r - 1) k := sum_front s k r
  have h := R.ub r hx0 (k + 1) (by omega)
  unfold ch at h e
  rw [sum_front d (k + 1) r, hS, max_front d k r] at h
  have e2 : x - (s r + sumBack s (r - 1) k) = x - s r - sumBack s (r - 1) k := by omega
  rw [e2] at h
  have h4 : (x - s r - sumBack s (r - 1) k) * maxBack d (r - 1) k ≤ (x - s r - sumBack s (r - 1) k) * max (d r) (maxBack d (r - 1) k) :=
    Int.mul_le_mul_of_nonneg_left (by omega) (by omega)
  omega
/-- .. from above -/
theorem Ring.bell (r : Int) {x : Int} (hx : 0 ≤ x) : E d s r x = d r ∨ (1 ≤ x ∧ E d s r x = E d s r (x - 1) + d r) ∨ (s r ≤ x ∧ E d s r x = E d s (r - 1) (x - s r) + d r) := by
  obtain ⟨k, hk, e⟩ := R.att r hx
  cases k with
  | zero =>
    have e0 : ch d s r 0 x = d r + x * d r := by
      unfold ch
      show 0 + d (r - (0 : Nat)) + (x - 0) * d r = _
      rw [show r - ((0 : Nat) : Int) = r by omega]
      simp
    by_cases h0 : x = 0
    · left
      subst h0
      simp at e0
      omega
    · right; left
      refine ⟨by omega, ?_⟩
      have h1 := R.ub r (x := x - 1) (by omega) 0 (by show (0 : Int) ≤ x - 1; omega)
      have e1 : ch d s r 0 (x - 1) = x * d r := by
        unfold ch
        show 0 + d (r - (0 : Nat)) + (x - 1 - 0) * d r = _
        rw [show r - ((0 : Nat) : Int) = r by omega, show x - 1 - 0 = x - 1 by omega, Int.sub_mul]
        omega
      have h2 := R.next r (x := x - 1) (by omega)
      rw [show x - 1 + 1 = x by omega] at h2
      omega
  | succ k =>
    have hS : sumBack s r (k + 1) = s r + sumBack s (r - 1) k := sum_front s k r
    have hnn := sum_nn R.s0 (r - 1) k
    have hsr : s r ≤ x := by omega
    have h1 := R.ub (r - 1) (x := x - s r) (by omega) k (by omega)
    have h3 := R.from r hsr
    have e' := e
    unfold ch at e' h1
    rw [sum_front d (k + 1) r, hS, max_front d k r, show x - (s r + sumBack s (r - 1) k) = x - s r - sumBack s (r - 1) k by omega] at e'
    by_cases hm : d r ≤ maxBack d (r - 1) k
    · right; right
      refine ⟨hsr, ?_⟩
      rw [show max (d r) (maxBack d (r - 1) k) = maxBack d (r - 1) k by omega] at e'
      omega
    · rw [show max (d r) (maxBack d (r - 1) k) = d r by omega] at e'
      by_cases hl : x - s r - sumBack s (r - 1) k = 0
      · right; right
        refine ⟨hsr, ?_⟩
        rw [hl] at e' h1
        simp at e' h1
        omega
      · right; left
        have hx1 : 1 ≤ x := by have := R.s0 r; omega
        refine ⟨hx1, ?_⟩
        have h5 := R.ub r (x := x - 1) (by omega) (k + 1) (by omega)
        unfold ch at h5
        rw [sum_front d (k + 1) r, hS, max_front d k r, show max (d r) (maxBack d (r - 1) k) = d r by omega,
          show x - 1 - (s r + sumBack s (r - 1) k) = (x - s r - sumBack s (r - 1) k) - 1 by omega, Int.sub_mul] at h5
        have h2 := R.next r (x := x - 1) (by omega)
        rw [show x - 1 + 1 = x by omega] at h2
        omega
end
end Rm
/-! Where ends repeat; counts by a day; heaps. -/
namespace Rm
def Rep (d s : Int → Int) (p q x : Int) : Prop := ∀ r, E d s r (x + p) = E d s r x + q
section
variable {N : Nat} {d s : Int → Int} {B T M : Int} (R : Ring N d s B T M)
include R
theorem Ring.T0 : 0 ≤ T := by
  have h := sum_nn (f := d) (fun i => by have := R.d1 i; omega) 0 N
  rw [R.t] at h
  exact h
theorem Ring.BM0 : 0 ≤ B * M := Int.mul_nonneg (by have := R.b1; omega) (by have := R.M1; omega)
theorem Ring.S_le (r : Int) {k m : Nat} (h : k ≤ m * N) : sumBack s r k ≤ m * B := by
  have h1 := sum_mono R.s0 r h
  have h2 := R.sumS r 0 m
  rw [Nat.zero_add] at h2
  rw [h2] at h1
  show sumBack s r k ≤ m * B
  have : sumBack s r 0 = 0 := rfl
  omega
/-- one more unit of x -/
theorem ch_succ (d s : Int → Int) (r : Int) (k : Nat) (x y : Int) : ch d s r k (x + y) = ch d s r k x + y * maxBack d r k := by
  unfold ch
  rw [show x + y - sumBack s r k = (x - sumBack s r k) + y by omega, Int.add_mul]
  omega
theorem Ring.rep_slow (hg : T ≤ B * M) {x : Int} (hx : 4 * B + B * M ≤ x) : Rep d s 1 M x := by
  intro r
  have hB := R.b1
  have hT := R.T0
  have hBM := R.BM0
  have hM := R.M1
  have hx0 : 0 ≤ x := by omega
  apply Int.le_antisymm
  · obtain ⟨k, hk, e⟩ := R.att r (x := x + 1) (by omega)
    by_cases hv : sumBack s r k ≤ x
    · have h1 := R.ub r hx0 k hv
      rw [ch_succ R d s r k x 1] at e
      have h2 := max_le R.mu r k
      omega
    · have hkN : 2 * N ≤ k := by
        rcases Nat.lt_or_ge k (2 * N) with h | h
        · have := R.S_le r (k := k) (m := 2) (by omega)
          omega
        · exact h
      obtain ⟨k', rfl⟩ : ∃ k', k = k' + 1 * N := ⟨k - 1 * N, by omega⟩
      rw [R.round r (x + 1) k' (by omega)] at e
      rw [R.sumS] at hk hv
      have h1 := R.ub r hx0 k' (by omega)
      unfold ch at h1
      rw [R.maxM r (k := k') (by omega)] at h1
      rw [show x + 1 - sumBack s r k' = (x - sumBack s r k') + 1 by omega, Int.add_mul] at e
      omega
  · obtain ⟨k, hk, e⟩ := R.att r hx0
    by_cases hm : maxBack d r k = M
    · have h1 := R.ub r (x := x + 1) (by omega) k (by omega)
      rw [ch_succ R d s r k x 1, hm] at h1
      omega
    · have hkN : k + 1 < N := by
        rcases Nat.lt_or_ge (k + 1) N with h | h
        · exact h
        · exact absurd (R.maxM r h) hm
      have hS := R.S_le r (k := k) (m := 1) (by omega)
      have h1 := R.ub r (x := x + 1) (by omega) (k + 1 * N) (by rw [R.sumS]; omega)
      rw [R.round r (x + 1) k (by omega)] at h1
      have h2 := max_le R.mu r k
      unfold ch at e
      have h3 : (x - sumBack s r k) * (maxBack d r k + 1) ≤ (x - sumBack s r k) * M := Int.mul_le_mul_of_nonneg_left (by omega) (by omega)
      rw [Int.mul_add] at h3
      rw [show x + 1 - sumBack s r k = (x - sumBack s r k) + 1 by omega, Int.add_mul] at h1
      omega
theorem Ring.rep_fast (hg : B * M < T) {x : Int} (hx : 4 * B + B * M ≤ x) : Rep d s B T x := by
  intro r
  have hB := R.b1
  have hBM := R.BM0
  have hx0 : 0 ≤ x := by omega
  apply Int.le_antisymm
  · obtain ⟨k, hk, e⟩ := R.att r (x := x + B) (by omega)
    by_cases hkN : 2 * N ≤ k + 1
    · obtain ⟨k', rfl⟩ : ∃ k', k = k' + 1 * N := ⟨k - 1 * N, by have := R.pos; omega⟩
      rw [R.round r (x + B) k' (by omega)] at e
      rw [R.sumS] at hk
      have h1 := R.ub r hx0 k' (by omega)
      unfold ch at h1
      rw [R.maxM r (k := k') (by omega)] at h1
      rw [show x + B - sumBack s r k' = (x - sumBack s r k') + B by omega, Int.add_mul] at e
      omega
    · have hS := R.S_le r (k := k) (m := 2) (by omega)
      have h1 := R.ub r hx0 (k + 1 * N) (by rw [R.sumS]; omega)
      rw [R.round r x k (by omega)] at h1
      unfold ch at e
      have h2 := max_le R.mu r k
      have h3 : (x + B - sumBack s r k) * maxBack d r k ≤ (x + B - sumBack s r k) * M := Int.mul_le_mul_of_nonneg_left h2 (by omega)
      rw [show x + B - sumBack s r k = (x - sumBack s r k) + B by omega, Int.add_mul, Int.add_mul] at h3
      rw [show x + B - sumBack s r k = (x - sumBack s r k) + B by omega, Int.add_mul] at e
      omega
  · obtain ⟨k, hk, e⟩ := R.att r hx0
    have h1 := R.ub r (x := x + B) (by omega) (k + 1 * N) (by rw [R.sumS]; omega)
    rw [R.round r (x + B) k (by omega)] at h1
    have h2 := max_le R.mu r k
    unfold ch at e
    have h3 : (x - sumBack s r k) * maxBack d r k ≤ (x - sumBack s r k) * M := Int.mul_le_mul_of_nonneg_left h2 (by omega)
    rw [show x + B - sumBack s r k = (x - sumBack s r k) + B by omega, Int.add_mul] at h1
    omega
theorem Ring.claim {p q m r : Int} (hp : 1 ≤ p) (hm : 1 ≤ m) (hsm : s r ≤ m) (h1 : E d s r (m - 1 + p) = E d s r (m - 1) + q) (h2 : E d s (r - 1) (m - s r + p) = E d s (r - 1) (m - s r) + q) : E d s r (m + p) = E d s r m + q := by
  have n1 := R.next r (x := m - 1) (by omega)
  have n2 := R.next r (x := m - 1 + p) (by omega)
  have f1 := R.from r (x := m) hsm
  have f2 := R.from r (x := m + p) (by omega)
  have b1 := R.bell r (x := m) (by omega)
  have b2 := R.bell r (x := m + p) (by omega)
  have e1 := R.E1 r (x := m - 1) (by omega)
  have e2 := R.E1 r (x := m - 1 + p) (by omega)
  have d1 := R.d1 r
  rw [show m - 1 + 1 = m by omega] at n1
  rw [show m - 1 + p + 1 = m + p by omega] at n2
  rw [show m + p - s r = m - s r + p by omega] at f2 b2
  rw [show m + p - 1 = m - 1 + p by omega] at b2
  rcases b1 with b1 | ⟨_, b1⟩ | ⟨_, b1⟩ <;> rcases b2 with b2 | ⟨_, b2⟩ | ⟨_, b2⟩ <;> omega
/-- as many in a row as the greatest number of books at first: then all later ones -/
theorem Ring.later {w p q n : Int} (hw : ∀ i, s i ≤ w) (hw1 : ∃ i, s i = w) (w1 : 1 ≤ w) (hp : 1 ≤ p) (hn : 0 ≤ n) (h : ∀ j, 0 ≤ j → j < w → Rep d s p q (n + j)) : ∀ m, n ≤ m → Rep d s p q m := by
  have go : ∀ k : Nat, ∀ m, n ≤ m → m - n < k → Rep d s p q m := by
    intro k
    induction k with
    | zero => intro m h1 h2; omega
    | succ k ih =>
      intro m h1 h2
      by_cases hmw : m < n + w
      · have := h (m - n) (by omega) (by omega)
        rw [show n + (m - n) = m by omega] at this
        exact this
      · obtain ⟨r0, hr0⟩ := hw1
        -- around the ring from r0
        have around : ∀ j : Nat, E d s (r0 + j) (m + p) = E d s (r0 + j) m + q := by
          intro j
          induction j with
          | zero =>
            have hs := hw r0
            refine R.claim hp (by omega) (by rw [show r0 + ((0 : Nat) : Int) = r0 by omega]; omega) (ih (m - 1) (by omega) (by omega) _) ?_
            rw [show r0 + ((0 : Nat) : Int) = r0 by omega]
            exact ih (m - s r0) (by omega) (by omega) _
          | succ j ihj =>
            have hs := hw (r0 + (j + 1 : Nat))
            have hs0 := R.s0 (r0 + (j + 1 : Nat))
            refine R.claim hp (by omega) (by omega) (ih (m - 1) (by omega) (by omega) _) ?_
            rw [show r0 + ((j + 1 : Nat) : Int) - 1 = r0 + j by omega]
            by_cases hz : s (r0 + (j + 1 : Nat)) = 0
            · rw [hz, show m - 0 = m by omega]
              exact ihj
            · exact ih (m - s (r0 + (j + 1 : Nat))) (by omega) (by omega) _
        intro r
        have hN := R.pos
        have a0 : 0 ≤ (r - r0) % (N : Int) := Int.emod_nonneg _ (by omega)
        have h3 := around ((r - r0) % (N : Int)).toNat
        have e3 : r0 + ((((r - r0) % (N : Int)).toNat : Nat) : Int) = r + N * (-((r - r0) / (N : Int))) := by
          have := Int.emod_add_mul_ediv (r - r0) (N : Int)
          rw [Int.mul_neg]
          omega
        rw [e3, R.E_per, R.E_per] at h3
        exact h3
  intro m hm
  exact go ((m - n).toNat + 1) m hm (by omega)
theorem Ring.rounds {p q n : Int} (hp : 1 ≤ p) (h : ∀ m, n ≤ m → Rep d s p q m) (r : Int) {x : Int} (hx : n ≤ x) : ∀ k : Nat, E d s r (x + k * p) = E d s r x + k * q
  | 0 => by simp
  | k + 1 => by
    have ih := Ring.rounds hp h r hx k
    have h0 : (0 : Int) ≤ (k : Int) * p := Int.mul_nonneg (Int.natCast_nonneg _) (by omega)
    have h1 := h (x + k * p) (by omega) r
    rw [show ((k + 1 : Nat) : Int) = (k : Int) + 1 by omega, Int.add_mul, Int.add_mul, Int.one_mul, Int.one_mul, ← Int.add_assoc, h1, ih]
    omega
theorem Ring.mono (r : Int) {x : Int} (hx : 0 ≤ x) : ∀ k : Nat, E d s r x + (k + 1) * d r ≤ E d s r (x + (k + 1))
  | 0 => by
    have := R.next r hx
    simpa using this
  | k + 1 => by
    have ih := Ring.mono r hx k
    have h1 := R.next r (x := x + (k + 1)) (by omega)
    rw [show ((k + 1 : Nat) : Int) = (k : Int) + 1 by omega, show x + ((k : Int) + 1 + 1) = x + ((k : Int) + 1) + 1 by omega, Int.add_mul ((k : Int) + 1) 1]
    omega
theorem Ring.lt (r : Int) {x y : Int} (hx : 0 ≤ x) (h : x < y) : E d s r x + d r ≤ E d s r y := by
  have h1 := R.mono r hx (y - x - 1).toNat
  rw [show ((((y - x - 1).toNat : Nat) : Int) + 1) = y - x by omega, show x + (y - x) = y by omega] at h1
  have h2 : (1 : Int) * d r ≤ (y - x) * d r := Int.mul_le_mul_of_nonneg_right (by omega) (by have := R.d1 r; omega)
  omega
theorem Ring.le (r : Int) {x y : Int} (hx : 0 ≤ x) (h : x ≤ y) : E d s r x ≤ E d s r y := by
  by_cases e : x = y
  · subst e
    exact Int.le_refl _
  · have := R.lt r hx (show x < y by omega)
    have := R.d1 r
    omega
end

/-- c readings of reader r have ended by day D -/
def Cnt (d s : Int → Int) (r D c : Int) : Prop := 0 ≤ c ∧ (c = 0 ∨ E d s r (c - 1) ≤ D) ∧ D < E d s r c
noncomputable def Cn (d s : Int → Int) (r D : Int) : Int := open Classical in if h : ∃ c, Cnt d s r D c then Classical.choose h else 0
section
variable {N : Nat} {d s : Int → Int} {B T M : Int} (R : Ring N d s B T M)
include R
theorem Ring.cnt_inj {r D c c' : Int} (h : Cnt d s r D c) (h' : Cnt d s r D c') : c = c' := by
  obtain ⟨a0, a1, a2⟩ := h
  obtain ⟨b0, b1, b2⟩ := h'
  rcases Int.lt_trichotomy c c' with z | z | z
  · have := R.le r (x := c) (y := c' - 1) a0 (by omega)
    omega
  · exact z
  · have := R.le r (x := c') (y := c - 1) b0 (by omega)
    omega
theorem Ring.cnt_ex (r D : Int) : ∃ c, Cnt d s r D c := by
  have go : ∀ n : Nat, D < E d s r n → ∃ c, Cnt d s r D c := by
    intro n
    induction n with
    | zero => intro h; exact ⟨0, by omega, .inl rfl, h⟩
    | succ n ih =>
      intro h
      by_cases hh : E d s r n ≤ D
      · exact ⟨((n + 1 : Nat) : Int), by omega, .inr (by rw [show ((n + 1 : Nat) : Int) - 1 = n by omega]; exact hh), h⟩
      · exact ih (by omega)
  refine go D.toNat ?_
  have h := R.low r (x := (D.toNat : Nat)) (by omega)
  have h2 : (((D.toNat : Nat) : Int) + 1) * 1 ≤ (((D.toNat : Nat) : Int) + 1) * d r := Int.mul_le_mul_of_nonneg_left (R.d1 r) (by omega)
  omega
theorem Ring.cn (r D : Int) : Cnt d s r D (Cn d s r D) := by
  have h := R.cnt_ex r D
  unfold Cn
  rw [dif_pos h]
  exact Classical.choose_spec h
theorem Ring.cn_of {r D c : Int} (h : Cnt d s r D c) : Cn d s r D = c := R.cnt_inj (R.cn r D) h
theorem Ring.cn_per (r D t : Int) : Cn d s (r + N * t) D = Cn d s r D := by
  refine R.cn_of ?_
  have h := R.cn r D
  unfold Cnt at h ⊢
  rw [R.E_per, R.E_per]
  exact h
theorem Ring.cn_mod (r D : Int) : Cn d s (r % N) D = Cn d s r D := by
  have h := R.cn_per (r % N) D (r / N)
  rw [Int.emod_add_mul_ediv] at h
  exact h.symm
theorem Ring.cn_end (r : Int) {x : Int} (hx : 0 ≤ x) : Cn d s r (E d s r x) = x + 1 := by
  refine R.cn_of ⟨by omega, .inr (by rw [show x + 1 - 1 = x by omega]; exact Int.le_refl _), ?_⟩
  have := R.lt r hx (show x < x + 1 by omega)
  have := R.d1 r
  omega
theorem Ring.cn_before (r : Int) {x : Int} (hx : 0 ≤ x) : Cn d s r (E d s r x - 1) = x := by
  refine R.cn_of ⟨hx, ?_, by omega⟩
  by_cases h : x = 0
  · exact .inl h
  · right
    have := R.lt r (x := x - 1) (y := x) (by omega) (by omega)
    have := R.d1 r
    omega
theorem Ring.cn_next (r D : Int) : Cn d s r D ≤ Cn d s r (D + d r) ∧ Cn d s r (D + d r) ≤ Cn d s r D + 1 := by
  obtain ⟨a0, a1, a2⟩ := R.cn r D
  obtain ⟨b0, b1, b2⟩ := R.cn r (D + d r)
  have d1 := R.d1 r
  constructor
  · rcases Int.lt_or_le (Cn d s r (D + d r)) (Cn d s r D) with z | z
    · rcases a1 with a1 | a1
      · omega
      · have := R.le r (x := Cn d s r (D + d r)) (y := Cn d s r D - 1) b0 (by omega)
        omega
    · exact z
  · rcases Int.lt_or_le (Cn d s r D + 1) (Cn d s r (D + d r)) with z | z
    · rcases b1 with b1 | b1
      · omega
      · have := R.lt r (x := Cn d s r D) (y := Cn d s r (D + d r) - 1) a0 (by omega)
        omega
    · exact z
/-- a reader who has a book and is not reading begins -/
theorem Ring.cn_reads {r D : Int} (hD : 0 ≤ D) (h : Cn d s r D < s r + Cn d s (r - 1) D) : Cn d s r D + 1 ≤ Cn d s r (D + d r) := by
  obtain ⟨a0, a1, a2⟩ := R.cn r D
  obtain ⟨b0, b1, b2⟩ := R.cn r (D + d r)
  obtain ⟨c0, c1, c2⟩ := R.cn (r - 1) D
  have hs := R.s0 r
  rcases Int.lt_or_le (Cn d s r (D + d r)) (Cn d s r D + 1) with z | z
  · have h1 := R.le r (x := Cn d s r (D + d r)) (y := Cn d s r D) b0 (by omega)
    have b := R.bell r (x := Cn d s r D) a0
    rcases b with b | ⟨h2, b⟩ | ⟨h2, b⟩
    · omega
    · rcases a1 with a1 | a1 <;> omega
    · rcases c1 with c1 | c1
      · omega
      · have h3 := R.le (r - 1) (x := Cn d s r D - s r) (y := Cn d s (r - 1) D - 1) (by omega) (by omega)
        omega
  · exact z
end
theorem sum_lin (f g h : Int → Int) (r : Int) : ∀ n : Nat, sumBack (fun j => f j + g (j - 1) - h j) r n = sumBack f r n + sumBack g (r - 1) n - sumBack h r n
  | 0 => by simp [sumBack]
  | n + 1 => by
    show sumBack (fun j => f j + g (j - 1) - h j) r n + (f (r - n) + g (r - n - 1) - h (r - n)) = sumBack f r n + f (r - n) + (sumBack g (r - 1) n + g (r - 1 - n)) - (sumBack h r n + h (r - n))
    rw [sum_lin f g h r n, show r - 1 - (n : Int) = r - n - 1 by omega]
    omega
theorem sum_win {f : Int → Int} {N : Nat} (hp : ∀ i t : Int, f (i + N * t) = f i) (r : Int) : sumBack f (r - 1) N = sumBack f r N := by
  have h1 := sum_front f N r
  have h2 : sumBack f r (N + 1) = sumBack f r N + f (r - N) := rfl
  have h3 := hp (r - N) 1
  rw [show r - (N : Int) + N * 1 = r by omega] at h3
  omega
theorem sum_le {f g : Int → Int} (h : ∀ i, f i ≤ g i) (r : Int) : ∀ n : Nat, sumBack f r n ≤ sumBack g r n
  | 0 => Int.le_refl _
  | n + 1 => by
    have h1 := sum_le h r n
    have h2 := h (r - n)
    show sumBack f r n + f (r - n) ≤ sumBack g r n + g (r - n)
    omega
theorem sum_lt {f g : Int → Int} (h : ∀ i, f i ≤ g i) (r : Int) : ∀ {n j : Nat}, j < n → f (r - j) < g (r - j) → sumBack f r n < sumBack g r n
  | 0, j, hj, _ => absurd hj (Nat.not_lt_zero _)
  | n + 1, j, hj, hh => by
    show sumBack f r n + f (r - n) < sumBack g r n + g (r - n)
    by_cases e : j = n
    · subst e
      have := sum_le h r j
      omega
    · have h1 := sum_lt h r (n := n) (j := j) (by omega) hh
      have h2 := h (r - n)
      omega
theorem sum_shift (f : Int → Int) (r c : Int) : ∀ n : Nat, sumBack (fun i => f i + c) r n = sumBack f r n + n * c
  | 0 => by simp [sumBack]
  | n + 1 => by
    show sumBack (fun i => f i + c) r n + (f (r - n) + c) = sumBack f r n + f (r - n) + ((n + 1 : Nat) : Int) * c
    rw [sum_shift f r c n, show ((n + 1 : Nat) : Int) = (n : Int) + 1 by omega, Int.add_mul]
    omega
section
variable {N : Nat} {d s : Int → Int} {B T M : Int} (R : Ring N d s B T M)
include R
/-- the heaps of a day, all together: fewer than all books, as at least one is being read; at most one a reader is -/
theorem Ring.heaps {D : Int} (hD : 0 ≤ D) (r : Int) : B - N ≤ sumBack (fun j => s j + Cn d s (j - 1) D - Cn d s j (D + d j)) r N ∧ sumBack (fun j => s j + Cn d s (j - 1) D - Cn d s j (D + d j)) r N < B := by
  rw [sum_lin s (fun j => Cn d s j D) (fun j => Cn d s j (D + d j)) r N, R.b, sum_win (f := fun j => Cn d s j D) (N := N) (fun i t => R.cn_per i D t)]
  have h1 := sum_le (f := fun j => Cn d s j D) (g := fun j => Cn d s j (D + d j)) (fun i => (R.cn_next i D).1) r N
  have h2 := sum_le (f := fun j => Cn d s j (D + d j)) (g := fun j => Cn d s j D + 1) (fun i => (R.cn_next i D).2) r N
  rw [sum_shift (fun j => Cn d s j D) r 1 N] at h2
  refine ⟨by omega, ?_⟩
  -- someone reads
  have some_reads : ∃ j : Nat, j < N ∧ Cn d s (r - j) D < Cn d s (r - j) (D + d (r - j)) := by
    apply Classical.byContradiction
    intro hno
    have hall : ∀ j : Nat, j < N → s (r - j) + Cn d s (r - j - 1) D ≤ Cn d s (r - j) D := by
      intro j hj
      apply Classical.byContradiction
      intro hh
      have := R.cn_reads (r := r - j) hD (by omega)
      exact hno ⟨j, hj, by omega⟩
    have go : ∀ n : Nat, n ≤ N → sumBack s r n + sumBack (fun j => Cn d s j D) (r - 1) n ≤ sumBack (fun j => Cn d s j D) r n := by
      intro n
      induction n with
      | zero => intro _; show (0 : Int) + 0 ≤ 0; omega
      | succ n ih =>
        intro hn
        have h3 := ih (by omega)
        have h4 := hall n (by omega)
        show sumBack s r n + s (r - n) + (sumBack (fun j => Cn d s j D) (r - 1) n + Cn d s (r - 1 - n) D) ≤ sumBack (fun j => Cn d s j D) r n + Cn d s (r - n) D
        rw [show r - 1 - (n : Int) = r - n - 1 by omega]
        omega
    have h5 := go N (Nat.le_refl _)
    rw [R.b, sum_win (f := fun j => Cn d s j D) (N := N) (fun i t => R.cn_per i D t)] at h5
    have := R.b1
    omega
  obtain ⟨j, hj, hjr⟩ := some_reads
  have h6 := sum_lt (f := fun j => Cn d s j D) (g := fun j => Cn d s j (D + d j)) (fun i => (R.cn_next i D).1) r hj hjr
  omega
end

/-! ### from lists -/
/-- round the list, from any index -/
def at' (l : List Int) (i : Int) : Int := l.getD (i % (l.length : Int)).toNat 0
theorem at_per (l : List Int) (i t : Int) : at' l (i + (l.length : Int) * t) = at' l i := by
  unfold at'
  rw [Int.add_mul_emod_self_left]
theorem at_nat {l : List Int} {j : Nat} {v : Int} (h : l[j]? = some v) : at' l (j : Int) = v := by
  have hj := (List.getElem?_eq_some_iff.mp h).1
  unfold at'
  rw [Int.emod_eq_of_lt (by omega) (by omega), List.getD_eq_getElem?_getD, Int.toNat_natCast, h]
  rfl
theorem at_mem {l : List Int} (hl : 0 < l.length) (i : Int) : at' l i ∈ l := by
  unfold at'
  have h0 : 0 ≤ i % (l.length : Int) := Int.emod_nonneg _ (by omega)
  have h1 : i % (l.length : Int) < l.length := Int.emod_lt_of_pos _ (by omega)
  rw [List.getD_eq_getElem?_getD, List.getElem?_eq_getElem (show (i % (l.length : Int)).toNat < l.length by omega)]
  exact List.getElem_mem _
theorem mem_at {l : List Int} {v : Int} (h : v ∈ l) : ∃ i, at' l i = v := by
  obtain ⟨j, hj, e⟩ := List.getElem_of_mem h
  exact ⟨j, at_nat (by rw [List.getElem?_eq_getElem hj, e])⟩
theorem sum_list (l : List Int) : sumBack (at' l) ((l.length : Int) - 1) l.length = l.sum := by
  have go : ∀ n : Nat, n ≤ l.length → sumBack (at' l) ((n : Int) - 1) n = (l.take n).sum := by
    intro n
    induction n with
    | zero => intro _; simp [sumBack]
    | succ n ih =>
      intro hn
      rw [show ((n + 1 : Nat) : Int) - 1 = n by omega, sum_front, ih (by omega), List.take_add_one, List.sum_append, at_nat (List.getElem?_eq_getElem (show n < l.length by omega)), List.getElem?_eq_getElem (show n < l.length by omega)]
      simp
      omega
  have h := go l.length (Nat.le_refl _)
  rw [List.take_length] at h
  exact h
theorem sum_any {f : Int → Int} {N : Nat} (hp : ∀ i t : Int, f (i + N * t) = f i) (p q : Int) : sumBack f p N = sumBack f q N := by
  have go : ∀ (n : Nat) (r : Int), sumBack f (r - n) N = sumBack f r N := by
    intro n
    induction n with
    | zero => intro r; rw [show r - ((0 : Nat) : Int) = r by omega]
    | succ n ih =>
      intro r
      rw [show r - ((n + 1 : Nat) : Int) = r - n - 1 by omega, sum_win hp, ih]
  rcases Int.le_total p q with h | h
  · have := go (q - p).toNat q
    rw [show q - ((q - p).toNat : Int) = p by omega] at this
    exact this
  · have := go (p - q).toNat p
    rw [show p - ((p - q).toNat : Int) = q by omega] at this
    exact this.symm
theorem ring_of {ds ss : List Int} {M : Int} (hl : 0 < ds.length) (hls : ss.length = ds.length) (h1 : ∀ y ∈ ds, 1 ≤ y) (h2 : ∀ y ∈ ss, 0 ≤ y) (hB : 1 ≤ ss.sum) (hM : M ∈ ds) (hMu : ∀ y ∈ ds, y ≤ M) :
    Ring ds.length (at' ds) (at' ss) ss.sum ds.sum M where
  pos := hl
  dper := at_per ds
  sper := by rw [← hls]; exact at_per ss
  d1 := fun i => h1 _ (at_mem hl i)
  s0 := fun i => h2 _ (at_mem (by omega) i)
  b := fun r => by
    rw [sum_any (f := at' ss) (N := ds.length) (by rw [← hls]; exact at_per ss) r ((ss.length : Int) - 1), ← hls]
    exact sum_list ss
  b1 := hB
  t := fun r => by
    rw [sum_any (f := at' ds) (N := ds.length) (at_per ds) r ((ds.length : Int) - 1)]
    exact sum_list ds
  mu := fun i => hMu _ (at_mem hl i)
  ma := mem_at hM
end Rm
namespace Rp
open PySem PySem.Spec PyProof.Rows L2
def topS (i : Nat) : Stmt := PySem.Challenge.pw_readingring_k44_hidden_days.main.body.getD i (.Pass ⟨0, 0, 0, 0⟩)
abbrev s_is_number : Stmt := topS 16
abbrev s_lies_between : Stmt := topS 17
abbrev s_check_number : Stmt := topS 18
abbrev s_check_reader : Stmt := topS 19
abbrev s_rinit : Stmt := inClass (topS 25) 0
abbrev s_rdays : Stmt := inClass (topS 25) 2
abbrev s_rstarts : Stmt := inClass (topS 25) 3
abbrev s_rbooks : Stmt := inClass (topS 25) 4
abbrev s_rpace : Stmt := inClass (topS 25) 5
abbrev s_rwith_days : Stmt := inClass (topS 25) 6
abbrev s_rlen : Stmt := inClass (topS 25) 7
abbrev s_rcall : Stmt := inClass (topS 25) 10
abbrev s_check_part : Stmt := topS 26
abbrev s_end_day : Stmt := topS 27
abbrev s_is_same_number : Stmt := topS 30
abbrev s_dinit : Stmt := inClass (topS 31) 0
abbrev s_dfrom_log : Stmt := inClass (topS 31) 1
abbrev s_dpossible_days : Stmt := inClass (topS 31) 2
abbrev s_dobservations : Stmt := inClass (topS 31) 3
abbrev s_dsee_end : Stmt := inClass (topS 31) 4
abbrev s_dsee_open : Stmt := inClass (topS 31) 5
abbrev s_dpossible_ends : Stmt := inClass (topS 31) 6
abbrev s_dtelling_number : Stmt := inClass (topS 31) 7
abbrev s_dcheck_reading : Stmt := inClass (topS 31) 8
abbrev s_daccept : Stmt := inClass (topS 31) 9
abbrev s_ltaken : Stmt := topS 33
abbrev s_lalike : Stmt := topS 34
abbrev s_lraised : Stmt := topS 35
abbrev s_lpair : Stmt := topS 36
abbrev s_lbegun : Stmt := topS 37
abbrev s_lfirst : Stmt := topS 38
abbrev s_lnext : Stmt := topS 39
abbrev s_lends : Stmt := topS 40
abbrev s_lare_rejected : Stmt := topS 41
abbrev s_lis_told : Stmt := topS 42
abbrev s_law : Stmt := topS 43
abbrev N_is_number : List Str := ["value"]
abbrev P_is_number : List Str := ["value"]
theorem sc_is_number : FnScope N_is_number P_is_number (defScope s_is_number) := ⟨rfl, rfl, rfl, by decide +kernel, rfl, by decide +kernel, by decide +kernel⟩
abbrev N_lies_between : List Str := ["value", "low", "high"]
abbrev P_lies_between : List Str := ["value", "low", "high"]
theorem sc_lies_between : FnScope N_lies_between P_lies_between (defScope s_lies_between) := ⟨rfl, rfl, rfl, by decide +kernel, rfl, by decide +kernel, by decide +kernel⟩
abbrev N_check_number : List Str := ["value", "low", "high"]
abbrev P_check_number : List Str := ["value", "low", "high"]
theorem sc_check_number : FnScope N_check_number P_check_number (defScope s_check_number) := ⟨rfl, rfl, rfl, by decide +kernel, rfl, by decide +kernel, by decide +kernel⟩
abbrev N_check_reader : List Str := ["ring", "reader"]
abbrev P_check_reader : List Str := ["ring", "reader"]
theorem sc_check_reader : FnScope N_check_reader P_check_reader (defScope s_check_reader) := ⟨rfl, rfl, rfl, by decide +kernel, rfl, by decide +kernel, by decide +kernel⟩
abbrev N_rinit : List Str := ["self", "days", "starts"]
abbrev P_rinit : List Str := ["self", "days", "starts"]
theorem sc_rinit : FnScope N_rinit P_rinit (defScope s_rinit) := ⟨rfl, rfl, rfl, by decide +kernel, rfl, by decide +kernel, by decide +kernel⟩
abbrev N_rdays : List Str := ["self"]
abbrev P_rdays : List Str := ["self"]
theorem sc_rdays : FnScope N_rdays P_rdays (defScope s_rdays) := ⟨rfl, rfl, rfl, by decide +kernel, rfl, by decide +kernel, by decide +kernel⟩
abbrev N_rstarts : List Str := ["self"]
abbrev P_rstarts : List Str := ["self"]
theorem sc_rstarts : FnScope N_rstarts P_rstarts (defScope s_rstarts) := ⟨rfl, rfl, rfl, by decide +kernel, rfl, by decide +kernel, by decide +kernel⟩
abbrev N_rbooks : List Str := ["self"]
abbrev P_rbooks : List Str := ["self"]
theorem sc_rbooks : FnScope N_rbooks P_rbooks (defScope s_rbooks) := ⟨rfl, rfl, rfl, by decide +kernel, rfl, by decide +kernel, by decide +kernel⟩
abbrev N_rpace : List Str := ["self"]
abbrev P_rpace : List Str := ["self"]
theorem sc_rpace : FnScope N_rpace P_rpace (defScope s_rpace) := ⟨rfl, rfl, rfl, by decide +kernel, rfl, by decide +kernel, by decide +kernel⟩
abbrev N_rwith_days : List Str := ["self", "reader", "days", "changed"]
abbrev P_rwith_days : List Str := ["self", "reader", "days"]
theorem sc_rwith_days : FnScope N_rwith_days P_rwith_days (defScope s_rwith_days) := ⟨rfl, rfl, rfl, by decide +kernel, rfl, by decide +kernel, by decide +kernel⟩
abbrev N_rlen : List Str := ["self"]
abbrev P_rlen : List Str := ["self"]
theorem sc_rlen : FnScope N_rlen P_rlen (defScope s_rlen) := ⟨rfl, rfl, rfl, by decide +kernel, rfl, by decide +kernel, by decide +kernel⟩
abbrev N_rcall : List Str := ["self", "reader", "number"]
abbrev P_rcall : List Str := ["self", "reader", "number"]
theorem sc_rcall : FnScope N_rcall P_rcall (defScope s_rcall) := ⟨rfl, rfl, rfl, by decide +kernel, rfl, by decide +kernel, by decide +kernel⟩
abbrev N_check_part : List Str := ["part", "values", "limits", "lengths", "low", "high", "fewest", "most", "index", "value"]
abbrev P_check_part : List Str := ["part", "values", "limits", "lengths"]
theorem sc_check_part : FnScope N_check_part P_check_part (defScope s_check_part) := ⟨rfl, rfl, rfl, by decide +kernel, rfl, by decide +kernel, by decide +kernel⟩
abbrev N_end_day : List Str := ["ring", "reader", "number", "books", "slowest", "gain", "latest", "total", "slowest_met", "left", "step", "rounds"]
abbrev P_end_day : List Str := ["ring", "reader", "number"]
theorem sc_end_day : FnScope N_end_day P_end_day (defScope s_end_day) := ⟨rfl, rfl, rfl, by decide +kernel, rfl, by decide +kernel, by decide +kernel⟩
abbrev N_is_same_number : List Str := ["value", "number"]
abbrev P_is_same_number : List Str := ["value", "number"]
theorem sc_is_same_number : FnScope N_is_same_number P_is_same_number (defScope s_is_same_number) := ⟨rfl, rfl, rfl, by decide +kernel, rfl, by decide +kernel, by decide +kernel⟩
abbrev N_dinit : List Str := ["self", "ring", "reader", "days"]
abbrev P_dinit : List Str := ["self", "ring", "reader"]
theorem sc_dinit : FnScope N_dinit P_dinit (defScope s_dinit) := ⟨rfl, rfl, rfl, by decide +kernel, rfl, by decide +kernel, by decide +kernel⟩
abbrev N_dfrom_log : List Str := ["cls", "ring", "reader", "observations", "observer", "name", "arguments"]
abbrev P_dfrom_log : List Str := ["cls", "ring", "reader", "observations"]
theorem sc_dfrom_log : FnScope N_dfrom_log P_dfrom_log (defScope s_dfrom_log) := ⟨rfl, rfl, rfl, by decide +kernel, rfl, by decide +kernel, by decide +kernel⟩
abbrev N_dpossible_days : List Str := ["self", "ring"]
abbrev P_dpossible_days : List Str := ["self"]
theorem sc_dpossible_days : FnScope N_dpossible_days P_dpossible_days (defScope s_dpossible_days) := ⟨rfl, rfl, rfl, by decide +kernel, rfl, by decide +kernel, by decide +kernel⟩
abbrev N_dobservations : List Str := ["self"]
abbrev P_dobservations : List Str := ["self"]
theorem sc_dobservations : FnScope N_dobservations P_dobservations (defScope s_dobservations) := ⟨rfl, rfl, rfl, by decide +kernel, rfl, by decide +kernel, by decide +kernel⟩
abbrev N_dsee_end : List Str := ["self", "reader", "number", "day", "rings", "ring"]
abbrev P_dsee_end : List Str := ["self", "reader", "number", "day"]
theorem sc_dsee_end : FnScope N_dsee_end P_dsee_end (defScope s_dsee_end) := ⟨rfl, rfl, rfl, by decide +kernel, rfl, by decide +kernel, by decide +kernel⟩
abbrev N_dsee_open : List Str := ["self", "reader", "number", "day", "rings", "ring"]
abbrev P_dsee_open : List Str := ["self", "reader", "number", "day"]
theorem sc_dsee_open : FnScope N_dsee_open P_dsee_open (defScope s_dsee_open) := ⟨rfl, rfl, rfl, by decide +kernel, rfl, by decide +kernel, by decide +kernel⟩
abbrev N_dpossible_ends : List Str := ["self", "reader", "number", "ring"]
abbrev P_dpossible_ends : List Str := ["self", "reader", "number"]
theorem sc_dpossible_ends : FnScope N_dpossible_ends P_dpossible_ends (defScope s_dpossible_ends) := ⟨rfl, rfl, rfl, by decide +kernel, rfl, by decide +kernel, by decide +kernel⟩
abbrev N_dtelling_number : List Str := ["self", "reader", "limit", "number"]
abbrev P_dtelling_number : List Str := ["self", "reader", "limit"]
theorem sc_dtelling_number : FnScope N_dtelling_number P_dtelling_number (defScope s_dtelling_number) := ⟨rfl, rfl, rfl, by decide +kernel, rfl, by decide +kernel, by decide +kernel⟩
abbrev N_dcheck_reading : List Str := ["self", "reader", "number"]
abbrev P_dcheck_reading : List Str := ["self", "reader", "number"]
theorem sc_dcheck_reading : FnScope N_dcheck_reading P_dcheck_reading (defScope s_dcheck_reading) := ⟨rfl, rfl, rfl, by decide +kernel, rfl, by decide +kernel, by decide +kernel⟩
abbrev N_daccept : List Str := ["self", "observation", "rings"]
abbrev P_daccept : List Str := ["self", "observation", "rings"]
theorem sc_daccept : FnScope N_daccept P_daccept (defScope s_daccept) := ⟨rfl, rfl, rfl, by decide +kernel, rfl, by decide +kernel, by decide +kernel⟩
abbrev N_ltaken : List Str := ["_law_row", "_law_many", "_law_found", "_law_cell"]
abbrev P_ltaken : List Str := ["_law_row", "_law_many"]
theorem sc_ltaken : FnScope N_ltaken P_ltaken (defScope s_ltaken) := ⟨rfl, rfl, rfl, by decide +kernel, rfl, by decide +kernel, by decide +kernel⟩
abbrev N_lalike : List Str := ["_law_one", "_law_due", "_law_k"]
abbrev P_lalike : List Str := ["_law_one", "_law_due"]
theorem sc_lalike : FnScope N_lalike P_lalike (defScope s_lalike) := ⟨rfl, rfl, rfl, by decide +kernel, rfl, by decide +kernel, by decide +kernel⟩
abbrev N_lraised : List Str := ["_law_work", "e", "_law_kinds", "_law_at"]
abbrev P_lraised : List Str := ["_law_work"]
theorem sc_lraised : FnScope N_lraised P_lraised (defScope s_lraised) := ⟨rfl, rfl, rfl, by decide +kernel, rfl, by decide +kernel, by decide +kernel⟩
abbrev N_lpair : List Str := ["_law_row", "_law_most", "_law_size", "_law_days", "_law_heaps", "_law_k"]
abbrev P_lpair : List Str := ["_law_row", "_law_most"]
theorem sc_lpair : FnScope N_lpair P_lpair (defScope s_lpair) := ⟨rfl, rfl, rfl, by decide +kernel, rfl, by decide +kernel, by decide +kernel⟩
abbrev N_lbegun : List Str := ["_law_model", "_law_day", "_law_stacks", "_law_ends_here", "_law_days", "_law_number", "_law_later", "_law_k"]
abbrev P_lbegun : List Str := ["_law_model"]
theorem sc_lbegun : FnScope N_lbegun P_lbegun (defScope s_lbegun) := ⟨rfl, rfl, rfl, by decide +kernel, rfl, by decide +kernel, by decide +kernel⟩
abbrev N_lfirst : List Str := ["_law_days", "_law_heaps", "_law_stacks", "_law_number", "_law_heap"]
abbrev P_lfirst : List Str := ["_law_days", "_law_heaps"]
theorem sc_lfirst : FnScope N_lfirst P_lfirst (defScope s_lfirst) := ⟨rfl, rfl, rfl, by decide +kernel, rfl, by decide +kernel, by decide +kernel⟩
abbrev N_lnext : List Str := ["_law_model", "_law_day", "_law_stacks", "_law_ends_here", "_law_days", "_law_number", "_law_ended", "_law_when", "_law_k", "_law_book", "_law_stack"]
abbrev P_lnext : List Str := ["_law_model"]
theorem sc_lnext : FnScope N_lnext P_lnext (defScope s_lnext) := ⟨rfl, rfl, rfl, by decide +kernel, rfl, by decide +kernel, by decide +kernel⟩
abbrev N_lends : List Str := ["_law_days", "_law_heaps", "_law_model", "_law_ends_here", "_law_ended", "_law_day", "_law_reader", "_law_book", "_law_row"]
abbrev P_lends : List Str := ["_law_days", "_law_heaps"]
theorem sc_lends : FnScope N_lends P_lends (defScope s_lends) := ⟨rfl, rfl, rfl, by decide +kernel, rfl, by decide +kernel, by decide +kernel⟩
abbrev N_lare_rejected : List Str := ["_law_observer", "_law_size", "_law_bad", "_law_works", "_law_work"]
abbrev P_lare_rejected : List Str := ["_law_observer", "_law_size"]
theorem sc_lare_rejected : FnScope N_lare_rejected P_lare_rejected (defScope s_lare_rejected) := ⟨rfl, rfl, rfl, by decide +kernel, rfl, by decide +kernel, by decide +kernel⟩
abbrev N_lis_told : List Str := ["_law_observer", "_law_tables", "_law_kept", "_law_reader", "_law_number", "_law_ends_here", "_law_telling", "_law_k", "_law_n"]
abbrev P_lis_told : List Str := ["_law_observer", "_law_tables", "_law_kept", "_law_reader", "_law_number"]
theorem sc_lis_told : FnScope N_lis_told P_lis_told (defScope s_lis_told) := ⟨rfl, rfl, rfl, by decide +kernel, rfl, by decide +kernel, by decide +kernel⟩
abbrev N_law : List Str := ["_law_script", "_law_row", "_law_days", "_law_heaps", "_law_hidden", "_law_tables", "_law_k", "_law_observer", "_law_kept", "_law_seen", "_law_turn", "_law_reader", "_law_number", "_law_day", "_law_note", "_law_left", "_law_results", "_law_works", "_law_work", "_law_other"]
abbrev P_law : List Str := ["_law_script"]
theorem sc_law : FnScope N_law P_law (defScope s_law) := ⟨rfl, rfl, rfl, by decide +kernel, rfl, by decide +kernel, by decide +kernel⟩
/-- what the top has written: the defs where they stand, the class, constants, built-ins that are still so -/
structure Tx (K : PySem.W.Frag) (mg : Str → Option Value) where
  C : Addr
  a_is_number : Addr
  d_is_number : FuncData
  F_is_number : Fun K "is_number" "is_number" s_is_number a_is_number d_is_number
  b_is_number : Binds K d_is_number P_is_number []
  g_is_number : mg "is_number" = some (.ref a_is_number)
  a_lies_between : Addr
  d_lies_between : FuncData
  F_lies_between : Fun K "lies_between" "lies_between" s_lies_between a_lies_between d_lies_between
  b_lies_between : Binds K d_lies_between P_lies_between []
  g_lies_between : mg "lies_between" = some (.ref a_lies_between)
  a_check_number : Addr
  d_check_number : FuncData
  F_check_number : Fun K "check_number" "check_number" s_check_number a_check_number d_check_number
  b_check_number : Binds K d_check_number P_check_number []
  g_check_number : mg "check_number" = some (.ref a_check_number)
  a_check_reader : Addr
  d_check_reader : FuncData
  F_check_reader : Fun K "check_reader" "check_reader" s_check_reader a_check_reader d_check_reader
  b_check_reader : Binds K d_check_reader P_check_reader []
  g_check_reader : mg "check_reader" = some (.ref a_check_reader)
  a_rinit : Addr
  d_rinit : FuncData
  F_rinit : Fun K "__init__" "Ring.__init__" s_rinit a_rinit d_rinit
  b_rinit : Binds K d_rinit P_rinit []
  a_rdays : Addr
  d_rdays : FuncData
  F_rdays : Fun K "days" "Ring.days" s_rdays a_rdays d_rdays
  b_rdays : Binds K d_rdays P_rdays []
  a_rstarts : Addr
  d_rstarts : FuncData
  F_rstarts : Fun K "starts" "Ring.starts" s_rstarts a_rstarts d_rstarts
  b_rstarts : Binds K d_rstarts P_rstarts []
  a_rbooks : Addr
  d_rbooks : FuncData
  F_rbooks : Fun K "books" "Ring.books" s_rbooks a_rbooks d_rbooks
  b_rbooks : Binds K d_rbooks P_rbooks []
  a_rpace : Addr
  d_rpace : FuncData
  F_rpace : Fun K "pace" "Ring.pace" s_rpace a_rpace d_rpace
  b_rpace : Binds K d_rpace P_rpace []
  a_rwith_days : Addr
  d_rwith_days : FuncData
  F_rwith_days : Fun K "with_days" "Ring.with_days" s_rwith_days a_rwith_days d_rwith_days
  b_rwith_days : Binds K d_rwith_days P_rwith_days []
  a_rlen : Addr
  d_rlen : FuncData
  F_rlen : Fun K "__len__" "Ring.__len__" s_rlen a_rlen d_rlen
  b_rlen : Binds K d_rlen P_rlen []
  a_rcall : Addr
  d_rcall : FuncData
  F_rcall : Fun K "__call__" "Ring.__call__" s_rcall a_rcall d_rcall
  b_rcall : Binds K d_rcall P_rcall []
  a_check_part : Addr
  d_check_part : FuncData
  F_check_part : Fun K "check_part" "check_part" s_check_part a_check_part d_check_part
  b_check_part : Binds K d_check_part P_check_part []
  g_check_part : mg "check_part" = some (.ref a_check_part)
  a_end_day : Addr
  d_end_day : FuncData
  F_end_day : Fun K "end_day" "end_day" s_end_day a_end_day d_end_day
  b_end_day : Binds K d_end_day P_end_day []
  g_end_day : mg "end_day" = some (.ref a_end_day)
  a_is_same_number : Addr
  d_is_same_number : FuncData
  F_is_same_number : Fun K "is_same_number" "is_same_number" s_is_same_number a_is_same_number d_is_same_number
  b_is_same_number : Binds K d_is_same_number P_is_same_number []
  g_is_same_number : mg "is_same_number" = some (.ref a_is_same_number)
  a_dinit : Addr
  d_dinit : FuncData
  F_dinit : Fun K "__init__" "DaysObserver.__init__" s_dinit a_dinit d_dinit
  b_dinit : Binds K d_dinit P_dinit []
  a_dfrom_log : Addr
  d_dfrom_log : FuncData
  F_dfrom_log : Fun K "from_log" "DaysObserver.from_log" s_dfrom_log a_dfrom_log d_dfrom_log
  b_dfrom_log : Binds K d_dfrom_log P_dfrom_log []
  a_dpossible_days : Addr
  d_dpossible_days : FuncData
  F_dpossible_days : Fun K "possible_days" "DaysObserver.possible_days" s_dpossible_days a_dpossible_days d_dpossible_days
  b_dpossible_days : Binds K d_dpossible_days P_dpossible_days []
  a_dobservations : Addr
  d_dobservations : FuncData
  F_dobservations : Fun K "observations" "DaysObserver.observations" s_dobservations a_dobservations d_dobservations
  b_dobservations : Binds K d_dobservations P_dobservations []
  a_dsee_end : Addr
  d_dsee_end : FuncData
  F_dsee_end : Fun K "see_end" "DaysObserver.see_end" s_dsee_end a_dsee_end d_dsee_end
  b_dsee_end : Binds K d_dsee_end P_dsee_end []
  a_dsee_open : Addr
  d_dsee_open : FuncData
  F_dsee_open : Fun K "see_open" "DaysObserver.see_open" s_dsee_open a_dsee_open d_dsee_open
  b_dsee_open : Binds K d_dsee_open P_dsee_open []
  a_dpossible_ends : Addr
  d_dpossible_ends : FuncData
  F_dpossible_ends : Fun K "possible_ends" "DaysObserver.possible_ends" s_dpossible_ends a_dpossible_ends d_dpossible_ends
  b_dpossible_ends : Binds K d_dpossible_ends P_dpossible_ends []
  a_dtelling_number : Addr
  d_dtelling_number : FuncData
  F_dtelling_number : Fun K "telling_number" "DaysObserver.telling_number" s_dtelling_number a_dtelling_number d_dtelling_number
  b_dtelling_number : Binds K d_dtelling_number P_dtelling_number []
  a_dcheck_reading : Addr
  d_dcheck_reading : FuncData
  F_dcheck_reading : Fun K "_check_reading" "DaysObserver._check_reading" s_dcheck_reading a_dcheck_reading d_dcheck_reading
  b_dcheck_reading : Binds K d_dcheck_reading P_dcheck_reading []
  a_daccept : Addr
  d_daccept : FuncData
  F_daccept : Fun K "_accept" "DaysObserver._accept" s_daccept a_daccept d_daccept
  b_daccept : Binds K d_daccept P_daccept []
  a_ltaken : Addr
  d_ltaken : FuncData
  F_ltaken : Fun K "_law_taken" "_law_taken" s_ltaken a_ltaken d_ltaken
  b_ltaken : Binds K d_ltaken P_ltaken []
  g_ltaken : mg "_law_taken" = some (.ref a_ltaken)
  a_lalike : Addr
  d_lalike : FuncData
  F_lalike : Fun K "_law_alike" "_law_alike" s_lalike a_lalike d_lalike
  b_lalike : Binds K d_lalike P_lalike []
  g_lalike : mg "_law_alike" = some (.ref a_lalike)
  a_lraised : Addr
  d_lraised : FuncData
  F_lraised : Fun K "_law_raised" "_law_raised" s_lraised a_lraised d_lraised
  b_lraised : Binds K d_lraised P_lraised []
  g_lraised : mg "_law_raised" = some (.ref a_lraised)
  a_lpair : Addr
  d_lpair : FuncData
  F_lpair : Fun K "_law_pair" "_law_pair" s_lpair a_lpair d_lpair
  b_lpair : Binds K d_lpair P_lpair []
  g_lpair : mg "_law_pair" = some (.ref a_lpair)
  a_lbegun : Addr
  d_lbegun : FuncData
  F_lbegun : Fun K "_law_begun" "_law_begun" s_lbegun a_lbegun d_lbegun
  b_lbegun : Binds K d_lbegun P_lbegun []
  g_lbegun : mg "_law_begun" = some (.ref a_lbegun)
  a_lfirst : Addr
  d_lfirst : FuncData
  F_lfirst : Fun K "_law_first" "_law_first" s_lfirst a_lfirst d_lfirst
  b_lfirst : Binds K d_lfirst P_lfirst []
  g_lfirst : mg "_law_first" = some (.ref a_lfirst)
  a_lnext : Addr
  d_lnext : FuncData
  F_lnext : Fun K "_law_next" "_law_next" s_lnext a_lnext d_lnext
  b_lnext : Binds K d_lnext P_lnext []
  g_lnext : mg "_law_next" = some (.ref a_lnext)
  a_lends : Addr
  d_lends : FuncData
  F_lends : Fun K "_law_ends" "_law_ends" s_lends a_lends d_lends
  b_lends : Binds K d_lends P_lends []
  g_lends : mg "_law_ends" = some (.ref a_lends)
  a_lare_rejected : Addr
  d_lare_rejected : FuncData
  F_lare_rejected : Fun K "_law_are_rejected" "_law_are_rejected" s_lare_rejected a_lare_rejected d_lare_rejected
  b_lare_rejected : Binds K d_lare_rejected P_lare_rejected []
  g_lare_rejected : mg "_law_are_rejected" = some (.ref a_lare_rejected)
  a_lis_told : Addr
  d_lis_told : FuncData
  F_lis_told : Fun K "_law_is_told" "_law_is_told" s_lis_told a_lis_told d_lis_told
  b_lis_told : Binds K d_lis_told P_lis_told []
  g_lis_told : mg "_law_is_told" = some (.ref a_lis_told)
  a_law : Addr
  d_law : FuncData
  F_law : Fun K "law" "law" s_law a_law d_law
  b_law : Binds K d_law P_law []
  g_law : mg "law" = some (.ref a_law)
  cl : Cls K C
  nD : NoAttr K C "_days"
  nS : NoAttr K C "_starts"
  mkR : Mk K C a_rinit
  gC : mg "Ring" = some (.ref C)
  dC : Addr
  clD : Cls K dC
  nRd : NoAttr K dC "_reader"
  nRg : NoAttr K dC "_rings"
  nOb : NoAttr K dC "_observations"
  mkD : Mk K dC a_dinit
  gD : mg "DaysObserver" = some (.ref dC)
  crdD : ClX.CRead K dC (.type "type")
  p_dfrom_log : Addr
  cmF : ClX.CMet K dC (.type "type") "from_log" p_dfrom_log a_dfrom_log
  bEnd : BMeth K dC "see_end" a_dsee_end
  bOpen : BMeth K dC "see_open" a_dsee_open
  mChk : Meth K dC "_check_reading" a_dcheck_reading
  mAcc : Meth K dC "_accept" a_daccept
  mPe : Meth K dC "possible_ends" a_dpossible_ends
  mTn : Meth K dC "telling_number" a_dtelling_number
  p_rdays : Addr
  q_rdays : PropOf K C "days" p_rdays a_rdays
  p_rstarts : Addr
  q_rstarts : PropOf K C "starts" p_rstarts a_rstarts
  p_rbooks : Addr
  q_rbooks : PropOf K C "books" p_rbooks a_rbooks
  p_rpace : Addr
  q_rpace : PropOf K C "pace" p_rpace a_rpace
  p_dpossible_days : Addr
  q_dpossible_days : PropOf K dC "possible_days" p_dpossible_days a_dpossible_days
  p_dobservations : Addr
  q_dobservations : PropOf K dC "observations" p_dobservations a_dobservations
  lenC : PySem.W.findIn K (.ref C) "__len__" = some (some (.ref a_rlen))
  lenF : PySem.W.isFn K (.ref a_rlen) = true
  callC : StX.CallO K C a_rcall
  mW : Meth K C "with_days" a_rwith_days
  c_LATEST : ∃ t, mg "LATEST" = some (.int 1000000000000000000 t)
  c_MOST_LIMIT : ∃ t, mg "MOST_LIMIT" = some (.int 500 t)
  c_FEWEST_READERS : ∃ t, mg "FEWEST_READERS" = some (.int 2 t)
  c_MOST_READERS : ∃ t, mg "MOST_READERS" = some (.int 8 t)
  c_MOST_DAYS : ∃ t, mg "MOST_DAYS" = some (.int 30 t)
  c_MOST_BOOKS : ∃ t, mg "MOST_BOOKS" = some (.int 12 t)
  z_len : mg "len" = none
  z_sum : mg "sum" = none
  z_max : mg "max" = none
  z_min : mg "min" = none
  z_range : mg "range" = none
  z_int : mg "int" = none
  z_bool : mg "bool" = none
  z_isinstance : mg "isinstance" = none
  z_tuple : mg "tuple" = none
  z_enumerate : mg "enumerate" = none
  z_list : mg "list" = none
  z_str : mg "str" = none
  z_sorted : mg "sorted" = none
  z_set : mg "set" = none
end Rp
namespace Rp
open PySem PySem.Spec PyProof.Rows L2 Rz Rm
/-! ### a ring as it stands -/
theorem ds_ne : ¬ (("_days" : Str) = "_starts") := by decide +kernel
def flds (td ts : Addr) : List (Str × V) := putF "_starts" (.ref ts) (putF "_days" (.ref td) [])
theorem flds_days (td ts : Addr) : (flds td ts).lookup ("_days" : Str) = some (.ref td) := by
  unfold flds
  rw [lookup_putF, if_neg ds_ne, lookup_putF, if_pos rfl]
theorem flds_starts (td ts : Addr) : (flds td ts).lookup ("_starts" : Str) = some (.ref ts) := by
  unfold flds
  rw [lookup_putF, if_pos rfl]
/-- days and books at first that make a ring -/
structure Good (ds ss : List Int) : Prop where
  l2 : 2 ≤ ds.length
  l8 : ds.length ≤ 8
  ls : ss.length = ds.length
  d1 : ∀ y ∈ ds, 1 ≤ y ∧ y ≤ 30
  s0 : ∀ y ∈ ss, 0 ≤ y ∧ y ≤ 12
  b1 : 1 ≤ ss.sum
  b12 : ss.sum ≤ 12
structure RingAt (C : Addr) (H : Hp) (p dx td ts : Addr) (ds ss : List Int) : Prop where
  ob : H p = some (.ins C dx (flds td ts))
  td : H td = some (.tup (ds.map V.int))
  ts : H ts = some (.tup (ss.map V.int))
  ok : Good ds ss
theorem RingAt.same {C : Addr} {H H' : Hp} {p dx td ts : Addr} {ds ss : List Int} (R : RingAt C H p dx td ts ds ss) (s : Same H H') : RingAt C H' p dx td ts ds ss :=
  ⟨s _ _ R.ob, s _ _ R.td, s _ _ R.ts, R.ok⟩
theorem sq_same {K : PySem.W.Frag} {H H' : Hp} {a : Addr} {xs : List V} (e : Same H H') (h : H a = some (.tup xs)) : SqT K H' a xs := .of (e _ _ h)
theorem same_upd {H : Hp} {p : Addr} {o : HO} (h : H p = none) : Same H (upd H p o) := fun b x e => by
  rw [upd_ne (ne_of_none e h)]
  exact e
section
variable {P : Program} {w : World} {K : PySem.W.Frag} {mg : Str → Option Value} {base : Heap}
/-! ### checks -/
/-- a number is one -/
def spIsNum : Sp := fun vs H Q _ => ∃ i : Int, vs = [.int i] ∧ Q (.bl true) H
theorem ok_is_number (T : Tx K mg) : FnOk P w K mg base CX0 1 T.a_is_number T.d_is_number P_is_number spIsNum := by
  refine T.F_is_number.ok sc_is_number (fun vs H Q E h => ?_) (fun cdv A outer s H vs Q E hr h => ?_)
  · obtain ⟨i, rfl, _⟩ := h
    rfl
  · obtain ⟨i, rfl, q⟩ := h
    refine ⟨_, pss_one (ps_ret (pe_and (pe_callB call_isi (by rfl) T.z_isinstance (by decide +kernel) (pa_cons (pv 0) (pa_cons (pe_bltn (v := .ty "int") (u := .type "int") (by rfl) T.z_int (by decide +kernel) rfl) pa_nil)))
      (pe_one (pe_not (pe_callB call_isi (by rfl) T.z_isinstance (by decide +kernel) (pa_cons (pv 0) (pa_cons (pe_bltn (v := .ty "bool") (u := .type "bool") (by rfl) T.z_bool (by decide +kernel) rfl) pa_nil))))))), ?_⟩
    refine ⟨.int i, rfl, .int i, .ty "int", .type "int", .type "int", true, rfl, .ty _, .base (.int i), kit_ty (by decide +kernel), true, rfl, iteT ?_⟩
    exact ⟨.int i, rfl, .int i, .ty "bool", .type "int", .type "bool", false, rfl, .ty _, .base (.int i), kit_ty (by decide +kernel), false, rfl, q⟩
def spLies : Sp := fun vs H Q _ => ∃ v lo hi : Int, vs = [.int v, .int lo, .int hi] ∧ Q (.bl (decide (lo ≤ v) && decide (v ≤ hi))) H
theorem ok_lies (T : Tx K mg) : FnOk P w K mg base CX0 2 T.a_lies_between T.d_lies_between P_lies_between spLies := by
  refine T.F_lies_between.ok sc_lies_between (fun vs H Q E h => ?_) (fun cdv A outer s H vs Q E hr h => ?_)
  · obtain ⟨v, lo, hi, rfl, _⟩ := h
    rfl
  · obtain ⟨v, lo, hi, rfl, q⟩ := h
    refine ⟨_, pss_one (ps_ret (pe_and (pe_call (ok_is_number T) hr (by rfl) T.g_is_number T.F_is_number.kp T.b_is_number .nil pass0 (pa_cons (pv 0) pa_nil)) (pe_one (pe_chain op_le op_le (pv 1) (pv 0) (pv 2))))), ?_⟩
    refine ⟨.int v, rfl, v, rfl, true, rfl, iteT ?_⟩
    refine ⟨.int lo, rfl, .int v, rfl, lo, v, rfl, rfl, decide (lo ≤ v), rfl, ?_⟩
    by_cases h : lo ≤ v
    · rw [decide_eq_true h] at q ⊢
      exact iteT ⟨.int hi, rfl, v, hi, rfl, rfl, q⟩
    · rw [decide_eq_false h] at q ⊢
      exact iteF q
theorem in_lim {v lo hi : Int} (h1 : lo ≤ v) (h2 : v ≤ hi) : (decide (lo ≤ v) && decide (v ≤ hi)) = true := by
  rw [decide_eq_true h1, decide_eq_true h2] <;> rfl
def spChk : Sp := fun vs H Q _ => ∃ v lo hi : Int, vs = [.int v, .int lo, .int hi] ∧ lo ≤ v ∧ v ≤ hi ∧ Q .non H
theorem ok_chk (T : Tx K mg) : FnOk P w K mg base CX0 3 T.a_check_number T.d_check_number P_check_number spChk := by
  refine T.F_check_number.ok sc_check_number (fun vs H Q E h => ?_) (fun cdv A outer s H vs Q E hr h => ?_)
  · obtain ⟨v, lo, hi, rfl, _⟩ := h
    rfl
  · obtain ⟨v, lo, hi, rfl, h1, h2, q⟩ := h
    refine ⟨_, pss_one (ps_if (pt_not (pt_val (pe_call (ok_lies T) hr (by rfl) T.g_lies_between T.F_lies_between.kp T.b_lies_between .nil pass0 (pa_cons (pv 0) (pa_cons (pv 1) (pa_cons (pv 2) pa_nil)))))) (pss_one ps_never) pss_nil), ?_⟩
    refine ⟨.int v, rfl, .int lo, rfl, .int hi, rfl, v, lo, hi, rfl, _, rfl, ?_⟩
    rw [in_lim h1 h2]
    exact iteF q
/-! ### the ring's own -/
def spLen (C : Addr) : Sp := fun vs H Q _ => ∃ p dx td ts ds ss, vs = [.ref p] ∧ RingAt C H p dx td ts ds ss ∧ Q (.int ds.length) H
theorem ok_len (T : Tx K mg) : FnOk P w K mg base CX0 1 T.a_rlen T.d_rlen P_rlen (spLen T.C) := by
  refine T.F_rlen.ok sc_rlen (fun vs H Q E h => ?_) (fun cdv A outer s H vs Q E hr h => ?_)
  · obtain ⟨p, dx, td, ts, ds, ss, rfl, _⟩ := h
    rfl
  · obtain ⟨p, dx, td, ts, ds, ss, rfl, R, q⟩ := h
    refine ⟨_, pss_one (ps_ret (pe_callB call_len_seq (by rfl) T.z_len PySem.boot_len (pa_cons (pe_fld (pv 0) rfl) pa_nil))), ?_⟩
    refine ⟨_, rfl, p, _, dx, _, _, rfl, R.ob, T.cl, T.nD, flds_days _ _, td, _, rfl, .inr (.of R.td), ?_⟩
    rw [List.length_map]
    exact q
def spDays (C : Addr) : Sp := fun vs H Q _ => ∃ p dx td ts ds ss, vs = [.ref p] ∧ RingAt C H p dx td ts ds ss ∧ Q (.ref td) H
def spStarts (C : Addr) : Sp := fun vs H Q _ => ∃ p dx td ts ds ss, vs = [.ref p] ∧ RingAt C H p dx td ts ds ss ∧ Q (.ref ts) H
def spBooks (C : Addr) : Sp := fun vs H Q _ => ∃ p dx td ts ds ss, vs = [.ref p] ∧ RingAt C H p dx td ts ds ss ∧ Q (.int ss.sum) H
theorem ok_days (T : Tx K mg) : FnOk P w K mg base CX0 1 T.a_rdays T.d_rdays P_rdays (spDays T.C) := by
  refine T.F_rdays.ok sc_rdays (fun vs H Q E h => ?_) (fun cdv A outer s H vs Q E hr h => ?_)
  · obtain ⟨p, dx, td, ts, ds, ss, rfl, _⟩ := h
    rfl
  · obtain ⟨p, dx, td, ts, ds, ss, rfl, R, q⟩ := h
    refine ⟨_, pss_one (ps_ret (pe_fld (pv 0) rfl)), ?_⟩
    exact ⟨_, rfl, p, _, dx, _, _, rfl, R.ob, T.cl, T.nD, flds_days _ _, q⟩
theorem ok_starts (T : Tx K mg) : FnOk P w K mg base CX0 1 T.a_rstarts T.d_rstarts P_rstarts (spStarts T.C) := by
  refine T.F_rstarts.ok sc_rstarts (fun vs H Q E h => ?_) (fun cdv A outer s H vs Q E hr h => ?_)
  · obtain ⟨p, dx, td, ts, ds, ss, rfl, _⟩ := h
    rfl
  · obtain ⟨p, dx, td, ts, ds, ss, rfl, R, q⟩ := h
    refine ⟨_, pss_one (ps_ret (pe_fld (pv 0) rfl)), ?_⟩
    exact ⟨_, rfl, p, _, dx, _, _, rfl, R.ob, T.cl, T.nS, flds_starts _ _, q⟩
theorem ok_books (T : Tx K mg) : FnOk P w K mg base CX0 1 T.a_rbooks T.d_rbooks P_rbooks (spBooks T.C) := by
  refine T.F_rbooks.ok sc_rbooks (fun vs H Q E h => ?_) (fun cdv A outer s H vs Q E hr h => ?_)
  · obtain ⟨p, dx, td, ts, ds, ss, rfl, _⟩ := h
    rfl
  · obtain ⟨p, dx, td, ts, ds, ss, rfl, R, q⟩ := h
    refine ⟨_, pss_one (ps_ret (pe_callB (cr_sumT rfl) (by rfl) T.z_sum (by decide +kernel) (pa_cons (pe_fld (pv 0) rfl) pa_nil))), ?_⟩
    exact ⟨_, rfl, p, _, dx, _, _, rfl, R.ob, T.cl, T.nS, flds_starts _ _, ts, ss, rfl, .of R.ts, q⟩
/-! ### check_reader -/
def spReader (C : Addr) : Sp := fun vs H Q _ => ∃ p dx td ts ds ss, ∃ r : Int, vs = [.ref p, .int r] ∧ RingAt C H p dx td ts ds ss ∧ 0 ≤ r ∧ r < ds.length ∧ Q .non H
theorem ok_reader (T : Tx K mg) : FnOk P w K mg base CX0 3 T.a_check_reader T.d_check_reader P_check_reader (spReader T.C) := by
  refine T.F_check_reader.ok sc_check_reader (fun vs H Q E h => ?_) (fun cdv A outer s H vs Q E hr h => ?_)
  · obtain ⟨p, dx, td, ts, ds, ss, r, rfl, _⟩ := h
    rfl
  · obtain ⟨p, dx, td, ts, ds, ss, r, rfl, R, h1, h2, q⟩ := h
    refine ⟨_, pss_one (ps_if (pt_not (pt_val (pe_call (ok_lies T) hr (by rfl) T.g_lies_between T.F_lies_between.kp T.b_lies_between .nil pass0
      (pa_cons (pv 1) (pa_cons pe_int (pa_cons (pe_op op_sub (pe_callB (call_lenI T.lenC T.lenF ((ok_len T).raw T.b_rlen .nil) hr pass0) (by rfl) T.z_len PySem.boot_len (pa_cons (pv 0) pa_nil)) pe_int) pa_nil)))))) (pss_one ps_never) pss_nil), ?_⟩
    have hl := R.ok.l8
    refine ⟨.int r, rfl, .ref p, rfl, p, dx, _, rfl, R.ob, p, dx, td, ts, ds, ss, rfl, R, (ds.length : Int), rfl, by omega, by omega, _, _, rfl, rfl, ?_⟩
    refine ⟨r, 0, (ds.length : Int) - 1, rfl, _, rfl, ?_⟩
    rw [in_lim h1 (show r ≤ (ds.length : Int) - 1 by omega)]
    exact iteF q
end
end Rp
namespace Rp
open PySem PySem.Spec PyProof.Rows L2 Rz Rm
/-! ### the pace -/
/-- days that readers need -/
structure Dys (ds : List Int) : Prop where
  ne : 0 < ds.length
  d1 : ∀ y ∈ ds, 1 ≤ y
theorem Good.dys {ds ss : List Int} (G : Good ds ss) : Dys ds := ⟨by have := G.l2; omega, fun y h => (G.d1 y h).1⟩
def mx (ds : List Int) : Int := ds.foldr max 0
theorem mx_nn : ∀ ds : List Int, 0 ≤ mx ds
  | [] => Int.le_refl _
  | a :: r => by
    have := mx_nn r
    show 0 ≤ max a (mx r)
    omega
theorem le_mx : ∀ {ds : List Int} {y : Int}, y ∈ ds → y ≤ mx ds
  | a :: r, y, h => by
    show y ≤ max a (mx r)
    rcases List.mem_cons.mp h with e | e
    · omega
    · have := le_mx e
      omega
theorem mx_le : ∀ {ds : List Int} {M : Int}, 0 ≤ M → (∀ y ∈ ds, y ≤ M) → mx ds ≤ M
  | [], _, h, _ => h
  | a :: r, M, h, hu => by
    have h1 := hu a List.mem_cons_self
    have h2 := mx_le (ds := r) h fun y hy => hu y (List.mem_cons_of_mem _ hy)
    show max a (mx r) ≤ M
    omega
theorem mx_eq {ds : List Int} {M : Int} (D : Dys ds) (hM : M ∈ ds) (hMu : ∀ y ∈ ds, y ≤ M) : mx ds = M :=
  Int.le_antisymm (mx_le (by have := D.d1 M hM; omega) hMu) (le_mx hM)
theorem mx_mem : ∀ {ds : List Int}, ds ≠ [] → (∀ y ∈ ds, 0 ≤ y) → mx ds ∈ ds
  | [], h, _ => absurd rfl h
  | [a], _, h => by
    have h1 := h a (by simp)
    show max a 0 ∈ [a]
    rw [show max a 0 = a by omega]
    simp
  | a :: b :: r, _, h => by
    have ih := mx_mem (ds := b :: r) (by simp) fun y hy => h y (List.mem_cons_of_mem _ hy)
    show max a (mx (b :: r)) ∈ a :: b :: r
    by_cases c : a ≤ mx (b :: r)
    · rw [show max a (mx (b :: r)) = mx (b :: r) by omega]
      exact List.mem_cons_of_mem _ ih
    · rw [show max a (mx (b :: r)) = a by omega]
      exact List.mem_cons_self
theorem Dys.mem {ds : List Int} (D : Dys ds) : mx ds ∈ ds := mx_mem (fun e => by
  have := D.ne
  rw [e] at this
  exact absurd this (Nat.lt_irrefl _)) fun y h => by have := D.d1 y h; omega
def gq (ds : List Int) (b : Int) : Int := ((Nat.gcd ds.sum.natAbs b.natAbs : Nat) : Int)
/-- the pace's two numbers -/
def pX (ds : List Int) (b : Int) : Int := if ds.sum ≤ mx ds * b then mx ds else ds.sum / gq ds b
def pY (ds : List Int) (b : Int) : Int := if ds.sum ≤ mx ds * b then 1 else b / gq ds b
theorem gq_facts {ds : List Int} {b : Int} (h : 1 ≤ b) : 1 ≤ gq ds b ∧ gq ds b ≤ b ∧ gq ds b ∣ ds.sum ∧ gq ds b ∣ b := by
  have g0 : 0 < Nat.gcd ds.sum.natAbs b.natAbs := Nat.gcd_pos_of_pos_right _ (by omega)
  have gle : Nat.gcd ds.sum.natAbs b.natAbs ≤ b.natAbs := Nat.le_of_dvd (by omega) (Nat.gcd_dvd_right _ _)
  unfold gq
  exact ⟨by omega, by omega, Int.ofNat_dvd_left.mpr (Nat.gcd_dvd_left _ _), Int.ofNat_dvd_left.mpr (Nat.gcd_dvd_right _ _)⟩
section
variable {P : Program} {w : World} {K : PySem.W.Frag} {mg : Str → Option Value} {base : Heap}
/-! ### check_part -/
def spPart : Sp := fun vs H Q _ => ∃ (part : Str) (v l n : Addr) (ns : List Int) (lo hi f m : Int), vs = [.str part, .ref v, .ref l, .ref n] ∧ H v = some (.tup (ns.map V.int)) ∧ H l = some (.tup [.int lo, .int hi]) ∧ H n = some (.tup [.int f, .int m]) ∧
  (∀ y ∈ ns, lo ≤ y ∧ y ≤ hi) ∧ f ≤ ns.length ∧ (ns.length : Int) ≤ m ∧ ∀ H', Same H H' → Q .non H'
theorem get_int {ns : List Int} {i : Nat} {y : V} (h : (ns.map V.int)[i]? = some y) : ∃ z, ns[i]? = some z ∧ y = .int z := by
  rw [List.getElem?_map] at h
  cases e : ns[i]? with
  | none =>
    rw [e] at h
    cases h
  | some z =>
    rw [e] at h
    exact ⟨z, rfl, (Option.some.inj h).symm⟩
theorem ok_part (T : Tx K mg) : FnOk P w K mg base CX0 3 T.a_check_part T.d_check_part P_check_part spPart := by
  refine T.F_check_part.ok sc_check_part (fun vs H Q E h => ?_) (fun cdv A outer s H vs Q E hr h => ?_)
  · obtain ⟨part, v, l, n, ns, lo, hi, f, m, rfl, _⟩ := h
    rfl
  · obtain ⟨part, v, l, n, ns, lo, hi, f, m, rfl, hv, hl, hn, hall, hf, hm, q⟩ := h
    have nd := sc_check_part.nd
    refine ⟨_, pss_cons (ps_if (pt_not (pt_val (pe_callB call_isi (by rfl) T.z_isinstance (by decide +kernel) (pa_cons (pv 1) (pa_cons (pe_bltn (v := .ty "tuple") (u := .type "tuple") (by rfl) T.z_tuple (by decide +kernel) rfl) pa_nil))))) (pss_one ps_never) pss_nil)
      (pss_cons (ps_asg (pv 2) (pg_tup rfl (pgs_cons (pg_name (i := 4) nd rfl (.inl rfl)) (pgs_cons (pg_name (i := 5) nd rfl (.inl rfl)) pgs_nil))))
      (pss_cons (ps_asg (pv 3) (pg_tup rfl (pgs_cons (pg_name (i := 6) nd rfl (.inl rfl)) (pgs_cons (pg_name (i := 7) nd rfl (.inl rfl)) pgs_nil))))
      (pss_cons (ps_for PassesOwn.never rfl (pi_enumT (by rfl) T.z_enumerate (pa_cons (pv 1) pa_nil)) (pg_tup rfl (pgs_cons (pg_name (i := 8) nd rfl (.inl rfl)) (pgs_cons (pg_name (i := 9) nd rfl (.inl rfl)) pgs_nil)))
        (pss_one (ps_if (PW.pt (pw_or (pt_cmpR op_ge (pv 8) (pv 7) (nomark _)) (pw_or1 (pt_not (pt_val (pe_call (ok_lies T) hr (by rfl) T.g_lies_between T.F_lies_between.kp T.b_lies_between .nil pass0 (pa_cons (pv 9) (pa_cons (pv 4) (pa_cons (pv 5) pa_nil)))))))))
          (pss_one ps_never) pss_nil)))
      (pss_one (ps_if (pt_cmpR op_lt (pe_callB call_len_seq (by rfl) T.z_len PySem.boot_len (pa_cons (pv 1) pa_nil)) (pv 6) (nomark _)) (pss_one ps_never) pss_nil))))), ?_⟩
    -- isinstance(values, tuple)
    refine ⟨.ref v, rfl, .ref v, .ty "tuple", .type "tuple", .type "tuple", true, rfl, .ty _, .base (.tup hv), kit_ty (by decide +kernel), true, rfl, iteF ?_⟩
    -- low, high = limits; fewest, most = lengths
    refine ⟨.ref l, rfl, l, _, rfl, .of hl, rfl, _, _, rfl, _, _, rfl, rfl, ?_⟩
    refine ⟨.ref n, rfl, n, _, rfl, .of hn, rfl, _, _, rfl, _, _, rfl, rfl, ?_⟩
    -- for index, value in enumerate(values)
    refine ⟨.ref v, rfl, v, _, rfl, .of hv, for_it walk_enumT (fun i σ H' => ∃ y8 y9, σ = [some (.str part), some (.ref v), some (.ref l), some (.ref n), some (.int lo), some (.int hi), some (.int f), some (.int m), y8, y9] ∧ Same H H')
      ⟨none, none, rfl, Same.refl H⟩ (fun i σ H' _ ⟨_, _, _, sm⟩ => sq_same sm hv) ?_ ?_⟩
    · rintro i x σ H1 H2 hi1 ⟨y8, y9, rfl, sm⟩ ⟨t, a, b, rfl, nt, rfl, ha, hb⟩
      have ha' : a = .int (i : Nat) := (Option.some.inj ha).symm
      subst ha'
      obtain ⟨z, hz, rfl⟩ := get_int hb
      rw [List.length_map] at hi1
      have hz2 := hall z (List.mem_of_getElem? hz)
      refine ⟨t, _, rfl, .of upd_same, rfl, _, _, rfl, _, _, rfl, rfl, ?_⟩
      refine ⟨.int (i : Nat), rfl, .int m, rfl, _, _, rfl, rfl, _, rfl, ?_⟩
      rw [decide_eq_false (show ¬ m ≤ ((i : Nat) : Int) by omega)]
      refine iteF ?_
      refine ⟨.int z, rfl, .int lo, rfl, .int hi, rfl, z, lo, hi, rfl, _, rfl, ?_⟩
      rw [in_lim hz2.1 hz2.2]
      exact iteF ⟨_, _, rfl, sm.trans (same_upd nt)⟩
    · rintro σ H1 ⟨y8, y9, rfl, sm⟩
      refine ⟨.ref v, rfl, v, _, rfl, .inr (sq_same sm hv), .int f, rfl, _, _, rfl, rfl, _, rfl, ?_⟩
      rw [List.length_map, decide_eq_false (show ¬ (ns.length : Int) < f by omega)]
      exact iteF (q H1 sm)
/-! ### Ring.__init__ -/
def spInit (C : Addr) : Sp := fun vs H Q _ => ∃ (p dx td ts : Addr) (ds ss : List Int), vs = [.ref p, .ref td, .ref ts] ∧ H p = some (.ins C dx []) ∧ H td = some (.tup (ds.map V.int)) ∧ H ts = some (.tup (ss.map V.int)) ∧ Good ds ss ∧
  ∀ H', RingAt C H' p dx td ts ds ss → (∀ b o, H b = some o → b ≠ p → H' b = some o) → Q .non H'
theorem ok_init (T : Tx K mg) : FnOk P w K mg base CX0 4 T.a_rinit T.d_rinit P_rinit (spInit T.C) := by
  refine T.F_rinit.ok sc_rinit (fun vs H Q E h => ?_) (fun cdv A outer s H vs Q E hr h => ?_)
  · obtain ⟨p, dx, td, ts, ds, ss, rfl, _⟩ := h
    rfl
  · obtain ⟨p, dx, td, ts, ds, ss, rfl, hp, hd, hs, G, q⟩ := h
    obtain ⟨u1, c1⟩ := T.c_MOST_DAYS
    obtain ⟨u2, c2⟩ := T.c_FEWEST_READERS
    obtain ⟨u3, c3⟩ := T.c_MOST_READERS
    obtain ⟨u4, c4⟩ := T.c_MOST_BOOKS
    have l2 := G.l2
    have l8 := G.l8
    have ls := G.ls
    refine ⟨_, pss_cons (ps_expr (pe_call (ok_part T) hr (by rfl) T.g_check_part T.F_check_part.kp T.b_check_part .nil pass0 (pa_cons pe_str (pa_cons (pv 1) (pa_cons (pe_tup (pa_cons pe_int (pa_cons (pe_glob (v := .int 30) (by rfl) c1 ⟨_, rfl⟩) pa_nil))) (pa_cons (pe_tup (pa_cons (pe_glob (v := .int 2) (by rfl) c2 ⟨_, rfl⟩) (pa_cons (pe_glob (v := .int 8) (by rfl) c3 ⟨_, rfl⟩) pa_nil))) pa_nil))))))
      (pss_cons (ps_expr (pe_call (ok_part T) hr (by rfl) T.g_check_part T.F_check_part.kp T.b_check_part .nil pass0 (pa_cons pe_str (pa_cons (pv 2) (pa_cons (pe_tup (pa_cons pe_int (pa_cons (pe_glob (v := .int 12) (by rfl) c4 ⟨_, rfl⟩) pa_nil)))
        (pa_cons (pe_tup (pa_cons (pe_callB call_len_seq (by rfl) T.z_len PySem.boot_len (pa_cons (pv 1) pa_nil)) (pa_cons (pe_callB call_len_seq (by rfl) T.z_len PySem.boot_len (pa_cons (pv 1) pa_nil)) pa_nil))) pa_nil))))))
      (pss_cons (ps_if (pt_not (pt_chain op_le op_le pe_int (pe_callB (cr_sumT rfl) (by rfl) T.z_sum (by decide +kernel) (pa_cons (pv 2) pa_nil)) (pe_glob (v := .int 12) (by rfl) c4 ⟨_, rfl⟩))) (pss_one ps_never) pss_nil)
      (pss_cons (ps_fld (pv 0) (pe_callTy call_tupleT (by rfl) T.z_tuple (by decide +kernel) (pa_cons (pv 1) pa_nil)) rfl)
      (pss_one (ps_fld (pv 0) (pe_callTy call_tupleT (by rfl) T.z_tuple (by decide +kernel) (pa_cons (pv 2) pa_nil)) rfl))))), ?_⟩
    -- check_part("days", ..)
    refine ⟨.ref td, rfl, (by show 2 ≤ sizeLine; decide), fun a1 h1 => ⟨(by show 2 ≤ sizeLine; decide), fun a2 h2 => ?_⟩⟩
    have s1 := same_upd (o := .tup [.int 1, .int 30]) h1
    have s2 := same_upd (o := .tup [.int 2, .int 8]) h2
    refine ⟨_, td, a1, a2, ds, 1, 30, 2, 8, rfl, s2 _ _ (s1 _ _ hd), s2 _ _ upd_same, upd_same, G.d1, by omega, by omega, fun H1 s3 => ?_⟩
    have t1 : Same H H1 := (s1.trans s2).trans s3
    -- check_part("starts", ..)
    refine ⟨.ref ts, rfl, (by show 2 ≤ sizeLine; decide), fun a3 h3 => ?_⟩
    have s4 := same_upd (o := .tup [.int 0, .int 12]) h3
    refine ⟨.ref td, rfl, td, _, rfl, .inr (sq_same (t1.trans s4) hd), .ref td, rfl, td, _, rfl, .inr (sq_same (t1.trans s4) hd), (by show 2 ≤ sizeLine; decide), fun a4 h4 => ?_⟩
    have s5 := same_upd (o := .tup [.int ((ds.map V.int).length : Nat), .int ((ds.map V.int).length : Nat)]) h4
    refine ⟨_, ts, a3, a4, ss, 0, 12, ((ds.map V.int).length : Nat), ((ds.map V.int).length : Nat), rfl, s5 _ _ (s4 _ _ (t1 _ _ hs)), s5 _ _ upd_same, upd_same, G.s0, by rw [List.length_map]; omega, by rw [List.length_map]; omega, fun H2 s6 => ?_⟩
    have t2 : Same H H2 := ((t1.trans s4).trans s5).trans s6
    -- not 1 <= sum(starts) <= MOST_BOOKS
    refine ⟨.ref ts, rfl, ts, ss, rfl, sq_same t2 hs, _, _, rfl, rfl, _, rfl, ?_⟩
    rw [decide_eq_true G.b1]
    refine iteT ⟨_, _, rfl, rfl, _, rfl, ?_⟩
    rw [decide_eq_true G.b12]
    refine iteF ?_
    -- the two attributes
    refine ⟨.ref td, rfl, td, _, rfl, sq_same t2 hd, _, rfl, p, T.C, dx, [], rfl, t2 _ _ hp, T.cl, T.nD, (by show 0 < 1000; decide), ?_⟩
    have npt : ts ≠ p := ne_of hs hp (by intro z; cases z)
    have npd : td ≠ p := ne_of hd hp (by intro z; cases z)
    refine ⟨.ref ts, rfl, ts, ss.map V.int, rfl, .of (by rw [upd_ne npt]; exact t2 _ _ hs), _, rfl, p, T.C, dx, _, rfl, upd_same, T.cl, T.nS, (by show 1 < 1000; decide), ?_⟩
    refine q _ ⟨upd_same, by rw [upd_ne npd, upd_ne npd]; exact t2 _ _ hd, by rw [upd_ne npt, upd_ne npt]; exact t2 _ _ hs, G⟩ fun b o e hb => ?_
    rw [upd_ne hb, upd_ne hb]
    exact t2 _ _ e
end
end Rp
namespace Rp
open PySem PySem.Spec PyProof.Rows L2 Rz Rm
theorem at_ix {ds : List Int} {z : Int} (h1 : -(ds.length : Int) ≤ z) (h2 : z < ds.length) : atI (ds.map V.int) z = some (.int (at' ds z)) := by
  have hl : 0 < ds.length := by omega
  have h0 := Int.emod_nonneg z (show (ds.length : Int) ≠ 0 by omega)
  have hlt := Int.emod_lt_of_pos z (show (0 : Int) < ds.length by omega)
  have e : ixN (ds.map V.int).length z = some (z % (ds.length : Int)).toNat := by
    unfold ixN
    rw [List.length_map]
    by_cases h : 0 ≤ z
    · rw [if_pos h, if_pos h2, Int.emod_eq_of_lt h h2]
    · rw [if_neg h, if_pos h1]
      have e2 := Int.add_mul_emod_self_left z (ds.length : Int) 1
      rw [Int.mul_one, Int.emod_eq_of_lt (a := z + ds.length) (by omega) (by omega)] at e2
      rw [e2]
  unfold atI
  rw [e]
  show (ds.map V.int)[(z % (ds.length : Int)).toNat]? = _
  rw [List.getElem?_map]
  unfold at'
  rw [List.getD_eq_getElem?_getD, List.getElem?_eq_getElem (show (z % (ds.length : Int)).toNat < ds.length by omega)]
  rfl
theorem Good.ring {ds ss : List Int} (G : Good ds ss) {M : Int} (hM : M ∈ ds) (hMu : ∀ y ∈ ds, y ≤ M) : Rm.Ring ds.length (at' ds) (at' ss) ss.sum ds.sum M :=
  ring_of (by have := G.l2; omega) G.ls (fun y h => (G.d1 y h).1) (fun y h => (G.s0 y h).1) G.b1 hM hMu
theorem exists_max : ∀ {ds : List Int}, ds ≠ [] → ∃ M, M ∈ ds ∧ ∀ y ∈ ds, y ≤ M
  | [], h => absurd rfl h
  | [a], _ => ⟨a, by simp, by simp⟩
  | a :: b :: r, _ => by
    obtain ⟨M, h1, h2⟩ := exists_max (ds := b :: r) (by simp)
    by_cases h : a ≤ M
    · exact ⟨M, List.mem_cons_of_mem _ h1, fun y hy => by
        rcases List.mem_cons.mp hy with e | e
        · omega
        · exact h2 y e⟩
    · exact ⟨a, List.mem_cons_self, fun y hy => by
        rcases List.mem_cons.mp hy with e | e
        · omega
        · have := h2 y e; omega⟩
theorem Good.max {ds ss : List Int} (G : Good ds ss) : ∃ M, M ∈ ds ∧ ∀ y ∈ ds, y ≤ M := exists_max (by
  intro e
  have := G.l2
  rw [e] at this
  simp at this)
theorem sum_bounds : ∀ {ds : List Int}, (∀ y ∈ ds, 1 ≤ y ∧ y ≤ 30) → (ds.length : Int) ≤ ds.sum ∧ ds.sum ≤ 30 * ds.length
  | [], _ => by simp
  | a :: r, h => by
    have h1 := h a List.mem_cons_self
    have ih := sum_bounds (ds := r) fun y hy => h y (List.mem_cons_of_mem _ hy)
    rw [List.sum_cons, List.length_cons]
    omega
theorem max_if (i j : Int) : (if j > i then j else i) = max i j := by
  by_cases h : j > i
  · rw [if_pos h]
    omega
  · rw [if_neg h]
    omega
section
variable {P : Program} {w : World} {K : PySem.W.Frag} {mg : Str → Option Value} {base : Heap}
/-! ### end_day -/
def spEnd (C : Addr) : Sp := fun vs H Q _ => ∃ p dx td ts ds ss, ∃ r x : Int, vs = [.ref p, .int r, .int x] ∧ RingAt C H p dx td ts ds ss ∧ 0 ≤ r ∧ r < ds.length ∧ 0 ≤ x ∧ Q (.int (Rm.E (at' ds) (at' ss) r x)) H
/-- the loop's slots ahead of step i -/
def edS (p : Addr) (r x B M g L : Int) (ds ss : List Int) (i : Nat) (y10 y11 : Option V) : L2.St :=
  [some (.ref p), some (.int r), some (.int x), some (.int B), some (.int M), some (.int g), some (.int L), some (.int (sumBack (at' ds) r i)), some (.int (if i = 0 then 0 else maxBack (at' ds) r (i - 1))), some (.int (x - sumBack (at' ss) r i)), y10, y11]
theorem met_next {ds : List Int} (h1 : ∀ i, 1 ≤ at' ds i) (r : Int) (i : Nat) : (if at' ds (r - i) > (if i = 0 then 0 else maxBack (at' ds) r (i - 1)) then at' ds (r - i) else (if i = 0 then 0 else maxBack (at' ds) r (i - 1))) = maxBack (at' ds) r i := by
  rw [max_if]
  cases i with
  | zero =>
    have := h1 (r - (0 : Nat))
    show max 0 (at' ds (r - (0 : Nat))) = at' ds r
    rw [show r - ((0 : Nat) : Int) = r by omega] at this ⊢
    omega
  | succ i =>
    rw [if_neg (Nat.succ_ne_zero i)]
    show max (maxBack (at' ds) r i) (at' ds (r - (i + 1 : Nat))) = max (maxBack (at' ds) r i) (at' ds (r - (i + 1 : Nat)))
    rfl
theorem ok_end (T : Tx K mg) : FnOk P w K mg base CX0 3 T.a_end_day T.d_end_day P_end_day (spEnd T.C) := by
  refine T.F_end_day.ok sc_end_day (fun vs H Q E h => ?_) (fun cdv A outer s H vs Q E hr h => ?_)
  · obtain ⟨p, dx, td, ts, ds, ss, r, x, rfl, _⟩ := h
    rfl
  · obtain ⟨p, dx, td, ts, ds, ss, r, x, rfl, R, r0, r1, x0, q⟩ := h
    have nd := sc_end_day.nd
    have G := R.ok
    have l2 := G.l2
    have l8 := G.l8
    have ls := G.ls
    have rdD : ∀ {Q' : VK} {E' : XK}, Q' (.ref td) H → spDays T.C [.ref p] H Q' E' := fun z => ⟨p, dx, td, ts, ds, ss, rfl, R, z⟩
    have rdS : ∀ {Q' : VK} {E' : XK}, Q' (.ref ts) H → spStarts T.C [.ref p] H Q' E' := fun z => ⟨p, dx, td, ts, ds, ss, rfl, R, z⟩
    refine ⟨_, pss_cons (ps_set (i := 3) nd rfl (.inl rfl) (pe_prop (pv 0) T.cl T.q_rbooks (ok_books T) hr T.b_rbooks .nil pass0 rfl))
      (pss_cons (ps_set (i := 4) nd rfl (.inl rfl) (pe_callB (cr_maxT rfl) (by rfl) T.z_max (by decide +kernel) (pa_cons (pe_prop (pv 0) T.cl T.q_rdays (ok_days T) hr T.b_rdays .nil pass0 rfl) pa_nil)))
      (pss_cons (ps_set (i := 5) nd rfl (.inl rfl) (pe_op op_sub (pe_callB (cr_sumT rfl) (by rfl) T.z_sum (by decide +kernel) (pa_cons (pe_prop (pv 0) T.cl T.q_rdays (ok_days T) hr T.b_rdays .nil pass0 rfl) pa_nil)) (pe_op op_mul (pv 3) (pv 4))))
      (pss_cons (ps_asg3 pe_int (pg_name (i := 6) nd rfl (.inl rfl)) (pg_name (i := 7) nd rfl (.inl rfl)) (pg_name (i := 8) nd rfl (.inl rfl)))
      (pss_cons (ps_set (i := 9) nd rfl (.inl rfl) (pv 2))
      (pss_cons (ps_for PassesOwn.never rfl (pi_range1 (by rfl) T.z_range (pa_cons (pe_callB (call_lenI T.lenC T.lenF ((ok_len T).raw T.b_rlen .nil) hr pass0) (by rfl) T.z_len PySem.boot_len (pa_cons (pv 0) pa_nil)) pa_nil)) (pg_name (i := 10) nd rfl (.inl rfl))
        (pss_cons (ps_aug (i := 7) nd rfl (.inl rfl) (pe_ix ix_tup (pe_prop (pv 0) T.cl T.q_rdays (ok_days T) hr T.b_rdays .nil pass0 rfl) (pe_op op_sub (pv 1) (pv 10)) (fun _ _ => rfl)) ip_add)
        (pss_cons (ps_set (i := 8) nd rfl (.inl rfl) (pe_callB (call_max2 rfl) (by rfl) T.z_max (by decide +kernel) (pa_cons (pv 8) (pa_cons (pe_ix ix_tup (pe_prop (pv 0) T.cl T.q_rdays (ok_days T) hr T.b_rdays .nil pass0 rfl) (pe_op op_sub (pv 1) (pv 10)) (fun _ _ => rfl)) pa_nil))))
        (pss_cons (ps_set (i := 6) nd rfl (.inl rfl) (pe_callB (call_max2 rfl) (by rfl) T.z_max (by decide +kernel) (pa_cons (pv 6) (pa_cons (pe_op op_add (pv 7) (pe_op op_mul (pv 9) (pv 8))) pa_nil))))
        (pss_cons (ps_if (pt_cmpR op_ge (pv 9) (pv 3) (nomark _))
          (pss_cons (ps_set (i := 11) nd rfl (.inl rfl) (pe_ifExp (pt_cmpR op_gt (pv 5) pe_int (nomark _)) (pe_op op_fdiv (pv 9) (pv 3)) pe_int))
          (pss_one (ps_set (i := 6) nd rfl (.inl rfl) (pe_callB (call_max2 rfl) (by rfl) T.z_max (by decide +kernel) (pa_cons (pv 6) (pa_cons (pe_op op_add (pe_op op_add (pv 7) (pe_op op_mul (pv 9) (pv 4))) (pe_op op_mul (pv 11) (pv 5))) pa_nil)))))) pss_nil)
        (pss_cons (ps_aug (i := 9) nd rfl (.inl rfl) (pe_ix ix_tup (pe_prop (pv 0) T.cl T.q_rstarts (ok_starts T) hr T.b_rstarts .nil pass0 rfl) (pe_op op_sub (pv 1) (pv 10)) (fun _ _ => rfl)) ip_sub)
        (pss_one (ps_if (pt_cmpR op_lt (pv 9) pe_int (nomark _)) (pss_one ps_break) pss_nil))))))))
      (pss_one (ps_ret (pv 6)))))))), ?_⟩
    -- books, slowest, gain
    refine ⟨.ref p, rfl, p, dx, _, rfl, R.ob, p, dx, td, ts, ds, ss, rfl, R, ?_⟩
    refine ⟨.ref p, rfl, p, dx, _, rfl, R.ob, rdD ⟨td, ds, rfl, .of R.td, by omega, fun M hM hMu => ?_⟩⟩
    have RR := G.ring hM hMu
    have b1 := G.b1
    have b12 := G.b12
    have hM30 := G.d1 M hM
    have hT := sum_bounds G.d1
    have hBM : 0 ≤ ss.sum * M ∧ ss.sum * M ≤ 360 := by
      constructor
      · exact Int.mul_nonneg (by omega) (by omega)
      · have := Int.mul_le_mul_of_nonneg_right b12 (show 0 ≤ M by omega)
        omega
    refine ⟨.ref p, rfl, p, dx, _, rfl, R.ob, rdD ⟨td, ds, rfl, .of R.td, .int ss.sum, rfl, .int M, rfl, _, _, rfl, rfl, .inl ⟨by omega, by omega⟩, _, _, rfl, rfl, ?_⟩⟩
    -- latest = total = slowest_met = 0; left = number
    refine ⟨.int x, rfl, ?_⟩
    -- for step in range(len(ring))
    refine ⟨.ref p, rfl, p, dx, _, rfl, R.ob, p, dx, td, ts, ds, ss, rfl, R, (ds.length : Int), rfl, by omega, by omega, (ds.length : Int), rfl, by omega, by omega, for_range (lo := 0) (n := ((ds.length : Int) - 0).toNat)
      (fun i σ H' => H' = H ∧ ∃ L y10 y11, σ = edS p r x ss.sum M (ds.sum - ss.sum * M) L ds ss i y10 y11 ∧ sumBack (at' ss) r i ≤ x ∧ Sofar ds.length (at' ds) (at' ss) r x i L)
      ⟨rfl, 0, none, none, ?_, ?_, RR.sofar0 r x⟩ ?_ ?_⟩
    · show _ = ([some (.ref p), some (.int r), some (.int x), some (.int ss.sum), some (.int M), some (.int (ds.sum - ss.sum * M)), some (.int 0), some (.int 0), some (.int 0), some (.int (x - 0)), none, none] : L2.St)
      rw [show x - 0 = x by omega]
      rfl
    · show (0 : Int) ≤ x
      exact x0
    · rintro i σ H1 hi ⟨rfl, L, y10, y11, rfl, hle, SF⟩
      have hin : i < ds.length := by omega
      have e0 : (0 : Int) + (i : Int) = i := by omega
      have hix : atI (ds.map V.int) (r - (0 + (i : Int))) = some (.int (at' ds (r - i))) := by
        rw [e0]
        exact at_ix (by omega) (by omega)
      have hix2 : atI (ss.map V.int) (r - (0 + (i : Int))) = some (.int (at' ss (r - i))) := by
        rw [e0]
        exact at_ix (by omega) (by omega)
      -- total
      refine ⟨.int (sumBack (at' ds) r i), rfl, .ref p, rfl, p, dx, _, rfl, R.ob, rdD ⟨.int r, rfl, _, rfl, _, _, rfl, rfl, td, _, _, _, rfl, rfl, .of R.td, hix, _, _, rfl, rfl, ?_⟩⟩
      -- slowest_met
      refine ⟨_, rfl, .ref p, rfl, p, dx, _, rfl, R.ob, rdD ⟨.int r, rfl, _, rfl, _, _, rfl, rfl, td, _, _, _, rfl, rfl, .of R.td, hix, _, _, rfl, ?_⟩⟩
      rw [met_next RR.d1 r i]
      have hm1 : maxBack (at' ds) r i ≤ M := max_le RR.mu r i
      have hm0 : 1 ≤ maxBack (at' ds) r i := by
        have h1 := max_ge (f := at' ds) r (j := 0) (k := i) (Nat.zero_le _)
        have h2 := RR.d1 (r - (0 : Nat))
        omega
      -- latest
      refine ⟨.int L, rfl, .int (sumBack (at' ds) r (i + 1)), rfl, .int (x - sumBack (at' ss) r i), rfl, .int (maxBack (at' ds) r i), rfl, _, _, rfl, rfl, .inr ⟨by omega, by omega⟩, _, _, rfl, rfl, _, _, rfl, ?_⟩
      rw [max_if]
      have hch : sumBack (at' ds) r (i + 1) + (x - sumBack (at' ss) r i) * maxBack (at' ds) r i = ch (at' ds) (at' ss) r i x := rfl
      rw [hch]
      have hs : sumBack (at' ss) r (i + 1) = sumBack (at' ss) r i + at' ss (r - i) := rfl
      -- the end of a turn
      have fin : ∀ (L2 : Int) (y11' : Option V), Sofar ds.length (at' ds) (at' ss) r x (i + 1) L2 → tSeq (tAug 9 (tOp (rIxT K) (tProp T.C (spStarts T.C) [] E0 (tVar 0)) (tOp (rI0 fun i j => .int (i - j)) (tVar 1) (tVar 10))) (ipI fun i j => i - j)) (tIfS (tTest (tOp (rI0 fun i j => .bl (decide (i < j))) (tVar 9) (tC (.int 0)))) tBreak tNext)
          { nx := fun σ H' => H' = H1 ∧ ∃ L y10 y11, σ = edS p r x ss.sum M (ds.sum - ss.sum * M) L ds ss (i + 1) y10 y11 ∧ sumBack (at' ss) r (i + 1) ≤ x ∧ Sofar ds.length (at' ds) (at' ss) r x (i + 1) L,
            ct := fun σ H' => H' = H1 ∧ ∃ L y10 y11, σ = edS p r x ss.sum M (ds.sum - ss.sum * M) L ds ss (i + 1) y10 y11 ∧ sumBack (at' ss) r (i + 1) ≤ x ∧ Sofar ds.length (at' ds) (at' ss) r x (i + 1) L,
            rt := Q, bk := fun σ H' => tRet (tVar 6) { nx := fun _ H' => Q .non H', rt := Q } σ H' }
          [some (.ref p), some (.int r), some (.int x), some (.int ss.sum), some (.int M), some (.int (ds.sum - ss.sum * M)), some (.int L2), some (.int (sumBack (at' ds) r (i + 1))), some (.int (maxBack (at' ds) r i)), some (.int (x - sumBack (at' ss) r i)), some (.int (0 + (i : Int))), y11'] H1 := by
        intro L2 y11' SF2
        refine ⟨_, rfl, .ref p, rfl, p, dx, _, rfl, R.ob, rdS ⟨.int r, rfl, _, rfl, _, _, rfl, rfl, ts, _, _, _, rfl, rfl, .of R.ts, hix2, _, _, rfl, rfl, ?_⟩⟩
        have el : x - sumBack (at' ss) r i - at' ss (r - i) = x - sumBack (at' ss) r (i + 1) := by omega
        refine ⟨.int (x - sumBack (at' ss) r i - at' ss (r - i)), rfl, _, _, rfl, rfl, _, rfl, ?_⟩
        by_cases hb : x - sumBack (at' ss) r i - at' ss (r - i) < 0
        · rw [decide_eq_true hb]
          refine iteT ⟨.int L2, rfl, ?_⟩
          have := RR.E_of (RR.fin SF2 (.inr ⟨by omega, by omega⟩))
          rw [this] at q
          exact q
        · rw [decide_eq_false hb]
          refine iteF ⟨rfl, L2, some (.int (0 + (i : Int))), y11', ?_, by omega, SF2⟩
          unfold edS
          rw [← el]
          rfl
      -- if left >= books
      refine ⟨.int (x - sumBack (at' ss) r i), rfl, .int ss.sum, rfl, _, _, rfl, rfl, _, rfl, ?_⟩
      by_cases hb : ss.sum ≤ x - sumBack (at' ss) r i
      · rw [decide_eq_true hb]
        refine iteT ?_
        have go : ∀ rounds : Int, rounds = (if 0 < ds.sum - ss.sum * M then (x - sumBack (at' ss) r i) / ss.sum else 1) → _ := fun rounds hrd =>
          fin (max (max L (ch (at' ds) (at' ss) r i x)) (sumBack (at' ds) r (i + 1) + (x - sumBack (at' ss) r i) * M + rounds * (ds.sum - ss.sum * M))) (some (.int rounds)) (RR.step SF hle (by rw [if_pos hb, hrd]))
        -- rounds
        refine ⟨.int (ds.sum - ss.sum * M), rfl, _, _, rfl, rfl, _, rfl, ?_⟩
        by_cases hg : 0 < ds.sum - ss.sum * M
        · rw [decide_eq_true hg]
          refine iteT ⟨.int (x - sumBack (at' ss) r i), rfl, .int ss.sum, rfl, _, _, rfl, rfl, ⟨by omega, by omega⟩, ?_⟩
          refine ⟨_, rfl, .int (sumBack (at' ds) r (i + 1)), rfl, .int (x - sumBack (at' ss) r i), rfl, .int M, rfl, _, _, rfl, rfl, .inr ⟨by omega, by omega⟩, _, _, rfl, rfl, _, rfl, .int (ds.sum - ss.sum * M), rfl, _, _, rfl, rfl, .inr ⟨by omega, by omega⟩, _, _, rfl, rfl, _, _, rfl, ?_⟩
          rw [max_if]
          exact go _ (by rw [if_pos hg])
        · rw [decide_eq_false hg]
          refine iteF ?_
          refine ⟨_, rfl, .int (sumBack (at' ds) r (i + 1)), rfl, .int (x - sumBack (at' ss) r i), rfl, .int M, rfl, _, _, rfl, rfl, .inr ⟨by omega, by omega⟩, _, _, rfl, rfl, _, rfl, .int (ds.sum - ss.sum * M), rfl, _, _, rfl, rfl, .inr ⟨by omega, by omega⟩, _, _, rfl, rfl, _, _, rfl, ?_⟩
          rw [max_if]
          exact go _ (by rw [if_neg hg])
      · rw [decide_eq_false hb]
        refine iteF ?_
        exact fin _ y11 (RR.step SF hle (by rw [if_neg hb]))
    · rintro σ H1 ⟨rfl, L, y10, y11, rfl, hle, SF⟩
      have := RR.E_of (RR.fin SF (.inl (by omega)))
      rw [this] at q
      exact ⟨.int L, rfl, q⟩
end
end Rp
namespace Rp
open PySem PySem.Spec PyProof.Rows L2 Rz Rm
/-- readings and days of a repetition -/
def RepIs (T B M p q : Int) : Prop := (T ≤ M * B ∧ p = 1 ∧ q = M) ∨ (¬ T ≤ M * B ∧ p = B ∧ q = T)
theorem at_emod {ss : List Int} (i : Int) : at' ss (i % (ss.length : Int)) = at' ss i := by
  unfold at'
  rw [Int.emod_emod_of_dvd _ (Int.dvd_refl _)]
theorem emod_pred (z n : Int) : (z % n - 1) % n = (z - 1) % n := by
  have h := Int.emod_add_mul_ediv z n
  have e : z - 1 = (z % n - 1) + n * (z / n) := by omega
  rw [e, Int.add_mul_emod_self_left]
/-- the book of place q at reader r -/
def Bk (ss : List Int) (r q v : Int) : Prop := ∃ i : Nat, i < ss.length ∧ sumBack (at' ss) r i ≤ q ∧ q < sumBack (at' ss) r (i + 1) ∧ v = (ss.take ((r - i) % (ss.length : Int)).toNat).sum + (q - sumBack (at' ss) r i)
theorem Bk.inj {ss : List Int} (h0 : ∀ i, 0 ≤ at' ss i) {r q v v' : Int} (h : Bk ss r q v) (h' : Bk ss r q v') : v = v' := by
  obtain ⟨i, _, a1, a2, rfl⟩ := h
  obtain ⟨j, _, b1, b2, rfl⟩ := h'
  have e : i = j := by
    rcases Nat.lt_trichotomy i j with z | z | z
    · have := sum_mono h0 r (show i + 1 ≤ j by omega)
      omega
    · exact z
    · have := sum_mono h0 r (show j + 1 ≤ i by omega)
      omega
  rw [e]
section
variable {P : Program} {w : World} {K : PySem.W.Frag} {mg : Str → Option Value} {base : Heap}
/-! ### ring(reader, number) -/
def spCall (C : Addr) : Sp := fun vs H Q _ => ∃ p dx td ts ds ss, ∃ r x : Int, vs = [.ref p, .int r, .int x] ∧ RingAt C H p dx td ts ds ss ∧ 0 ≤ r ∧ r < ds.length ∧ 0 ≤ x ∧ x ≤ 1000000000000000000 ∧ Q (.int (Rm.E (at' ds) (at' ss) r x)) H
theorem ok_call (T : Tx K mg) : FnOk P w K mg base CX0 4 T.a_rcall T.d_rcall P_rcall (spCall T.C) := by
  refine T.F_rcall.ok sc_rcall (fun vs H Q E h => ?_) (fun cdv A outer s H vs Q E hr h => ?_)
  · obtain ⟨p, dx, td, ts, ds, ss, r, x, rfl, _⟩ := h
    rfl
  · obtain ⟨p, dx, td, ts, ds, ss, r, x, rfl, R, r0, r1, x0, x1, q⟩ := h
    obtain ⟨u1, c1⟩ := T.c_LATEST
    refine ⟨_, pss_cons (ps_expr (pe_call (ok_reader T) hr (by rfl) T.g_check_reader T.F_check_reader.kp T.b_check_reader .nil pass0 (pa_cons (pv 0) (pa_cons (pv 1) pa_nil))))
      (pss_cons (ps_expr (pe_call (ok_chk T) hr (by rfl) T.g_check_number T.F_check_number.kp T.b_check_number .nil pass0 (pa_cons (pv 2) (pa_cons pe_int (pa_cons (pe_glob (v := .int 1000000000000000000) (by rfl) c1 ⟨_, rfl⟩) pa_nil)))))
      (pss_one (ps_ret (pe_call (ok_end T) hr (by rfl) T.g_end_day T.F_end_day.kp T.b_end_day .nil pass0 (pa_cons (pv 0) (pa_cons (pv 1) (pa_cons (pv 2) pa_nil))))))), ?_⟩
    refine ⟨_, rfl, _, rfl, p, dx, td, ts, ds, ss, r, rfl, R, r0, r1, ?_⟩
    refine ⟨_, rfl, x, 0, 1000000000000000000, rfl, x0, x1, ?_⟩
    exact ⟨_, rfl, _, rfl, _, rfl, p, dx, td, ts, ds, ss, r, x, rfl, R, r0, r1, x0, q⟩
end
end Rp
namespace Rp
open PySem PySem.Spec PyProof.Rows L2 Rz Rm
theorem cut_front {xs : List V} {r : Int} (h0 : 0 ≤ r) (h1 : r < xs.length) : cutV xs none (some r) = xs.take r.toNat ∧ ¬ (HT.sIx xs.length 0 none = 0 ∧ HT.sIx xs.length xs.length (some r) = xs.length) := by
  have e : r = ((r.toNat : Nat) : Int) := by omega
  have e1 : HT.sIx xs.length xs.length (some r) = r.toNat := by
    rw [e, HT.sIx_nat]
    omega
  constructor
  · unfold cutV
    rw [HT.sIx_none, e1]
    simp
  · rw [e1]
    omega
theorem sum_le_zero : ∀ {l : List Int}, (∀ y ∈ l, y ≤ 0) → l.sum ≤ 0
  | [], _ => by simp
  | a :: r, h => by
    have h1 := h a List.mem_cons_self
    have ih := sum_le_zero (l := r) fun y hy => h y (List.mem_cons_of_mem _ hy)
    rw [List.sum_cons]
    omega
section
variable {N : Nat} {d s : Int → Int} {B T M : Int} (R : Rm.Ring N d s B T M)
include R
theorem _root_.Rm.Ring.rep_big {p q x : Int} (h : RepIs T B M p q) (hx : 4 * B + B * M ≤ x) : Rep d s p q x := by
  rw [RepIs, Int.mul_comm M B] at h
  rcases h with ⟨h1, rfl, rfl⟩ | ⟨h1, rfl, rfl⟩
  · exact R.rep_slow h1 hx
  · exact R.rep_fast (by omega) hx
theorem _root_.Rm.Ring.p1 {p q : Int} (h : RepIs T B M p q) : 1 ≤ p := by
  have := R.b1
  rcases h with ⟨_, rfl, _⟩ | ⟨_, rfl, _⟩ <;> omega
end
section
variable {P : Program} {w : World} {K : PySem.W.Frag} {mg : Str → Option Value} {base : Heap}
end
end Rp
namespace Rp
open PySem PySem.Spec PyProof.Rows L2 Rz Rm
/-! ### the drawn row -/
/-- all that was tracked but the row is as it was -/
def Kp (row : Addr) (H H' : Hp) : Prop := ∀ b o, H b = some o → b ≠ row → H' b = some o
theorem Kp.refl (row : Addr) (H : Hp) : Kp row H H := fun _ _ h _ => h
theorem Kp.trans {row : Addr} {H H1 H2 : Hp} (a : Kp row H H1) (b : Kp row H1 H2) : Kp row H H2 := fun c o h n => b c o (a c o h n) n
theorem Same.kp {row : Addr} {H H' : Hp} (s : Same H H') : Kp row H H' := fun b o h _ => s b o h
/-- the script stands in the written part -/
def Wr (K : PySem.W.Frag) (a : Addr) (xs : List V) : Prop := ∃ (o : Obj) (its : Array Value) (n : Nat), K.lookup a = some o ∧ o.cls = .type "list" ∧ o.dict = none ∧ o.data = .seq its n ∧ its.size ≤ sizeLine ∧ Vals xs its.toList
theorem far_of {K : PySem.W.Frag} {H : Hp} {D a : Addr} {xs : List V} (h : SqL K H a xs) (hD : H D = none) : D ≠ a ∨ Wr K a xs := by
  rcases h with (h | ⟨o, h⟩) | h
  · exact .inl fun e => by rw [e, h] at hD; cases hD
  · exact .inl fun e => by rw [e, h] at hD; cases hD
  · exact .inr h
theorem sq_upd {K : PySem.W.Frag} {H : Hp} {D a : Addr} {xs : List V} {o : HO} (h : SqL K H a xs) (f : D ≠ a ∨ Wr K a xs) : SqL K (upd H D o) a xs := by
  rcases f with f | f
  · rcases h with (h | ⟨u, h⟩) | h
    · exact .inl (.inl (by rw [upd_ne f.symm]; exact h))
    · exact .inl (.inr ⟨u, by rw [upd_ne f.symm]; exact h⟩)
    · exact .inr h
  · exact .inr f
structure RowAt (K : PySem.W.Frag) (H : Hp) (row a : Addr) (ns : List Int) : Prop where
  ob : ∃ i m q : Int, H row = some (.lst [.ref a, .int i, .int m, .int q]) ∧ 0 ≤ i
  sc : SqL K H a (ns.map V.int)
  ne : row ≠ a ∨ Wr K a (ns.map V.int)
theorem RowAt.same {K : PySem.W.Frag} {H H' : Hp} {row a : Addr} {ns : List Int} (R : RowAt K H row a ns) (s : Same H H') : RowAt K H' row a ns := by
  obtain ⟨i, m, q, h, h0⟩ := R.ob
  exact ⟨⟨i, m, q, s _ _ h, h0⟩, s.seq R.sc, R.ne⟩
theorem kp_upd {row : Addr} {H : Hp} {o : HO} : Kp row H (upd H row o) := fun b z h n => by
  rw [upd_ne n]
  exact h
/-- the row is written -/
theorem RowAt.put {K : PySem.W.Frag} {H : Hp} {row a : Addr} {ns : List Int} (R : RowAt K H row a ns) {i m q : Int} (h : 0 ≤ i) : RowAt K (upd H row (.lst [.ref a, .int i, .int m, .int q])) row a ns :=
  ⟨⟨i, m, q, upd_same, h⟩, sq_upd R.sc R.ne, R.ne⟩
theorem first_ix : ∀ {l : List Int} {m : Int}, m ∈ l → ∃ j : Nat, l[j]? = some m ∧ ∀ k z, k < j → l[k]? = some z → z ≠ m
  | a :: r, m, h => by
    by_cases e : a = m
    · exact ⟨0, by simp [e], fun k z hk => absurd hk (Nat.not_lt_zero _)⟩
    · obtain ⟨j, h1, h2⟩ := first_ix (l := r) (m := m) (by
        rcases List.mem_cons.mp h with q | q
        · exact absurd q.symm e
        · exact q)
      refine ⟨j + 1, by simpa using h1, fun k z hk hz => ?_⟩
      cases k with
      | zero =>
        simp at hz
        rw [← hz]
        exact e
      | succ k => exact h2 k z (by omega) (by simpa using hz)
theorem mem_le_sum : ∀ {l : List Int}, (∀ y ∈ l, 0 ≤ y) → ∀ x ∈ l, x ≤ l.sum
  | a :: r, h, x, hx => by
    have ha := h a List.mem_cons_self
    have hr : ∀ y ∈ r, 0 ≤ y := fun y hy => h y (List.mem_cons_of_mem _ hy)
    have hs : 0 ≤ r.sum := sum_nonneg' hr
    rw [List.sum_cons]
    rcases List.mem_cons.mp hx with e | e
    · omega
    · have := mem_le_sum hr x e
      omega
where sum_nonneg' : ∀ {l : List Int}, (∀ y ∈ l, 0 ≤ y) → 0 ≤ l.sum
  | [], _ => by simp
  | a :: r, h => by
    have h1 := h a List.mem_cons_self
    have h2 := sum_nonneg' (l := r) fun y hy => h y (List.mem_cons_of_mem _ hy)
    rw [List.sum_cons]
    omega
theorem mem_set {l : List Int} {j : Nat} {v y : Int} (h : y ∈ l.set j v) : y ∈ l ∨ y = v := List.mem_or_eq_of_mem_set h
theorem flat_ints (l : List Int) : (l.map V.int).all flatV = true := by
  rw [List.all_eq_true]
  intro x hx
  obtain ⟨i, _, rfl⟩ := List.mem_map.mp hx
  rfl
theorem lc_keep {σ : L2.St} {H : Hp} {F G : Hp → Prop} (h : F H) : tYes σ H (fun b H3 => if b = true then F H3 else G H3) := by
  show if true = true then F H else G H
  rw [if_pos rfl]
  exact h
theorem map_snoc (l : List Int) (v : Int) : l.map V.int ++ [V.int v] = (l ++ [v]).map V.int := by
  rw [List.map_append]
  rfl
theorem RowAt.upd' {K : PySem.W.Frag} {H : Hp} {D row a : Addr} {ns : List Int} {o : HO} (R : RowAt K H row a ns) (n : D ≠ row) (f : D ≠ a ∨ Wr K a (ns.map V.int)) : RowAt K (upd H D o) row a ns := by
  obtain ⟨i, m, q, h, h0⟩ := R.ob
  exact ⟨⟨i, m, q, by rw [upd_ne n.symm]; exact h, h0⟩, sq_upd R.sc f, R.ne⟩
theorem RowAt.nn {K : PySem.W.Frag} {H : Hp} {D row a : Addr} {ns : List Int} (R : RowAt K H row a ns) (h : H D = none) : D ≠ row := fun e => by
  obtain ⟨i, m, q, h2, _⟩ := R.ob
  rw [e, h2] at h
  cases h
theorem kp_new {row D : Addr} {H0 H : Hp} {o : HO} (k : Kp row H0 H) (h : H0 D = none) : Kp row H0 (upd H D o) := fun b z e n => by
  rw [upd_ne (ne_of_none e h)]
  exact k b z e n
end Rp
/-! More rules beside the layer's: a range that stands in a slot, walked; a tuple's index of an int. -/
namespace Rz
open PySem PySem.Spec PyProof.Rows L2
section
variable {X : Cx}
def iRngV (te : TE) : TI := fun σ H R => te σ H fun x H1 => ∃ a lo hi, x = .ref a ∧ H1 a = some (.rng lo hi) ∧ (-(2 ^ 62) ≤ lo ∧ lo < 2 ^ 62 ∧ -(2 ^ 62) ≤ hi ∧ hi < 2 ^ 62) ∧ R (Itr lo (hi - lo).toNat) H1
theorem pi_rngV {tg e : Expr} {te : TE} (he : PE X e te) : PI X tg e (iRngV te) := by
  refine ⟨fun pins s σ H R I h => ?_⟩
  refine thn (he.run pins s σ H _ I h) fun v s1 ⟨x, H1, I1, r1, q1⟩ => ?_
  obtain ⟨a, lo, hi, ex, ha, ⟨h1, h2, h3, h4⟩, q⟩ := q1
  subst ex
  cases r1
  obtain ⟨t, u, v, ho⟩ := (show ObjOk X.prog X.w H1 s1.heap a (.rng lo hi) from I1.hok a _ ha)
  refine wpAny_pyIter_range (show IsRange s1.heap a lo hi 1 t u v from ho) (small_one h1 h2 h3 h4) ?_
  refine ⟨s1.heap.objs.size, [s1.heap.objs.size], _, _, H1, rfl, I1.kept (t' := s1.toks) fun b o e => Heap.get?_push_of_some _ e, turn_range _ lo (hi - lo).toNat, ?_, fun b hb => ?_, q⟩
  · have e1 : lo + ((0 : Nat) : Int) * 1 = lo := by simp
    have e2 : (((hi - lo).toNat : Nat) : Int) - ((0 : Nat) : Int) = Builtin.Range.rangeSize lo hi 1 := by rw [rangeSize_one]; split <;> omega
    show IsRangeIter _ _ (lo + ((0 : Nat) : Int) * 1) ((((hi - lo).toNat : Nat) : Int) - ((0 : Nat) : Int)) 1
    rw [e1, e2]
    exact Heap.get?_push_size _ rfl
  · have e : b = s1.heap.objs.size := by simpa using hb
    subst e
    exact I1.fpOk (Nat.le_refl _) (I1.hok.fresh (Nat.le_refl _))
/-- t.index(i), the first place -/
theorem mt_tup_indexI : MtR X "tuple.index" (fun x xs H Q => ∃ p, ∃ ys : List Int, ∃ z j, x = .ref p ∧ xs = [.int z] ∧ SqT X.K H p (ys.map V.int) ∧ ys[j]? = some z ∧ (∀ m y, m < j → ys[m]? = some y → y ≠ z) ∧ Q (.int (j : Nat)) H) := by
  intro pins s σ H x xs v us Q I rx rs h
  obtain ⟨p, ys, z, j, rfl, rfl, hq, hy, hno, q⟩ := h
  cases rx
  obtain ⟨u, rfl, t, rfl⟩ := vals1 rs
  obtain ⟨its, r, pl, hz⟩ := I.tuple hq
  obtain ⟨⟨cls, dd, dt, sl⟩, ho, hc, n, hd⟩ := pl
  simp only at hc hd
  subst hc
  subst hd
  have fl : (ys.map V.int).all flatV = true := by
    rw [List.all_eq_true]
    intro x hx
    obtain ⟨i, _, rfl⟩ := List.mem_map.mp hx
    rfl
  have hl : its.toArray.size = ys.length := by rw [List.size_toArray, ← r.length, List.length_map]
  have hj : j < its.toArray.size := by rw [hl]; exact (List.getElem?_eq_some_iff.mp hy).1
  have at' : ∀ (m : Nat) (hm : m < its.toArray.size), ∃ y t', ys[m]? = some y ∧ its.toArray[m] = Value.int y t' := fun m hm => by
    have hm' : m < ys.length := by rw [← hl]; exact hm
    obtain ⟨w, hw, t', hw'⟩ := r.get (i := m) (x := .int ys[m]) (by simp [hm'])
    refine ⟨ys[m], t', List.getElem?_eq_getElem hm', ?_⟩
    have e := (List.getElem?_eq_some_iff.mp hw).2
    rw [← hw', ← e]
    simp
  refine call_meets PySem.F.slot_tuple_index ⟨_, ho, rfl⟩ PySem.F.entry_tuple_index (PySem.F.args_tuple_index_2 _ _) (TI.tuple_indexAt p its.toArray n dd sl (.int z t) (eqU (.int z)) j hj ?_ ?_)
    ⟨ho, fun w hw => mem_eqAt (x := .int z) ⟨t, rfl⟩ rfl r fl w (by simpa using hw), ⟨.int (j : Nat), H, I.tok _, ⟨_, rfl⟩, q⟩⟩
  · obtain ⟨y, t', h1, h2⟩ := at' j hj
    rw [hy] at h1
    cases h1
    rw [h2]
    show (z == z) = true
    exact beq_self_eq_true z
  · intro m hm hmj
    obtain ⟨y, t', h1, h2⟩ := at' m hm
    rw [h2]
    show (y == z) = false
    exact beq_eq_false_iff_ne.mpr (hno m y hmj h1)
end
end Rz
namespace Rp
open PySem PySem.Spec PyProof.Rows L2 Rz Rm
section
variable {K : PySem.W.Frag} {H : Hp} {Q : VK} {a b : Addr} {xs ys : List V}
theorem sl_from {k : Int} (ha : H a = some (.tup xs)) (k0 : 0 ≤ k) (k1 : k ≤ xs.length) (h : ∀ H' p, Same H H' → H' p = some (.tup (xs.drop k.toNat)) → Q (.ref p) H') : rSlA K (.ref a) (some k) none H Q := by
  have e : k = ((k.toNat : Nat) : Int) := by omega
  have e0 : HT.sIx xs.length 0 (some k) = k.toNat := by
    rw [e, HT.sIx_nat]
    omega
  have e1 : cutV xs (some k) none = xs.drop k.toNat := by
    unfold cutV
    rw [e0, HT.sIx_none, List.take_of_length_le (by rw [List.length_drop]; omega)]
  refine ⟨a, xs, rfl, .of ha, fun z => h H a (fun _ _ q => q) ?_, fun _ p hp => h _ p (same_upd hp) (by rw [upd_same, e1])⟩
  rw [e0] at z
  rw [ha, z.1]
  rfl
theorem sl_to {k : Int} (ha : H a = some (.tup xs)) (k0 : 0 ≤ k) (k1 : k ≤ xs.length) (h : ∀ H' p, Same H H' → H' p = some (.tup (xs.take k.toNat)) → Q (.ref p) H') : rSlA K (.ref a) none (some k) H Q := by
  have e : k = ((k.toNat : Nat) : Int) := by omega
  have e0 : HT.sIx xs.length xs.length (some k) = k.toNat := by
    rw [e, HT.sIx_nat]
    omega
  have e1 : cutV xs none (some k) = xs.take k.toNat := by
    unfold cutV
    rw [e0, HT.sIx_none, List.drop_zero, Nat.sub_zero]
  refine ⟨a, xs, rfl, .of ha, fun z => h H a (fun _ _ q => q) ?_, fun _ p hp => h _ p (same_upd hp) (by rw [upd_same, e1])⟩
  rw [e0] at z
  rw [ha, z.2, List.take_length]
theorem cat_any (ha : H a = some (.tup xs)) (hb : H b = some (.tup ys)) (hl : xs.length + ys.length ≤ sizeLine) (h : ∀ H' p, Same H H' → H' p = some (.tup (xs ++ ys)) → Q (.ref p) H') : rCatA K (.ref a) (.ref b) H Q := by
  refine ⟨a, b, xs, ys, rfl, rfl, .of ha, .of hb, hl, fun z => h H b (fun _ _ q => q) ?_, fun _ z => h H a (fun _ _ q => q) ?_, fun _ _ p hp => h _ p (same_upd hp) upd_same⟩
  · rw [z, hb]
    rfl
  · rw [z, ha, List.append_nil]
end
theorem noPart {σ : L2.St} {H : Hp} {Q : Option Int → Hp → Prop} (h : Q none H) : tNoPart σ H Q := h
end Rp
namespace Rp
open PySem PySem.Spec PyProof.Rows L2 Rz Rm
theorem set_map {ds : List Int} {r d : Int} (h0 : 0 ≤ r) (h1 : r < ds.length) : ((ds.map V.int).take r.toNat ++ [V.int d]) ++ (ds.map V.int).drop (r + 1).toNat = (ds.set r.toNat d).map V.int := by
  have e : (r + 1).toNat = r.toNat + 1 := by omega
  rw [List.map_set, List.set_eq_take_append_cons_drop, if_pos (by rw [List.length_map]; omega), e]
  simp
theorem Good.set {ds ss : List Int} (G : Good ds ss) (i : Nat) {d : Int} (h : 1 ≤ d ∧ d ≤ 30) : Good (ds.set i d) ss :=
  ⟨by rw [List.length_set]; exact G.l2, by rw [List.length_set]; exact G.l8, by rw [List.length_set]; exact G.ls, fun y hy => (mem_set hy).elim (G.d1 y) (fun e => by rw [e]; exact h), G.s0, G.b1, G.b12⟩
/-! ### numbers from 0 on -/
def iot (n : Nat) : List Int := (List.range n).map fun i => ((i : Nat) : Int)
theorem rgV_iot (n : Nat) : rgV 0 (n : Int) = (iot n).map V.int := by
  unfold rgV iot
  rw [List.map_map, show ((n : Int) - 0).toNat = n by omega]
  refine List.map_congr_left fun i _ => ?_
  show V.int (0 + (i : Int)) = V.int (i : Int)
  rw [Int.zero_add]
theorem iot_len (n : Nat) : (iot n).length = n := by unfold iot; rw [List.length_map, List.length_range]
section
variable {P : Program} {w : World} {K : PySem.W.Frag} {mg : Str → Option Value} {base : Heap}
/-! ### Ring.with_days -/
def spWith (C : Addr) : Sp := fun vs H Q _ => ∃ p dx td ts ds ss, ∃ r d : Int, vs = [.ref p, .int r, .int d] ∧ RingAt C H p dx td ts ds ss ∧ 0 ≤ r ∧ r < ds.length ∧ 1 ≤ d ∧ d ≤ 30 ∧
  ∀ H' p' dx' td' ts', Same H H' → RingAt C H' p' dx' td' ts' (ds.set r.toNat d) ss → Q (.ref p') H'
theorem ok_with (T : Tx K mg) : FnOk P w K mg base CX0 6 T.a_rwith_days T.d_rwith_days P_rwith_days (spWith T.C) := by
  refine T.F_rwith_days.ok sc_rwith_days (fun vs H Q E h => ?_) (fun cdv A outer s H vs Q E hr h => ?_)
  · obtain ⟨p, dx, td, ts, ds, ss, r, d, rfl, _⟩ := h
    rfl
  · obtain ⟨p, dx, td, ts, ds, ss, r, d, rfl, R, r0, r1, d1, d2, q⟩ := h
    have hr3 : Room 3 _ := hr.mono (by decide)
    have nd := sc_rwith_days.nd
    have l8 := R.ok.l8
    have ls := R.ok.ls
    refine ⟨_, pss_cons (ps_expr (pe_call (ok_reader T) hr3 (by rfl) T.g_check_reader T.F_check_reader.kp T.b_check_reader .nil pass0 (pa_cons (pv 0) (pa_cons (pv 1) pa_nil))))
      (pss_cons (ps_set (i := 3) nd rfl (.inl rfl) (pe_op op_catA (pe_op op_catA (pe_slice sl_tupA (pe_fld (pv 0) rfl) po_none (po_some (pv 1))) (pe_tup (pa_cons (pv 2) pa_nil))) (pe_slice sl_tupA (pe_fld (pv 0) rfl) (po_some (pe_op op_add (pv 1) pe_int)) po_none)))
      (pss_one (ps_ret (pe_make T.mkR (ok_init T) hr (by rfl) T.gC T.b_rinit .nil pass0 (pa_cons (pv 3) (pa_cons (pe_fld (pv 0) rfl) pa_nil)))))), ?_⟩
    refine ⟨_, rfl, _, rfl, p, dx, td, ts, ds, ss, r, rfl, R, r0, r1, ?_⟩
    refine ⟨_, rfl, p, _, dx, _, _, rfl, R.ob, T.cl, T.nD, flds_days _ _, _, rfl, _, rfl, ?_⟩
    refine sl_to R.td r0 (by rw [List.length_map]; omega) fun H1 p1 s1 h1 => ?_
    refine ⟨_, rfl, (by show 1 ≤ sizeLine; decide), fun p2 hp2 => ?_⟩
    have s2 := same_upd (o := .tup [.int d]) hp2
    refine cat_any (s2 _ _ h1) upd_same (by rw [List.length_take, List.length_map]; have := small1000 (n := ds.length) (by omega); simp only [List.length_cons, List.length_nil]; have := small1000 (n := ds.length + 1) (by omega); omega) fun H3 p3 s3 h3 => ?_
    have R3 := ((R.same s1).same s2).same s3
    refine ⟨_, rfl, p, _, dx, _, _, rfl, R3.ob, T.cl, T.nD, flds_days _ _, _, rfl, _, _, rfl, rfl, _, rfl, ?_⟩
    refine noPart ?_
    refine sl_from R3.td (k := r + 1) (by omega) (by rw [List.length_map]; omega) fun H4 p4 s4 h4 => ?_
    refine cat_any (s4 _ _ h3) h4 (by rw [List.length_append, List.length_drop, List.length_take, List.length_map]; simp only [List.length_cons, List.length_nil]; have := small1000 (n := ds.length + ds.length + 1) (by omega); omega) fun H5 td' s5 h5 => ?_
    rw [set_map r0 r1] at h5
    have R5 := (R3.same s4).same s5
    refine ⟨_, rfl, _, rfl, p, _, dx, _, _, rfl, R5.ob, T.cl, T.nS, flds_starts _ _, fun x y nx ny ne => ?_⟩
    have s0 : Same H5 (upd (upd H5 y (.own x)) x (.ins T.C y [])) := fun b o e => by
      rw [upd_ne (ne_of_none e nx), upd_ne (ne_of_none e ny)]
      exact e
    refine ⟨x, y, td', ts, ds.set r.toNat d, ss, rfl, upd_same, s0 _ _ h5, s0 _ _ R5.ts, R.ok.set _ ⟨d1, d2⟩, fun H7 R7 k7 => ⟨rfl, ?_⟩⟩
    exact q H7 x y td' ts (((((s1.trans s2).trans s3).trans s4).trans s5).trans (Same.made nx ny k7)) R7
end
end Rp
/-! Lambdas as values: made and kept (in lists, in slots), with or without a default value. -/
namespace Rl
open PySem PySem.Spec PyProof.Rows L2 LamX
/-- what a lambda is -/
structure LF where
  q : Str
  params : Arguments
  body : Expr
  scope : Scope
  cl : List (Str × Addr)
  dV : Value
  c : Addr
def LamO (f : Addr) (F : LF) : HO := .ext fun h => ∃ (doc pm ctv : Value), h.get? f = some (PySem.W.kdv_obj "<lambda>" F.q F.params (.expr F.body) F.scope F.cl F.dV doc pm F.c ctv)
theorem lamO_ne {f : Addr} {F : LF} (ps : Array Value) : LamO f F ≠ .tbl ps := fun z => by
  unfold LamO at z
  cases z
section
variable {X : Cx} {pins : List (Addr × Obj)} {σ : L2.St} {H : Hp} {s : Shared}
theorem inv_lam {F : LF} {o : Obj} {t' : Nat} {doc pm ctv : Value} (I : Inv X pins σ H s) (ho : o = PySem.W.kdv_obj "<lambda>" F.q F.params (.expr F.body) F.scope F.cl F.dV doc pm F.c ctv) :
    Inv X pins σ (upd H s.heap.objs.size (LamO s.heap.objs.size F)) { s with heap := s.heap.push o, toks := t' } := by
  subst ho
  have e : (s.heap.push (PySem.W.kdv_obj "<lambda>" F.q F.params (.expr F.body) F.scope F.cl F.dV doc pm F.c ctv)).get? s.heap.objs.size = some (PySem.W.kdv_obj "<lambda>" F.q F.params (.expr F.body) F.scope F.cl F.dV doc pm F.c ctv) := Heap.get?_push_size _ rfl
  exact I.laid (a := s.heap.objs.size) (fun b u g => Heap.get?_push_of_some _ g) (Nat.le_refl _) ⟨⟨doc, pm, ctv, e⟩, ⟨_, e⟩, fun h1 h2 ⟨d1, p1, v1, z⟩ st => ⟨d1, p1, v1, st _ z⟩⟩
/-- the rest of the making, the default values evaluated -/
theorem lam_tail {T : List (Addr × Str)} {c P : Addr} {params : Arguments} {body : Expr} {scope : Scope} {pos : Pos} {dV : Value} {E : Value → Shared → Prop} {Q : Value → Shared → Prop} (I : Inv X pins σ H s) (TB : TabB X.base X.mg c P) (hcode : X.env.code = .ref c)
    (hm : (P, X.env.qual ++ "<lambda>") ∈ T) (hu : ∀ p ∈ T, p.1 = P → p.2 = X.env.qual ++ "<lambda>") (hT : Tabs T H) (hfree : ∀ y ∈ scope.names, y.2 = .free → ∃ c, X.env.cells.lookup y.1 = some c)
    (h : ∀ (f c' : Addr) (H1 : Hp) (s' : Shared), Inv X pins σ H1 s' → ExtN H H1 → Tabs T H1 → H f = none → H1 f = some (LamO f ⟨X.env.qual ++ "<lambda>", params, body, scope, cloFrom X.env.cells scope.names [], dV, c'⟩) → H1 c' = some (CodeO c' (X.env.qual ++ "<lambda>")) → Q (.ref f) s') :
    wpAny (model X.prog X.w) X.A (makeTail "<lambda>" (X.env.qual ++ "<lambda>") params (.expr body) scope X.env dV .none none pos pos.line) Q E s := by
  obtain ⟨ps, hP, ht, ha⟩ := hT _ hm
  have bP : s.heap.BuiltinsAt X.mg P := TB.bm.keeps I.bk
  have gP : s.heap.get? P = some { cls := .none, data := .fields ps } := I.hok P _ hP
  cases hc : codeAmong pos ps.toList with
  | none =>
    refine PySem.W.kdv_makeTail (mg := X.mg) (c := c) (P := P) (ps := ps) (closure_ok hfree) I.ok.glob (I.mod.glob.keeps I.bk) hcode (TB.code.keeps I.bk) gP ht hc TB.gP bP fun c' ctv doc h' tk hx hge hlt hrec htb => ?_
    obtain ⟨c2, oc, vs, t, e2, r1, r2, r3⟩ := hrec
    cases e2
    have nC := I.hok.fresh hge
    have J := inv_table (t' := tk) (more := #[rawInt pos.line, rawInt pos.col, .ref c']) (h' := h') I hP (fun b o n e => hx b o n e) htb hge ⟨oc, vs, t, r1, r2, r3⟩
    obtain ⟨H1, hH1⟩ : ∃ H1, H1 = upd (upd H P (.tbl (ps ++ #[rawInt pos.line, rawInt pos.col, .ref c']))) c' (CodeO c' (X.env.qual ++ "<lambda>")) := ⟨_, rfl⟩
    have ext1 : ExtN H H1 := fun b o e n => by
      rw [hH1, upd_ne (ne_of_none e nC), upd_ne (fun z => by subst z; rw [hP] at e; exact n ps (Option.some.inj e).symm)]
      exact e
    have atC : H1 c' = some (CodeO c' (X.env.qual ++ "<lambda>")) := by rw [hH1, upd_same]
    have tabs1 : Tabs T H1 := fun p hp => by
      by_cases hb : p.1 = P
      · rw [hu p hp hb, hb]
        refine ⟨ps ++ #[rawInt pos.line, rawInt pos.col, .ref c'], by rw [hH1, upd_ne (ne_of_none hP nC), upd_same], ?_, fun p' cv hcv => ?_⟩
        · rw [Array.toList_append]
          exact PySem.TriplesOk_snoc _ _ _ _ ht
        · rw [Array.toList_append] at hcv
          rcases among_app _ ht hcv with z | z
          · obtain ⟨c0, e1, e2⟩ := ha p' cv z
            exact ⟨c0, e1, ext1 _ _ e2 codeO_ne⟩
          · exact ⟨c', z, atC⟩
      · obtain ⟨ps', a1, a2, a3⟩ := hT p hp
        refine ⟨ps', by rw [hH1, upd_ne (ne_of_none a1 nC), upd_ne hb]; exact a1, a2, fun p' cv hcv => ?_⟩
        obtain ⟨c0, e1, e2⟩ := a3 p' cv hcv
        exact ⟨c0, e1, ext1 _ _ e2 codeO_ne⟩
    rw [← hH1] at J
    have nF := J.hok.fresh (Nat.le_refl _)
    have J2 := inv_lam (F := ⟨X.env.qual ++ "<lambda>", params, body, scope, cloFrom X.env.cells scope.names [], dV, c'⟩) (t' := tk) (doc := doc) (pm := (X.mg "__name__").getD .none) (ctv := ctv) J rfl
    have kp : ∀ {b o}, H1 b = some o → (upd H1 h'.objs.size (LamO h'.objs.size ⟨X.env.qual ++ "<lambda>", params, body, scope, cloFrom X.env.cells scope.names [], dV, c'⟩)) b = some o := fun e => (upd_ne (ne_of_none e nF)).trans e
    exact h h'.objs.size c' _ _ J2 (fun b o e n => kp (ext1 b o e n)) (tabs1.ext fun b o e => kp e) (I.hok.fresh (Nat.le_trans hge (Nat.le_of_lt hlt))) upd_same (kp atC)
  | some cv =>
    obtain ⟨c', e, hco⟩ := ha pos cv hc
    subst e
    refine PySem.W.kdv_makeTailHit (mg := X.mg) (c := c) (P := P) (ps := ps) (closure_ok hfree) I.ok.glob (I.mod.glob.keeps I.bk) hcode (TB.code.keeps I.bk) gP ht hc bP fun ctv doc h' tk hx hsz => ?_
    have J : Inv X pins σ H { s with heap := h', toks := tk } := I.kept hx
    have nF : H h'.objs.size = none := J.hok.fresh (Nat.le_refl _)
    have J2 := inv_lam (F := ⟨X.env.qual ++ "<lambda>", params, body, scope, cloFrom X.env.cells scope.names [], dV, c'⟩) (t' := tk) (doc := doc) (pm := (X.mg "__name__").getD .none) (ctv := ctv) J rfl
    have kp : ∀ {b o}, H b = some o → (upd H h'.objs.size (LamO h'.objs.size ⟨X.env.qual ++ "<lambda>", params, body, scope, cloFrom X.env.cells scope.names [], dV, c'⟩)) b = some o := fun e => (upd_ne (ne_of_none e nF)).trans e
    exact h h'.objs.size c' _ _ J2 (fun b o e n => kp e) (hT.ext fun b o e => kp e) nF upd_same (kp hco)
end
/-- the value of a lambda -/
def tLamV (T : List (Addr × Str)) (mk : Addr → LF) : TE := fun _ H Q => Tabs T H ∧ ∀ (f c' : Addr) (H1 : Hp), ExtN H H1 → Tabs T H1 → H f = none → H1 f = some (LamO f (mk c')) → H1 c' = some (CodeO c' (mk c').q) → Q (.ref f) H1
/-- the same, one int by default: the tuple of the values is told, too -/
def tLamD (T : List (Addr × Str)) (d : Int) (mk : Addr → Addr → LF) : TE := fun _ H Q => Tabs T H ∧ ∀ (f c' t : Addr) (H1 : Hp), ExtN H H1 → Tabs T H1 → H f = none → H1 t = some (.tup [.int d]) → H1 f = some (LamO f (mk t c')) → H1 c' = some (CodeO c' (mk t c').q) → Q (.ref f) H1
section
variable {X : Cx} {T : List (Addr × Str)} {c P : Addr} {params : Arguments} {body : Expr} {scope : Scope} {pos : Pos}
theorem pe_lam0 (TB : TabB X.base X.mg c P) (hcode : X.env.code = .ref c) (hm : (P, X.env.qual ++ "<lambda>") ∈ T) (hu : ∀ p ∈ T, p.1 = P → p.2 = X.env.qual ++ "<lambda>")
    (hF : ∀ y ∈ scope.names, y.2 = .free → X.env.scope.names.lookup y.1 = some .cell ∨ X.env.scope.names.lookup y.1 = some .free) (hdef : defaultsOf params X.env = ([], [])) :
    PE X (.Lambda params body scope pos) (tLamV T fun c' => ⟨X.env.qual ++ "<lambda>", params, body, scope, cloFrom X.env.cells scope.names [], .none, c'⟩) := by
  refine ⟨fun pins s σ H Q I h => ?_⟩
  obtain ⟨hT, h⟩ := h
  have hfree : ∀ y ∈ scope.names, y.2 = .free → ∃ c, X.env.cells.lookup y.1 = some c := fun y hy e => (hF y hy e).elim (fun z => I.ok.has _ (.inl z)) fun z => I.ok.has _ (.inr z)
  refine PySem.W.kla_eval hdef ?_
  simp only [makeFunction_eq, List.isEmpty_nil, List.filterMap_nil, List.zip_nil_right, pure_bind, if_true]
  exact lam_tail I TB hcode hm hu hT hfree fun f c' H1 s' I1 x1 t1 hf e1 e2 => ⟨.ref f, H1, I1, rfl, h f c' H1 x1 t1 hf e1 e2⟩
theorem pe_lam1 {d : Int} {j : Nat} {dp : Pos} (TB : TabB X.base X.mg c P) (hcode : X.env.code = .ref c) (hm : (P, X.env.qual ++ "<lambda>") ∈ T) (hu : ∀ p ∈ T, p.1 = P → p.2 = X.env.qual ++ "<lambda>")
    (hF : ∀ y ∈ scope.names, y.2 = .free → X.env.scope.names.lookup y.1 = some .cell ∨ X.env.scope.names.lookup y.1 = some .free) (hd : params.defaults = [.Constant (.int d) j dp]) (hk : params.kw_defaults = []) :
    PE X (.Lambda params body scope pos) (tLamD T d fun t c' => ⟨X.env.qual ++ "<lambda>", params, body, scope, cloFrom X.env.cells scope.names [], .ref t, c'⟩) := by
  refine ⟨fun pins s σ H Q I h => ?_⟩
  obtain ⟨hT, h⟩ := h
  have hfree : ∀ y ∈ scope.names, y.2 = .free → ∃ c, X.env.cells.lookup y.1 = some c := fun y hy e => (hF y hy e).elim (fun z => I.ok.has _ (.inl z)) fun z => I.ok.has _ (.inr z)
  refine PySem.W.kdv_lam (by rw [hd]; rfl) hk ?_
  rw [hd]
  refine PySem.W.kdv_all1 (thn ((pe_int (X := X) (i := d) (j := j) (pos := dp)).run pins s σ H (fun v H1 => v = .int d ∧ H1 = H) I ⟨rfl, rfl⟩) fun u s1 ⟨v, H1, I1, rv, e1, e2⟩ => PySem.W.kdv_all0 ?_)
  subst e1
  subst e2
  obtain ⟨tk, rfl⟩ := rv
  simp only [makeFunction_eq, List.isEmpty_nil, List.isEmpty_cons, List.filterMap_nil, List.zip_nil_right, pure_bind, if_true, Bool.false_eq_true, if_false]
  refine wpAny_bind (wpAny_newTextTuple ?_)
  have nt := I1.hok.fresh (Nat.le_refl _)
  have I2 : Inv X pins σ (upd H1 s1.heap.objs.size (.tup [.int d])) { s1 with heap := s1.heap.push { cls := .type "tuple", data := .seq [Value.int d tk].toArray } } :=
    I1.laid (t' := s1.toks) (fun b u e => Heap.get?_push_of_some _ e) (Nat.le_refl _) ⟨by show 1 ≤ sizeLine; decide, [.int d tk], .cons ⟨_, rfl⟩ .nil, ⟨_, Heap.get?_push_size _ rfl, rfl, _, rfl⟩⟩
  have kp : ∀ {b o}, H1 b = some o → (upd H1 s1.heap.objs.size (.tup [.int d])) b = some o := fun e => (upd_ne (ne_of_none e nt)).trans e
  refine lam_tail I2 TB hcode hm hu (hT.ext fun b o e => kp e) hfree fun f c' H3 s' I3 x1 t1 hf e1 e2 => ⟨.ref f, H3, I3, rfl, h f c' s1.heap.objs.size H3 (fun b o e n => x1 b o (kp e) n) t1 ?_ (x1 _ _ upd_same (by intro ps z; cases z)) e1 e2⟩
  unfold upd at hf
  split at hf
  · cases hf
  · exact hf
end
end Rl
/-! A kept lambda is called, in a def that the maker calls. -/
namespace Rl
open PySem PySem.Spec PyProof.Rows L2 LamX
/-- its names: captured ones, globals, parameters that the maker's slots don't name -/
structure LamP (N : List Str) (sc scope : Scope) : Prop where
  kind : scope.kind = .function
  co : scope.isCoroutine = false
  gen : scope.isGenerator = false
  nocell : ∀ y ∈ scope.names, y.2 ≠ .cell
  own : ∀ y ∈ scope.names, y.2 = .local → y.1 ∉ N
  free : ∀ y ∈ scope.names, y.2 = .free → sc.names.lookup y.1 = some .cell ∨ sc.names.lookup y.1 = some .free
def lamPB (N : List Str) (sc scope : Scope) : Bool :=
  decide (scope.kind = .function) && !scope.isCoroutine && !scope.isGenerator && scope.names.all fun y => !decide (y.2 = .cell) && (!decide (y.2 = .local) || !decide (y.1 ∈ N)) && (!decide (y.2 = .free) || (decide (sc.names.lookup y.1 = some .cell) || decide (sc.names.lookup y.1 = some .free)))
theorem lamP_by {N : List Str} {sc scope : Scope} (h : lamPB N sc scope = true) : LamP N sc scope := by
  unfold lamPB at h
  simp only [Bool.and_eq_true, List.all_eq_true, Bool.not_eq_true', Bool.or_eq_true, decide_eq_false_iff_not, decide_eq_true_eq] at h
  obtain ⟨⟨⟨k1, k2⟩, k3⟩, k4⟩ := h
  refine ⟨k1, k2, k3, fun y hy => (k4 y hy).1.1, fun y hy e => ?_, fun y hy e => ?_⟩
  · rcases (k4 y hy).1.2 with z | z
    · exact absurd e z
    · exact z
  · rcases (k4 y hy).2 with z | z
    · exact absurd e z
    · exact z
section
variable {X : Cx} {pins : List (Addr × Obj)} {σ : L2.St} {H HZ : Hp} {s s1 : Shared}
theorem LamP.has {scope : Scope} (L : LamP X.N X.env.scope scope) (ok : X.Ok) : ∀ y ∈ scope.names, y.2 = .free → ∃ c, X.env.cells.lookup y.1 = some c := fun y hy e => (L.free y hy e).elim (fun z => ok.has _ (.inl z)) fun z => ok.has _ (.inr z)
theorem lam_enter {ex : List Addr} {A : Around} {outer : List Env} {E : XK} {scope : Scope} {f c' : Addr} {g : Heap} {tk : Nat} {m1 : Str → Option Value} (I : Inv X pins σ H s) (L : LamP X.N X.env.scope scope) (e0 : Env0 X.prog X.w X.K X.mg X.base A outer s1 HZ) (hd : A.handled = none) (hex : ∀ y d, X.env.cells.lookup y = some d → d ∉ ex)
    (un : Un (frs X.stack) ex H HZ s.heap s1.heap) (hns : g.Ns s1.heap.objs.size m1) (kp : ∀ b o, s1.heap.get? b = some o → g.get? b = some o) :
    Inv (lamCx X A outer s1 HZ E scope f c') [] σ HZ { s1 with heap := g, toks := tk } := by
  have hfree := L.has I.ok
  have back : ∀ {y d}, (cloFrom X.env.cells scope.names []).lookup y = some d → X.env.cells.lookup y = some d := fun {y d} e => NdefX.clo_cm hfree e
  have there : ∀ {y}, scope.names.lookup y = some .free → ∃ d, (cloFrom X.env.cells scope.names []).lookup y = some d := fun {y} hl => mem_lookup (cloFrom_has (cells := X.env.cells) (acc := []) (PySem.mem_of_lookup hl))
  have cellK : ∀ {d : Addr} {v : Option Value}, H d = none → d ∉ ex → s.heap.IsCell d v → g.IsCell d v := fun {d v} n nx z => by
    obtain ⟨o, ho, hv⟩ := z
    obtain ⟨sl, q⟩ := un.any ho n nx
    exact ⟨_, kp _ _ q, hv⟩
  have none1 : ∀ b : Addr, b ∉ (lamCx X A outer s1 HZ E scope f c').ex := fun b z => absurd (show b ∈ ([] : List Addr) from z) (by simp)
  refine ⟨⟨e0.mod, L.kind, rfl, rfl, Nat.le_refl _, fun y z d e1 e2 => I.ok.inj y z d (back e1) (back e2), fun y hy => ?_, fun y d z _ => ?_, fun _ => hd, Around.frames_deeper e0.frames, .inr ⟨rfl, rfl⟩, fun b z => absurd z (none1 b), e0.bs, e0.bsz, fun b _ _ => none1 b, fun b z => absurd z (none1 b), e0.funs, e0.frf⟩,
    rfl, e0.bare, Un.kept kp, ⟨_, hns, fun i y v e1 e2 e3 => ?_⟩, fun y d e => ?_, e0.hok.fresh (Nat.le_refl _), fun y d e => ?_, fun q hq => absurd (show q ∈ ([] : List (Addr × Obj)) ++ [] from hq) (by simp), e0.hok.kept kp, I.len⟩
  · have hy : scope.names.lookup y = some .cell ∨ scope.names.lookup y = some .free := hy
    rcases hy with hy | hy
    · exact absurd rfl (L.nocell _ (PySem.mem_of_lookup hy))
    · exact there hy
  · have z : false = true := z
    cases z
  · have e3 : Vis scope y := e3
    have e1 : X.N[i]? = some y := e1
    rcases e3 with k | k | k
    · exact absurd (List.mem_of_getElem? e1) (L.own _ (PySem.mem_of_lookup k) rfl)
    · exact absurd rfl (L.nocell _ (PySem.mem_of_lookup k))
    · obtain ⟨m, hn, hl⟩ := I.loc
      have vis : Vis X.env.scope y := (L.free _ (PySem.mem_of_lookup k) rfl).elim (fun z => .inr (.inl z)) fun z => .inr (.inr z)
      obtain ⟨w', r, q⟩ := hl i y v e1 e2 vis
      obtain ⟨d, h2⟩ := there k
      refine ⟨w', r, .inr ⟨.inr k, d, h2, ?_⟩⟩
      have h3 := back h2
      rcases q with ⟨k', _⟩ | ⟨_, d3, e', z⟩
      · have k' : X.env.scope.names.lookup y = some .local := k'
        rcases L.free _ (PySem.mem_of_lookup k) rfl with k2 | k2
        · rw [show X.env.scope.names.lookup y = _ from k2] at k'
          cases k'
        · rw [show X.env.scope.names.lookup y = _ from k2] at k'
          cases k'
      · rw [h3] at e'
        cases e'
        exact cellK (I.freeC y _ h3) (hex y _ h3) z
  · obtain ⟨w', z⟩ := I.cell y d (back e)
    exact ⟨w', cellK (I.freeC y d (back e)) (hex y d (back e)) z⟩
  · obtain ⟨v, o, ho, hv⟩ := I.cell y d (back e)
    exact un.free d o ho (I.freeC y d (back e)) (hex y d (back e))
/-- a(), in the def that the maker calls and that got the lambda -/
theorem un_more {fs ex : List Addr} {H H' : Hp} {h h' : Heap} (u : Un fs [] H H' h h') : Un fs ex H H' h h' :=
  ⟨fun b o e n k _ => u.keep b o e n k (by simp), fun b o e n k _ => u.slot b o e n k (by simp), fun b o e n _ => u.free b o e n (by simp), fun b o e _ => u.there b o e (by simp), u.tups, u.frzs, u.tbls⟩
theorem pe_actVB {ex : List Addr} {sC : Shared} {HC : Hp} {CXg : CXT} {Eg : XK} {Ng : List Str} {qg : Str} {sg : Scope} {g f : Addr} {cdg : Value} {k i : Nat} {a : Str} {pn : List (Addr × Obj)} {xe : Value → Shared → Prop} {W : WX} {E : L2.St → XK} {tb : XK → TE} {p1 p2 : Pos} {F : LF} {G : Hp → Prop}
    (I : Inv X pins σ H s) (hex : ∀ y d, X.env.cells.lookup y = some d → d ∉ ex) (unB : Un (frs X.stack) ex H HC s.heap sC.heap) (L : LamP X.N X.env.scope F.scope) (hcl : F.cl = cloFrom X.env.cells F.scope.names []) (hq : F.q = X.env.qual ++ "<lambda>")
    (hbind : ∀ (doc pm ctv : Value) (sZ : Shared) (HZ : Hp), HOk X.prog X.w HZ sZ.heap → G HZ → ∃ binds, BindsTo sZ (PySem.W.kdv_fn "<lambda>" F.q F.params (.expr F.body) F.scope F.cl F.dV doc pm (.ref F.c) ctv) ⟨[], []⟩ binds ∧ ∀ y ∈ binds, F.scope.names.lookup y.1 = some .local)
    (tk : Takes ((cxOf CXg X.prog X.w X.K X.mg X.base Ng qg sg g cdg X.A X.stack sC HC Eg).tr pn xe) W) (hW : ∀ cls d σ' H', E σ' cls d H' → W cls d σ' H') (hr : Room (k + 1) (X.A.deeper (envOfC qg sg sC.heap.objs.size g cdg)))
    (hbody : ∀ (E' : XK) (A : Around) (outer : List Env) (s : Shared) (H : Hp), Room k (A.deeper (lamEnv X F.scope s.heap.objs.size f F.c)) → PE (lamCx X A outer s H E' F.scope f F.c) F.body (tb E'))
    (hN : Ng[i]? = some a) (hv : Vis sg a) (hd : (a == ("__debug__" : Str)) = false := by decide) (hcd : (a == ("__classdict__" : Str)) = false := by decide) :
    PE ((cxOf CXg X.prog X.w X.K X.mg X.base Ng qg sg g cdg X.A X.stack sC HC Eg).tr pn xe) (.Call (.Name a p1) [] [] p2)
      (fun σZ HZ Q => σZ[i]? = some (some (.ref f)) ∧ HZ f = some (LamO f F) ∧ HZ F.c = some (CodeO F.c F.q) ∧ G HZ ∧ tb (E σZ) σ HZ Q) := by
  refine ⟨fun pinsZ sZ σZ HZ Q IZ h => ?_⟩
  obtain ⟨hs, hf, hc, hg, ht⟩ := h
  refine wpAny_Call_Name_kw (thn ((pe_var (pos := p1) (i := i) hN hv hd hcd).run pinsZ sZ σZ HZ (fun v H1 => v = .ref f ∧ H1 = HZ) IZ ⟨.ref f, hs, rfl, rfl⟩) fun u s2 ⟨v, H2, I2, rv, e1, e2⟩ => ?_)
  subst e1
  rw [e2] at I2
  obtain rfl : u = Value.ref f := rv
  obtain ⟨⟨doc, pm, ctv, of1⟩, _, _⟩ := I2.hok f _ hf
  obtain ⟨⟨oc, vs, t, c1, c2, c3⟩, _, _⟩ := I2.hok F.c _ hc
  refine PySem.W.callWith_F0 ⟨_, _, _, _, of1⟩ ?_
  have un : Un (frs X.stack) ex H HZ s.heap s2.heap := unB.trans (un_more I2.base)
  obtain ⟨binds, hbi, hloc⟩ := hbind doc pm ctv s2 HZ I2.hok hg
  have rc : codeAny (model X.prog X.w) (X.A.deeper (envOfC qg sg sC.heap.objs.size g cdg)) (.call (.ref f) ⟨[], []⟩) (CR (L2.CX X.prog X.w) (envOfC qg sg sC.heap.objs.size g cdg :: X.stack) X.prog X.w HZ s2 Q (E σZ)) s2 := by
    refine PySem.W.kla_callFunE hr.depth of1 rfl L.co L.gen rfl ⟨F.c, oc, vs, t, rfl, c1, c2, c3⟩ (hbi _ _ _ _ ?_)
    refine wpAny_newFunctionEnv L.nocell hloc (fun h1 hns hsb => ⟨I2.nolimit.fresh _ hsb, ?_⟩) L.kind
    have ee : PySem.W.envX F.q F.scope s2.heap.objs.size f (.ref F.c) F.cl = lamEnv X F.scope s2.heap.objs.size f F.c := by rw [hq, hcl]
    show codeAny _ _ (.expr F.body (PySem.W.envX F.q F.scope s2.heap.objs.size f (.ref F.c) F.cl)) _ _
    rw [ee]
    have kp : ∀ b o, s2.heap.get? b = some o → h1.get? b = some o := fun b o e => hsb.extBut b o (Nat.ne_of_lt (Heap.lt_size e)) (Heap.get?_push_of_some _ e)
    have J := lam_enter (E := E σZ) (scope := F.scope) (f := f) (c' := F.c) (tk := s2.toks + binds.length) I L I2.env0 hr.hd hex un hns kp
    refine PySem.W.kla_codeExpr (wpAny_mono ((hbody (E σZ) _ _ s2 HZ (hr.deeper _)).run [] _ _ HZ Q J ht) (fun v s' hh => ?_) fun e s' hh => hh)
    obtain ⟨w', H', J', r', q'⟩ := hh
    exact ⟨w', H', J'.os, J'.bare, J'.base, J'.hok, r', q'⟩
  refine wpAny_call (codeAny_mono rc fun r s' hh => ?_)
  cases r with
  | error e => exact tk e s' (XE.of_call I2 (fun cls d H' z => hW cls d σZ H' z) hh)
  | ok fl =>
    cases fl with
    | ret u => exact I2.after hh
    | next => exact hh.elim
    | brk => exact hh.elim
    | cont => exact hh.elim
/-- a(), in the def that the maker calls and that got the lambda -/
theorem pe_actV {CXg : CXT} {Eg : XK} {Ng : List Str} {qg : Str} {sg : Scope} {g f : Addr} {cdg : Value} {k i : Nat} {a : Str} {pn : List (Addr × Obj)} {xe : Value → Shared → Prop} {W : WX} {E : L2.St → XK} {tb : XK → TE} {p1 p2 : Pos} {F : LF} {G : Hp → Prop}
    (I : Inv X pins σ H s) (L : LamP X.N X.env.scope F.scope) (hcl : F.cl = cloFrom X.env.cells F.scope.names []) (hq : F.q = X.env.qual ++ "<lambda>")
    (hbind : ∀ (doc pm ctv : Value) (sZ : Shared) (HZ : Hp), HOk X.prog X.w HZ sZ.heap → G HZ → ∃ binds, BindsTo sZ (PySem.W.kdv_fn "<lambda>" F.q F.params (.expr F.body) F.scope F.cl F.dV doc pm (.ref F.c) ctv) ⟨[], []⟩ binds ∧ ∀ y ∈ binds, F.scope.names.lookup y.1 = some .local)
    (tk : Takes ((cxOf CXg X.prog X.w X.K X.mg X.base Ng qg sg g cdg X.A X.stack s H Eg).tr pn xe) W) (hW : ∀ cls d σ' H', E σ' cls d H' → W cls d σ' H') (hr : Room (k + 1) (X.A.deeper (envOfC qg sg s.heap.objs.size g cdg)))
    (hbody : ∀ (E' : XK) (A : Around) (outer : List Env) (s : Shared) (H : Hp), Room k (A.deeper (lamEnv X F.scope s.heap.objs.size f F.c)) → PE (lamCx X A outer s H E' F.scope f F.c) F.body (tb E'))
    (hN : Ng[i]? = some a) (hv : Vis sg a) (hd : (a == ("__debug__" : Str)) = false := by decide) (hcd : (a == ("__classdict__" : Str)) = false := by decide) :
    PE ((cxOf CXg X.prog X.w X.K X.mg X.base Ng qg sg g cdg X.A X.stack s H Eg).tr pn xe) (.Call (.Name a p1) [] [] p2)
      (fun σZ HZ Q => σZ[i]? = some (some (.ref f)) ∧ HZ f = some (LamO f F) ∧ HZ F.c = some (CodeO F.c F.q) ∧ G HZ ∧ tb (E σZ) σ HZ Q) :=
  pe_actVB (ex := []) I (fun _ _ _ => by simp) Un.refl L hcl hq hbind tk hW hr hbody hN hv hd hcd
end
end Rl
/-! x(e), e a kept lambda, x a def that calls what it gets. -/
namespace Rl
open PySem PySem.Spec PyProof.Rows L2 LamX
/-- the def that calls what it got: a calls it; R: what must be true of the abstract heap at the call; TT: what the def makes of the lambda's reading -/
def GivesV (X : Cx) (Ng : List Str) (x : Str) (sg : Scope) (g : Addr) (cdg : Value) (bg : List Stmt) (a : Str) (TT : (XK → Hp → VK → Prop) → Hp → VK → Prop) : Prop :=
  ∀ (f : Addr) (R : Hp → Prop) (s : Shared) (H : Hp) (Q : VK) (tl : XK → Hp → VK → Prop),
    (∀ (W : WX) (pn : List (Addr × Obj)) (xe : Value → Shared → Prop) (p1 p2 : Pos), Takes ((cxOf C8.CX0 X.prog X.w X.K X.mg X.base Ng x sg g cdg X.A X.stack s H C8.E0).tr pn xe) W →
      PE ((cxOf C8.CX0 X.prog X.w X.K X.mg X.base Ng x sg g cdg X.A X.stack s H C8.E0).tr pn xe) (.Call (.Name a p1) [] [] p2) (fun σZ HZ Q => σZ[0]? = some (some (.ref f)) ∧ R HZ ∧ tl (fun cls d H' => W cls d σZ H') HZ Q)) →
    R H → TT tl H Q →
    ∃ t, PSs (cxOf C8.CX0 X.prog X.w X.K X.mg X.base Ng x sg g cdg X.A X.stack s H C8.E0).nox bg t ∧ t { nx := fun _ H' => Q .non H', rt := Q } (L2.start Ng [.ref f]) H
/-- one of a family of lambdas, all made where X stands -/
structure Fam (X : Cx) (ι : Type) (F : ι → LF) (G : ι → Hp → Prop) : Prop where
  nm : ∀ i, LamP X.N X.env.scope (F i).scope
  cl : ∀ i, (F i).cl = cloFrom X.env.cells (F i).scope.names []
  q : ∀ i, (F i).q = X.env.qual ++ "<lambda>"
  bind : ∀ i (doc pm ctv : Value) (sZ : Shared) (HZ : Hp), HOk X.prog X.w HZ sZ.heap → G i HZ → ∃ binds, BindsTo sZ (PySem.W.kdv_fn "<lambda>" (F i).q (F i).params (.expr (F i).body) (F i).scope (F i).cl (F i).dV doc pm (.ref (F i).c) ctv) ⟨[], []⟩ binds ∧ ∀ y ∈ binds, (F i).scope.names.lookup y.1 = some .local
def tLamC {ι : Type} (F : ι → LF) (G : ι → Hp → Prop) (TT : (XK → Hp → VK → Prop) → Hp → VK → Prop) (ta : TA) (t : ι → XK → TE) : TE := fun σ H Q => ta σ H fun vs H1 => ∃ (f : Addr) (i : ι), vs = [.ref f] ∧ H1 f = some (LamO f (F i)) ∧ H1 (F i).c = some (CodeO (F i).c (F i).q) ∧ G i H1 ∧ TT (fun E H' Q' => t i E σ H' Q') H1 Q
section
variable {X : Cx}
theorem pe_lamcallV {ι : Type} {F : ι → LF} {G : ι → Hp → Prop} {TT : (XK → Hp → VK → Prop) → Hp → VK → Prop} {x a : Str} {g : Addr} {k : Nat} {pg : Arguments} {bg : List Stmt} {sg : Scope} {dV kV doc pm cdv ct oc : Value} {an od : Option Addr} {osl : Array (Option Value)} {Ng : List Str}
    {e : Expr} {ta : TA} {t : ι → XK → TE} {p pos : Pos} (hg : Gl X x) (hm : X.mg x = some (.ref g)) (hk : PySem.W.keepIn X.K (.ref g) = true)
    (lk : X.K.lookup g = some ⟨oc, od, .func (PySem.W.fnOf x x pg bg sg dV kV doc pm an cdv ct), osl⟩) (hcg : PySem.W.codeIn X.K cdv x = true) (hb : L2.Binds X.K (PySem.W.fnOf x x pg bg sg dV kV doc pm an cdv ct) [a] []) (Sg : FnScope Ng [a] sg) (hNg : Ng[0]? = some a) (hva : Vis sg a)
    (hG : GivesV X Ng x sg g cdv bg a TT) (fam : Fam X ι F G) (ha : PA X [e] ta) (hr : Room (k + 2) X.A)
    (hbody : ∀ (i : ι) (A : Around) (outer : List Env) (s : Shared) (H : Hp) (E : XK) (f : Addr), Room k (A.deeper (lamEnv X (F i).scope s.heap.objs.size f (F i).c)) → PE (lamCx X A outer s H E (F i).scope f (F i).c) (F i).body (t i E))
    (hst : starEach [e] X.env = (false, eval e X.env) :: starEach [] X.env := by rfl) (hpl : (backTo pos (starEach ([] : List Expr) X.env)).any (·.1) = false := by rfl)
    (hdb : (x == ("__debug__" : Str)) = false := by decide) (hd : (a == ("__debug__" : Str)) = false := by decide) (hcd : (a == ("__classdict__" : Str)) = false := by decide) :
    PE X (.Call (.Name x p) [e] [] pos) (tLamC F G TT ta t) := by
  refine ⟨fun pins s σ H Q I h => ?_⟩
  refine wpAny_Call_Name_kw (ld_glob I hg hm ?_ hdb)
  refine PySem.W.callWith_K (h₀ := X.base) I.ok.mod.kin hk (thn (ha.run pos pins s σ H _ I h) fun us s1 ⟨vs, H1, I1, r, q⟩ => ⟨I1.kIn, ?_⟩) hst hpl
  obtain ⟨f, i, rfl, e1, e2, e3, q⟩ := q
  rw [Vals.ref1 r]
  have rc : codeAny (model X.prog X.w) X.A (.call (.ref g) ⟨[.ref f], []⟩) (CR C8.CX0 X.stack X.prog X.w H1 s1 Q C8.E0) s1 := by
    refine run_ofS (N := Ng) (ps := [a]) (us := [.ref f]) (vs := [.ref f]) lk hcg Sg hr I1.env0 (hb s1 [.ref f] I1.kIn rfl) (.cons rfl .nil) rfl fun hr2 => ?_
    have go := hG f (fun HZ => HZ f = some (LamO f (F i)) ∧ HZ (F i).c = some (CodeO (F i).c (F i).q) ∧ G i HZ) s1 H1 Q (fun E H' Q' => t i E σ H' Q') (fun W pn xe p1 p2 tk => by
      have act := pe_actV (i := 0) (p1 := p1) (p2 := p2) (E := fun σ' cls d H' => W cls d σ' H') (tb := t i) I1 (fam.nm i) (fam.cl i) (fam.q i) (fam.bind i) tk (fun _ _ _ _ z => z) hr2 (fun E' A outer s H hr3 => hbody i A outer s H E' f hr3) hNg hva hd hcd
      exact ⟨fun pins2 s2 σ2 H2 Q2 I2 ⟨a1, ⟨a2, a3, a4⟩, a5⟩ => act.run pins2 s2 σ2 H2 Q2 I2 ⟨a1, a2, a3, a4, a5⟩⟩) ⟨e1, e2, e3⟩ q
    obtain ⟨t', ht', hq'⟩ := go
    exact ⟨t', ht'.nox, hq'⟩
  refine wpAny_call (codeAny_mono rc fun r s2 hh => ?_)
  cases r with
  | error e => exact (show False from hh).elim
  | ok fl =>
    cases fl with
    | ret u => exact I1.after hh
    | next => exact hh.elim
    | brk => exact hh.elim
    | cont => exact hh.elim
end
end Rl
/-! A comprehension whose element may use what the def's slots held when the block began: kept lambdas are called in it. -/
namespace Rl
open PySem PySem.Spec PyProof.Rows L2 LamX
section
variable {X : Cx}
/-- the block of a comprehension that begins at z -/
abbrev bCx (X : Cx) (z : Shared) (Z : Hp) (sc : Scope) (L : Addr) (cl : List (Str × Addr)) (fp : List Addr) : Cx := X.blk z Z sc (compEnvC sc cl L X.env) fp
/-- the element is read in a block that began where the def's slots are τ -/
def ElB (X : Cx) (τ : L2.St) (sc : Scope) (e : Expr) (te : TE) : Prop :=
  ∀ (pins : List (Addr × Obj)) (z : Shared) (Z : Hp) (L : Addr) (cl : List (Str × Addr)) (fp : List Addr), Inv X pins τ Z z → (∀ b ∈ fp, FpOk X pins Z b) → PE (bCx X z Z sc L cl fp) e te
theorem lcB_loop {pins : List (Addr × Obj)} {τ : L2.St} {Q : VK} {e tg it0 : Expr} {sc : Scope} {own : List (Str × Nat)} {pos : Pos} {g : TG} {te : TE} {R : Result → Shared → Prop} {it D L : Addr} {cl : List (Str × Addr)} {fp : List Addr} {tn : Nat → Heap → Prop} {J : It} {z zs : Shared} {Z : Hp}
    (hc : X.calm = true) (T : Turn X.prog X.w X.K tg J fp it tn) (IZ : Inv X pins τ Z z) (fZ : ∀ b ∈ fp, FpOk X pins Z b) (hL : (compEnvC sc cl L X.env).locals = L) (hLz : z.heap.objs.size ≤ L)
    (pg : PG (bCx X z Z sc L cl fp) tg g) (pe : PE (bCx X z Z sc L cl fp) e te)
    (IS : Inv (bCx X z Z sc L cl fp) [] (wipe τ (own.map (·.2))) Z zs) (tS : tn 0 zs.heap)
    {W : Nat → Nat → Hp → Prop} {m₀ : Nat} (w₀ : W 0 m₀ Z)
    (turn : ∀ i m H, W i m H → (J.stop i H ∧ Q (.ref D) H) ∨ (J.go i H ∧ ∃ Nx : Hp → Prop, (∀ H', Nx H' → ∃ m', m' < m ∧ W (i + 1) m' H') ∧ ∀ x H', J.yld i H x H' → g x (wipe τ (own.map (·.2))) H' fun σ2 H2 => wipe σ2 (own.map (·.2)) = wipe τ (own.map (·.2)) ∧ tYes σ2 H2 fun b H3 =>
      if b = true then te σ2 H3 fun y H4 => ∃ acc, H4 D = some (.lst acc) ∧ acc.length < sizeLine ∧ Nx (upd H4 D (.lst (acc ++ [y]))) else Nx H3))
    (fin : ∀ s' m H', Inv X pins τ H' s' → Q (.ref D) H' → s'.heap.Ns L m → FpOk X pins H' L → R (.ok .next) s') :
    codeAny (model X.prog X.w) X.A (.compLoop (.ListComp e [⟨tg, it0, [], 0⟩] sc pos) 0 (.ref it) (.ref D) (compEnvC sc cl L X.env)) R zs := by
  have ofB : ∀ {σ' : L2.St} {H' : Hp} {s' : Shared}, Inv (bCx X z Z sc L cl fp) [] σ' H' s' → (∀ b ∈ fp, H' b = none) → ∀ b ∈ fp, FpOk (bCx X z Z sc L cl fp) [] H' b := fun {σ' H' s'} J0 nn b hb =>
    ⟨nn b hb, (J0.ok.exf b hb).1, J0.ok.exfs b hb, .inl hb, fun y d k => (J0.ok.exf b hb).2 y d k, fun p hp => by
      have hp : p ∈ ([] : List (Addr × Obj)) ++ [] := hp
      simp at hp⟩
  refine compLoop_any (fun m s' => ∃ i H', Inv (bCx X z Z sc L cl fp) [] (wipe τ (own.map (·.2))) H' s' ∧ tn i s'.heap ∧ (∀ b ∈ fp, H' b = none) ∧ W i m H') ?_ m₀ ⟨0, Z, IS, tS, fun b hb => (fZ b hb).1, w₀⟩
  intro m s1 ⟨i, H1, I1, t1, n1, w1⟩
  cases turn i m H1 w1 with
  | inl hs =>
    refine thnF (T.done (bCx X z Z sc L cl fp) rfl rfl rfl hc i [] s1 _ H1 (fun _ _ => False) I1 (ofB I1 n1) t1 hs.1) fun r s2 hr => ?_
    rw [hr.1]
    have IX : Inv X pins τ H1 s2 := IZ.call' (ch := fp) hr.2.os hr.2.base hr.2.hok hr.2.bare fun b hb => by
      obtain ⟨_, q1, _, q3, q4, q5⟩ := fZ b hb
      exact ⟨q3, q1, q4, q5⟩
    have nL : H1 L = none := by
      have q := hr.2.free
      rw [show (bCx X z Z sc L cl fp).env.locals = L from hL] at q
      exact q
    obtain ⟨mm, hmm, _⟩ := hr.2.loc
    rw [show (bCx X z Z sc L cl fp).env.locals = L from hL] at hmm
    exact fin s2 mm H1 IX hs.2 hmm (IZ.fpOk hLz nL)
  | inr hg =>
    obtain ⟨hgo, Nx, hNx, hstep⟩ := hg
    refine thnF (T.item (bCx X z Z sc L cl fp) rfl rfl rfl hc i [] s1 _ H1 (fun _ _ => False) I1 (ofB I1 n1) t1 hgo) fun r s2 ⟨u, hr, q2⟩ => ?_
    rw [hr]
    refine thnF q2 fun _ s3 ⟨x, H3, I3, r3, y3, t3, n3⟩ => ?_
    refine thnF (pg.run _ s3 _ H3 x u _ (I3.pinned (ofB I3 n3) (T.obj _ _ t3)) r3 (hstep x H3 y3)) fun _ s4 ⟨σ4, H4, I4, hw, q4⟩ => ?_
    refine thnF ((pts_nil (X := bCx X z Z sc L cl fp)).run _ s4 σ4 H4 _ I4 q4) fun b s5 ⟨H5, I5, q5⟩ => ?_
    have back : ∀ {s' : Shared} {H' : Hp}, Inv (bCx X z Z sc L cl fp) ([] ++ pinsAt fp s3.heap) σ4 H' s' → Nx H' → ∃ k, k < m ∧ ∃ i H', Inv (bCx X z Z sc L cl fp) [] (wipe τ (own.map (·.2))) H' s' ∧ tn i s'.heap ∧ (∀ b ∈ fp, H' b = none) ∧ W i k H' := fun {s' H'} JJ nx => by
      obtain ⟨k, hk, wk⟩ := hNx H' nx
      have pn : ∀ b ∈ fp, ∀ o, s3.heap.get? b = some o → s'.heap.get? b = some o ∧ H' b = none := fun b hb o ho => by
        obtain ⟨p1, p2, _⟩ := JJ.pin (b, o) (List.mem_append_right _ (List.mem_append_right _ (mem_pinsAt hb ho)))
        exact ⟨p1, p2⟩
      refine ⟨k, hk, i + 1, H', (JJ.unpinned (pins := [])).weak (by rw [← hw, wipe_length]) (fun j v hj => ?_), T.keep _ _ _ t3 fun b hb o ho => (pn b hb o ho).1, fun b hb => ?_, wk⟩
      · rw [← hw] at hj
        exact (wipe_some hj).1
      · obtain ⟨o, ho, _⟩ := T.obj _ _ t3 b hb
        exact (pn b hb o ho).2
    cases b with
    | false =>
      rw [if_neg Bool.false_ne_true] at q5
      rw [if_neg Bool.false_ne_true]
      exact back I5 q5
    | true =>
      rw [if_pos rfl] at q5
      rw [if_pos rfl]
      refine thnF (pe.run _ s5 σ4 H5 _ I5 q5) fun v s6 ⟨y, H6, I6, r6, acc, hD, hz, nx⟩ => ?_
      exact app_ok (X := bCx X z Z sc L cl fp) I6 hD hz r6 fun s7 I7 => back I7 nx
theorem lcB_core {pins : List (Addr × Obj)} {s : Shared} {τ : L2.St} {H : Hp} {Q : VK} {e tg iter : Expr} {sc : Scope} {own : List (Str × Nat)} {pos pos' : Pos} {wi : TI} {g : TG} {te : TE} {use : Option (Value → Sem Unit)} {Qf : Value → Shared → Prop}
    (hc : X.calm = true) (hN : X.N.Nodup) (I : Inv X pins τ H s) (hi : PI X tg iter wi) (ok : BlkOk X.N X.env.scope sc own)
    (hg : ∀ (z : Shared) (Z : Hp) (L : Addr) (cl : List (Str × Addr)) (fp : List Addr), PG (bCx X z Z sc L cl fp) tg g) (he : ElB X τ sc e te) (hs : ∀ x, foldedSetIterable iter X.env x = pure x)
    (h : tLc wi g tYes te (own.map (·.2)) τ H Q)
    (hR : ∀ D L s' m H', Inv X pins τ H' s' → Q (.ref D) H' → s'.heap.Ns L m → FpOk X pins H' L → compPost (model X.prog X.w) X.A X.xe use Qf (.ref D) L (.ok .next) s') :
    wpAny (model X.prog X.w) X.A (comprehension (.ListComp e [⟨tg, iter, [], 0⟩] sc pos) sc X.env pos' (newList []) false (eval iter X.env) use) Qf X.xe s := by
  have hf : ∀ y ∈ sc.names, y.2 = .free → ∃ d, X.env.cells.lookup y.1 = some d := fun y hy k => (ok.free y hy k).elim (fun q => I.ok.has _ (.inl q)) fun q => I.ok.has _ (.inr q)
  refine wpAny_comprehension_free (use := use) rfl hs (closure_ok hf) ok.kind (fun y hy k => by rw [ok.uniq y hy, k]) ?_
  refine thn (hi.run pins s τ H _ I h) fun _ s1 h1 => thn h1 fun itv s2 h2 => ?_
  obtain ⟨it, fp, tn, J, H2, rfl, I2, T, t2, f2, q⟩ := h2
  refine wpAny_newObj_type (newEnv_comp ?_) (by show 0 ≤ sizeLine; decide)
  have nD : H2 s2.heap.objs.size = none := I2.hok.fresh (Nat.le_refl _)
  obtain ⟨W, ⟨m₀, w₀⟩, turn⟩ := q _ nD
  obtain ⟨D, eD⟩ : ∃ D, D = s2.heap.objs.size := ⟨_, rfl⟩
  have push : ∀ b o, s2.heap.get? b = some o → (s2.heap.push { cls := .type "list", data := .seq ([] : List Value).toArray }).get? b = some o := fun b o k => Heap.get?_push_of_some _ k
  have I3 : Inv X pins τ (upd H2 s2.heap.objs.size (.lst [])) { s2 with heap := s2.heap.push { cls := .type "list", data := .seq ([] : List Value).toArray } } :=
    I2.laid (t' := s2.toks) push (Nat.le_refl _) ⟨Nat.zero_le _, [], 0, .nil, Heap.get?_push_size _ rfl⟩
  have f3 : ∀ b ∈ fp, FpOk X pins (upd H2 s2.heap.objs.size (.lst [])) b ∧ b < (s2.heap.push { cls := .type "list", data := .seq ([] : List Value).toArray }).objs.size := fun b hb => by
    obtain ⟨o, ho, _⟩ := T.obj _ _ t2 b hb
    have lt := Heap.lt_size ho
    refine ⟨⟨?_, (f2 b hb).2⟩, ?_⟩
    · rw [upd_ne (Nat.ne_of_lt lt)]
      exact (f2 b hb).1
    · rw [Heap.size_push]
      exact Nat.lt_succ_of_lt lt
  have IS := block_start I3 ok hN f3
  have t3 := T.keep _ _ (pushCells ((s2.heap.push { cls := .type "list", data := .seq ([] : List Value).toArray }).push { cls := .type "dict", data := .dict #[] }) sc.names) t2 fun b _ o ho => pushCells_keeps _ _ _ _ (Heap.get?_push_of_some _ (push b o ho))
  have go := lcB_loop (own := own) (e := e) (it0 := iter) (pos := pos) (Q := Q) (D := s2.heap.objs.size) (R := compPost (model X.prog X.w) X.A X.xe use Qf (.ref s2.heap.objs.size) (s2.heap.push { cls := .type "list", data := .seq ([] : List Value).toArray }).objs.size) hc T I3 (fun b hb => (f3 b hb).1) rfl (Nat.le_refl _) (hg _ _ _ _ _) (he pins _ _ _ _ _ I3 fun b hb => (f3 b hb).1) IS t3 w₀ turn
    (fun s' m H' I' q' hm hl => hR _ _ s' m H' I' q' hm hl)
  exact codeAny_compStart_list go (T.self X.A 0 _ _ _ t3 go)
/-- as a value -/
theorem pe_lcB {e tg iter : Expr} {sc : Scope} {own : List (Str × Nat)} {pos : Pos} {wi : TI} {g : TG} {te : L2.St → TE} (hc : X.calm = true) (hN : X.N.Nodup) (hi : PI X tg iter wi) (ok : BlkOk X.N X.env.scope sc own)
    (hg : ∀ (z : Shared) (Z : Hp) (L : Addr) (cl : List (Str × Addr)) (fp : List Addr), PG (bCx X z Z sc L cl fp) tg g) (he : ∀ τ, ElB X τ sc e (te τ)) (hs : ∀ x, foldedSetIterable iter X.env x = pure x := by intro _; rfl) :
    PE X (.ListComp e [⟨tg, iter, [], 0⟩] sc pos) (fun σ H Q => tLc wi g tYes (te σ) (own.map (·.2)) σ H Q) := by
  refine ⟨fun pins s σ H Q I h => ?_⟩
  rw [eval_ListComp]
  refine lcB_core hc hN I hi ok hg (he σ) hs h fun D L s' m H' I' q hn f => ⟨m, hn, fun h'' sb => ?_⟩
  obtain ⟨f0, f1, _, f3, f4, f5⟩ := f
  exact ⟨.ref D, H', I'.turned (t' := s'.toks) (fun b o hb k => (sb.2 b hb).trans k) f0 f1 f3 f4 f5, rfl, q⟩
end
end Rl
/-! set(xs) of a list of ints, kept; its size. -/
namespace Rz
open PySem PySem.Spec PyProof.Rows L2
/-- an empty set, new -/
abbrev eS (w : World) : Obj := { cls := .type "set", dict := none, data := .set #[] 0 (.fresh 0 0 (!w.params.followText "set-order")) }
section
variable {P : Program} {w : World} {A : Around} {E : Value → Shared → Prop} {s : Shared}
theorem set_of_list {l : Addr} {xs : Array Value} (ns : List Int) {Q : Value → Shared → Prop} (quiet : A.handled = none) (isl : s.heap.IsList l xs) (are : IntsAre xs.toList ns) (few : ns.length + 1 < scanBound)
    (fin : ∀ (h2 : Heap) (tk c : Nat), SetR w h2 s.heap.objs.size (fun j => decide (j ∈ ns)) c → c ≤ ns.length → (∀ b o, s.heap.get? b = some o → h2.get? b = some o) → Q (.ref s.heap.objs.size) { s with heap := h2, toks := tk }) :
    wpAny (model P w) A (call (.type "set") [.ref l]) Q E s := by
  have size : xs.size = ns.length := by
    have z := IntsAre.length are
    rwa [Array.length_toList] at z
  obtain ⟨_, _, mro⟩ := F.called_set.mro
  have made := F.called_set.made
  have sub := F.called_set.sub
  refine wpAny_call (codeAny_of_tree ?_)
  show wpAny _ _ (callAny (.type "set") _) _ _ _
  refine wpAny_pure ⟨Code.quiet_builtin _ (by decide +kernel), ?_⟩
  refine codeAny_builtin F.entry_type_call ?_
  rw [Around.under_plain (weight_type_call_type "set" [.ref l] []) rfl]
  have nt := F.called_set.notType
  have cc := F.called_set.canCreate
  have tc := F.typeCall_set_1 (.ref l)
  repeat (any_goals (first | assumption | wp_step))
  refine codeAny_mono (L2.code_set_led1 (.ref l) (E := E) (Q₁ := fun v t => v = .ref s.heap.objs.size ∧ t = { s with heap := s.heap.push (eS w) }) ⟨rfl, rfl⟩) fun res t1 hres => ?_
  cases res with
  | error e => exact hres
  | ok flow =>
    cases flow with
    | ret v =>
      obtain ⟨rfl, rfl⟩ := hres
      have atS : (s.heap.push (eS w)).get? s.heap.objs.size = some (eS w) := Heap.get?_push_size _ rfl
      have tyS : Shared.TypeIs { s with heap := s.heap.push (eS w) } (.ref s.heap.objs.size) "set" := ⟨_, atS, rfl⟩
      have look := F.called_set.init.lookup
      have bnd := F.called_set.init.bind (.ref s.heap.objs.size)
      repeat (any_goals (first | assumption | wp_step))
      refine codeAny_mono (codeAny_call_builtin (R := wants (fun v t => v = .none ∧ ∃ h2 tk c, t = { s with heap := h2, toks := tk } ∧ SetR w h2 s.heap.objs.size (fun j => decide (j ∈ ns)) c ∧ c ≤ ns.length ∧
          (∀ b o, s.heap.get? b = some o → h2.get? b = some o)) E) F.called_set.init.plain F.entry_set_init (check_set_init_1 tyS ?_)) fun res2 t2 hres2 => ?_
      · obtain ⟨ob, at1, cl1, n1, da1⟩ := isl
        obtain ⟨c1, d1, a1, sl1⟩ := ob
        simp only at cl1 da1
        subst cl1
        subst da1
        have at2 : (s.heap.push (eS w)).get? l = some { cls := .type "list", dict := d1, data := .seq xs n1, slots := sl1 } := Heap.get?_push_of_some _ at1
        have sub1 := F.sub_list_set
        have sub2 := F.sub_list_frozenset
        have nod : (Value.type "list" == Value.type "dict") = false := by decide
        have isl2 : (s.heap.push (eS w)).IsList l xs := ⟨_, at2, rfl, n1, rfl⟩
        unfold Builtin.«set.__init__» noKeywords Builtin.Frozenset.updateFrom
        generalize gI : pyIter = PI
        wp_walk
        subst gI
        refine wpAny_pyIter_list isl2 (wpAny_bind (wpAny_runValue ?_))
        have lt1 : l < s.heap.objs.size := Heap.lt_size at1
        have quiet3 : A.in1.in1.in1.handled = none := by simp [quiet]
        have sz : (s.heap.push (eS w)).objs.size = s.heap.objs.size + 1 := Heap.size_push ..
        have ne1 : l ≠ (s.heap.push (eS w)).objs.size := fun z => by
          rw [sz] at z
          exact absurd lt1 (by rw [z]; exact Nat.not_lt.mpr (Nat.le_succ _))
        have ne2 : s.heap.objs.size ∉ [(s.heap.push (eS w)).objs.size, l] := by
          simp only [List.mem_cons, List.mem_singleton, List.not_mem_nil, or_false, not_or]
          rw [sz]
          exact ⟨Nat.ne_of_lt (Nat.lt_succ_self _), fun z => Nat.lt_irrefl _ (by rw [← z] at lt1; exact lt1)⟩
        have each : ∀ (i : Nat) (v : Value), xs[i]? = some v → ∃ k t, ns[i]? = some k ∧ v = .int k t := fun i v hv => by
          have lt : i < ns.length := by
            rw [← size]
            exact (Array.getElem?_eq_some_iff.mp hv).1
          obtain ⟨t, e⟩ := IntsAre.int_at are i v (by rw [Array.getElem?_toList]; exact hv)
          refine ⟨ns[i], t, List.getElem?_eq_getElem lt, ?_⟩
          rw [e, List.getD_eq_getElem?_getD, List.getElem?_eq_getElem lt]
          rfl
        refine L2.set_update_ints ((Walks.list quiet3 _ l ne1 xs).toS) s.heap.objs.size ne2 ns size few each (xs.size - 0) 0 _ (by omega) (Nat.zero_le _) ⟨⟨_, Heap.get?_push_size _ rfl, rfl, rfl⟩, (isl2.push _)⟩ ?start ?done
        case start => exact ⟨0, Nat.le_refl 0, L2.setR_new_at (Heap.get?_push_of_some _ atS)⟩
        case done =>
          intro t c moved le RR
          obtain ⟨h2, g2, dr2, tk2, os2⟩ := t
          have e1 : g2 = s.gens := moved.gens
          have e2 : dr2 = s.drawn := moved.drawn
          have e3 : os2 = s.os := moved.os
          subst e1 e2 e3
          show wpAny _ _ _ _ _ _
          refine wpAny_pure ?_
          show wpAny _ _ (ret Value.none) _ _ _
          rw [size] at le
          refine wpAny_pure ⟨rfl, h2, tk2, c, rfl, RR, le, fun b o hb => ?_⟩
          have ltb : b < s.heap.objs.size := Heap.lt_size hb
          refine moved.heap b o ?_ (Heap.get?_push_of_some _ (Heap.get?_push_of_some _ hb))
          simp only [List.mem_cons, List.mem_singleton, List.not_mem_nil, or_false, not_or]
          rw [sz]
          exact ⟨fun z => Nat.lt_irrefl _ (by rw [z] at ltb; exact ltb), fun z => Nat.lt_irrefl s.heap.objs.size (by rw [z] at ltb; exact Nat.lt_of_succ_lt ltb)⟩
      · cases res2 with
        | error e => exact hres2
        | ok flow2 =>
          cases flow2 with
          | ret v2 =>
            obtain ⟨rfl, h2, tk, c, rfl, RR, le, keep⟩ := hres2
            repeat (any_goals (first | assumption | wp_step))
            exact fin _ _ _ RR le keep
          | _ => exact hres2.elim
    | _ => exact hres.elim
end
section
variable {X : Cx}
/-- set(xs), xs a list of ints: a new set -/
def rSetL (K : PySem.W.Frag) (w : World) : List V → Hp → VK → Prop := fun vs H Q => ∃ (l : Addr) (ns : List Int), vs = [.ref l] ∧ SqL K H l (ns.map V.int) ∧ ns.length + 1 < scanBound ∧
  ∀ (p : Addr) (n : Nat), n ≤ ns.length → H p = none → Q (.ref p) (upd H p (SetO w p (fun j => decide (j ∈ ns)) n))
theorem cr_setL (hc : X.calm = true) : CallR X (.type "set") (rSetL X.K X.w) := by
  intro pins s σ H vs us Q I r h
  obtain ⟨l, ns, rfl, hq, few, q⟩ := h
  rw [Vals.ref1 r]
  obtain ⟨its, rv, pl, hz⟩ := I.list hq
  refine set_of_list ns (I.ok.hd hc) pl.isList (by simpa using rv.ints) few fun h2 tk c RR le keep => ?_
  exact ⟨.ref _, upd H s.heap.objs.size (SetO X.w s.heap.objs.size (fun j => decide (j ∈ ns)) c), I.laid (t' := tk) keep (Nat.le_refl _) (setO_new RR), rfl, q _ c le (I.hok.fresh (Nat.le_refl _))⟩
/-- the members of a set of ints, in some order -/
theorem setR_list {w : World} {h : Heap} {a : Addr} {S : Int → Bool} {n : Nat} (R : SetR w h a S n) : ∃ ks : List Int, ks.Nodup ∧ (∀ k, k ∈ ks ↔ S k = true) ∧ ks.length = n := by
  obtain ⟨o, es, ep, t, _, _, _, _, nd, mem, _, _, sz, _⟩ := R
  exact ⟨es.toList.map keyOf, nd, fun k => (mem k).symm, by rw [List.length_map, Array.length_toList]; exact sz⟩
/-- len(a set of ints) -/
def rLenO (w : World) : List V → Hp → VK → Prop := fun vs H Q => ∃ (a : Addr) (S : Int → Bool) (n : Nat), vs = [.ref a] ∧ H a = some (SetO w a S n) ∧ n < 1000 ∧
  ((∃ ks : List Int, ks.Nodup ∧ (∀ k, k ∈ ks ↔ S k = true) ∧ ks.length = n) → Q (.int (n : Int)) H)
theorem cr_lenO : CallR X (.builtin "len") (rLenO X.w) := by
  intro pins s σ H vs us Q I r h
  obtain ⟨a, S, n, rfl, ha, hn, q⟩ := h
  rw [Vals.ref1 r]
  have R := setO_get I ha
  have q := q (setR_list R)
  obtain ⟨o, es, ep, t, ho, hex, hd, _, _, _, _, hf, sz, _⟩ := R
  exact call_len_set ho hex hd hf (by omega) ⟨.int n, H, I.tok _, ⟨_, by rw [sz]⟩, q⟩
end
end Rz
/-! {e for x in xs}, e an int. -/
namespace Rl
open PySem PySem.Spec PyProof.Rows L2 LamX
section
variable {X : Cx}
/-- {e for x in xs}: D the new set of ints -/
def tScI (w : World) (wi : TI) (g : TG) (te : TE) (vs : List Nat) : TE := fun σ H Q => wi σ H fun J H1 => ∀ D, H1 D = none → ∃ W : Nat → Nat → Hp → Prop, (∃ m, W 0 m (upd H1 D (SetO w D (fun _ => false) 0))) ∧ ∀ i m H, W i m H →
  (J.stop i H ∧ Q (.ref D) H) ∨ (J.go i H ∧ ∃ Nx : Hp → Prop, (∀ H', Nx H' → ∃ m', m' < m ∧ W (i + 1) m' H') ∧ ∀ x H', J.yld i H x H' → g x (wipe σ vs) H' fun σ2 H2 => wipe σ2 vs = wipe σ vs ∧
    te σ2 H2 fun y H4 => ∃ (c : Int) (S : Int → Bool) (n : Nat), y = .int c ∧ H4 D = some (SetO w D S n) ∧ n + 1 < scanBound ∧ Nx (upd H4 D (SetO w D (fun j => S j || decide (j = c)) (if S c = true then n else n + 1))))
theorem setI_add {pins : List (Addr × Obj)} {σ : L2.St} {H : Hp} {s : Shared} {E : Value → Shared → Prop} {D : Addr} {S : Int → Bool} {n : Nat} {y : Int} {tk : Tok} {Q : Value → Shared → Prop} (I : Inv X pins σ H s) (isD : H D = some (SetO X.w D S n)) (room : n + 1 < scanBound)
    (q : ∀ s', Inv X pins σ (upd H D (SetO X.w D (fun j => S j || decide (j = y)) (if S y = true then n else n + 1))) s' → Q .none s') : wpAny (model X.prog X.w) X.A (call (.builtin "set.add") [.ref D, .int y tk]) Q E s := by
  refine setR_add (setO_get I isD) room fun h2 but new => ?_
  obtain ⟨ob, es, ep, t, at2, _⟩ := id new
  exact q _ (I.write (e := D) (t' := s.toks + 1) (by rw [isD]; trivial) (.inl rfl) (fun b u nb hu => (but.2 b nb).trans hu) ⟨ob, at2⟩ (setO_new new))
theorem scI_loop {pins : List (Addr × Obj)} {τ : L2.St} {Q : VK} {e tg it0 : Expr} {sc : Scope} {own : List (Str × Nat)} {pos : Pos} {g : TG} {te : TE} {R : Result → Shared → Prop} {it D L : Addr} {cl : List (Str × Addr)} {fp : List Addr} {tn : Nat → Heap → Prop} {J : It} {z zs : Shared} {Z : Hp}
    (hc : X.calm = true) (T : Turn X.prog X.w X.K tg J fp it tn) (IZ : Inv X pins τ Z z) (fZ : ∀ b ∈ fp, FpOk X pins Z b) (hL : (compEnvC sc cl L X.env).locals = L) (hLz : z.heap.objs.size ≤ L)
    (pg : PG (bCx X z Z sc L cl fp) tg g) (pe : PE (bCx X z Z sc L cl fp) e te)
    (IS : Inv (bCx X z Z sc L cl fp) [] (wipe τ (own.map (·.2))) Z zs) (tS : tn 0 zs.heap)
    {W : Nat → Nat → Hp → Prop} {m₀ : Nat} (w₀ : W 0 m₀ Z)
    (turn : ∀ i m H, W i m H → (J.stop i H ∧ Q (.ref D) H) ∨ (J.go i H ∧ ∃ Nx : Hp → Prop, (∀ H', Nx H' → ∃ m', m' < m ∧ W (i + 1) m' H') ∧ ∀ x H', J.yld i H x H' → g x (wipe τ (own.map (·.2))) H' fun σ2 H2 => wipe σ2 (own.map (·.2)) = wipe τ (own.map (·.2)) ∧
      te σ2 H2 fun y H4 => ∃ (c : Int) (S : Int → Bool) (n : Nat), y = .int c ∧ H4 D = some (SetO X.w D S n) ∧ n + 1 < scanBound ∧ Nx (upd H4 D (SetO X.w D (fun j => S j || decide (j = c)) (if S c = true then n else n + 1)))))
    (fin : ∀ s' m H', Inv X pins τ H' s' → Q (.ref D) H' → s'.heap.Ns L m → FpOk X pins H' L → R (.ok .next) s') :
    codeAny (model X.prog X.w) X.A (.compLoop (.SetComp e [⟨tg, it0, [], 0⟩] sc pos) 0 (.ref it) (.ref D) (compEnvC sc cl L X.env)) R zs := by
  have keepB : ∀ {σ' : L2.St} {H' : Hp} {s' : Shared}, Inv (bCx X z Z sc L cl fp) [] σ' H' s' → (∀ b ∈ fp, H' b = none) → ∀ b ∈ fp, FpOk (bCx X z Z sc L cl fp) [] H' b := fun {σ' H' s'} J0 nn b hb =>
    ⟨nn b hb, (J0.ok.exf b hb).1, J0.ok.exfs b hb, .inl hb, fun y d k => (J0.ok.exf b hb).2 y d k, fun p hp => by
      have hp : p ∈ ([] : List (Addr × Obj)) ++ [] := hp
      simp at hp⟩
  refine PpSet.compLoopS_any (fun m s' => ∃ i H', Inv (bCx X z Z sc L cl fp) [] (wipe τ (own.map (·.2))) H' s' ∧ tn i s'.heap ∧ (∀ b ∈ fp, H' b = none) ∧ W i m H') ?_ m₀ ⟨0, Z, IS, tS, fun b hb => (fZ b hb).1, w₀⟩
  intro m s1 ⟨i, H1, I1, t1, n1, w1⟩
  cases turn i m H1 w1 with
  | inl hs =>
    refine thnF (T.done (bCx X z Z sc L cl fp) rfl rfl rfl hc i [] s1 _ H1 (fun _ _ => False) I1 (keepB I1 n1) t1 hs.1) fun r s2 hr => ?_
    rw [hr.1]
    have IX : Inv X pins τ H1 s2 := IZ.call' (ch := fp) hr.2.os hr.2.base hr.2.hok hr.2.bare fun b hb => by
      obtain ⟨_, q1, _, q3, q4, q5⟩ := fZ b hb
      exact ⟨q3, q1, q4, q5⟩
    have nL : H1 L = none := by
      have q := hr.2.free
      rw [show (bCx X z Z sc L cl fp).env.locals = L from hL] at q
      exact q
    obtain ⟨mm, hmm, _⟩ := hr.2.loc
    rw [show (bCx X z Z sc L cl fp).env.locals = L from hL] at hmm
    exact fin s2 mm H1 IX hs.2 hmm (IZ.fpOk hLz nL)
  | inr hg =>
    obtain ⟨hgo, Nx, hNx, hstep⟩ := hg
    refine thnF (T.item (bCx X z Z sc L cl fp) rfl rfl rfl hc i [] s1 _ H1 (fun _ _ => False) I1 (keepB I1 n1) t1 hgo) fun r s2 ⟨u, hr, q2⟩ => ?_
    rw [hr]
    refine thnF q2 fun _ s3 ⟨x, H3, I3, r3, y3, t3, n3⟩ => ?_
    refine thnF (pg.run _ s3 _ H3 x u _ (I3.pinned (keepB I3 n3) (T.obj _ _ t3)) r3 (hstep x H3 y3)) fun _ s4 ⟨σ4, H4, I4, hw, q4⟩ => ?_
    have q4 : (if true = true then te σ4 H4 fun y H5 => ∃ (c : Int) (S : Int → Bool) (n : Nat), y = .int c ∧ H5 D = some (SetO X.w D S n) ∧ n + 1 < scanBound ∧ Nx (upd H5 D (SetO X.w D (fun j => S j || decide (j = c)) (if S c = true then n else n + 1))) else False) := by
      rw [if_pos rfl]
      exact q4
    refine thnF ((pts_nil (X := bCx X z Z sc L cl fp)).run _ s4 σ4 H4 (fun b H5 => if b = true then te σ4 H5 fun y H6 => ∃ (c : Int) (S : Int → Bool) (n : Nat), y = .int c ∧ H6 D = some (SetO X.w D S n) ∧ n + 1 < scanBound ∧ Nx (upd H6 D (SetO X.w D (fun j => S j || decide (j = c)) (if S c = true then n else n + 1))) else False) I4 q4) fun b s5 ⟨H5, I5, q5⟩ => ?_
    have back : ∀ {s' : Shared} {H' : Hp}, Inv (bCx X z Z sc L cl fp) ([] ++ pinsAt fp s3.heap) σ4 H' s' → Nx H' → ∃ k, k < m ∧ ∃ i H', Inv (bCx X z Z sc L cl fp) [] (wipe τ (own.map (·.2))) H' s' ∧ tn i s'.heap ∧ (∀ b ∈ fp, H' b = none) ∧ W i k H' := fun {s' H'} JJ nx => by
      obtain ⟨k, hk, wk⟩ := hNx H' nx
      have pn : ∀ b ∈ fp, ∀ o, s3.heap.get? b = some o → s'.heap.get? b = some o ∧ H' b = none := fun b hb o ho => by
        obtain ⟨p1, p2, _⟩ := JJ.pin (b, o) (List.mem_append_right _ (List.mem_append_right _ (mem_pinsAt hb ho)))
        exact ⟨p1, p2⟩
      refine ⟨k, hk, i + 1, H', (JJ.unpinned (pins := [])).weak (by rw [← hw, wipe_length]) (fun j v hj => ?_), T.keep _ _ _ t3 fun b hb o ho => (pn b hb o ho).1, fun b hb => ?_, wk⟩
      · rw [← hw] at hj
        exact (wipe_some hj).1
      · obtain ⟨o, ho, _⟩ := T.obj _ _ t3 b hb
        exact (pn b hb o ho).2
    cases b with
    | false => exact absurd q5 (by rw [if_neg Bool.false_ne_true]; exact id)
    | true =>
      rw [if_pos rfl] at q5
      rw [if_pos rfl]
      refine thnF (pe.run _ s5 σ4 H5 _ I5 q5) fun v s6 ⟨y, H6, I6, r6, c, S, n, ey, isD, room, nx⟩ => ?_
      subst ey
      obtain ⟨tk, rfl⟩ := r6
      exact setI_add (X := bCx X z Z sc L cl fp) I6 isD room fun s7 I7 => back I7 nx
theorem scI_core {pins : List (Addr × Obj)} {s : Shared} {τ : L2.St} {H : Hp} {Q : VK} {e tg iter : Expr} {sc : Scope} {own : List (Str × Nat)} {pos pos' : Pos} {wi : TI} {g : TG} {te : TE} {use : Option (Value → Sem Unit)} {Qf : Value → Shared → Prop}
    (hc : X.calm = true) (hN : X.N.Nodup) (I : Inv X pins τ H s) (hi : PI X tg iter wi) (ok : BlkOk X.N X.env.scope sc own)
    (hg : ∀ (z : Shared) (Z : Hp) (L : Addr) (cl : List (Str × Addr)) (fp : List Addr), PG (bCx X z Z sc L cl fp) tg g) (he : ∀ (z : Shared) (Z : Hp) (L : Addr) (cl : List (Str × Addr)) (fp : List Addr), PE (bCx X z Z sc L cl fp) e te) (hs : ∀ x, foldedSetIterable iter X.env x = pure x)
    (h : tScI X.w wi g te (own.map (·.2)) τ H Q)
    (hR : ∀ D L s' m H', Inv X pins τ H' s' → Q (.ref D) H' → s'.heap.Ns L m → FpOk X pins H' L → compPost (model X.prog X.w) X.A X.xe use Qf (.ref D) L (.ok .next) s') :
    wpAny (model X.prog X.w) X.A (comprehension (.SetComp e [⟨tg, iter, [], 0⟩] sc pos) sc X.env pos' (newSet (.type "set")) false (eval iter X.env) use) Qf X.xe s := by
  have hf : ∀ y ∈ sc.names, y.2 = .free → ∃ d, X.env.cells.lookup y.1 = some d := fun y hy k => (ok.free y hy k).elim (fun q => I.ok.has _ (.inl q)) fun q => I.ok.has _ (.inr q)
  refine wpAny_comprehension_free (use := use) rfl hs (closure_ok hf) ok.kind (fun y hy k => by rw [ok.uniq y hy, k]) ?_
  refine thn (hi.run pins s τ H _ I h) fun _ s1 h1 => thn h1 fun itv s2 h2 => ?_
  obtain ⟨it, fp, tn, J, H2, rfl, I2, T, t2, f2, q⟩ := h2
  refine PpSet.newSet_ok (newEnv_comp ?_)
  have nD : H2 s2.heap.objs.size = none := I2.hok.fresh (Nat.le_refl _)
  obtain ⟨W, ⟨m₀, w₀⟩, turn⟩ := q _ nD
  have push : ∀ b o, s2.heap.get? b = some o → (s2.heap.push (Rz.eS X.w)).get? b = some o := fun b o k => Heap.get?_push_of_some _ k
  have I3 : Inv X pins τ (upd H2 s2.heap.objs.size (SetO X.w s2.heap.objs.size (fun _ => false) 0)) { s2 with heap := s2.heap.push (Rz.eS X.w) } :=
    I2.laid (t' := s2.toks) push (Nat.le_refl _) (setO_new (setR_fresh X.w))
  have f3 : ∀ b ∈ fp, FpOk X pins (upd H2 s2.heap.objs.size (SetO X.w s2.heap.objs.size (fun _ => false) 0)) b ∧ b < (s2.heap.push (Rz.eS X.w)).objs.size := fun b hb => by
    obtain ⟨o, ho, _⟩ := T.obj _ _ t2 b hb
    have lt := Heap.lt_size ho
    refine ⟨⟨?_, (f2 b hb).2⟩, ?_⟩
    · rw [upd_ne (Nat.ne_of_lt lt)]
      exact (f2 b hb).1
    · rw [Heap.size_push]
      exact Nat.lt_succ_of_lt lt
  have IS := block_start I3 ok hN f3
  have t3 := T.keep _ _ (pushCells ((s2.heap.push (Rz.eS X.w)).push { cls := .type "dict", data := .dict #[] }) sc.names) t2 fun b _ o ho => pushCells_keeps _ _ _ _ (Heap.get?_push_of_some _ (push b o ho))
  have go := scI_loop (own := own) (e := e) (it0 := iter) (pos := pos) (Q := Q) (D := s2.heap.objs.size) (R := compPost (model X.prog X.w) X.A X.xe use Qf (.ref s2.heap.objs.size) (s2.heap.push (Rz.eS X.w)).objs.size) hc T I3 (fun b hb => (f3 b hb).1) rfl (Nat.le_refl _) (hg _ _ _ _ _) (he _ _ _ _ _) IS t3 w₀ turn
    (fun s' m H' I' q' hm hl => hR _ _ s' m H' I' q' hm hl)
  exact PpSet.codeAny_compStart_set go (T.self X.A 0 _ _ _ t3 go)
/-- as a value -/
theorem pe_scI {e tg iter : Expr} {sc : Scope} {own : List (Str × Nat)} {pos : Pos} {wi : TI} {g : TG} {te : TE} (hc : X.calm = true) (hN : X.N.Nodup) (hi : PI X tg iter wi) (ok : BlkOk X.N X.env.scope sc own)
    (hg : ∀ (z : Shared) (Z : Hp) (L : Addr) (cl : List (Str × Addr)) (fp : List Addr), PG (bCx X z Z sc L cl fp) tg g) (he : ∀ (z : Shared) (Z : Hp) (L : Addr) (cl : List (Str × Addr)) (fp : List Addr), PE (bCx X z Z sc L cl fp) e te) (hs : ∀ x, foldedSetIterable iter X.env x = pure x := by intro _; rfl) :
    PE X (.SetComp e [⟨tg, iter, [], 0⟩] sc pos) (tScI X.w wi g te (own.map (·.2))) := by
  refine ⟨fun pins s σ H Q I h => ?_⟩
  rw [PpSet.eval_SetComp]
  refine scI_core hc hN I hi ok hg he hs h fun D L s' m H' I' q hn f => ⟨m, hn, fun h'' sb => ?_⟩
  obtain ⟨f0, f1, _, f3, f4, f5⟩ := f
  exact ⟨.ref D, H', I'.turned (t' := s'.toks) (fun b o hb k => (sb.2 b hb).trans k) f0 f1 f3 f4 f5, rfl, q⟩
/-- over a list that the block leaves as it is -/
theorem scI_list {w : World} {K : PySem.W.Frag} {a : Addr} {xs : List V} {g : TG} {te : TE} {vs : List Nat} {σ : L2.St} {H1 : Hp} {D : Addr} {Qd : Hp → Prop} (Pv : Nat → Hp → Prop) (start : Pv 0 (upd H1 D (SetO w D (fun _ => false) 0))) (isl : ∀ i H, i ≤ xs.length → Pv i H → SqL K H a xs)
    (step : ∀ i x H, xs[i]? = some x → Pv i H → g x (wipe σ vs) H fun σ2 H2 => wipe σ2 vs = wipe σ vs ∧
      te σ2 H2 fun y H4 => ∃ (c : Int) (S : Int → Bool) (n : Nat), y = .int c ∧ H4 D = some (SetO w D S n) ∧ n + 1 < scanBound ∧ Pv (i + 1) (upd H4 D (SetO w D (fun j => S j || decide (j = c)) (if S c = true then n else n + 1)))) (done : ∀ H, Pv xs.length H → Qd H) :
    ∃ W : Nat → Nat → Hp → Prop, (∃ m, W 0 m (upd H1 D (SetO w D (fun _ => false) 0))) ∧ ∀ i m H, W i m H →
      ((Itl K a).stop i H ∧ Qd H) ∨ ((Itl K a).go i H ∧ ∃ Nx : Hp → Prop, (∀ H', Nx H' → ∃ m', m' < m ∧ W (i + 1) m' H') ∧ ∀ x H', (Itl K a).yld i H x H' → g x (wipe σ vs) H' fun σ2 H2 => wipe σ2 vs = wipe σ vs ∧
        te σ2 H2 fun y H4 => ∃ (c : Int) (S : Int → Bool) (n : Nat), y = .int c ∧ H4 D = some (SetO w D S n) ∧ n + 1 < scanBound ∧ Nx (upd H4 D (SetO w D (fun j => S j || decide (j = c)) (if S c = true then n else n + 1)))) := by
  refine ⟨fun i m H => m = xs.length - i ∧ i ≤ xs.length ∧ Pv i H, ⟨_, rfl, Nat.zero_le _, start⟩, fun i m H ⟨em, le, p⟩ => ?_⟩
  subst em
  have q := isl i H le p
  rcases Nat.lt_or_ge i xs.length with lt | ge
  · refine .inr ⟨⟨xs, xs[i], q, List.getElem?_eq_getElem lt⟩, Pv (i + 1), fun H' p' => ⟨_, by omega, rfl, lt, p'⟩, fun x H' y => ?_⟩
    obtain ⟨ex, y⟩ := y
    subst ex
    exact step i x _ (y xs q) p
  · obtain rfl : i = xs.length := by omega
    exact .inl ⟨⟨xs, q, Nat.le_refl _⟩, done H p⟩
end
end Rl
/-! x, *y = a tuple; o.m( *e), e a list. -/
namespace Rz
open PySem PySem.Spec PyProof.Rows L2
section
variable {P : Program} {w : World} {A : Around} {E : Value → Shared → Prop} {s : Shared}
theorem first_rest {l : Addr} {xs : Array Value} {u : Value} {us : List Value} {Q : List Value → Shared → Prop} (quiet : A.handled = none) (isT : IsTup s.heap l xs) (exs : xs.toList = u :: us) (few : xs.size ≤ 1000)
    (fin : ∀ (h2 : Heap) (tk : Nat), (∀ b o, s.heap.get? b = some o → h2.get? b = some o) → Q [u, .ref h2.objs.size] { s with heap := h2.push { cls := .type "list", data := .seq us.toArray }, toks := tk }) :
    wpAny (model P w) A (unpackItems (.ref l) 2 (some 1)) Q E s := by
  have lt : l < s.heap.objs.size := by
    obtain ⟨o, ho, _⟩ := isT
    exact Heap.lt_size ho
  have ne : l ≠ s.heap.objs.size := Nat.ne_of_lt lt
  have size : xs.size = us.length + 1 := by rw [← Array.length_toList, exs, List.length_cons]
  unfold unpackItems
  refine wpAny_bind ?_
  unfold notIterableAtAll
  refine wpAny_bind (wpAny_specialOf isT.typeIs PyProof.Rows.slot_tuple_iter.lookup (wpAny_pure ?_))
  simp only [Bool.false_eq_true, if_false]
  refine wpAny_bind (wpAny_holding (iter_tuple isT ?_))
  refine wpAny_bind (wpAny_holding (draw_tuple ne 1 0 _ _ ⟨_, Heap.get?_push_size _ rfl, rfl, rfl⟩ (isT.push _) (by omega) fun h1 it1 but => ?_))
  have isT1 : IsTup h1 l xs := (isT.push _).extBut but.extBut ne
  rw [Nat.zero_add] at it1
  obtain ⟨oi, hoi, _⟩ := id it1
  obtain ⟨ol, hol, _⟩ := id isT1
  rw [List.drop_zero]
  have one : (xs.toList.take 1).length = 1 := by rw [exs]; rfl
  rw [if_neg (show ¬ ((xs.toList.take 1).length < 1) by rw [one]; decide)]
  refine wpAny_bind (wpAny_holding (PySem.W.kun_collect (s := { s with heap := h1 }) (T := "tuple_iterator") (.inr (.inr (.inr rfl))) (Walks.tuple (A := A.in1) quiet s.heap.objs.size l ne xs) (fun j v st => st.1.typeIs) (k := 1) (by omega) ⟨it1, isT1⟩ (Heap.lt_size hoi) (Heap.lt_size hol) (fun h2 tk keep => ?_) (by rw [sizeLine_eq]; omega)))
  have tl : xs.toList.drop 1 = us := by rw [exs]; rfl
  have hd : xs.toList.take 1 = [u] := by rw [exs]; rfl
  rw [tl, hd]
  have e2 : us.length - (2 - 1 - 1) = us.length := by omega
  show wpAny _ _ (if us.length < 2 - 1 - 1 then _ else _) _ _ _
  rw [if_neg (by omega)]
  show wpAny _ _ (newList (us.take (us.length - (2 - 1 - 1))) >>= fun d => pure ([u] ++ [d] ++ us.drop (us.length - (2 - 1 - 1)))) _ _ _
  rw [e2, List.take_length, List.drop_length]
  have k1 : ∀ b o, s.heap.get? b = some o → h2.get? b = some o := fun b o hb => keep b o (Nat.ne_of_lt (Heap.lt_size hb)) (but.extBut b o (Nat.ne_of_lt (Heap.lt_size hb)) (Heap.get?_push_of_some _ hb))
  refine wpAny_bind (wpAny_newObj_type (wpAny_pure (fin h2 tk k1)) ?_)
  show us.length ≤ sizeLine
  rw [sizeLine_eq]
  omega
end
section
variable {X : Cx}
/-- x, *y = a tuple of at least one item -/
def gStar1 (K : PySem.W.Frag) (t1 t2 : TG) : TG := fun v σ H Q => ∃ (a : Addr) (x : V) (xs : List V), v = .ref a ∧ SqT K H a (x :: xs) ∧ xs.length < 900 ∧ ∀ D, H D = none → t1 x σ (upd H D (.lst xs)) fun σ2 H2 => t2 (.ref D) σ2 H2 Q
theorem pg_star1 {e1 e2 : Expr} {k : Nat} {pos : Pos} {t1 t2 : TG} (hc : X.calm = true) (h1 : PG X e1 t1) (h2 : PG X e2 t2) {q : Pos}
    (hn : (assignEach [e1, .Starred e2 q] X.env).length = 2 := by rfl) (hst : (assignEach [e1, .Starred e2 q] X.env).findIdx? (·.1) = some 1 := by rfl)
    (ha : (assignEach [e1, .Starred e2 q] X.env).map (·.2) = [assign e1 X.env, assign e2 X.env] := by rfl) : PG X (.Tuple [e1, .Starred e2 q] k pos) (gStar1 X.K t1 t2) := by
  refine ⟨fun pins s σ H v u Q I r hw => ?_⟩
  obtain ⟨a, x, xs, rfl, hq, few, hw⟩ := hw
  cases r
  obtain ⟨its, rv, isT, hz⟩ := I.tuple hq
  cases rv with
  | cons rx rr =>
    rename_i ux us
    rw [arm_assign_Tuple]
    refine wpAny_bind (wpAny_standAt ?_)
    unfold unpack
    rw [hn, hst, ha]
    have lenr := rr.length
    refine wpAny_bind (wpAny_holding (first_rest (u := ux) (us := us) (I.ok.hd hc) isT (by simp) (by simp; omega) fun h' tk keep => ?_))
    have I0 : Inv X pins σ H { s with heap := h', toks := tk } := I.kept (t' := tk) keep
    have I1 : Inv X pins σ (upd H h'.objs.size (.lst xs)) { s with heap := h'.push { cls := .type "list", data := .seq us.toArray }, toks := tk } := I0.laid (t' := tk) (fun b o z => Heap.get?_push_of_some _ z) (Nat.le_refl _) ⟨by rw [sizeLine_eq]; omega, us, 0, rr, Heap.get?_push_size _ rfl⟩
    refine assignInOrder_cons (thn (h1.run pins _ σ _ x ux _ I1 rx (hw _ (I0.hok.fresh (Nat.le_refl _)))) fun _ s2 ⟨σ2, H2, I2, q2⟩ => ?_)
    exact assignInOrder_cons (thn (h2.run pins s2 σ2 H2 (.ref h'.objs.size) (.ref h'.objs.size) _ I2 rfl q2) fun _ s3 q3 => assignInOrder_nil q3)
/-- o.m( *e), e a list -/
def tMethSL (K : PySem.W.Frag) (C : Addr) (m : Str) (g : Addr) (sp : Sp) (E : XK) (ta te : TE) : TE := fun σ H Q => ta σ H fun x H1 => ∃ a dx fs, x = .ref a ∧ H1 a = some (.ins C dx fs) ∧ fs.lookup m = none ∧
  ∀ q, H1 q = none → te σ (upd H1 q (.met g a)) fun y H2 => ∃ b vs, y = .ref b ∧ SqL K H2 b vs ∧ H2 q = some (.met g a) ∧ sp (.ref a :: vs) H2 Q E
theorem pe_methSL {CX : CXT} {k : Nat} {C g : Addr} {m : Str} {sp : Sp} {E : XK} {o e : Expr} {ta te : TE} {p apos pos : Pos} (ho : PE X o ta) (c : Cls X.K C) (b : BMeth X.K C m g) (F : FnR X.prog X.w X.K X.mg X.base CX k g sp) (hr : Room k X.A)
    (hx : Passes CX X E) (he : PE X e te) (hb : attributeBase o m X.env (eval o X.env) = eval o X.env := by rfl) : PE X (.Call (.Attribute o m apos) [.Starred e p] [] pos) (tMethSL X.K C m g sp E ta te) := by
  refine ⟨fun pins s σ H Q I h => starcall_of hb (thn (ho.run pins s σ H _ I h) fun u s1 hu => ?_)⟩
  obtain ⟨x, H1, I1, rx, a, dx, fs, rfl, at1, l, q⟩ := hu
  obtain rfl : u = Value.ref a := rx
  refine getbound_ok I1 at1 c b l fun mt s2 fresh I2 => ?_
  refine PySem.W.ks_call (P := PySem.W.MethP X.K mt g (.ref a)) rfl (PySem.W.keeps_M b.fi) (PySem.W.ks_lone ?_)
  refine thn (he.run pins s2 σ _ _ I2 (q mt fresh)) fun v s3 hv => ?_
  obtain ⟨y, H2, I3, ry, t, vs, rfl, ht, hm, call⟩ := hv
  obtain rfl : v = Value.ref t := ry
  refine StX.star_lst I3 ht fun us s4 I4 rv => ⟨met_P I4 hm, ?_⟩
  refine wpAny_call (PySem.W.method_call (met_P I4 hm).1 ?_)
  exact run_fnR (us := Value.ref a :: us) (vs := V.ref a :: vs) F hr hx I4 (.cons rfl rv) call
end
end Rz
/-! Observers of days that are not known. -/
namespace Rp
open PySem PySem.Spec PyProof.Rows L2 Rz Rm Rl
/-- an observer's attributes -/
def obF (r : Int) (rl ol : Addr) : List (Str × V) := [("_reader", .int r), ("_rings", .ref rl), ("_observations", .ref ol)]
theorem obF_r (r : Int) (rl ol : Addr) : (obF r rl ol).lookup ("_reader" : Str) = some (.int r) := by rfl
theorem obF_g (r : Int) (rl ol : Addr) : (obF r rl ol).lookup ("_rings" : Str) = some (.ref rl) := by rfl
theorem obF_o (r : Int) (rl ol : Addr) : (obF r rl ol).lookup ("_observations" : Str) = some (.ref ol) := by rfl
theorem obF_put (r : Int) (rl ol nl : Addr) : putF "_rings" (.ref nl) (obF r rl ol) = obF r nl ol := by rfl
/-- rings with these days of one reader -/
def Rgs (C : Addr) (H : Hp) (r : Nat) (ra : List Addr) (lf : List Int) (ds ss : List Int) : Prop :=
  ra.length = lf.length ∧ ∀ (i : Nat) (a : Addr) (d : Int), ra[i]? = some a → lf[i]? = some d → 1 ≤ d ∧ d ≤ 30 ∧ ∃ dx td ts, RingAt C H a dx td ts (ds.set r d) ss
structure Ob (C dC : Addr) (H : Hp) (o dx rl ol : Addr) (r : Nat) (ra : List Addr) (lf ds ss : List Int) (os : List V) : Prop where
  ob : H o = some (.ins dC dx (obF (r : Int) rl ol))
  hr : H rl = some (.lst (ra.map V.ref))
  ho : H ol = some (.lst os)
  rg : Rgs C H r ra lf ds ss
  ne : lf ≠ []
  l30 : lf.length ≤ 30
  rlt : r < ds.length
  l8 : ds.length ≤ 8
  few : os.length ≤ 500
/-- all but the observer and its list of observations stays -/
def KO (o ol : Addr) (H H' : Hp) : Prop := ∀ b x, H b = some x → b ≠ o → b ≠ ol → H' b = some x
theorem Same.ko {o ol : Addr} {H H' : Hp} (s : Same H H') : KO o ol H H' := fun b x h _ _ => s b x h
theorem Rgs.mono {C : Addr} {H H' : Hp} {r : Nat} {ra : List Addr} {lf ds ss : List Int} (h : Rgs C H r ra lf ds ss) (k : ∀ a dx td ts es, RingAt C H a dx td ts es ss → RingAt C H' a dx td ts es ss) : Rgs C H' r ra lf ds ss :=
  ⟨h.1, fun i a d h1 h2 => by
    obtain ⟨d1, d2, dx, td, ts, R⟩ := h.2 i a d h1 h2
    exact ⟨d1, d2, dx, td, ts, k _ _ _ _ _ R⟩⟩
section
variable {C dC : Addr} {H H' : Hp} {o dx rl ol : Addr} {r : Nat} {ra : List Addr} {lf ds ss : List Int} {os : List V}
theorem Rgs.same (h : Rgs C H r ra lf ds ss) (s : Same H H') : Rgs C H' r ra lf ds ss := h.mono fun _ _ _ _ _ R => R.same s
theorem Ob.same (b : Ob C dC H o dx rl ol r ra lf ds ss os) (s : Same H H') : Ob C dC H' o dx rl ol r ra lf ds ss os := ⟨s _ _ b.ob, s _ _ b.hr, s _ _ b.ho, b.rg.same s, b.ne, b.l30, b.rlt, b.l8, b.few⟩
/-- the first ring -/
theorem Ob.first (b : Ob C dC H o dx rl ol r ra lf ds ss os) : ∃ a d dx' td ts, ra[0]? = some a ∧ RingAt C H a dx' td ts (ds.set r d) ss := by
  have h0 : 0 < lf.length := List.length_pos_iff.mpr b.ne
  have h1 : 0 < ra.length := by rw [b.rg.1]; exact h0
  obtain ⟨_, _, dx', td, ts, R⟩ := b.rg.2 0 _ _ (List.getElem?_eq_getElem h1) (List.getElem?_eq_getElem h0)
  exact ⟨_, _, dx', td, ts, List.getElem?_eq_getElem h1, R⟩
theorem Rgs.get (h : Rgs C H r ra lf ds ss) {i : Nat} {x : V} (hx : (ra.map V.ref)[i]? = some x) : ∃ a d dx' td ts, x = .ref a ∧ ra[i]? = some a ∧ lf[i]? = some d ∧ 1 ≤ d ∧ d ≤ 30 ∧ RingAt C H a dx' td ts (ds.set r d) ss := by
  rw [List.getElem?_map] at hx
  cases e : ra[i]? with
  | none => rw [e] at hx; cases hx
  | some a =>
    rw [e] at hx
    have hi : i < lf.length := by rw [← h.1]; exact (List.getElem?_eq_some_iff.mp e).1
    obtain ⟨d1, d2, dx', td, ts, R⟩ := h.2 i a _ e (List.getElem?_eq_getElem hi)
    exact ⟨a, _, dx', td, ts, (Option.some.inj hx).symm, rfl, List.getElem?_eq_getElem hi, d1, d2, R⟩
end
theorem pe_fldB {X : Cx} {K : PySem.W.Frag} {o : Expr} {ta : TE} {f : Str} {pos : Pos} (ha : PE X o ta) (hK : X.K = K) (hab : attributeBase o f X.env (eval o X.env) = eval o X.env) : PE X (.Attribute o f pos) (tFld K ta f) := by
  subst hK
  exact pe_fld ha hab
/-- the end of a reading when the reader at r needs d days -/
noncomputable def En (ds ss : List Int) (r : Nat) (d k x : Int) : Int := Rm.E (at' (ds.set r d)) (at' ss) k x
theorem at_set {ds : List Int} {r : Nat} {d : Int} (h : r < ds.length) : at' (ds.set r d) r = d := by
  exact at_nat (by rw [List.getElem?_set_self (by exact h)])
section
variable {P : Program} {w : World} {K : PySem.W.Frag} {mg : Str → Option Value} {base : Heap}
/-! ### _check_reading -/
def spCr (C dC : Addr) : Sp := fun vs H Q _ => ∃ (o dx rl ol : Addr) (r : Nat) (ra : List Addr) (lf ds ss : List Int) (os : List V) (k x : Int), vs = [.ref o, .int k, .int x] ∧ Ob C dC H o dx rl ol r ra lf ds ss os ∧ 0 ≤ k ∧ k < ds.length ∧ 0 ≤ x ∧ x ≤ 1000 ∧ Q .non H
theorem ok_cr (T : Tx K mg) : FnOk P w K mg base CX0 4 T.a_dcheck_reading T.d_dcheck_reading P_dcheck_reading (spCr T.C T.dC) := by
  refine T.F_dcheck_reading.ok sc_dcheck_reading (fun vs H Q E h => ?_) (fun cdv A outer s H vs Q E hr h => ?_)
  · obtain ⟨o, dx, rl, ol, r, ra, lf, ds, ss, os, k, x, rfl, _⟩ := h
    rfl
  · obtain ⟨o, dx, rl, ol, r, ra, lf, ds, ss, os, k, x, rfl, b, k0, k1, x0, x1, q⟩ := h
    obtain ⟨u1, c1⟩ := T.c_LATEST
    refine ⟨_, pss_cons (ps_expr (pe_call (ok_reader T) hr (by rfl) T.g_check_reader T.F_check_reader.kp T.b_check_reader .nil pass0 (pa_cons (pe_ix ix_list (pe_fld (pv 0) rfl) pe_int (fun _ _ => rfl)) (pa_cons (pv 1) pa_nil))))
      (pss_one (ps_expr (pe_call (ok_chk T) hr (by rfl) T.g_check_number T.F_check_number.kp T.b_check_number .nil pass0 (pa_cons (pv 2) (pa_cons pe_int (pa_cons (pe_glob (v := .int 1000000000000000000) (by rfl) c1 ⟨_, rfl⟩) pa_nil)))))), ?_⟩
    obtain ⟨a, d, dx', td, ts, ha, R⟩ := b.first
    refine ⟨_, rfl, o, _, dx, _, _, rfl, b.ob, T.clD, T.nRg, obF_g _ _ _, rl, _, 0, .ref a, rfl, rfl, .of b.hr, atI_nat (j := 0) (by rw [List.getElem?_map, ha]; rfl), ?_⟩
    refine ⟨_, rfl, a, dx', td, ts, ds.set r d, ss, k, rfl, R, k0, by rw [List.length_set]; exact k1, ?_⟩
    exact ⟨_, rfl, x, 0, _, rfl, x0, by omega, q⟩
/-! ### possible_days -/
def spPd (C dC : Addr) : Sp := fun vs H Q _ => ∃ (o dx rl ol : Addr) (r : Nat) (ra : List Addr) (lf ds ss : List Int) (os : List V), vs = [.ref o] ∧ Ob C dC H o dx rl ol r ra lf ds ss os ∧ ∀ H' l, Same H H' → H' l = some (.lst (lf.map V.int)) → Q (.ref l) H'
theorem ok_pd (T : Tx K mg) : FnOk P w K mg base CX0 3 T.a_dpossible_days T.d_dpossible_days P_dpossible_days (spPd T.C T.dC) := by
  refine T.F_dpossible_days.ok sc_dpossible_days (fun vs H Q E h => ?_) (fun cdv A outer s H vs Q E hr h => ?_)
  · obtain ⟨o, dx, rl, ol, r, ra, lf, ds, ss, os, rfl, _⟩ := h
    rfl
  · obtain ⟨o, dx, rl, ol, r, ra, lf, ds, ss, os, rfl, b, q⟩ := h
    have nd := sc_dpossible_days.nd
    refine ⟨_, pss_one (ps_ret (pe_lc (own := [("ring", 1)]) rfl nd (pi_list (pe_fld (pv 0) rfl)) (blkOk_by (N := N_dpossible_days) (sc := defScope s_dpossible_days) (by decide +kernel)) (fun _ _ _ _ _ => pg_name (i := 1) nd rfl (.inl rfl)) (fun _ _ _ _ _ => pts_nil)
      (fun _ _ _ _ _ => pe_ix (r := rIxT K) ix_tup (pe_prop (pv 1) T.cl T.q_rdays (ok_days T) (hr.mono (by decide : 2 ≤ 2)) T.b_rdays .nil pass0 rfl) (pe_fldB (K := K) (pv 0) rfl rfl) (fun _ _ => rfl)))), ?_⟩
    refine ⟨_, rfl, o, _, dx, _, _, rfl, b.ob, T.clD, T.nRg, obF_g _ _ _, rl, rfl, ⟨_, .of b.hr⟩, fun D hD => lc_list (xs := ra.map V.ref) (fun i H' => Same H H' ∧ H' D = some (.lst ((lf.take i).map V.int))) ⟨same_upd hD, upd_same⟩ (fun i H' _ p => .of (p.1 _ _ b.hr)) ?_ ?_⟩
    · rintro i x H1 hi ⟨s1, h1⟩
      obtain ⟨a, d, dx', td, ts, rfl, ha, hd, d1, d2, R⟩ := (b.rg.same s1).get hi
      refine ⟨rfl, lc_keep ?_⟩
      have hlt : i < lf.length := (List.getElem?_eq_some_iff.mp hd).1
      have l30 := b.l30
      refine ⟨_, rfl, a, dx', _, rfl, R.ob, a, dx', td, ts, ds.set r d, ss, rfl, R, _, rfl, o, _, dx, _, _, rfl, s1 _ _ b.ob, T.clD, T.nRd, obF_r _ _ _, td, _, (r : Int), .int d, rfl, rfl, .of R.td, ?_, (lf.take i).map V.int, h1, ?_, ?_⟩
      · refine at_of (j := r) rfl ?_
        rw [List.getElem?_map, List.getElem?_set_self b.rlt]
        rfl
      · rw [List.length_map, List.length_take]
        exact small1000 (by omega)
      · refine ⟨fun c z e => ?_, ?_⟩
        · rw [upd_ne (ne_of_none e hD)]
          exact s1 c z e
        · rw [upd_same, List.take_add_one, hd, map_snoc]
          rfl
    · rintro H1 ⟨s1, h1⟩
      rw [List.length_map, b.rg.1, List.take_length] at h1
      exact q H1 D s1 h1
/-! ### observations -/
def spOs (C dC : Addr) : Sp := fun vs H Q _ => ∃ (o dx rl ol : Addr) (r : Nat) (ra : List Addr) (lf ds ss : List Int) (os : List V), vs = [.ref o] ∧ Ob C dC H o dx rl ol r ra lf ds ss os ∧ ∀ H' l, Same H H' → H' l = some (.lst os) → Q (.ref l) H'
theorem ok_os (T : Tx K mg) : FnOk P w K mg base CX0 1 T.a_dobservations T.d_dobservations P_dobservations (spOs T.C T.dC) := by
  refine T.F_dobservations.ok sc_dobservations (fun vs H Q E h => ?_) (fun cdv A outer s H vs Q E hr h => ?_)
  · obtain ⟨o, dx, rl, ol, r, ra, lf, ds, ss, os, rfl, _⟩ := h
    rfl
  · obtain ⟨o, dx, rl, ol, r, ra, lf, ds, ss, os, rfl, b, q⟩ := h
    refine ⟨_, pss_one (ps_ret (pe_callTy (T := "list") call_list_of (by rfl) T.z_list (by decide +kernel) (pa_cons (pe_fld (pv 0) rfl) pa_nil))), ?_⟩
    exact ⟨_, rfl, o, _, dx, _, _, rfl, b.ob, T.clD, T.nOb, obF_o _ _ _, ol, _, rfl, .inl (.of b.ho), fun l hl => q _ l (same_upd hl) upd_same⟩
/-! ### is_same_number -/
def spSn : Sp := fun vs H Q _ => ∃ x y : Int, vs = [.int x, .int y] ∧ Q (.bl (decide (x = y))) H
theorem ok_sn (T : Tx K mg) : FnOk P w K mg base CX0 2 T.a_is_same_number T.d_is_same_number P_is_same_number spSn := by
  refine T.F_is_same_number.ok sc_is_same_number (fun vs H Q E h => ?_) (fun cdv A outer s H vs Q E hr h => ?_)
  · obtain ⟨x, y, rfl, _⟩ := h
    rfl
  · obtain ⟨x, y, rfl, q⟩ := h
    refine ⟨_, pss_one (ps_ret (pe_and (pe_call (ok_is_number T) hr (by rfl) T.g_is_number T.F_is_number.kp T.b_is_number .nil pass0 (pa_cons (pv 0) pa_nil)) (pe_one (pe_cmpR op_eq (pv 0) (pv 1) (nomark _))))), ?_⟩
    refine ⟨_, rfl, x, rfl, true, rfl, iteT ⟨_, rfl, _, rfl, rfl, ?_⟩⟩
    have e : decide (V.int x = V.int y) = decide (x = y) := by
      by_cases h : x = y
      · rw [h, decide_eq_true rfl, decide_eq_true rfl]
      · rw [decide_eq_false h, decide_eq_false fun z => h (V.int.inj z)]
    rw [e]
    exact q
/-! ### possible_ends -/
noncomputable def ends (ds ss : List Int) (r : Nat) (lf : List Int) (k x : Int) : List Int := lf.map fun d => En ds ss r d k x
def spPe (C dC : Addr) : Sp := fun vs H Q _ => ∃ (o dx rl ol : Addr) (r : Nat) (ra : List Addr) (lf ds ss : List Int) (os : List V) (k x : Int), vs = [.ref o, .int k, .int x] ∧ Ob C dC H o dx rl ol r ra lf ds ss os ∧ 0 ≤ k ∧ k < ds.length ∧ 0 ≤ x ∧ x ≤ 1000 ∧
  ∀ (H' : Hp) (l : Addr) (ns : List Int), Same H H' → H' l = some (.lst (ns.map V.int)) → ns.Pairwise (· < ·) → (∀ y : Int, y ∈ ns ↔ y ∈ ends ds ss r lf k x) → ns.length ≤ 30 → Q (.ref l) H'
theorem ok_pe (T : Tx K mg) : FnOk P w K mg base CX0 5 T.a_dpossible_ends T.d_dpossible_ends P_dpossible_ends (spPe T.C T.dC) := by
  refine T.F_dpossible_ends.ok sc_dpossible_ends (fun vs H Q E h => ?_) (fun cdv A outer s H vs Q E hr h => ?_)
  · obtain ⟨o, dx, rl, ol, r, ra, lf, ds, ss, os, k, x, rfl, _⟩ := h
    rfl
  · obtain ⟨o, dx, rl, ol, r, ra, lf, ds, ss, os, k, x, rfl, b, k0, k1, x0, x1, q⟩ := h
    have nd := sc_dpossible_ends.nd
    refine ⟨_, pss_cons (ps_expr (pe_meth (pv 0) T.clD T.mChk (ok_cr T) hr T.b_dcheck_reading .nil pass0 (pa_cons (pv 1) (pa_cons (pv 2) pa_nil))))
      (pss_one (ps_ret (pe_callB (cr_sortedSet rfl) (by rfl) T.z_sorted (by decide +kernel) (pa_cons (pe_scI (own := [("ring", 3)]) rfl nd (pi_list (pe_fld (pv 0) rfl)) (blkOk_by (N := N_dpossible_ends) (sc := defScope s_dpossible_ends) (by decide +kernel)) (fun _ _ _ _ _ => pg_name (i := 3) nd rfl (.inl rfl))
        (fun _ _ _ _ _ => pe_call (ok_end T) (hr.mono (by decide : 3 ≤ 4)) (by rfl) T.g_end_day T.F_end_day.kp T.b_end_day .nil pass0 (pa_cons (pv 3) (pa_cons (pv 1) (pa_cons (pv 2) pa_nil))))) pa_nil)))), ?_⟩
    have l30 := b.l30
    refine ⟨_, rfl, o, dx, _, rfl, b.ob, rfl, _, rfl, _, rfl, o, dx, rl, ol, r, ra, lf, ds, ss, os, k, x, rfl, b, k0, k1, x0, x1, ?_⟩
    refine ⟨_, rfl, o, _, dx, _, _, rfl, b.ob, T.clD, T.nRg, obF_g _ _ _, rl, rfl, ⟨_, .of b.hr⟩, fun D hD => scI_list (xs := ra.map V.ref) (fun i H' => Same H H' ∧ ∃ n, n ≤ i ∧ H' D = some (SetO w D (fun j => decide (j ∈ (ends ds ss r lf k x).take i)) n)) ?_ (fun i H' _ p => .of (p.1 _ _ b.hr)) ?_ ?_⟩
    · refine ⟨same_upd hD, 0, Nat.le_refl _, ?_⟩
      rw [upd_same]
      rfl
    · rintro i v H1 hi ⟨s1, n, hn, h1⟩
      obtain ⟨a, d, dx', td, ts, rfl, ha, hd, d1, d2, R⟩ := (b.rg.same s1).get hi
      have hlt : i < lf.length := (List.getElem?_eq_some_iff.mp hd).1
      refine ⟨rfl, _, rfl, _, rfl, _, rfl, a, dx', td, ts, ds.set r d, ss, k, x, rfl, R, k0, by rw [List.length_set]; exact k1, x0, _, _, n, rfl, h1, by unfold scanBound; omega, fun c z e => ?_, (if decide (Rm.E (at' (ds.set r d)) (at' ss) k x ∈ (ends ds ss r lf k x).take i) = true then n else n + 1), ?_, ?_⟩
      · rw [upd_ne (ne_of_none e hD)]
        exact s1 c z e
      · split <;> omega
      · rw [upd_same]
        have eE : (ends ds ss r lf k x)[i]? = some (En ds ss r d k x) := by
          unfold ends
          rw [List.getElem?_map, hd]
          rfl
        have eS : (fun j => decide (j ∈ (ends ds ss r lf k x).take i) || decide (j = En ds ss r d k x)) = fun j => decide (j ∈ (ends ds ss r lf k x).take (i + 1)) := by
          funext j
          rw [List.take_add_one, eE]
          simp [List.mem_append]
        show some (SetO w D (fun j => decide (j ∈ (ends ds ss r lf k x).take i) || decide (j = En ds ss r d k x)) _) = _
        rw [eS]
    · rintro H1 ⟨s1, n, hn, h1⟩
      have le : (ends ds ss r lf k x).length = lf.length := by unfold ends; rw [List.length_map]
      rw [List.length_map, b.rg.1] at h1 hn
      have tk : (ends ds ss r lf k x).take lf.length = ends ds ss r lf k x := by rw [← le, List.take_length]
      rw [tk] at h1
      refine ⟨D, _, n, rfl, h1, by omega, fun ns p pw mem ln hp => q _ p ns (s1.trans (same_upd hp)) upd_same pw (fun y => ?_) (by omega)⟩
      rw [mem y]
      exact decide_eq_true_iff
end
end Rp
/-! Observers: what is seen; the telling number; from a log; made. -/
namespace Rp
open PySem PySem.Spec PyProof.Rows L2 Rz Rm Rl
/-- the class of an error without fields, as the program raises it -/
structure RxE (K : PySem.W.Frag) (mg : Str → Option Value) (x : Str) (D : Addr) : Prop where
  g : mg x = some (.ref D)
  xF : PySem.W.excIn K D [.type "ValueError", .type "Exception", .type "BaseException", .type "object"] "ValueError.__new__" = true
  bF : PySem.W.subIn K (.ref D) (.type "BaseException") = some true
  tF : PySem.W.typeIn K (.ref D) = some (.type "type")
  kF : PySem.W.keepIn K (.ref D) = true
/-- the days that agree, and their rings -/
structure Sub (C : Addr) (H : Hp) (nl : Addr) (r : Nat) (rb : List Addr) (lg ds ss : List Int) : Prop where
  h : H nl = some (.lst (rb.map V.ref))
  rg : Rgs C H r rb lg ds ss
section
variable {P : Program} {w : World} {K : PySem.W.Frag} {mg : Str → Option Value} {base : Heap}
/-! ### _accept -/
/-- what an accepted observation changes -/
def AcQ (C dC : Addr) (H : Hp) (o dx nl ol : Addr) (r : Nat) (rb : List Addr) (lg ds ss : List Int) (os : List V) (t : Addr) (Q : VK) : Prop :=
  ∀ H', KO o ol H H' → Ob C dC H' o dx nl ol r rb lg ds ss (os ++ [.ref t]) → Q (.int (lg.length : Nat)) H'
def spAc (C dC CC : Addr) : Sp := fun vs H Q E => ∃ (o dx rl ol : Addr) (r : Nat) (ra : List Addr) (lf ds ss : List Int) (os : List V) (t nl : Addr) (ys : List V) (rb : List Addr) (lg : List Int), vs = [.ref o, .ref t, .ref nl] ∧ Ob C dC H o dx rl ol r ra lf ds ss os ∧ os.length < 500 ∧ H t = some (.tup ys) ∧
  Sub C H nl r rb lg ds ss ∧ lg.length ≤ 30 ∧ nl ≠ ol ∧ (lg = [] → E (.ref CC) none H) ∧ (lg ≠ [] → AcQ C dC H o dx nl ol r rb lg ds ss os t Q)
theorem ok_ac {CC : Addr} (T : Tx K mg) (X : RxE K mg "Contradiction" CC) : FnOk P w K mg base (L2.CX P w) 2 T.a_daccept T.d_daccept P_daccept (spAc T.C T.dC CC) := by
  refine T.F_daccept.okX sc_daccept (fun vs H Q E h => ?_) (fun cdv A outer s H vs Q E hr h => ?_)
  · obtain ⟨o, dx, rl, ol, r, ra, lf, ds, ss, os, t, nl, ys, rb, lg, rfl, _⟩ := h
    rfl
  · obtain ⟨o, dx, rl, ol, r, ra, lf, ds, ss, os, t, nl, ys, rb, lg, rfl, b, few, ht, sb, l30, nn, q1, q2⟩ := h
    refine ⟨_, pss_cons (ps_if (pt_cmpR op_eq (pe_callB call_len_seq (by rfl) T.z_len PySem.boot_len (pa_cons (pv 2) pa_nil)) pe_int (nomark _))
        (pss_one (ps_raise rfl (takes_of rfl rfl rfl rfl) (pmk_own PySem.F.excBase_ValueError X.xF X.g X.kF (raises_own X.bF X.tF) (by exact rfl)))) pss_nil)
      (pss_cons (ps_fld (pv 0) (pv 2) rfl)
      (pss_cons (ps_expr (pe_bm PySem.F.plainAttrs_list PySem.F.slot_list_append PySem.F.type_list_append mt_append (pe_fld (pv 0) rfl) (pa_cons (pv 1) pa_nil)))
      (pss_one (ps_ret (pe_callB call_len_seq (by rfl) T.z_len PySem.boot_len (pa_cons (pv 2) pa_nil)))))), ?_⟩
    refine ⟨_, rfl, nl, _, rfl, .inl (.of sb.h), rfl, _, rfl, ?_⟩
    rw [List.length_map, sb.rg.1]
    by_cases e : lg = []
    · subst e
      exact iteT (q1 rfl)
    · have lp : 0 < lg.length := List.length_pos_iff.mpr e
      have ne0 : decide (V.int ((lg.length : Nat) : Int) = V.int 0) = false := decide_eq_false fun z => by
        have := V.int.inj z
        omega
      rw [ne0]
      refine iteF ?_
      have on : o ≠ nl := ne_of b.ob sb.h (by intro z; cases z)
      have oo : o ≠ ol := ne_of b.ob b.ho (by intro z; cases z)
      have ot : o ≠ t := ne_of b.ob ht (by intro z; cases z)
      refine ⟨_, rfl, _, rfl, o, T.dC, dx, _, rfl, b.ob, T.clD, T.nRg, (by show 3 < 1000; decide), ?_⟩
      rw [obF_put]
      have hol : (upd H o (.ins T.dC dx (obF r nl ol))) ol = some (.lst os) := (upd_ne (Ne.symm oo)).trans b.ho
      refine ⟨_, rfl, o, _, dx, _, _, rfl, upd_same, T.clD, T.nOb, obF_o _ _ _, .inl ⟨rfl, _, SqL.of hol⟩, _, rfl, ol, os, _, rfl, rfl, hol, by have := small1000 (n := 500) (by decide); omega, ?_⟩
      have hk : KO o ol H (upd (upd H o (.ins T.dC dx (obF r nl ol))) ol (.lst (os ++ [.ref t]))) := fun c z hz n1 n2 => (upd_ne n2).trans ((upd_ne n1).trans hz)
      have hnl := hk _ _ sb.h (Ne.symm on) nn
      refine ⟨_, rfl, nl, _, rfl, .inl (.of hnl), ?_⟩
      rw [List.length_map, sb.rg.1]
      refine q2 e _ hk ⟨?_, hnl, upd_same, sb.rg.mono fun c dx' td ts es R => ⟨hk _ _ R.ob (fun z => ?_) (fun z => ?_), hk _ _ R.td (fun z => ?_) (fun z => ?_), hk _ _ R.ts (fun z => ?_) (fun z => ?_), R.ok⟩, e, l30, b.rlt, b.l8, by rw [List.length_append]; simp; omega⟩
      · rw [upd_ne oo, upd_same]
      · have h1 := R.ob
        rw [z, b.ob] at h1
        injection h1 with h1
        injection h1 with h1 h2 h3
        have h4 := congrArg List.length h3
        have e3 : (obF (r : Int) rl ol).length = 3 := rfl
        have e2 : (flds td ts).length = 2 := by rfl
        omega
      · have h1 := R.ob
        rw [z, b.ho] at h1
        cases h1
      · have h1 := R.td
        rw [z, b.ob] at h1
        cases h1
      · have h1 := R.td
        rw [z, b.ho] at h1
        cases h1
      · have h1 := R.ts
        rw [z, b.ob] at h1
        cases h1
      · have h1 := R.ts
        rw [z, b.ho] at h1
        cases h1
/-! ### see_end, see_open -/
/-- the days whose rings agree with what is seen -/
noncomputable def agr (ds ss : List Int) (r : Nat) (isEnd : Bool) (k x day : Int) : Int → Bool := fun d => if isEnd then decide (En ds ss r d k x = day) else decide (day < En ds ss r d k x)
def spSee (C dC CC : Addr) (isEnd : Bool) (nm : Str) : Sp := fun vs H Q E => ∃ (o dx rl ol : Addr) (r : Nat) (ra : List Addr) (lf ds ss : List Int) (os : List V) (k x day : Int), vs = [.ref o, .int k, .int x, .int day] ∧ Ob C dC H o dx rl ol r ra lf ds ss os ∧ os.length < 500 ∧ 0 ≤ k ∧ k < ds.length ∧ 0 ≤ x ∧ x ≤ 1000 ∧ 0 ≤ day ∧ day ≤ 100000 ∧
  (lf.filter (agr ds ss r isEnd k x day) = [] → ∀ H', Same H H' → E (.ref CC) none H') ∧
  (lf.filter (agr ds ss r isEnd k x day) ≠ [] → ∀ (H' : Hp) (t nl : Addr) (rb : List Addr), KO o ol H H' → H' t = some (.tup [.str nm, .int k, .int x, .int day]) → Ob C dC H' o dx nl ol r rb (lf.filter (agr ds ss r isEnd k x day)) ds ss (os ++ [.ref t]) → Q (.int ((lf.filter (agr ds ss r isEnd k x day)).length : Nat)) H')
theorem ko_trans {o ol : Addr} {H H1 H2 : Hp} (s : Same H H1) (k : KO o ol H1 H2) : KO o ol H H2 := fun b x h n1 n2 => k b x (s b x h) n1 n2
/-- filtering rings along with their days -/
theorem rgs_next {C : Addr} {H : Hp} {r : Nat} {rb : List Addr} {lg ds ss : List Int} (h : Rgs C H r rb lg ds ss) {a dx td ts : Addr} {d : Int} (d1 : 1 ≤ d) (d2 : d ≤ 30) (R : RingAt C H a dx td ts (ds.set r d) ss) : Rgs C H r (rb ++ [a]) (lg ++ [d]) ds ss := by
  refine ⟨by rw [List.length_append, List.length_append, h.1]; rfl, fun i b e h1 h2 => ?_⟩
  by_cases hi : i < rb.length
  · rw [List.getElem?_append_left hi] at h1
    rw [List.getElem?_append_left (by rw [← h.1]; exact hi)] at h2
    exact h.2 i b e h1 h2
  · have hl := (List.getElem?_eq_some_iff.mp h1).1
    rw [List.length_append] at hl
    simp only [List.length_cons, List.length_nil] at hl
    have ei : i = rb.length := by omega
    subst ei
    rw [List.getElem?_append_right (Nat.le_refl _), Nat.sub_self] at h1
    rw [List.getElem?_append_right (by rw [h.1]; exact Nat.le_refl _), h.1, Nat.sub_self] at h2
    cases h1
    cases h2
    exact ⟨d1, d2, dx, td, ts, R⟩
theorem ref_snoc (rb : List Addr) (a : Addr) : rb.map V.ref ++ [V.ref a] = (rb ++ [a]).map V.ref := by rw [List.map_append]; rfl
theorem ok_se {CC : Addr} (T : Tx K mg) (X : RxE K mg "Contradiction" CC) : FnOk P w K mg base (L2.CX P w) 5 T.a_dsee_end T.d_dsee_end P_dsee_end (spSee T.C T.dC CC true "see_end") := by
  refine T.F_dsee_end.okX sc_dsee_end (fun vs H Q E h => ?_) (fun cdv A outer s H vs Q E hr h => ?_)
  · obtain ⟨o, dx, rl, ol, r, ra, lf, ds, ss, os, k, x, day, rfl, _⟩ := h
    rfl
  · obtain ⟨o, dx, rl, ol, r, ra, lf, ds, ss, os, k, x, day, rfl, b, few, k0, k1, x0, x1, y0, y1, q1, q2⟩ := h
    have nd := sc_dsee_end.nd
    refine ⟨_, pss_cons (ps_expr (pe_meth (pv 0) T.clD T.mChk (ok_cr T) hr T.b_dcheck_reading .nil pass0 (pa_cons (pv 1) (pa_cons (pv 2) pa_nil))))
      (pss_cons (ps_setLc (i := 4) (own := [("ring", 5)]) rfl nd rfl rfl (sw_true rfl rfl rfl (by decide +kernel)) (pi_list (pe_fld (pv 0) rfl)) (blkOk_by (N := N_dsee_end) (sc := defScope s_dsee_end) (by decide +kernel)) (fun _ _ _ _ _ => pg_name (i := 5) nd rfl (.inl rfl))
        (fun _ _ _ _ _ => pts_one (pt_val (pe_call (ok_sn T) (hr.mono (by decide : 2 ≤ 4)) (by rfl) T.g_is_same_number T.F_is_same_number.kp T.b_is_same_number .nil pass0 (pa_cons (pv 3) (pa_cons (pe_call (ok_end T) (hr.mono (by decide : 3 ≤ 4)) (by rfl) T.g_end_day T.F_end_day.kp T.b_end_day .nil pass0 (pa_cons (pv 5) (pa_cons (pv 1) (pa_cons (pv 2) pa_nil)))) pa_nil)))))
        (fun _ _ _ _ _ => pv 5))
      (pss_one (ps_ret (pe_meth (E := E) (pv 0) T.clD T.mAcc (ok_ac T X) (hr.mono (by decide : 2 ≤ 4)) T.b_daccept .nil (passes_call (takes_of rfl rfl rfl rfl) (fun _ _ _ _ z => z)) (pa_cons (pe_tup (pa_cons pe_str (pa_cons (pv 1) (pa_cons (pv 2) (pa_cons (pv 3) pa_nil))))) (pa_cons (pv 4) pa_nil)))))), ?_⟩
    have l30 := b.l30
    refine ⟨_, rfl, o, dx, _, rfl, b.ob, rfl, _, rfl, _, rfl, o, dx, rl, ol, r, ra, lf, ds, ss, os, k, x, rfl, b, k0, k1, x0, x1, ?_⟩
    refine ⟨_, rfl, o, _, dx, _, _, rfl, b.ob, T.clD, T.nRg, obF_g _ _ _, rl, rfl, ⟨_, .of b.hr⟩, fun D hD => lc_list (xs := ra.map V.ref) (fun i H' => Same H H' ∧ ∃ rb, H' D = some (.lst (rb.map V.ref)) ∧ Rgs T.C H' r rb ((lf.take i).filter (agr ds ss r true k x day)) ds ss) ?_ (fun i H' _ p => .of (p.1 _ _ b.hr)) ?_ ?_⟩
    · exact ⟨same_upd hD, [], upd_same, rfl, fun i a d h1 h2 => by cases h1⟩
    · rintro i v H1 hi ⟨s1, rb, h1, g1⟩
      obtain ⟨a, d, dx', td, ts, rfl, ha, hd, d1, d2, R⟩ := (b.rg.same s1).get hi
      have hlt : i < lf.length := (List.getElem?_eq_some_iff.mp hd).1
      have lb : rb.length ≤ i := by
        rw [g1.1]
        exact Nat.le_trans (List.length_filter_le _ _) (by rw [List.length_take]; omega)
      refine ⟨rfl, _, rfl, _, rfl, _, rfl, _, rfl, a, dx', td, ts, ds.set r d, ss, k, x, rfl, R, k0, by rw [List.length_set]; exact k1, x0, day, _, rfl, _, rfl, ?_⟩
      have ea : agr ds ss r true k x day d = decide (day = Rm.E (at' (ds.set r d)) (at' ss) k x) := by
        unfold agr En
        rw [if_pos rfl]
        exact decide_eq_decide.mpr eq_comm
      by_cases hc : day = Rm.E (at' (ds.set r d)) (at' ss) k x
      · rw [decide_eq_true hc]
        rw [decide_eq_true hc] at ea
        refine iteT ⟨_, rfl, _, h1, by rw [List.length_map]; exact small1000 (by omega), ?_, rb ++ [a], by rw [upd_same, ref_snoc], ?_⟩
        · exact fun c z e => by
            rw [upd_ne (ne_of_none e hD)]
            exact s1 c z e
        · rw [List.take_add_one, hd, Option.toList_some, List.filter_append, List.filter_cons_of_pos ea, List.filter_nil]
          have nd1 : ∀ c z, H1 c = some z → (∀ xs, z ≠ .lst xs) → (upd H1 D (.lst (rb.map V.ref ++ [V.ref a]))) c = some z := fun c z e n => (upd_ne fun q => by
            rw [q, h1] at e
            exact n _ (Option.some.inj e).symm).trans e
          refine rgs_next (g1.mono fun c dx2 td2 ts2 es R2 => ⟨nd1 _ _ R2.ob (fun _ z => by cases z), nd1 _ _ R2.td (fun _ z => by cases z), nd1 _ _ R2.ts (fun _ z => by cases z), R2.ok⟩) d1 d2 (dx := dx') (td := td) (ts := ts) ⟨nd1 _ _ R.ob (fun _ z => by cases z), nd1 _ _ R.td (fun _ z => by cases z), nd1 _ _ R.ts (fun _ z => by cases z), R.ok⟩
      · rw [decide_eq_false hc]
        rw [decide_eq_false hc] at ea
        refine iteF ⟨s1, rb, h1, ?_⟩
        rw [List.take_add_one, hd, Option.toList_some, List.filter_append, List.filter_cons_of_neg (by rw [ea]; decide), List.filter_nil, List.append_nil]
        exact g1
    · rintro H1 ⟨s1, rb, h1, g1⟩
      rw [List.length_map, b.rg.1, List.take_length] at g1
      refine ⟨_, rfl, o, dx, _, rfl, s1 _ _ b.ob, rfl, _, rfl, _, rfl, _, rfl, (by show 4 ≤ sizeLine; decide), fun t ht => ⟨_, rfl, ?_⟩⟩
      have s2 := same_upd (o := .tup [.str "see_end", .int k, .int x, .int day]) ht
      have b2 := (b.same s1).same s2
      have nD : D ≠ ol := fun z => by
        have := b.ho
        rw [← z, hD] at this
        cases this
      refine ⟨o, dx, rl, ol, r, ra, lf, ds, ss, os, t, D, _, rb, _, rfl, b2, few, upd_same, ⟨s2 _ _ h1, g1.same s2⟩, Nat.le_trans (List.length_filter_le _ _) b.l30, nD, fun e => q1 e _ (s1.trans s2), fun e H' hk b' => ?_⟩
      refine q2 e H' t D rb (ko_trans (s1.trans s2) hk) (hk _ _ upd_same ?_ ?_) b'
      · intro z
        have := b2.ob
        rw [← z, upd_same] at this
        cases this
      · intro z
        have := b2.ho
        rw [← z, upd_same] at this
        cases this
theorem ok_so {CC : Addr} (T : Tx K mg) (X : RxE K mg "Contradiction" CC) : FnOk P w K mg base (L2.CX P w) 5 T.a_dsee_open T.d_dsee_open P_dsee_open (spSee T.C T.dC CC false "see_open") := by
  refine T.F_dsee_open.okX sc_dsee_open (fun vs H Q E h => ?_) (fun cdv A outer s H vs Q E hr h => ?_)
  · obtain ⟨o, dx, rl, ol, r, ra, lf, ds, ss, os, k, x, day, rfl, _⟩ := h
    rfl
  · obtain ⟨o, dx, rl, ol, r, ra, lf, ds, ss, os, k, x, day, rfl, b, few, k0, k1, x0, x1, y0, y1, q1, q2⟩ := h
    have nd := sc_dsee_open.nd
    obtain ⟨u1, c1⟩ := T.c_LATEST
    refine ⟨_, pss_cons (ps_expr (pe_meth (pv 0) T.clD T.mChk (ok_cr T) hr T.b_dcheck_reading .nil pass0 (pa_cons (pv 1) (pa_cons (pv 2) pa_nil))))
      (pss_cons (ps_expr (pe_call (ok_chk T) (hr.mono (by decide : 3 ≤ 4)) (by rfl) T.g_check_number T.F_check_number.kp T.b_check_number .nil pass0 (pa_cons (pv 3) (pa_cons pe_int (pa_cons (pe_glob (v := .int 1000000000000000000) (by rfl) c1 ⟨_, rfl⟩) pa_nil)))))
      (pss_cons (ps_setLc (i := 4) (own := [("ring", 5)]) rfl nd rfl rfl (sw_true rfl rfl rfl (by decide +kernel)) (pi_list (pe_fld (pv 0) rfl)) (blkOk_by (N := N_dsee_open) (sc := defScope s_dsee_open) (by decide +kernel)) (fun _ _ _ _ _ => pg_name (i := 5) nd rfl (.inl rfl))
        (fun _ _ _ _ _ => pts_one (pt_cmpR op_gt (pe_call (ok_end T) (hr.mono (by decide : 3 ≤ 4)) (by rfl) T.g_end_day T.F_end_day.kp T.b_end_day .nil pass0 (pa_cons (pv 5) (pa_cons (pv 1) (pa_cons (pv 2) pa_nil)))) (pv 3) (nomark _)))
        (fun _ _ _ _ _ => pv 5))
      (pss_one (ps_ret (pe_meth (E := E) (pv 0) T.clD T.mAcc (ok_ac T X) (hr.mono (by decide : 2 ≤ 4)) T.b_daccept .nil (passes_call (takes_of rfl rfl rfl rfl) (fun _ _ _ _ z => z)) (pa_cons (pe_tup (pa_cons pe_str (pa_cons (pv 1) (pa_cons (pv 2) (pa_cons (pv 3) pa_nil))))) (pa_cons (pv 4) pa_nil))))))), ?_⟩
    have l30 := b.l30
    refine ⟨_, rfl, o, dx, _, rfl, b.ob, rfl, _, rfl, _, rfl, o, dx, rl, ol, r, ra, lf, ds, ss, os, k, x, rfl, b, k0, k1, x0, x1, ?_⟩
    refine ⟨_, rfl, day, 0, _, rfl, y0, by omega, ?_⟩
    refine ⟨_, rfl, o, _, dx, _, _, rfl, b.ob, T.clD, T.nRg, obF_g _ _ _, rl, rfl, ⟨_, .of b.hr⟩, fun D hD => lc_list (xs := ra.map V.ref) (fun i H' => Same H H' ∧ ∃ rb, H' D = some (.lst (rb.map V.ref)) ∧ Rgs T.C H' r rb ((lf.take i).filter (agr ds ss r false k x day)) ds ss) ?_ (fun i H' _ p => .of (p.1 _ _ b.hr)) ?_ ?_⟩
    · exact ⟨same_upd hD, [], upd_same, rfl, fun i a d h1 h2 => by cases h1⟩
    · rintro i v H1 hi ⟨s1, rb, h1, g1⟩
      obtain ⟨a, d, dx', td, ts, rfl, ha, hd, d1, d2, R⟩ := (b.rg.same s1).get hi
      have hlt : i < lf.length := (List.getElem?_eq_some_iff.mp hd).1
      have lb : rb.length ≤ i := by
        rw [g1.1]
        exact Nat.le_trans (List.length_filter_le _ _) (by rw [List.length_take]; omega)
      refine ⟨rfl, _, rfl, _, rfl, _, rfl, a, dx', td, ts, ds.set r d, ss, k, x, rfl, R, k0, by rw [List.length_set]; exact k1, x0, _, rfl, _, _, rfl, rfl, _, rfl, ?_⟩
      have ea : agr ds ss r false k x day d = decide (day < Rm.E (at' (ds.set r d)) (at' ss) k x) := by
        unfold agr En
        rw [if_neg (by decide)]
      by_cases hc : day < Rm.E (at' (ds.set r d)) (at' ss) k x
      · rw [decide_eq_true hc]
        rw [decide_eq_true hc] at ea
        refine iteT ⟨_, rfl, _, h1, by rw [List.length_map]; exact small1000 (by omega), ?_, rb ++ [a], by rw [upd_same, ref_snoc], ?_⟩
        · exact fun c z e => by
            rw [upd_ne (ne_of_none e hD)]
            exact s1 c z e
        · rw [List.take_add_one, hd, Option.toList_some, List.filter_append, List.filter_cons_of_pos ea, List.filter_nil]
          have nd1 : ∀ c z, H1 c = some z → (∀ xs, z ≠ .lst xs) → (upd H1 D (.lst (rb.map V.ref ++ [V.ref a]))) c = some z := fun c z e n => (upd_ne fun q => by
            rw [q, h1] at e
            exact n _ (Option.some.inj e).symm).trans e
          refine rgs_next (g1.mono fun c dx2 td2 ts2 es R2 => ⟨nd1 _ _ R2.ob (fun _ z => by cases z), nd1 _ _ R2.td (fun _ z => by cases z), nd1 _ _ R2.ts (fun _ z => by cases z), R2.ok⟩) d1 d2 (dx := dx') (td := td) (ts := ts) ⟨nd1 _ _ R.ob (fun _ z => by cases z), nd1 _ _ R.td (fun _ z => by cases z), nd1 _ _ R.ts (fun _ z => by cases z), R.ok⟩
      · rw [decide_eq_false hc]
        rw [decide_eq_false hc] at ea
        refine iteF ⟨s1, rb, h1, ?_⟩
        rw [List.take_add_one, hd, Option.toList_some, List.filter_append, List.filter_cons_of_neg (by rw [ea]; decide), List.filter_nil, List.append_nil]
        exact g1
    · rintro H1 ⟨s1, rb, h1, g1⟩
      rw [List.length_map, b.rg.1, List.take_length] at g1
      refine ⟨_, rfl, o, dx, _, rfl, s1 _ _ b.ob, rfl, _, rfl, _, rfl, _, rfl, (by show 4 ≤ sizeLine; decide), fun t ht => ⟨_, rfl, ?_⟩⟩
      have s2 := same_upd (o := .tup [.str "see_open", .int k, .int x, .int day]) ht
      have b2 := (b.same s1).same s2
      have nD : D ≠ ol := fun z => by
        have := b.ho
        rw [← z, hD] at this
        cases this
      refine ⟨o, dx, rl, ol, r, ra, lf, ds, ss, os, t, D, _, rb, _, rfl, b2, few, upd_same, ⟨s2 _ _ h1, g1.same s2⟩, Nat.le_trans (List.length_filter_le _ _) b.l30, nD, fun e => q1 e _ (s1.trans s2), fun e H' hk b' => ?_⟩
      refine q2 e H' t D rb (ko_trans (s1.trans s2) hk) (hk _ _ upd_same ?_ ?_) b'
      · intro z
        have := b2.ob
        rw [← z, upd_same] at this
        cases this
      · intro z
        have := b2.ho
        rw [← z, upd_same] at this
        cases this
end
end Rp
/-! Observers: the telling number; made; from a log. -/
namespace Rp
open PySem PySem.Spec PyProof.Rows L2 Rz Rm Rl
/-- l has n different members -/
def Cd (l : List Int) (n : Nat) : Prop := ∃ ks : List Int, ks.Nodup ∧ (∀ k : Int, k ∈ ks ↔ k ∈ l) ∧ ks.length = n
theorem Cd.one {l : List Int} {n m : Nat} (h : Cd l n) (g : Cd l m) : n = m := by
  obtain ⟨a, na, ma, rfl⟩ := h
  obtain ⟨b, nb, mb, rfl⟩ := g
  exact ((List.perm_ext_iff_of_nodup na nb).mpr fun k => (ma k).trans (mb k).symm).length_eq
theorem inc_nodup {l : List Int} (h : l.Pairwise (· < ·)) : l.Nodup := h.imp fun h => Int.ne_of_lt h
section
variable {P : Program} {w : World} {K : PySem.W.Frag} {mg : Str → Option Value} {base : Heap}
/-! ### telling_number -/
/-- the number n tells -/
noncomputable def Tells (ds ss : List Int) (r : Nat) (lf : List Int) (k n : Int) : Prop := Cd (ends ds ss r lf k n) lf.length
def spTn (C dC : Addr) : Sp := fun vs H Q _ => ∃ (o dx rl ol : Addr) (r : Nat) (ra : List Addr) (lf ds ss : List Int) (os : List V) (k : Int) (lim : Nat), vs = [.ref o, .int k, .int (lim : Int)] ∧ Ob C dC H o dx rl ol r ra lf ds ss os ∧ 0 ≤ k ∧ k < ds.length ∧ lim ≤ 400 ∧
  (∀ (H' : Hp) (n : Nat), Same H H' → n ≤ lim → Tells ds ss r lf k n → (∀ j : Nat, j < n → ¬ Tells ds ss r lf k j) → Q (.int (n : Int)) H') ∧ (∀ H', Same H H' → (∀ j : Nat, j ≤ lim → ¬ Tells ds ss r lf k j) → Q .non H')
theorem ok_tn (T : Tx K mg) : FnOk P w K mg base CX0 6 T.a_dtelling_number T.d_dtelling_number P_dtelling_number (spTn T.C T.dC) := by
  refine T.F_dtelling_number.ok sc_dtelling_number (fun vs H Q E h => ?_) (fun cdv A outer s H vs Q E hr h => ?_)
  · obtain ⟨o, dx, rl, ol, r, ra, lf, ds, ss, os, k, lim, rfl, _⟩ := h
    rfl
  · obtain ⟨o, dx, rl, ol, r, ra, lf, ds, ss, os, k, lim, rfl, b, k0, k1, l4, q1, q2⟩ := h
    have nd := sc_dtelling_number.nd
    obtain ⟨u1, c1⟩ := T.c_MOST_LIMIT
    refine ⟨_, pss_cons (ps_expr (pe_call (ok_reader T) (hr.mono (by decide)) (by rfl) T.g_check_reader T.F_check_reader.kp T.b_check_reader .nil pass0 (pa_cons (pe_ix ix_list (pe_fld (pv 0) rfl) pe_int (fun _ _ => rfl)) (pa_cons (pv 1) pa_nil))))
      (pss_cons (ps_expr (pe_call (ok_chk T) (hr.mono (by decide)) (by rfl) T.g_check_number T.F_check_number.kp T.b_check_number .nil pass0 (pa_cons (pv 2) (pa_cons pe_int (pa_cons (pe_glob (v := .int 500) (by rfl) c1 ⟨_, rfl⟩) pa_nil)))))
      (pss_cons (ps_for PassesOwn.never rfl (pi_range1 (by rfl) T.z_range (pa_cons (pe_op op_add (pv 2) pe_int) pa_nil)) (pg_name (i := 3) nd rfl (.inl rfl))
        (pss_one (ps_if (pt_cmpR op_eq (pe_callB call_len_seq (by rfl) T.z_len PySem.boot_len (pa_cons (pe_meth (pv 0) T.clD T.mPe (ok_pe T) hr T.b_dpossible_ends .nil pass0 (pa_cons (pv 1) (pa_cons (pv 3) pa_nil))) pa_nil)) (pe_callB call_len_seq (by rfl) T.z_len PySem.boot_len (pa_cons (pe_fld (pv 0) rfl) pa_nil)) (nomark _))
          (pss_one (ps_ret (pv 3))) pss_nil)))
      (pss_one (ps_ret pe_non)))), ?_⟩
    obtain ⟨a, d, dx', td, ts, ha, R⟩ := b.first
    refine ⟨_, rfl, o, _, dx, _, _, rfl, b.ob, T.clD, T.nRg, obF_g _ _ _, rl, _, 0, .ref a, rfl, rfl, .of b.hr, atI_nat (j := 0) (by rw [List.getElem?_map, ha]; rfl), ?_⟩
    refine ⟨_, rfl, a, dx', td, ts, ds.set r d, ss, k, rfl, R, k0, by rw [List.length_set]; exact k1, ?_⟩
    refine ⟨_, rfl, (lim : Int), 0, _, rfl, by omega, by omega, ?_⟩
    refine ⟨_, rfl, _, _, rfl, rfl, _, rfl, by omega, by omega, ?_⟩
    refine for_range (lo := 0) (n := ((lim : Int) + 1).toNat) (fun i σ H' => (∃ y3, σ = [some (.ref o), some (.int k), some (.int (lim : Int)), y3]) ∧ Same H H' ∧ ∀ j : Nat, j < i → ¬ Tells ds ss r lf k j) ⟨⟨_, rfl⟩, Same.refl H, fun j hj => absurd hj (by omega)⟩ ?_ ?_
    · rintro i σ H1 hi ⟨⟨y3, rfl⟩, s1, no⟩
      have hi' : i ≤ lim := by omega
      have b1 := b.same s1
      refine ⟨_, rfl, o, dx, _, rfl, b1.ob, rfl, _, rfl, _, rfl, o, dx, rl, ol, r, ra, lf, ds, ss, os, k, _, rfl, b1, k0, k1, by omega, by omega, fun H2 l ns s2 hl pw mem le => ?_⟩
      have b2 := b1.same s2
      refine ⟨l, _, rfl, .inl (.of hl), _, rfl, o, _, dx, _, _, rfl, b2.ob, T.clD, T.nRg, obF_g _ _ _, rl, _, rfl, .inl (.of b2.hr), rfl, _, rfl, ?_⟩
      rw [List.length_map, List.length_map, b.rg.1]
      have mem' : ∀ y : Int, y ∈ ns ↔ y ∈ ends ds ss r lf k ((i : Nat) : Int) := fun y => by
        have := mem y
        rwa [show (0 : Int) + ((i : Nat) : Int) = ((i : Nat) : Int) by omega] at this
      have cd : Cd (ends ds ss r lf k ((i : Nat) : Int)) ns.length := ⟨ns, inc_nodup pw, mem', rfl⟩
      by_cases hc : ns.length = lf.length
      · have e : decide (V.int ((ns.length : Nat) : Int) = V.int ((lf.length : Nat) : Int)) = true := decide_eq_true (by rw [hc])
        rw [e]
        refine iteT ⟨_, rfl, ?_⟩
        show Q (.int (0 + ((i : Nat) : Int))) H2
        rw [show (0 : Int) + ((i : Nat) : Int) = ((i : Nat) : Int) by omega]
        exact q1 H2 i (s1.trans s2) hi' (by unfold Tells; rw [← hc]; exact cd) no
      · have e : decide (V.int ((ns.length : Nat) : Int) = V.int ((lf.length : Nat) : Int)) = false := decide_eq_false fun z => hc (by have := V.int.inj z; omega)
        rw [e]
        refine iteF ⟨⟨_, rfl⟩, s1.trans s2, fun j hj => ?_⟩
        by_cases hj2 : j < i
        · exact no j hj2
        · have : j = i := by omega
          subst this
          exact fun t => hc (cd.one t)
    · rintro σ H1 ⟨⟨y3, rfl⟩, s1, no⟩
      exact q2 H1 s1 fun j hj => no j (by omega)
/-! ### made -/
def spDi (C dC : Addr) : Sp := fun vs H Q _ => ∃ (o dx p dp td ts : Addr) (ds ss : List Int) (r : Nat), vs = [.ref o, .ref p, .int (r : Int)] ∧ H o = some (.ins dC dx []) ∧ RingAt C H p dp td ts ds ss ∧ r < ds.length ∧
  ∀ (H' : Hp) (rl ol : Addr) (ra : List Addr), (∀ b x, H b = some x → b ≠ o → H' b = some x) → H ol = none → Ob C dC H' o dx rl ol r ra ((List.range 30).map fun (i : Nat) => (1 : Int) + (i : Int)) ds ss [] → Q .non H'
theorem ok_di (T : Tx K mg) : FnOk P w K mg base CX0 8 T.a_dinit T.d_dinit P_dinit (spDi T.C T.dC) := by
  refine T.F_dinit.ok sc_dinit (fun vs H Q E h => ?_) (fun cdv A outer s H vs Q E hr h => ?_)
  · obtain ⟨o, dx, p, dp, td, ts, ds, ss, r, rfl, _⟩ := h
    rfl
  · obtain ⟨o, dx, p, dp, td, ts, ds, ss, r, rfl, ho, R, hr1, q⟩ := h
    have nd := sc_dinit.nd
    have l8 := R.ok.l8
    obtain ⟨u1, c1⟩ := T.c_MOST_DAYS
    refine ⟨_, pss_cons (ps_expr (pe_call (ok_reader T) (hr.mono (by decide)) (by rfl) T.g_check_reader T.F_check_reader.kp T.b_check_reader .nil pass0 (pa_cons (pv 1) (pa_cons (pv 2) pa_nil))))
      (pss_cons (ps_fld (pv 0) (pv 2) rfl)
      (pss_cons (ps_fld (pv 0) (pe_lc (own := [("days", 3)]) rfl nd (pi_range2 (by rfl) T.z_range (pa_cons pe_int (pa_cons (pe_op op_add (pe_glob (v := .int 30) (by rfl) c1 ⟨_, rfl⟩) pe_int) pa_nil))) (blkOk_by (N := N_dinit) (sc := defScope s_dinit) (by decide +kernel)) (fun _ _ _ _ _ => pg_name (i := 3) nd rfl (.inl rfl)) (fun _ _ _ _ _ => pts_nil)
        (fun _ _ _ _ _ => pe_meth (pv 1) T.cl T.mW (ok_with T) (hr.mono (by decide : 6 ≤ 7)) T.b_rwith_days .nil pass0 (pa_cons (pv 2) (pa_cons (pv 3) pa_nil)))) rfl)
      (pss_one (ps_fld (pv 0) (pe_lst pa_nil) rfl)))), ?_⟩
    refine ⟨_, rfl, _, rfl, p, dp, td, ts, ds, ss, (r : Int), rfl, R, by omega, by omega, ?_⟩
    refine ⟨_, rfl, _, rfl, o, T.dC, dx, [], rfl, ho, T.clD, T.nRd, (by show 0 < 1000; decide), ?_⟩
    have R1 : RingAt T.C (upd H o (.ins T.dC dx (putF "_reader" (.int (r : Int)) []))) p dp td ts ds ss := ⟨(upd_ne (ne_of R.ob ho (by
        intro z
        injection z with z1 z2 z3
        have h4 := congrArg List.length z3
        have e2 : (flds td ts).length = 2 := by rfl
        have e0 : ([] : List (Str × V)).length = 0 := rfl
        omega))).trans R.ob, (upd_ne (ne_of R.td ho (by intro z; cases z))).trans R.td, (upd_ne (ne_of R.ts ho (by intro z; cases z))).trans R.ts, R.ok⟩
    have hk1 : ∀ b x, H b = some x → b ≠ o → (upd H o (.ins T.dC dx (putF "_reader" (.int (r : Int)) []))) b = some x := fun b x e n => (upd_ne n).trans e
    have ho1 : (upd H o (.ins T.dC dx (putF "_reader" (.int (r : Int)) []))) o = some (.ins T.dC dx (putF "_reader" (.int (r : Int)) [])) := upd_same
    have hn1 : ∀ b, (upd H o (.ins T.dC dx (putF "_reader" (.int (r : Int)) []))) b = none → H b = none := fun b e => by
      cases z : H b with
      | none => rfl
      | some v =>
        by_cases n : b = o
        · rw [n, ho1] at e; cases e
        · rw [hk1 b v z n] at e; cases e
    show tSeq _ _ _ _ (upd H o (.ins T.dC dx (putF "_reader" (.int (r : Int)) [])))
    generalize (upd H o (.ins T.dC dx (putF "_reader" (.int (r : Int)) []))) = H1 at R1 hk1 ho1 hn1 ⊢
    refine ⟨_, _, rfl, rfl, _, _, rfl, ⟨by omega, by omega, by omega, by omega⟩, fun D hD => lc_range (lo := 1) (n := 30) (fun i H' => Same H1 H' ∧ ∃ ra : List Addr, H' D = some (.lst (ra.map V.ref)) ∧ Rgs T.C H' r ra ((List.range i).map fun (j : Nat) => (1 : Int) + (j : Int)) ds ss) ?_ ?_ ?_⟩
    · exact ⟨same_upd hD, [], upd_same, rfl, fun i a d h1 h2 => by cases h1⟩
    · rintro i H2 hi ⟨s1, ra, h2, g2⟩
      have R2 := R1.same s1
      have lra : ra.length = i := by rw [g2.1, List.length_map, List.length_range]
      refine ⟨rfl, lc_keep ?_⟩
      refine ⟨_, rfl, p, dp, _, rfl, R2.ob, rfl, _, rfl, _, rfl, p, dp, td, ts, ds, ss, (r : Int), (1 : Int) + (i : Int), rfl, R2, by omega, by omega, by omega, by omega, fun H3 p3 dx3 td3 ts3 s3 R3 => ?_⟩
      refine ⟨ra.map V.ref, s3 _ _ h2, by rw [List.length_map]; exact small1000 (by omega), ?_, ra ++ [p3], by rw [upd_same, ref_snoc], ?_⟩
      · exact fun c z e => by
          rw [upd_ne (ne_of_none e hD)]
          exact s3 _ _ (s1 c z e)
      · have h3 := s3 _ _ h2
        have nd1 : ∀ c z, H3 c = some z → (∀ xs, z ≠ .lst xs) → (upd H3 D (.lst (ra.map V.ref ++ [V.ref p3]))) c = some z := fun c z e n => (upd_ne fun q => by
          rw [q, h3] at e
          exact n _ (Option.some.inj e).symm).trans e
        have R3' : RingAt T.C H3 p3 dx3 td3 ts3 (ds.set r ((1 : Int) + (i : Int))) ss := by
          rw [show ((r : Nat) : Int).toNat = r by omega] at R3
          exact R3
        rw [List.range_succ, List.map_append]
        exact rgs_next ((g2.same s3).mono fun c dx2 td2 ts2 es R2 => ⟨nd1 _ _ R2.ob (fun _ z => by cases z), nd1 _ _ R2.td (fun _ z => by cases z), nd1 _ _ R2.ts (fun _ z => by cases z), R2.ok⟩) (by show (1 : Int) ≤ 1 + (i : Int); omega) (by show (1 : Int) + (i : Int) ≤ 30; omega) (dx := dx3) (td := td3) (ts := ts3) ⟨nd1 _ _ R3'.ob (fun _ z => by cases z), nd1 _ _ R3'.td (fun _ z => by cases z), nd1 _ _ R3'.ts (fun _ z => by cases z), R3'.ok⟩
    · rintro H2 ⟨s1, ra, h2, g2⟩
      have ho2 := s1 _ _ ho1
      refine ⟨_, rfl, o, T.dC, dx, _, rfl, ho2, T.clD, T.nRg, (by show 1 < 1000; decide), ?_⟩
      have oD : o ≠ D := ne_of ho2 h2 (by intro z; cases z)
      have hk2 : ∀ b x, H2 b = some x → b ≠ o → (upd H2 o (.ins T.dC dx (putF "_rings" (.ref D) (putF "_reader" (.int (r : Int)) [])))) b = some x := fun b x e n => (upd_ne n).trans e
      have hn2 : ∀ b, (upd H2 o (.ins T.dC dx (putF "_rings" (.ref D) (putF "_reader" (.int (r : Int)) [])))) b = none → H2 b = none := fun b e => by
        cases z : H2 b with
        | none => rfl
        | some v =>
          by_cases n : b = o
          · rw [n, upd_same] at e; cases e
          · rw [hk2 b v z n] at e; cases e
      have ho3 : (upd H2 o (.ins T.dC dx (putF "_rings" (.ref D) (putF "_reader" (.int (r : Int)) [])))) o = some (.ins T.dC dx (putF "_rings" (.ref D) (putF "_reader" (.int (r : Int)) []))) := upd_same
      generalize (upd H2 o (.ins T.dC dx (putF "_rings" (.ref D) (putF "_reader" (.int (r : Int)) [])))) = H3 at hk2 hn2 ho3 ⊢
      refine ⟨(by show 0 ≤ sizeLine; decide), fun ol hol => ⟨_, rfl, o, T.dC, dx, _, rfl, (upd_ne (ne_of_none ho3 hol)).trans ho3, T.clD, T.nOb, (by show 2 < 1000; decide), ?_⟩⟩
      have oo : o ≠ ol := ne_of_none ho3 hol
      have hk3 : ∀ b x, H b = some x → b ≠ o → (upd (upd H3 ol (.lst [])) o (.ins T.dC dx (obF (r : Int) D ol))) b = some x := fun b x e n => by
        have z := hk2 _ _ (s1 _ _ (hk1 b x e n)) n
        exact (upd_ne n).trans ((upd_ne (ne_of_none z hol)).trans z)
      have none1 : H ol = none := by
        refine hn1 _ ?_
        have z := hn2 _ hol
        cases e : H1 ol with
        | none => rfl
        | some v => rw [s1 _ _ e] at z; cases z
      have keep : ∀ c z, H2 c = some z → c ≠ o → (upd (upd H3 ol (.lst [])) o (.ins T.dC dx (obF (r : Int) D ol))) c = some z := fun c z e n => by
        have h := hk2 _ _ e n
        exact (upd_ne n).trans ((upd_ne (ne_of_none h hol)).trans h)
      have notO : ∀ {c : Addr} {z : HO}, H2 c = some z → (∀ fs, z ≠ .ins T.dC dx fs) → c ≠ o := fun {c z} e n q => by
        rw [q, ho2] at e
        exact n _ (Option.some.inj e).symm
      refine q _ D ol ra hk3 none1 ⟨upd_same, keep _ _ h2 (Ne.symm oD), ?_, ?_, by simp, by simp, hr1, l8, by simp⟩
      · rw [upd_ne (Ne.symm oo), upd_same]
      · refine g2.mono fun c dx2 td2 ts2 es R2 => ⟨keep _ _ R2.ob fun z => ?_, keep _ _ R2.td (notO R2.td fun _ z => by cases z), keep _ _ R2.ts (notO R2.ts fun _ z => by cases z), R2.ok⟩
        have e := R2.ob
        rw [z, ho2] at e
        injection e with e
        injection e with e1 e2 e3
        have h4 := congrArg (fun fs => fs.lookup ("_days" : Str)) e3
        have h5 : (putF "_rings" (.ref D) (putF "_reader" (.int (r : Int)) [])).lookup ("_days" : Str) = none := by rfl
        have h6 : (putF "_rings" (.ref D) (putF "_reader" (.int (r : Int)) [])).lookup ("_days" : Str) = (flds td2 ts2).lookup ("_days" : Str) := h4
        rw [h5, flds_days] at h6
        cases h6
/-! ### from_log -/
/-- observations as data: (is it an end, reader, number, day) -/
def oNm (e : Bool) : Str := if e then "see_end" else "see_open"
structure Ov where
  e : Bool
  k : Int
  x : Int
  day : Int
def Ovs (H : Hp) (os : List V) (vs : List Ov) : Prop := os.length = vs.length ∧ ∀ (i : Nat) (y : V) (v : Ov), os[i]? = some y → vs[i]? = some v → ∃ t, y = .ref t ∧ H t = some (.tup [.str (oNm v.e), .int v.k, .int v.x, .int v.day])
theorem Ovs.mono {H H' : Hp} {os : List V} {vs : List Ov} (h : Ovs H os vs) (k : ∀ t xs, H t = some (.tup xs) → H' t = some (.tup xs)) : Ovs H' os vs := ⟨h.1, fun i y v h1 h2 => by
  obtain ⟨t, e, g⟩ := h.2 i y v h1 h2
  exact ⟨t, e, k _ _ g⟩⟩
theorem Ovs.snoc {H : Hp} {os : List V} {vs : List Ov} (h : Ovs H os vs) {t : Addr} {v : Ov} (ht : H t = some (.tup [.str (oNm v.e), .int v.k, .int v.x, .int v.day])) : Ovs H (os ++ [.ref t]) (vs ++ [v]) := by
  refine ⟨by rw [List.length_append, List.length_append, h.1]; rfl, fun i y u h1 h2 => ?_⟩
  by_cases hi : i < os.length
  · rw [List.getElem?_append_left hi] at h1
    rw [List.getElem?_append_left (by rw [← h.1]; exact hi)] at h2
    exact h.2 i y u h1 h2
  · rw [List.getElem?_append_right (by omega)] at h1
    rw [List.getElem?_append_right (by rw [← h.1]; omega), ← h.1] at h2
    have e0 : i - os.length = 0 := by
      rcases Nat.eq_zero_or_pos (i - os.length) with z | z
      · exact z
      · rw [List.getElem?_eq_none (by show 1 ≤ i - os.length; omega)] at h1
        cases h1
    rw [e0] at h1 h2
    cases h1
    cases h2
    exact ⟨t, rfl, ht⟩
/-- what is left after these observations -/
noncomputable def after (ds ss : List Int) (r : Nat) (lf : List Int) (vs : List Ov) : List Int := vs.foldl (fun l v => l.filter (agr ds ss r v.e v.k v.x v.day)) lf
def OvOk (n : Nat) (v : Ov) : Prop := 0 ≤ v.k ∧ v.k < n ∧ 0 ≤ v.x ∧ v.x ≤ 1000 ∧ 0 ≤ v.day ∧ v.day ≤ 100000
abbrev all30 : List Int := (List.range 30).map fun (i : Nat) => (1 : Int) + (i : Int)
def spFl (C dC CC : Addr) : Sp := fun vs H Q _ => ∃ (p dp td ts ll : Addr) (ds ss : List Int) (r : Nat) (os : List V) (ovs : List Ov), vs = [.ref dC, .ref p, .int (r : Int), .ref ll] ∧ RingAt C H p dp td ts ds ss ∧ r < ds.length ∧ H ll = some (.lst os) ∧ os.length ≤ 400 ∧ Ovs H os ovs ∧ (∀ v ∈ ovs, OvOk ds.length v) ∧
  (∀ n : Nat, n ≤ ovs.length → after ds ss r all30 (ovs.take n) ≠ []) ∧
  ∀ (H' : Hp) (o dx rl ol : Addr) (ra : List Addr) (os' : List V), Same H H' → Ob C dC H' o dx rl ol r ra (after ds ss r all30 ovs) ds ss os' → Ovs H' os' ovs → H ol = none → Q (.ref o) H'
end
end Rp
/-! One more rule beside the layer's: ring >> int, the class's own sign. -/
namespace Rz
open PySem PySem.Spec PyProof.Rows L2
section
variable {X : Cx}
def rShO (C : Addr) (sp : Sp) (E : XK) : R2 := fun x y H Q => ∃ (a dx : Addr) (fs : List (Str × V)) (i : Int), x = .ref a ∧ y = .int i ∧ H a = some (.ins C dx fs) ∧ sp [.ref a, .int i] H (fun v H' => (∃ b : Addr, v = .ref b) ∧ Q v H') E
theorem op_shO {CX : CXT} {k : Nat} {f C : Addr} {sp : Sp} {E : XK} {fo ro : Option Value} (hc : PySem.W.selfFirst X.K C = true) (hs : PySem.W.findIn X.K (.ref C) "__rshift__" = some (some (.ref f))) (hf : PySem.W.isFn X.K (.ref f) = true)
    (hn : PySem.W.findIn X.K (.ref C) "__rrshift__" = some none) (h1 : PySem.W.findIn X.K (.type "int") "__rshift__" = some fo) (h2 : PySem.W.findIn X.K (.type "int") "__rrshift__" = some ro) (hsub : PySem.W.subIn X.K (.type "int") (.ref C) = some false)
    (F : FnR X.prog X.w X.K X.mg X.base CX k f sp) (hr : Room k X.A) (hx : Passes CX X E) : OpR X (binaryOp .RShift) (rShO C sp E) := by
  intro pins s σ H x y v u Q I rx ry h
  obtain ⟨a, dx, fs, i, rfl, rfl, ea, q⟩ := h
  obtain rfl : v = Value.ref a := rx
  obtain ⟨t, rfl⟩ := ry
  obtain ⟨mA, O, _⟩ := ins_get I.hok ea
  obtain ⟨od, J, _⟩ := O.look
  obtain ⟨m, hns, _⟩ := I.loc
  refine PySem.W.ksp_binT (op := .RShift) (T := "int") ⟨hns, I.bk, Nat.le_trans I.ok.bsz I.ok.above⟩ I.ok.mod.kin J rfl hc hs hf hn (.inl rfl) h1 h2 hsub ?_
  refine wpAny_call (codeAny_mono (F X.A X.stack s H [.ref a, .int i t] [.ref a, .int i] _ E hr I.env0 (.cons rfl (.cons ⟨_, rfl⟩ .nil)) q) fun r s' hq => ?_)
  cases r with
  | error e => exact hx pins σ H s e s' I hq
  | ok fl =>
    cases fl with
    | ret u =>
      obtain ⟨v, H', J', rv, ⟨b, rfl⟩, q'⟩ := I.after hq
      obtain rfl : u = Value.ref b := rv
      exact ⟨.ref b, H', J', rfl, q'⟩
    | next => exact False.elim hq
    | brk => exact False.elim hq
    | cont => exact False.elim hq
end
end Rz
/-! Own signs: o[i], o == x, o >> x; a class held by a local name is called. -/
namespace Rz
open PySem PySem.Spec PyProof.Rows L2
section
variable {X : Cx} {CX : CXT} {k : Nat} {f C : Addr} {sp : Sp} {E : XK} {pins : List (Addr × Obj)} {s : Shared} {σ : L2.St} {H : Hp} {Q : VK}
/-- an own def is called within one more step -/
theorem run_in1 {us : List Value} {vs : List V} (F : FnR X.prog X.w X.K X.mg X.base CX k f sp) (hr : Room (k + 1) X.A) (hx : Passes CX X E) (I : Inv X pins σ H s) (r : Vals vs us) (q : sp vs H Q E) :
    wpAny (model X.prog X.w) X.A.in1 (call (.ref f) us) (EP X pins σ Q) X.xe s := by
  have e := I.env0
  have e0 : Env0 X.prog X.w X.K X.mg X.base X.A.in1 X.stack s H := ⟨e.frames, e.mod, e.bs, e.bsz, e.funs, e.frf, e.hok, e.bare⟩
  refine wpAny_call (codeAny_mono (F X.A.in1 X.stack s H us vs _ E hr.in1 e0 r q) fun r s' hq => ?_)
  cases r with
  | error e => exact hx pins σ H s e s' I hq
  | ok fl =>
    cases fl with
    | ret u => exact I.after hq
    | next => exact False.elim hq
    | brk => exact False.elim hq
    | cont => exact False.elim hq
theorem run_here {us : List Value} {vs : List V} (F : FnR X.prog X.w X.K X.mg X.base CX k f sp) (hr : Room k X.A) (hx : Passes CX X E) (I : Inv X pins σ H s) (r : Vals vs us) (q : sp vs H Q E) :
    wpAny (model X.prog X.w) X.A (call (.ref f) us) (EP X pins σ Q) X.xe s := by
  refine wpAny_call (codeAny_mono (F X.A X.stack s H us vs _ E hr I.env0 r q) fun r s' hq => ?_)
  cases r with
  | error e => exact hx pins σ H s e s' I hq
  | ok fl =>
    cases fl with
    | ret u => exact I.after hq
    | next => exact False.elim hq
    | brk => exact False.elim hq
    | cont => exact False.elim hq
/-- o[y], o of the class at C -/
def rIxO (C : Addr) (sp : Sp) (E : XK) : R2 := fun x y H Q => ∃ (p dx : Addr) (fs : List (Str × V)), x = .ref p ∧ H p = some (.ins C dx fs) ∧ sp [.ref p, y] H Q E
theorem pe_ixO {a b : Expr} {ta tb : TE} {pos : Pos} (hs : PySem.W.findIn X.K (.ref C) "__getitem__" = some (some (.ref f))) (hf : PySem.W.fnIn X.K f = true) (hfn : PySem.W.isFn X.K (.ref f) = true)
    (F : FnR X.prog X.w X.K X.mg X.base CX k f sp) (hr : Room (k + 1) X.A) (hx : Passes CX X E) (ha : PE X a ta) (hb : PE X b tb)
    (hsl : ∀ (o : Addr) (i : Value), subscripted b true (.ref o) i = runValue (.builtin "lifetime.subscript" ⟨[.ref o, i], []⟩) := by intro _ _; with_unfolding_all rfl) : PE X (.Subscript a b pos) (tOp (rIxO C sp E) ta tb) := by
  refine ⟨fun pins s σ H Q I h => Subscript_ (binT ha hb I h fun v u s2 x y H2 I2 rx ry q => ?_)⟩
  obtain ⟨p, dx, fs, rfl, hp, q⟩ := q
  obtain rfl : v = Value.ref p := rx
  obtain ⟨mA, O, _⟩ := ins_get I2.hok hp
  obtain ⟨od, J, _⟩ := O.look
  obtain ⟨m, hns, _⟩ := I2.loc
  exact PySem.W.sub_K ⟨hns, I2.bk, Nat.le_trans I2.ok.bsz I2.ok.above⟩ I2.ok.mod.kin J hs hf hfn (run_in1 F hr hx I2 (vs := [.ref p, y]) (.cons rfl (.cons ry .nil)) q) (hsl p u)
/-- the other side of an own sign: of the same class, or of a built-in kind -/
def Oth (C : Addr) (H : Hp) (y : V) : Prop := (∃ (b dy : Addr) (gs : List (Str × V)), y = .ref b ∧ H b = some (.ins C dy gs)) ∨ ∃ (b : Addr) (xs : List V), y = .ref b ∧ H b = some (.tup xs)
def rEqO (C : Addr) (sp : Sp) (E : XK) : R2 := fun x y H Q => ∃ (a dx : Addr) (fs : List (Str × V)), x = .ref a ∧ H a = some (.ins C dx fs) ∧ Oth C H y ∧ sp [.ref a, y] H (fun v H' => (∃ k, v = .bl k) ∧ Q v H') E
theorem op_eqO (hs : PySem.W.findIn X.K (.ref C) "__eq__" = some (some (.ref f))) (hf : PySem.W.isFn X.K (.ref f) = true) (ht : PySem.W.subIn X.K (.type "tuple") (.ref C) = some false)
    (F : FnR X.prog X.w X.K X.mg X.base CX k f sp) (hr : Room k X.A) (hx : Passes CX X E) : OpR X (compareOp .Eq) (rEqO C sp E) := by
  intro pins s σ H x y v u Q I rx ry h
  obtain ⟨a, dx, fs, rfl, ha, ho, q⟩ := h
  obtain rfl : v = Value.ref a := rx
  obtain ⟨mA, O, _⟩ := ins_get I.hok ha
  obtain ⟨od, J, _⟩ := O.look
  obtain ⟨m, hF⟩ := I.fr
  have back : ∀ (w : Value) (s' : Shared), EP X pins σ (fun v H' => (∃ k, v = V.bl k) ∧ Q v H') w s' → PySem.W.CmpBack (EP X pins σ Q) w s' := fun w s' h => by
    obtain ⟨z, H', I', rz, ⟨k, rfl⟩, q'⟩ := h
    cases rz
    exact ⟨.bl k, H', I', rfl, q'⟩
  show wpAny (model X.prog X.w) X.A (richCompare .Eq (.ref a) u) (EP X pins σ Q) X.xe s
  have hu : X.A.units < cLine := hr.units0
  rcases ho with ⟨b, dy, gs, rfl, hb⟩ | ⟨b, xs, rfl, hb⟩
  · obtain rfl : u = Value.ref b := ry
    obtain ⟨mB, O', _⟩ := ins_get I.hok hb
    obtain ⟨od', J', _⟩ := O'.look
    exact PySem.W.cmp_K (op := .Eq) (tb := .ref C) hu hF I.ok.mod.kin J J'.type (by simp [PySem.W.notFirst]) hs hf (wpAny_mono (run_here F hr hx I (vs := [.ref a, .ref b]) (.cons rfl (.cons rfl .nil)) q) back fun _ _ e => e)
  · obtain rfl : u = Value.ref b := ry
    obtain ⟨its, _, p1, _⟩ := I.tuple (SqT.of (K := X.K) hb)
    have L : PySem.W.Looks (model X.prog X.w) s.heap (typeOf (.ref b)) (.type "tuple") := by
      obtain ⟨o, ho, hc, _⟩ := p1
      exact fun A Q E s k q => wpAny_typeOf_ref (k _ _ ho) (by rw [hc]; exact q)
    exact PySem.W.cmp_K (op := .Eq) (tb := .type "tuple") hu hF I.ok.mod.kin J L (by simp [PySem.W.notFirst, ht]) hs hf (wpAny_mono (run_here F hr hx I (vs := [.ref a, .ref b]) (.cons rfl (.cons rfl .nil)) q) back fun _ _ e => e)
/-- o >> y, y of the built-in kind T -/
def rShV (C : Addr) (T : String) (sp : Sp) (E : XK) : R2 := fun x y H Q => ∃ (a dx : Addr) (fs : List (Str × V)), x = .ref a ∧ H a = some (.ins C dx fs) ∧ (∀ u, RelV y u → typeOf u = pure (.type T)) ∧ sp [.ref a, y] H (fun v H' => (∃ b : Addr, v = .ref b) ∧ Q v H') E
theorem op_shV {T : String} {fo ro : Option Value} (hc : PySem.W.selfFirst X.K C = true) (hs : PySem.W.findIn X.K (.ref C) "__rshift__" = some (some (.ref f))) (hf : PySem.W.isFn X.K (.ref f) = true)
    (hn : PySem.W.findIn X.K (.ref C) "__rrshift__" = some none) (h1 : PySem.W.findIn X.K (.type T) "__rshift__" = some fo) (h2 : PySem.W.findIn X.K (.type T) "__rrshift__" = some ro) (hsub : PySem.W.subIn X.K (.type T) (.ref C) = some false)
    (F : FnR X.prog X.w X.K X.mg X.base CX k f sp) (hr : Room k X.A) (hx : Passes CX X E) : OpR X (binaryOp .RShift) (rShV C T sp E) := by
  intro pins s σ H x y v u Q I rx ry h
  obtain ⟨a, dx, fs, rfl, ea, hT, q⟩ := h
  obtain rfl : v = Value.ref a := rx
  obtain ⟨mA, O, _⟩ := ins_get I.hok ea
  obtain ⟨od, J, _⟩ := O.look
  obtain ⟨m, hns, _⟩ := I.loc
  refine PySem.W.ksp_binT (op := .RShift) (T := T) ⟨hns, I.bk, Nat.le_trans I.ok.bsz I.ok.above⟩ I.ok.mod.kin J (hT u ry) hc hs hf hn (.inl rfl) h1 h2 hsub ?_
  refine wpAny_mono (run_here F hr hx I (vs := [.ref a, y]) (.cons rfl (.cons ry .nil)) q) (fun w s' z => ?_) fun _ _ e => e
  obtain ⟨z, H', I', rz, ⟨b, rfl⟩, q'⟩ := z
  obtain rfl : w = Value.ref b := rz
  exact ⟨.ref b, H', I', rfl, q'⟩
/-- x(..), x a local name that holds the class at C -/
def tMakeL (i : Nat) (C : Addr) (sp : Sp) (E : XK) (t : TA) : TE := fun σ H Q => σ[i]? = some (some (.ref C)) ∧ StX.tMakeR C sp E t σ H Q
theorem pe_makeL {i : Nat} {x : Str} {e : Expr} {es : List Expr} {t : TA} {p pos : Pos} (M : Mk X.K C f) (F : FnR X.prog X.w X.K X.mg X.base CX k f sp) (hr : Room (k + 1) X.A) (hN : X.N[i]? = some x) (hv : Vis X.env.scope x) (hx : Passes CX X E) (ha : PA X (e :: es) t)
    (hdb : (x == ("__debug__" : Str)) = false := by decide) (hcd : (x == ("__classdict__" : Str)) = false := by decide)
    (he : starEach (e :: es) X.env = (false, eval e X.env) :: starEach es X.env := by rfl) (hpl : (backTo pos (starEach es X.env)).any (·.1) = false := by rfl) : PE X (.Call (.Name x p) (e :: es) [] pos) (tMakeL i C sp E t) := by
  refine ⟨fun pins s σ H Q I h => ?_⟩
  obtain ⟨hs, ht⟩ := h
  have look := (pe_var (pos := p) hN hv hdb hcd).run pins s σ H (fun v H1 => v = .ref C ∧ H1 = H) I ⟨.ref C, hs, rfl, rfl⟩
  refine wpAny_Call_Name_kw (thn look fun u s1 hq => ?_)
  obtain ⟨v, H1, I1, r1, rfl, rfl⟩ := hq
  cases r1
  have args := ha.run pos pins s1 σ _ _ I1 ht
  exact PySem.W.callWith_K (h₀ := X.base) I.ok.mod.kin M.kp (thn args fun us s2 hq2 => by
    obtain ⟨vs, H2, I2, r, q⟩ := hq2
    exact ⟨I2.kIn, StX.run_makeR M F hr hx I2 r q⟩) he hpl
end
end Rz
/-! DaysObserver.from_log. -/
namespace Rp
open PySem PySem.Spec PyProof.Rows L2 Rz Rm Rl
/-- where nothing is raised -/
theorem fn_calm {P : Program} {w : World} {K : PySem.W.Frag} {mg : Str → Option Value} {base : Heap} {k : Nat} {f : Addr} {fd : FuncData} {ps : List Str} {sp : Sp} (F : FnOk P w K mg base (L2.CX P w) k f fd ps sp) :
    FnOk P w K mg base CX0 k f fd ps (fun vs H Q _ => sp vs H Q fun _ _ _ => False) := by
  refine ⟨fun vs H Q E h => F.len vs H Q _ h, fun A outer s H args us vs Q E hr e0 b r h => ?_⟩
  refine codeAny_mono (F.run A outer s H args us vs Q _ hr e0 b r h) fun res s' z => ?_
  cases res with
  | ok fl => cases fl <;> exact z
  | error e =>
    obtain ⟨_, _, _, _, _, _, _, _, _, _, _, _, no⟩ := z
    exact no.elim
theorem after_snoc (ds ss : List Int) (r : Nat) (lf : List Int) (vs : List Ov) (v : Ov) : after ds ss r lf (vs ++ [v]) = (after ds ss r lf vs).filter (agr ds ss r v.e v.k v.x v.day) := by
  unfold after
  rw [List.foldl_append]
  rfl
theorem KO.trans {o ol : Addr} {H H1 H2 : Hp} (a : KO o ol H H1) (b : KO o ol H1 H2) : KO o ol H H2 := fun c x h n1 n2 => b c x (a c x h n1 n2) n1 n2
section
variable {P : Program} {w : World} {K : PySem.W.Frag} {mg : Str → Option Value} {base : Heap}
theorem ok_fl {CC : Addr} (T : Tx K mg) (X : RxE K mg "Contradiction" CC) : FnOk P w K mg base CX0 10 T.a_dfrom_log T.d_dfrom_log P_dfrom_log (spFl T.C T.dC CC) := by
  refine T.F_dfrom_log.ok sc_dfrom_log (fun vs H Q E h => ?_) (fun cdv A outer s H vs Q E hr h => ?_)
  · obtain ⟨p, dp, td, ts, ll, ds, ss, r, os, ovs, rfl, _⟩ := h
    rfl
  · obtain ⟨p, dp, td, ts, ll, ds, ss, r, os, ovs, rfl, R, hr1, hl, few, ho, ok, ne, q⟩ := h
    have nd := sc_dfrom_log.nd
    have l8 := R.ok.l8
    refine ⟨_, pss_cons (ps_set (i := 4) nd rfl (.inl rfl) (pe_makeL (i := 0) (C := T.dC) T.mkD ((ok_di T).raw T.b_dinit .nil) hr rfl (.inl rfl) pass0 (pa_cons (pv 1) (pa_cons (pv 2) pa_nil))))
      (pss_cons (ps_for PassesOwn.never rfl (pi_list (pv 3)) (pg_star1 rfl (pg_name (i := 5) nd rfl (.inl rfl)) (pg_name (i := 6) nd rfl (.inl rfl)))
        (pss_one (ps_if (pt_cmpR op_eq (pv 5) pe_str (nomark _))
          (pss_one (ps_expr (pe_methSL (pv 4) T.clD T.bEnd ((fn_calm (ok_se T X)).raw T.b_dsee_end .nil) (hr.mono (by decide)) pass0 (pv 6))))
          (pss_one (ps_expr (pe_methSL (pv 4) T.clD T.bOpen ((fn_calm (ok_so T X)).raw T.b_dsee_open .nil) (hr.mono (by decide)) pass0 (pv 6)))))))
      (pss_one (ps_ret (pv 4)))), ?_⟩
    refine ⟨rfl, _, rfl, _, rfl, fun o z no nz noz => ?_⟩
    have s0 : Same H (upd (upd H z (.own o)) o (.ins T.dC z [])) := fun b x e => by
      rw [upd_ne (ne_of_none e no), upd_ne (ne_of_none e nz)]
      exact e
    refine ⟨o, z, p, dp, td, ts, ds, ss, r, rfl, upd_same, R.same s0, hr1, fun H1 rl ol ra k1 nol b1 => ⟨rfl, ?_⟩⟩
    have S1 : Same H H1 := fun b x e => k1 b x (s0 b x e) (ne_of_none e no)
    have nol : H ol = none := by
      cases e : H ol with
      | none => rfl
      | some v => rw [s0 _ _ e] at nol; cases nol
    have lo : ll ≠ o := ne_of_none hl no
    have lol : ll ≠ ol := ne_of_none hl nol
    refine ⟨_, rfl, ll, rfl, ⟨_, .of (S1 _ _ hl)⟩, for_list (K := K) (a := ll) (xs := os) (fun i σ H' => (∃ y5 y6, σ = [some (.ref T.dC), some (.ref p), some (.int (r : Int)), some (.ref ll), some (.ref o), y5, y6]) ∧ KO o ol H1 H' ∧ ∃ (rl : Addr) (ra : List Addr) (os' : List V), Ob T.C T.dC H' o z rl ol r ra (after ds ss r all30 (ovs.take i)) ds ss os' ∧ os'.length = i ∧ Ovs H' os' (ovs.take i)) ?_ (fun i σ H' _ ⟨_, k, _⟩ => .of (k _ _ (S1 _ _ hl) lo lol)) ?_ ?_⟩
    · exact ⟨⟨_, _, rfl⟩, fun b x e _ _ => e, rl, ra, [], b1, rfl, rfl, fun i y v h => by simp at h⟩
    · rintro i y σ H2 hi ⟨⟨y5, y6, rfl⟩, k2, rl, ra, os', b2, lo', vo'⟩
      have hlt := (List.getElem?_eq_some_iff.mp hi).1
      have hv : ovs[i]? = some (ovs[i]'(by rw [← ho.1]; exact hlt)) := List.getElem?_eq_getElem _
      generalize (ovs[i]'(by rw [← ho.1]; exact hlt)) = v at hv
      obtain ⟨t, rfl, ht⟩ := ho.2 i y v hi hv
      obtain ⟨v0, v1, v2, v3, v4, v5⟩ := ok v (List.mem_of_getElem? hv)
      have ht2 := k2 _ _ (S1 _ _ ht) (ne_of_none ht no) (ne_of_none ht nol)
      have tk : ovs.take (i + 1) = ovs.take i ++ [v] := by rw [List.take_add_one, hv]; rfl
      have nei : after ds ss r all30 (ovs.take (i + 1)) ≠ [] := ne (i + 1) (by rw [← ho.1]; omega)
      rw [tk, after_snoc] at nei
      refine ⟨t, _, _, rfl, .of ht2, by show 3 < 900; decide, fun D hD => ?_⟩
      have s3 := same_upd (o := .lst [.int v.k, .int v.x, .int v.day]) hD
      refine ⟨_, rfl, rfl, _, rfl, ?_⟩
      have b3 := b2.same s3
      obtain ⟨e, k, x, day⟩ := v
      cases e with
      | true =>
        rw [show decide (V.str (oNm true) = V.str "see_end") = true from decide_eq_true rfl]
        refine iteT ⟨_, rfl, o, z, _, rfl, b3.ob, rfl, fun m hm => ?_⟩
        have s4 := same_upd (o := .met T.a_dsee_end o) hm
        refine ⟨_, rfl, D, _, rfl, .of (s4 _ _ upd_same), upd_same, ?_⟩
        refine ⟨o, z, rl, ol, r, ra, _, ds, ss, os', k, x, day, rfl, b3.same s4, by omega, v0, v1, v2, v3, v4, v5, fun e => absurd e nei, fun _ H5 t5 nl rb hk h5 b5 => ?_⟩
        refine ⟨⟨_, _, rfl⟩, k2.trans (ko_trans (s3.trans s4) hk), nl, rb, os' ++ [.ref t5], ?_, by rw [List.length_append, lo']; rfl, ?_⟩
        · rw [tk, after_snoc]
          exact b5
        · rw [tk]
          exact (vo'.mono fun t xs e => hk _ _ ((s3.trans s4) _ _ e) (ne_of e b2.ob (by intro z; cases z)) (ne_of e b2.ho (by intro z; cases z))).snoc h5
      | false =>
        rw [show decide (V.str (oNm false) = V.str "see_end") = false from by decide +kernel]
        refine iteF ⟨_, rfl, o, z, _, rfl, b3.ob, rfl, fun m hm => ?_⟩
        have s4 := same_upd (o := .met T.a_dsee_open o) hm
        refine ⟨_, rfl, D, _, rfl, .of (s4 _ _ upd_same), upd_same, ?_⟩
        refine ⟨o, z, rl, ol, r, ra, _, ds, ss, os', k, x, day, rfl, b3.same s4, by omega, v0, v1, v2, v3, v4, v5, fun e => absurd e nei, fun _ H5 t5 nl rb hk h5 b5 => ?_⟩
        refine ⟨⟨_, _, rfl⟩, k2.trans (ko_trans (s3.trans s4) hk), nl, rb, os' ++ [.ref t5], ?_, by rw [List.length_append, lo']; rfl, ?_⟩
        · rw [tk, after_snoc]
          exact b5
        · rw [tk]
          exact (vo'.mono fun t xs e => hk _ _ ((s3.trans s4) _ _ e) (ne_of e b2.ob (by intro z; cases z)) (ne_of e b2.ho (by intro z; cases z))).snoc h5
    · rintro σ H2 ⟨⟨y5, y6, rfl⟩, k2, rl, ra, os', b2, lo', vo'⟩
      rw [ho.1, List.take_length] at b2 vo'
      exact ⟨_, rfl, q H2 o z rl ol ra os' (fun b x e => k2 _ _ (S1 _ _ e) (ne_of_none e no) (ne_of_none e nol)) b2 vo' nol⟩
end
end Rp
/-! Checks that raise, the raised class known by RxE. -/
namespace Rp
open PySem PySem.Spec PyProof.Rows L2 Rz Rm Rl
/-- v is a number or not -/
def NumV (K : PySem.W.Frag) (H : Hp) (v : V) (b : Bool) : Prop := (∃ i, v = .int i ∧ b = true) ∨ (∃ y, v = .bl y ∧ b = false) ∨ (∃ t : String, TyX K H v (.type t) ∧ kitB t "int" = some false ∧ b = false)
/-- v lies between lo and hi, or not -/
def LieV (K : PySem.W.Frag) (H : Hp) (v : V) (lo hi : Int) (b : Bool) : Prop := (∃ i, v = .int i ∧ b = (decide (lo ≤ i) && decide (i ≤ hi))) ∨ (NumV K H v false ∧ b = false)
section
variable {P : Program} {w : World} {K : PySem.W.Frag} {mg : Str → Option Value} {base : Heap}
def spIsNumV (K : PySem.W.Frag) : Sp := fun vs H Q _ => ∃ (v : V) (b : Bool), vs = [v] ∧ NumV K H v b ∧ Q (.bl b) H
theorem ok_is_numberV (T : Tx K mg) : FnOk P w K mg base CX0 1 T.a_is_number T.d_is_number P_is_number (spIsNumV K) := by
  refine T.F_is_number.ok sc_is_number (fun vs H Q E h => ?_) (fun cdv A outer s H vs Q E hr h => ?_)
  · obtain ⟨i, b, rfl, _⟩ := h
    rfl
  · obtain ⟨v, b, rfl, hv, q⟩ := h
    refine ⟨_, pss_one (ps_ret (pe_and (pe_callB call_isi (by rfl) T.z_isinstance (by decide +kernel) (pa_cons (pv 0) (pa_cons (pe_bltn (v := .ty "int") (u := .type "int") (by rfl) T.z_int (by decide +kernel) rfl) pa_nil)))
      (pe_one (pe_not (pe_callB call_isi (by rfl) T.z_isinstance (by decide +kernel) (pa_cons (pv 0) (pa_cons (pe_bltn (v := .ty "bool") (u := .type "bool") (by rfl) T.z_bool (by decide +kernel) rfl) pa_nil))))))), ?_⟩
    rcases hv with ⟨i, rfl, rfl⟩ | ⟨y, rfl, rfl⟩ | ⟨t, ht, hk, rfl⟩
    · refine ⟨.int i, rfl, .int i, .ty "int", .type "int", .type "int", true, rfl, .ty _, .base (.int i), kit_ty (by decide +kernel), true, rfl, iteT ?_⟩
      exact ⟨.int i, rfl, .int i, .ty "bool", .type "int", .type "bool", false, rfl, .ty _, .base (.int i), kit_ty (by decide +kernel), false, rfl, q⟩
    · refine ⟨.bl y, rfl, .bl y, .ty "int", .type "bool", .type "int", true, rfl, .ty _, .base (.bl y), kit_ty (by decide +kernel), true, rfl, iteT ?_⟩
      exact ⟨.bl y, rfl, .bl y, .ty "bool", .type "bool", .type "bool", true, rfl, .ty _, .base (.bl y), kit_ty (by decide +kernel), true, rfl, q⟩
    · exact ⟨v, rfl, v, .ty "int", .type t, .type "int", false, rfl, .ty _, ht, kit_ty hk, false, rfl, iteF q⟩
def spLiesV (K : PySem.W.Frag) : Sp := fun vs H Q _ => ∃ (v : V) (lo hi : Int) (b : Bool), vs = [v, .int lo, .int hi] ∧ LieV K H v lo hi b ∧ Q (.bl b) H
theorem ok_liesV (T : Tx K mg) : FnOk P w K mg base CX0 2 T.a_lies_between T.d_lies_between P_lies_between (spLiesV K) := by
  refine T.F_lies_between.ok sc_lies_between (fun vs H Q E h => ?_) (fun cdv A outer s H vs Q E hr h => ?_)
  · obtain ⟨v, lo, hi, b, rfl, _⟩ := h
    rfl
  · obtain ⟨v, lo, hi, b, rfl, hv, q⟩ := h
    refine ⟨_, pss_one (ps_ret (pe_and (pe_call (ok_is_numberV T) hr (by rfl) T.g_is_number T.F_is_number.kp T.b_is_number .nil pass0 (pa_cons (pv 0) pa_nil)) (pe_one (pe_chain op_le op_le (pv 1) (pv 0) (pv 2))))), ?_⟩
    rcases hv with ⟨i, rfl, rfl⟩ | ⟨hn, rfl⟩
    · refine ⟨.int i, rfl, .int i, true, rfl, .inl ⟨i, rfl, rfl⟩, true, rfl, iteT ?_⟩
      refine ⟨.int lo, rfl, .int i, rfl, lo, i, rfl, rfl, decide (lo ≤ i), rfl, ?_⟩
      by_cases h : lo ≤ i
      · rw [decide_eq_true h] at q ⊢
        exact iteT ⟨.int hi, rfl, i, hi, rfl, rfl, q⟩
      · rw [decide_eq_false h] at q ⊢
        exact iteF q
    · exact ⟨v, rfl, v, false, rfl, hn, false, rfl, iteF q⟩
/-- check_number: passes, or raises InvalidNumber -/
def spChkX (K : PySem.W.Frag) (CN : Addr) : Sp := fun vs H Q E => ∃ (v : V) (lo hi : Int) (b : Bool), vs = [v, .int lo, .int hi] ∧ LieV K H v lo hi b ∧ (b = true → Q .non H) ∧ (b = false → E (.ref CN) none H)
theorem ok_chkX {CN : Addr} (T : Tx K mg) (E4 : RxE K mg "InvalidNumber" CN) : FnOk P w K mg base (L2.CX P w) 3 T.a_check_number T.d_check_number P_check_number (spChkX K CN) := by
  refine T.F_check_number.okX sc_check_number (fun vs H Q E h => ?_) (fun cdv A outer s H vs Q E hr h => ?_)
  · obtain ⟨v, lo, hi, b, rfl, _⟩ := h
    rfl
  · obtain ⟨v, lo, hi, b, rfl, hv, q1, q2⟩ := h
    refine ⟨_, pss_one (ps_if (pt_not (pt_val (pe_call (ok_liesV T) hr (by rfl) T.g_lies_between T.F_lies_between.kp T.b_lies_between .nil pass0 (pa_cons (pv 0) (pa_cons (pv 1) (pa_cons (pv 2) pa_nil))))))
      (pss_one (ps_raise rfl (takes_of rfl rfl rfl rfl) (pmk_own PySem.F.excBase_ValueError E4.xF E4.g E4.kF (raises_own E4.bF E4.tF) (by exact rfl)))) pss_nil), ?_⟩
    refine ⟨v, rfl, .int lo, rfl, .int hi, rfl, v, lo, hi, b, rfl, hv, b, rfl, ?_⟩
    cases b with
    | true => exact iteF (q1 rfl)
    | false => exact iteT (q2 rfl)
/-- check_reader: passes, or raises UnknownReader -/
def spRdX (K : PySem.W.Frag) (C CU : Addr) : Sp := fun vs H Q E => ∃ (p dx td ts : Addr) (ds ss : List Int) (v : V) (b : Bool), vs = [.ref p, v] ∧ RingAt C H p dx td ts ds ss ∧ LieV K H v 0 ((ds.length : Int) - 1) b ∧ (b = true → Q .non H) ∧ (b = false → E (.ref CU) none H)
theorem ok_rdX {CU : Addr} (T : Tx K mg) (E2 : RxE K mg "UnknownReader" CU) : FnOk P w K mg base (L2.CX P w) 3 T.a_check_reader T.d_check_reader P_check_reader (spRdX K T.C CU) := by
  refine T.F_check_reader.okX sc_check_reader (fun vs H Q E h => ?_) (fun cdv A outer s H vs Q E hr h => ?_)
  · obtain ⟨p, dx, td, ts, ds, ss, v, b, rfl, _⟩ := h
    rfl
  · obtain ⟨p, dx, td, ts, ds, ss, v, b, rfl, R, hv, q1, q2⟩ := h
    have hl := R.ok.l8
    refine ⟨_, pss_one (ps_if (pt_not (pt_val (pe_call (ok_liesV T) hr (by rfl) T.g_lies_between T.F_lies_between.kp T.b_lies_between .nil pass0
      (pa_cons (pv 1) (pa_cons pe_int (pa_cons (pe_op op_sub (pe_callB (call_lenI T.lenC T.lenF ((ok_len T).raw T.b_rlen .nil) hr pass0) (by rfl) T.z_len PySem.boot_len (pa_cons (pv 0) pa_nil)) pe_int) pa_nil))))))
      (pss_one (ps_raise rfl (takes_of rfl rfl rfl rfl) (pmk_own PySem.F.excBase_ValueError E2.xF E2.g E2.kF (raises_own E2.bF E2.tF) (by exact rfl)))) pss_nil), ?_⟩
    refine ⟨v, rfl, .ref p, rfl, p, dx, _, rfl, R.ob, p, dx, td, ts, ds, ss, rfl, R, (ds.length : Int), rfl, by omega, by omega, _, _, rfl, rfl, ?_⟩
    refine ⟨v, 0, (ds.length : Int) - 1, b, rfl, hv, b, rfl, ?_⟩
    cases b with
    | true => exact iteF (q1 rfl)
    | false => exact iteT (q2 rfl)
theorem lie_int {K : PySem.W.Frag} {H : Hp} {r lo hi : Int} (h0 : lo ≤ r) (h1 : r ≤ hi) : LieV K H (.int r) lo hi true := .inl ⟨r, rfl, by rw [decide_eq_true h0, decide_eq_true h1]; rfl⟩
theorem lie_no {K : PySem.W.Frag} {H : Hp} {v : V} {lo hi : Int} (h : (∃ r, v = .int r ∧ (r < lo ∨ hi < r)) ∨ v = .non ∨ v = .bl true) : LieV K H v lo hi false := by
  rcases h with ⟨r, rfl, h⟩ | rfl | rfl
  · refine .inl ⟨r, rfl, ?_⟩
    rcases h with h | h
    · rw [decide_eq_false (by omega)]; rfl
    · rw [decide_eq_false (show ¬ r ≤ hi by omega), Bool.and_false]
  · exact .inr ⟨.inr (.inr ⟨"NoneType", .base .non, by decide +kernel, rfl⟩), rfl⟩
  · exact .inr ⟨.inr (.inl ⟨true, rfl, rfl⟩), rfl⟩
end
end Rp
/-! Observers: what they raise. -/
namespace Rp
open PySem PySem.Spec PyProof.Rows L2 Rz Rm Rl
section
variable {P : Program} {w : World} {K : PySem.W.Frag} {mg : Str → Option Value} {base : Heap}
/-- no such reading: which error comes first -/
def BadR (K : PySem.W.Frag) (H : Hp) (n : Nat) (v x : V) (hi : Int) (CU CN : Addr) (E : XK) : Prop := (LieV K H v 0 ((n : Int) - 1) false ∧ E (.ref CU) none H) ∨ ((∃ k : Int, v = .int k ∧ 0 ≤ k ∧ k < n) ∧ LieV K H x 0 hi false ∧ E (.ref CN) none H)
def spCrX (K : PySem.W.Frag) (C dC CU CN : Addr) : Sp := fun vs H Q E => ∃ (o dx rl ol : Addr) (r : Nat) (ra : List Addr) (lf ds ss : List Int) (os : List V) (v x : V), vs = [.ref o, v, x] ∧ Ob C dC H o dx rl ol r ra lf ds ss os ∧ BadR K H ds.length v x 1000000000000000000 CU CN E
theorem ok_crX {CU CN : Addr} (T : Tx K mg) (E2 : RxE K mg "UnknownReader" CU) (E4 : RxE K mg "InvalidNumber" CN) : FnOk P w K mg base (L2.CX P w) 4 T.a_dcheck_reading T.d_dcheck_reading P_dcheck_reading (spCrX K T.C T.dC CU CN) := by
  refine T.F_dcheck_reading.okX sc_dcheck_reading (fun vs H Q E h => ?_) (fun cdv A outer s H vs Q E hr h => ?_)
  · obtain ⟨o, dx, rl, ol, r, ra, lf, ds, ss, os, v, x, rfl, _⟩ := h
    rfl
  · obtain ⟨o, dx, rl, ol, r, ra, lf, ds, ss, os, v, x, rfl, b, hh⟩ := h
    obtain ⟨u1, c1⟩ := T.c_LATEST
    refine ⟨_, pss_cons (ps_expr (pe_callS (ok_rdX T E2) hr (by rfl) T.g_check_reader T.F_check_reader.kp T.b_check_reader (fun σ => passAt (takes_of rfl rfl rfl rfl) σ) (pa_cons (pe_ix ix_list (pe_fld (pv 0) rfl) pe_int (fun _ _ => rfl)) (pa_cons (pv 1) pa_nil))))
      (pss_cons (ps_expr (pe_callS (ok_chkX T E4) hr (by rfl) T.g_check_number T.F_check_number.kp T.b_check_number (fun σ => passAt (takes_of rfl rfl rfl rfl) σ) (pa_cons (pv 2) (pa_cons pe_int (pa_cons (pe_glob (v := .int 1000000000000000000) (by rfl) c1 ⟨_, rfl⟩) pa_nil))))) pss_never), ?_⟩
    obtain ⟨a, d, dx', td, ts, ha, R⟩ := b.first
    have hl : (ds.set r d).length = ds.length := List.length_set
    refine ⟨_, rfl, o, _, dx, _, _, rfl, b.ob, T.clD, T.nRg, obF_g _ _ _, rl, _, 0, .ref a, rfl, rfl, .of b.hr, atI_nat (j := 0) (by rw [List.getElem?_map, ha]; rfl), v, rfl, ?_⟩
    rcases hh with ⟨hv, q⟩ | ⟨⟨k, rfl, k0, k1⟩, hx, q⟩
    · exact ⟨a, dx', td, ts, ds.set r d, ss, v, false, rfl, R, by rw [hl]; exact hv, fun z => Bool.noConfusion z, fun _ => q⟩
    · refine ⟨a, dx', td, ts, ds.set r d, ss, _, true, rfl, R, by rw [hl]; exact lie_int k0 (by omega), fun _ => ?_, fun z => Bool.noConfusion z⟩
      exact ⟨x, rfl, x, 0, _, false, rfl, hx, fun z => Bool.noConfusion z, fun _ => q⟩
/-- see_end, see_open, possible_ends of no reading -/
def spSeX (K : PySem.W.Frag) (C dC CU CN : Addr) : Sp := fun vs H Q E => ∃ (o dx rl ol : Addr) (r : Nat) (ra : List Addr) (lf ds ss : List Int) (os : List V) (v x y : V), vs = [.ref o, v, x, y] ∧ Ob C dC H o dx rl ol r ra lf ds ss os ∧ BadR K H ds.length v x 1000000000000000000 CU CN E
theorem ok_seX {CU CN : Addr} (T : Tx K mg) (E2 : RxE K mg "UnknownReader" CU) (E4 : RxE K mg "InvalidNumber" CN) : FnOk P w K mg base (L2.CX P w) 5 T.a_dsee_end T.d_dsee_end P_dsee_end (spSeX K T.C T.dC CU CN) := by
  refine T.F_dsee_end.okX sc_dsee_end (fun vs H Q E h => ?_) (fun cdv A outer s H vs Q E hr h => ?_)
  · obtain ⟨o, dx, rl, ol, r, ra, lf, ds, ss, os, v, x, y, rfl, _⟩ := h
    rfl
  · obtain ⟨o, dx, rl, ol, r, ra, lf, ds, ss, os, v, x, y, rfl, b, hh⟩ := h
    refine ⟨_, pss_cons (ps_expr (pe_meth (E := E) (pv 0) T.clD T.mChk (ok_crX T E2 E4) hr T.b_dcheck_reading .nil (passes_call (takes_of rfl rfl rfl rfl) (fun _ _ _ _ z => z)) (pa_cons (pv 1) (pa_cons (pv 2) pa_nil)))) pss_never, ?_⟩
    exact ⟨_, rfl, o, dx, _, rfl, b.ob, rfl, v, rfl, x, rfl, o, dx, rl, ol, r, ra, lf, ds, ss, os, v, x, rfl, b, hh⟩
def spPeX (K : PySem.W.Frag) (C dC CU CN : Addr) : Sp := fun vs H Q E => ∃ (o dx rl ol : Addr) (r : Nat) (ra : List Addr) (lf ds ss : List Int) (os : List V) (v x : V), vs = [.ref o, v, x] ∧ Ob C dC H o dx rl ol r ra lf ds ss os ∧ BadR K H ds.length v x 1000000000000000000 CU CN E
theorem ok_peX {CU CN : Addr} (T : Tx K mg) (E2 : RxE K mg "UnknownReader" CU) (E4 : RxE K mg "InvalidNumber" CN) : FnOk P w K mg base (L2.CX P w) 5 T.a_dpossible_ends T.d_dpossible_ends P_dpossible_ends (spPeX K T.C T.dC CU CN) := by
  refine T.F_dpossible_ends.okX sc_dpossible_ends (fun vs H Q E h => ?_) (fun cdv A outer s H vs Q E hr h => ?_)
  · obtain ⟨o, dx, rl, ol, r, ra, lf, ds, ss, os, v, x, rfl, _⟩ := h
    rfl
  · obtain ⟨o, dx, rl, ol, r, ra, lf, ds, ss, os, v, x, rfl, b, hh⟩ := h
    refine ⟨_, pss_cons (ps_expr (pe_meth (E := E) (pv 0) T.clD T.mChk (ok_crX T E2 E4) hr T.b_dcheck_reading .nil (passes_call (takes_of rfl rfl rfl rfl) (fun _ _ _ _ z => z)) (pa_cons (pv 1) (pa_cons (pv 2) pa_nil)))) pss_never, ?_⟩
    exact ⟨_, rfl, o, dx, _, rfl, b.ob, rfl, v, rfl, x, rfl, o, dx, rl, ol, r, ra, lf, ds, ss, os, v, x, rfl, b, hh⟩
end
end Rp
/-! Observers: see_open, telling_number and __init__ that raise. -/
namespace Rp
open PySem PySem.Spec PyProof.Rows L2 Rz Rm Rl
/-- a promise without errors and one with them, of the same def -/
theorem fn_both {P : Program} {w : World} {K : PySem.W.Frag} {mg : Str → Option Value} {base : Heap} {CX : CXT} {k : Nat} {f : Addr} {fd : FuncData} {ps : List Str} {sp1 sp2 : Sp} (F1 : FnOk P w K mg base CX0 k f fd ps sp1) (F2 : FnOk P w K mg base CX k f fd ps sp2) :
    FnOk P w K mg base CX k f fd ps (fun vs H Q E => sp1 vs H Q E ∨ sp2 vs H Q E) := by
  refine ⟨fun vs H Q E h => h.elim (F1.len vs H Q E) (F2.len vs H Q E), fun A outer s H args us vs Q E hr e0 b r h => ?_⟩
  rcases h with h | h
  · refine codeAny_mono (F1.run A outer s H args us vs Q E hr e0 b r h) fun r s' z => ?_
    cases r with
    | ok fl => cases fl <;> exact z
    | error e => exact False.elim z
  · exact F2.run A outer s H args us vs Q E hr e0 b r h
section
variable {P : Program} {w : World} {K : PySem.W.Frag} {mg : Str → Option Value} {base : Heap}
def spSoX (K : PySem.W.Frag) (C dC CU CN : Addr) : Sp := fun vs H Q E => ∃ (o dx rl ol : Addr) (r : Nat) (ra : List Addr) (lf ds ss : List Int) (os : List V) (v x y : V), vs = [.ref o, v, x, y] ∧ Ob C dC H o dx rl ol r ra lf ds ss os ∧
  (BadR K H ds.length v x 1000000000000000000 CU CN E ∨ ((∃ k : Int, v = .int k ∧ 0 ≤ k ∧ k < ds.length) ∧ (∃ n : Int, x = .int n ∧ 0 ≤ n ∧ n ≤ 1000) ∧ LieV K H y 0 1000000000000000000 false ∧ E (.ref CN) none H))
theorem ok_soX {CU CN : Addr} (T : Tx K mg) (E2 : RxE K mg "UnknownReader" CU) (E4 : RxE K mg "InvalidNumber" CN) : FnOk P w K mg base (L2.CX P w) 5 T.a_dsee_open T.d_dsee_open P_dsee_open (spSoX K T.C T.dC CU CN) := by
  refine T.F_dsee_open.okX sc_dsee_open (fun vs H Q E h => ?_) (fun cdv A outer s H vs Q E hr h => ?_)
  · obtain ⟨o, dx, rl, ol, r, ra, lf, ds, ss, os, v, x, y, rfl, _⟩ := h
    rfl
  · obtain ⟨o, dx, rl, ol, r, ra, lf, ds, ss, os, v, x, y, rfl, b, hh⟩ := h
    obtain ⟨u1, c1⟩ := T.c_LATEST
    refine ⟨_, pss_cons (ps_expr (pe_meth (E := E) (pv 0) T.clD T.mChk (fn_both (ok_cr T) (ok_crX T E2 E4)) hr T.b_dcheck_reading .nil (passes_call (takes_of rfl rfl rfl rfl) (fun _ _ _ _ z => z)) (pa_cons (pv 1) (pa_cons (pv 2) pa_nil))))
      (pss_cons (ps_expr (pe_callS (ok_chkX T E4) (hr.mono (by decide)) (by rfl) T.g_check_number T.F_check_number.kp T.b_check_number (fun σ => passAt (takes_of rfl rfl rfl rfl) σ) (pa_cons (pv 3) (pa_cons pe_int (pa_cons (pe_glob (v := .int 1000000000000000000) (by rfl) c1 ⟨_, rfl⟩) pa_nil))))) pss_never), ?_⟩
    refine ⟨_, rfl, o, dx, _, rfl, b.ob, rfl, v, rfl, x, rfl, ?_⟩
    rcases hh with hh | ⟨⟨k, rfl, k0, k1⟩, ⟨n, rfl, n0, n1⟩, hy, q⟩
    · exact .inr ⟨o, dx, rl, ol, r, ra, lf, ds, ss, os, v, x, rfl, b, hh⟩
    · refine .inl ⟨o, dx, rl, ol, r, ra, lf, ds, ss, os, k, n, rfl, b, k0, k1, n0, n1, ?_⟩
      exact ⟨y, rfl, y, 0, _, false, rfl, hy, fun z => Bool.noConfusion z, fun _ => q⟩
def spTnX (K : PySem.W.Frag) (C dC CU CN : Addr) : Sp := fun vs H Q E => ∃ (o dx rl ol : Addr) (r : Nat) (ra : List Addr) (lf ds ss : List Int) (os : List V) (v x : V), vs = [.ref o, v, x] ∧ Ob C dC H o dx rl ol r ra lf ds ss os ∧ BadR K H ds.length v x 500 CU CN E
theorem ok_tnX {CU CN : Addr} (T : Tx K mg) (E2 : RxE K mg "UnknownReader" CU) (E4 : RxE K mg "InvalidNumber" CN) : FnOk P w K mg base (L2.CX P w) 4 T.a_dtelling_number T.d_dtelling_number P_dtelling_number (spTnX K T.C T.dC CU CN) := by
  refine T.F_dtelling_number.okX sc_dtelling_number (fun vs H Q E h => ?_) (fun cdv A outer s H vs Q E hr h => ?_)
  · obtain ⟨o, dx, rl, ol, r, ra, lf, ds, ss, os, v, x, rfl, _⟩ := h
    rfl
  · obtain ⟨o, dx, rl, ol, r, ra, lf, ds, ss, os, v, x, rfl, b, hh⟩ := h
    obtain ⟨u1, c1⟩ := T.c_MOST_LIMIT
    refine ⟨_, pss_cons (ps_expr (pe_callS (ok_rdX T E2) hr (by rfl) T.g_check_reader T.F_check_reader.kp T.b_check_reader (fun σ => passAt (takes_of rfl rfl rfl rfl) σ) (pa_cons (pe_ix ix_list (pe_fld (pv 0) rfl) pe_int (fun _ _ => rfl)) (pa_cons (pv 1) pa_nil))))
      (pss_cons (ps_expr (pe_callS (ok_chkX T E4) hr (by rfl) T.g_check_number T.F_check_number.kp T.b_check_number (fun σ => passAt (takes_of rfl rfl rfl rfl) σ) (pa_cons (pv 2) (pa_cons pe_int (pa_cons (pe_glob (v := .int 500) (by rfl) c1 ⟨_, rfl⟩) pa_nil))))) pss_never), ?_⟩
    obtain ⟨a, d, dx', td, ts, ha, R⟩ := b.first
    have hl : (ds.set r d).length = ds.length := List.length_set
    refine ⟨_, rfl, o, _, dx, _, _, rfl, b.ob, T.clD, T.nRg, obF_g _ _ _, rl, _, 0, .ref a, rfl, rfl, .of b.hr, atI_nat (j := 0) (by rw [List.getElem?_map, ha]; rfl), v, rfl, ?_⟩
    rcases hh with ⟨hv, q⟩ | ⟨⟨k, rfl, k0, k1⟩, hx, q⟩
    · exact ⟨a, dx', td, ts, ds.set r d, ss, v, false, rfl, R, by rw [hl]; exact hv, fun z => Bool.noConfusion z, fun _ => q⟩
    · refine ⟨a, dx', td, ts, ds.set r d, ss, _, true, rfl, R, by rw [hl]; exact lie_int k0 (by omega), fun _ => ?_, fun z => Bool.noConfusion z⟩
      exact ⟨x, rfl, x, 0, _, false, rfl, hx, fun z => Bool.noConfusion z, fun _ => q⟩
def spDiX (K : PySem.W.Frag) (C CU : Addr) : Sp := fun vs H Q E => ∃ (o p dp td ts : Addr) (ds ss : List Int) (v : V), vs = [.ref o, .ref p, v] ∧ RingAt C H p dp td ts ds ss ∧ LieV K H v 0 ((ds.length : Int) - 1) false ∧ E (.ref CU) none H
theorem ok_diX {CU : Addr} (T : Tx K mg) (E2 : RxE K mg "UnknownReader" CU) : FnOk P w K mg base (L2.CX P w) 4 T.a_dinit T.d_dinit P_dinit (spDiX K T.C CU) := by
  refine T.F_dinit.okX sc_dinit (fun vs H Q E h => ?_) (fun cdv A outer s H vs Q E hr h => ?_)
  · obtain ⟨o, p, dp, td, ts, ds, ss, v, rfl, _⟩ := h
    rfl
  · obtain ⟨o, p, dp, td, ts, ds, ss, v, rfl, R, hv, q⟩ := h
    refine ⟨_, pss_cons (ps_expr (pe_callS (ok_rdX T E2) hr (by rfl) T.g_check_reader T.F_check_reader.kp T.b_check_reader (fun σ => passAt (takes_of rfl rfl rfl rfl) σ) (pa_cons (pv 1) (pa_cons (pv 2) pa_nil)))) pss_never, ?_⟩
    exact ⟨_, rfl, v, rfl, p, dp, td, ts, ds, ss, v, false, rfl, R, hv, fun z => Bool.noConfusion z, fun _ => q⟩
end
end Rp
/-! xs.count(y) of flat items; what a suite that knows the class of its error wants. -/
namespace Rt
open PySem PySem.Spec PyProof.Rows L2
section
variable {X : Cx}
def rCntV (K : PySem.W.Frag) : V → List V → Hp → VK → Prop := fun x xs H Q => ∃ (p : Addr) (ys : List V) (y : V), x = .ref p ∧ xs = [y] ∧ SqL K H p ys ∧ flatV y = true ∧ ys.all flatV = true ∧ Q (.int (ys.countP (fun z => eqV z y) : Nat)) H
theorem cntV_eq {y : V} : ∀ {ys : List V} {its : List Value}, Vals ys its → ys.all flatV = true → its.countP (eqU y) = ys.countP (fun z => eqV z y)
  | [], _, .nil, _ => rfl
  | z :: ys, _, .cons r rr, f => by
    simp only [List.all_cons, Bool.and_eq_true] at f
    rw [List.countP_cons, List.countP_cons, cntV_eq rr f.2, eqU_of r f.1]
theorem mt_countV : MtR X "list.count" (rCntV X.K) := by
  intro pins s σ H x xs v us Q I rx rxs h
  obtain ⟨p, ys, y, rfl, rfl, hs, fy, fys, q⟩ := h
  cases rx
  cases rxs with
  | cons ry rt =>
    rename_i uy ut
    cases rt
    obtain ⟨its, rv, ⟨⟨cls, dd, data, sl⟩, n, ho, hc, hdn, hd⟩, hlen⟩ := I.list hs
    simp only at hc hd
    subst hc hd
    refine call_meets PySem.F.slot_list_count ⟨_, ho, rfl⟩ PySem.F.entry_list_count (PySem.F.args_list_count_2 _ _)
      (SeqAt.list_countAt p its.toArray n dd sl uy (eqU y)) ⟨ho, fun u' hu' => mem_eqAt ry fy rv fys u' (by simpa using hu'), ?_⟩
    have ec : its.toArray.toList.countP (eqU y) = ys.countP (fun z => eqV z y) := cntV_eq rv fys
    rw [ec]
    exact ⟨.int _, H, I.kept (t' := s.toks + 1) fun _ _ z => z, ⟨_, rfl⟩, q⟩
/-- the classes that the suite asks for -/
structure RdS (K : PySem.W.Frag) (mg : Str → Option Value) where
  k0 : Addr
  k1 : Addr
  k2 : Addr
  k3 : Addr
  k4 : Addr
  k5 : Addr
  k6 : Addr
  k7 : Addr
  k8 : Addr
  k9 : Addr
  k10 : Addr
  cE : Addr
  g0 : mg "InvalidOperation" = some (.ref k0)
  g1 : mg "InvalidRing" = some (.ref k1)
  g2 : mg "DecodeError" = some (.ref k2)
  g3 : mg "NotationError" = some (.ref k3)
  g4 : mg "BeingRead" = some (.ref k4)
  g5 : mg "DiaryError" = some (.ref k5)
  g6 : mg "InvalidNumber" = some (.ref k6)
  g7 : mg "UnknownReader" = some (.ref k7)
  g8 : mg "UnknownBook" = some (.ref k8)
  g9 : mg "Contradiction" = some (.ref k9)
  g10 : mg "InvalidCount" = some (.ref k10)
  gE : mg "ReadingError" = some (.ref cE)
  zV : mg "ValueError" = none
  zI : mg "isinstance" = none
/-- the class at D is the j-th of them, without fields -/
structure RdR {K : PySem.W.Frag} {mg : Str → Option Value} (S : RdS K mg) (D : Addr) (j : Nat) : Prop where
  lo : 6 ≤ j
  hi : j ≤ 10
  ex : ExcC K D
  ee : PySem.W.exmOne K (.ref D) (.ref S.cE) = some true
  q0 : PySem.W.kitOne K (.ref D) (.ref S.k0) = some (decide (j = 0))
  q1 : PySem.W.kitOne K (.ref D) (.ref S.k1) = some (decide (j = 1))
  q2 : PySem.W.kitOne K (.ref D) (.ref S.k2) = some (decide (j = 2))
  q3 : PySem.W.kitOne K (.ref D) (.ref S.k3) = some (decide (j = 3))
  q4 : PySem.W.kitOne K (.ref D) (.ref S.k4) = some (decide (j = 4))
  q5 : PySem.W.kitOne K (.ref D) (.ref S.k5) = some (decide (j = 5))
  q6 : PySem.W.kitOne K (.ref D) (.ref S.k6) = some (decide (j = 6))
  q7 : PySem.W.kitOne K (.ref D) (.ref S.k7) = some (decide (j = 7))
  q8 : PySem.W.kitOne K (.ref D) (.ref S.k8) = some (decide (j = 8))
  q9 : PySem.W.kitOne K (.ref D) (.ref S.k9) = some (decide (j = 9))
  q10 : PySem.W.kitOne K (.ref D) (.ref S.k10) = some (decide (j = 10))
  qv : PySem.W.kitOne K (.ref D) (.type "ValueError") = some true
def rdNm (j : Nat) : Str := (["number", "reader", "nobook", "contradiction", "count"] : List Str).getD (j - 6) ""
/-- a def whose code object is known -/
structure FunC (K : PySem.W.Frag) (x qual : Str) (st : Stmt) (f : Addr) (fd : FuncData) (cd : Value) : Prop where
  ex : ∃ (oc : Value) (od : Option Addr) (kV doc pm : Value) (an : Option Addr) (ct : Value) (osl : Array (Option Value)),
    fd = PySem.W.fnOf x qual (defArgs st) (defBody st) (defScope st) .none kV doc pm an cd ct ∧ K.lookup f = some ⟨oc, od, .func fd, osl⟩ ∧ PySem.W.codeIn K cd qual = true
theorem FunC.ok {P : Program} {w : World} {K : PySem.W.Frag} {mg : Str → Option Value} {base : Heap} {x qual : Str} {st : Stmt} {f : Addr} {fd : FuncData} {cd : Value} {N ps : List Str} {k : Nat} {sp : Sp} (F : FunC K x qual st f fd cd) (S : FnScope N ps (defScope st)) (len : ∀ vs H Q E, sp vs H Q E → vs.length = ps.length)
    (hbody : ∀ (A : Around) (outer : List Env) (s : Shared) (H : Hp) (vs : List V) (Q : VK) (E : XK), Room k (A.deeper (envOfC qual (defScope st) s.heap.objs.size f cd)) → sp vs H Q E →
      ∃ t, PSs (cxOf CX0 P w K mg base N qual (defScope st) f cd A outer s H E).nox (defBody st) t ∧ t { nx := fun _ H' => Q .non H', rt := Q } (start N vs) H) : FnOk P w K mg base CX0 (k + 1) f fd ps sp := by
  obtain ⟨oc, od, kV, doc, pm, an, ct, osl, rfl, lk, hcd⟩ := F.ex
  refine fn_of lk hcd S len fun A outer s H vs Q E hr hsp => ?_
  obtain ⟨t, h, q⟩ := hbody A outer s H vs Q E hr hsp
  exact ⟨t, h.nox, q⟩
end
end Rt
/-! Kept lambdas, with and without a default value. -/
namespace Rp
open PySem PySem.Spec PyProof.Rows L2 Rl LamX
def lpA : Expr → Arguments
  | .Lambda p _ _ _ => p
  | _ => ⟨[], [], none, [], [], none, []⟩
def lpB : Expr → Expr
  | .Lambda _ b _ _ => b
  | e => e
def lpS : Expr → Scope
  | .Lambda _ _ s _ => s
  | _ => ⟨.function, [], false, false, []⟩
def dfV : Option Addr → Value
  | none => .none
  | some t => .ref t
def mkF (q : Str) (cells : List (Str × Addr)) (e : Expr) (t : Option Addr) (c : Addr) : LF := ⟨q, lpA e, lpB e, lpS e, cloFrom cells (lpS e).names [], dfV t, c⟩
/-- without parameters -/
def Bd0 (e : Expr) : Prop := ∀ (q : Str) (cl : List (Str × Addr)) (c doc pm ctv : Value) (sZ : Shared), BindsTo sZ (PySem.W.kdv_fn "<lambda>" q (lpA e) (.expr (lpB e)) (lpS e) cl .none doc pm c ctv) ⟨[], []⟩ []
/-- one parameter with a default value -/
def Bd1 (e : Expr) : Prop := ∃ x : Str, (lpS e).names.lookup x = some .local ∧ ∀ (q : Str) (cl : List (Str × Addr)) (t : Addr) (c doc pm ctv : Value) (sZ : Shared) (o : Obj) (v : Value) (n : Nat), sZ.heap.get? t = some o → o.data = .seq #[v] n →
  BindsTo sZ (PySem.W.kdv_fn "<lambda>" q (lpA e) (.expr (lpB e)) (lpS e) cl (.ref t) doc pm c ctv) ⟨[], []⟩ [(x, v)]
def GD (e : Expr) (t : Option Addr) (H : Hp) : Prop := match t with
  | none => Bd0 e
  | some t => Bd1 e ∧ H t = some (.tup [.int 0])
/-- f is the lambda e, kept -/
def KLat (q : Str) (cells : List (Str × Addr)) (H : Hp) (e : Expr) (f : Addr) : Prop := ∃ (t : Option Addr) (c : Addr), H f = some (LamO f (mkF q cells e t c)) ∧ H c = some (CodeO c q) ∧ GD e t H
theorem KLat.extN {q : Str} {cells : List (Str × Addr)} {H H' : Hp} {e : Expr} {f : Addr} (k : KLat q cells H e f) (x : ExtN H H') : KLat q cells H' e f := by
  obtain ⟨t, c, h1, h2, h3⟩ := k
  refine ⟨t, c, x _ _ h1 (lamO_ne), x _ _ h2 codeO_ne, ?_⟩
  cases t with
  | none => exact h3
  | some t => exact ⟨h3.1, x _ _ h3.2 (by intro ps z; cases z)⟩
section
variable {X : Cx}
def lFam (X : Cx) (le : Nat → Expr) : Nat × Option Addr × Addr → LF := fun i => mkF (X.env.qual ++ "<lambda>") X.env.cells (le i.1) i.2.1 i.2.2
theorem fam_ok {le : Nat → Expr} (hl : ∀ j, LamP X.N X.env.scope (lpS (le j))) : Fam X (Nat × Option Addr × Addr) (lFam X le) (fun i H => GD (le i.1) i.2.1 H) where
  nm := fun i => hl i.1
  cl := fun _ => rfl
  q := fun _ => rfl
  bind := fun ⟨j, t, c⟩ doc pm ctv sZ HZ hok hg => by
    cases t with
    | none => exact ⟨[], hg _ _ _ _ _ _ _, fun y hy => by cases hy⟩
    | some t =>
      obtain ⟨⟨x, hx, hb⟩, ht⟩ := hg
      obtain ⟨_, its, rv, o, ho, _, n, hd⟩ := hok t _ ht
      cases rv with
      | cons r1 r2 =>
        rename_i v vs
        cases r2
        exact ⟨[(x, v)], hb _ _ _ _ _ _ _ _ _ _ _ ho hd, fun y hy => by
          obtain rfl := List.mem_singleton.mp hy
          exact hx⟩
end
end Rp
/-! _law_raised: a kept lambda is called, the word for its error. -/
namespace Rp
open PySem PySem.Spec PyProof.Rows L2 Rz Rm Rt Rl LamX
/-- the word for it -/
def RsTold (j : Nat) (Q : VK) (H1 : Hp) : Prop := ∀ (p : Addr) (H' : Hp), (∀ b o, H1 b = some o → H' b = some o) → H1 p = none → H' p = some (.tup [.str (rdNm j)]) → Q (.ref p) H'
section
variable {X : Cx} {g f : Addr} {cdg : Value} {s : Shared} {H : Hp} {K : PySem.W.Frag} {mg : Str → Option Value}
abbrev rsCx (X : Cx) (g : Addr) (cdg : Value) (s : Shared) (H : Hp) : Cx := (cxOf C8.CX0 X.prog X.w X.K X.mg X.base N_lraised "_law_raised" (defScope s_lraised) g cdg X.A X.stack s H C8.E0).nox
abbrev rsSuite : List Stmt := match (defBody s_lraised).head? with
  | some (.Try _ [.ExceptHandler _ _ st _] _ _ _) => st
  | _ => []
def L3 (j : Nat) : List V := [.bl (decide (j = 0)), .bl (decide (j = 1)), .bl (decide (j = 2))]
def L6 (j : Nat) : List V := [.bl (decide (j = 0)), .bl (decide (j = 1)), .bl (decide (j = 2)), .bl (decide (j = 3)), .bl (decide (j = 4)), .bl (decide (j = 5))]
def L9 (j : Nat) : List V := [.bl (decide (j = 0)), .bl (decide (j = 1)), .bl (decide (j = 2)), .bl (decide (j = 3)), .bl (decide (j = 4)), .bl (decide (j = 5)), .bl (decide (j = 6)), .bl (decide (j = 7)), .bl (decide (j = 8))]
def L11 (j : Nat) : List V := [.bl (decide (j = 0)), .bl (decide (j = 1)), .bl (decide (j = 2)), .bl (decide (j = 3)), .bl (decide (j = 4)), .bl (decide (j = 5)), .bl (decide (j = 6)), .bl (decide (j = 7)), .bl (decide (j = 8)), .bl (decide (j = 9)), .bl (decide (j = 10))]
theorem raised_suite (S : RdS X.K X.mg) {D : Addr} {j : Nat} (R : RdR S D j) {a : Addr} {oe : Obj} {pn : List (Addr × Obj)} (hz : Zc (.ref D) none oe) (hf : ∃ vs, oe.data = .fields vs)
    {DD : Ends} {wv y2 y3 : Option V} {H1 : Hp} {Q : VK} (hrt : DD.rt = Q) (q : RsTold j Q H1) :
    ∃ t, PSs ((rsCx X g cdg s H).suite a ((a, oe) :: pn)) rsSuite t ∧ t DD [wv, some (.ref a), y2, y3] H1 := by
  have nd := sc_lraised.nd
  subst hrt
  refine ⟨_, pss_cons (ps_set (i := 2) nd rfl (.inl rfl) (pe_lst (pa_cons (pe_callB (call_isE R.ex hz hf) (by rfl) S.zI (by decide +kernel) (pa_cons (pv 1) (pa_cons (pe_glob (v := .ref S.k0) (by rfl) S.g0 rfl) pa_nil))) (pa_cons (pe_callB (call_isE R.ex hz hf) (by rfl) S.zI (by decide +kernel) (pa_cons (pv 1) (pa_cons (pe_glob (v := .ref S.k1) (by rfl) S.g1 rfl) pa_nil))) (pa_cons (pe_callB (call_isE R.ex hz hf) (by rfl) S.zI (by decide +kernel) (pa_cons (pv 1) (pa_cons (pe_glob (v := .ref S.k2) (by rfl) S.g2 rfl) pa_nil))) pa_nil)))))
    (pss_cons (ps_set (i := 2) nd rfl (.inl rfl) (pe_op op_cat (pv 2) (pe_lst (pa_cons (pe_callB (call_isE R.ex hz hf) (by rfl) S.zI (by decide +kernel) (pa_cons (pv 1) (pa_cons (pe_glob (v := .ref S.k3) (by rfl) S.g3 rfl) pa_nil))) (pa_cons (pe_callB (call_isE R.ex hz hf) (by rfl) S.zI (by decide +kernel) (pa_cons (pv 1) (pa_cons (pe_glob (v := .ref S.k4) (by rfl) S.g4 rfl) pa_nil))) (pa_cons (pe_callB (call_isE R.ex hz hf) (by rfl) S.zI (by decide +kernel) (pa_cons (pv 1) (pa_cons (pe_glob (v := .ref S.k5) (by rfl) S.g5 rfl) pa_nil))) pa_nil))))))
    (pss_cons (ps_set (i := 2) nd rfl (.inl rfl) (pe_op op_cat (pv 2) (pe_lst (pa_cons (pe_callB (call_isE R.ex hz hf) (by rfl) S.zI (by decide +kernel) (pa_cons (pv 1) (pa_cons (pe_glob (v := .ref S.k6) (by rfl) S.g6 rfl) pa_nil))) (pa_cons (pe_callB (call_isE R.ex hz hf) (by rfl) S.zI (by decide +kernel) (pa_cons (pv 1) (pa_cons (pe_glob (v := .ref S.k7) (by rfl) S.g7 rfl) pa_nil))) (pa_cons (pe_callB (call_isE R.ex hz hf) (by rfl) S.zI (by decide +kernel) (pa_cons (pv 1) (pa_cons (pe_glob (v := .ref S.k8) (by rfl) S.g8 rfl) pa_nil))) pa_nil))))))
    (pss_cons (ps_set (i := 2) nd rfl (.inl rfl) (pe_op op_cat (pv 2) (pe_lst (pa_cons (pe_callB (call_isE R.ex hz hf) (by rfl) S.zI (by decide +kernel) (pa_cons (pv 1) (pa_cons (pe_glob (v := .ref S.k9) (by rfl) S.g9 rfl) pa_nil))) (pa_cons (pe_callB (call_isE R.ex hz hf) (by rfl) S.zI (by decide +kernel) (pa_cons (pv 1) (pa_cons (pe_glob (v := .ref S.k10) (by rfl) S.g10 rfl) pa_nil))) pa_nil)))))
    (pss_cons (ps_if (PW.pt (pw_or (pt_cmpR op_ne (pe_bm PySem.F.plainAttrs_list PySem.F.slot_list_count PySem.F.type_list_count mt_countV (pv 2) (pa_cons pe_bl pa_nil)) pe_int (nomark _))
        (pw_or1 (pt_not (pt_val (pe_callB (call_isE R.ex hz hf) (by rfl) S.zI (by decide +kernel) (pa_cons (pv 1) (pa_cons (pe_bltn (v := .ty "ValueError") (u := .type "ValueError") (by rfl) S.zV (by decide +kernel) rfl) pa_nil)))))))) (pss_one ps_never) pss_nil)
    (pss_cons (ps_set (i := 3) nd rfl (.inl rfl) (pe_bm PySem.F.plainAttrs_list PySem.F.slot_list_index PySem.F.type_list_index mt_index (pv 2) (pa_cons pe_bl pa_nil)))
    (pss_cons (ps_if (pt_cmpR op_eq (pv 3) pe_int (nomark _)) (pss_one ps_never) pss_nil)
    (pss_cons (ps_if (pt_cmpR op_eq (pv 3) pe_int (nomark _)) (pss_one ps_never) pss_nil)
    (pss_cons (ps_if (pt_cmpR op_eq (pv 3) pe_int (nomark _)) (pss_one ps_never) pss_nil)
    (pss_cons (ps_if (pt_cmpR op_eq (pv 3) pe_int (nomark _)) (pss_one ps_never) pss_nil)
    (pss_cons (ps_if (pt_cmpR op_eq (pv 3) pe_int (nomark _)) (pss_one ps_never) pss_nil)
    (pss_cons (ps_if (pt_cmpR op_eq (pv 3) pe_int (nomark _)) (pss_one ps_never) pss_nil)
    (pss_one (ps_ret (pe_tup (pa_cons (pe_ix ix_list (pe_lst (pa_cons pe_str (pa_cons pe_str (pa_cons pe_str (pa_cons pe_str (pa_cons pe_str pa_nil)))))) (pe_op op_sub (pv 3) pe_int) (fun _ _ => rfl)) pa_nil))))))))))))))), ?_⟩
  have lo := R.lo
  have hi := R.hi
  refine ⟨.ref a, rfl, .ref S.k0, .ref S.k0, _, rfl, fun u h => h, R.q0, .ref a, rfl, .ref S.k1, .ref S.k1, _, rfl, fun u h => h, R.q1, .ref a, rfl, .ref S.k2, .ref S.k2, _, rfl, fun u h => h, R.q2, (by show 3 ≤ sizeLine; decide), fun p1 hp1 => ?_⟩
  have s1 : ∀ b o, H1 b = some o → (upd H1 p1 (.lst (L3 j))) b = some o := fun b o e => (upd_ne (ne_of_none e hp1)).trans e
  have g1 : (upd H1 p1 (.lst (L3 j))) p1 = some (.lst (L3 j)) := upd_same
  have n0 : ∀ {p : Addr} {H2 : Hp}, (∀ b o, H1 b = some o → H2 b = some o) → H2 p = none → H1 p = none := fun {p H2} k h => by
    cases e : H1 p with
    | none => rfl
    | some o =>
      have := k _ _ e
      rw [h] at this
      cases this
  show tSeq _ _ _ [wv, some (.ref a), some (.ref p1), y3] (upd H1 p1 (.lst (L3 j)))
  generalize (upd H1 p1 (.lst (L3 j))) = H2 at s1 g1 ⊢
  refine ⟨.ref p1, rfl, .ref a, rfl, .ref S.k3, .ref S.k3, _, rfl, fun u h => h, R.q3, .ref a, rfl, .ref S.k4, .ref S.k4, _, rfl, fun u h => h, R.q4, .ref a, rfl, .ref S.k5, .ref S.k5, _, rfl, fun u h => h, R.q5, (by show 3 ≤ sizeLine; decide), fun p2 hp2 => ?_⟩
  have sa0 : ∀ b o, H2 b = some o → (upd H2 p2 (.lst [.bl (decide (j = 3)), .bl (decide (j = 4)), .bl (decide (j = 5))])) b = some o := fun b o e => (upd_ne (ne_of_none e hp2)).trans e
  have ga0 : (upd H2 p2 (.lst [.bl (decide (j = 3)), .bl (decide (j = 4)), .bl (decide (j = 5))])) p2 = some (.lst [.bl (decide (j = 3)), .bl (decide (j = 4)), .bl (decide (j = 5))]) := upd_same
  generalize (upd H2 p2 (.lst [.bl (decide (j = 3)), .bl (decide (j = 4)), .bl (decide (j = 5))])) = H3 at sa0 ga0 ⊢
  refine ⟨p1, p2, _, _, rfl, rfl, sa0 _ _ g1, ga0, (by show 3 + 3 ≤ sizeLine; decide), fun p3 hp3 => ?_⟩
  have sb0 : ∀ b o, H3 b = some o → (upd H3 p3 (.lst (L6 j))) b = some o := fun b o e => (upd_ne (ne_of_none e hp3)).trans e
  have gb0 : (upd H3 p3 (.lst (L6 j))) p3 = some (.lst (L6 j)) := upd_same
  show tSeq _ _ _ [wv, some (.ref a), some (.ref p3), y3] (upd H3 p3 (.lst (L6 j)))
  generalize (upd H3 p3 (.lst (L6 j))) = H4 at sb0 gb0 ⊢
  have st0 : ∀ b o, H1 b = some o → H4 b = some o := fun b o e => sb0 _ _ (sa0 _ _ (s1 _ _ e))
  refine ⟨.ref p3, rfl, .ref a, rfl, .ref S.k6, .ref S.k6, _, rfl, fun u h => h, R.q6, .ref a, rfl, .ref S.k7, .ref S.k7, _, rfl, fun u h => h, R.q7, .ref a, rfl, .ref S.k8, .ref S.k8, _, rfl, fun u h => h, R.q8, (by show 3 ≤ sizeLine; decide), fun p4 hp4 => ?_⟩
  have sa1 : ∀ b o, H4 b = some o → (upd H4 p4 (.lst [.bl (decide (j = 6)), .bl (decide (j = 7)), .bl (decide (j = 8))])) b = some o := fun b o e => (upd_ne (ne_of_none e hp4)).trans e
  have ga1 : (upd H4 p4 (.lst [.bl (decide (j = 6)), .bl (decide (j = 7)), .bl (decide (j = 8))])) p4 = some (.lst [.bl (decide (j = 6)), .bl (decide (j = 7)), .bl (decide (j = 8))]) := upd_same
  generalize (upd H4 p4 (.lst [.bl (decide (j = 6)), .bl (decide (j = 7)), .bl (decide (j = 8))])) = H5 at sa1 ga1 ⊢
  refine ⟨p3, p4, _, _, rfl, rfl, sa1 _ _ gb0, ga1, (by show 6 + 3 ≤ sizeLine; decide), fun p5 hp5 => ?_⟩
  have sb1 : ∀ b o, H5 b = some o → (upd H5 p5 (.lst (L9 j))) b = some o := fun b o e => (upd_ne (ne_of_none e hp5)).trans e
  have gb1 : (upd H5 p5 (.lst (L9 j))) p5 = some (.lst (L9 j)) := upd_same
  show tSeq _ _ _ [wv, some (.ref a), some (.ref p5), y3] (upd H5 p5 (.lst (L9 j)))
  generalize (upd H5 p5 (.lst (L9 j))) = H6 at sb1 gb1 ⊢
  have st1 : ∀ b o, H1 b = some o → H6 b = some o := fun b o e => sb1 _ _ (sa1 _ _ (st0 _ _ e))
  refine ⟨.ref p5, rfl, .ref a, rfl, .ref S.k9, .ref S.k9, _, rfl, fun u h => h, R.q9, .ref a, rfl, .ref S.k10, .ref S.k10, _, rfl, fun u h => h, R.q10, (by show 2 ≤ sizeLine; decide), fun p6 hp6 => ?_⟩
  have sa2 : ∀ b o, H6 b = some o → (upd H6 p6 (.lst [.bl (decide (j = 9)), .bl (decide (j = 10))])) b = some o := fun b o e => (upd_ne (ne_of_none e hp6)).trans e
  have ga2 : (upd H6 p6 (.lst [.bl (decide (j = 9)), .bl (decide (j = 10))])) p6 = some (.lst [.bl (decide (j = 9)), .bl (decide (j = 10))]) := upd_same
  generalize (upd H6 p6 (.lst [.bl (decide (j = 9)), .bl (decide (j = 10))])) = H7 at sa2 ga2 ⊢
  refine ⟨p5, p6, _, _, rfl, rfl, sa2 _ _ gb1, ga2, (by show 9 + 2 ≤ sizeLine; decide), fun p7 hp7 => ?_⟩
  have sb2 : ∀ b o, H7 b = some o → (upd H7 p7 (.lst (L11 j))) b = some o := fun b o e => (upd_ne (ne_of_none e hp7)).trans e
  have gb2 : (upd H7 p7 (.lst (L11 j))) p7 = some (.lst (L11 j)) := upd_same
  show tSeq _ _ _ [wv, some (.ref a), some (.ref p7), y3] (upd H7 p7 (.lst (L11 j)))
  generalize (upd H7 p7 (.lst (L11 j))) = H8 at sb2 gb2 ⊢
  have st2 : ∀ b o, H1 b = some o → H8 b = some o := fun b o e => sb2 _ _ (sa2 _ _ (st1 _ _ e))
  have hj : j = 6 ∨ j = 7 ∨ j = 8 ∨ j = 9 ∨ j = 10 := by omega
  have hcnt : List.countP (fun z => eqV z (.bl true)) (L11 j) = 1 := by
    rcases hj with rfl | rfl | rfl | rfl | rfl <;> rfl
  have hget : (L11 j)[j]? = some (.bl true) := by
    rcases hj with rfl | rfl | rfl | rfl | rfl <;> rfl
  have hno : ∀ (m : Nat) (z' : V), m < j → (L11 j)[m]? = some z' → eqV z' (.bl true) = false := by
    intro m z' hm e
    have hm' : m = 0 ∨ m = 1 ∨ m = 2 ∨ m = 3 ∨ m = 4 ∨ m = 5 ∨ m = 6 ∨ m = 7 ∨ m = 8 ∨ m = 9 := by omega
    have ez : z' = .bl (decide (j = m)) := by
      rcases hm' with rfl | rfl | rfl | rfl | rfl | rfl | rfl | rfl | rfl | rfl <;> (cases e; rfl)
    rw [ez, decide_eq_false (by omega)]
    rfl
  have hflat : (L11 j).all flatV = true := rfl
  have hnm : atI ([.str "number", .str "reader", .str "nobook", .str "contradiction", .str "count"] : List V) ((j : Int) - 6) = some (.str (rdNm j)) := by
    rcases hj with rfl | rfl | rfl | rfl | rfl <;> rfl
  refine ⟨.ref p7, rfl, .inl ⟨rfl, _, SqL.of gb2⟩, p7, _, .bl true, rfl, rfl, SqL.of gb2, rfl, hflat, ?_⟩
  rw [hcnt]
  refine ⟨rfl, _, rfl, iteNS rfl ?_⟩
  refine ⟨.ref a, rfl, .ty "ValueError", .type "ValueError", true, rfl, fun u h => h, R.qv, true, rfl, iteF ?_⟩
  refine ⟨.ref p7, rfl, .inl ⟨rfl, _, SqL.of gb2⟩, p7, _, .bl true, j, .bl true, rfl, rfl, SqL.of gb2, rfl, hflat, hget, rfl, hno, ?_⟩
  show tSeq _ _ _ [wv, some (.ref a), some (.ref p7), some (.int (j : Int))] H8
  refine ⟨_, rfl, rfl, _, rfl, ?_⟩
  rw [decide_eq_false (show ¬ V.int (j : Int) = V.int 0 from fun z => by injection z with z; omega)]
  refine iteF ?_
  refine ⟨_, rfl, rfl, _, rfl, ?_⟩
  rw [decide_eq_false (show ¬ V.int (j : Int) = V.int 1 from fun z => by injection z with z; omega)]
  refine iteF ?_
  refine ⟨_, rfl, rfl, _, rfl, ?_⟩
  rw [decide_eq_false (show ¬ V.int (j : Int) = V.int 2 from fun z => by injection z with z; omega)]
  refine iteF ?_
  refine ⟨_, rfl, rfl, _, rfl, ?_⟩
  rw [decide_eq_false (show ¬ V.int (j : Int) = V.int 3 from fun z => by injection z with z; omega)]
  refine iteF ?_
  refine ⟨_, rfl, rfl, _, rfl, ?_⟩
  rw [decide_eq_false (show ¬ V.int (j : Int) = V.int 4 from fun z => by injection z with z; omega)]
  refine iteF ?_
  refine ⟨_, rfl, rfl, _, rfl, ?_⟩
  rw [decide_eq_false (show ¬ V.int (j : Int) = V.int 5 from fun z => by injection z with z; omega)]
  refine iteF ?_
  refine ⟨(by show 5 ≤ sizeLine; decide), fun p8 hp8 => ?_⟩
  refine ⟨_, rfl, _, _, rfl, rfl, ?_⟩
  refine ⟨p8, _, _, _, rfl, rfl, SqL.of upd_same, hnm, ?_⟩
  refine ⟨(by show 1 ≤ sizeLine; decide), fun p9 hp9 => ?_⟩
  have s5 : ∀ b o, H1 b = some o → (upd H8 p8 (.lst [.str "number", .str "reader", .str "nobook", .str "contradiction", .str "count"])) b = some o := fun b o e => (upd_ne (ne_of_none (st2 b o e) hp8)).trans (st2 b o e)
  exact q p9 _ (fun b o e => (upd_ne (ne_of_none (s5 b o e) hp9)).trans (s5 b o e)) (n0 s5 hp9) upd_same
/-- how it ends: None, or the word -/
def RsO {K : PySem.W.Frag} {mg : Str → Option Value} (S : RdS K mg) (Q : VK) : XK := fun cls d H => ∃ (D : Addr) (j : Nat), cls = .ref D ∧ d = none ∧ RdR S D j ∧ RsTold j Q H
def TRs {K : PySem.W.Frag} {mg : Str → Option Value} (S : RdS K mg) : (XK → Hp → VK → Prop) → Hp → VK → Prop := fun tl H Q => ∀ E : XK, (∀ cls d H', RsO S Q cls d H' → E cls d H') → tl E H fun _ H' => Q .non H'
theorem gives_raised {S : RdS X.K X.mg} : GivesV X N_lraised "_law_raised" (defScope s_lraised) g cdg (defBody s_lraised) "_law_work" (TRs S) := by
  intro f RR s H Q tl hact hR ht
  have nd := sc_lraised.nd
  refine ⟨_, pss_cons (ps_try_as (i := 1) (c := .ref S.cE) (Wout := fun _ _ _ _ => False)
    (ts := fun a cls d DD σ1 H1 => ∀ (oe : Obj) (pn : List (Addr × Obj)), Zc cls d oe → (∃ vs, oe.data = .fields vs) → ∃ t, PSs ((rsCx X g cdg s H).suite a ((a, oe) :: pn)) rsSuite t ∧ t DD σ1 H1)
    rfl rfl nd rfl rfl ⟨rfl, by decide, Or.inl S.gE⟩ LamX.takes0
    (fun W pn xe tk _ => pss_one (ps_expr (hact W pn xe _ _ tk)))
    (fun a oe cls d pn hz hf => ⟨fun pins s1 σ1 H1 DD I h => by
      obtain ⟨t, ht, hh⟩ := h oe pn hz hf
      exact ht.run pins s1 σ1 H1 DD I hh⟩)) (pss_one (ps_ret pe_non)), ?_⟩
  refine ⟨rfl, hR, ht _ fun cls d H' hto => ?_⟩
  obtain ⟨D, j, rfl, rfl, R, q⟩ := hto
  refine ⟨true, R.ee, fun _ a ha oe pn hz hf => ?_, fun z => Bool.noConfusion z⟩
  exact raised_suite S R hz hf rfl q
end
end Rp
namespace Rp
open PySem PySem.Spec PyProof.Rows L2 Rz Rm
/-! ### which book, when it came -/
section
variable {ds ss : List Int} {M : Int} (RR : Rm.Ring ds.length (at' ds) (at' ss) ss.sum ds.sum M) (hl : ss.length = ds.length)
include RR hl
theorem bk_ex (k : Int) {q : Int} (q0 : 0 ≤ q) (q1 : q < ss.sum) : ∃ v, Bk ss k q v := by
  have go : ∀ n : Nat, n ≤ ss.length → q < sumBack (at' ss) k n → ∃ v, Bk ss k q v := by
    intro n
    induction n with
    | zero => intro _ h; exact absurd h (by show ¬ q < 0; omega)
    | succ n ih =>
      intro hn h
      by_cases hh : q < sumBack (at' ss) k n
      · exact ih (by omega) hh
      · exact ⟨_, n, by omega, by omega, h, rfl⟩
  refine go ss.length (Nat.le_refl _) ?_
  rw [hl, RR.b]
  exact q1
end
noncomputable def bk (ss : List Int) (k n : Int) : Int := open Classical in if h : ∃ v, Bk ss k (n % ss.sum) v then Classical.choose h else 0
noncomputable def cm (ds ss : List Int) (k n : Int) : Int := if n < at' ss k then 0 else Rm.E (at' ds) (at' ss) (k - 1) (n - at' ss k)
section
variable {ds ss : List Int} {M : Int} (RR : Rm.Ring ds.length (at' ds) (at' ss) ss.sum ds.sum M) (hl : ss.length = ds.length)
include RR hl
theorem bk_is (k n : Int) : Bk ss k (n % ss.sum) (bk ss k n) := by
  have hB := RR.b1
  have h := bk_ex RR hl k (q := n % ss.sum) (Int.emod_nonneg _ (by omega)) (Int.emod_lt_of_pos _ (by omega))
  unfold bk
  rw [dif_pos h]
  exact Classical.choose_spec h
theorem bk_of {k n v : Int} (h : Bk ss k (n % ss.sum) v) : bk ss k n = v := (bk_is RR hl k n).inj RR.s0 h
theorem s_le (k : Int) : at' ss k ≤ ss.sum := by
  have hN := RR.pos
  have h := sum_mono RR.s0 k (show 1 ≤ ds.length by omega)
  rw [RR.b] at h
  have e : sumBack (at' ss) k 1 = at' ss k := by
    show 0 + at' ss (k - (0 : Nat)) = _
    rw [show k - ((0 : Nat) : Int) = k by omega]
    omega
  omega
theorem bk_first {k : Nat} (hk : k < ds.length) {n : Int} (n0 : 0 ≤ n) (n1 : n < at' ss k) : bk ss k n = (ss.take k).sum + n := by
  have h1 := s_le RR hl k
  refine bk_of RR hl ⟨0, by omega, ?_, ?_, ?_⟩
  · show (0 : Int) ≤ _
    exact Int.emod_nonneg _ (by have := RR.b1; omega)
  · rw [Int.emod_eq_of_lt n0 (by omega)]
    show n < 0 + at' ss ((k : Int) - (0 : Nat))
    rw [show (k : Int) - ((0 : Nat) : Int) = k by omega]
    omega
  · rw [Int.emod_eq_of_lt n0 (by omega), show (k : Int) - ((0 : Nat) : Int) = k by omega, Int.emod_eq_of_lt (by omega) (by omega), Int.toNat_natCast]
    show _ = _ + (n - 0)
    omega
theorem bk_rec (k : Int) {n : Int} (h : at' ss k ≤ n) : bk ss k n = bk ss (k - 1) (n - at' ss k) := by
  have hB := RR.b1
  have hs0 := RR.s0 k
  have hsB := s_le RR hl k
  have hN := RR.pos
  symm
  apply bk_of RR hl
  have q0 : 0 ≤ n % ss.sum := Int.emod_nonneg _ (by omega)
  have q1 : n % ss.sum < ss.sum := Int.emod_lt_of_pos _ (by omega)
  have hdm := Int.emod_add_mul_ediv n ss.sum
  obtain ⟨i, hi, a1, a2, a3⟩ := bk_is RR hl k n
  have hf : ∀ j : Nat, sumBack (at' ss) k (j + 1) = at' ss k + sumBack (at' ss) (k - 1) j := fun j => sum_front (at' ss) j k
  by_cases hq : at' ss k ≤ n % ss.sum
  · have hi0 : i ≠ 0 := fun e => by
      subst e
      have := hf 0
      have e0 : sumBack (at' ss) (k - 1) 0 = 0 := rfl
      have : sumBack (at' ss) k (0 + 1) = sumBack (at' ss) k 1 := rfl
      omega
    obtain ⟨i', rfl⟩ : ∃ i', i = i' + 1 := ⟨i - 1, by omega⟩
    have em : (n - at' ss k) % ss.sum = n % ss.sum - at' ss k := by
      have e1 : n - at' ss k = (n % ss.sum - at' ss k) + ss.sum * (n / ss.sum) := by omega
      rw [e1, Int.add_mul_emod_self_left, Int.emod_eq_of_lt (by omega) (by omega)]
    have h1 := hf i'
    have h2 := hf (i' + 1)
    refine ⟨i', by omega, by omega, by omega, ?_⟩
    rw [em, a3, show k - 1 - (i' : Int) = k - ((i' + 1 : Nat) : Int) by omega]
    omega
  · have hi0 : i = 0 := by
      rcases Nat.eq_zero_or_pos i with z | z
      · exact z
      · have := sum_mono RR.s0 k (show 1 ≤ i by omega)
        have h1 := hf 0
        have e0 : sumBack (at' ss) (k - 1) 0 = 0 := rfl
        have : sumBack (at' ss) k (0 + 1) = sumBack (at' ss) k 1 := rfl
        omega
    subst hi0
    have hdiv : 1 ≤ n / ss.sum := by
      rcases Int.lt_or_le (n / ss.sum) 1 with z | z
      · have : ss.sum * (n / ss.sum) ≤ 0 := Int.mul_nonpos_of_nonneg_of_nonpos (by omega) (by omega)
        omega
      · exact z
    have em : (n - at' ss k) % ss.sum = n % ss.sum - at' ss k + ss.sum := by
      have e1 : n - at' ss k = (n % ss.sum - at' ss k + ss.sum) + ss.sum * (n / ss.sum - 1) := by
        rw [Int.mul_sub]
        omega
      rw [e1, Int.add_mul_emod_self_left, Int.emod_eq_of_lt (by omega) (by omega)]
    have hlast : sumBack (at' ss) (k - 1) (ds.length - 1 + 1) = sumBack (at' ss) (k - 1) (ds.length - 1) + at' ss (k - 1 - (ds.length - 1 : Nat)) := rfl
    rw [show ds.length - 1 + 1 = ds.length by omega, RR.b] at hlast
    have hper := RR.sper (k - ds.length) 1
    rw [show k - (ds.length : Int) + ds.length * 1 = k by omega] at hper
    rw [show k - 1 - ((ds.length - 1 : Nat) : Int) = k - ds.length by omega, ← hper] at hlast
    have hfull : sumBack (at' ss) (k - 1) (ds.length - 1 + 1) = ss.sum := by
      rw [show ds.length - 1 + 1 = ds.length by omega, RR.b]
    refine ⟨ds.length - 1, by omega, by omega, by omega, ?_⟩
    have ek : (k - 1 - ((ds.length - 1 : Nat) : Int)) % (ss.length : Int) = (k - (0 : Nat)) % (ss.length : Int) := by
      rw [show k - 1 - ((ds.length - 1 : Nat) : Int) = k + (ss.length : Int) * (-1) by omega, Int.add_mul_emod_self_left, show k - ((0 : Nat) : Int) = k by omega]
    rw [em, ek, a3]
    have e0 : sumBack (at' ss) k 0 = 0 := rfl
    omega
theorem bk_per (k t n : Int) : bk ss (k + ds.length * t) n = bk ss k n := by
  have hS : ∀ i, sumBack (at' ss) (k + ds.length * t) i = sumBack (at' ss) k i := by
    intro i
    induction i with
    | zero => rfl
    | succ i ih =>
      show sumBack (at' ss) (k + ds.length * t) i + at' ss (k + ds.length * t - i) = sumBack (at' ss) k i + at' ss (k - i)
      rw [ih, show k + ds.length * t - (i : Int) = (k - i) + ds.length * t by omega, RR.sper]
  apply bk_of RR hl
  obtain ⟨i, hi, a1, a2, a3⟩ := bk_is RR hl k n
  refine ⟨i, hi, by rw [hS]; exact a1, by rw [hS]; exact a2, ?_⟩
  rw [hS, a3, show k + ds.length * t - (i : Int) = (k - i) + ss.length * t by rw [hl]; omega, Int.add_mul_emod_self_left]
end
/-! ### what lies in heaps, on lists -/
/-- f b, f (b + 1), .. below c -/
def seg (f : Int → List Int) (b c : Int) : List (List Int) := (List.range (c - b).toNat).map fun (i : Nat) => f (b + (i : Int))
theorem seg_nil {f : Int → List Int} {b c : Int} (h : c ≤ b) : seg f b c = [] := by
  unfold seg
  rw [show (c - b).toNat = 0 by omega]
  rfl
theorem seg_snoc {f : Int → List Int} {b c : Int} (h : b ≤ c) : seg f b (c + 1) = seg f b c ++ [f c] := by
  unfold seg
  rw [show (c + 1 - b).toNat = (c - b).toNat + 1 by omega, List.range_succ, List.map_append]
  show _ ++ [f (b + ((c - b).toNat : Int))] = _
  rw [show b + ((c - b).toNat : Int) = c by omega]
theorem seg_cons {f : Int → List Int} {b c : Int} (h : b < c) : seg f b c = f b :: seg f (b + 1) c := by
  unfold seg
  rw [show (c - b).toNat = (c - (b + 1)).toNat + 1 by omega, List.range_succ_eq_map, List.map_cons, List.map_map, show b + ((0 : Nat) : Int) = b by omega]
  congr 1
  apply List.map_congr_left
  intro i _
  show f (b + ((i + 1 : Nat) : Int)) = f (b + 1 + (i : Int))
  rw [show b + ((i + 1 : Nat) : Int) = b + 1 + (i : Int) by omega]
theorem seg_length (f : Int → List Int) (b c : Int) : (seg f b c).length = (c - b).toNat := by
  unfold seg
  rw [List.length_map, List.length_range]
theorem seg_get {f : Int → List Int} {b c : Int} {i : Nat} (h : i < (c - b).toNat) : (seg f b c)[i]? = some (f (b + i)) := by
  unfold seg
  rw [List.getElem?_map, List.getElem?_range h]
  rfl
/-- tuples of ints at addresses -/
def Tups (H : Hp) : List V → List (List Int) → Prop := Paired fun v l => ∃ t, v = V.ref t ∧ H t = some (.tup (l.map V.int))
theorem Tups.snoc {H : Hp} {v : V} {l : List Int} (h2 : ∃ t, v = V.ref t ∧ H t = some (.tup (l.map V.int))) : ∀ {xs : List V} {ls : List (List Int)}, Tups H xs ls → Tups H (xs ++ [v]) (ls ++ [l])
  | _, _, .nil => .cons h2 .nil
  | _, _, .cons r t => .cons r (Tups.snoc h2 t)
theorem Tups.mono {H H' : Hp} (k : ∀ b xs, H b = some (.tup xs) → H' b = some (.tup xs)) : ∀ {xs : List V} {ls : List (List Int)}, Tups H xs ls → Tups H' xs ls
  | _, _, .nil => .nil
  | _, _, .cons ⟨t, e, h⟩ r => .cons ⟨t, e, k _ _ h⟩ (Tups.mono k r)
theorem Tups.length {H : Hp} {xs : List V} {ls : List (List Int)} (h : Tups H xs ls) : xs.length = ls.length := Paired.length h
theorem Tups.get {H : Hp} : ∀ {xs : List V} {ls : List (List Int)} {i : Nat} {l : List Int}, Tups H xs ls → ls[i]? = some l → ∃ t, xs[i]? = some (.ref t) ∧ H t = some (.tup (l.map V.int))
  | _, _, i, l, .nil, h => by simp at h
  | _, _, 0, l, .cons ⟨t, e, h2⟩ r, h => by
    simp at h
    subst h
    exact ⟨t, by rw [e]; rfl, h2⟩
  | _, _, i + 1, l, .cons _ r, h => by
    obtain ⟨t, h1, h2⟩ := Tups.get (i := i) (l := l) r (by simpa using h)
    exact ⟨t, by simpa using h1, h2⟩
/-- as data, for == -/
theorem dp_is {K : PySem.W.Frag} {H : Hp} : ∀ l : List Int, DpAll K H (l.map V.int) (l.map PyData.int)
  | [] => .nil
  | x :: r => .cons (.int x) (dp_is r)
theorem Tups.data {K : PySem.W.Frag} {H : Hp} : ∀ {xs : List V} {ls : List (List Int)}, Tups H xs ls → DpAll K H xs (ls.map fun l => PyData.tuple (l.map PyData.int))
  | _, _, .nil => .nil
  | _, _, .cons ⟨t, e, h⟩ r => .cons (by subst e; exact .tup (.of h) (dp_is _)) (Tups.data r)
theorem lay_tups : ∀ ls : List (List Int), PyData.canLayAll0 (ls.map fun l => PyData.tuple (l.map PyData.int)) = true ∧ PyData.depthAll (ls.map fun l => PyData.tuple (l.map PyData.int)) ≤ 1
  | [] => ⟨rfl, Nat.zero_le _⟩
  | l :: r => by
    obtain ⟨h1, h2⟩ := lay_tups r
    constructor
    · simp [PyData.canLayAll0, PyData.canLay0, PySem.W.ke_canLayAll0 l, h1]
    · simp only [List.map_cons, PyData.depthAll, PyData.depth, PySem.W.ke_depthAll l]
      omega
theorem shaped_tups (ls : List (List Int)) : SeqAt.shaped (.list (ls.map fun l => PyData.tuple (l.map PyData.int))) = true := by
  obtain ⟨h1, h2⟩ := lay_tups ls
  simp only [SeqAt.shaped, PyData.canLay0, PyData.depth, h1, Bool.true_and]
  exact decide_eq_true (by omega)
end Rp
namespace Rp
open PySem PySem.Spec PyProof.Rows L2 Rz Rm
def nx (N j : Nat) : Nat := if j + 1 = N then 0 else j + 1
def prv (N j : Nat) : Nat := if j = 0 then N - 1 else j - 1
theorem nx_lt {N j : Nat} (h : j < N) : nx N j < N := by
  unfold nx
  split <;> omega
theorem prv_lt {N j : Nat} (h : j < N) : prv N j < N := by
  unfold prv
  split <;> omega
theorem prv_nx {N j : Nat} (h : j < N) : prv N (nx N j) = j := by
  unfold prv nx
  split <;> split <;> omega
theorem prv_inj {N i j : Nat} (hi : i < N) (hj : j < N) (h : prv N i = j) : i = nx N j := by
  unfold prv at h
  unfold nx
  split at h <;> split <;> omega
theorem nx_mod {N j : Nat} (h : j < N) : ((j : Int) + 1) % (N : Int) = (nx N j : Int) := by
  unfold nx
  split
  · rename_i e
    rw [show (j : Int) + 1 = N by omega, Int.emod_self]
    rfl
  · rw [Int.emod_eq_of_lt (by omega) (by omega)]
    omega
noncomputable def item (ds ss : List Int) (j n : Int) : List Int := [bk ss j n, cm ds ss j n]
noncomputable def rowOf (ds ss : List Int) (j n : Int) : List Int := [Rm.E (at' ds) (at' ss) j n - at' ds j, Rm.E (at' ds) (at' ss) j n, bk ss j n, cm ds ss j n]
/-- the ends, counts of the reader before, by its index -/
theorem E_prv {ds ss : List Int} {M : Int} (RR : Rm.Ring ds.length (at' ds) (at' ss) ss.sum ds.sum M) {j : Nat} (hj : j < ds.length) (x : Int) : Rm.E (at' ds) (at' ss) (prv ds.length j : Nat) x = Rm.E (at' ds) (at' ss) ((j : Int) - 1) x := by
  unfold prv
  split
  · rename_i e
    have h := RR.E_per ((j : Int) - 1) x 1
    rw [show (j : Int) - 1 + ds.length * 1 = ((ds.length - 1 : Nat) : Int) by omega] at h
    exact h
  · rw [show ((j - 1 : Nat) : Int) = (j : Int) - 1 by omega]
theorem Cn_prv {ds ss : List Int} {M : Int} (RR : Rm.Ring ds.length (at' ds) (at' ss) ss.sum ds.sum M) {j : Nat} (hj : j < ds.length) (x : Int) : Cn (at' ds) (at' ss) (prv ds.length j : Nat) x = Cn (at' ds) (at' ss) ((j : Int) - 1) x := by
  unfold prv
  split
  · rename_i e
    have h := RR.cn_per ((j : Int) - 1) x 1
    rw [show (j : Int) - 1 + ds.length * 1 = ((ds.length - 1 : Nat) : Int) by omega] at h
    exact h
  · rw [show ((j - 1 : Nat) : Int) = (j : Int) - 1 by omega]
theorem item_next {ds ss : List Int} {M : Int} (RR : Rm.Ring ds.length (at' ds) (at' ss) ss.sum ds.sum M) (hl : ss.length = ds.length) {j : Nat} (hj : j < ds.length) {n : Int} (n0 : 0 ≤ n) :
    item ds ss (nx ds.length j : Nat) (at' ss (nx ds.length j : Nat) + n) = [bk ss j n, Rm.E (at' ds) (at' ss) j n] := by
  have hb := bk_rec RR hl (nx ds.length j : Nat) (n := at' ss (nx ds.length j : Nat) + n) (by omega)
  rw [show at' ss (nx ds.length j : Nat) + n - at' ss (nx ds.length j : Nat) = n by omega] at hb
  have hp := E_prv RR (nx_lt hj) n
  rw [prv_nx hj] at hp
  have hbp : bk ss (((nx ds.length j : Nat) : Int) - 1) n = bk ss j n := by
    unfold nx
    split
    · rename_i e
      have h := bk_per RR hl (((0 : Nat) : Int) - 1) 1 n
      rw [show ((0 : Nat) : Int) - 1 + ds.length * 1 = j by omega] at h
      exact h.symm
    · rw [show ((j + 1 : Nat) : Int) - 1 = j by omega]
  unfold item cm
  rw [if_neg (by omega), hb, hbp, show at' ss (nx ds.length j : Nat) + n - at' ss (nx ds.length j : Nat) = n by omega, hp]
/-- where the play's lists stand: apart, and new -/
structure Ad (H0 : Hp) (N : Nat) (hl rd rl sl : Addr) (ha ra : List Addr) : Prop where
  f1 : H0 hl = none
  f2 : H0 rd = none
  f3 : H0 rl = none
  f4 : H0 sl = none
  fh : ∀ a ∈ ha, H0 a = none
  fr : ∀ a ∈ ra, H0 a = none
  n1 : hl ≠ rd
  n2 : hl ≠ rl
  n3 : hl ≠ sl
  n4 : rd ≠ rl
  n5 : rd ≠ sl
  n6 : rl ≠ sl
  nh : ∀ a ∈ ha, a ≠ hl ∧ a ≠ rd ∧ a ≠ rl ∧ a ≠ sl
  nr : ∀ a ∈ ra, a ≠ hl ∧ a ≠ rd ∧ a ≠ rl ∧ a ≠ sl
  nhr : ∀ a ∈ ha, ∀ c ∈ ra, a ≠ c
  dh : ha.Nodup
  dr : ra.Nodup
  lh : ha.length = N
  lr : ra.length = N
/-- what a reader is reading -/
def RdOk (H : Hp) (ds ss : List Int) (v : V) (j : Int) (b e : Int) : Prop := (v = .non ∧ b = e) ∨ (∃ t, v = .ref t ∧ H t = some (.tup [.int (Rm.E (at' ds) (at' ss) j e), .int (bk ss j e)]) ∧ b = e + 1)
/-- the play: so many readings of each reader have begun, so many have ended -/
structure Sim (ds ss : List Int) (H0 H : Hp) (hl rd rl sl : Addr) (ha ra : List Addr) (b e : Nat → Int) : Prop where
  sm : Same H0 H
  ohl : H hl = some (.lst (ha.map V.ref))
  orl : H rl = some (.lst (ra.map V.ref))
  oh : ∀ (j : Nat) (a : Addr), ha[j]? = some a → ∃ xs, H a = some (.lst xs) ∧ Tups H xs (seg (item ds ss j) (b j) (at' ss j + e (prv ds.length j)))
  orr : ∀ (j : Nat) (a : Addr), ra[j]? = some a → ∃ xs, H a = some (.lst xs) ∧ Tups H xs (seg (rowOf ds ss j) 0 (b j))
  ord : ∃ vs, H rd = some (.lst vs) ∧ vs.length = ds.length ∧ ∀ j, j < ds.length → ∃ v, vs[j]? = some v ∧ RdOk H ds ss v j (b j) (e j)
  b0 : ∀ j, j < ds.length → 0 ≤ b j
  e0 : ∀ j, j < ds.length → 0 ≤ e j
  le : ∀ j, j < ds.length → b j ≤ at' ss j + e (prv ds.length j)
theorem RdOk.mono {H H' : Hp} {ds ss : List Int} {v : V} {j b e : Int} (k : ∀ b xs, H b = some (.tup xs) → H' b = some (.tup xs)) (h : RdOk H ds ss v j b e) : RdOk H' ds ss v j b e := by
  rcases h with h | ⟨t, h1, h2, h3⟩
  · exact .inl h
  · exact .inr ⟨t, h1, k _ _ h2, h3⟩
section
variable {ds ss : List Int} {H0 H H' : Hp} {hl rd rl sl : Addr} {ha ra : List Addr} {b e : Nat → Int}
theorem Sim.same (S : Sim ds ss H0 H hl rd rl sl ha ra b e) (s : Same H H') : Sim ds ss H0 H' hl rd rl sl ha ra b e := by
  have k : ∀ b xs, H b = some (.tup xs) → H' b = some (.tup xs) := fun b xs h => s _ _ h
  refine ⟨S.sm.trans s, s _ _ S.ohl, s _ _ S.orl, fun j a h => ?_, fun j a h => ?_, ?_, S.b0, S.e0, S.le⟩
  · obtain ⟨xs, h1, h2⟩ := S.oh j a h
    exact ⟨xs, s _ _ h1, h2.mono k⟩
  · obtain ⟨xs, h1, h2⟩ := S.orr j a h
    exact ⟨xs, s _ _ h1, h2.mono k⟩
  · obtain ⟨vs, h1, h2, h3⟩ := S.ord
    refine ⟨vs, s _ _ h1, h2, fun j hj => ?_⟩
    obtain ⟨v, a1, a2⟩ := h3 j hj
    exact ⟨v, a1, a2.mono k⟩
/-- sights are written -/
theorem Sim.sight (A : Ad H0 ds.length hl rd rl sl ha ra) (S : Sim ds ss H0 H hl rd rl sl ha ra b e) (hs : ∃ ys, H sl = some (.lst ys)) (k : ∀ x o, H x = some o → x ≠ sl → H' x = some o) : Sim ds ss H0 H' hl rd rl sl ha ra b e := by
  obtain ⟨ys, hs⟩ := hs
  have kt : ∀ b xs, H b = some (.tup xs) → H' b = some (.tup xs) := fun b xs h => k _ _ h (ne_of h hs (by intro z; cases z))
  refine ⟨fun x o h => k _ _ (S.sm _ _ h) (ne_of_none h A.f4), k _ _ S.ohl A.n3, k _ _ S.orl A.n6, fun j a h => ?_, fun j a h => ?_, ?_, S.b0, S.e0, S.le⟩
  · obtain ⟨xs, h1, h2⟩ := S.oh j a h
    exact ⟨xs, k _ _ h1 (A.nh a (List.mem_of_getElem? h)).2.2.2, h2.mono kt⟩
  · obtain ⟨xs, h1, h2⟩ := S.orr j a h
    exact ⟨xs, k _ _ h1 (A.nr a (List.mem_of_getElem? h)).2.2.2, h2.mono kt⟩
  · obtain ⟨vs, h1, h2, h3⟩ := S.ord
    refine ⟨vs, k _ _ h1 A.n5, h2, fun j hj => ?_⟩
    obtain ⟨v, a1, a2⟩ := h3 j hj
    exact ⟨v, a1, a2.mono kt⟩
/-- reader j's reading ends; the book comes to the next one -/
theorem Sim.ends {M : Int} (RR : Rm.Ring ds.length (at' ds) (at' ss) ss.sum ds.sum M) (hss : ss.length = ds.length) (A : Ad H0 ds.length hl rd rl sl ha ra) (S : Sim ds ss H0 H hl rd rl sl ha ra b e) {j : Nat} (hj : j < ds.length) (hb : b j = e j + 1)
    {a : Addr} {xs vs : List V} {t : Addr} (ga : ha[nx ds.length j]? = some a) (gx : H a = some (.lst xs)) (gv : H rd = some (.lst vs))
    (k : ∀ x o, H x = some o → x ≠ a → x ≠ rd → H' x = some o) (hx : H' a = some (.lst (xs ++ [.ref t]))) (hv : H' rd = some (.lst (vs.set j .non))) (ht : H' t = some (.tup [.int (bk ss j (e j)), .int (Rm.E (at' ds) (at' ss) j (e j))])) :
    Sim ds ss H0 H' hl rd rl sl ha ra b (fun i => if i = j then e j + 1 else e i) := by
  have kt : ∀ b xs, H b = some (.tup xs) → H' b = some (.tup xs) := fun b xs h => k _ _ h (ne_of h gx (by intro z; cases z)) (ne_of h gv (by intro z; cases z))
  have ama := List.mem_of_getElem? ga
  refine ⟨fun x o h => k _ _ (S.sm _ _ h) (ne_of_none h (A.fh a ama)) (ne_of_none h A.f2), k _ _ S.ohl (A.nh a ama).1.symm A.n1, k _ _ S.orl (A.nh a ama).2.2.1.symm A.n4.symm, fun i c h => ?_, fun i c h => ?_, ?_, S.b0, fun i hi => ?_, fun i hi => ?_⟩
  · have hi : i < ds.length := by rw [← A.lh]; exact (List.getElem?_eq_some_iff.mp h).1
    obtain ⟨ys, h1, h2⟩ := S.oh i c h
    by_cases ei : i = nx ds.length j
    · subst ei
      rw [ga] at h
      cases h
      rw [gx] at h1
      cases h1
      refine ⟨_, hx, ?_⟩
      rw [prv_nx hj] at h2 ⊢
      have hle := S.le _ hi
      rw [prv_nx hj] at hle
      show Tups H' _ (seg _ _ (_ + (if j = j then e j + 1 else e j)))
      rw [if_pos rfl, show at' ss (nx ds.length j : Nat) + (e j + 1) = at' ss (nx ds.length j : Nat) + e j + 1 by omega, seg_snoc hle, item_next RR hss hj (S.e0 j hj)]
      exact Tups.snoc ⟨t, rfl, ht⟩ (h2.mono kt)
    · have hc : c ≠ a := fun z => by
        subst z
        exact ei (nd_ix A.dh h ga)
      have hp : prv ds.length i ≠ j := fun z => ei (prv_inj hi hj z)
      refine ⟨ys, k _ _ h1 hc (A.nh c (List.mem_of_getElem? h)).2.1, ?_⟩
      show Tups H' _ (seg _ _ (_ + (if prv ds.length i = j then e j + 1 else e (prv ds.length i))))
      rw [if_neg hp]
      exact h2.mono kt
  · obtain ⟨ys, h1, h2⟩ := S.orr i c h
    have cm := List.mem_of_getElem? h
    exact ⟨ys, k _ _ h1 (A.nhr a ama c cm).symm (A.nr c cm).2.1, h2.mono kt⟩
  · obtain ⟨ws, h1, h2, h3⟩ := S.ord
    rw [gv] at h1
    cases h1
    refine ⟨_, hv, by rw [List.length_set]; exact h2, fun i hi => ?_⟩
    obtain ⟨v, a1, a2⟩ := h3 i hi
    by_cases ei : i = j
    · subst ei
      refine ⟨.non, by rw [List.getElem?_set_self (by omega)], .inl ⟨rfl, ?_⟩⟩
      show b i = if i = i then e i + 1 else e i
      rw [if_pos rfl, hb]
    · refine ⟨v, by rw [List.getElem?_set_ne (Ne.symm ei)]; exact a1, ?_⟩
      show RdOk H' ds ss v i (b i) (if i = j then e j + 1 else e i)
      rw [if_neg ei]
      exact a2.mono kt
  · show 0 ≤ if i = j then e j + 1 else e i
    have h1 := S.e0 i hi
    have h2 := S.e0 j hj
    split <;> omega
  · have h1 := S.le i hi
    show b i ≤ _ + if prv ds.length i = j then e j + 1 else e (prv ds.length i)
    split
    · rename_i z
      rw [z] at h1
      omega
    · exact h1
/-- reader j begins -/
theorem Sim.begins (A : Ad H0 ds.length hl rd rl sl ha ra) (S : Sim ds ss H0 H hl rd rl sl ha ra b e) {j : Nat} (hj : j < ds.length) (hb : b j = e j) (hlt : b j < at' ss j + e (prv ds.length j))
    {a c : Addr} {x : V} {xs vs ys : List V} {t t2 : Addr} (ga : ha[j]? = some a) (gx : H a = some (.lst (x :: xs))) (gv : H rd = some (.lst vs)) (gc : ra[j]? = some c) (gy : H c = some (.lst ys))
    (k : ∀ z o, H z = some o → z ≠ a → z ≠ rd → z ≠ c → H' z = some o) (hx : H' a = some (.lst xs)) (hv : H' rd = some (.lst (vs.set j (.ref t)))) (hy : H' c = some (.lst (ys ++ [.ref t2])))
    (ht : H' t = some (.tup [.int (Rm.E (at' ds) (at' ss) j (e j)), .int (bk ss j (e j))])) (ht2 : H' t2 = some (.tup ((rowOf ds ss j (b j)).map V.int))) :
    Sim ds ss H0 H' hl rd rl sl ha ra (fun i => if i = j then b j + 1 else b i) e := by
  have ama := List.mem_of_getElem? ga
  have cmm := List.mem_of_getElem? gc
  have kt : ∀ b xs, H b = some (.tup xs) → H' b = some (.tup xs) := fun b xs h => k _ _ h (ne_of h gx (by intro z; cases z)) (ne_of h gv (by intro z; cases z)) (ne_of h gy (by intro z; cases z))
  refine ⟨fun x o h => k _ _ (S.sm _ _ h) (ne_of_none h (A.fh a ama)) (ne_of_none h A.f2) (ne_of_none h (A.fr c cmm)), k _ _ S.ohl (A.nh a ama).1.symm A.n1 (A.nr c cmm).1.symm, k _ _ S.orl (A.nh a ama).2.2.1.symm A.n4.symm (A.nr c cmm).2.2.1.symm, fun i c' h => ?_, fun i c' h => ?_, ?_, fun i hi => ?_, S.e0, fun i hi => ?_⟩
  · have hi : i < ds.length := by rw [← A.lh]; exact (List.getElem?_eq_some_iff.mp h).1
    obtain ⟨zs, h1, h2⟩ := S.oh i c' h
    by_cases ei : i = j
    · subst ei
      rw [ga] at h
      cases h
      rw [gx] at h1
      cases h1
      refine ⟨_, hx, ?_⟩
      rw [seg_cons hlt] at h2
      show Tups H' _ (seg _ (if i = i then b i + 1 else b i) _)
      rw [if_pos rfl]
      cases h2 with
      | cons _ r => exact Tups.mono kt r
    · have hc : c' ≠ a := fun z => by
        subst z
        exact ei (nd_ix A.dh h ga)
      have m := List.mem_of_getElem? h
      refine ⟨zs, k _ _ h1 hc (A.nh c' m).2.1 (A.nhr c' m c cmm), ?_⟩
      show Tups H' _ (seg _ (if i = j then b j + 1 else b i) _)
      rw [if_neg ei]
      exact h2.mono kt
  · have hi : i < ds.length := by rw [← A.lr]; exact (List.getElem?_eq_some_iff.mp h).1
    obtain ⟨zs, h1, h2⟩ := S.orr i c' h
    by_cases ei : i = j
    · subst ei
      rw [gc] at h
      cases h
      rw [gy] at h1
      cases h1
      refine ⟨_, hy, ?_⟩
      show Tups H' _ (seg _ 0 (if i = i then b i + 1 else b i))
      rw [if_pos rfl, seg_snoc (S.b0 i hi)]
      exact Tups.snoc ⟨t2, rfl, ht2⟩ (h2.mono kt)
    · have hc : c' ≠ c := fun z => by
        subst z
        exact ei (nd_ix A.dr h gc)
      have m := List.mem_of_getElem? h
      refine ⟨zs, k _ _ h1 (A.nhr a ama c' m).symm (A.nr c' m).2.1 hc, ?_⟩
      show Tups H' _ (seg _ 0 (if i = j then b j + 1 else b i))
      rw [if_neg ei]
      exact h2.mono kt
  · obtain ⟨ws, h1, h2, h3⟩ := S.ord
    rw [gv] at h1
    cases h1
    refine ⟨_, hv, by rw [List.length_set]; exact h2, fun i hi => ?_⟩
    obtain ⟨v, a1, a2⟩ := h3 i hi
    by_cases ei : i = j
    · subst ei
      refine ⟨.ref t, by rw [List.getElem?_set_self (by omega)], .inr ⟨t, rfl, ht, ?_⟩⟩
      show (if i = i then b i + 1 else b i) = e i + 1
      rw [if_pos rfl, hb]
    · refine ⟨v, by rw [List.getElem?_set_ne (Ne.symm ei)]; exact a1, ?_⟩
      show RdOk H' ds ss v i (if i = j then b j + 1 else b i) (e i)
      rw [if_neg ei]
      exact a2.mono kt
  · show 0 ≤ if i = j then b j + 1 else b i
    have h1 := S.b0 i hi
    have h2 := S.b0 j hj
    split <;> omega
  · have h1 := S.le i hi
    show (if i = j then b j + 1 else b i) ≤ _
    split
    · rename_i z
      subst z
      omega
    · exact h1
theorem Sim.congr (S : Sim ds ss H0 H hl rd rl sl ha ra b e) {b' e' : Nat → Int} (hss : ha.length = ds.length) (hr : ra.length = ds.length) (hb : ∀ j, j < ds.length → b' j = b j) (he : ∀ j, j < ds.length → e' j = e j) : Sim ds ss H0 H hl rd rl sl ha ra b' e' := by
  have hp : ∀ j, j < ds.length → e' (prv ds.length j) = e (prv ds.length j) := fun j hj => he _ (prv_lt hj)
  refine ⟨S.sm, S.ohl, S.orl, fun j a h => ?_, fun j a h => ?_, ?_, fun j hj => by rw [hb j hj]; exact S.b0 j hj, fun j hj => by rw [he j hj]; exact S.e0 j hj, fun j hj => by rw [hb j hj, hp j hj]; exact S.le j hj⟩
  · have hj : j < ds.length := by rw [← hss]; exact (List.getElem?_eq_some_iff.mp h).1
    rw [hb j hj, hp j hj]
    exact S.oh j a h
  · have hj : j < ds.length := by rw [← hr]; exact (List.getElem?_eq_some_iff.mp h).1
    rw [hb j hj]
    exact S.orr j a h
  · obtain ⟨vs, h1, h2, h3⟩ := S.ord
    refine ⟨vs, h1, h2, fun j hj => ?_⟩
    rw [hb j hj, he j hj]
    exact h3 j hj
end
/-! ### days -/
section
variable {ds ss : List Int} {M : Int} (RR : Rm.Ring ds.length (at' ds) (at' ss) ss.sum ds.sum M)
include RR
/-- ended by D - 1; a reading ends on D or none does -/
theorem cn_day (j D : Int) : (Rm.E (at' ds) (at' ss) j (Cn (at' ds) (at' ss) j (D - 1)) = D ∧ Cn (at' ds) (at' ss) j D = Cn (at' ds) (at' ss) j (D - 1) + 1) ∨ (Rm.E (at' ds) (at' ss) j (Cn (at' ds) (at' ss) j (D - 1)) ≠ D ∧ Cn (at' ds) (at' ss) j D = Cn (at' ds) (at' ss) j (D - 1)) := by
  obtain ⟨a0, a1, a2⟩ := RR.cn j (D - 1)
  by_cases h : Rm.E (at' ds) (at' ss) j (Cn (at' ds) (at' ss) j (D - 1)) = D
  · refine .inl ⟨h, RR.cn_of ⟨by omega, .inr ?_, ?_⟩⟩
    · rw [show Cn (at' ds) (at' ss) j (D - 1) + 1 - 1 = Cn (at' ds) (at' ss) j (D - 1) by omega]
      omega
    · have := RR.next j a0
      have := RR.d1 j
      omega
  · refine .inr ⟨h, RR.cn_of ⟨a0, ?_, by omega⟩⟩
    rcases a1 with a1 | a1
    · exact .inl a1
    · exact .inr (by omega)
/-- who isn't reading and has a book begins, nobody else does -/
theorem cn_begin {j D : Int} (hD : 0 ≤ D) (h : Cn (at' ds) (at' ss) j (D - 1 + at' ds j) = Cn (at' ds) (at' ss) j D) (hlt : Cn (at' ds) (at' ss) j D < at' ss j + Cn (at' ds) (at' ss) (j - 1) D) :
    Rm.E (at' ds) (at' ss) j (Cn (at' ds) (at' ss) j D) = D + at' ds j ∧ Cn (at' ds) (at' ss) j (D + at' ds j) = Cn (at' ds) (at' ss) j D + 1 := by
  have h1 := RR.cn_reads (r := j) hD hlt
  have h2 := (RR.cn_next j D).2
  obtain ⟨a0, a1, a2⟩ := RR.cn j (D - 1 + at' ds j)
  obtain ⟨b0, b1, b2⟩ := RR.cn j (D + at' ds j)
  rw [h] at a2
  have e : Cn (at' ds) (at' ss) j (D + at' ds j) = Cn (at' ds) (at' ss) j D + 1 := by omega
  rw [e] at b1
  rcases b1 with b1 | b1
  · have := (RR.cn j D).1
    omega
  · rw [show Cn (at' ds) (at' ss) j D + 1 - 1 = Cn (at' ds) (at' ss) j D by omega] at b1
    exact ⟨by omega, e⟩
theorem cn_waits {j D : Int} (h : Cn (at' ds) (at' ss) j D = at' ss j + Cn (at' ds) (at' ss) (j - 1) D) : Cn (at' ds) (at' ss) j (D + at' ds j) = Cn (at' ds) (at' ss) j D := by
  have h1 := RR.cn_next j D
  obtain ⟨b0, b1, b2⟩ := RR.cn j (D + at' ds j)
  obtain ⟨c0, c1, c2⟩ := RR.cn (j - 1) D
  rcases b1 with b1 | b1
  · have := (RR.cn j D).1
    omega
  · rcases Int.lt_or_le (Cn (at' ds) (at' ss) j D) (Cn (at' ds) (at' ss) j (D + at' ds j)) with z | z
    · have e : Cn (at' ds) (at' ss) j (D + at' ds j) - 1 = Cn (at' ds) (at' ss) j D := by omega
      rw [e] at b1
      have h2 := RR.from j (x := Cn (at' ds) (at' ss) j D) (by omega)
      rw [show Cn (at' ds) (at' ss) j D - at' ss j = Cn (at' ds) (at' ss) (j - 1) D by omega] at h2
      omega
    · omega
/-- begun by D - 1: as many as have ended by D, or one more -/
theorem cn_busy (j D : Int) : Cn (at' ds) (at' ss) j (D - 1) ≤ Cn (at' ds) (at' ss) j (D - 1 + at' ds j) ∧ Cn (at' ds) (at' ss) j (D - 1 + at' ds j) ≤ Cn (at' ds) (at' ss) j (D - 1) + 1 := RR.cn_next j (D - 1)
end
end Rp
namespace Rp
open PySem PySem.Spec PyProof.Rows L2 Rz Rm
/-- as data, for == -/
theorem RingAt.kp {C : Addr} {K : PySem.W.Frag} {H H' : Hp} {p dx td ts row a : Addr} {ds ss ns : List Int} (R : RingAt C H p dx td ts ds ss) (RA : RowAt K H row a ns) (k : Kp row H H') : RingAt C H' p dx td ts ds ss := by
  obtain ⟨i, m, q, h, _⟩ := RA.ob
  exact ⟨k _ _ R.ob (ne_of R.ob h (by intro z; cases z)), k _ _ R.td (ne_of R.td h (by intro z; cases z)), k _ _ R.ts (ne_of R.ts h (by intro z; cases z)), R.ok⟩
theorem tup_kp {K : PySem.W.Frag} {H H' : Hp} {t row a : Addr} {xs : List V} {ns : List Int} (ht : H t = some (.tup xs)) (RA : RowAt K H row a ns) (k : Kp row H H') : H' t = some (.tup xs) := by
  obtain ⟨i, m, q, h, _⟩ := RA.ob
  exact k _ _ ht (ne_of ht h (by intro z; cases z))
theorem up {N : Nat} {d s : Int → Int} {B T M : Int} (R : Rm.Ring N d s B T M) (r : Int) {x : Int} (hx : 0 ≤ x) : Rm.E d s r x ≤ (x + 1) * T + x * M := by
  obtain ⟨k, hk, e⟩ := R.att r hx
  have hN := R.pos
  have hB := R.b1
  have hT := R.T0
  have ek : k = k % N + k / N * N := by
    have := Nat.mod_add_div k N
    rw [Nat.mul_comm] at this
    exact this.symm
  have hj := Nat.mod_lt k hN
  have hS := R.sumS r (k % N) (k / N)
  have hD := R.sumD r (k % N + 1) (k / N)
  rw [← ek] at hS
  rw [show k % N + 1 + k / N * N = k + 1 by omega] at hD
  have hm : ((k / N : Nat) : Int) ≤ x := by
    have h1 := sum_nn R.s0 r (k % N)
    have h2 : ((k / N : Nat) : Int) * 1 ≤ ((k / N : Nat) : Int) * B := Int.mul_le_mul_of_nonneg_left hB (Int.natCast_nonneg _)
    omega
  have hd0 : sumBack d r (k % N + 1) ≤ T := by
    have := sum_mono (f := d) (fun i => by have := R.d1 i; omega) r (show k % N + 1 ≤ N by omega)
    rw [R.t] at this
    exact this
  have h3 : ((k / N : Nat) : Int) * T ≤ x * T := Int.mul_le_mul_of_nonneg_right hm hT
  have h4 := max_le R.mu r k
  have h40 : 0 ≤ maxBack d r k := by
    have h1 := max_ge (f := d) r (j := 0) (k := k) (Nat.zero_le _)
    have h2 := R.d1 (r - (0 : Nat))
    omega
  have h5 : (x - sumBack s r k) * maxBack d r k ≤ x * M := by
    have a1 : (x - sumBack s r k) * maxBack d r k ≤ x * maxBack d r k := Int.mul_le_mul_of_nonneg_right (by have := sum_nn R.s0 r k; omega) h40
    have a2 : x * maxBack d r k ≤ x * M := Int.mul_le_mul_of_nonneg_left h4 hx
    omega
  unfold ch at e
  rw [Int.add_mul]
  omega
theorem and_go {c : Bool} {u : TT} {σ : L2.St} {H : Hp} {F : Bool → Hp → Prop} (G : Hp → Prop) (next : ∀ H9, G H9 → F false H9) (hH : G H) (h1 : c = true → (∀ H9, G H9 → F false H9) → u σ H F) : if c = true then u σ H F else F false H := by
  cases c with
  | true => exact iteT (h1 rfl next)
  | false => exact iteF (next H hH)
theorem dp_ints {K : PySem.W.Frag} {H : Hp} : ∀ l : List Int, DpAll K H (l.map V.int) (l.map PyData.int)
  | [] => .nil
  | x :: r => .cons (.int x) (dp_ints r)
theorem Tups.rev {H : Hp} : ∀ {xs : List V} {ls : List (List Int)}, Tups H xs ls → Tups H xs.reverse ls.reverse
  | _, _, .nil => .nil
  | _, _, .cons r t => by
    rw [List.reverse_cons, List.reverse_cons]
    exact Tups.snoc r (Tups.rev t)
theorem Tups.drop {H : Hp} : ∀ {xs : List V} {ls : List (List Int)} (k : Nat), Tups H xs ls → Tups H (xs.drop k) (ls.drop k)
  | _, _, 0, h => h
  | _, _, k + 1, .nil => .nil
  | _, _, k + 1, .cons _ t => Tups.drop k t
theorem Tups.same {H H' : Hp} (s : Same H H') {xs : List V} {ls : List (List Int)} (h : Tups H xs ls) : Tups H' xs ls := h.mono fun b xs e => s _ _ e
/-- two tuples of ints are compared -/
theorem eqv_tup (as bs : List Int) : PyData.eqv (.tuple (as.map PyData.int)) (.tuple (bs.map PyData.int)) = decide (as = bs) := PySem.W.ked_eqvAll _ _
theorem eqv_lst (as bs : List Int) : PyData.eqv (.list (as.map PyData.int)) (.list (bs.map PyData.int)) = decide (as = bs) := PySem.W.ked_eqvAll _ _
theorem shaped_tup (as : List Int) : SeqAt.shaped (.tuple (as.map PyData.int)) = true := by
  simp only [SeqAt.shaped, PyData.canLay0, PyData.depth, PySem.W.ke_canLayAll0 as, PySem.W.ke_depthAll as, Bool.true_and]
  exact decide_eq_true (by omega)
theorem shaped_lst (as : List Int) : SeqAt.shaped (.list (as.map PyData.int)) = true := by
  simp only [SeqAt.shaped, PyData.canLay0, PyData.depth, PySem.W.ke_canLayAll0 as, PySem.W.ke_depthAll as, Bool.true_and]
  exact decide_eq_true (by omega)
section
variable {K : PySem.W.Frag} {H : Hp} {a b : Addr} {as bs : List Int} {Q : VK}
theorem tup_eq (ha : H a = some (.tup (as.map V.int))) (hb : H b = some (.tup (bs.map V.int))) (q : Q (.bl (decide (as = bs))) H) : rEqD K (.ref a) (.ref b) H Q :=
  ⟨_, _, .tup (.of ha) (dp_is as), .tup (.of hb) (dp_is bs), shaped_tup as, shaped_tup bs, by rw [eqv_tup]; exact q⟩
theorem tup_ne (ha : H a = some (.tup (as.map V.int))) (hb : H b = some (.tup (bs.map V.int))) (q : Q (.bl (!decide (as = bs))) H) : rNeD K (.ref a) (.ref b) H Q :=
  ⟨_, _, .tup (.of ha) (dp_is as), .tup (.of hb) (dp_is bs), shaped_tup as, shaped_tup bs, by rw [eqv_tup]; exact q⟩
theorem lst_ne (ha : SqL K H a (as.map V.int)) (hb : SqL K H b (bs.map V.int)) (q : Q (.bl (!decide (as = bs))) H) : rNeD K (.ref a) (.ref b) H Q :=
  ⟨_, _, .lst ha (dp_is as), .lst hb (dp_is bs), shaped_lst as, shaped_lst bs, by rw [eqv_lst]; exact q⟩
theorem lst_eq (ha : SqL K H a (as.map V.int)) (hb : SqL K H b (bs.map V.int)) (q : Q (.bl (decide (as = bs))) H) : rEqD K (.ref a) (.ref b) H Q :=
  ⟨_, _, .lst ha (dp_is as), .lst hb (dp_is bs), shaped_lst as, shaped_lst bs, by rw [eqv_lst]; exact q⟩
end
end Rp
/-! Books at the readers, day by day: mathematics. -/
namespace Rp
open PySem PySem.Spec PyProof.Rows L2 Rz Rm
theorem ixN_nat {n j : Nat} (h : j < n) : ixN n (j : Int) = some j := by
  unfold ixN
  rw [if_pos (by omega), if_pos (by omega), Int.toNat_natCast]
/-- books of a heap, by the numbers of their readings -/
noncomputable def bseg (ss : List Int) (j : Nat) (b c : Int) : List Int := (List.range (c - b).toNat).map fun (i : Nat) => bk ss j (b + (i : Int))
theorem bseg_nil {ss : List Int} {j : Nat} {b c : Int} (h : c ≤ b) : bseg ss j b c = [] := by
  unfold bseg
  rw [show (c - b).toNat = 0 by omega]
  rfl
theorem bseg_snoc {ss : List Int} {j : Nat} {b c : Int} (h : b ≤ c) : bseg ss j b (c + 1) = bseg ss j b c ++ [bk ss j c] := by
  unfold bseg
  rw [show (c + 1 - b).toNat = (c - b).toNat + 1 by omega, List.range_succ, List.map_append]
  show _ ++ [bk ss j (b + ((c - b).toNat : Int))] = _
  rw [show b + ((c - b).toNat : Int) = c by omega]
theorem bseg_cons {ss : List Int} {j : Nat} {b c : Int} (h : b < c) : bseg ss j b c = bk ss j b :: bseg ss j (b + 1) c := by
  unfold bseg
  rw [show (c - b).toNat = (c - (b + 1)).toNat + 1 by omega, List.range_succ_eq_map, List.map_cons, List.map_map, show b + ((0 : Nat) : Int) = b by omega]
  congr 1
  apply List.map_congr_left
  intro i _
  show bk ss j (b + ((i + 1 : Nat) : Int)) = bk ss j (b + 1 + (i : Int))
  rw [show b + ((i + 1 : Nat) : Int) = b + 1 + (i : Int) by omega]
theorem bseg_length (ss : List Int) (j : Nat) (b c : Int) : (bseg ss j b c).length = (c - b).toNat := by
  unfold bseg
  rw [List.length_map, List.length_range]
theorem nodup_snocN {l : List Nat} {a : Nat} (h : l.Nodup) (n : a ∉ l) : (l ++ [a]).Nodup := by
  rw [List.nodup_append]
  refine ⟨h, List.nodup_cons.mpr ⟨List.not_mem_nil, List.nodup_nil⟩, fun x hx y hy e => ?_⟩
  have := List.mem_singleton.mp hy
  subst this
  subst e
  exact n hx
theorem get_snoc {α : Type} {l : List α} {x y : α} {j : Nat} (h : (l ++ [x])[j]? = some y) : l[j]? = some y ∨ (j = l.length ∧ x = y) := by
  by_cases c : j < l.length
  · rw [List.getElem?_append_left c] at h
    exact .inl h
  · rw [List.getElem?_append_right (by omega)] at h
    obtain ⟨h1, h2⟩ := List.getElem?_eq_some_iff.mp h
    rw [List.length_singleton] at h1
    refine .inr ⟨by omega, ?_⟩
    simpa [show j - l.length = 0 by omega] using h2
theorem take_mem {ks : List Nat} (nd : ks.Nodup) {n k : Nat} (h : ks[n]? = some k) : k ∉ ks.take n := fun m => by
  obtain ⟨j, hj⟩ := List.getElem?_of_mem m
  rw [List.getElem?_take] at hj
  split at hj
  · rename_i hlt
    have := nd_ix nd hj h
    omega
  · cases hj
theorem take_suc {ks : List Nat} {n k j : Nat} (h : ks[n]? = some k) : j ∈ ks.take (n + 1) ↔ j ∈ ks.take n ∨ j = k := by
  rw [List.take_add_one, h, List.mem_append]
  simp
theorem nodup_snoc {l : List Addr} {a : Addr} (h : l.Nodup) (n : a ∉ l) : (l ++ [a]).Nodup := by
  rw [List.nodup_append]
  refine ⟨h, List.nodup_cons.mpr ⟨List.not_mem_nil, List.nodup_nil⟩, fun x hx y hy e => ?_⟩
  have := List.mem_singleton.mp hy
  subst this
  subst e
  exact n hx
theorem rep_one (n : Nat) : (List.replicate n [V.non]).flatten = List.replicate n V.non := by
  induction n with
  | zero => rfl
  | succ n ih =>
    rw [List.replicate_succ, List.flatten_cons, ih, List.replicate_succ]
    rfl
theorem take_succ {l : List Int} {i : Nat} (h : i < l.length) : (l.take (i + 1)).sum = (l.take i).sum + at' l i := by
  rw [List.take_add_one, List.getElem?_eq_getElem h, List.sum_append]
  have : at' l i = l[i] := at_nat (List.getElem?_eq_getElem h)
  rw [this]
  simp
theorem take_le {l : List Int} (h0 : ∀ y ∈ l, 0 ≤ y) (i : Nat) : 0 ≤ (l.take i).sum ∧ (l.take i).sum ≤ l.sum := by
  induction l generalizing i with
  | nil => simp
  | cons a r ih =>
    have ha := h0 a List.mem_cons_self
    have hr : ∀ y ∈ r, 0 ≤ y := fun y hy => h0 y (List.mem_cons_of_mem _ hy)
    cases i with
    | zero =>
      have := (ih hr r.length).2
      have := (ih hr r.length).1
      have := mem_le_sum.sum_nonneg' hr
      simp
      omega
    | succ i =>
      have := ih hr i
      rw [List.take_succ_cons, List.sum_cons, List.sum_cons]
      omega
section
variable {ds ss : List Int} {M : Int} (RR : Rm.Ring ds.length (at' ds) (at' ss) ss.sum ds.sum M)
include RR
theorem cn_le {j D : Int} (h : 0 ≤ D) : Cn (at' ds) (at' ss) j D ≤ D := by
  obtain ⟨a0, a1, a2⟩ := RR.cn j D
  rcases a1 with a1 | a1
  · omega
  · rcases Int.lt_or_le (Cn (at' ds) (at' ss) j D) 1 with z | z
    · omega
    · have h1 := RR.low j (x := Cn (at' ds) (at' ss) j D - 1) (by omega)
      have h2 := RR.d1 j
      have h3 : (Cn (at' ds) (at' ss) j D - 1 + 1) * 1 ≤ (Cn (at' ds) (at' ss) j D - 1 + 1) * at' ds j := Int.mul_le_mul_of_nonneg_left h2 (by omega)
      omega
theorem cn_mono (j : Int) {D D' : Int} (h : D ≤ D') : Cn (at' ds) (at' ss) j D ≤ Cn (at' ds) (at' ss) j D' := by
  obtain ⟨a0, a1, a2⟩ := RR.cn j D
  obtain ⟨b0, b1, b2⟩ := RR.cn j D'
  rcases Int.lt_or_le (Cn (at' ds) (at' ss) j D') (Cn (at' ds) (at' ss) j D) with z | z
  · rcases a1 with a1 | a1
    · omega
    · have := RR.le j b0 (show Cn (at' ds) (at' ss) j D' ≤ Cn (at' ds) (at' ss) j D - 1 by omega)
      omega
  · exact z
theorem cn_zero {j D : Int} (h : D < at' ds j) : Cn (at' ds) (at' ss) j D = 0 := by
  refine RR.cn_of ⟨Int.le_refl _, .inl rfl, ?_⟩
  have := RR.E1 j (x := 0) (Int.le_refl _)
  omega
theorem cn_cap (r D : Int) : Cn (at' ds) (at' ss) r (D + at' ds r) ≤ at' ss r + Cn (at' ds) (at' ss) (r - 1) D := by
  obtain ⟨a0, a1, a2⟩ := RR.cn r (D + at' ds r)
  obtain ⟨b0, b1, b2⟩ := RR.cn (r - 1) D
  have hs := RR.s0 r
  rcases Int.lt_or_le (at' ss r + Cn (at' ds) (at' ss) (r - 1) D) (Cn (at' ds) (at' ss) r (D + at' ds r)) with z | z
  · rcases a1 with a1 | a1
    · omega
    · have h1 := RR.from r (x := Cn (at' ds) (at' ss) r (D + at' ds r) - 1) (by omega)
      have h2 := RR.le (r - 1) b0 (show Cn (at' ds) (at' ss) (r - 1) D ≤ Cn (at' ds) (at' ss) r (D + at' ds r) - 1 - at' ss r by omega)
      omega
  · exact z
/-- all that the beginning of a day needs of one reader -/
theorem at_begin {j : Nat} (hj : j < ds.length) {D : Int} (hD : 0 ≤ D) (h : Cn (at' ds) (at' ss) j (D - 1 + at' ds j) = Cn (at' ds) (at' ss) j D) :
    (Cn (at' ds) (at' ss) j D < at' ss j + Cn (at' ds) (at' ss) (prv ds.length j : Nat) D ∧ Rm.E (at' ds) (at' ss) j (Cn (at' ds) (at' ss) j D) = D + at' ds j ∧ Cn (at' ds) (at' ss) j (D + at' ds j) = Cn (at' ds) (at' ss) j D + 1) ∨
    (Cn (at' ds) (at' ss) j D = at' ss j + Cn (at' ds) (at' ss) (prv ds.length j : Nat) D ∧ Cn (at' ds) (at' ss) j (D + at' ds j) = Cn (at' ds) (at' ss) j D) := by
  rw [Cn_prv RR hj]
  have h1 := cn_cap RR j D
  have h2 := (RR.cn_next j D).1
  rcases Int.lt_or_le (Cn (at' ds) (at' ss) j D) (at' ss j + Cn (at' ds) (at' ss) (j - 1) D) with c | c
  · exact .inl ⟨c, cn_begin RR hD h c⟩
  · exact .inr ⟨by omega, cn_waits RR (by omega)⟩
end
/-- the books at a reader on a day, the one that is read first -/
noncomputable def Sv (ds ss : List Int) (D : Int) (j : Nat) : List Int := bseg ss j (Cn (at' ds) (at' ss) j D) (at' ss j + Cn (at' ds) (at' ss) (prv ds.length j : Nat) D)
/-- the day on which a reading ends, all begun -/
noncomputable def Ev (ds ss : List Int) (D : Int) (j : Nat) : V := if Cn (at' ds) (at' ss) j (D + at' ds j) = Cn (at' ds) (at' ss) j D then .non else .int (Rm.E (at' ds) (at' ss) j (Cn (at' ds) (at' ss) j D))
/-- the same, none begun that day -/
noncomputable def Fv (ds ss : List Int) (D : Int) (j : Nat) : V := if Cn (at' ds) (at' ss) j (D - 1 + at' ds j) = Cn (at' ds) (at' ss) j D then .non else .int (Rm.E (at' ds) (at' ss) j (Cn (at' ds) (at' ss) j D))
/-- a reading ends on the next day -/
noncomputable def Kd (ds ss : List Int) (D : Int) (j : Nat) : Bool := decide (Rm.E (at' ds) (at' ss) j (Cn (at' ds) (at' ss) j D) = D + 1)
/-- who ends on the next day -/
noncomputable def Kx (ds ss : List Int) (D : Int) (n : Nat) : List Nat := (List.range n).filter (Kd ds ss D)
/-- what is told of it -/
noncomputable def rec (ds ss : List Int) (D : Int) (k : Nat) : List Int := [D + 1, (k : Int), bk ss k (Cn (at' ds) (at' ss) k D)]
noncomputable def Ke (ds ss : List Int) (D : Int) : List (List Int) := (Kx ds ss D ds.length).map (rec ds ss D)
theorem kx_mem {ds ss : List Int} {D : Int} {n j : Nat} : j ∈ Kx ds ss D n ↔ j < n ∧ Kd ds ss D j = true := by
  unfold Kx
  rw [List.mem_filter, List.mem_range]
theorem kx_nodup {ds ss : List Int} {D : Int} {n : Nat} : (Kx ds ss D n).Nodup := List.Pairwise.filter _ List.nodup_range
theorem kx_succ (ds ss : List Int) (D : Int) (n : Nat) : Kx ds ss D (n + 1) = if Kd ds ss D n = true then Kx ds ss D n ++ [n] else Kx ds ss D n := by
  unfold Kx
  rw [List.range_succ, List.filter_append]
  by_cases h : Kd ds ss D n = true
  · rw [if_pos h, List.filter_cons_of_pos h]
    rfl
  · rw [if_neg h, List.filter_cons_of_neg h, List.filter_nil, List.append_nil]
section
variable {ds ss : List Int} {M : Int} (RR : Rm.Ring ds.length (at' ds) (at' ss) ss.sum ds.sum M)
include RR
theorem fv_cases {j : Nat} (hj : j < ds.length) {D : Int} (hD : 0 ≤ D) :
    (Fv ds ss D j = .non ∧ (∃ b l, Sv ds ss D j = b :: l) ∧ Ev ds ss D j = .int (D + at' ds j)) ∨ (Fv ds ss D j = .non ∧ Sv ds ss D j = [] ∧ Ev ds ss D j = .non) ∨ (∃ z, Fv ds ss D j = .int z ∧ Ev ds ss D j = .int z) := by
  unfold Fv Ev Sv
  by_cases h : Cn (at' ds) (at' ss) j (D - 1 + at' ds j) = Cn (at' ds) (at' ss) j D
  · rw [if_pos h]
    rcases at_begin RR hj hD h with ⟨h1, h2, h3⟩ | ⟨h1, h2⟩
    · rw [if_neg (by omega), h2, bseg_cons h1]
      exact .inl ⟨rfl, ⟨_, _, rfl⟩, rfl⟩
    · rw [if_pos h2, bseg_nil (by omega)]
      exact .inr (.inl ⟨rfl, rfl, rfl⟩)
  · rw [if_neg h]
    have d1 := RR.d1 j
    have h1 := cn_mono RR (j : Int) (show D ≤ D - 1 + at' ds j by omega)
    have h2 := cn_mono RR (j : Int) (show D - 1 + at' ds j ≤ D + at' ds j by omega)
    rw [if_neg (by omega)]
    exact .inr (.inr ⟨_, rfl, rfl⟩)
theorem ends_now {j : Nat} (hj : j < ds.length) {D : Int} (hD : 0 ≤ D) (h : Kd ds ss D j = true) :
    Cn (at' ds) (at' ss) j (D + 1) = Cn (at' ds) (at' ss) j D + 1 ∧ Ev ds ss D j = .int (D + 1) ∧ Sv ds ss D j = bk ss j (Cn (at' ds) (at' ss) j D) :: bseg ss j (Cn (at' ds) (at' ss) j D + 1) (at' ss j + Cn (at' ds) (at' ss) (prv ds.length j : Nat) D) ∧ Fv ds ss (D + 1) j = .non := by
  have h := of_decide_eq_true h
  have d1 := RR.d1 j
  have c1 := cn_day RR (j : Int) (D + 1)
  rw [show D + 1 - 1 = D by omega] at c1
  have c2 := RR.cn_next j D
  obtain ⟨p0, p1, p2⟩ := RR.cn j (D + at' ds j)
  have hb : Cn (at' ds) (at' ss) j (D + at' ds j) = Cn (at' ds) (at' ss) j D + 1 := by
    rcases Int.lt_or_le (Cn (at' ds) (at' ss) j D) (Cn (at' ds) (at' ss) j (D + at' ds j)) with z | z
    · omega
    · have e : Cn (at' ds) (at' ss) j (D + at' ds j) = Cn (at' ds) (at' ss) j D := by omega
      rw [e, h] at p2
      omega
  have cap := cn_cap RR j D
  rw [← Cn_prv RR hj] at cap
  rcases c1 with ⟨_, c1⟩ | ⟨c1, _⟩
  · unfold Ev Sv Fv
    refine ⟨c1, by rw [if_neg (by omega), h], bseg_cons (by omega), ?_⟩
    rw [show D + 1 - 1 = D by omega, if_pos (by omega)]
  · exact absurd h c1
theorem ends_not {j : Nat} {D : Int} (hD : 0 ≤ D) (h : ¬ Kd ds ss D j = true) :
    Cn (at' ds) (at' ss) j (D + 1) = Cn (at' ds) (at' ss) j D ∧ ¬ Ev ds ss D j = .int (D + 1) ∧ Fv ds ss (D + 1) j = Ev ds ss D j := by
  have h : ¬ Rm.E (at' ds) (at' ss) j (Cn (at' ds) (at' ss) j D) = D + 1 := fun z => h (decide_eq_true z)
  have c1 := cn_day RR (j : Int) (D + 1)
  rw [show D + 1 - 1 = D by omega] at c1
  rcases c1 with ⟨c1, _⟩ | ⟨_, c1⟩
  · exact absurd c1 h
  · unfold Ev Fv
    refine ⟨c1, ?_, by rw [show D + 1 - 1 = D by omega, c1]⟩
    split
    · intro z
      cases z
    · intro z
      exact h (V.int.inj z)
/-- a book comes to the next reader -/
theorem bk_comes (hss : ss.length = ds.length) {j : Nat} (hj : j < ds.length) {n : Int} (n0 : 0 ≤ n) : bk ss (nx ds.length j : Nat) (at' ss (nx ds.length j : Nat) + n) = bk ss j n := by
  have h := item_next RR hss hj n0
  unfold item at h
  exact (List.cons.inj h).1
theorem z_first (j : Nat) : Cn (at' ds) (at' ss) j 0 = 0 := by
  have := RR.d1 j
  exact cn_zero RR (by omega)
theorem fv_first (j : Nat) : Fv ds ss 0 j = .non := by
  unfold Fv
  rw [z_first RR, if_pos (cn_zero RR (by omega))]
theorem sv_first (hss : ss.length = ds.length) {j : Nat} (hj : j < ds.length) {b z : Int} (hb : (ss.take j).sum = b) (hz : at' ss j = z) : rgV b (b + z) = (Sv ds ss 0 j).map V.int := by
  unfold rgV Sv bseg
  rw [z_first RR, z_first RR, List.map_map, hz, show (b + z - b).toNat = (z + 0 - 0).toNat by omega]
  apply List.map_congr_left
  intro n hn
  have hn' := List.mem_range.mp hn
  show V.int (b + (n : Int)) = V.int (bk ss j (0 + (n : Int)))
  rw [bk_first RR hss hj (n := 0 + (n : Int)) (by omega) (by omega), hb, show (0 : Int) + (n : Int) = n by omega]
theorem sv_len (j : Nat) {D : Int} (hD : 0 ≤ D) (h12 : at' ss j ≤ 12) : (Sv ds ss D j).length ≤ 12 + D.toNat := by
  unfold Sv
  rw [bseg_length]
  have h1 := cn_le RR (j := (prv ds.length j : Nat)) hD
  have h2 := (RR.cn j D).1
  omega
/-- how many readings have ended, from whom they are told -/
theorem cn_ge (j : Nat) {x D : Int} (hx : 0 ≤ x) (h : Rm.E (at' ds) (at' ss) j x ≤ D) : x + 1 ≤ Cn (at' ds) (at' ss) j D := by
  have h1 := RR.cn_end j hx
  have h2 := cn_mono RR (j : Int) h
  omega
theorem E_cn (j : Nat) {x D : Int} (h0 : 0 ≤ x) (h : x < Cn (at' ds) (at' ss) j D) : Rm.E (at' ds) (at' ss) j x ≤ D := by
  obtain ⟨a0, a1, a2⟩ := RR.cn j D
  rcases a1 with a1 | a1
  · omega
  · have := RR.le j h0 (show x ≤ Cn (at' ds) (at' ss) j D - 1 by omega)
    omega
end
end Rp
/-! _law_taken, _law_pair, _law_alike. -/
namespace Rp
open PySem PySem.Spec PyProof.Rows L2 Rz Rm
section
variable {P : Program} {w : World} {K : PySem.W.Frag} {mg : Str → Option Value} {base : Heap}
def spTaken (K : PySem.W.Frag) : Sp := fun vs H Q _ => ∃ (row a : Addr) (ns : List Int) (many : Int), vs = [.ref row, .int many] ∧ RowAt K H row a ns ∧ 1 ≤ many ∧ many < 1073741824 ∧
  ∀ v H', 0 ≤ v → v < many → RowAt K H' row a ns → Kp row H H' → Q (.int v) H'
theorem ok_taken (T : Tx K mg) : FnOk P w K mg base CX0 1 T.a_ltaken T.d_ltaken P_ltaken (spTaken K) := by
  refine T.F_ltaken.ok sc_ltaken (fun vs H Q E h => ?_) (fun cdv A outer s H vs Q E hr h => ?_)
  · obtain ⟨row, a, ns, many, rfl, _⟩ := h
    rfl
  · obtain ⟨row, a, ns, many, rfl, RA, m1, m2, q⟩ := h
    obtain ⟨i, m, c, hrow, i0⟩ := RA.ob
    have nd := sc_ltaken.nd
    refine ⟨_, pss_cons (ps_if (pt_cmpR op_gt (pe_ix ix_list (pv 0) pe_int (fun _ _ => rfl)) pe_int (nomark _))
        (pss_cons (ps_set (i := 2) nd rfl (.inl rfl) (pe_op op_mod (pe_callTy call_int1 (by rfl) T.z_int (by decide +kernel) (pa_cons (pe_ix ix_list (pv 0) pe_int (fun _ _ => rfl)) pa_nil)) (pv 1)))
        (pss_cons (ps_asg (pe_op op_fdiv (pe_ix ix_list (pv 0) pe_int (fun _ _ => rfl)) (pv 1)) (pg_sub (pv 0) pe_int set_list))
        (pss_one (ps_ret (pv 2))))) pss_nil)
      (pss_cons (ps_asg (pe_op op_add (pe_ix ix_list (pv 0) pe_int (fun _ _ => rfl)) pe_int) (pg_sub (pv 0) pe_int set_list))
      (pss_cons (ps_if (pt_cmpR op_gt (pe_ix ix_list (pv 0) pe_int (fun _ _ => rfl)) (pe_callB call_len_seq (by rfl) T.z_len PySem.boot_len (pa_cons (pe_ix ix_list (pv 0) pe_int (fun _ _ => rfl)) pa_nil)) (nomark _))
        (pss_cons (ps_asg (pe_op op_mod (pe_callTy call_int1 (by rfl) T.z_int (by decide +kernel) (pa_cons (pe_op op_add (pe_op op_mul (pe_ix ix_list (pv 0) pe_int (fun _ _ => rfl)) pe_int) pe_int) pa_nil)) pe_int) (pg_sub (pv 0) pe_int set_list))
        (pss_one (ps_ret (pe_op op_mod (pe_callTy call_int1 (by rfl) T.z_int (by decide +kernel) (pa_cons (pe_op op_fdiv (pe_ix ix_list (pv 0) pe_int (fun _ _ => rfl)) pe_int) pa_nil)) (pv 1))))) pss_nil)
      (pss_cons (ps_set (i := 3) nd rfl (.inl rfl) (pe_ix ix_list (pe_ix ix_list (pv 0) pe_int (fun _ _ => rfl)) (pe_op op_sub (pe_ix ix_list (pv 0) pe_int (fun _ _ => rfl)) pe_int) (fun _ _ => rfl)))
      (pss_cons (ps_asg (pe_op op_mod (pe_callTy call_int1 (by rfl) T.z_int (by decide +kernel) (pa_cons (pe_op op_add (pe_op op_add (pe_op op_mul (pe_ix ix_list (pv 0) pe_int (fun _ _ => rfl)) pe_int) (pv 3)) pe_int) pa_nil)) pe_int) (pg_sub (pv 0) pe_int set_list))
      (pss_cons (ps_if (pt_cmpR op_ge (pv 3) (pe_op op_pow pe_int pe_int) (nomark _)) (pss_one (ps_asg (pe_op op_fdiv (pv 3) (pv 1)) (pg_sub (pv 0) pe_int set_list))) pss_nil)
      (pss_one (ps_ret (pe_op op_mod (pe_callTy call_int1 (by rfl) T.z_int (by decide +kernel) (pa_cons (pv 3) pa_nil)) (pv 1))))))))), ?_⟩
    have mod0 : ∀ z : Int, 0 ≤ z % many := fun z => Int.emod_nonneg _ (by omega)
    have mod1 : ∀ z : Int, z % many < many := fun z => Int.emod_lt_of_pos _ (by omega)
    -- if row[3] > 0
    refine ⟨_, rfl, row, _, 3, _, rfl, rfl, .of hrow, atI_nat (j := 3) rfl, _, _, rfl, rfl, _, rfl, ?_⟩
    by_cases hc : 0 < c
    · rw [decide_eq_true hc]
      refine iteT ?_
      refine ⟨_, rfl, row, _, 3, _, rfl, rfl, .of hrow, atI_nat (j := 3) rfl, .inl ⟨_, rfl, _, rfl, _, _, rfl, rfl, by show (0 : Int) < many; omega, ?_⟩⟩
      refine ⟨_, rfl, row, _, 3, _, rfl, rfl, .of hrow, atI_nat (j := 3) rfl, _, rfl, _, _, rfl, rfl, ⟨by omega, by omega⟩, ?_⟩
      refine ⟨_, rfl, row, _, 3, 3, rfl, rfl, hrow, rfl, ?_⟩
      exact ⟨_, rfl, q _ _ (mod0 c) (mod1 c) (RA.put i0) kp_upd⟩
    · rw [decide_eq_false hc]
      refine iteF ?_
      -- row[1] = row[1] + 1
      refine ⟨_, rfl, row, _, 1, _, rfl, rfl, .of hrow, atI_nat (j := 1) rfl, _, _, rfl, rfl, ?_⟩
      refine ⟨_, rfl, row, _, 1, 1, rfl, rfl, hrow, rfl, ?_⟩
      have RA1 : RowAt K (upd H row (.lst [.ref a, .int (i + 1), .int m, .int c])) row a ns := RA.put (by omega)
      have hrow1 : (upd H row (.lst [.ref a, .int (i + 1), .int m, .int c])) row = some (.lst [.ref a, .int (i + 1), .int m, .int c]) := upd_same
      have kp1 : Kp row H (upd H row (.lst [.ref a, .int (i + 1), .int m, .int c])) := kp_upd
      show tSeq _ _ _ _ (upd H row (.lst [.ref a, .int (i + 1), .int m, .int c]))
      generalize (upd H row (.lst [.ref a, .int (i + 1), .int m, .int c])) = H1 at RA1 hrow1 kp1
      -- if row[1] > len(row[0])
      refine ⟨_, rfl, row, _, 1, _, rfl, rfl, .of hrow1, atI_nat (j := 1) rfl, _, rfl, row, _, 0, _, rfl, rfl, .of hrow1, atI_nat (j := 0) rfl, a, _, rfl, .inl RA1.sc, _, _, rfl, rfl, _, rfl, ?_⟩
      rw [List.length_map]
      by_cases hl : (ns.length : Int) < i + 1
      · rw [decide_eq_true hl]
        refine iteT ?_
        refine ⟨_, rfl, row, _, 2, _, rfl, rfl, .of hrow1, atI_nat (j := 2) rfl, _, _, rfl, rfl, .inr ⟨by decide, by decide⟩, _, _, rfl, rfl, .inl ⟨_, rfl, _, _, rfl, rfl, (by show (0 : Int) < 2147483647; decide), ?_⟩⟩
        refine ⟨_, rfl, row, _, 2, 2, rfl, rfl, hrow1, rfl, ?_⟩
        refine ⟨_, rfl, row, _, 2, _, rfl, rfl, .of upd_same, atI_nat (j := 2) rfl, _, _, rfl, rfl, ⟨by decide, by decide⟩, .inl ⟨_, rfl, _, rfl, _, _, rfl, rfl, by show (0 : Int) < many; omega, ?_⟩⟩
        exact q _ _ (mod0 _) (mod1 _) (RA1.put (by omega)) (kp1.trans kp_upd)
      · rw [decide_eq_false hl]
        refine iteF ?_
        have hi : i.toNat < ns.length := by omega
        have hg : atI (ns.map V.int) (i + 1 - 1) = some (.int ns[i.toNat]) := by
          refine at_of (j := i.toNat) (by omega) ?_
          rw [List.getElem?_map, List.getElem?_eq_getElem hi]
          rfl
        refine ⟨_, rfl, row, _, 0, _, rfl, rfl, .of hrow1, atI_nat (j := 0) rfl, _, rfl, row, _, 1, _, rfl, rfl, .of hrow1, atI_nat (j := 1) rfl, _, _, rfl, rfl, a, _, _, _, rfl, rfl, RA1.sc, hg, ?_⟩
        generalize ns[i.toNat] = cell
        -- row[2] = ..
        refine ⟨_, rfl, row, _, 2, _, rfl, rfl, .of hrow1, atI_nat (j := 2) rfl, _, _, rfl, rfl, .inr ⟨by decide, by decide⟩, _, rfl, _, _, rfl, rfl, _, _, rfl, rfl, .inl ⟨_, rfl, _, _, rfl, rfl, (by show (0 : Int) < 2147483647; decide), ?_⟩⟩
        refine ⟨_, rfl, row, _, 2, 2, rfl, rfl, hrow1, rfl, ?_⟩
        -- row[3] = ..
        refine ⟨_, rfl, _, _, rfl, rfl, ⟨by decide, by decide, by decide⟩, _, _, rfl, rfl, _, rfl, ?_⟩
        refine ite2 (fun _ => ?_) (fun _ => ?_)
        · refine ⟨_, rfl, _, rfl, _, _, rfl, rfl, ⟨by omega, by omega⟩, ?_⟩
          refine ⟨_, rfl, row, _, 3, 3, rfl, rfl, upd_same, rfl, ?_⟩
          refine ⟨_, rfl, .inl ⟨_, rfl, _, rfl, _, _, rfl, rfl, by show (0 : Int) < many; omega, ?_⟩⟩
          rw [upd_upd]
          exact q _ _ (mod0 _) (mod1 _) (RA1.put (by omega)) (kp1.trans kp_upd)
        · refine ⟨_, rfl, .inl ⟨_, rfl, _, rfl, _, _, rfl, rfl, by show (0 : Int) < many; omega, ?_⟩⟩
          exact q _ _ (mod0 _) (mod1 _) (RA1.put (by omega)) (kp1.trans kp_upd)
/-- what a list being made holds -/
def Acc (K : PySem.W.Frag) (H0 : Hp) (row a D : Addr) (ns : List Int) (lo hi : Int) (i : Nat) (H : Hp) : Prop :=
  ∃ acc : List Int, acc.length = i ∧ (∀ y ∈ acc, lo ≤ y ∧ y ≤ hi) ∧ H D = some (.lst (acc.map V.int)) ∧ RowAt K H row a ns ∧ Kp row H0 H
theorem acc_next {H0 H H' : Hp} {row a D : Addr} {ns : List Int} {lo hi v : Int} {i : Nat} (hD : H0 D = none) (nD : D ≠ row) (f : D ≠ a ∨ Wr K a (ns.map V.int)) {acc : List Int} (hlen : acc.length = i) (hall : ∀ y ∈ acc, lo ≤ y ∧ y ≤ hi)
    (hacc : H D = some (.lst (acc.map V.int))) (k : Kp row H0 H) (RA : RowAt K H' row a ns) (k' : Kp row H H') (v0 : lo ≤ v) (v1 : v ≤ hi) : Acc K H0 row a D ns lo hi (i + 1) (upd H' D (.lst (acc.map V.int ++ [V.int v]))) := by
  refine ⟨acc ++ [v], by rw [List.length_append, hlen]; rfl, fun y hy => ?_, by rw [upd_same, map_snoc], RA.upd' nD f, kp_new (k.trans k') hD⟩
  rcases List.mem_append.mp hy with z | z
  · exact hall y z
  · have := List.mem_singleton.mp z
    omega
end
/-- one more at an index -/
theorem sum_set' : ∀ {l : List Int} {j : Nat} {v z : Int}, l[j]? = some z → (l.set j v).sum = l.sum + v - z
  | [], j, v, z, h => by simp at h
  | a :: r, 0, v, z, h => by
    rw [List.getElem?_cons_zero] at h
    cases h
    rw [List.set_cons_zero, List.sum_cons, List.sum_cons]
    omega
  | a :: r, j + 1, v, z, h => by
    rw [List.getElem?_cons_succ] at h
    rw [List.set_cons_succ, List.sum_cons, List.sum_cons, sum_set' h]
    omega
def rGetL (K : PySem.W.Frag) : V → V → Hp → VK → Prop := fun x y H Q => ∃ p xs i v, x = .ref p ∧ y = .int i ∧ SqL K H p xs ∧ 0 ≤ i ∧ i < 1000 ∧ xs[i.toNat]? = some v ∧ Q v H
theorem get_listP {X : Cx} : PGet X (rGetL X.K) := by
  intro pins s σ H x y v u Q I rx ry h
  obtain ⟨p, xs, i, z, rfl, rfl, hq, h0, h1, he, q⟩ := h
  cases rx
  obtain ⟨t, rfl⟩ := ry
  obtain ⟨its, r, pl, hz⟩ := I.list hq
  obtain ⟨w, ew, rw'⟩ := r.get he
  exact wpAny_getItem_list pl.isList h0 (by omega) (by simpa using ew) ⟨z, H, I, rw', q⟩
section
variable {P : Program} {w : World} {K : PySem.W.Frag} {mg : Str → Option Value} {base : Heap}
/-- two new tuples that make a ring -/
def spPair (K : PySem.W.Frag) : Sp := fun vs H Q _ => ∃ (row a : Addr) (ns : List Int) (most : Int), vs = [.ref row, .int most] ∧ RowAt K H row a ns ∧ 2 ≤ most ∧ most ≤ 8 ∧
  ∀ H' t td ts ds ss, Good ds ss → (ds.length : Int) ≤ most → RowAt K H' row a ns → Kp row H H' → H' t = some (.tup [.ref td, .ref ts]) → H' td = some (.tup (ds.map V.int)) → H' ts = some (.tup (ss.map V.int)) → Q (.ref t) H'
theorem ok_pair (T : Tx K mg) : FnOk P w K mg base CX0 2 T.a_lpair T.d_lpair P_lpair (spPair K) := by
  refine T.F_lpair.ok sc_lpair (fun vs H Q E h => ?_) (fun cdv A outer s H vs Q E hr h => ?_)
  · obtain ⟨row, a, ns, most, rfl, _⟩ := h
    rfl
  · obtain ⟨row, a, ns, most, rfl, RA, m2, m8, q⟩ := h
    have nd := sc_lpair.nd
    refine ⟨_, pss_cons (ps_set (i := 2) nd rfl (.inl rfl) (pe_op op_add pe_int (pe_call (ok_taken T) hr (by rfl) T.g_ltaken T.F_ltaken.kp T.b_ltaken .nil pass0 (pa_cons (pv 0) (pa_cons (pe_op op_sub (pv 1) pe_int) pa_nil)))))
      (pss_cons (ps_set (i := 3) nd rfl (.inl rfl) (pe_callTy call_tuple_of (by rfl) T.z_tuple (by decide +kernel) (pa_cons (pe_lc (own := [("_law_k", 5)]) rfl nd (pi_range1 (by rfl) T.z_range (pa_cons (pv 2) pa_nil)) (blkOk_by (N := N_lpair) (sc := defScope s_lpair) (by decide +kernel)) (fun _ _ _ _ _ => pg_name (i := 5) nd rfl (.inl rfl)) (fun _ _ _ _ _ => pts_nil)
          (fun _ _ _ _ _ => pe_op op_add pe_int (pe_call (ok_taken T) hr (by rfl) T.g_ltaken T.F_ltaken.kp T.b_ltaken .nil pass0 (pa_cons (pv 0) (pa_cons (pe_ix (r := rIxL K) ix_list (pe_lst (pa_cons pe_int (pa_cons pe_int (pa_cons pe_int pa_nil)))) (pe_call (ok_taken T) hr (by rfl) T.g_ltaken T.F_ltaken.kp T.b_ltaken .nil pass0 (pa_cons (pv 0) (pa_cons pe_int pa_nil))) (fun _ _ => rfl)) pa_nil))))) pa_nil)))
      (pss_cons (ps_set (i := 4) nd rfl (.inl rfl) (pe_op op_rep (pe_lst (pa_cons pe_int pa_nil)) (pv 2)))
      (pss_cons (ps_for PassesOwn.never rfl (pi_range1 (by rfl) T.z_range (pa_cons (pe_op op_add pe_int (pe_call (ok_taken T) hr (by rfl) T.g_ltaken T.F_ltaken.kp T.b_ltaken .nil pass0 (pa_cons (pv 0) (pa_cons (pe_ix ix_list (pe_lst (pa_cons pe_int (pa_cons pe_int pa_nil))) (pe_call (ok_taken T) hr (by rfl) T.g_ltaken T.F_ltaken.kp T.b_ltaken .nil pass0 (pa_cons (pv 0) (pa_cons pe_int pa_nil))) (fun _ _ => rfl)) pa_nil)))) pa_nil)) (pg_name (i := 5) nd rfl (.inl rfl))
        (pss_one (ps_augS (pv 4) (pe_call (ok_taken T) hr (by rfl) T.g_ltaken T.F_ltaken.kp T.b_ltaken .nil pass0 (pa_cons (pv 0) (pa_cons (pv 2) pa_nil))) get_listP pe_int ip_add set_list)))
      (pss_one (ps_ret (pe_tup (pa_cons (pv 3) (pa_cons (pe_callTy call_tuple_of (by rfl) T.z_tuple (by decide +kernel) (pa_cons (pv 4) pa_nil)) pa_nil)))))))), ?_⟩
    refine ⟨_, rfl, _, rfl, _, _, rfl, rfl, row, a, ns, _, rfl, RA, by omega, by omega, fun v1 H1 v10 v11 RA1 k1 => ⟨_, _, rfl, rfl, ?_⟩⟩
    -- days
    refine ⟨_, rfl, _, rfl, by omega, by omega, fun D hD => lc_range (lo := 0) (n := (2 + v1).toNat) (Acc K H1 row a D ns 1 30) ?_ ?_ ?_⟩
    · exact ⟨[], rfl, fun y hy => absurd hy (by simp), upd_same, RA1.same (same_upd hD), Same.kp (same_upd hD)⟩
    · rintro i H4 hi ⟨acc, hlen, hall, hacc, RA4, k4⟩
      have nD := RA1.nn hD
      refine ⟨rfl, lc_keep ?_⟩
      refine ⟨_, rfl, (by show 3 ≤ sizeLine; decide), fun l3 hl3 => ?_⟩
      have s1 : Same H4 (upd H4 l3 (.lst [.int 3, .int 9, .int 30])) := same_upd hl3
      have RA4' := RA4.same s1
      have nl3 := RA4.nn hl3
      refine ⟨_, rfl, row, a, ns, _, rfl, RA4', by decide, by decide, fun v2 H5 v20 v21 RA5 k5 => ?_⟩
      have hl3' : H5 l3 = some (.lst [.int 3, .int 9, .int 30]) := k5 _ _ upd_same nl3
      obtain ⟨far, hfar, f1, f30⟩ : ∃ far : Int, atI [V.int 3, V.int 9, V.int 30] v2 = some (.int far) ∧ 1 ≤ far ∧ far ≤ 30 := by
        have : v2 = 0 ∨ v2 = 1 ∨ v2 = 2 := by omega
        rcases this with rfl | rfl | rfl
        · exact ⟨3, rfl, by omega, by omega⟩
        · exact ⟨9, rfl, by omega, by omega⟩
        · exact ⟨30, rfl, by omega, by omega⟩
      refine ⟨l3, _, v2, _, rfl, rfl, .of hl3', hfar, row, a, ns, _, rfl, RA5, f1, by omega, fun v H6 v0 v1' RA6 k6 => ?_⟩
      have k46 : Kp row H4 H6 := ((Same.kp s1).trans k5).trans k6
      exact ⟨_, _, rfl, rfl, acc.map V.int, k46 _ _ hacc nD, by rw [List.length_map]; exact small1000 (by omega), acc_next hD nD (far_of RA1.sc hD) hlen hall hacc k4 RA6 k46 (by omega) (by omega)⟩
    rintro H4 ⟨ds, dlen, dall, hds, RA4, k4⟩
    have nD := RA1.nn hD
    refine ⟨D, _, rfl, .inl ⟨.of hds, fun td htd => ?_⟩⟩
    have s5 := same_upd (o := .tup (ds.map V.int)) htd
    have g5 : (upd H4 td (.tup (ds.map V.int))) td = some (.tup (ds.map V.int)) := upd_same
    have RA5 := RA4.same s5
    have k5 : Kp row H (upd H4 td (.tup (ds.map V.int))) := (k1.trans k4).trans (Same.kp s5)
    have ntd := RA4.nn htd
    show tSeq _ _ _ [some (.ref row), some (.int most), some (.int (2 + v1)), some (.ref td), none, none] (upd H4 td (.tup (ds.map V.int)))
    generalize (upd H4 td (.tup (ds.map V.int))) = H5 at g5 RA5 k5
    -- heaps
    refine ⟨(by show 1 ≤ sizeLine; decide), fun l0 hl0 => ?_⟩
    have s6 := same_upd (o := .lst [.int 0]) hl0
    have g6 : (upd H5 l0 (.lst [.int 0])) l0 = some (.lst [.int 0]) := upd_same
    have RA6 := RA5.same s6
    generalize (upd H5 l0 (.lst [.int 0])) = H6 at s6 g6 RA6
    refine ⟨_, rfl, l0, _, _, rfl, rfl, g6, by omega, by omega, ?_, fun hp hhp => ?_⟩
    · show 1 * _ ≤ sizeLine
      have := small1000 (n := 1 * (2 + v1).toNat) (by omega)
      omega
    have e0 : (List.replicate (2 + v1).toNat [V.int 0]).flatten = (List.replicate (2 + v1).toNat (0 : Int)).map V.int := by
      generalize (2 + v1).toNat = n
      induction n with
      | zero => rfl
      | succ n ih =>
        rw [List.replicate_succ, List.flatten_cons, ih, List.replicate_succ]
        rfl
    rw [e0]
    have s7 := same_upd (o := .lst ((List.replicate (2 + v1).toNat (0 : Int)).map V.int)) hhp
    have g7 : (upd H6 hp (.lst ((List.replicate (2 + v1).toNat (0 : Int)).map V.int))) hp = some (.lst ((List.replicate (2 + v1).toNat (0 : Int)).map V.int)) := upd_same
    have RA7 := RA6.same s7
    have nhp := RA6.nn hhp
    have fhp := far_of RA6.sc hhp
    have g57 := s7 _ _ (s6 _ _ g5)
    have ndh : td ≠ hp := ne_of_none (s6 _ _ g5) hhp
    have hn0 : ∀ b o, H b = some o → b ≠ row → b ≠ hp := fun b o e n => ne_of_none (s6 _ _ (k5 b o e n)) hhp
    have k7 := k5.trans (Same.kp (s6.trans s7))
    show tSeq _ _ _ [some (.ref row), some (.int most), some (.int (2 + v1)), some (.ref td), some (.ref hp), none] (upd H6 hp (.lst ((List.replicate (2 + v1).toNat (0 : Int)).map V.int)))
    generalize (upd H6 hp (.lst ((List.replicate (2 + v1).toNat (0 : Int)).map V.int))) = H7 at g7 RA7 g57 k7
    refine ⟨_, rfl, (by show 2 ≤ sizeLine; decide), fun l2 hl2 => ?_⟩
    have s8 := same_upd (o := .lst [.int 4, .int 12]) hl2
    have nl2 := RA7.nn hl2
    refine ⟨_, rfl, row, a, ns, _, rfl, RA7.same s8, by decide, by decide, fun v3 H8 v30 v31 RA8 k8 => ?_⟩
    obtain ⟨far, hfar, f1, f12⟩ : ∃ far : Int, atI [V.int 4, V.int 12] v3 = some (.int far) ∧ 1 ≤ far ∧ far ≤ 12 := by
      have : v3 = 0 ∨ v3 = 1 := by omega
      rcases this with rfl | rfl
      · exact ⟨4, rfl, by omega, by omega⟩
      · exact ⟨12, rfl, by omega, by omega⟩
    refine ⟨l2, _, v3, _, rfl, rfl, .of (k8 _ _ upd_same nl2), hfar, row, a, ns, _, rfl, RA8, f1, by omega, fun v4 H9 v40 v41 RA9 k9 => ⟨_, _, rfl, rfl, _, rfl, by omega, by omega, ?_⟩⟩
    have k79 : Kp row H7 H9 := ((Same.kp s8).trans k8).trans k9
    refine for_range (lo := 0) (n := (1 + v4).toNat) (fun i σ H' => (∃ z5, σ = [some (.ref row), some (.int most), some (.int (2 + v1)), some (.ref td), some (.ref hp), z5]) ∧ RowAt K H' row a ns ∧ Kp row H H' ∧ H' td = some (.tup (ds.map V.int)) ∧
      ∃ ss : List Int, H' hp = some (.lst (ss.map V.int)) ∧ ss.length = (2 + v1).toNat ∧ ss.sum = i ∧ ∀ y ∈ ss, 0 ≤ y)
      ⟨⟨_, rfl⟩, RA9, k7.trans k79, k79 _ _ g57 ntd, _, k79 _ _ g7 nhp, List.length_replicate, ?_, fun y hy => by rw [(List.mem_replicate.mp hy).2]; exact Int.le_refl _⟩ ?_ ?_
    · generalize (2 + v1).toNat = n
      induction n with
      | zero => rfl
      | succ n ih =>
        rw [List.replicate_succ, List.sum_cons, ih]
        rfl
    · rintro i σ H10 hi ⟨⟨z5, rfl⟩, RA10, k10, gtd, ss, gss, lss, sss, pss⟩
      refine ⟨_, rfl, _, rfl, _, rfl, row, a, ns, _, rfl, RA10, by omega, by omega, fun j H11 j0 j1 RA11 k11 => ?_⟩
      have gss' := k11 _ _ gss nhp
      obtain ⟨z, hz⟩ : ∃ z, ss[j.toNat]? = some z := ⟨_, List.getElem?_eq_getElem (by omega)⟩
      have z0 := pss z (List.mem_of_getElem? hz)
      have hixn : ixN (ss.map V.int).length j = some j.toNat := by
        unfold ixN
        rw [List.length_map, if_pos (by omega), if_pos (by omega)]
      refine ⟨hp, _, j, .int z, rfl, rfl, .of gss', j0, by omega, by rw [List.getElem?_map, hz]; rfl, _, _, rfl, rfl, hp, _, j, j.toNat, rfl, rfl, gss', hixn, ?_⟩
      refine ⟨⟨_, rfl⟩, RA11.upd' nhp (far_of RA6.sc hhp), fun b o e n => ?_, ?_, ss.set j.toNat (z + 1), by rw [upd_same, List.map_set], by rw [List.length_set]; exact lss, ?_, fun y hy => ?_⟩
      · rw [upd_ne (hn0 b o e n)]
        exact (k10.trans k11) b o e n
      · rw [upd_ne ndh]
        exact k11 _ _ gtd ntd
      · rw [sum_set' hz, sss]
        omega
      · rcases mem_set hy with h | h
        · exact pss y h
        · omega
    · rintro σ H10 ⟨⟨z5, rfl⟩, RA10, k10, gtd, ss, gss, lss, sss, pss⟩
      refine ⟨_, rfl, _, rfl, hp, _, rfl, .inl ⟨.of gss, fun ts hts => ⟨(by show 2 ≤ sizeLine; decide), fun t ht => ?_⟩⟩⟩
      have u2 := same_upd (o := .tup (ss.map V.int)) hts
      have u3 := same_upd (o := .tup [.ref td, .ref ts]) ht
      have h12 : ss.sum ≤ 12 := by omega
      exact q _ t td ts ds ss ⟨by omega, by omega, by omega, dall, fun y hy => ⟨pss y hy, Int.le_trans (mem_le_sum pss y hy) h12⟩, by omega, h12⟩ (by omega) ((RA10.same u2).same u3) ((k10.trans (Same.kp u2)).trans (Same.kp u3)) upd_same (u3 _ _ (u2 _ _ gtd)) (u3 _ _ upd_same)
end
end Rp
/-! _law_alike of equal values. -/
namespace Rp
open PySem PySem.Spec PyProof.Rows L2 Rz Rm
/-- equal values: ints, None, texts; tuples and lists of such -/
def LkD : Nat → Hp → V → V → Prop
  | 0, _, v, w => (∃ x, v = .int x ∧ w = .int x) ∨ (v = .non ∧ w = .non) ∨ (∃ x, v = .str x ∧ w = .str x)
  | n + 1, H, v, w => LkD n H v w ∨ ∃ (f g : Addr) (xs ys : List V), v = .ref f ∧ w = .ref g ∧ ((H f = some (.tup xs) ∧ H g = some (.tup ys)) ∨ (H f = some (.lst xs) ∧ H g = some (.lst ys))) ∧ ys.length = xs.length ∧ xs.length ≤ 1000 ∧
      ∀ (i : Nat) (x y : V), xs[i]? = some x → ys[i]? = some y → LkD n H x y
theorem LkD.same {H H' : Hp} (s : Same H H') : ∀ {n : Nat} {v w : V}, LkD n H v w → LkD n H' v w
  | 0, _, _, h => h
  | n + 1, _, _, h => by
    rcases h with h | ⟨f, g, xs, ys, e1, e2, ho, hl, h1, ht⟩
    · exact .inl (LkD.same s h)
    · refine .inr ⟨f, g, xs, ys, e1, e2, ?_, hl, h1, fun i x y hx hy => LkD.same s (ht i x y hx hy)⟩
      rcases ho with ⟨a, b⟩ | ⟨a, b⟩
      · exact .inl ⟨s _ _ a, s _ _ b⟩
      · exact .inr ⟨s _ _ a, s _ _ b⟩
theorem LkD.ints {H : Hp} {f g : Addr} {l : List Int} (h : (H f = some (.tup (l.map V.int)) ∧ H g = some (.tup (l.map V.int))) ∨ (H f = some (.lst (l.map V.int)) ∧ H g = some (.lst (l.map V.int)))) (hl : l.length ≤ 1000) : LkD 1 H (.ref f) (.ref g) := by
  refine .inr ⟨f, g, _, _, rfl, rfl, h, rfl, by rw [List.length_map]; exact hl, fun i x y hx hy => ?_⟩
  rw [hx] at hy
  cases hy
  rw [List.getElem?_map] at hx
  cases e : l[i]? with
  | none => rw [e] at hx; cases hx
  | some z => rw [e] at hx; cases hx; exact .inl ⟨z, rfl, rfl⟩
theorem kit_tl {K : PySem.W.Frag} {t : String} {b1 b2 : Bool} (h1 : kitB t "tuple" = some b1) (h2 : kitB t "list" = some b2) : PySem.W.kitAny K (.type t) [.type "tuple", .type "list"] = some (b1 || b2) := by
  unfold PySem.W.kitAny
  rw [kit_ty h1]
  cases b1 with
  | true => rfl
  | false =>
    unfold PySem.W.kitAny
    rw [kit_ty h2]
    cases b2 <;> rfl
def rIxQ (K : PySem.W.Frag) : R2 := fun x y H Q => rIxL K x y H Q ∨ rIxT K x y H Q
theorem ix_seq {X : Cx} : IxR X (rIxQ X.K) := ix_list.or ix_tup
section
variable {P : Program} {w : World} {K : PySem.W.Frag} {mg : Str → Option Value} {base : Heap}
def spLikeD (n : Nat) : Sp := fun vs H Q _ => ∃ v y : V, vs = [v, y] ∧ LkD n H v y ∧ ∀ H', Same H H' → Q (.bl true) H'
theorem ok_like0 (T : Tx K mg) : FnOk P w K mg base CX0 1 T.a_lalike T.d_lalike P_lalike (spLikeD 0) := by
  refine T.F_lalike.ok sc_lalike (fun vs H Q E h => ?_) (fun cdv A outer s H vs Q E hr h => ?_)
  · obtain ⟨x, y, rfl, _⟩ := h
    rfl
  · obtain ⟨v, y, rfl, hv, q⟩ := h
    refine ⟨_, pss_cons (ps_if (PW.pt (pw_and (pt_val (pe_callB call_isiT (by rfl) T.z_isinstance (by decide +kernel) (pa_cons (pv 0) (pa_cons (pe_tup (pa_cons (pe_bltn (v := .ty "tuple") (u := .type "tuple") (by rfl) T.z_tuple (by decide +kernel) rfl) (pa_cons (pe_bltn (v := .ty "list") (u := .type "list") (by rfl) T.z_list (by decide +kernel) rfl) pa_nil))) pa_nil))))
        (pw_and1 (pt_val (pe_callB call_isiT (by rfl) T.z_isinstance (by decide +kernel) (pa_cons (pv 1) (pa_cons (pe_tup (pa_cons (pe_bltn (v := .ty "tuple") (u := .type "tuple") (by rfl) T.z_tuple (by decide +kernel) rfl) (pa_cons (pe_bltn (v := .ty "list") (u := .type "list") (by rfl) T.z_list (by decide +kernel) rfl) pa_nil))) pa_nil))))))) pss_never pss_nil)
      (pss_one (ps_ret (pe_and (pe_cmpR op_eq (pv 0) (pv 1) (nomark _)) (pe_one (pe_cmpR op_eq (pe_callB call_isi (by rfl) T.z_isinstance (by decide +kernel) (pa_cons (pv 0) (pa_cons (pe_bltn (v := .ty "bool") (u := .type "bool") (by rfl) T.z_bool (by decide +kernel) rfl) pa_nil)))
        (pe_callB call_isi (by rfl) T.z_isinstance (by decide +kernel) (pa_cons (pv 1) (pa_cons (pe_bltn (v := .ty "bool") (u := .type "bool") (by rfl) T.z_bool (by decide +kernel) rfl) pa_nil))) (nomark _)))))), ?_⟩
    obtain ⟨rfl, t, ht, k1, k2, k3, hs⟩ : y = v ∧ ∃ t : String, (∀ H', TyX K H' v (.type t)) ∧ kitB t "tuple" = some false ∧ kitB t "list" = some false ∧ kitB t "bool" = some false ∧ scal v v = true := by
      rcases hv with ⟨x, rfl, rfl⟩ | ⟨rfl, rfl⟩ | ⟨x, rfl, rfl⟩
      · exact ⟨rfl, "int", fun _ => .base (.int x), by decide +kernel, by decide +kernel, by decide +kernel, rfl⟩
      · exact ⟨rfl, "NoneType", fun _ => .base .non, by decide +kernel, by decide +kernel, by decide +kernel, rfl⟩
      · exact ⟨rfl, "str", fun _ => .base (.str x), by decide +kernel, by decide +kernel, by decide +kernel, rfl⟩
    refine ⟨_, rfl, (by show 2 ≤ sizeLine; decide), fun tp htp => ?_⟩
    have s1 := same_upd (o := .tup [.ty "tuple", .ty "list"]) htp
    refine ⟨_, tp, _, .type t, _, _, rfl, upd_same, .cons (.ty _) (.cons (.ty _) .nil), ht _, kit_tl k1 k2, _, rfl, iteF (iteF ?_)⟩
    refine ⟨_, rfl, _, rfl, hs, ?_⟩
    rw [decide_eq_true rfl]
    refine ⟨_, rfl, iteT ?_⟩
    refine ⟨_, rfl, _, .ty "bool", .type t, .type "bool", false, rfl, .ty _, ht _, kit_ty k3, _, rfl, _, .ty "bool", .type t, .type "bool", false, rfl, .ty _, ht _, kit_ty k3, rfl, ?_⟩
    exact q _ s1
theorem ok_likeS {n : Nat} (T : Tx K mg) (IH : FnOk P w K mg base CX0 (n + 1) T.a_lalike T.d_lalike P_lalike (spLikeD n)) : FnOk P w K mg base CX0 (n + 2) T.a_lalike T.d_lalike P_lalike (fun vs H Q _ => ∃ (f g : Addr) (xs ys : List V), vs = [.ref f, .ref g] ∧ ((H f = some (.tup xs) ∧ H g = some (.tup ys)) ∨ (H f = some (.lst xs) ∧ H g = some (.lst ys))) ∧ ys.length = xs.length ∧ xs.length ≤ 1000 ∧
      (∀ (i : Nat) (x y : V), xs[i]? = some x → ys[i]? = some y → LkD n H x y) ∧ ∀ H', Same H H' → Q (.bl true) H') := by
  refine T.F_lalike.ok sc_lalike (fun vs H Q E h => ?_) (fun cdv A outer s H vs Q E hr h => ?_)
  · obtain ⟨f, g, xs, ys, rfl, _⟩ := h
    rfl
  · obtain ⟨f, g, xs, ys, rfl, hfg, hl, h1000, ht, q⟩ := h
    have nd := sc_lalike.nd
    refine ⟨_, pss_cons (ps_if (PW.pt (pw_and (pt_val (pe_callB call_isiT (by rfl) T.z_isinstance (by decide +kernel) (pa_cons (pv 0) (pa_cons (pe_tup (pa_cons (pe_bltn (v := .ty "tuple") (u := .type "tuple") (by rfl) T.z_tuple (by decide +kernel) rfl) (pa_cons (pe_bltn (v := .ty "list") (u := .type "list") (by rfl) T.z_list (by decide +kernel) rfl) pa_nil))) pa_nil))))
        (pw_and1 (pt_val (pe_callB call_isiT (by rfl) T.z_isinstance (by decide +kernel) (pa_cons (pv 1) (pa_cons (pe_tup (pa_cons (pe_bltn (v := .ty "tuple") (u := .type "tuple") (by rfl) T.z_tuple (by decide +kernel) rfl) (pa_cons (pe_bltn (v := .ty "list") (u := .type "list") (by rfl) T.z_list (by decide +kernel) rfl) pa_nil))) pa_nil)))))))
        (pss_cons (ps_if (PW.pt (pw_or (pt_cmpR op_ne (pe_callB call_isi (by rfl) T.z_isinstance (by decide +kernel) (pa_cons (pv 0) (pa_cons (pe_bltn (v := .ty "tuple") (u := .type "tuple") (by rfl) T.z_tuple (by decide +kernel) rfl) pa_nil)))
          (pe_callB call_isi (by rfl) T.z_isinstance (by decide +kernel) (pa_cons (pv 1) (pa_cons (pe_bltn (v := .ty "tuple") (u := .type "tuple") (by rfl) T.z_tuple (by decide +kernel) rfl) pa_nil))) (nomark _))
          (pw_or1 (pt_cmpR op_ne (pe_callB call_len_seq (by rfl) T.z_len PySem.boot_len (pa_cons (pv 0) pa_nil)) (pe_callB call_len_seq (by rfl) T.z_len PySem.boot_len (pa_cons (pv 1) pa_nil)) (nomark _))))) (pss_one (ps_ret pe_bl)) pss_nil)
        (pss_one (ps_ret (pe_cmpR (op_eqD hr.units) (pe_lc (own := [("_law_k", 2)]) rfl nd (pi_range1 (by rfl) T.z_range (pa_cons (pe_callB call_len_seq (by rfl) T.z_len PySem.boot_len (pa_cons (pv 0) pa_nil)) pa_nil)) (blkOk_by (N := N_lalike) (sc := defScope s_lalike) (by decide +kernel))
          (fun _ _ _ _ _ => pg_name (i := 2) nd rfl (.inl rfl))
          (fun _ _ _ _ _ => pts_one (pt_not (pt_val (pe_call (IH) hr (by rfl) T.g_lalike T.F_lalike.kp T.b_lalike .nil pass0 (pa_cons (pe_ix (r := rIxQ K) ix_seq (pv 0) (pv 2) (fun _ _ => rfl)) (pa_cons (pe_ix (r := rIxQ K) ix_seq (pv 1) (pv 2) (fun _ _ => rfl)) pa_nil))))))
          (fun _ _ _ _ _ => pv 2)) (pe_lst pa_nil) (nomark _))))) pss_nil) pss_never, ?_⟩
    obtain ⟨t, b1, b2, hb, hT, k1, k2, k3⟩ : ∃ (t : String) (b1 b2 : Bool), (b1 || b2) = true ∧ (∀ H', Same H H' → TyX K H' (.ref f) (.type t) ∧ TyX K H' (.ref g) (.type t) ∧ (SqL K H' f xs ∨ SqT K H' f xs) ∧ (SqL K H' g ys ∨ SqT K H' g ys)) ∧ kitB t "tuple" = some b1 ∧ kitB t "list" = some b2 ∧ True := by
      rcases hfg with ⟨a, b⟩ | ⟨a, b⟩
      · exact ⟨"tuple", true, false, rfl, fun H' s => ⟨.base (.tup (s _ _ a)), .base (.tup (s _ _ b)), .inr (.of (s _ _ a)), .inr (.of (s _ _ b))⟩, by decide +kernel, by decide +kernel, trivial⟩
      · exact ⟨"list", false, true, rfl, fun H' s => ⟨.base (.lst (s _ _ a)), .base (.lst (s _ _ b)), .inl (.of (s _ _ a)), .inl (.of (s _ _ b))⟩, by decide +kernel, by decide +kernel, trivial⟩
    refine ⟨_, rfl, (by show 2 ≤ sizeLine; decide), fun tp htp => ?_⟩
    have s1 := same_upd (o := .tup [.ty "tuple", .ty "list"]) htp
    refine ⟨_, tp, _, .type t, _, _, rfl, upd_same, .cons (.ty _) (.cons (.ty _) .nil), (hT _ s1).1, kit_tl k1 k2, _, rfl, ?_⟩
    rw [hb]
    refine iteT ?_
    refine ⟨_, rfl, (by show 2 ≤ sizeLine; decide), fun tq htq => ?_⟩
    have s2 := s1.trans (same_upd (o := .tup [.ty "tuple", .ty "list"]) htq)
    have u2 : (upd (upd H tp (.tup [.ty "tuple", .ty "list"])) tq (.tup [.ty "tuple", .ty "list"])) tq = some (.tup [.ty "tuple", .ty "list"]) := upd_same
    generalize (upd (upd H tp (.tup [.ty "tuple", .ty "list"])) tq (.tup [.ty "tuple", .ty "list"])) = H2 at s2 u2
    obtain ⟨t1, t2, q1, q2⟩ := hT _ s2
    refine ⟨_, tq, _, .type t, _, _, rfl, u2, .cons (.ty _) (.cons (.ty _) .nil), t2, kit_tl k1 k2, _, rfl, ?_⟩
    rw [hb]
    refine iteT ?_
    refine ⟨_, rfl, _, .ty "tuple", .type t, .type "tuple", b1, rfl, .ty _, t1, kit_ty k1, _, rfl, _, .ty "tuple", .type t, .type "tuple", b1, rfl, .ty _, t2, kit_ty k1, rfl, _, rfl, iteNS rfl ?_⟩
    refine ⟨_, rfl, f, _, rfl, q1, _, rfl, g, _, rfl, q2, rfl, _, rfl, iteNS (by rw [hl]) ?_⟩
    refine ⟨_, rfl, f, _, rfl, q1, _, rfl, by omega, by omega, fun D hD => lc_range (lo := 0) (n := (((xs.length : Nat) : Int)).toNat) (fun i H' => H' D = some (.lst []) ∧ Same H2 H') ⟨upd_same, same_upd hD⟩ ?_ ?_⟩
    · rintro i H3 hi ⟨h3, s3⟩
      have hi' : i < xs.length := by omega
      have hi2 : i < ys.length := by omega
      obtain ⟨_, _, p1, p2⟩ := hT _ (s2.trans s3)
      have ix : ∀ {p : Addr} {zs : List V} {z : V} {F : VK}, (SqL K H3 p zs ∨ SqT K H3 p zs) → zs[i]? = some z → F z H3 → rIxQ K (.ref p) (.int (0 + (i : Int))) H3 F := fun {p zs z F} hp hz hF => by
        rcases hp with hp | hp
        · exact .inl ⟨p, zs, _, z, rfl, rfl, hp, at_of (j := i) (by omega) hz, hF⟩
        · exact .inr ⟨p, zs, _, z, rfl, rfl, hp, at_of (j := i) (by omega) hz, hF⟩
      refine ⟨rfl, ?_⟩
      refine ⟨_, rfl, _, rfl, ix p1 (List.getElem?_eq_getElem hi') ?_⟩
      refine ⟨_, rfl, _, rfl, ix p2 (List.getElem?_eq_getElem hi2) ?_⟩
      refine ⟨_, _, rfl, (ht i _ _ (List.getElem?_eq_getElem hi') (List.getElem?_eq_getElem hi2)).same (s2.trans s3), fun H4 s4 => ⟨_, rfl, ?_⟩⟩
      exact iteF ⟨s4 _ _ h3, s3.trans s4⟩
    · rintro H3 ⟨h3, s3⟩
      refine ⟨Nat.zero_le _, fun e he => ?_⟩
      have s4 := same_upd (o := .lst []) he
      exact ⟨.list [], .list [], .lst (.of (s4 _ _ h3)) .nil, .lst (.of upd_same) .nil, rfl, rfl, q _ ((s2.trans s3).trans s4)⟩
theorem ok_likeD (T : Tx K mg) : ∀ n : Nat, FnOk P w K mg base CX0 (n + 1) T.a_lalike T.d_lalike P_lalike (spLikeD n)
  | 0 => ok_like0 T
  | n + 1 => by
    have IH := ok_likeD T n
    have h0 := IH.mono (show n + 1 ≤ n + 2 by omega)
    have hT := ok_likeS T IH
    refine ⟨fun vs H Q E h => ?_, fun A outer s H args us vs Q E hr e b r h => ?_⟩
    · obtain ⟨v, y, rfl, _⟩ := h
      rfl
    · obtain ⟨v, y, rfl, hv, q⟩ := h
      rcases hv with hv | ⟨f, g, xs, ys, rfl, rfl, ho, hl, h1, ht⟩
      · exact h0.run A outer s H args us _ Q E hr e b r ⟨v, y, rfl, hv, q⟩
      · exact hT.run A outer s H args us _ Q E hr e b r ⟨f, g, xs, ys, rfl, ho, hl, h1, ht, q⟩
end
end Rp
/-! The law's own model of a ring: a day's list is made anew. -/
namespace Rp
open PySem PySem.Spec PyProof.Rows L2 Rz Rm
/-- the model as it stands, fv: the ends -/
def MRaw (H : Hp) (m sl el td : Addr) (ha : List Addr) (ds ss : List Int) (D : Int) (fv : Nat → V) : Prop :=
  H m = some (.lst [.int D, .ref sl, .ref el, .ref td, .int ss.sum]) ∧ H sl = some (.lst (ha.map V.ref)) ∧ ha.length = ds.length ∧ H el = some (.lst ((List.range ds.length).map fv)) ∧ H td = some (.tup (ds.map V.int)) ∧
  ∀ (j : Nat) (a : Addr), ha[j]? = some a → H a = some (.lst ((Sv ds ss D j).map V.int))
def MAt (H : Hp) (m td : Addr) (ds ss : List Int) (D : Int) : Prop := ∃ (sl el : Addr) (ha : List Addr), MRaw H m sl el td ha ds ss D (Ev ds ss D)
theorem MRaw.same {H H' : Hp} {m sl el td : Addr} {ha : List Addr} {ds ss : List Int} {D : Int} {fv : Nat → V} (h : MRaw H m sl el td ha ds ss D fv) (s : Same H H') : MRaw H' m sl el td ha ds ss D fv := by
  obtain ⟨h1, h2, h3, h4, h5, h6⟩ := h
  exact ⟨s _ _ h1, s _ _ h2, h3, s _ _ h4, s _ _ h5, fun j a h => s _ _ (h6 j a h)⟩
theorem MAt.same {H H' : Hp} {m td : Addr} {ds ss : List Int} {D : Int} (h : MAt H m td ds ss D) (s : Same H H') : MAt H' m td ds ss D := by
  obtain ⟨sl, el, ha, h⟩ := h
  exact ⟨sl, el, ha, h.same s⟩
theorem get_rg {n i : Nat} {f : Nat → V} (h : i < n) : ((List.range n).map f)[i]? = some (f i) := by
  rw [List.getElem?_map, List.getElem?_range h]
  rfl
theorem at_rg {n i : Nat} {f : Nat → V} (h : i < n) : atI ((List.range n).map f) (i : Int) = some (f i) := atI_nat (get_rg h)
theorem rg_snoc (n : Nat) (f : Nat → V) : (List.range n).map f ++ [f n] = (List.range (n + 1)).map f := by
  rw [List.range_succ, List.map_append]
  rfl
theorem same_none {H H' : Hp} {x : Addr} (s : Same H H') (h : H' x = none) : H x = none := by
  cases e : H x with
  | none => rfl
  | some o =>
    have := s _ _ e
    rw [h] at this
    cases this
section
variable {P : Program} {w : World} {K : PySem.W.Frag} {mg : Str → Option Value} {base : Heap}
def spBgn : Sp := fun vs H Q _ => ∃ (m sl el td : Addr) (ha : List Addr) (ds ss : List Int) (D : Int), vs = [.ref m] ∧ MRaw H m sl el td ha ds ss D (Fv ds ss D) ∧ Good ds ss ∧ 0 ≤ D ∧ ∀ H' m' el', Same H H' → MRaw H' m' sl el' td ha ds ss D (Ev ds ss D) → H m' = none → H el' = none → Q (.ref m') H'
theorem ok_bgn (T : Tx K mg) : FnOk P w K mg base CX0 2 T.a_lbegun T.d_lbegun P_lbegun spBgn := by
  refine T.F_lbegun.ok sc_lbegun (fun vs H Q E h => ?_) (fun cdv A outer s H vs Q E hr h => ?_)
  · obtain ⟨m, sl, el, td, ha, ds, ss, D, rfl, _⟩ := h
    rfl
  · obtain ⟨m, sl, el, td, ha, ds, ss, D, rfl, ⟨hm, hsl, lha, hel, htd, hst⟩, G, d0, q⟩ := h
    have nd := sc_lbegun.nd
    refine ⟨_, pss_cons (ps_asg (pv 0) (pg_unl rfl (pgs_cons (pg_name (i := 1) nd rfl (.inl rfl)) (pgs_cons (pg_name (i := 2) nd rfl (.inl rfl)) (pgs_cons (pg_name (i := 3) nd rfl (.inl rfl)) (pgs_cons (pg_name (i := 4) nd rfl (.inl rfl)) (pgs_cons (pg_name (i := 5) nd rfl (.inl rfl)) pgs_nil)))))))
      (pss_cons (ps_set (i := 6) nd rfl (.inl rfl) (pe_lst pa_nil))
      (pss_cons (ps_for PassesOwn.never rfl (pi_range1 (by rfl) T.z_range (pa_cons (pe_callB call_len_seq (by rfl) T.z_len PySem.boot_len (pa_cons (pv 4) pa_nil)) pa_nil)) (pg_name (i := 7) nd rfl (.inl rfl))
        (pss_one (ps_expr (pe_bm PySem.F.plainAttrs_list PySem.F.slot_list_append PySem.F.type_list_append mt_append (pv 6) (pa_cons
          (pe_ifExp (PW.pt (pw_and (pt_cmpR op_isN (pe_ix ix_list (pv 3) (pv 7) (fun _ _ => rfl)) pe_non (nomark _)) (pw_and1 (pt_cmpR (op_neD hr.units) (pe_ix ix_list (pv 2) (pv 7) (fun _ _ => rfl)) (pe_lst pa_nil) (nomark _)))))
            (pe_op op_add (pv 1) (pe_ix ix_tup (pv 4) (pv 7) (fun _ _ => rfl))) (pe_ix ix_list (pv 3) (pv 7) (fun _ _ => rfl))) pa_nil)))))
      (pss_one (ps_ret (pe_lst (pa_cons (pv 1) (pa_cons (pv 2) (pa_cons (pv 6) (pa_cons (pv 4) (pa_cons (pv 5) pa_nil)))))))))), ?_⟩
    obtain ⟨M, hM, hMu⟩ := G.max
    have RR := G.ring hM hMu
    have l8 := G.l8
    refine ⟨_, rfl, m, _, rfl, .of hm, rfl, _, _, rfl, _, _, rfl, _, _, rfl, _, _, rfl, _, _, rfl, rfl, ?_⟩
    refine ⟨Nat.zero_le _, fun le hle => ?_⟩
    have s1 := same_upd (o := .lst []) hle
    have g1 : (upd H le (.lst [])) le = some (.lst []) := upd_same
    refine ⟨_, rfl, td, _, rfl, .inr (.of (s1 _ _ htd)), _, rfl, ?_, ?_, ?_⟩
    · rw [List.length_map]
      omega
    · rw [List.length_map]
      omega
    rw [List.length_map]
    refine for_range (lo := 0) (n := ((ds.length : Nat) : Int).toNat) (fun i σ H' => (∃ z7, σ = [some (.ref m), some (.int D), some (.ref sl), some (.ref el), some (.ref td), some (.int ss.sum), some (.ref le), z7]) ∧ (∀ x o, H x = some o → H' x = some o) ∧ H' le = some (.lst ((List.range i).map (Ev ds ss D))))
      ⟨⟨_, rfl⟩, s1, g1⟩ ?_ ?_
    · rintro i σ H1 hi ⟨⟨z7, rfl⟩, sm, gl⟩
      have hi' : i < ds.length := by omega
      have ei : (0 : Int) + (i : Int) = i := by omega
      show tDrop _ _ [some (.ref m), some (.int D), some (.ref sl), some (.ref el), some (.ref td), some (.int ss.sum), some (.ref le), some (.int (0 + (i : Int)))] H1
      rw [ei]
      have hat := at_rg (f := Fv ds ss D) hi'
      obtain ⟨a, ga⟩ : ∃ a, ha[i]? = some a := ⟨_, List.getElem?_eq_getElem (by rw [lha]; exact hi')⟩
      have hatA : atI (ha.map V.ref) (i : Int) = some (.ref a) := atI_nat (by rw [List.getElem?_map, ga]; rfl)
      have gx := sm _ _ (hst i a ga)
      have hatD : atI (ds.map V.int) (i : Int) = some (.int (at' ds i)) := at_ix (by omega) (by omega)
      have fin : ∀ H2, Same H1 H2 → ∀ v, v = Ev ds ss D i → (H2 le = some (.lst ((List.range i).map (Ev ds ss D))) ∧ ((List.range i).map (Ev ds ss D)).length < sizeLine ∧ ((∃ z7, ([some (.ref m), some (.int D), some (.ref sl), some (.ref el), some (.ref td), some (.int ss.sum), some (.ref le), some (.int (i : Int))] : L2.St) = [some (.ref m), some (.int D), some (.ref sl), some (.ref el), some (.ref td), some (.int ss.sum), some (.ref le), z7]) ∧ (∀ x o, H x = some o → (upd H2 le (.lst ((List.range i).map (Ev ds ss D) ++ [v]))) x = some o) ∧ (upd H2 le (.lst ((List.range i).map (Ev ds ss D) ++ [v]))) le = some (.lst ((List.range (i + 1)).map (Ev ds ss D))))) := fun H2 s2 v ev => by
        subst ev
        refine ⟨s2 _ _ gl, by rw [List.length_map, List.length_range]; exact small1000 (by omega), ⟨_, rfl⟩, fun x o h => ?_, by rw [upd_same, rg_snoc]⟩
        rw [upd_ne (ne_of_none h hle)]
        exact s2 _ _ (sm _ _ h)
      refine ⟨_, rfl, .inl ⟨rfl, _, SqL.of gl⟩, _, rfl, _, rfl, el, _, _, _, rfl, rfl, .of (sm _ _ hel), hat, rfl, _, rfl, ?_⟩
      rcases fv_cases RR hi' d0 with ⟨e1, ⟨b, l, e2⟩, e3⟩ | ⟨e1, e2, e3⟩ | ⟨z, e1, e3⟩
      · rw [e1]
        refine iteT ?_
        refine ⟨_, rfl, _, rfl, sl, _, _, _, rfl, rfl, .of (sm _ _ hsl), hatA, Nat.zero_le _, fun e he => ?_⟩
        have s2 := same_upd (o := .lst []) he
        refine ⟨.list _, .list [], .lst (.of (s2 _ _ gx)) (dp_is _), .lst (.of upd_same) .nil, PySem.W.ke_shaped_ints _, PySem.W.ke_shaped_ints [], _, rfl, ?_⟩
        rw [e2]
        refine iteT ?_
        obtain ⟨f1, f2, f3⟩ := fin _ s2 _ e3.symm
        exact ⟨_, rfl, _, rfl, _, rfl, td, _, _, _, rfl, rfl, .of (s2 _ _ (sm _ _ htd)), hatD, _, _, rfl, rfl, le, _, _, rfl, rfl, f1, f2, f3⟩
      · rw [e1] at hat ⊢
        refine iteT ?_
        refine ⟨_, rfl, _, rfl, sl, _, _, _, rfl, rfl, .of (sm _ _ hsl), hatA, Nat.zero_le _, fun e he => ?_⟩
        have s2 := same_upd (o := .lst []) he
        refine ⟨.list _, .list [], .lst (.of (s2 _ _ gx)) (dp_is _), .lst (.of upd_same) .nil, PySem.W.ke_shaped_ints _, PySem.W.ke_shaped_ints [], _, rfl, ?_⟩
        rw [e2]
        refine iteF ?_
        obtain ⟨f1, f2, f3⟩ := fin _ s2 _ e3.symm
        exact ⟨_, rfl, _, rfl, el, _, _, _, rfl, rfl, .of (s2 _ _ (sm _ _ hel)), hat, le, _, _, rfl, rfl, f1, f2, f3⟩
      · rw [e1] at hat ⊢
        refine iteF (iteF ?_)
        obtain ⟨f1, f2, f3⟩ := fin H1 (fun _ _ h => h) _ e3.symm
        exact ⟨_, rfl, _, rfl, el, _, _, _, rfl, rfl, .of (sm _ _ hel), hat, le, _, _, rfl, rfl, f1, f2, f3⟩
    · rintro σ H1 ⟨⟨z7, rfl⟩, sm, gl⟩
      rw [show ((ds.length : Nat) : Int).toNat = ds.length by omega] at gl
      refine ⟨_, rfl, _, rfl, _, rfl, _, rfl, _, rfl, (by show 5 ≤ sizeLine; decide), fun m' hm' => ?_⟩
      have s2 := same_upd (o := .lst [.int D, .ref sl, .ref le, .ref td, .int ss.sum]) hm'
      exact q _ m' le (fun x o h => s2 _ _ (sm _ _ h)) ⟨upd_same, s2 _ _ (sm _ _ hsl), lha, s2 _ _ gl, s2 _ _ (sm _ _ htd), fun j a h => s2 _ _ (sm _ _ (hst j a h))⟩ (same_none sm hm') hle
/-- the model of day 0 -/
def spFst : Sp := fun vs H Q _ => ∃ (td ts : Addr) (ds ss : List Int), vs = [.ref td, .ref ts] ∧ H td = some (.tup (ds.map V.int)) ∧ H ts = some (.tup (ss.map V.int)) ∧ Good ds ss ∧ ∀ H' m, Same H H' → MAt H' m td ds ss 0 → Q (.ref m) H'
theorem ok_fst (T : Tx K mg) : FnOk P w K mg base CX0 3 T.a_lfirst T.d_lfirst P_lfirst spFst := by
  refine T.F_lfirst.ok sc_lfirst (fun vs H Q E h => ?_) (fun cdv A outer s H vs Q E hr h => ?_)
  · obtain ⟨td, ts, ds, ss, rfl, _⟩ := h
    rfl
  · obtain ⟨td, ts, ds, ss, rfl, htd, hts, G, q⟩ := h
    have nd := sc_lfirst.nd
    refine ⟨_, pss_cons (ps_par (i := 2) (j := 3) rfl nd rfl rfl (by decide) rfl rfl (pa_cons (pe_lst pa_nil) (pa_cons pe_int pa_nil)) rfl)
      (pss_cons (ps_for PassesOwn.never rfl (pi_tup (pv 1)) (pg_name (i := 4) nd rfl (.inl rfl))
        (pss_cons (ps_expr (pe_bm PySem.F.plainAttrs_list PySem.F.slot_list_append PySem.F.type_list_append mt_append (pv 2) (pa_cons (pe_listRg rfl (by rfl) T.z_list (prg_2 (by rfl) T.z_range (pv 3) (pe_op op_add (pv 3) (pv 4)))) pa_nil)))
        (pss_one (ps_set (i := 3) nd rfl (.inl rfl) (pe_op op_add (pv 3) (pv 4))))))
      (pss_one (ps_ret (pe_call (ok_bgn T) hr (by rfl) T.g_lbegun T.F_lbegun.kp T.b_lbegun .nil pass0 (pa_cons (pe_lst (pa_cons pe_int (pa_cons (pv 2) (pa_cons (pe_op op_rep (pe_lst (pa_cons pe_non pa_nil)) (pe_callB call_len_seq (by rfl) T.z_len PySem.boot_len (pa_cons (pv 0) pa_nil))) (pa_cons (pv 0) (pa_cons (pv 3) pa_nil)))))) pa_nil))))), ?_⟩
    obtain ⟨M, hM, hMu⟩ := G.max
    have RR := G.ring hM hMu
    have l2 := G.l2
    have l8 := G.l8
    have ls := G.ls
    have b12 := G.b12
    refine ⟨Nat.zero_le _, fun hl hhl => ?_⟩
    have s1 := same_upd (o := .lst []) hhl
    have g1 : (upd H hl (.lst [])) hl = some (.lst []) := upd_same
    refine ⟨_, _, rfl, ?_⟩
    show tSeq _ _ _ [some (.ref td), some (.ref ts), some (.ref hl), some (.int 0), none] (upd H hl (.lst []))
    generalize (upd H hl (.lst [])) = H6 at s1 g1
    have hts6 := s1 _ _ hts
    refine ⟨_, rfl, ts, rfl, ⟨_, .of hts6⟩, for_tup (K := K) (a := ts) (xs := ss.map V.int) (fun i σ H' => (∃ z5, σ = [some (.ref td), some (.ref ts), some (.ref hl), some (.int (ss.take i).sum), z5]) ∧ (∀ x o, H6 x = some o → x ≠ hl → H' x = some o) ∧
      ∃ ha : List Addr, H' hl = some (.lst (ha.map V.ref)) ∧ ha.length = i ∧ ∀ (j : Nat) (a : Addr), ha[j]? = some a → a ≠ hl ∧ H' a = some (.lst ((Sv ds ss 0 j).map V.int)))
      ⟨⟨none, rfl⟩, fun x o h _ => h, [], g1, rfl, fun j a h => by simp at h⟩ (fun i σ H' _ p => .of (p.2.1 _ _ hts6 (ne_of hts6 g1 (by intro z; cases z)))) ?_ ?_⟩
    · rintro i x σ H7 hx ⟨⟨z5, rfl⟩, kp, ha, hha, lha, oha⟩
      obtain ⟨z, hz, rfl⟩ := get_int hx
      have hi : i < ss.length := (List.getElem?_eq_some_iff.mp hz).1
      have ez : at' ss i = z := at_nat hz
      have hz12 := G.s0 z (List.mem_of_getElem? hz)
      have hb := take_le (l := ss) (fun y hy => (G.s0 y hy).1) i
      obtain ⟨bk0, hbk⟩ : ∃ b, b = (ss.take i).sum := ⟨_, rfl⟩
      show tSeq _ _ _ [some (.ref td), some (.ref ts), some (.ref hl), some (.int (ss.take i).sum), some (.int z)] H7
      rw [← hbk] at hb ⊢
      refine ⟨_, rfl, .inl ⟨rfl, _, SqL.of hha⟩, _, rfl, _, rfl, _, rfl, _, _, rfl, rfl, _, _, rfl, rfl, ⟨by omega, by omega, by omega, by omega, by omega⟩, fun L hL => ?_⟩
      have s8 := same_upd (o := .lst (rgV bk0 (bk0 + z))) hL
      have eL : rgV bk0 (bk0 + z) = (Sv ds ss 0 i).map V.int := sv_first RR ls (by omega) hbk.symm ez
      have nL : L ≠ hl := (ne_of_none hha hL).symm
      refine ⟨hl, _, _, rfl, rfl, s8 _ _ hha, by rw [List.length_map]; exact small1000 (by omega), ?_⟩
      refine ⟨_, rfl, _, rfl, _, _, rfl, rfl, ?_⟩
      refine ⟨⟨_, by rw [take_succ hi, ← hbk, ez]; rfl⟩, fun x o h n => ?_, ha ++ [L], by rw [upd_same, List.map_append]; rfl, by rw [List.length_append, lha]; rfl, fun j a h => ?_⟩
      · rw [upd_ne n]
        exact s8 _ _ (kp _ _ h n)
      · rcases get_snoc h with h | ⟨h1, rfl⟩
        · obtain ⟨n1, h1⟩ := oha j a h
          rw [upd_ne n1]
          exact ⟨n1, s8 _ _ h1⟩
        · rw [upd_ne nL, upd_same, h1, lha, eL]
          exact ⟨nL, rfl⟩
    · rintro σ H7 ⟨⟨z5, rfl⟩, kp, ha, hha, lha, oha⟩
      rw [List.length_map] at lha ⊢
      have htd7 := kp _ _ (s1 _ _ htd) (ne_of (s1 _ _ htd) g1 (by intro z; cases z))
      refine ⟨_, rfl, (by show 1 ≤ sizeLine; decide), fun l0 hl0 => ?_⟩
      have s4 := same_upd (o := .lst [.non]) hl0
      have g4 : (upd H7 l0 (.lst [.non])) l0 = some (.lst [.non]) := upd_same
      generalize (upd H7 l0 (.lst [.non])) = H4 at s4 g4
      refine ⟨_, rfl, td, _, rfl, .inr (.of (s4 _ _ htd7)), l0, _, _, rfl, rfl, g4, ?_, ?_, ?_, fun rd hrd => ?_⟩
      · omega
      · rw [List.length_map]
        omega
      · rw [List.length_map]
        show 1 * _ ≤ sizeLine
        have := small1000 (n := 1 * ((ds.length : Nat) : Int).toNat) (by omega)
        omega
      rw [rep_one, List.length_map, show ((ds.length : Nat) : Int).toNat = ds.length by omega]
      have s5 := same_upd (o := .lst (List.replicate ds.length V.non)) hrd
      have g5 : (upd H4 rd (.lst (List.replicate ds.length V.non))) rd = some (.lst (List.replicate ds.length V.non)) := upd_same
      generalize (upd H4 rd (.lst (List.replicate ds.length V.non))) = H5 at s5 g5
      have s75 := s4.trans s5
      refine ⟨_, rfl, _, rfl, (by show 5 ≤ sizeLine; decide), fun m hm => ?_⟩
      have s8 := same_upd (o := .lst [.int 0, .ref hl, .ref rd, .ref td, .int (ss.take ss.length).sum]) hm
      have eR : List.replicate ds.length V.non = (List.range ds.length).map (Fv ds ss 0) := by
        refine List.ext_getElem? fun n => ?_
        by_cases hn : n < ds.length
        · rw [List.getElem?_replicate, if_pos hn, get_rg hn, fv_first RR]
        · rw [List.getElem?_eq_none (by rw [List.length_replicate]; omega), List.getElem?_eq_none (by rw [List.length_map, List.length_range]; omega)]
      refine ⟨m, hl, rd, td, ha, ds, ss, 0, rfl, ⟨?_, s8 _ _ (s75 _ _ hha), by omega, ?_, s8 _ _ (s75 _ _ htd7), fun j a h => s8 _ _ (s75 _ _ (oha j a h).2)⟩, G, Int.le_refl _, fun H' m' el' s9 M' _ _ => q _ _ (fun x o h => s9 _ _ (s8 _ _ (s75 _ _ (kp _ _ (s1 _ _ h) (ne_of_none h hhl))))) ⟨_, _, _, M'⟩⟩
      · rw [upd_same, List.take_length]
      · rw [← eR]
        exact s8 _ _ g5
end
end Rp
/-! The law's own model of a ring: the next day. -/
namespace Rp
open PySem PySem.Spec PyProof.Rows L2 Rz Rm
theorem rg_set {n k : Nat} {f : Nat → V} {v : V} (h : k < n) : ((List.range n).map f).set k v = (List.range n).map (fun j => if j = k then v else f j) := by
  refine List.ext_getElem? fun i => ?_
  by_cases hi : i < n
  · rw [get_rg hi]
    by_cases e : i = k
    · subst e
      rw [List.getElem?_set_self (by rw [List.length_map, List.length_range]; exact h), if_pos rfl]
    · rw [List.getElem?_set_ne (Ne.symm e), get_rg hi, if_neg e]
  · rw [List.getElem?_eq_none (by rw [List.length_set, List.length_map, List.length_range]; omega), List.getElem?_eq_none (by rw [List.length_map, List.length_range]; omega)]
theorem cut_tail (x : V) (xs : List V) : cutV (x :: xs) (some 1) none = xs := by
  unfold cutV
  have e0 : HT.sIx (x :: xs).length 0 (some (1 : Int)) = 1 := by
    have := HT.sIx_nat (x :: xs).length 0 1
    rw [show (1 : Int) = ((1 : Nat) : Int) from rfl, this, List.length_cons]
    omega
  rw [e0, HT.sIx_none, List.drop_succ_cons, List.drop_zero, List.length_cons, List.take_of_length_le (by omega)]
def rLof (K : PySem.W.Frag) : List V → Hp → VK → Prop := fun xs H Q => ∃ p ys, xs = [.ref p] ∧ (SqL K H p ys ∨ SqT K H p ys) ∧ ∀ l, H l = none → Q (.ref l) (upd H l (.lst ys))
theorem call_lof {X : Cx} : CallR X (.type "list") (rLof X.K) := call_list_of
theorem nodup_set {p : Addr} : ∀ {l : List Addr} {k : Nat}, l.Nodup → p ∉ l → (l.set k p).Nodup
  | [], k, h, _ => by simpa using h
  | a :: r, 0, h, n => by
    rw [List.set_cons_zero, List.nodup_cons]
    exact ⟨fun z => n (List.mem_cons_of_mem _ z), (List.nodup_cons.mp h).2⟩
  | a :: r, k + 1, h, n => by
    rw [List.set_cons_succ, List.nodup_cons]
    refine ⟨fun z => ?_, nodup_set (List.nodup_cons.mp h).2 fun z => n (List.mem_cons_of_mem _ z)⟩
    rcases List.mem_or_eq_of_mem_set z with z | z
    · exact (List.nodup_cons.mp h).1 z
    · exact n (z ▸ List.mem_cons_self)
theorem eqv_int (a b : Int) : PyData.eqv (.int a) (.int b) = decide (a = b) := by
  first | rfl | simp [PyData.eqv]
section
variable {P : Program} {w : World} {K : PySem.W.Frag} {mg : Str → Option Value} {base : Heap}
def spNxt : Sp := fun vs H Q _ => ∃ (m td : Addr) (ds ss : List Int) (D : Int), vs = [.ref m] ∧ MAt H m td ds ss D ∧ Good ds ss ∧ 0 ≤ D ∧ D ≤ 1000000 ∧
  ∀ H' t m' le xs sl el ha, Same H H' → H' t = some (.tup [.ref m', .ref le]) → MRaw H' m' sl el td ha ds ss (D + 1) (Ev ds ss (D + 1)) → H m' = none → H sl = none → H el = none → (∀ a ∈ ha, H a = none) → H' le = some (.lst xs) → H le = none → Tups H' xs (Ke ds ss D) → Q (.ref t) H'
theorem ok_nxt (T : Tx K mg) : FnOk P w K mg base CX0 3 T.a_lnext T.d_lnext P_lnext spNxt := by
  refine T.F_lnext.ok sc_lnext (fun vs H Q E h => ?_) (fun cdv A outer s H vs Q E hr h => ?_)
  · obtain ⟨m, td, ds, ss, D, rfl, _⟩ := h
    rfl
  · obtain ⟨m, td, ds, ss, D, rfl, ⟨sl0, el0, ha0, hm, hsl0, lha0, hel0, htd, hst0⟩, G, d0, d9, q⟩ := h
    have nd := sc_lnext.nd
    refine ⟨_, pss_cons (ps_asg (pv 0) (pg_unl rfl (pgs_cons (pg_name (i := 1) nd rfl (.inr rfl)) (pgs_cons (pg_name (i := 2) nd rfl (.inr rfl)) (pgs_cons (pg_name (i := 3) nd rfl (.inr rfl)) (pgs_cons (pg_name (i := 4) nd rfl (.inl rfl)) (pgs_cons (pg_name (i := 5) nd rfl (.inl rfl)) pgs_nil)))))))
      (pss_cons (ps_asg (pe_tup (pa_cons (pe_lc (own := [("_law_stack", 10)]) rfl nd (pi_list (pv 2)) (blkOk_by (N := N_lnext) (sc := defScope s_lnext) (by decide +kernel)) (fun _ _ _ _ _ => pg_name (i := 10) nd rfl (.inl rfl)) (fun _ _ _ _ _ => pts_nil)
            (fun _ _ _ _ _ => pe_callTy (T := "list") (r := rLof K) call_lof (by rfl) T.z_list (by decide +kernel) (pa_cons (pv 10) pa_nil)))
          (pa_cons (pe_callTy (T := "list") call_lof (by rfl) T.z_list (by decide +kernel) (pa_cons (pv 3) pa_nil)) pa_nil))) (pg_tup rfl (pgs_cons (pg_name (i := 2) nd rfl (.inr rfl)) (pgs_cons (pg_name (i := 3) nd rfl (.inr rfl)) pgs_nil))))
      (pss_cons (ps_setLc (i := 6) (own := [("_law_k", 8)]) rfl nd rfl rfl (sw_true rfl rfl rfl (by decide +kernel)) (pi_range1 (by rfl) T.z_range (pa_cons (pe_callB call_len_seq (by rfl) T.z_len PySem.boot_len (pa_cons (pv 4) pa_nil)) pa_nil)) (blkOk_by (N := N_lnext) (sc := defScope s_lnext) (by decide +kernel)) (fun _ _ _ _ _ => pg_name (i := 8) nd rfl (.inl rfl))
          (fun _ _ _ _ _ => pts_one (pt_cmpR (r := rEqD K) (op_eqD hr.units) (pe_ix (r := rIxL K) ix_list (pv 3) (pv 8) (fun _ _ => rfl)) (pe_op op_add (pv 1) pe_int) (nomark _)))
          (fun _ _ _ _ _ => pe_tup (pa_cons (pe_op op_add (pv 1) pe_int) (pa_cons (pv 8) (pa_cons (pe_ix (r := rIxL K) ix_list (pe_ix (r := rIxL K) ix_list (pv 2) (pv 8) (fun _ _ => rfl)) pe_int (fun _ _ => rfl)) pa_nil)))))
      (pss_cons (ps_for PassesOwn.never rfl (pi_list (pv 6)) (pg_tup rfl (pgs_cons (pg_name (i := 7) nd rfl (.inl rfl)) (pgs_cons (pg_name (i := 8) nd rfl (.inl rfl)) (pgs_cons (pg_name (i := 9) nd rfl (.inl rfl)) pgs_nil))))
        (pss_one (ps_asg (pe_tup (pa_cons (pe_slice sl_list (pe_ix ix_list (pv 2) (pv 8) (fun _ _ => rfl)) (po_some pe_int) po_none) (pa_cons pe_non pa_nil))) (pg_tup rfl (pgs_cons (pg_sub (pv 2) (pv 8) set_list) (pgs_cons (pg_sub (pv 3) (pv 8) set_list) pgs_nil))))))
      (pss_cons (ps_for PassesOwn.never rfl (pi_list (pv 6)) (pg_tup rfl (pgs_cons (pg_name (i := 7) nd rfl (.inl rfl)) (pgs_cons (pg_name (i := 8) nd rfl (.inl rfl)) (pgs_cons (pg_name (i := 9) nd rfl (.inl rfl)) pgs_nil))))
        (pss_one (ps_expr (pe_bm PySem.F.plainAttrs_list PySem.F.slot_list_append PySem.F.type_list_append mt_append (pe_ix ix_list (pv 2) (pe_op op_mod (pe_callTy call_int1 (by rfl) T.z_int (by decide +kernel) (pa_cons (pe_op op_add (pv 8) pe_int) pa_nil)) (pe_callB call_len_seq (by rfl) T.z_len PySem.boot_len (pa_cons (pv 4) pa_nil))) (fun _ _ => rfl)) (pa_cons (pv 9) pa_nil)))))
      (pss_one (ps_ret (pe_tup (pa_cons (pe_call (ok_bgn T) hr (by rfl) T.g_lbegun T.F_lbegun.kp T.b_lbegun .nil pass0 (pa_cons (pe_lst (pa_cons (pe_op op_add (pv 1) pe_int) (pa_cons (pv 2) (pa_cons (pv 3) (pa_cons (pv 4) (pa_cons (pv 5) pa_nil)))))) pa_nil)) (pa_cons (pv 6) pa_nil))))))))), ?_⟩
    obtain ⟨M, hM, hMu⟩ := G.max
    have RR := G.ring hM hMu
    have l2 := G.l2
    have l8 := G.l8
    have ls := G.ls
    have s12 : ∀ j, at' ss j ≤ 12 := fun j => (G.s0 _ (at_mem (by omega) j)).2
    refine ⟨_, rfl, m, _, rfl, .of hm, rfl, _, _, rfl, _, _, rfl, _, _, rfl, _, _, rfl, _, _, rfl, rfl, ?_⟩
    -- copies
    refine ⟨_, rfl, sl0, rfl, ⟨_, .of hsl0⟩, fun sl hsl => lc_list (xs := ha0.map V.ref) (fun i H' => Same H H' ∧ ∃ ha : List Addr, H' sl = some (.lst (ha.map V.ref)) ∧ ha.length = i ∧ ha.Nodup ∧ (∀ a ∈ ha, H a = none ∧ a ≠ sl) ∧ ∀ (j : Nat) (a : Addr), ha[j]? = some a → H' a = some (.lst ((Sv ds ss D j).map V.int)))
      ⟨same_upd hsl, [], upd_same, rfl, List.nodup_nil, fun a h => absurd h List.not_mem_nil, fun j a h => by simp at h⟩ (fun i H' _ p => .of (p.1 _ _ hsl0)) ?_ ?_⟩
    · rintro i x H1 hx ⟨s1, ha, g1, lha, dha, fha, oha⟩
      rw [List.getElem?_map] at hx
      cases ea : ha0[i]? with
      | none => rw [ea] at hx; cases hx
      | some a0 =>
        rw [ea] at hx
        cases hx
        refine ⟨rfl, lc_keep ?_⟩
        have hi : i < ds.length := by rw [← lha0]; exact (List.getElem?_eq_some_iff.mp ea).1
        refine ⟨_, rfl, a0, _, rfl, .inl (.of (s1 _ _ (hst0 i a0 ea))), fun L hL => ?_⟩
        have s2 := same_upd (o := .lst ((Sv ds ss D i).map V.int)) hL
        have nL : L ≠ sl := (ne_of_none g1 hL).symm
        refine ⟨_, s2 _ _ g1, by rw [List.length_map]; exact small1000 (by omega), fun x o h => ?_, ha ++ [L], by rw [upd_same, List.map_append]; rfl, by rw [List.length_append, lha]; rfl, nodup_snoc dha fun z => ?_, fun a h => ?_, fun j a h => ?_⟩
        · rw [upd_ne (ne_of_none h hsl)]
          exact s2 _ _ (s1 _ _ h)
        · obtain ⟨j, hj⟩ := List.getElem?_of_mem z
          have := oha j L hj
          rw [hL] at this
          cases this
        · rcases List.mem_append.mp h with h | h
          · exact fha a h
          · have := List.mem_singleton.mp h
            subst this
            exact ⟨same_none s1 hL, nL⟩
        · rcases get_snoc h with h | ⟨h1, rfl⟩
          · rw [upd_ne (fha a (List.mem_of_getElem? h)).2]
            exact s2 _ _ (oha j a h)
          · rw [upd_ne nL, upd_same, h1, lha]
    rintro H1 ⟨s1, ha, g1, lha, dha, fha, oha⟩
    rw [List.length_map, lha0] at lha
    refine ⟨_, rfl, el0, _, rfl, .inl (.of (s1 _ _ hel0)), fun el hel => ?_⟩
    have s2 := same_upd (o := .lst ((List.range ds.length).map (Ev ds ss D))) hel
    have g2 : (upd H1 el (.lst ((List.range ds.length).map (Ev ds ss D)))) el = some (.lst ((List.range ds.length).map (Ev ds ss D))) := upd_same
    have nse : sl ≠ el := ne_of_none g1 hel
    have hfe : ∀ a ∈ ha, a ≠ el := fun a h z => by
      obtain ⟨j, hj⟩ := List.getElem?_of_mem h
      have := oha j a hj
      rw [z, hel] at this
      cases this
    have fel := same_none s1 hel
    refine ⟨(by show 2 ≤ sizeLine; decide), fun t0 ht0 => ?_⟩
    have s3 := same_upd (o := .tup [.ref sl, .ref el]) ht0
    refine ⟨t0, _, rfl, .of upd_same, rfl, _, _, rfl, _, _, rfl, rfl, ?_⟩
    have sA : Same H (upd (upd H1 el (.lst ((List.range ds.length).map (Ev ds ss D)))) t0 (.tup [.ref sl, .ref el])) := (s1.trans s2).trans s3
    have gsl := s3 _ _ (s2 _ _ g1)
    have gel := s3 _ _ g2
    have gst : ∀ (j : Nat) (a : Addr), ha[j]? = some a → (upd (upd H1 el (.lst ((List.range ds.length).map (Ev ds ss D)))) t0 (.tup [.ref sl, .ref el])) a = some (.lst ((Sv ds ss D j).map V.int)) := fun j a h => s3 _ _ (s2 _ _ (oha j a h))
    show tSeq _ _ _ [some (.ref m), some (.int D), some (.ref sl), some (.ref el), some (.ref td), some (.int ss.sum), none, none, none, none, none] (upd (upd H1 el (.lst ((List.range ds.length).map (Ev ds ss D)))) t0 (.tup [.ref sl, .ref el]))
    generalize (upd (upd H1 el (.lst ((List.range ds.length).map (Ev ds ss D)))) t0 (.tup [.ref sl, .ref el])) = H2 at sA gsl gel gst
    -- who ends
    refine ⟨_, rfl, td, _, rfl, .inr (.of (sA _ _ htd)), _, rfl, by rw [List.length_map]; omega, by rw [List.length_map]; omega, fun le hle => ?_⟩
    rw [List.length_map]
    have fle := same_none sA hle
    refine lc_range (lo := 0) (n := ((ds.length : Nat) : Int).toNat) (fun i H' => Same H2 H' ∧ ∃ xs, H' le = some (.lst xs) ∧ Tups H' xs ((Kx ds ss D i).map (rec ds ss D)) ∧ xs.length ≤ i) ⟨same_upd hle, [], upd_same, .nil, Nat.le_refl _⟩ ?_ ?_
    · rintro i H3 hi ⟨s4, xs, gle, Tp, lx⟩
      have hi' : i < ds.length := by omega
      have ei : (0 : Int) + (i : Int) = i := by omega
      refine ⟨rfl, ?_⟩
      show tTest _ [some (.ref m), some (.int D), some (.ref sl), some (.ref el), some (.ref td), some (.int ss.sum), none, none, some (.int (0 + (i : Int))), none, none] H3 _
      rw [ei]
      have hat := at_rg (f := Ev ds ss D) hi'
      obtain ⟨a, ga⟩ : ∃ a, ha[i]? = some a := ⟨_, List.getElem?_eq_getElem (by rw [lha]; exact hi')⟩
      have hatA : atI (ha.map V.ref) (i : Int) = some (.ref a) := atI_nat (by rw [List.getElem?_map, ga]; rfl)
      refine ⟨_, rfl, _, rfl, el, _, _, _, rfl, rfl, .of (s4 _ _ gel), hat, _, rfl, _, _, rfl, rfl, ?_⟩
      have ek : Ev ds ss D i = .non ∨ ∃ z, Ev ds ss D i = .int z := by
        unfold Ev
        split
        · exact .inl rfl
        · exact .inr ⟨_, rfl⟩
      by_cases hk : Kd ds ss D i = true
      · obtain ⟨c1, c2, c3, c4⟩ := ends_now RR hi' d0 hk
        rw [c2]
        refine ⟨.int (D + 1), .int (D + 1), .int _, .int _, rfl, rfl, _, rfl, ?_⟩
        rw [eqv_int, decide_eq_true rfl]
        refine iteT ?_
        have gx := s4 _ _ (gst i a ga)
        rw [c3] at gx
        refine ⟨_, rfl, _, _, rfl, rfl, _, rfl, _, rfl, _, rfl, sl, _, _, _, rfl, rfl, .of (s4 _ _ gsl), hatA, a, _, 0, _, rfl, rfl, .of gx, atI_nat (j := 0) rfl, (by show 3 ≤ sizeLine; decide), fun t ht => ?_⟩
        have s5 := same_upd (o := .tup [.int (D + 1), .int i, .int (bk ss i (Cn (at' ds) (at' ss) i D))]) ht
        have nt : t ≠ le := (ne_of_none gle ht).symm
        refine ⟨xs, s5 _ _ gle, small1000 (by omega), fun x o h => ?_, xs ++ [.ref t], upd_same, ?_, by rw [List.length_append]; show xs.length + 1 ≤ _; omega⟩
        · rw [upd_ne (ne_of_none h hle)]
          exact s5 _ _ (s4 _ _ h)
        · rw [kx_succ, if_pos hk, List.map_append]
          refine Tups.snoc ⟨t, rfl, by rw [upd_ne nt, upd_same]; rfl⟩ (Tp.mono fun b ys h => ?_)
          rw [upd_ne (ne_of h gle (by intro z; cases z))]
          exact s5 _ _ h
      · obtain ⟨c1, c2, c3⟩ := ends_not RR d0 hk
        have stay : Same H2 H3 ∧ ∃ xs, H3 le = some (.lst xs) ∧ Tups H3 xs ((Kx ds ss D (i + 1)).map (rec ds ss D)) ∧ xs.length ≤ i + 1 := ⟨s4, xs, gle, by rw [kx_succ, if_neg hk]; exact Tp, by omega⟩
        rcases ek with e | ⟨z, e⟩
        · rw [e]
          exact ⟨.none, .int (D + 1), .non, .int _, rfl, rfl, _, rfl, iteF stay⟩
        · rw [e] at c2 ⊢
          refine ⟨.int z, .int (D + 1), .int _, .int _, rfl, rfl, _, rfl, ?_⟩
          rw [eqv_int, decide_eq_false (fun y => c2 (by rw [y]))]
          exact iteF stay
    rintro H3 ⟨s4, xs, gle, Tp, lx⟩
    rw [show ((ds.length : Nat) : Int).toNat = ds.length by omega] at Tp lx
    have lks : xs.length = (Kx ds ss D ds.length).length := by rw [Tp.length, List.length_map]
    have kn := kx_nodup (ds := ds) (ss := ss) (D := D) (n := ds.length)
    have km : ∀ {k}, k ∈ Kx ds ss D ds.length ↔ k < ds.length ∧ Kd ds ss D k = true := kx_mem
    have eKe : Ke ds ss D = (Kx ds ss D ds.length).map (rec ds ss D) := rfl
    rw [← eKe] at Tp
    have sB : Same H H3 := sA.trans s4
    have gsl3 := s4 _ _ gsl
    have gel3 := s4 _ _ gel
    have gst3 : ∀ (j : Nat) (a : Addr), ha[j]? = some a → H3 a = some (.lst ((Sv ds ss D j).map V.int)) := fun j a h => s4 _ _ (gst j a h)
    have nls : le ≠ sl := (ne_of_none gsl hle).symm
    have nle : le ≠ el := (ne_of_none gel hle).symm
    have nla : ∀ a ∈ ha, a ≠ le := fun a h z => by
      obtain ⟨j, hj⟩ := List.getElem?_of_mem h
      have := gst j a hj
      rw [z, hle] at this
      cases this
    obtain ⟨ks, hks⟩ : ∃ ks, ks = Kx ds ss D ds.length := ⟨_, rfl⟩
    rw [← hks] at kn km lks eKe
    have rec_at : ∀ {H' : Hp} {n : Nat} {k : Nat}, Tups H' xs (Ke ds ss D) → ks[n]? = some k → ∃ t, xs[n]? = some (.ref t) ∧ H' t = some (.tup [.int (D + 1), .int k, .int (bk ss k (Cn (at' ds) (at' ss) k D))]) := fun {H' n k} h e => by
      obtain ⟨t, h1, h2⟩ := h.get (i := n) (l := rec ds ss D k) (by rw [eKe, List.getElem?_map, e]; rfl)
      exact ⟨t, h1, h2⟩
    -- the books that end are taken away
    show tSeq _ _ _ [some (.ref m), some (.int D), some (.ref sl), some (.ref el), some (.ref td), some (.int ss.sum), some (.ref le), none, none, none, none] H3
    refine ⟨_, rfl, le, rfl, ⟨_, .of gle⟩, for_list (K := K) (a := le) (xs := xs) (fun n σ H' => (∃ z7 z8 z9, σ = [some (.ref m), some (.int D), some (.ref sl), some (.ref el), some (.ref td), some (.int ss.sum), some (.ref le), z7, z8, z9, none]) ∧ Same H H' ∧ H' le = some (.lst xs) ∧ Tups H' xs (Ke ds ss D) ∧
      H' el = some (.lst ((List.range ds.length).map fun j => if j ∈ ks.take n then .non else Ev ds ss D j)) ∧ ∃ ha : List Addr, H' sl = some (.lst (ha.map V.ref)) ∧ ha.length = ds.length ∧ ha.Nodup ∧ (∀ a ∈ ha, H a = none ∧ a ≠ sl ∧ a ≠ el ∧ a ≠ le) ∧
        ∀ (j : Nat) (a : Addr), ha[j]? = some a → H' a = some (.lst ((bseg ss j (if j ∈ ks.take n then Cn (at' ds) (at' ss) j D + 1 else Cn (at' ds) (at' ss) j D) (at' ss j + Cn (at' ds) (at' ss) (prv ds.length j : Nat) D)).map V.int)))
      ⟨⟨_, _, _, rfl⟩, sB, gle, Tp, ?_, ha, gsl3, lha, dha, fun a h => ⟨(fha a h).1, (fha a h).2, hfe a h, nla a h⟩, fun j a h => ?_⟩ (fun i σ H' _ p => .of p.2.2.1) ?_ ?_⟩
    · rw [gel3]
      simp
    · rw [gst3 j a h]
      simp [Sv]
    · rintro n x σ H4 hx ⟨⟨z7, z8, z9, rfl⟩, s5, gl4, T4, ge4, ha, gs4, lha, dha, fha, oha⟩
      have hn : n < xs.length := (List.getElem?_eq_some_iff.mp hx).1
      obtain ⟨k, hk⟩ : ∃ k, ks[n]? = some k := ⟨_, List.getElem?_eq_getElem (by omega)⟩
      obtain ⟨t, a1, a2⟩ := rec_at T4 hk
      rw [a1] at hx
      cases hx
      obtain ⟨kN, kE⟩ := km.mp (List.mem_of_getElem? hk)
      have hnot := take_mem kn hk
      obtain ⟨c1, c2, c3, c4⟩ := ends_now RR kN d0 kE
      obtain ⟨a, ga⟩ : ∃ a, ha[k]? = some a := ⟨_, List.getElem?_eq_getElem (by rw [lha]; exact kN)⟩
      have am := List.mem_of_getElem? ga
      have gx := oha k a ga
      rw [if_neg hnot] at gx
      have hlt : Cn (at' ds) (at' ss) k D < at' ss k + Cn (at' ds) (at' ss) (prv ds.length k : Nat) D := by
        have e := congrArg List.length c3
        unfold Sv at e
        rw [bseg_length, List.length_cons] at e
        omega
      rw [bseg_cons hlt] at gx
      have hatA : atI (ha.map V.ref) (k : Int) = some (.ref a) := atI_nat (by rw [List.getElem?_map, ga]; rfl)
      refine ⟨t, _, rfl, .of a2, rfl, _, _, rfl, _, _, rfl, _, _, rfl, rfl, ?_⟩
      show tAsg _ _ _ [some (.ref m), some (.int D), some (.ref sl), some (.ref el), some (.ref td), some (.int ss.sum), some (.ref le), some (.int (D + 1)), some (.int k), some (.int (bk ss k (Cn (at' ds) (at' ss) k D))), none] H4
      refine ⟨_, rfl, _, rfl, sl, _, _, _, rfl, rfl, .of gs4, hatA, 1, rfl, a, _, rfl, .of gx, fun p hp => ?_⟩
      rw [List.map_cons, cut_tail]
      have s6 := same_upd (o := .lst ((bseg ss k (Cn (at' ds) (at' ss) k D + 1) (at' ss k + Cn (at' ds) (at' ss) (prv ds.length k : Nat) D)).map V.int)) hp
      have g6 : (upd H4 p (.lst ((bseg ss k (Cn (at' ds) (at' ss) k D + 1) (at' ss k + Cn (at' ds) (at' ss) (prv ds.length k : Nat) D)).map V.int))) p = some (.lst ((bseg ss k (Cn (at' ds) (at' ss) k D + 1) (at' ss k + Cn (at' ds) (at' ss) (prv ds.length k : Nat) D)).map V.int)) := upd_same
      have np : ∀ {x o}, H4 x = some o → x ≠ p := fun h => ne_of_none h hp
      generalize (upd H4 p (.lst ((bseg ss k (Cn (at' ds) (at' ss) k D + 1) (at' ss k + Cn (at' ds) (at' ss) (prv ds.length k : Nat) D)).map V.int))) = H5 at s6 g6
      refine ⟨(by show 2 ≤ sizeLine; decide), fun t2 ht2 => ?_⟩
      have s7 := same_upd (o := .tup [.ref p, .non]) ht2
      have g7 : (upd H5 t2 (.tup [.ref p, .non])) t2 = some (.tup [.ref p, .non]) := upd_same
      generalize (upd H5 t2 (.tup [.ref p, .non])) = H6 at s7 g7
      have s46 : Same H4 H6 := s6.trans s7
      refine ⟨t2, _, rfl, .of g7, rfl, _, _, rfl, ?_⟩
      refine ⟨_, rfl, _, rfl, sl, _, _, k, rfl, rfl, s46 _ _ gs4, ixN_nat (by rw [List.length_map]; omega), ?_⟩
      have nes : el ≠ sl := Ne.symm nse
      refine ⟨_, _, rfl, ?_⟩
      refine ⟨_, rfl, _, rfl, el, _, _, k, rfl, rfl, (upd_ne nes).trans (s46 _ _ ge4), ixN_nat (by rw [List.length_map, List.length_range]; omega), rfl, ?_⟩
      have kk : ∀ {x o}, H6 x = some o → x ≠ sl → x ≠ el → (upd (upd H6 sl (.lst ((ha.map V.ref).set k (.ref p)))) el (.lst (((List.range ds.length).map fun j => if j ∈ ks.take n then V.non else Ev ds ss D j).set k .non))) x = some o := fun h n1 n2 => by
        rw [upd_ne n2, upd_ne n1]
        exact h
      have fp : H p = none := same_none s5 hp
      refine ⟨⟨_, _, _, rfl⟩, fun x o h => kk (s46 _ _ (s5 _ _ h)) (ne_of_none h hsl) (ne_of_none h fel), kk (s46 _ _ gl4) nls nle, T4.mono fun b ys h => kk (s46 _ _ h) (ne_of h gs4 (by intro z; cases z)) (ne_of h ge4 (by intro z; cases z)), ?_, ha.set k p, ?_, by rw [List.length_set]; exact lha, ?_, fun b hb => ?_, fun j b hj => ?_⟩
      · rw [upd_same, rg_set kN]
        refine congrArg (fun f => some (HO.lst ((List.range ds.length).map f))) (funext fun j => ?_)
        by_cases e1 : j = k
        · subst e1
          rw [if_pos rfl, if_pos ((take_suc hk).mpr (.inr rfl))]
        · by_cases e2 : j ∈ ks.take n
          · rw [if_neg e1, if_pos e2, if_pos ((take_suc hk).mpr (.inl e2))]
          · rw [if_neg e1, if_neg e2, if_neg (fun z => ((take_suc hk).mp z).elim e2 e1)]
      · rw [upd_ne nse, upd_same, List.map_set]
      · exact nodup_set dha fun z => by
          obtain ⟨j, hj⟩ := List.getElem?_of_mem z
          exact np (oha j p hj) rfl
      · rcases List.mem_or_eq_of_mem_set hb with hb | rfl
        · exact fha b hb
        · exact ⟨fp, (np gs4).symm, (np ge4).symm, (np gl4).symm⟩
      · have hjN : j < ds.length := by
          have := (List.getElem?_eq_some_iff.mp hj).1
          rw [List.length_set] at this
          omega
        by_cases e1 : j = k
        · subst e1
          rw [List.getElem?_set_self (by omega)] at hj
          cases hj
          rw [if_pos ((take_suc hk).mpr (.inr rfl))]
          exact kk (s7 _ _ g6) (np gs4).symm (np ge4).symm
        · rw [List.getElem?_set_ne (Ne.symm e1)] at hj
          have fb := fha b (List.mem_of_getElem? hj)
          have ob := kk (s46 _ _ (oha j b hj)) fb.2.1 fb.2.2.1
          by_cases e2 : j ∈ ks.take n
          · rw [if_pos e2] at ob
            rw [if_pos ((take_suc hk).mpr (.inl e2))]
            exact ob
          · rw [if_neg e2] at ob
            rw [if_neg (fun z => ((take_suc hk).mp z).elim e2 e1)]
            exact ob
    rintro σ H4 ⟨⟨z7, z8, z9, rfl⟩, s5, gl4, T4, ge4, ha, gs4, lha, dha, fha, oha⟩
    rw [lks, List.take_length] at ge4 oha
    have cnow : ∀ j, j < ds.length → (if j ∈ ks then Cn (at' ds) (at' ss) j D + 1 else Cn (at' ds) (at' ss) j D) = Cn (at' ds) (at' ss) j (D + 1) := fun j hj => by
      by_cases e : j ∈ ks
      · rw [if_pos e, (ends_now RR hj d0 (km.mp e).2).1]
      · rw [if_neg e, (ends_not RR d0 (fun z => e (km.mpr ⟨hj, z⟩))).1]
    have efv : ((List.range ds.length).map fun j => if j ∈ ks then .non else Ev ds ss D j) = (List.range ds.length).map (Fv ds ss (D + 1)) := by
      refine List.map_congr_left fun j hj => ?_
      have hj := List.mem_range.mp hj
      by_cases e : j ∈ ks
      · rw [if_pos e, (ends_now RR hj d0 (km.mp e).2).2.2.2]
      · rw [if_neg e, (ends_not RR d0 (fun z => e (km.mpr ⟨hj, z⟩))).2.2]
    rw [efv] at ge4
    -- they come to the next readers
    refine ⟨_, rfl, le, rfl, ⟨_, .of gl4⟩, for_list (K := K) (a := le) (xs := xs) (fun n σ H' => (∃ z7 z8 z9, σ = [some (.ref m), some (.int D), some (.ref sl), some (.ref el), some (.ref td), some (.int ss.sum), some (.ref le), z7, z8, z9, none]) ∧ Same H H' ∧ H' le = some (.lst xs) ∧ Tups H' xs (Ke ds ss D) ∧
      H' el = some (.lst ((List.range ds.length).map (Fv ds ss (D + 1)))) ∧ H' sl = some (.lst (ha.map V.ref)) ∧
        ∀ (j : Nat) (a : Addr), ha[j]? = some a → H' a = some (.lst ((bseg ss j (Cn (at' ds) (at' ss) j (D + 1)) (at' ss j + (if prv ds.length j ∈ ks.take n then Cn (at' ds) (at' ss) (prv ds.length j : Nat) D + 1 else Cn (at' ds) (at' ss) (prv ds.length j : Nat) D))).map V.int)))
      ⟨⟨_, _, _, rfl⟩, s5, gl4, T4, ge4, gs4, fun j a h => ?_⟩ (fun i σ H' _ p => .of p.2.2.1) ?_ ?_⟩
    · have hj : j < ds.length := by rw [← lha]; exact (List.getElem?_eq_some_iff.mp h).1
      rw [oha j a h, cnow j hj]
      simp
    · rintro n x σ H5 hx ⟨⟨z7, z8, z9, rfl⟩, s6, gl5, T5, ge5, gs5, oh5⟩
      have hn : n < xs.length := (List.getElem?_eq_some_iff.mp hx).1
      obtain ⟨k, hk⟩ : ∃ k, ks[n]? = some k := ⟨_, List.getElem?_eq_getElem (by omega)⟩
      obtain ⟨t, a1, a2⟩ := rec_at T5 hk
      rw [a1] at hx
      cases hx
      obtain ⟨kN, kE⟩ := km.mp (List.mem_of_getElem? hk)
      have hnot := take_mem kn hk
      have xN := nx_lt kN
      obtain ⟨a, ga⟩ : ∃ a, ha[Rp.nx ds.length k]? = some a := ⟨_, List.getElem?_eq_getElem (by rw [lha]; exact xN)⟩
      have am := List.mem_of_getElem? ga
      have gx := oh5 _ a ga
      rw [prv_nx kN, if_neg hnot] at gx
      have hatA : atI (ha.map V.ref) (((k : Int) + 1) % (ds.length : Int)) = some (.ref a) := by
        rw [nx_mod kN]
        exact atI_nat (by rw [List.getElem?_map, ga]; rfl)
      have htd5 := s6 _ _ htd
      refine ⟨t, _, rfl, .of a2, rfl, _, _, rfl, _, _, rfl, _, _, rfl, rfl, ?_⟩
      show tDrop _ _ [some (.ref m), some (.int D), some (.ref sl), some (.ref el), some (.ref td), some (.int ss.sum), some (.ref le), some (.int (D + 1)), some (.int k), some (.int (bk ss k (Cn (at' ds) (at' ss) k D))), none] H5
      have q1 := s12 (Rp.nx ds.length k : Nat)
      have q2 := cn_le RR (j := (k : Nat)) d0
      have q3 := (RR.cn (Rp.nx ds.length k : Nat) (D + 1)).1
      have hle2 : Cn (at' ds) (at' ss) (Rp.nx ds.length k : Nat) (D + 1) ≤ at' ss (Rp.nx ds.length k : Nat) + Cn (at' ds) (at' ss) k D := by
        have h1 := cnow _ xN
        have h2 := cn_mono RR ((Rp.nx ds.length k : Nat) : Int) (show D + 1 ≤ D + at' ds (Rp.nx ds.length k : Nat) by have := RR.d1 ((Rp.nx ds.length k : Nat) : Int); omega)
        have h3 := cn_cap RR ((Rp.nx ds.length k : Nat) : Int) D
        rw [← Cn_prv RR xN, prv_nx kN] at h3
        omega
      refine ⟨_, rfl, _, rfl, _, _, rfl, rfl, .inl ⟨_, rfl, _, rfl, td, _, rfl, .inr (.of htd5), _, _, rfl, rfl, by rw [List.length_map]; show (0 : Int) < ((ds.length : Nat) : Int); omega, ?_⟩⟩
      rw [List.length_map]
      refine ⟨sl, _, _, _, rfl, rfl, .of gs5, hatA, .inl ⟨rfl, _, SqL.of gx⟩, _, rfl, a, _, _, rfl, rfl, gx, ?_, ?_⟩
      · rw [List.length_map, bseg_length, sizeLine_eq]
        omega
      · have fa := fha a am
        refine ⟨⟨_, _, _, rfl⟩, fun x o h => by rw [upd_ne (ne_of_none h fa.1)]; exact s6 _ _ h, by rw [upd_ne fa.2.2.2.symm]; exact gl5, T5.mono fun b ys h => by rw [upd_ne (ne_of h gx (by intro z; cases z))]; exact h, by rw [upd_ne fa.2.2.1.symm]; exact ge5, by rw [upd_ne fa.2.1.symm]; exact gs5, fun j b hj => ?_⟩
        have hjN : j < ds.length := by rw [← lha]; exact (List.getElem?_eq_some_iff.mp hj).1
        by_cases e1 : j = Rp.nx ds.length k
        · subst e1
          rw [ga] at hj
          cases hj
          rw [upd_same, prv_nx kN, if_pos ((take_suc hk).mpr (.inr rfl)), show at' ss (Rp.nx ds.length k : Nat) + (Cn (at' ds) (at' ss) k D + 1) = at' ss (Rp.nx ds.length k : Nat) + Cn (at' ds) (at' ss) k D + 1 by omega, bseg_snoc hle2, bk_comes RR ls kN (RR.cn k D).1, List.map_append]
          rfl
        · have hb : b ≠ a := fun z => by
            subst z
            exact e1 (nd_ix dha hj ga)
          have hp : prv ds.length j ≠ k := fun z => e1 (prv_inj hjN kN z)
          rw [upd_ne hb, oh5 j b hj]
          by_cases e2 : prv ds.length j ∈ ks.take n
          · rw [if_pos e2, if_pos ((take_suc hk).mpr (.inl e2))]
          · rw [if_neg e2, if_neg (fun z => ((take_suc hk).mp z).elim e2 hp)]
    rintro σ H5 ⟨⟨z7, z8, z9, rfl⟩, s6, gl5, T5, ge5, gs5, oh5⟩
    rw [lks, List.take_length] at oh5
    have htd5 := s6 _ _ htd
    refine ⟨_, rfl, _, _, rfl, rfl, _, rfl, _, rfl, _, rfl, _, rfl, (by show 5 ≤ sizeLine; decide), fun m1 hm1 => ?_⟩
    have s7 := same_upd (o := .lst [.int (D + 1), .ref sl, .ref el, .ref td, .int ss.sum]) hm1
    refine ⟨m1, sl, el, td, ha, ds, ss, D + 1, rfl, ⟨upd_same, s7 _ _ gs5, lha, s7 _ _ ge5, s7 _ _ htd5, fun j a h => ?_⟩, G, by omega, fun H8 m2 el2 s8 M8 f1 f2 => ?_⟩
    · have hj : j < ds.length := by rw [← lha]; exact (List.getElem?_eq_some_iff.mp h).1
      rw [s7 _ _ (oh5 j a h), cnow _ (prv_lt hj)]
      rfl
    · refine ⟨_, rfl, (by show 2 ≤ sizeLine; decide), fun t ht => ?_⟩
      have s9 := same_upd (o := .tup [.ref m2, .ref le]) ht
      have s59 := (s7.trans s8).trans s9
      exact q _ t m2 le xs sl el2 ha (s6.trans s59) upd_same (M8.same s9) (same_none (s6.trans s7) f1) hsl (same_none (s6.trans s7) f2) (fun a h => (fha a h).1) (s59 _ _ gl5) fle (T5.mono fun b ys h => s59 _ _ h)
end
end Rp
/-! The first six ends of each reader, by the law's own model. -/
namespace Rp
open PySem PySem.Spec PyProof.Rows L2 Rz Rm
theorem sum_upto {f : Int → Int} {c : Int} (h : ∀ i, f i ≤ c) (r : Int) : ∀ n : Nat, sumBack f r n ≤ n * c
  | 0 => by simp [sumBack]
  | n + 1 => by
    have h1 := sum_upto h r n
    have h2 := h (r - n)
    have e : ((n + 1 : Nat) : Int) * c = n * c + c := by rw [show ((n + 1 : Nat) : Int) = (n : Int) + 1 by omega, Int.add_mul, Int.one_mul]
    unfold sumBack
    omega
/-- the days on which the first readings end -/
noncomputable def rowE (ds ss : List Int) (j : Nat) (c : Int) : List Int := (List.range c.toNat).map fun (i : Nat) => Rm.E (at' ds) (at' ss) j (i : Int)
theorem rowE_snoc {ds ss : List Int} {j : Nat} {c : Int} (h : 0 ≤ c) : rowE ds ss j (c + 1) = rowE ds ss j c ++ [Rm.E (at' ds) (at' ss) j c] := by
  unfold rowE
  rw [show (c + 1).toNat = c.toNat + 1 by omega, List.range_succ, List.map_append]
  show _ ++ [Rm.E (at' ds) (at' ss) j ((c.toNat : Nat) : Int)] = _
  rw [show ((c.toNat : Nat) : Int) = c by omega]
theorem rowE_len (ds ss : List Int) (j : Nat) (c : Int) : (rowE ds ss j c).length = c.toNat := by
  unfold rowE
  rw [List.length_map, List.length_range]
theorem rowE_get {ds ss : List Int} {j n : Nat} {c : Int} (h : (n : Int) < c) : (rowE ds ss j c)[n]? = some (Rm.E (at' ds) (at' ss) j n) := by
  unfold rowE
  rw [List.getElem?_map, List.getElem?_range (by omega)]
  rfl
theorem cut_six {ds ss : List Int} {j : Nat} {c : Int} (h : 6 ≤ c) : cutV ((rowE ds ss j c).map V.int) none (some 6) = (rowE ds ss j 6).map V.int := by
  unfold cutV
  have e0 : HT.sIx ((rowE ds ss j c).map V.int).length ((rowE ds ss j c).map V.int).length (some (6 : Int)) = 6 := by
    have := HT.sIx_nat ((rowE ds ss j c).map V.int).length ((rowE ds ss j c).map V.int).length 6
    rw [show (6 : Int) = ((6 : Nat) : Int) from rfl, this, List.length_map, rowE_len]
    omega
  rw [e0, HT.sIx_none, List.drop_zero, ← List.map_take]
  unfold rowE
  rw [← List.map_take, List.take_range]
  rw [show min (6 - 0) c.toNat = (6 : Int).toNat by omega]
section
variable {ds ss : List Int} {M : Int} (RR : Rm.Ring ds.length (at' ds) (at' ss) ss.sum ds.sum M)
include RR
theorem E_le (h30 : ∀ i, at' ds i ≤ 30) (r : Int) {x : Int} (hx : 0 ≤ x) : Rm.E (at' ds) (at' ss) r x ≤ 30 * (((x.toNat + 1) * ds.length : Nat) : Int) + x * 30 := by
  obtain ⟨k, h1, h2⟩ := RR.att r hx
  have hk : k < (x.toNat + 1) * ds.length := by
    rcases Nat.lt_or_ge k ((x.toNat + 1) * ds.length) with z | z
    · exact z
    · have a1 := sum_mono RR.s0 r z
      have a2 := RR.sumS r 0 (x.toNat + 1)
      rw [Nat.zero_add] at a2
      have a3 : ((x.toNat + 1 : Nat) : Int) * 1 ≤ ((x.toNat + 1 : Nat) : Int) * ss.sum := Int.mul_le_mul_of_nonneg_left RR.b1 (by omega)
      have a4 : sumBack (at' ss) r 0 = 0 := rfl
      omega
  have h3 := sum_upto h30 r (k + 1)
  have h4 := max_le h30 r k
  have h5 := sum_nn RR.s0 r k
  have h6 : (x - sumBack (at' ss) r k) * maxBack (at' ds) r k ≤ x * 30 := by
    have b1 : (x - sumBack (at' ss) r k) * maxBack (at' ds) r k ≤ (x - sumBack (at' ss) r k) * 30 := Int.mul_le_mul_of_nonneg_left h4 (by omega)
    have b2 : (x - sumBack (at' ss) r k) * 30 ≤ x * 30 := by omega
    omega
  rw [← h2]
  unfold ch
  have h7 : ((k + 1 : Nat) : Int) * 30 ≤ 30 * (((x.toNat + 1) * ds.length : Nat) : Int) := by omega
  omega
end
section
variable {P : Program} {w : World} {K : PySem.W.Frag} {mg : Str → Option Value} {base : Heap}
def rLenQ (K : PySem.W.Frag) : List V → Hp → VK → Prop := fun vs H Q => ∃ a xs, vs = [V.ref a] ∧ (SqL K H a xs ∨ SqT K H a xs) ∧ Q (.int (xs.length : Nat)) H
theorem call_lenQ {X : Cx} : CallR X (.builtin "len") (rLenQ X.K) := by
  intro pins s σ H vs us Q I r h
  exact call_len_seq pins s σ H vs us Q I r h
def spEnds : Sp := fun vs H Q _ => ∃ (td ts : Addr) (ds ss : List Int), vs = [.ref td, .ref ts] ∧ H td = some (.tup (ds.map V.int)) ∧ H ts = some (.tup (ss.map V.int)) ∧ Good ds ss ∧
  ∀ (H' : Hp) (l : Addr) (la : List Addr), Same H H' → H' l = some (.lst (la.map V.ref)) → la.length = ds.length → (∀ (j : Nat) (a : Addr), la[j]? = some a → H' a = some (.lst ((rowE ds ss j 6).map V.int))) → Q (.ref l) H'
theorem ok_ends (T : Tx K mg) : FnOk P w K mg base CX0 4 T.a_lends T.d_lends P_lends spEnds := by
  refine T.F_lends.ok sc_lends (fun vs H Q E h => ?_) (fun cdv A outer s H vs Q E hr h => ?_)
  · obtain ⟨td, ts, ds, ss, rfl, _⟩ := h
    rfl
  · obtain ⟨td, ts, ds, ss, rfl, htd, hts, G, q⟩ := h
    have nd := sc_lends.nd
    refine ⟨_, pss_cons (ps_par (i := 2) (j := 3) rfl nd rfl rfl (by decide) rfl rfl (pa_cons (pe_call (ok_fst T) hr (by rfl) T.g_lfirst T.F_lfirst.kp T.b_lfirst .nil pass0 (pa_cons (pv 0) (pa_cons (pv 1) pa_nil)))
        (pa_cons (pe_lc (own := [("_law_reader", 6)]) rfl nd (pi_tup (pv 0)) (blkOk_by (N := N_lends) (sc := defScope s_lends) (by decide +kernel)) (fun _ _ _ _ _ => pg_name (i := 6) nd rfl (.inl rfl)) (fun _ _ _ _ _ => pts_nil) (fun _ _ _ _ _ => pe_lst pa_nil)) pa_nil)) rfl)
      (pss_cons (ps_while PassesOwn.never (pt_cmpR op_lt (pe_callB (cr_min rfl) (by rfl) T.z_min (by decide +kernel) (pa_cons (pe_lc (own := [("_law_row", 8)]) rfl nd (pi_list (pv 3)) (blkOk_by (N := N_lends) (sc := defScope s_lends) (by decide +kernel)) (fun _ _ _ _ _ => pg_name (i := 8) nd rfl (.inl rfl)) (fun _ _ _ _ _ => pts_nil)
            (fun _ _ _ _ _ => pe_callB (r := rLenQ K) call_lenQ (by rfl) T.z_len PySem.boot_len (pa_cons (pv 8) pa_nil))) pa_nil)) pe_int (nomark _))
        (pss_cons (ps_asg (pe_call (ok_nxt T) hr (by rfl) T.g_lnext T.F_lnext.kp T.b_lnext .nil pass0 (pa_cons (pv 2) pa_nil)) (pg_tup rfl (pgs_cons (pg_name (i := 2) nd rfl (.inl rfl)) (pgs_cons (pg_name (i := 4) nd rfl (.inl rfl)) pgs_nil))))
        (pss_one (ps_for PassesOwn.never rfl (pi_list (pv 4)) (pg_tup rfl (pgs_cons (pg_name (i := 5) nd rfl (.inl rfl)) (pgs_cons (pg_name (i := 6) nd rfl (.inl rfl)) (pgs_cons (pg_name (i := 7) nd rfl (.inl rfl)) pgs_nil))))
          (pss_one (ps_expr (pe_bm PySem.F.plainAttrs_list PySem.F.slot_list_append PySem.F.type_list_append mt_append (pe_ix ix_list (pv 3) (pv 6) (fun _ _ => rfl)) (pa_cons (pv 5) pa_nil))))))))
      (pss_one (ps_ret (pe_lc (own := [("_law_row", 8)]) rfl nd (pi_list (pv 3)) (blkOk_by (N := N_lends) (sc := defScope s_lends) (by decide +kernel)) (fun _ _ _ _ _ => pg_name (i := 8) nd rfl (.inl rfl)) (fun _ _ _ _ _ => pts_nil) (fun _ _ _ _ _ => pe_slice (r := rSlL K) sl_list (pv 8) po_none (po_some pe_int)))))), ?_⟩
    obtain ⟨M, hM, hMu⟩ := G.max
    have RR := G.ring hM hMu
    have l2 := G.l2
    have l8 := G.l8
    have ls := G.ls
    have h30 : ∀ i, at' ds i ≤ 30 := fun i => (G.d1 _ (at_mem (by omega) i)).2
    have hb5 : ∀ j : Nat, Rm.E (at' ds) (at' ss) j 5 ≤ 2000 := fun j => by
      have h1 := E_le RR h30 j (x := 5) (by decide)
      have h2 : ((((5 : Int).toNat + 1) * ds.length : Nat) : Int) ≤ 48 := by
        have : (5 : Int).toNat = 5 := rfl
        rw [this]
        omega
      omega
    refine ⟨_, rfl, _, rfl, td, ts, ds, ss, rfl, htd, hts, G, fun H1 m s1 M1 => ?_⟩
    have htd1 := s1 _ _ htd
    refine ⟨_, rfl, td, rfl, ⟨_, .of htd1⟩, fun rl hrl => ?_⟩
    refine lc_tup (xs := ds.map V.int) (fun i H' => Same H1 H' ∧ ∃ ra : List Addr, H' rl = some (.lst (ra.map V.ref)) ∧ ra.length = i ∧ ra.Nodup ∧ (∀ a ∈ ra, H1 a = none ∧ a ≠ rl) ∧ ∀ (j : Nat) (a : Addr), ra[j]? = some a → H' a = some (.lst []))
      ⟨same_upd hrl, [], upd_same, rfl, List.nodup_nil, fun a h => absurd h List.not_mem_nil, fun j a h => by simp at h⟩ (fun i H' _ p => .of (p.1 _ _ htd1)) ?_ ?_
    · rintro i x H2 hx ⟨s2, ra, gr, lra, dra, fra, ora⟩
      have hi : i < ds.length := by
        have := (List.getElem?_eq_some_iff.mp hx).1
        rwa [List.length_map] at this
      refine ⟨?_, lc_keep ⟨Nat.zero_le _, fun L hL => ?_⟩⟩
      · show ((wipe _ [6]).set 6 (some x)).set 6 none = _
        rw [List.set_set]
        rfl
      have s3 := same_upd (o := .lst []) hL
      have nL : L ≠ rl := (ne_of_none gr hL).symm
      refine ⟨_, s3 _ _ gr, by rw [List.length_map]; exact small1000 (by omega), fun x o h => ?_, ra ++ [L], by rw [upd_same, List.map_append]; rfl, by rw [List.length_append, lra]; rfl, nodup_snoc dra fun z => ?_, fun a h => ?_, fun j a h => ?_⟩
      · rw [upd_ne (ne_of_none h hrl)]
        exact s3 _ _ (s2 _ _ h)
      · obtain ⟨j, hj⟩ := List.getElem?_of_mem z
        have := ora j L hj
        rw [hL] at this
        cases this
      · rcases List.mem_append.mp h with h | h
        · exact fra a h
        · have := List.mem_singleton.mp h
          subst this
          exact ⟨same_none s2 hL, nL⟩
      · rcases get_snoc h with h | ⟨h1, rfl⟩
        · rw [upd_ne (fra a (List.mem_of_getElem? h)).2]
          exact s3 _ _ (ora j a h)
        · rw [upd_ne nL, upd_same]
    rintro H2 ⟨s2, ra, gr, lra, dra, fra, ora⟩
    rw [List.length_map] at lra
    have frl := same_none s1 hrl
    have fra0 : ∀ a ∈ ra, H a = none ∧ a ≠ rl := fun a h => ⟨same_none s1 (fra a h).1, (fra a h).2⟩
    refine ⟨_, _, rfl, ?_⟩
    show tSeq _ _ _ [some (.ref td), some (.ref ts), some (.ref m), some (.ref rl), none, none, none, none, none] H2
    obtain ⟨Wv, hWv⟩ : ∃ Wv : Nat → L2.St → Hp → Prop, Wv = fun mm σ H' => ∃ (D : Int) (m : Addr) (z4 z5 z6 z7 : Option V), mm = (2001 - D).toNat ∧ σ = [some (.ref td), some (.ref ts), some (.ref m), some (.ref rl), z4, z5, z6, z7, none] ∧ Same H H' ∧ MAt H' m td ds ss D ∧ 0 ≤ D ∧ D ≤ 2000 ∧
      H' rl = some (.lst (ra.map V.ref)) ∧ ∀ (j : Nat) (a : Addr), ra[j]? = some a → H' a = some (.lst ((rowE ds ss j (Cn (at' ds) (at' ss) j D)).map V.int)) := ⟨_, rfl⟩
    refine ⟨Wv, ⟨(2001 - 0 : Int).toNat, ?_⟩, ?_⟩
    · rw [hWv]
      refine ⟨0, m, none, none, none, none, rfl, rfl, s1.trans s2, M1.same s2, Int.le_refl _, by decide, gr, fun j a h => ?_⟩
      rw [ora j a h, z_first RR]
      rfl
    intro mm σ H3 hW
    rw [hWv] at hW
    obtain ⟨D, m, z4, z5, z6, z7, rfl, rfl, s3, M3, d0, d1, gr3, or3⟩ := hW
    -- the shortest
    refine ⟨_, rfl, rl, rfl, ⟨_, .of gr3⟩, fun L hL => ?_⟩
    refine lc_list (xs := ra.map V.ref) (fun i H' => Same H3 H' ∧ H' L = some (.lst ((List.range i).map fun (j : Nat) => V.int (Cn (at' ds) (at' ss) j D))))
      ⟨same_upd hL, upd_same⟩ (fun i H' _ p => .of (p.1 _ _ gr3)) ?_ ?_
    · rintro i x H4 hx ⟨s4, g4⟩
      rw [List.getElem?_map] at hx
      cases ea : ra[i]? with
      | none => rw [ea] at hx; cases hx
      | some a =>
        rw [ea] at hx
        cases hx
        have hi : i < ds.length := by rw [← lra]; exact (List.getElem?_eq_some_iff.mp ea).1
        refine ⟨rfl, lc_keep ?_⟩
        refine ⟨_, rfl, a, _, rfl, .inl (.of (s4 _ _ (or3 i a ea))), _, g4, by rw [List.length_map, List.length_range]; exact small1000 (by omega), fun x o h => ?_, ?_⟩
        · rw [upd_ne (ne_of_none h hL)]
          exact s4 _ _ h
        · rw [upd_same, List.length_map, rowE_len, show (((Cn (at' ds) (at' ss) i D).toNat : Nat) : Int) = Cn (at' ds) (at' ss) i D by have := (RR.cn i D).1; omega]
          rw [rg_snoc i (fun (j : Nat) => V.int (Cn (at' ds) (at' ss) j D))]
    rintro H4 ⟨s4, g4⟩
    rw [List.length_map, lra] at g4
    have s04 : Same H H4 := s3.trans s4
    have eL : ((List.range ds.length).map fun (j : Nat) => V.int (Cn (at' ds) (at' ss) j D)) = (((List.range ds.length).map fun (j : Nat) => Cn (at' ds) (at' ss) j D).map V.int) := by
      rw [List.map_map]
      rfl
    rw [eL] at g4
    refine ⟨L, _, rfl, .of g4, by rw [List.length_map, List.length_range]; omega, fun mn hm hmn => ?_⟩
    refine ⟨_, _, rfl, rfl, _, rfl, ?_⟩
    by_cases hlt : mn < 6
    · rw [decide_eq_true hlt]
      show if true = true then _ else _
      rw [if_pos rfl]
      obtain ⟨j0, hj0, ej0⟩ := List.mem_map.mp hm
      have hj0 := List.mem_range.mp hj0
      have hD : D < 2000 := by
        rcases Int.lt_or_le D 2000 with z | z
        · exact z
        · have := cn_ge RR j0 (x := 5) (by decide) (Int.le_trans (hb5 j0) z)
          omega
      refine ⟨fun σ' H' => Wv (2001 - (D + 1)).toNat σ' H', fun σ' H' h => ⟨_, by omega, h⟩, ?_⟩
      refine ⟨_, rfl, m, td, ds, ss, D, rfl, M3.same s4, G, d0, by omega, fun H5 t m2 le xs sl2 el2 ha2 s5 gt M5 n1 n2 n3 n4 gle fle T5 => ?_⟩
      refine ⟨t, _, rfl, .of gt, rfl, _, _, rfl, _, _, rfl, rfl, ?_⟩
      have s05 : Same H H5 := s04.trans s5
      have fle0 : H le = none := same_none s04 fle
      have lks : xs.length = (Kx ds ss D ds.length).length := by rw [T5.length]; unfold Ke; rw [List.length_map]
      have kn := kx_nodup (ds := ds) (ss := ss) (D := D) (n := ds.length)
      have km : ∀ {k}, k ∈ Kx ds ss D ds.length ↔ k < ds.length ∧ Kd ds ss D k = true := kx_mem
      have eKe : Ke ds ss D = (Kx ds ss D ds.length).map (rec ds ss D) := rfl
      obtain ⟨ks, hks⟩ : ∃ ks, ks = Kx ds ss D ds.length := ⟨_, rfl⟩
      rw [← hks] at kn km lks eKe
      have rec_at : ∀ {H' : Hp} {n : Nat} {k : Nat}, Tups H' xs (Ke ds ss D) → ks[n]? = some k → ∃ t, xs[n]? = some (.ref t) ∧ H' t = some (.tup [.int (D + 1), .int k, .int (bk ss k (Cn (at' ds) (at' ss) k D))]) := fun {H' n k} h e => by
        obtain ⟨t, h1, h2⟩ := h.get (i := n) (l := rec ds ss D k) (by rw [eKe, List.getElem?_map, e]; rfl)
        exact ⟨t, h1, h2⟩
      have gr5 := s5 _ _ (s4 _ _ gr3)
      have or5 : ∀ (j : Nat) (a : Addr), ra[j]? = some a → H5 a = some (.lst ((rowE ds ss j (Cn (at' ds) (at' ss) j D)).map V.int)) := fun j a h => s5 _ _ (s4 _ _ (or3 j a h))
      have nlr : le ≠ rl := (ne_of_none (s4 _ _ gr3) fle).symm
      have nla : ∀ a ∈ ra, a ≠ le := fun a h => by
        obtain ⟨j, hj⟩ := List.getElem?_of_mem h
        exact ne_of_none (s4 _ _ (or3 j a hj)) fle
      -- M5 does not reach what is written: it was made anew
      refine ⟨_, rfl, le, rfl, ⟨_, .of gle⟩, for_list (K := K) (a := le) (xs := xs) (fun n σ H' => (∃ z5 z6 z7, σ = [some (.ref td), some (.ref ts), some (.ref m2), some (.ref rl), some (.ref le), z5, z6, z7, none]) ∧ Same H H' ∧ (∀ x o, H5 x = some o → x ∉ ra → H' x = some o) ∧
        ∀ (j : Nat) (a : Addr), ra[j]? = some a → H' a = some (.lst ((rowE ds ss j (if j ∈ ks.take n then Cn (at' ds) (at' ss) j D + 1 else Cn (at' ds) (at' ss) j D)).map V.int)))
        ⟨⟨_, _, _, rfl⟩, s05, fun x o h _ => h, fun j a h => by rw [or5 j a h]; simp⟩ (fun i σ H' _ p => .of (p.2.2.1 _ _ gle fun z => nla _ z rfl)) ?_ ?_⟩
      · rintro n x σ H6 hx ⟨⟨z5, z6, z7, rfl⟩, s6, kp6, or6⟩
        have hn : n < xs.length := (List.getElem?_eq_some_iff.mp hx).1
        obtain ⟨k, hk⟩ : ∃ k, ks[n]? = some k := ⟨_, List.getElem?_eq_getElem (by omega)⟩
        obtain ⟨t, a1, a2⟩ := rec_at T5 hk
        rw [a1] at hx
        cases hx
        obtain ⟨kN, kE⟩ := km.mp (List.mem_of_getElem? hk)
        have hnot := take_mem kn hk
        have ee := of_decide_eq_true kE
        obtain ⟨a, ga⟩ : ∃ a, ra[k]? = some a := ⟨_, List.getElem?_eq_getElem (by rw [lra]; exact kN)⟩
        have am := List.mem_of_getElem? ga
        have gx := or6 k a ga
        rw [if_neg hnot] at gx
        have nat : ∀ {b : Addr} {ys : List V}, H5 b = some (.tup ys) → b ∉ ra := fun {b ys} h z => by
          obtain ⟨j, hj⟩ := List.getElem?_of_mem z
          rw [or5 j b hj] at h
          cases h
        have gr6 := kp6 _ _ gr5 fun z => (fra0 _ z).2 rfl
        have hatA : atI (ra.map V.ref) (k : Int) = some (.ref a) := atI_nat (by rw [List.getElem?_map, ga]; rfl)
        have q2 := cn_le RR (j := (k : Nat)) d0
        refine ⟨t, _, rfl, .of (kp6 _ _ a2 (nat a2)), rfl, _, _, rfl, _, _, rfl, _, _, rfl, rfl, ?_⟩
        show tDrop _ _ [some (.ref td), some (.ref ts), some (.ref m2), some (.ref rl), some (.ref le), some (.int (D + 1)), some (.int k), some (.int (bk ss k (Cn (at' ds) (at' ss) k D))), none] H6
        refine ⟨_, rfl, _, rfl, rl, _, _, _, rfl, rfl, .of gr6, hatA, .inl ⟨rfl, _, SqL.of gx⟩, _, rfl, a, _, _, rfl, rfl, gx, ?_, ?_⟩
        · rw [List.length_map, rowE_len, sizeLine_eq]
          omega
        · refine ⟨⟨_, _, _, rfl⟩, fun x o h => by rw [upd_ne (ne_of_none h (fra0 _ am).1)]; exact s6 _ _ h, fun x o h nx => by
            have hne : x ≠ a := fun z => nx (by rw [z]; exact am)
            rw [upd_ne hne]
            exact kp6 _ _ h nx, fun j b hj => ?_⟩
          by_cases e1 : j = k
          · subst e1
            rw [ga] at hj
            cases hj
            rw [upd_same, if_pos ((take_suc hk).mpr (.inr rfl)), rowE_snoc (RR.cn j D).1, List.map_append, ee]
            rfl
          · have hb : b ≠ a := fun z => by
              subst z
              exact e1 (nd_ix dra hj ga)
            rw [upd_ne hb, or6 j b hj]
            by_cases e2 : j ∈ ks.take n
            · rw [if_pos e2, if_pos ((take_suc hk).mpr (.inl e2))]
            · rw [if_neg e2, if_neg (fun z => ((take_suc hk).mp z).elim e2 e1)]
      · rintro σ H6 ⟨⟨z5, z6, z7, rfl⟩, s6, kp6, or6⟩
        rw [lks, List.take_length] at or6
        show Wv _ _ _
        rw [hWv]
        refine ⟨D + 1, m2, _, _, _, _, rfl, rfl, s6, ?_, by omega, by omega, kp6 _ _ gr5 fun z => (fra0 _ z).2 rfl, fun j a h => ?_⟩
        · obtain ⟨b1, b2, b3, b4, b5, b6⟩ := M5
          have nin : ∀ {x : Addr}, H4 x = none → x ∉ ra := fun {x} h z => by
            obtain ⟨j, hj⟩ := List.getElem?_of_mem z
            have := s4 _ _ (or3 j x hj)
            rw [h] at this
            cases this
          refine ⟨sl2, el2, ha2, kp6 _ _ b1 (nin n1), kp6 _ _ b2 (nin n2), b3, kp6 _ _ b4 (nin n3), kp6 _ _ b5 fun z => ?_, fun j a h => kp6 _ _ (b6 j a h) (nin (n4 a (List.mem_of_getElem? h)))⟩
          have := (fra0 _ z).1
          rw [htd] at this
          cases this
        · have hj : j < ds.length := by rw [← lra]; exact (List.getElem?_eq_some_iff.mp h).1
          rw [or6 j a h]
          by_cases e : j ∈ ks
          · rw [if_pos e, (ends_now RR hj d0 (km.mp e).2).1]
          · rw [if_neg e, (ends_not RR d0 (fun z => e (km.mpr ⟨hj, z⟩))).1]
    · rw [decide_eq_false hlt]
      show if false = true then _ else _
      rw [if_neg Bool.false_ne_true]
      have h6 : ∀ j, j < ds.length → 6 ≤ Cn (at' ds) (at' ss) (j : Nat) D := fun j hj => by
        have := hmn _ (List.mem_map.mpr ⟨j, List.mem_range.mpr hj, rfl⟩)
        omega
      have gr4 := s4 _ _ gr3
      have or4 : ∀ (j : Nat) (a : Addr), ra[j]? = some a → H4 a = some (.lst ((rowE ds ss j (Cn (at' ds) (at' ss) j D)).map V.int)) := fun j a h => s4 _ _ (or3 j a h)
      refine ⟨_, rfl, rl, rfl, ⟨_, .of gr4⟩, fun l hl => ?_⟩
      refine lc_list (xs := ra.map V.ref) (fun i H' => Same H4 H' ∧ ∃ la : List Addr, H' l = some (.lst (la.map V.ref)) ∧ la.length = i ∧ ∀ (j : Nat) (a : Addr), la[j]? = some a → a ≠ l ∧ H' a = some (.lst ((rowE ds ss j 6).map V.int)))
        ⟨same_upd hl, [], upd_same, rfl, fun j a h => by simp at h⟩ (fun i H' _ p => .of (p.1 _ _ gr4)) ?_ ?_
      · rintro i x H5 hx ⟨s5, la, gl, lla, ola⟩
        rw [List.getElem?_map] at hx
        cases ea : ra[i]? with
        | none => rw [ea] at hx; cases hx
        | some a =>
          rw [ea] at hx
          cases hx
          have hi : i < ds.length := by rw [← lra]; exact (List.getElem?_eq_some_iff.mp ea).1
          refine ⟨rfl, lc_keep ?_⟩
          refine ⟨_, rfl, 6, rfl, a, _, rfl, .of (s5 _ _ (or4 i a ea)), fun p hp => ?_⟩
          rw [cut_six (h6 i hi)]
          have s6 := same_upd (o := .lst ((rowE ds ss i 6).map V.int)) hp
          have np : p ≠ l := (ne_of_none gl hp).symm
          refine ⟨_, s6 _ _ gl, by rw [List.length_map]; exact small1000 (by omega), fun x o h => ?_, la ++ [p], by rw [upd_same, List.map_append]; rfl, by rw [List.length_append, lla]; rfl, fun j b hj => ?_⟩
          · rw [upd_ne (ne_of_none h hl)]
            exact s6 _ _ (s5 _ _ h)
          · rcases get_snoc hj with h | ⟨h1, rfl⟩
            · obtain ⟨n1, h1⟩ := ola j b h
              rw [upd_ne n1]
              exact ⟨n1, s6 _ _ h1⟩
            · rw [upd_ne np, upd_same, h1, lla]
              exact ⟨np, rfl⟩
      · rintro H5 ⟨s5, la, gl, lla, ola⟩
        rw [List.length_map, lra] at lla
        exact q H5 l la (s04.trans s5) gl lla fun j a h => (ola j a h).2
end
end Rp
/-! Kept lambdas are called in a comprehension's block: x(e) with x a def that calls what it gets, and a(). -/
namespace Rl
open PySem PySem.Spec PyProof.Rows L2 LamX
def tLamB {ι : Type} (F : ι → LF) (G : ι → Hp → Prop) (TT : (XK → Hp → VK → Prop) → Hp → VK → Prop) (ta : TA) (t : ι → XK → TE) (τ : L2.St) : TE := fun σ H Q => ta σ H fun vs H1 => ∃ (f : Addr) (i : ι), vs = [.ref f] ∧ H1 f = some (LamO f (F i)) ∧ H1 (F i).c = some (CodeO (F i).c (F i).q) ∧ G i H1 ∧ TT (fun E H' Q' => t i E τ H' Q') H1 Q
section
variable {X : Cx}
theorem el_lamB {ι : Type} {F : ι → LF} {G : ι → Hp → Prop} {TT : (XK → Hp → VK → Prop) → Hp → VK → Prop} {x a : Str} {g : Addr} {k : Nat} {pg : Arguments} {bg : List Stmt} {sg : Scope} {dV kV doc pm cdv ct oc : Value} {an od : Option Addr} {osl : Array (Option Value)} {Ng : List Str}
    {sc : Scope} {e : Expr} {ta : TA} {t : ι → XK → TE} {p pos : Pos} (hg : ∀ (z : Shared) (Z : Hp) (L : Addr) (cl : List (Str × Addr)) (fp : List Addr), Gl (bCx X z Z sc L cl fp) x) (hm : X.mg x = some (.ref g)) (hk : PySem.W.keepIn X.K (.ref g) = true)
    (lk : X.K.lookup g = some ⟨oc, od, .func (PySem.W.fnOf x x pg bg sg dV kV doc pm an cdv ct), osl⟩) (hcg : PySem.W.codeIn X.K cdv x = true) (hb : L2.Binds X.K (PySem.W.fnOf x x pg bg sg dV kV doc pm an cdv ct) [a] []) (Sg : FnScope Ng [a] sg) (hNg : Ng[0]? = some a) (hva : Vis sg a)
    (hG : GivesV X Ng x sg g cdv bg a TT) (fam : Fam X ι F G) (ha : ∀ (z : Shared) (Z : Hp) (L : Addr) (cl : List (Str × Addr)) (fp : List Addr), PA (bCx X z Z sc L cl fp) [e] ta) (hr : Room (k + 2) X.A)
    (hbody : ∀ (i : ι) (A : Around) (outer : List Env) (s : Shared) (H : Hp) (E : XK) (f : Addr), Room k (A.deeper (lamEnv X (F i).scope s.heap.objs.size f (F i).c)) → PE (lamCx X A outer s H E (F i).scope f (F i).c) (F i).body (t i E))
    (hst : ∀ (L : Addr) (cl : List (Str × Addr)), starEach [e] (compEnvC sc cl L X.env) = (false, eval e (compEnvC sc cl L X.env)) :: starEach [] (compEnvC sc cl L X.env) := by intros; rfl)
    (hpl : ∀ (L : Addr) (cl : List (Str × Addr)), (backTo pos (starEach ([] : List Expr) (compEnvC sc cl L X.env))).any (·.1) = false := by intros; rfl)
    (hdb : (x == ("__debug__" : Str)) = false := by decide) (hd : (a == ("__debug__" : Str)) = false := by decide) (hcd : (a == ("__classdict__" : Str)) = false := by decide) (τ : L2.St) :
    ElB X τ sc (.Call (.Name x p) [e] [] pos) (tLamB F G TT ta t τ) := by
  intro pinsX z Z L cl fp IX fpo
  refine ⟨fun pins s σ H Q I h => ?_⟩
  have hex : ∀ y d, X.env.cells.lookup y = some d → d ∉ fp := fun y d hy hd => (fpo d hd).2.2.2.2.1 y d hy rfl
  refine wpAny_Call_Name_kw (ld_glob I (hg z Z L cl fp) hm ?_ hdb)
  refine PySem.W.callWith_K (h₀ := X.base) I.ok.mod.kin hk (thn ((ha z Z L cl fp).run pos pins s σ H _ I h) fun us s1 ⟨vs, H1, I1, r, q⟩ => ⟨I1.kIn, ?_⟩) (hst L cl) (hpl L cl)
  obtain ⟨f, i, rfl, e1, e2, e3, q⟩ := q
  rw [Vals.ref1 r]
  have rc : codeAny (model X.prog X.w) X.A (.call (.ref g) ⟨[.ref f], []⟩) (CR C8.CX0 X.stack X.prog X.w H1 s1 Q C8.E0) s1 := by
    refine run_ofS (N := Ng) (ps := [a]) (us := [.ref f]) (vs := [.ref f]) lk hcg Sg hr I1.env0 (hb s1 [.ref f] I1.kIn rfl) (.cons rfl .nil) rfl fun hr2 => ?_
    have go := hG f (fun HZ => HZ f = some (LamO f (F i)) ∧ HZ (F i).c = some (CodeO (F i).c (F i).q) ∧ G i HZ) s1 H1 Q (fun E H' Q' => t i E τ H' Q') (fun W pn xe p1 p2 tk => by
      have act := pe_actVB (i := 0) (p1 := p1) (p2 := p2) (E := fun σ' cls d H' => W cls d σ' H') (tb := t i) IX hex I1.base (fam.nm i) (fam.cl i) (fam.q i) (fam.bind i) tk (fun _ _ _ _ z => z) hr2 (fun E' A outer s H hr3 => hbody i A outer s H E' f hr3) hNg hva hd hcd
      exact ⟨fun pins2 s2 σ2 H2 Q2 I2 ⟨a1, ⟨a2, a3, a4⟩, a5⟩ => act.run pins2 s2 σ2 H2 Q2 I2 ⟨a1, a2, a3, a4, a5⟩⟩) ⟨e1, e2, e3⟩ q
    obtain ⟨t', ht', hq'⟩ := go
    exact ⟨t', ht'.nox, hq'⟩
  refine wpAny_call (codeAny_mono rc fun r s2 hh => ?_)
  cases r with
  | error e => exact (show False from hh).elim
  | ok fl =>
    cases fl with
    | ret u => exact I1.after hh
    | next => exact hh.elim
    | brk => exact hh.elim
    | cont => exact hh.elim
/-- a() in the block, a its own name -/
theorem el_actB {ι : Type} {F : ι → LF} {G : ι → Hp → Prop} {sc : Scope} {j k : Nat} {a : Str} {t : ι → TE} {p1 p2 : Pos} (fam : Fam X ι F G) (hr : Room (k + 1) X.A)
    (hbody : ∀ (i : ι) (A : Around) (outer : List Env) (s : Shared) (H : Hp) (f : Addr), Room k (A.deeper (lamEnv X (F i).scope s.heap.objs.size f (F i).c)) → PE (lamCx X A outer s H C8.E0 (F i).scope f (F i).c) (F i).body (t i))
    (hN : X.N[j]? = some a) (hv : ∀ (L : Addr) (cl : List (Str × Addr)), Vis (compEnvC sc cl L X.env).scope a) (hd : (a == ("__debug__" : Str)) = false := by decide) (hcd : (a == ("__classdict__" : Str)) = false := by decide) (τ : L2.St) :
    ElB X τ sc (.Call (.Name a p1) [] [] p2) (fun σ H Q => ∃ (f : Addr) (i : ι), σ[j]? = some (some (.ref f)) ∧ H f = some (LamO f (F i)) ∧ H (F i).c = some (CodeO (F i).c (F i).q) ∧ G i H ∧ t i τ H Q) := by
  intro pinsX z Z L cl fp IX fpo
  refine ⟨fun pins s σ H Q I h => ?_⟩
  have hex : ∀ y d, X.env.cells.lookup y = some d → d ∉ fp := fun y d hy hd => (fpo d hd).2.2.2.2.1 y d hy rfl
  obtain ⟨f, i, hs, hf, hc, hg, ht⟩ := h
  refine wpAny_Call_Name_kw (thn ((pe_var (X := bCx X z Z sc L cl fp) (pos := p1) (i := j) hN (hv L cl) hd hcd).run pins s σ H (fun v H1 => v = .ref f ∧ H1 = H) I ⟨.ref f, hs, rfl, rfl⟩) fun u s2 ⟨v, H2, I2, rv, e1, e2⟩ => ?_)
  subst e1
  rw [e2] at I2
  obtain rfl : u = Value.ref f := rv
  obtain ⟨⟨doc, pm, ctv, of1⟩, _, _⟩ := I2.hok f _ hf
  obtain ⟨⟨oc, vs, tt, c1, c2, c3⟩, _, _⟩ := I2.hok (F i).c _ hc
  refine PySem.W.callWith_F0 ⟨_, _, _, _, of1⟩ ?_
  have un : Un (frs X.stack) fp Z H z.heap s2.heap := I2.base
  obtain ⟨binds, hbi, hloc⟩ := fam.bind i doc pm ctv s2 H I2.hok hg
  have rc : codeAny (model X.prog X.w) X.A (.call (.ref f) ⟨[], []⟩) (CR (L2.CX X.prog X.w) X.stack X.prog X.w H s2 Q C8.E0) s2 := by
    refine PySem.W.kla_callFunE hr.depth of1 rfl (fam.nm i).co (fam.nm i).gen rfl ⟨(F i).c, oc, vs, tt, rfl, c1, c2, c3⟩ (hbi _ _ _ _ ?_)
    refine wpAny_newFunctionEnv (fam.nm i).nocell hloc (fun h1 hns hsb => ⟨I2.nolimit.fresh _ hsb, ?_⟩) (fam.nm i).kind
    have ee : PySem.W.envX (F i).q (F i).scope s2.heap.objs.size f (.ref (F i).c) (F i).cl = lamEnv X (F i).scope s2.heap.objs.size f (F i).c := by rw [fam.q i, fam.cl i]
    show codeAny _ _ (.expr (F i).body (PySem.W.envX (F i).q (F i).scope s2.heap.objs.size f (.ref (F i).c) (F i).cl)) _ _
    rw [ee]
    have kp : ∀ b o, s2.heap.get? b = some o → h1.get? b = some o := fun b o q => hsb.extBut b o (Nat.ne_of_lt (Heap.lt_size q)) (Heap.get?_push_of_some _ q)
    have J := lam_enter (E := C8.E0) (scope := (F i).scope) (f := f) (c' := (F i).c) (tk := s2.toks + binds.length) IX (fam.nm i) I2.env0 hr.hd hex un hns kp
    refine PySem.W.kla_codeExpr (wpAny_mono ((hbody i _ _ s2 H f (hr.deeper _)).run [] _ _ H Q J ht) (fun v s' hh => ?_) fun q s' hh => hh)
    obtain ⟨w', H', J', r', q'⟩ := hh
    exact ⟨w', H', J'.os, J'.bare, J'.base, J'.hok, r', q'⟩
  refine wpAny_call (codeAny_mono rc fun r s3 hh => ?_)
  cases r with
  | error q =>
    obtain ⟨_, _, _, _, _, _, _, _, _, _, _, _, z⟩ := (show L2.CX X.prog X.w X.stack H s2 C8.E0 q s3 from hh)
    exact (show False from z).elim
  | ok fl =>
    cases fl with
    | ret u => exact I2.after hh
    | next => exact hh.elim
    | brk => exact hh.elim
    | cont => exact hh.elim
end
end Rl
/-! A kept lambda is called within a kept lambda; comprehensions whose condition calls one. -/
namespace Rl
open PySem PySem.Spec PyProof.Rows L2 LamX
/-- what a def within does -/
theorem un_into {fs fs' ex : List Addr} {H H1 H2 : Hp} {h h1 h2 : Heap} (a : Un fs ex H H1 h h1) (b : Un fs' [] H1 H2 h1 h2) (hf : ∀ c ∈ fs', c ∈ fs ∨ h.objs.size ≤ c) : Un fs ex H H2 h h2 where
  keep := fun c ob q n hc hx => b.keep c ob (a.keep c ob q n hc hx) (a.free c ob q n hx) (fun z => by
    rcases hf c z with z | z
    · exact hc z
    · exact absurd z (Nat.not_le.mpr (Heap.lt_size q))) (by simp)
  slot := fun c ob q n hc hx => by
    obtain ⟨sl, e1⟩ := a.slot c ob q n hc hx
    obtain ⟨sl', e2⟩ := b.any e1 (a.free c ob q n hx) (by simp)
    exact ⟨sl', e2⟩
  free := fun c ob q n hx => by
    obtain ⟨o', e1⟩ := a.there c ob q hx
    exact b.free c o' e1 (a.free c ob q n hx) (by simp)
  there := fun c ob q hx => by
    obtain ⟨o', e1⟩ := a.there c ob q hx
    exact b.there c o' e1 (by simp)
  tups := fun c xs q => b.tups c xs (a.tups c xs q)
  frzs := fun c o u q => b.frzs c o u (a.frzs c o u q)
  tbls := fun c ps q => by
    obtain ⟨m1, e1⟩ := a.tbls c ps q
    obtain ⟨m2, e2⟩ := b.tbls c _ e1
    exact ⟨m1 ++ m2, by rw [e2, Array.append_assoc]⟩
section
variable {X : Cx} {pins : List (Addr × Obj)} {σ : L2.St} {H HZ : Hp} {s s1 : Shared}
/-- the frames of a def within -/
def Fro (X : Cx) (s : Shared) (outer : List Env) : Prop := ∀ c ∈ frs outer, c ∈ frs X.stack ∨ s.heap.objs.size ≤ c
theorem pe_actVI {CXg : CXT} {Eg : XK} {Ng : List Str} {qg : Str} {sg : Scope} {g f : Addr} {cdg : Value} {k i : Nat} {a : Str} {pn : List (Addr × Obj)} {xe : Value → Shared → Prop} {W : WX} {E : L2.St → XK} {tb : XK → TE} {p1 p2 : Pos} {F : LF} {G : Hp → Prop}
    (I : Inv X pins σ H s) (L : LamP X.N X.env.scope F.scope) (hcl : F.cl = cloFrom X.env.cells F.scope.names []) (hq : F.q = X.env.qual ++ "<lambda>")
    (hbind : ∀ (doc pm ctv : Value) (sZ : Shared) (HZ : Hp), HOk X.prog X.w HZ sZ.heap → G HZ → ∃ binds, BindsTo sZ (PySem.W.kdv_fn "<lambda>" F.q F.params (.expr F.body) F.scope F.cl F.dV doc pm (.ref F.c) ctv) ⟨[], []⟩ binds ∧ ∀ y ∈ binds, F.scope.names.lookup y.1 = some .local)
    (tk : Takes ((cxOf CXg X.prog X.w X.K X.mg X.base Ng qg sg g cdg X.A X.stack s H Eg).tr pn xe) W) (hW : ∀ cls d σ' H', E σ' cls d H' → W cls d σ' H') (hr : Room (k + 1) (X.A.deeper (envOfC qg sg s.heap.objs.size g cdg)))
    (hbody : ∀ (E' : XK) (A : Around) (outer : List Env) (s2 : Shared) (H2 : Hp), Un (frs X.stack) [] H H2 s.heap s2.heap → Fro X s outer → Room k (A.deeper (lamEnv X F.scope s2.heap.objs.size f F.c)) → PE (lamCx X A outer s2 H2 E' F.scope f F.c) F.body (tb E'))
    (hN : Ng[i]? = some a) (hv : Vis sg a) (hd : (a == ("__debug__" : Str)) = false := by decide) (hcd : (a == ("__classdict__" : Str)) = false := by decide) :
    PE ((cxOf CXg X.prog X.w X.K X.mg X.base Ng qg sg g cdg X.A X.stack s H Eg).tr pn xe) (.Call (.Name a p1) [] [] p2)
      (fun σZ HZ Q => σZ[i]? = some (some (.ref f)) ∧ HZ f = some (LamO f F) ∧ HZ F.c = some (CodeO F.c F.q) ∧ G HZ ∧ tb (E σZ) σ HZ Q) := by
  have fro_in : ∀ e : Env, e.frame = some s.heap.objs.size ∨ e.frame = none → Fro X s (e :: X.stack) := fun e he c hc => by
    unfold frs at hc
    rw [List.filterMap_cons] at hc
    rcases he with he | he
    · rw [he] at hc
      rcases List.mem_cons.mp hc with z | z
      · exact .inr (Nat.le_of_eq z.symm)
      · exact .inl z
    · rw [he] at hc
      exact .inl hc
  refine ⟨fun pinsZ sZ σZ HZ Q IZ h => ?_⟩
  obtain ⟨hs, hf, hc, hg, ht⟩ := h
  refine wpAny_Call_Name_kw (thn ((pe_var (pos := p1) (i := i) hN hv hd hcd).run pinsZ sZ σZ HZ (fun v H1 => v = .ref f ∧ H1 = HZ) IZ ⟨.ref f, hs, rfl, rfl⟩) fun u s2 ⟨v, H2, I2, rv, e1, e2⟩ => ?_)
  subst e1
  rw [e2] at I2
  obtain rfl : u = Value.ref f := rv
  obtain ⟨⟨doc, pm, ctv, of1⟩, _, _⟩ := I2.hok f _ hf
  obtain ⟨⟨oc, vs, t, c1, c2, c3⟩, _, _⟩ := I2.hok F.c _ hc
  refine PySem.W.callWith_F0 ⟨_, _, _, _, of1⟩ ?_
  have un : Un (frs X.stack) [] H HZ s.heap s2.heap := I2.base
  have hex : ∀ y d, X.env.cells.lookup y = some d → d ∉ ([] : List Addr) := fun _ _ _ => by simp
  obtain ⟨binds, hbi, hloc⟩ := hbind doc pm ctv s2 HZ I2.hok hg
  have rc : codeAny (model X.prog X.w) (X.A.deeper (envOfC qg sg s.heap.objs.size g cdg)) (.call (.ref f) ⟨[], []⟩) (CR (L2.CX X.prog X.w) (envOfC qg sg s.heap.objs.size g cdg :: X.stack) X.prog X.w HZ s2 Q (E σZ)) s2 := by
    refine PySem.W.kla_callFunE hr.depth of1 rfl L.co L.gen rfl ⟨F.c, oc, vs, t, rfl, c1, c2, c3⟩ (hbi _ _ _ _ ?_)
    refine wpAny_newFunctionEnv L.nocell hloc (fun h1 hns hsb => ⟨I2.nolimit.fresh _ hsb, ?_⟩) L.kind
    have ee : PySem.W.envX F.q F.scope s2.heap.objs.size f (.ref F.c) F.cl = lamEnv X F.scope s2.heap.objs.size f F.c := by rw [hq, hcl]
    show codeAny _ _ (.expr F.body (PySem.W.envX F.q F.scope s2.heap.objs.size f (.ref F.c) F.cl)) _ _
    rw [ee]
    have kp : ∀ b o, s2.heap.get? b = some o → h1.get? b = some o := fun b o e => hsb.extBut b o (Nat.ne_of_lt (Heap.lt_size e)) (Heap.get?_push_of_some _ e)
    have J := lam_enter (E := E σZ) (scope := F.scope) (f := f) (c' := F.c) (tk := s2.toks + binds.length) I L I2.env0 hr.hd hex un hns kp
    refine PySem.W.kla_codeExpr (wpAny_mono ((hbody (E σZ) _ _ s2 HZ un (fro_in _ (by first | exact .inl rfl | exact .inr rfl)) (hr.deeper _)).run [] _ _ HZ Q J ht) (fun v s' hh => ?_) fun e s' hh => hh)
    obtain ⟨w', H', J', r', q'⟩ := hh
    exact ⟨w', H', J'.os, J'.bare, J'.base, J'.hok, r', q'⟩
  refine wpAny_call (codeAny_mono rc fun r s' hh => ?_)
  cases r with
  | error e => exact tk e s' (XE.of_call I2 (fun cls d H' z => hW cls d σZ H' z) hh)
  | ok fl =>
    cases fl with
    | ret u => exact I2.after hh
    | next => exact hh.elim
    | brk => exact hh.elim
    | cont => exact hh.elim
theorem pe_lamcallI {ι : Type} {F : ι → LF} {G : ι → Hp → Prop} {TT : (XK → Hp → VK → Prop) → Hp → VK → Prop} {x a : Str} {g : Addr} {k : Nat} {pg : Arguments} {bg : List Stmt} {sg : Scope} {dV kV doc pm cdv ct oc : Value} {an od : Option Addr} {osl : Array (Option Value)} {Ng : List Str}
    {e : Expr} {ta : TA} {t : ι → L2.St → XK → TE} {p pos : Pos} (hg : Gl X x) (hm : X.mg x = some (.ref g)) (hk : PySem.W.keepIn X.K (.ref g) = true)
    (lk : X.K.lookup g = some ⟨oc, od, .func (PySem.W.fnOf x x pg bg sg dV kV doc pm an cdv ct), osl⟩) (hcg : PySem.W.codeIn X.K cdv x = true) (hb : L2.Binds X.K (PySem.W.fnOf x x pg bg sg dV kV doc pm an cdv ct) [a] []) (Sg : FnScope Ng [a] sg) (hNg : Ng[0]? = some a) (hva : Vis sg a)
    (hG : GivesV X Ng x sg g cdv bg a TT) (fam : Fam X ι F G) (ha : PA X [e] ta) (hr : Room (k + 2) X.A)
    (hbody : ∀ (i : ι) (A : Around) (outer : List Env) (s2 : Shared) (H2 : Hp) (E : XK) (f : Addr) (pins : List (Addr × Obj)) (σ : L2.St) (H : Hp) (s : Shared), Inv X pins σ H s → Un (frs X.stack) [] H H2 s.heap s2.heap → Fro X s outer → Room k (A.deeper (lamEnv X (F i).scope s2.heap.objs.size f (F i).c)) → PE (lamCx X A outer s2 H2 E (F i).scope f (F i).c) (F i).body (t i σ E))
    (hst : starEach [e] X.env = (false, eval e X.env) :: starEach [] X.env := by rfl) (hpl : (backTo pos (starEach ([] : List Expr) X.env)).any (·.1) = false := by rfl)
    (hdb : (x == ("__debug__" : Str)) = false := by decide) (hd : (a == ("__debug__" : Str)) = false := by decide) (hcd : (a == ("__classdict__" : Str)) = false := by decide) :
    PE X (.Call (.Name x p) [e] [] pos) (fun σ H Q => tLamC F G TT ta (fun i => t i σ) σ H Q) := by
  refine ⟨fun pins s σ H Q I h => ?_⟩
  refine wpAny_Call_Name_kw (ld_glob I hg hm ?_ hdb)
  refine PySem.W.callWith_K (h₀ := X.base) I.ok.mod.kin hk (thn (ha.run pos pins s σ H _ I h) fun us s1 ⟨vs, H1, I1, r, q⟩ => ⟨I1.kIn, ?_⟩) hst hpl
  obtain ⟨f, i, rfl, e1, e2, e3, q⟩ := q
  rw [Vals.ref1 r]
  have rc : codeAny (model X.prog X.w) X.A (.call (.ref g) ⟨[.ref f], []⟩) (CR C8.CX0 X.stack X.prog X.w H1 s1 Q C8.E0) s1 := by
    refine run_ofS (N := Ng) (ps := [a]) (us := [.ref f]) (vs := [.ref f]) lk hcg Sg hr I1.env0 (hb s1 [.ref f] I1.kIn rfl) (.cons rfl .nil) rfl fun hr2 => ?_
    have go := hG f (fun HZ => HZ f = some (LamO f (F i)) ∧ HZ (F i).c = some (CodeO (F i).c (F i).q) ∧ G i HZ) s1 H1 Q (fun E H' Q' => t i σ E σ H' Q') (fun W pn xe p1 p2 tk => by
      have act := pe_actVI (i := 0) (p1 := p1) (p2 := p2) (E := fun σ' cls d H' => W cls d σ' H') (tb := t i σ) I1 (fam.nm i) (fam.cl i) (fam.q i) (fam.bind i) tk (fun _ _ _ _ z => z) hr2 (fun E' A outer s2 H2 un fro hr3 => hbody i A outer s2 H2 E' f pins σ H1 s1 I1 un fro hr3) hNg hva hd hcd
      exact ⟨fun pins2 s2 σ2 H2 Q2 I2 ⟨a1, ⟨a2, a3, a4⟩, a5⟩ => act.run pins2 s2 σ2 H2 Q2 I2 ⟨a1, a2, a3, a4, a5⟩⟩) ⟨e1, e2, e3⟩ q
    obtain ⟨t', ht', hq'⟩ := go
    exact ⟨t', ht'.nox, hq'⟩
  refine wpAny_call (codeAny_mono rc fun r s2 hh => ?_)
  cases r with
  | error e => exact (show False from hh).elim
  | ok fl =>
    cases fl with
    | ret u => exact I1.after hh
    | next => exact hh.elim
    | brk => exact hh.elim
    | cont => exact hh.elim
/-- a() in a lambda's body, a a captured name -/
theorem pe_actL {ι : Type} {F : ι → LF} {G : ι → Hp → Prop} {A : Around} {outer : List Env} {sC : Shared} {HC : Hp} {E : XK} {sc : Scope} {f c : Addr} {k j : Nat} {a : Str} {t : ι → XK → TE} {p1 p2 : Pos} (I : Inv X pins σ H s) (unB : Un (frs X.stack) [] H HC s.heap sC.heap) (fro : Fro X s outer) (fam : Fam X ι F G)
    (hr : Room (k + 1) (A.deeper (lamEnv X sc sC.heap.objs.size f c)))
    (hbody : ∀ (i : ι) (A : Around) (outer : List Env) (s : Shared) (H : Hp) (E : XK) (f : Addr), Room k (A.deeper (lamEnv X (F i).scope s.heap.objs.size f (F i).c)) → PE (lamCx X A outer s H E (F i).scope f (F i).c) (F i).body (t i E))
    (hN : X.N[j]? = some a) (hv : Vis sc a) (hd : (a == ("__debug__" : Str)) = false := by decide) (hcd : (a == ("__classdict__" : Str)) = false := by decide) :
    PE (lamCx X A outer sC HC E sc f c) (.Call (.Name a p1) [] [] p2) (fun σ' H' Q => σ' = σ ∧ ∃ (g : Addr) (i : ι), σ[j]? = some (some (.ref g)) ∧ H' g = some (LamO g (F i)) ∧ H' (F i).c = some (CodeO (F i).c (F i).q) ∧ G i H' ∧ t i E σ H' Q) := by
  refine ⟨fun pinsZ sZ σZ HZ Q IZ h => ?_⟩
  obtain ⟨e0, g, i, hs, hf, hc, hg, ht⟩ := h
  subst e0
  refine wpAny_Call_Name_kw (thn ((pe_var (X := lamCx X A outer sC HC E sc f c) (pos := p1) (i := j) hN hv hd hcd).run pinsZ sZ σZ HZ (fun v H1 => v = .ref g ∧ H1 = HZ) IZ ⟨.ref g, hs, rfl, rfl⟩) fun u s2 ⟨v, H2, I2, rv, e1, e2⟩ => ?_)
  subst e1
  rw [e2] at I2
  obtain rfl : u = Value.ref g := rv
  obtain ⟨⟨doc, pm, ctv, of1⟩, _, _⟩ := I2.hok g _ hf
  obtain ⟨⟨oc, vs, tt, c1, c2, c3⟩, _, _⟩ := I2.hok (F i).c _ hc
  refine PySem.W.callWith_F0 ⟨_, _, _, _, of1⟩ ?_
  have un : Un (frs X.stack) [] H HZ s.heap s2.heap := un_into unB I2.base fro
  have hex : ∀ y d, X.env.cells.lookup y = some d → d ∉ ([] : List Addr) := fun _ _ _ => by simp
  obtain ⟨binds, hbi, hloc⟩ := fam.bind i doc pm ctv s2 HZ I2.hok hg
  have rc : codeAny (model X.prog X.w) (A.deeper (lamEnv X sc sC.heap.objs.size f c)) (.call (.ref g) ⟨[], []⟩) (CR (L2.CX X.prog X.w) (lamEnv X sc sC.heap.objs.size f c :: outer) X.prog X.w HZ s2 Q E) s2 := by
    refine PySem.W.kla_callFunE hr.depth of1 rfl (fam.nm i).co (fam.nm i).gen rfl ⟨(F i).c, oc, vs, tt, rfl, c1, c2, c3⟩ (hbi _ _ _ _ ?_)
    refine wpAny_newFunctionEnv (fam.nm i).nocell hloc (fun h1 hns hsb => ⟨I2.nolimit.fresh _ hsb, ?_⟩) (fam.nm i).kind
    have ee : PySem.W.envX (F i).q (F i).scope s2.heap.objs.size g (.ref (F i).c) (F i).cl = lamEnv X (F i).scope s2.heap.objs.size g (F i).c := by rw [fam.q i, fam.cl i]
    show codeAny _ _ (.expr (F i).body (PySem.W.envX (F i).q (F i).scope s2.heap.objs.size g (.ref (F i).c) (F i).cl)) _ _
    rw [ee]
    have kp : ∀ b o, s2.heap.get? b = some o → h1.get? b = some o := fun b o q => hsb.extBut b o (Nat.ne_of_lt (Heap.lt_size q)) (Heap.get?_push_of_some _ q)
    have J := lam_enter (E := E) (scope := (F i).scope) (f := g) (c' := (F i).c) (tk := s2.toks + binds.length) I (fam.nm i) I2.env0 hr.hd hex un hns kp
    refine PySem.W.kla_codeExpr (wpAny_mono ((hbody i _ _ s2 HZ E g (hr.deeper _)).run [] _ _ HZ Q J ht) (fun v s' hh => ?_) fun q s' hh => hh)
    obtain ⟨w', H', J', r', q'⟩ := hh
    exact ⟨w', H', J'.os, J'.bare, J'.base, J'.hok, r', q'⟩
  have hx : Passes (L2.CX X.prog X.w) (lamCx X A outer sC HC E sc f c) E := passes_call (takes_of rfl rfl rfl rfl) (fun _ _ _ _ z => z)
  refine wpAny_call (codeAny_mono rc fun r s' hh => ?_)
  cases r with
  | error e => exact hx pinsZ σZ HZ s2 e s' I2 hh
  | ok fl =>
    cases fl with
    | ret u => exact I2.after hh
    | next => exact hh.elim
    | brk => exact hh.elim
    | cont => exact hh.elim
/-- the conditions are read in a block that began where the def's slots are τ -/
def ElC (X : Cx) (τ : L2.St) (sc : Scope) (ifs : List Expr) (tt : TT) : Prop :=
  ∀ (pins : List (Addr × Obj)) (z : Shared) (Z : Hp) (L : Addr) (cl : List (Str × Addr)) (fp : List Addr), Inv X pins τ Z z → (∀ b ∈ fp, FpOk X pins Z b) → PTs (bCx X z Z sc L cl fp) ifs tt
theorem lcC_loop {pins : List (Addr × Obj)} {τ : L2.St} {Q : VK} {e tg it0 : Expr} {ifs : List Expr} {tt : TT} {sc : Scope} {own : List (Str × Nat)} {pos : Pos} {g : TG} {te : TE} {R : Result → Shared → Prop} {it D L : Addr} {cl : List (Str × Addr)} {fp : List Addr} {tn : Nat → Heap → Prop} {J : It} {z zs : Shared} {Z : Hp}
    (hc : X.calm = true) (T : Turn X.prog X.w X.K tg J fp it tn) (IZ : Inv X pins τ Z z) (fZ : ∀ b ∈ fp, FpOk X pins Z b) (hL : (compEnvC sc cl L X.env).locals = L) (hLz : z.heap.objs.size ≤ L)
    (pg : PG (bCx X z Z sc L cl fp) tg g) (pt : PTs (bCx X z Z sc L cl fp) ifs tt) (pe : PE (bCx X z Z sc L cl fp) e te)
    (IS : Inv (bCx X z Z sc L cl fp) [] (wipe τ (own.map (·.2))) Z zs) (tS : tn 0 zs.heap)
    {W : Nat → Nat → Hp → Prop} {m₀ : Nat} (w₀ : W 0 m₀ Z)
    (turn : ∀ i m H, W i m H → (J.stop i H ∧ Q (.ref D) H) ∨ (J.go i H ∧ ∃ Nx : Hp → Prop, (∀ H', Nx H' → ∃ m', m' < m ∧ W (i + 1) m' H') ∧ ∀ x H', J.yld i H x H' → g x (wipe τ (own.map (·.2))) H' fun σ2 H2 => wipe σ2 (own.map (·.2)) = wipe τ (own.map (·.2)) ∧ tt σ2 H2 fun b H3 =>
      if b = true then te σ2 H3 fun y H4 => ∃ acc, H4 D = some (.lst acc) ∧ acc.length < sizeLine ∧ Nx (upd H4 D (.lst (acc ++ [y]))) else Nx H3))
    (fin : ∀ s' m H', Inv X pins τ H' s' → Q (.ref D) H' → s'.heap.Ns L m → FpOk X pins H' L → R (.ok .next) s') :
    codeAny (model X.prog X.w) X.A (.compLoop (.ListComp e [⟨tg, it0, ifs, 0⟩] sc pos) 0 (.ref it) (.ref D) (compEnvC sc cl L X.env)) R zs := by
  have ofB : ∀ {σ' : L2.St} {H' : Hp} {s' : Shared}, Inv (bCx X z Z sc L cl fp) [] σ' H' s' → (∀ b ∈ fp, H' b = none) → ∀ b ∈ fp, FpOk (bCx X z Z sc L cl fp) [] H' b := fun {σ' H' s'} J0 nn b hb =>
    ⟨nn b hb, (J0.ok.exf b hb).1, J0.ok.exfs b hb, .inl hb, fun y d k => (J0.ok.exf b hb).2 y d k, fun p hp => by
      have hp : p ∈ ([] : List (Addr × Obj)) ++ [] := hp
      simp at hp⟩
  refine compLoop_any (fun m s' => ∃ i H', Inv (bCx X z Z sc L cl fp) [] (wipe τ (own.map (·.2))) H' s' ∧ tn i s'.heap ∧ (∀ b ∈ fp, H' b = none) ∧ W i m H') ?_ m₀ ⟨0, Z, IS, tS, fun b hb => (fZ b hb).1, w₀⟩
  intro m s1 ⟨i, H1, I1, t1, n1, w1⟩
  cases turn i m H1 w1 with
  | inl hs =>
    refine thnF (T.done (bCx X z Z sc L cl fp) rfl rfl rfl hc i [] s1 _ H1 (fun _ _ => False) I1 (ofB I1 n1) t1 hs.1) fun r s2 hr => ?_
    rw [hr.1]
    have IX : Inv X pins τ H1 s2 := IZ.call' (ch := fp) hr.2.os hr.2.base hr.2.hok hr.2.bare fun b hb => by
      obtain ⟨_, q1, _, q3, q4, q5⟩ := fZ b hb
      exact ⟨q3, q1, q4, q5⟩
    have nL : H1 L = none := by
      have q := hr.2.free
      rw [show (bCx X z Z sc L cl fp).env.locals = L from hL] at q
      exact q
    obtain ⟨mm, hmm, _⟩ := hr.2.loc
    rw [show (bCx X z Z sc L cl fp).env.locals = L from hL] at hmm
    exact fin s2 mm H1 IX hs.2 hmm (IZ.fpOk hLz nL)
  | inr hg =>
    obtain ⟨hgo, Nx, hNx, hstep⟩ := hg
    refine thnF (T.item (bCx X z Z sc L cl fp) rfl rfl rfl hc i [] s1 _ H1 (fun _ _ => False) I1 (ofB I1 n1) t1 hgo) fun r s2 ⟨u, hr, q2⟩ => ?_
    rw [hr]
    refine thnF q2 fun _ s3 ⟨x, H3, I3, r3, y3, t3, n3⟩ => ?_
    refine thnF (pg.run _ s3 _ H3 x u _ (I3.pinned (ofB I3 n3) (T.obj _ _ t3)) r3 (hstep x H3 y3)) fun _ s4 ⟨σ4, H4, I4, hw, q4⟩ => ?_
    refine thnF (pt.run _ s4 σ4 H4 _ I4 q4) fun b s5 ⟨H5, I5, q5⟩ => ?_
    have back : ∀ {s' : Shared} {H' : Hp}, Inv (bCx X z Z sc L cl fp) ([] ++ pinsAt fp s3.heap) σ4 H' s' → Nx H' → ∃ k, k < m ∧ ∃ i H', Inv (bCx X z Z sc L cl fp) [] (wipe τ (own.map (·.2))) H' s' ∧ tn i s'.heap ∧ (∀ b ∈ fp, H' b = none) ∧ W i k H' := fun {s' H'} JJ nx => by
      obtain ⟨k, hk, wk⟩ := hNx H' nx
      have pn : ∀ b ∈ fp, ∀ o, s3.heap.get? b = some o → s'.heap.get? b = some o ∧ H' b = none := fun b hb o ho => by
        obtain ⟨p1, p2, _⟩ := JJ.pin (b, o) (List.mem_append_right _ (List.mem_append_right _ (mem_pinsAt hb ho)))
        exact ⟨p1, p2⟩
      refine ⟨k, hk, i + 1, H', (JJ.unpinned (pins := [])).weak (by rw [← hw, wipe_length]) (fun j v hj => ?_), T.keep _ _ _ t3 fun b hb o ho => (pn b hb o ho).1, fun b hb => ?_, wk⟩
      · rw [← hw] at hj
        exact (wipe_some hj).1
      · obtain ⟨o, ho, _⟩ := T.obj _ _ t3 b hb
        exact (pn b hb o ho).2
    cases b with
    | false =>
      rw [if_neg Bool.false_ne_true] at q5
      rw [if_neg Bool.false_ne_true]
      exact back I5 q5
    | true =>
      rw [if_pos rfl] at q5
      rw [if_pos rfl]
      refine thnF (pe.run _ s5 σ4 H5 _ I5 q5) fun v s6 ⟨y, H6, I6, r6, acc, hD, hz, nx⟩ => ?_
      exact app_ok (X := bCx X z Z sc L cl fp) I6 hD hz r6 fun s7 I7 => back I7 nx
theorem lcC_core {pins : List (Addr × Obj)} {s : Shared} {τ : L2.St} {H : Hp} {Q : VK} {e tg iter : Expr} {ifs : List Expr} {tt : TT} {sc : Scope} {own : List (Str × Nat)} {pos pos' : Pos} {wi : TI} {g : TG} {te : TE} {use : Option (Value → Sem Unit)} {Qf : Value → Shared → Prop}
    (hc : X.calm = true) (hN : X.N.Nodup) (I : Inv X pins τ H s) (hi : PI X tg iter wi) (ok : BlkOk X.N X.env.scope sc own)
    (hg : ∀ (z : Shared) (Z : Hp) (L : Addr) (cl : List (Str × Addr)) (fp : List Addr), PG (bCx X z Z sc L cl fp) tg g) (hp : ElC X τ sc ifs tt) (he : ElB X τ sc e te) (hs : ∀ x, foldedSetIterable iter X.env x = pure x)
    (h : tLc wi g tt te (own.map (·.2)) τ H Q)
    (hR : ∀ D L s' m H', Inv X pins τ H' s' → Q (.ref D) H' → s'.heap.Ns L m → FpOk X pins H' L → compPost (model X.prog X.w) X.A X.xe use Qf (.ref D) L (.ok .next) s') :
    wpAny (model X.prog X.w) X.A (comprehension (.ListComp e [⟨tg, iter, ifs, 0⟩] sc pos) sc X.env pos' (newList []) false (eval iter X.env) use) Qf X.xe s := by
  have hf : ∀ y ∈ sc.names, y.2 = .free → ∃ d, X.env.cells.lookup y.1 = some d := fun y hy k => (ok.free y hy k).elim (fun q => I.ok.has _ (.inl q)) fun q => I.ok.has _ (.inr q)
  refine wpAny_comprehension_free (use := use) rfl hs (closure_ok hf) ok.kind (fun y hy k => by rw [ok.uniq y hy, k]) ?_
  refine thn (hi.run pins s τ H _ I h) fun _ s1 h1 => thn h1 fun itv s2 h2 => ?_
  obtain ⟨it, fp, tn, J, H2, rfl, I2, T, t2, f2, q⟩ := h2
  refine wpAny_newObj_type (newEnv_comp ?_) (by show 0 ≤ sizeLine; decide)
  have nD : H2 s2.heap.objs.size = none := I2.hok.fresh (Nat.le_refl _)
  obtain ⟨W, ⟨m₀, w₀⟩, turn⟩ := q _ nD
  obtain ⟨D, eD⟩ : ∃ D, D = s2.heap.objs.size := ⟨_, rfl⟩
  have push : ∀ b o, s2.heap.get? b = some o → (s2.heap.push { cls := .type "list", data := .seq ([] : List Value).toArray }).get? b = some o := fun b o k => Heap.get?_push_of_some _ k
  have I3 : Inv X pins τ (upd H2 s2.heap.objs.size (.lst [])) { s2 with heap := s2.heap.push { cls := .type "list", data := .seq ([] : List Value).toArray } } :=
    I2.laid (t' := s2.toks) push (Nat.le_refl _) ⟨Nat.zero_le _, [], 0, .nil, Heap.get?_push_size _ rfl⟩
  have f3 : ∀ b ∈ fp, FpOk X pins (upd H2 s2.heap.objs.size (.lst [])) b ∧ b < (s2.heap.push { cls := .type "list", data := .seq ([] : List Value).toArray }).objs.size := fun b hb => by
    obtain ⟨o, ho, _⟩ := T.obj _ _ t2 b hb
    have lt := Heap.lt_size ho
    refine ⟨⟨?_, (f2 b hb).2⟩, ?_⟩
    · rw [upd_ne (Nat.ne_of_lt lt)]
      exact (f2 b hb).1
    · rw [Heap.size_push]
      exact Nat.lt_succ_of_lt lt
  have IS := block_start I3 ok hN f3
  have t3 := T.keep _ _ (pushCells ((s2.heap.push { cls := .type "list", data := .seq ([] : List Value).toArray }).push { cls := .type "dict", data := .dict #[] }) sc.names) t2 fun b _ o ho => pushCells_keeps _ _ _ _ (Heap.get?_push_of_some _ (push b o ho))
  have go := lcC_loop (own := own) (e := e) (it0 := iter) (pos := pos) (Q := Q) (D := s2.heap.objs.size) (R := compPost (model X.prog X.w) X.A X.xe use Qf (.ref s2.heap.objs.size) (s2.heap.push { cls := .type "list", data := .seq ([] : List Value).toArray }).objs.size) hc T I3 (fun b hb => (f3 b hb).1) rfl (Nat.le_refl _) (hg _ _ _ _ _) (hp pins _ _ _ _ _ I3 fun b hb => (f3 b hb).1) (he pins _ _ _ _ _ I3 fun b hb => (f3 b hb).1) IS t3 w₀ turn
    (fun s' m H' I' q' hm hl => hR _ _ s' m H' I' q' hm hl)
  exact codeAny_compStart_list go (T.self X.A 0 _ _ _ t3 go)
/-- as a value -/
theorem pe_lcC {e tg iter : Expr} {ifs : List Expr} {tt : L2.St → TT} {sc : Scope} {own : List (Str × Nat)} {pos : Pos} {wi : TI} {g : TG} {te : L2.St → TE} (hc : X.calm = true) (hN : X.N.Nodup) (hi : PI X tg iter wi) (ok : BlkOk X.N X.env.scope sc own)
    (hg : ∀ (z : Shared) (Z : Hp) (L : Addr) (cl : List (Str × Addr)) (fp : List Addr), PG (bCx X z Z sc L cl fp) tg g) (hp : ∀ τ, ElC X τ sc ifs (tt τ)) (he : ∀ τ, ElB X τ sc e (te τ)) (hs : ∀ x, foldedSetIterable iter X.env x = pure x := by intro _; rfl) :
    PE X (.ListComp e [⟨tg, iter, ifs, 0⟩] sc pos) (fun σ H Q => tLc wi g (tt σ) (te σ) (own.map (·.2)) σ H Q) := by
  refine ⟨fun pins s σ H Q I h => ?_⟩
  rw [eval_ListComp]
  refine lcC_core hc hN I hi ok hg (hp σ) (he σ) hs h fun D L s' m H' I' q hn f => ⟨m, hn, fun h'' sb => ?_⟩
  obtain ⟨f0, f1, _, f3, f4, f5⟩ := f
  exact ⟨.ref D, H', I'.turned (t' := s'.toks) (fun b o hb k => (sb.2 b hb).trans k) f0 f1 f3 f4 f5, rfl, q⟩
end
end Rl
/-! Helpers: lists in blocks, kept lambdas that _law_raised calls. -/
namespace Rp
open PySem PySem.Spec PyProof.Rows L2 Rz Rm Rt Rl LamX
def stBody : Stmt → List Stmt
  | .For _ _ b _ _ => b
  | _ => []
abbrev p0 : Pos := ⟨0, 0, 0, 0⟩
theorem pi_listB {X : Cx} {K : PySem.W.Frag} {tg l : Expr} {tl : TE} (hl : PE X l tl) (hK : X.K = K) : PI X tg l (iList K tl) := by
  subst hK
  exact pi_list hl
theorem pt_ifT {X : Cx} {c a b : Expr} {tA tB tC : TT} {pos : Pos} (hc : PT X c tA) (ha : PT X a tB) (hb : PT X b tC) : PT X (.IfExp c a b pos) (fun σ H Q => tA σ H fun d H1 => if d = true then tB σ H1 Q else tC σ H1 Q) := by
  refine ⟨fun pins s σ H Q I h => ?_⟩
  show wpAny _ _ (isTrue c X.env (eval c X.env) >>= fun z => if z = true then isTrue a X.env (eval a X.env) else isTrue b X.env (eval b X.env)) _ _ _
  refine wpAny_bind (thn (hc.run pins s σ H _ I h) fun d s1 hd => ?_)
  obtain ⟨H1, I1, q1⟩ := hd
  cases d with
  | true => exact ha.run pins s1 σ H1 Q I1 q1
  | false => exact hb.run pins s1 σ H1 Q I1 q1
/-- len of a list or tuple -/
def rLenLT (K : PySem.W.Frag) : List V → Hp → VK → Prop := fun vs H Q => ∃ a xs, vs = [V.ref a] ∧ (SqL K H a xs ∨ SqT K H a xs) ∧ Q (.int (xs.length : Nat)) H
theorem call_len_seqK {X : Cx} : CallR X (.builtin "len") (rLenLT X.K) := by
  intro pins s σ H vs us Q I r h
  exact call_len_seq pins s σ H vs us Q I r h
/-- _law_raised(x), x a kept lambda -/
theorem pe_raised {X : Cx} {e : Expr} {ta : TE} {k : Nat} {le : Nat → Expr} {ts : Nat → XK → TE} {p pos : Pos} (T : Tx X.K X.mg) (S : RdS X.K X.mg) (hl : ∀ j, LamP X.N X.env.scope (lpS (le j)))
    (hb : ∀ (j : Nat) (A' : Around) (outer' : List Env) (s' : Shared) (H' : Hp) (E' : XK) (f' c' : Addr), Room k (A'.deeper (lamEnv X (lpS (le j)) s'.heap.objs.size f' c')) → PE (lamCx X A' outer' s' H' E' (lpS (le j)) f' c') (lpB (le j)) (ts j E'))
    (hg : Gl X "_law_raised") (hr : Room (k + 2) X.A) (ha : PE X e ta)
    (hst : starEach [e] X.env = (false, eval e X.env) :: starEach [] X.env := by rfl) (hpl : (backTo pos (starEach ([] : List Expr) X.env)).any (·.1) = false := by rfl) :
    PE X (.Call (.Name "_law_raised" p) [e] [] pos) (tLamC (lFam X le) (fun i H => GD (le i.1) i.2.1 H) (TRs S) (tCons ta tNil) (fun i => ts i.1)) := by
  obtain ⟨oc, od, kV, doc, pm, an, cdv, ct, osl, e1, lk, hcd⟩ := T.F_lraised.ex
  have bt := T.b_lraised
  rw [e1] at lk bt
  exact pe_lamcallV (X := X) (ι := Nat × Option Addr × Addr) (F := lFam X le) (G := fun i H => GD (le i.1) i.2.1 H) (TT := TRs S) (x := "_law_raised") (a := "_law_work") (k := k) (t := fun i => ts i.1) (p := p) (pos := pos)
    hg T.g_lraised T.F_lraised.kp lk hcd bt sc_lraised rfl (.inl rfl) (gives_raised (S := S)) (fam_ok hl) (pa_cons ha pa_nil hst) hr
    (fun i A outer s H E f hr2 => hb i.1 A outer s H E f i.2.2 hr2) hst hpl
end Rp
/-! _law_are_rejected: its lambdas. -/
namespace Rp
open PySem PySem.Spec PyProof.Rows L2 Rz Rm Rt Rl LamX
abbrev XJ (P : Program) (w : World) (K : PySem.W.Frag) (mg : Str → Option Value) (base : Heap) (f : Addr) (cdv : Value) (A : Around) (outer : List Env) (s : Shared) (H0 : Hp) (E : XK) : Cx := (cxOf CX0 P w K mg base N_lare_rejected "_law_are_rejected" (defScope s_lare_rejected) f cdv A outer s H0 E).nox
abbrev jb (j : Nat) : Stmt := (defBody s_lare_rejected).getD j (.Pass ⟨0, 0, 0, 0⟩)
abbrev j1 (j : Nat) : Stmt := (stBody (jb 0)).getD j (.Pass ⟨0, 0, 0, 0⟩)
abbrev j2 (j : Nat) : Stmt := (stBody (jb 1)).getD j (.Pass ⟨0, 0, 0, 0⟩)
/-- the lambda that is put into the list -/
def lamOf : Stmt → Expr
  | .Assign _ (.List (e :: _) _) _ => e
  | .Expr (.Call _ (e :: _) _ _) _ => e
  | .Return (some (.Compare (.Call _ (e :: _) _ _) _ _ _)) _ => e
  | _ => .Name "" p0
def le1 : Nat → Expr
  | 0 => lamOf (j1 0)
  | 1 => lamOf (j1 1)
  | 2 => lamOf (j1 2)
  | _ => lamOf (j1 3)
def le2 : Nat → Expr
  | 0 => lamOf (j2 0)
  | 1 => lamOf (j2 1)
  | 2 => lamOf (j2 2)
  | 3 => lamOf (j2 3)
  | _ => lamOf (j2 4)
def le3 : Nat → Expr := fun _ => lamOf (jb 2)
theorem le1_ok : ∀ j, LamP N_lare_rejected (defScope s_lare_rejected) (lpS (le1 j))
  | 0 => lamP_by (by decide +kernel)
  | 1 => lamP_by (by decide +kernel)
  | 2 => lamP_by (by decide +kernel)
  | _ + 3 => (lamP_by (by decide +kernel) : LamP N_lare_rejected (defScope s_lare_rejected) (lpS (lamOf (j1 3))))
theorem le2_ok : ∀ j, LamP N_lare_rejected (defScope s_lare_rejected) (lpS (le2 j))
  | 0 => lamP_by (by decide +kernel)
  | 1 => lamP_by (by decide +kernel)
  | 2 => lamP_by (by decide +kernel)
  | 3 => lamP_by (by decide +kernel)
  | _ + 4 => (lamP_by (by decide +kernel) : LamP N_lare_rejected (defScope s_lare_rejected) (lpS (lamOf (j2 4))))
theorem le3_ok : ∀ j, LamP N_lare_rejected (defScope s_lare_rejected) (lpS (le3 j)) := fun _ => (lamP_by (by decide +kernel) : LamP N_lare_rejected (defScope s_lare_rejected) (lpS (lamOf (jb 2))))
theorem bdA (j : Nat) (h : j < 4) : Bd0 (le1 j) := by
  have hj : j = 0 ∨ j = 1 ∨ j = 2 ∨ j = 3 := by omega
  rcases hj with rfl | rfl | rfl | rfl <;> exact fun _ _ _ _ _ _ _ => .of_eq rfl
theorem bdB (j : Nat) (h : j < 4) : Bd0 (le2 j) := by
  have hj : j = 0 ∨ j = 1 ∨ j = 2 ∨ j = 3 := by omega
  rcases hj with rfl | rfl | rfl | rfl <;> exact fun _ _ _ _ _ _ _ => .of_eq rfl
theorem bdB4 : Bd1 (le2 4) := ⟨"_law_d", by decide +kernel, fun _ _ _ _ _ _ _ _ _ _ _ ho hd => BindsTo.of_defaults rfl ho hd rfl rfl⟩
theorem bdC : Bd0 (le3 0) := fun _ _ _ _ _ _ _ => .of_eq rfl
/-- what a lambda of that def is called -/
abbrev lq (q : Str) : Str := q ++ ".<locals>." ++ "<lambda>"
abbrev Tb2 (PT PU : Addr) : List (Addr × Str) := [(PT, lq "law"), (PU, lq "_law_are_rejected")]
theorem hu1 {PT PU : Addr} (np : PT ≠ PU) : ∀ q ∈ Tb2 PT PU, q.1 = PT → q.2 = lq "law" := fun q hq e => by
  rcases List.mem_cons.mp hq with rfl | hq
  · rfl
  · obtain rfl := List.mem_singleton.mp hq
    exact absurd e.symm np
theorem hu2 {PT PU : Addr} (np : PT ≠ PU) : ∀ q ∈ Tb2 PT PU, q.1 = PU → q.2 = lq "_law_are_rejected" := fun q hq e => by
  rcases List.mem_cons.mp hq with rfl | hq
  · exact absurd e np
  · obtain rfl := List.mem_singleton.mp hq
    rfl
theorem Tabs_kp {K : PySem.W.Frag} {H H' : Hp} {row a : Addr} {ns : List Int} {Tb : List (Addr × Str)} (RA : RowAt K H row a ns) (k : Kp row H H') (t : Tabs Tb H) : Tabs Tb H' := fun p hp => by
  obtain ⟨_, _, _, hrow, _⟩ := RA.ob
  obtain ⟨ps, h1, h2, h3⟩ := t p hp
  refine ⟨ps, k _ _ h1 (fun e => by rw [e, hrow] at h1; cases h1), h2, fun pos cv hc => ?_⟩
  obtain ⟨c, e1, e2⟩ := h3 pos cv hc
  refine ⟨c, e1, k _ _ e2 (fun e => ?_)⟩
  rw [e, hrow] at e2
  unfold CodeO at e2
  cases e2
theorem kp_of {K : PySem.W.Frag} {H H' : Hp} {row a b : Addr} {ns : List Int} {o : HO} (RA : RowAt K H row a ns) (k : Kp row H H') (h : H b = some o) (n : ∀ i m q : Int, o ≠ .lst [.ref a, .int i, .int m, .int q]) : H' b = some o := by
  obtain ⟨i, m, q, hrow, _⟩ := RA.ob
  refine k _ _ h fun e => ?_
  rw [e, hrow] at h
  exact n i m q (Option.some.inj h).symm
theorem RowAt.extN {K : PySem.W.Frag} {H H' : Hp} {row a : Addr} {ns : List Int} (R : RowAt K H row a ns) (s : ExtN H H') : RowAt K H' row a ns := by
  obtain ⟨i, m, q, h, h0⟩ := R.ob
  refine ⟨⟨i, m, q, s _ _ h (by intro ps z; cases z), h0⟩, ?_, R.ne⟩
  rcases R.sc with (z | ⟨o, z⟩) | z
  · exact .inl (.inl (s _ _ z (by intro ps z; cases z)))
  · exact .inl (.inr ⟨o, s _ _ z (by intro ps z; cases z)⟩)
  · exact .inr z
theorem RingAt.kp8 {K : PySem.W.Frag} {C : Addr} {H H' : Hp} {row a p dx td ts : Addr} {ns ds ss : List Int} (RA : RowAt K H row a ns) (k : Kp row H H') (R : RingAt C H p dx td ts ds ss) : RingAt C H' p dx td ts ds ss :=
  ⟨kp_of RA k R.ob (fun _ _ _ z => by cases z), kp_of RA k R.td (fun _ _ _ z => by cases z), kp_of RA k R.ts (fun _ _ _ z => by cases z), R.ok⟩
theorem RingAt.extN {C : Addr} {H H' : Hp} {p dx td ts : Addr} {ds ss : List Int} (R : RingAt C H p dx td ts ds ss) (s : ExtN H H') : RingAt C H' p dx td ts ds ss :=
  ⟨s _ _ R.ob (by intro ps z; cases z), s _ _ R.td (by intro ps z; cases z), s _ _ R.ts (by intro ps z; cases z), R.ok⟩
theorem Ob.extN {C dC : Addr} {H H' : Hp} {o dx rl ol : Addr} {r : Nat} {ra : List Addr} {lf ds ss : List Int} {os : List V} (b : Ob C dC H o dx rl ol r ra lf ds ss os) (x : ExtN H H') : Ob C dC H' o dx rl ol r ra lf ds ss os :=
  ⟨x _ _ b.ob (by intro ps z; cases z), x _ _ b.hr (by intro ps z; cases z), x _ _ b.ho (by intro ps z; cases z), b.rg.mono fun _ _ _ _ _ R => R.extN x, b.ne, b.l30, b.rlt, b.l8, b.few⟩
/-- a list is written -/
theorem Tabs.wr {H : Hp} {Tb : List (Addr × Str)} {l : Addr} {xs : List V} {o : HO} (t : Tabs Tb H) (hl : H l = some (.lst xs)) : Tabs Tb (upd H l o) := fun p hp => by
  obtain ⟨ps, h1, h2, h3⟩ := t p hp
  refine ⟨ps, by rw [upd_ne (fun e => by rw [e, hl] at h1; cases h1)]; exact h1, h2, fun pos cv hc => ?_⟩
  obtain ⟨c, e1, e2⟩ := h3 pos cv hc
  refine ⟨c, e1, ?_⟩
  rw [upd_ne (fun e => ?_)]
  · exact e2
  · rw [e, hl] at e2
    unfold CodeO at e2
    cases e2
theorem KLat.wr {q : Str} {cells : List (Str × Addr)} {H : Hp} {e : Expr} {f l : Addr} {xs : List V} {o : HO} (k : KLat q cells H e f) (hl : H l = some (.lst xs)) : KLat q cells (upd H l o) e f := by
  obtain ⟨t, c, h1, h2, h3⟩ := k
  refine ⟨t, c, ?_, ?_, ?_⟩
  · rw [upd_ne (fun z => ?_)]
    · exact h1
    · rw [z, hl] at h1
      unfold LamO at h1
      cases h1
  · rw [upd_ne (fun z => ?_)]
    · exact h2
    · rw [z, hl] at h2
      unfold CodeO at h2
      cases h2
  · cases t with
    | none => exact h3
    | some t => exact ⟨h3.1, by rw [upd_ne (ne_of h3.2 hl (by intro z; cases z))]; exact h3.2⟩
/-- the list of lambdas so far -/
structure RJ (q : Str) (cells : List (Str × Addr)) (le : Nat → Expr) (Tb : List (Addr × Str)) (H0 H : Hp) (wl : Addr) (fs : List Addr) : Prop where
  x : ExtN H0 H
  t : Tabs Tb H
  n : ∀ b o, H0 b = some o → (∀ ps, o ≠ .tbl ps) → b ≠ wl
  h : H wl = some (.lst (fs.map V.ref))
  k : ∀ (i : Nat) (f : Addr), fs[i]? = some f → KLat q cells H (le i) f
theorem RJ.add {q : Str} {cells : List (Str × Addr)} {le : Nat → Expr} {Tb : List (Addr × Str)} {H0 H H' : Hp} {wl : Addr} {fs : List Addr} {f : Addr} (r : RJ q cells le Tb H0 H wl fs) (x : ExtN H H') (t : Tabs Tb H') (k : KLat q cells H' (le fs.length) f) : RJ q cells le Tb H0 (upd H' wl (.lst (fs.map V.ref ++ [.ref f]))) wl (fs ++ [f]) := by
  have hw := x _ _ r.h (by intro ps z; cases z)
  refine ⟨fun b o h n => ?_, Tabs.wr t hw, r.n, by rw [upd_same, List.map_append]; rfl, fun i g hi => ?_⟩
  · rw [upd_ne (r.n b o h n)]
    exact x _ _ (r.x _ _ h n) n
  · rcases get_snoc hi with h | ⟨h1, rfl⟩
    · exact ((r.k i g h).extN x).wr hw
    · rw [h1]
      exact k.wr hw
section
variable {P : Program} {w : World} {K : PySem.W.Frag} {mg : Str → Option Value} {base : Heap}
variable {f : Addr} {cU PT PU : Addr} {A : Around} {outer : List Env} {s : Shared} {H0 : Hp} {E : XK}
/-- works = [lambda: ..] -/
theorem mk_gen {le : Nat → Expr} {params : Arguments} {body : Expr} {scope : Scope} {p1 p2 lp p3 : Pos} (TB : TabB base mg cU PU) (np : PT ≠ PU) (hle : le 0 = .Lambda params body scope lp) (L : LamP N_lare_rejected (defScope s_lare_rejected) scope) (hdef : defaultsOf params (XJ P w K mg base f (.ref cU) A outer s H0 E).env = ([], [])) (bd : Bd0 (le 0)) (hs : swapsWith (.List [.Lambda params body scope lp] p2) (some (.Name "_law_works" p1)) p3.line (XJ P w K mg base f (.ref cU) A outer s H0 E).env = pure false) :
    ∃ tt : TS, PS (XJ P w K mg base f (.ref cU) A outer s H0 E) (.Assign [.Name "_law_works" p1] (.List [.Lambda params body scope lp] p2) p3) tt ∧
    ∀ (D : Ends) (H : Hp) (σ : L2.St), Tabs (Tb2 PT PU) H → (∀ H' wl g, RJ ((XJ P w K mg base f (.ref cU) A outer s H0 E).env.qual ++ "<lambda>") (XJ P w K mg base f (.ref cU) A outer s H0 E).env.cells le (Tb2 PT PU) H H' wl [g] → D.nx (σ.set 3 (some (.ref wl))) H') → tt D σ H := by
  have nd := sc_lare_rejected.nd
  refine ⟨_, ps_set (i := 3) nd rfl (.inl rfl) (pe_lst (pa_cons (pe_lam0 TB rfl (List.mem_cons_of_mem _ List.mem_cons_self) (hu2 np) (fun y hy z => L.free y hy z) hdef) pa_nil)) hs, ?_⟩
  intro D H σ tb nx
  refine ⟨tb, fun g c H1 x1 t1 _ h1 h2 => ⟨(by show 1 ≤ sizeLine; decide), fun wl hwl => ?_⟩⟩
  have s2 := same_upd (o := .lst [.ref g]) hwl
  refine nx _ wl g ⟨x1.trans (ExtN.of s2), t1.ext s2, fun b o h n z => ?_, upd_same, fun i g' hi => ?_⟩
  · have := x1 _ _ h n
    rw [z, hwl] at this
    cases this
  · cases i with
    | zero =>
      cases hi
      have kk : KLat ((XJ P w K mg base f (.ref cU) A outer s H0 E).env.qual ++ "<lambda>") (XJ P w K mg base f (.ref cU) A outer s H0 E).env.cells H1 (le 0) g := by
        rw [hle] at bd ⊢
        exact ⟨none, c, h1, h2, bd⟩
      exact kk.extN (ExtN.of s2)
    | succ i => simp at hi
/-- works.append(lambda: ..) -/
theorem ap_gen {le : Nat → Expr} {params : Arguments} {body : Expr} {scope : Scope} {p1 p2 lp p3 p4 : Pos} (j : Nat) (TB : TabB base mg cU PU) (np : PT ≠ PU) (hle : le j = .Lambda params body scope lp) (L : LamP N_lare_rejected (defScope s_lare_rejected) scope) (hdef : defaultsOf params (XJ P w K mg base f (.ref cU) A outer s H0 E).env = ([], [])) (bd : Bd0 (le j)) (hj : j ≤ 100) (hl : (p2.endLine == p3.line) = true) (hs : swapsWith (.Call (.Attribute (.Name "_law_works" p1) "append" p2) [.Lambda params body scope lp] [] p3) none p4.line (XJ P w K mg base f (.ref cU) A outer s H0 E).env = pure false) :
    ∃ tt : TS, PS (XJ P w K mg base f (.ref cU) A outer s H0 E) (.Expr (.Call (.Attribute (.Name "_law_works" p1) "append" p2) [.Lambda params body scope lp] [] p3) p4) tt ∧
    ∀ (D : Ends) (H1 H : Hp) (σ : L2.St) (wl : Addr) (fs : List Addr), σ[3]? = some (some (.ref wl)) → fs.length = j → RJ ((XJ P w K mg base f (.ref cU) A outer s H0 E).env.qual ++ "<lambda>") (XJ P w K mg base f (.ref cU) A outer s H0 E).env.cells le (Tb2 PT PU) H1 H wl fs → (∀ H' g, RJ ((XJ P w K mg base f (.ref cU) A outer s H0 E).env.qual ++ "<lambda>") (XJ P w K mg base f (.ref cU) A outer s H0 E).env.cells le (Tb2 PT PU) H1 H' wl (fs ++ [g]) → D.nx σ H') → tt D σ H := by
  have nd := sc_lare_rejected.nd
  refine ⟨_, ps_expr (pe_bm PySem.F.plainAttrs_list PySem.F.slot_list_append PySem.F.type_list_append mt_append (pv 3) (pa_cons (pe_lam0 TB rfl (List.mem_cons_of_mem _ List.mem_cons_self) (hu2 np) (fun y hy z => L.free y hy z) hdef) pa_nil) (hline := hl)) hs, ?_⟩
  intro D H1 H σ wl fs h3 hfs r nx
  refine ⟨_, h3, .inl ⟨rfl, _, SqL.of r.h⟩, r.t, fun g c H2 x2 t2 _ k1 k2 => ?_⟩
  have kk : KLat ((XJ P w K mg base f (.ref cU) A outer s H0 E).env.qual ++ "<lambda>") (XJ P w K mg base f (.ref cU) A outer s H0 E).env.cells H2 (le fs.length) g := by
    rw [hfs]
    rw [hle] at bd ⊢
    exact ⟨none, c, k1, k2, bd⟩
  refine ⟨wl, _, _, rfl, rfl, x2 _ _ r.h (by intro ps z; cases z), by rw [List.length_map, hfs]; exact small1000 (by omega), nx _ g (r.add x2 t2 kk)⟩
/-- works.append(lambda x=0: ..) -/
theorem ap_genD {le : Nat → Expr} {params : Arguments} {body : Expr} {scope : Scope} {p1 p2 lp p3 p4 dp : Pos} {d : Nat} (j : Nat) (TB : TabB base mg cU PU) (np : PT ≠ PU) (hle : le j = .Lambda params body scope lp) (L : LamP N_lare_rejected (defScope s_lare_rejected) scope) (hd : params.defaults = [.Constant (.int 0) d dp]) (hk : params.kw_defaults = []) (bd : Bd1 (le j)) (hj : j ≤ 100) (hl : (p2.endLine == p3.line) = true) (hs : swapsWith (.Call (.Attribute (.Name "_law_works" p1) "append" p2) [.Lambda params body scope lp] [] p3) none p4.line (XJ P w K mg base f (.ref cU) A outer s H0 E).env = pure false) :
    ∃ tt : TS, PS (XJ P w K mg base f (.ref cU) A outer s H0 E) (.Expr (.Call (.Attribute (.Name "_law_works" p1) "append" p2) [.Lambda params body scope lp] [] p3) p4) tt ∧
    ∀ (D : Ends) (H1 H : Hp) (σ : L2.St) (wl : Addr) (fs : List Addr), σ[3]? = some (some (.ref wl)) → fs.length = j → RJ ((XJ P w K mg base f (.ref cU) A outer s H0 E).env.qual ++ "<lambda>") (XJ P w K mg base f (.ref cU) A outer s H0 E).env.cells le (Tb2 PT PU) H1 H wl fs → (∀ H' g, RJ ((XJ P w K mg base f (.ref cU) A outer s H0 E).env.qual ++ "<lambda>") (XJ P w K mg base f (.ref cU) A outer s H0 E).env.cells le (Tb2 PT PU) H1 H' wl (fs ++ [g]) → D.nx σ H') → tt D σ H := by
  have nd := sc_lare_rejected.nd
  refine ⟨_, ps_expr (pe_bm PySem.F.plainAttrs_list PySem.F.slot_list_append PySem.F.type_list_append mt_append (pv 3) (pa_cons (pe_lam1 TB rfl (List.mem_cons_of_mem _ List.mem_cons_self) (hu2 np) (fun y hy z => L.free y hy z) hd hk) pa_nil) (hline := hl)) hs, ?_⟩
  intro D H1 H σ wl fs h3 hfs r nx
  refine ⟨_, h3, .inl ⟨rfl, _, SqL.of r.h⟩, r.t, fun g c t H2 x2 t2 _ kt k1 k2 => ?_⟩
  have kk : KLat ((XJ P w K mg base f (.ref cU) A outer s H0 E).env.qual ++ "<lambda>") (XJ P w K mg base f (.ref cU) A outer s H0 E).env.cells H2 (le fs.length) g := by
    rw [hfs]
    rw [hle] at bd ⊢
    exact ⟨some t, c, k1, k2, bd, kt⟩
  refine ⟨wl, _, _, rfl, rfl, x2 _ _ r.h (by intro ps z; cases z), by rw [List.length_map, hfs]; exact small1000 (by omega), nx _ g (r.add x2 t2 kk)⟩
end
end Rp
/-! _law_are_rejected: what its lambdas do; the words that are not as they should be. -/
namespace Rp
open PySem PySem.Spec PyProof.Rows L2 Rz Rm Rt Rl LamX
/-- what the j-th does: an error of the class at cls j -/
def ErrsR (ts : Nat → XK → TE) (n : Nat) (cls : Nat → Addr) (τ : L2.St) (H : Hp) : Prop := ∀ j, j < n → ∀ H', Same H H' → ∀ (E : XK) (Q : VK), E (.ref (cls j)) none H' → ts j E τ H' Q
section
variable {X : Cx}
/-- [w for w in works if _law_raised(w) != (word,)] is empty -/
theorem pe_rejs {k iw ic jn : Nat} {sc : Scope} {le : Nat → Expr} {ts : Nat → XK → TE} {p1 p2 p3 p4 p5 pos cpos cp tp : Pos} {xw xc : Str} {word : Str} {kk tk : Nat} (T : Tx X.K X.mg) (S : RdS X.K X.mg) (hc : X.calm = true) (hN : X.N.Nodup)
    (hg : ∀ (z : Shared) (Z : Hp) (L : Addr) (cl : List (Str × Addr)) (fp : List Addr), Gl (bCx X z Z sc L cl fp) "_law_raised") (hl : ∀ j, LamP X.N X.env.scope (lpS (le j))) (hr : Room (k + 2) X.A)
    (hbody : ∀ (j : Nat) (A : Around) (outer : List Env) (s : Shared) (H : Hp) (E : XK) (f c : Addr), Room k (A.deeper (lamEnv X (lpS (le j)) s.heap.objs.size f c)) → PE (lamCx X A outer s H E (lpS (le j)) f c) (lpB (le j)) (ts j E))
    (hw : PE X (.Name xw p4) (tVar iw)) (ok : BlkOk X.N X.env.scope sc [(xc, ic)])
    (ht : ∀ (z : Shared) (Z : Hp) (L : Addr) (cl : List (Str × Addr)) (fp : List Addr), PG (bCx X z Z sc L cl fp) (.Name xc p3) (gName ic))
    (he : ∀ (z : Shared) (Z : Hp) (L : Addr) (cl : List (Str × Addr)) (fp : List Addr), PE (bCx X z Z sc L cl fp) (.Name xc p5) (tVar ic))
    (ha : ∀ (z : Shared) (Z : Hp) (L : Addr) (cl : List (Str × Addr)) (fp : List Addr), PA (bCx X z Z sc L cl fp) [.Name xc p2] (tCons (tVar ic) tNil))
    (hst : ∀ (L : Addr) (cl : List (Str × Addr)), starEach [.Name xc p2] (compEnvC sc cl L X.env) = (false, eval (.Name xc p2) (compEnvC sc cl L X.env)) :: starEach [] (compEnvC sc cl L X.env))
    (hpl : ∀ (L : Addr) (cl : List (Str × Addr)), (backTo pos (starEach ([] : List Expr) (compEnvC sc cl L X.env))).any (·.1) = false)
    (hcmp : ∀ (τ : L2.St) (pins : List (Addr × Obj)) (z : Shared) (Z : Hp) (L : Addr) (cl : List (Str × Addr)) (fp : List Addr) (te : TE), PE (bCx X z Z sc L cl fp) (.Call (.Name "_law_raised" p1) [.Name xc p2] [] pos) te → PT (bCx X z Z sc L cl fp) (.Compare (.Call (.Name "_law_raised" p1) [.Name xc p2] [] pos) [.NotEq] [.Tuple [.Constant (.str word) kk cp] tk tp] cpos) (tTest (tOp (rNeD X.K) te (tTup (tCons (tC (.str word)) tNil)))))
    (hic : ic < X.N.length) (hs : ∀ x, foldedSetIterable (.Name xw p4) X.env x = pure x) (h6 : rdNm jn = word) (hsh : SeqAt.shaped (.tuple [.str word]) = true) {lpos : Pos} :
    PE X (.ListComp (.Name xc p5) [⟨.Name xc p3, .Name xw p4, [.Compare (.Call (.Name "_law_raised" p1) [.Name xc p2] [] pos) [.NotEq] [.Tuple [.Constant (.str word) kk cp] tk tp] cpos], 0⟩] sc lpos) (fun σ H Q => ∃ (wl : Addr) (fs : List Addr) (cls : Nat → Addr), σ.length = X.N.length ∧ σ[iw]? = some (some (.ref wl)) ∧ H wl = some (.lst (fs.map V.ref)) ∧ fs.length ≤ 1000 ∧
      (∀ (j : Nat) (f : Addr), fs[j]? = some f → KLat (X.env.qual ++ "<lambda>") X.env.cells H (le j) f) ∧ (∀ j, j < fs.length → RdR S (cls j) jn) ∧ ErrsR ts fs.length cls σ H ∧
      ∀ (H' : Hp) (D : Addr), Same H H' → H' D = some (.lst []) → Q (.ref D) H') := by
  obtain ⟨oc, od, kV, doc, pm, an, cdv, ct, osl, e, lk, hcd⟩ := T.F_lraised.ex
  have bt := T.b_lraised
  rw [e] at lk bt
  have el := fun τ => el_lamB (X := X) (sc := sc) (F := lFam X le) (G := fun i H => GD (le i.1) i.2.1 H) (TT := TRs S) (x := "_law_raised") (a := "_law_work") (k := k) (t := fun i => ts i.1) (p := p1) (pos := pos)
      hg T.g_lraised T.F_lraised.kp lk hcd bt sc_lraised rfl (.inl rfl) (gives_raised (S := S)) (fam_ok hl) ha hr (fun i A outer s H E f hr2 => hbody i.1 A outer s H E f i.2.2 hr2) hst hpl (by decide) (by decide) (by decide) τ
  have go := pe_lcC (X := X) (own := [(xc, ic)]) (pos := lpos) (e := .Name xc p5) (ifs := [.Compare (.Call (.Name "_law_raised" p1) [.Name xc p2] [] pos) [.NotEq] [.Tuple [.Constant (.str word) kk cp] tk tp] cpos])
    (tt := fun τ => tTest (tOp (rNeD X.K) (tLamB (lFam X le) (fun i H => GD (le i.1) i.2.1 H) (TRs S) (tCons (tVar ic) tNil) (fun i => ts i.1) τ) (tTup (tCons (tC (.str word)) tNil)))) (te := fun _ => tVar ic) hc hN (pi_list (tg := .Name xc p3) hw) ok ht
    (fun τ pins z Z L cl fp I f => pts_one (hcmp τ pins z Z L cl fp _ (el τ pins z Z L cl fp I f))) (fun τ pins z Z L cl fp I f => he z Z L cl fp) hs
  refine ⟨fun pins s σ H Q I h => go.run pins s σ H Q I ?_⟩
  obtain ⟨wl, fs, cls, hlen, hwl, hL, h1000, hK, hcl, hE, q⟩ := h
  refine ⟨_, hwl, wl, rfl, ⟨_, SqL.of hL⟩, fun D hD => ?_⟩
  refine lc_list (xs := fs.map V.ref) (fun i H' => Same H H' ∧ H' D = some (.lst [])) ⟨same_upd hD, upd_same⟩ (fun i H' _ hP => SqL.of (hP.1 _ _ hL)) ?_ ?_
  · rintro i x H1 hx ⟨s1, hD1⟩
    have hi : i < fs.length := by
      have := (List.getElem?_eq_some_iff.mp hx).1
      rwa [List.length_map] at this
    have hfx : x = .ref fs[i] := by
      rw [List.getElem?_map, List.getElem?_eq_getElem hi] at hx
      exact (Option.some.inj hx).symm
    subst hfx
    refine ⟨?_, ?_⟩
    · show (((σ.set ic none).set ic (some (.ref fs[i]))).set ic none) = σ.set ic none
      rw [List.set_set, List.set_set]
    · obtain ⟨t, c, k1, k2, k3⟩ := (hK i _ (List.getElem?_eq_getElem hi)).extN (ExtN.of s1)
      refine ⟨.ref fs[i], ?_, fs[i], (i, t, c), rfl, k1, k2, k3, ?_⟩
      · show ((wipe σ [ic]).set ic (some (.ref fs[i])))[ic]? = _
        exact List.getElem?_set_self (by rw [wipe_length, hlen]; exact hic)
      · intro E' hE'
        refine hE i hi H1 s1 E' _ (hE' _ _ _ ⟨cls i, jn, rfl, rfl, hcl i hi, fun p H2 s2 hn hp => ?_⟩)
        rw [h6] at hp
        refine ⟨(by show 1 ≤ sizeLine; decide), fun p9 hp9 => ?_⟩
        have s3 := same_upd (o := .tup [.str word]) hp9
        refine ⟨.tuple [.str word], .tuple [.str word], .tup (.of (s3 _ _ hp)) (.cons (.str _) .nil), .tup (.of upd_same) (.cons (.str _) .nil), hsh, hsh, _, rfl, ?_⟩
        rw [show (!PyData.eqv (.tuple [.str word]) (.tuple [.str word])) = false by simp [PyData.eqv, PyData.eqvAll]]
        show if false = true then _ else _
        rw [if_neg Bool.false_ne_true]
        exact ⟨fun b o h => s3 _ _ (s2 _ _ (s1 _ _ h)), s3 _ _ (s2 _ _ hD1)⟩
  · rintro H1 ⟨s1, hD1⟩
    exact q H1 D s1 hD1
end
/-- no such reader, no such number -/
def RejA (K : PySem.W.Frag) (C dC CU : Addr) (E' : XK) : TE := fun σ H Q => ∃ (o dx rl ol : Addr) (r : Nat) (ra : List Addr) (lf ds ss : List Int) (os : List V) (v : V), σ[0]? = some (some (.ref o)) ∧ σ[2]? = some (some v) ∧ Ob C dC H o dx rl ol r ra lf ds ss os ∧ LieV K H v 0 ((ds.length : Int) - 1) false ∧ E' (.ref CU) none H
def RejB (K : PySem.W.Frag) (C dC CN : Addr) (E' : XK) : TE := fun σ H Q => ∃ (o dx rl ol : Addr) (r : Nat) (ra : List Addr) (lf ds ss : List Int) (os : List V) (v : V), σ[0]? = some (some (.ref o)) ∧ σ[2]? = some (some v) ∧ Ob C dC H o dx rl ol r ra lf ds ss os ∧ LieV K H v 0 1000000000000000000 false ∧ LieV K H v 0 500 false ∧ E' (.ref CN) none H
def RejC (C dC CN : Addr) (E' : XK) : TE := fun σ H Q => ∃ (o dx rl ol : Addr) (r : Nat) (ra : List Addr) (lf ds ss : List Int) (os : List V), σ[0]? = some (some (.ref o)) ∧ Ob C dC H o dx rl ol r ra lf ds ss os ∧ E' (.ref CN) none H
section
variable {P : Program} {w : World} {K : PySem.W.Frag} {mg : Str → Option Value} {base : Heap}
variable {f : Addr} {cU PT PU : Addr} {A : Around} {outer : List Env} {s : Shared} {H0 : Hp} {E : XK}
theorem LieV.zero {K : PySem.W.Frag} {H : Hp} {n : Nat} (h : 0 < n) : ∃ k : Int, V.int 0 = .int k ∧ 0 ≤ k ∧ k < n := ⟨0, rfl, Int.le_refl _, by omega⟩
theorem hb_A {CU CN : Addr} (T : Tx K mg) (E2 : RxE K mg "UnknownReader" CU) (E4 : RxE K mg "InvalidNumber" CN) : ∀ (j : Nat) (A' : Around) (outer' : List Env) (s' : Shared) (H' : Hp) (E' : XK) (f' c' : Addr), Room 6 (A'.deeper (lamEnv (XJ P w K mg base f (.ref cU) A outer s H0 E) (lpS (le1 j)) s'.heap.objs.size f' c')) → PE (lamCx (XJ P w K mg base f (.ref cU) A outer s H0 E) A' outer' s' H' E' (lpS (le1 j)) f' c') (lpB (le1 j)) (RejA K T.C T.dC CU E')
  | 0, A', outer', s', H', E', f', c', hr => by
    have go : PE (lamCx (XJ P w K mg base f (.ref cU) A outer s H0 E) A' outer' s' H' E' (lpS (le1 0)) f' c') (lpB (le1 0)) _ := pe_meth (E := E') (pv 0) T.clD T.bEnd.mt (ok_seX T E2 E4) (hr.mono (by decide)) T.b_dsee_end .nil (passes_call (takes_of rfl rfl rfl rfl) (fun _ _ _ _ z => z)) (pa_cons (pv 2) (pa_cons (pe_op op_sub pe_int pe_int) (pa_cons pe_int pa_nil)))
    refine ⟨fun pins s σ H Q I h => go.run pins s σ H Q I ?_⟩
    obtain ⟨o, dx, rl, ol, r, ra, lf, ds, ss, os, v, h0, h2, b, hv, q⟩ := h
    exact ⟨_, h0, o, dx, _, rfl, b.ob, rfl, v, h2, _, _, rfl, rfl, o, dx, rl, ol, r, ra, lf, ds, ss, os, v, _, _, rfl, b, .inl ⟨hv, q⟩⟩
  | 1, A', outer', s', H', E', f', c', hr => by
    have go : PE (lamCx (XJ P w K mg base f (.ref cU) A outer s H0 E) A' outer' s' H' E' (lpS (le1 1)) f' c') (lpB (le1 1)) _ := pe_meth (E := E') (pv 0) T.clD T.bOpen.mt (ok_soX T E2 E4) (hr.mono (by decide)) T.b_dsee_open .nil (passes_call (takes_of rfl rfl rfl rfl) (fun _ _ _ _ z => z)) (pa_cons (pv 2) (pa_cons (pe_op op_sub pe_int pe_int) (pa_cons pe_int pa_nil)))
    refine ⟨fun pins s σ H Q I h => go.run pins s σ H Q I ?_⟩
    obtain ⟨o, dx, rl, ol, r, ra, lf, ds, ss, os, v, h0, h2, b, hv, q⟩ := h
    exact ⟨_, h0, o, dx, _, rfl, b.ob, rfl, v, h2, _, _, rfl, rfl, o, dx, rl, ol, r, ra, lf, ds, ss, os, v, _, _, rfl, b, .inl (.inl ⟨hv, q⟩)⟩
  | 2, A', outer', s', H', E', f', c', hr => by
    have go : PE (lamCx (XJ P w K mg base f (.ref cU) A outer s H0 E) A' outer' s' H' E' (lpS (le1 2)) f' c') (lpB (le1 2)) _ := pe_meth (E := E') (pv 0) T.clD T.mPe (ok_peX T E2 E4) (hr.mono (by decide)) T.b_dpossible_ends .nil (passes_call (takes_of rfl rfl rfl rfl) (fun _ _ _ _ z => z)) (pa_cons (pv 2) (pa_cons (pe_op op_sub pe_int pe_int) pa_nil))
    refine ⟨fun pins s σ H Q I h => go.run pins s σ H Q I ?_⟩
    obtain ⟨o, dx, rl, ol, r, ra, lf, ds, ss, os, v, h0, h2, b, hv, q⟩ := h
    exact ⟨_, h0, o, dx, _, rfl, b.ob, rfl, v, h2, _, _, rfl, rfl, o, dx, rl, ol, r, ra, lf, ds, ss, os, v, _, rfl, b, .inl ⟨hv, q⟩⟩
  | j + 3, A', outer', s', H', E', f', c', hr => by
    have go : PE (lamCx (XJ P w K mg base f (.ref cU) A outer s H0 E) A' outer' s' H' E' (lpS (le1 (j + 3))) f' c') (lpB (le1 (j + 3))) _ := pe_meth (E := E') (pv 0) T.clD T.mTn (ok_tnX T E2 E4) (hr.mono (by decide)) T.b_dtelling_number .nil (passes_call (takes_of rfl rfl rfl rfl) (fun _ _ _ _ z => z)) (pa_cons (pv 2) (pa_cons (pe_op op_sub pe_int pe_int) pa_nil))
    refine ⟨fun pins s σ H Q I h => go.run pins s σ H Q I ?_⟩
    obtain ⟨o, dx, rl, ol, r, ra, lf, ds, ss, os, v, h0, h2, b, hv, q⟩ := h
    exact ⟨_, h0, o, dx, _, rfl, b.ob, rfl, v, h2, _, _, rfl, rfl, o, dx, rl, ol, r, ra, lf, ds, ss, os, v, _, rfl, b, .inl ⟨hv, q⟩⟩
theorem hb_B {CU CN : Addr} (T : Tx K mg) (E2 : RxE K mg "UnknownReader" CU) (E4 : RxE K mg "InvalidNumber" CN) : ∀ (j : Nat) (A' : Around) (outer' : List Env) (s' : Shared) (H' : Hp) (E' : XK) (f' c' : Addr), Room 6 (A'.deeper (lamEnv (XJ P w K mg base f (.ref cU) A outer s H0 E) (lpS (le2 j)) s'.heap.objs.size f' c')) → PE (lamCx (XJ P w K mg base f (.ref cU) A outer s H0 E) A' outer' s' H' E' (lpS (le2 j)) f' c') (lpB (le2 j)) (RejB K T.C T.dC CN E')
  | 0, A', outer', s', H', E', f', c', hr => by
    have go : PE (lamCx (XJ P w K mg base f (.ref cU) A outer s H0 E) A' outer' s' H' E' (lpS (le2 0)) f' c') (lpB (le2 0)) _ := pe_meth (E := E') (pv 0) T.clD T.bEnd.mt (ok_seX T E2 E4) (hr.mono (by decide)) T.b_dsee_end .nil (passes_call (takes_of rfl rfl rfl rfl) (fun _ _ _ _ z => z)) (pa_cons pe_int (pa_cons (pv 2) (pa_cons pe_int pa_nil)))
    refine ⟨fun pins s σ H Q I h => go.run pins s σ H Q I ?_⟩
    obtain ⟨o, dx, rl, ol, r, ra, lf, ds, ss, os, v, h0, h2, b, hv, hw, q⟩ := h
    exact ⟨_, h0, o, dx, _, rfl, b.ob, rfl, v, h2, o, dx, rl, ol, r, ra, lf, ds, ss, os, _, v, _, rfl, b, .inr ⟨⟨0, rfl, Int.le_refl _, by have := b.rlt; omega⟩, hv, q⟩⟩
  | 1, A', outer', s', H', E', f', c', hr => by
    have go : PE (lamCx (XJ P w K mg base f (.ref cU) A outer s H0 E) A' outer' s' H' E' (lpS (le2 1)) f' c') (lpB (le2 1)) _ := pe_meth (E := E') (pv 0) T.clD T.bOpen.mt (ok_soX T E2 E4) (hr.mono (by decide)) T.b_dsee_open .nil (passes_call (takes_of rfl rfl rfl rfl) (fun _ _ _ _ z => z)) (pa_cons pe_int (pa_cons (pv 2) (pa_cons pe_int pa_nil)))
    refine ⟨fun pins s σ H Q I h => go.run pins s σ H Q I ?_⟩
    obtain ⟨o, dx, rl, ol, r, ra, lf, ds, ss, os, v, h0, h2, b, hv, hw, q⟩ := h
    exact ⟨_, h0, o, dx, _, rfl, b.ob, rfl, v, h2, o, dx, rl, ol, r, ra, lf, ds, ss, os, _, v, _, rfl, b, .inl (.inr ⟨⟨0, rfl, Int.le_refl _, by have := b.rlt; omega⟩, hv, q⟩)⟩
  | 2, A', outer', s', H', E', f', c', hr => by
    have go : PE (lamCx (XJ P w K mg base f (.ref cU) A outer s H0 E) A' outer' s' H' E' (lpS (le2 2)) f' c') (lpB (le2 2)) _ := pe_meth (E := E') (pv 0) T.clD T.mPe (ok_peX T E2 E4) (hr.mono (by decide)) T.b_dpossible_ends .nil (passes_call (takes_of rfl rfl rfl rfl) (fun _ _ _ _ z => z)) (pa_cons pe_int (pa_cons (pv 2) pa_nil))
    refine ⟨fun pins s σ H Q I h => go.run pins s σ H Q I ?_⟩
    obtain ⟨o, dx, rl, ol, r, ra, lf, ds, ss, os, v, h0, h2, b, hv, hw, q⟩ := h
    exact ⟨_, h0, o, dx, _, rfl, b.ob, rfl, v, h2, o, dx, rl, ol, r, ra, lf, ds, ss, os, _, v, rfl, b, .inr ⟨⟨0, rfl, Int.le_refl _, by have := b.rlt; omega⟩, hv, q⟩⟩
  | 3, A', outer', s', H', E', f', c', hr => by
    have go : PE (lamCx (XJ P w K mg base f (.ref cU) A outer s H0 E) A' outer' s' H' E' (lpS (le2 3)) f' c') (lpB (le2 3)) _ := pe_meth (E := E') (pv 0) T.clD T.bOpen.mt (ok_soX T E2 E4) (hr.mono (by decide)) T.b_dsee_open .nil (passes_call (takes_of rfl rfl rfl rfl) (fun _ _ _ _ z => z)) (pa_cons pe_int (pa_cons pe_int (pa_cons (pv 2) pa_nil)))
    refine ⟨fun pins s σ H Q I h => go.run pins s σ H Q I ?_⟩
    obtain ⟨o, dx, rl, ol, r, ra, lf, ds, ss, os, v, h0, h2, b, hv, hw, q⟩ := h
    exact ⟨_, h0, o, dx, _, rfl, b.ob, rfl, v, h2, o, dx, rl, ol, r, ra, lf, ds, ss, os, _, _, v, rfl, b, .inr ⟨⟨0, rfl, Int.le_refl _, by have := b.rlt; omega⟩, ⟨0, rfl, Int.le_refl _, by decide⟩, hv, q⟩⟩
  | j + 4, A', outer', s', H', E', f', c', hr => by
    have go : PE (lamCx (XJ P w K mg base f (.ref cU) A outer s H0 E) A' outer' s' H' E' (lpS (le2 (j + 4))) f' c') (lpB (le2 (j + 4))) _ := pe_meth (E := E') (pv 0) T.clD T.mTn (ok_tnX T E2 E4) (hr.mono (by decide)) T.b_dtelling_number .nil (passes_call (takes_of rfl rfl rfl rfl) (fun _ _ _ _ z => z)) (pa_cons pe_int (pa_cons (pv 2) pa_nil))
    refine ⟨fun pins s σ H Q I h => go.run pins s σ H Q I ?_⟩
    obtain ⟨o, dx, rl, ol, r, ra, lf, ds, ss, os, v, h0, h2, b, hv, hw, q⟩ := h
    exact ⟨_, h0, o, dx, _, rfl, b.ob, rfl, v, h2, o, dx, rl, ol, r, ra, lf, ds, ss, os, _, v, rfl, b, .inr ⟨⟨0, rfl, Int.le_refl _, by have := b.rlt; omega⟩, hw, q⟩⟩
theorem hb_C {CU CN : Addr} (T : Tx K mg) (E2 : RxE K mg "UnknownReader" CU) (E4 : RxE K mg "InvalidNumber" CN) : ∀ (j : Nat) (A' : Around) (outer' : List Env) (s' : Shared) (H' : Hp) (E' : XK) (f' c' : Addr), Room 6 (A'.deeper (lamEnv (XJ P w K mg base f (.ref cU) A outer s H0 E) (lpS (le3 j)) s'.heap.objs.size f' c')) → PE (lamCx (XJ P w K mg base f (.ref cU) A outer s H0 E) A' outer' s' H' E' (lpS (le3 j)) f' c') (lpB (le3 j)) (RejC T.C T.dC CN E')
  | j, A', outer', s', H', E', f', c', hr => by
    have go : PE (lamCx (XJ P w K mg base f (.ref cU) A outer s H0 E) A' outer' s' H' E' (lpS (le3 j)) f' c') (lpB (le3 j)) _ := pe_meth (E := E') (pv 0) T.clD T.mTn (ok_tnX T E2 E4) (hr.mono (by decide)) T.b_dtelling_number .nil (passes_call (takes_of rfl rfl rfl rfl) (fun _ _ _ _ z => z)) (pa_cons pe_int (pa_cons pe_int pa_nil))
    refine ⟨fun pins s σ H Q I h => go.run pins s σ H Q I ?_⟩
    obtain ⟨o, dx, rl, ol, r, ra, lf, ds, ss, os, h0, b, q⟩ := h
    exact ⟨_, h0, o, dx, _, rfl, b.ob, rfl, o, dx, rl, ol, r, ra, lf, ds, ss, os, _, _, rfl, b, .inr ⟨⟨0, rfl, Int.le_refl _, by have := b.rlt; omega⟩, lie_no (.inl ⟨501, rfl, .inr (by decide)⟩), q⟩⟩
end
end Rp
/-! _law_are_rejected. -/
namespace Rp
open PySem PySem.Spec PyProof.Rows L2 Rz Rm Rt Rl LamX
section
variable {P : Program} {w : World} {K : PySem.W.Frag} {mg : Str → Option Value} {base : Heap}
variable {f : Addr} {cU PT PU : Addr} {A : Around} {outer : List Env} {s : Shared} {H0 : Hp} {E : XK}
abbrev RJx (P : Program) (w : World) (K : PySem.W.Frag) (mg : Str → Option Value) (base : Heap) (f cU PT PU : Addr) (A : Around) (outer : List Env) (s : Shared) (H0 : Hp) (E : XK) (le : Nat → Expr) : Hp → Hp → Addr → List Addr → Prop := RJ ((XJ P w K mg base f (.ref cU) A outer s H0 E).env.qual ++ "<lambda>") (XJ P w K mg base f (.ref cU) A outer s H0 E).env.cells le (Tb2 PT PU)
abbrev MkT (P : Program) (w : World) (K : PySem.W.Frag) (mg : Str → Option Value) (base : Heap) (f cU PT PU : Addr) (A : Around) (outer : List Env) (s : Shared) (H0 : Hp) (E : XK) (le : Nat → Expr) (st : Stmt) : Prop :=
  ∃ tt : TS, PS (XJ P w K mg base f (.ref cU) A outer s H0 E) st tt ∧ ∀ (D : Ends) (H : Hp) (σ : L2.St), Tabs (Tb2 PT PU) H → (∀ H' wl g, RJx P w K mg base f cU PT PU A outer s H0 E le H H' wl [g] → D.nx (σ.set 3 (some (.ref wl))) H') → tt D σ H
abbrev ApT (P : Program) (w : World) (K : PySem.W.Frag) (mg : Str → Option Value) (base : Heap) (f cU PT PU : Addr) (A : Around) (outer : List Env) (s : Shared) (H0 : Hp) (E : XK) (le : Nat → Expr) (j : Nat) (st : Stmt) : Prop :=
  ∃ tt : TS, PS (XJ P w K mg base f (.ref cU) A outer s H0 E) st tt ∧ ∀ (D : Ends) (H1 H : Hp) (σ : L2.St) (wl : Addr) (fs : List Addr), σ[3]? = some (some (.ref wl)) → fs.length = j → RJx P w K mg base f cU PT PU A outer s H0 E le H1 H wl fs → (∀ H' g, RJx P w K mg base f cU PT PU A outer s H0 E le H1 H' wl (fs ++ [g]) → D.nx σ H') → tt D σ H
theorem lr_a0 (TB : TabB base mg cU PU) (np : PT ≠ PU) : MkT P w K mg base f cU PT PU A outer s H0 E le1 (j1 0) := mk_gen TB np rfl (le1_ok 0) rfl (bdA 0 (by decide)) rfl
theorem lr_a1 (TB : TabB base mg cU PU) (np : PT ≠ PU) : ApT P w K mg base f cU PT PU A outer s H0 E le1 1 (j1 1) := ap_gen 1 TB np rfl (le1_ok 1) rfl (bdA 1 (by decide)) (by decide) rfl rfl
theorem lr_a2 (TB : TabB base mg cU PU) (np : PT ≠ PU) : ApT P w K mg base f cU PT PU A outer s H0 E le1 2 (j1 2) := ap_gen 2 TB np rfl (le1_ok 2) rfl (bdA 2 (by decide)) (by decide) rfl rfl
theorem lr_a3 (TB : TabB base mg cU PU) (np : PT ≠ PU) : ApT P w K mg base f cU PT PU A outer s H0 E le1 3 (j1 3) := ap_gen 3 TB np rfl (le1_ok 3) rfl (bdA 3 (by decide)) (by decide) rfl rfl
theorem lr_b0 (TB : TabB base mg cU PU) (np : PT ≠ PU) : MkT P w K mg base f cU PT PU A outer s H0 E le2 (j2 0) := mk_gen TB np rfl (le2_ok 0) rfl (bdB 0 (by decide)) rfl
theorem lr_b1 (TB : TabB base mg cU PU) (np : PT ≠ PU) : ApT P w K mg base f cU PT PU A outer s H0 E le2 1 (j2 1) := ap_gen 1 TB np rfl (le2_ok 1) rfl (bdB 1 (by decide)) (by decide) rfl rfl
theorem lr_b2 (TB : TabB base mg cU PU) (np : PT ≠ PU) : ApT P w K mg base f cU PT PU A outer s H0 E le2 2 (j2 2) := ap_gen 2 TB np rfl (le2_ok 2) rfl (bdB 2 (by decide)) (by decide) rfl rfl
theorem lr_b3 (TB : TabB base mg cU PU) (np : PT ≠ PU) : ApT P w K mg base f cU PT PU A outer s H0 E le2 3 (j2 3) := ap_gen 3 TB np rfl (le2_ok 3) rfl (bdB 3 (by decide)) (by decide) rfl rfl
theorem lr_b4 (TB : TabB base mg cU PU) (np : PT ≠ PU) : ApT P w K mg base f cU PT PU A outer s H0 E le2 4 (j2 4) := ap_genD 4 TB np rfl (le2_ok 4) rfl rfl bdB4 (by decide) rfl rfl
/-- all of them are rejected -/
theorem lr_a4 {CU CN : Addr} (T : Tx K mg) (S : RdS K mg) (R2 : RdR S CU 7) (E2 : RxE K mg "UnknownReader" CU) (E4 : RxE K mg "InvalidNumber" CN) (hr : Room 8 (XJ P w K mg base f (.ref cU) A outer s H0 E).A) : ∃ tt : TS, PS (XJ P w K mg base f (.ref cU) A outer s H0 E) (j1 4) tt ∧
    ∀ (D : Ends) (H1 H : Hp) (o dx rl ol : Addr) (r : Nat) (ra : List Addr) (lf ds ss : List Int) (os : List V) (n v : V) (wl : Addr) (fs : List Addr) (y4 : Option V), Ob T.C T.dC H o dx rl ol r ra lf ds ss os → (∀ H', LieV K H' v 0 ((ds.length : Int) - 1) false) → fs.length = 4 → RJx P w K mg base f cU PT PU A outer s H0 E le1 H1 H wl fs → (∀ H', Same H H' → D.nx [some (.ref o), some n, some v, some (.ref wl), y4] H') → tt D [some (.ref o), some n, some v, some (.ref wl), y4] H := by
  have nd := sc_lare_rejected.nd
  refine ⟨_, ps_if (pt_cmpR (op_neD hr.units) (pe_rejs (X := XJ P w K mg base f (.ref cU) A outer s H0 E) (k := 6) (iw := 3) (ic := 4) (jn := 7) (le := le1) (ts := fun _ => RejA K T.C T.dC CU) T S rfl nd (fun _ _ _ _ _ => by rfl) le1_ok hr (hb_A T E2 E4) (pv 3) (blkOk_by (N := N_lare_rejected) (sc := defScope s_lare_rejected) (by decide +kernel)) (fun _ _ _ _ _ => pg_name (i := 4) nd rfl (.inl rfl)) (fun _ _ _ _ _ => pv 4) (fun _ _ _ _ _ => pa_cons (pv 4) pa_nil)
    (fun _ _ => by rfl) (fun _ _ => by rfl) (fun τ pins z Z L cl fp te h => pt_cmpR (op_neD hr.units) h (pe_tup (pa_cons pe_str pa_nil)) (nomark _)) (by show 4 < 5; decide) (fun _ => by rfl) rfl (by decide +kernel)) (pe_lst pa_nil) (nomark _)) (pss_one (ps_ret pe_bl)) pss_nil, ?_⟩
  intro D H1 H o dx rl ol r ra lf ds ss os n v wl fs y4 b hv hfs rj nx
  refine ⟨wl, fs, fun _ => CU, rfl, rfl, rj.h, by omega, rj.k, fun _ _ => R2, fun j hj H2 s2 E' Q q => ⟨o, dx, rl, ol, r, ra, lf, ds, ss, os, v, rfl, rfl, b.same s2, hv _, q⟩, fun H2 D2 s2 hD2 => ?_⟩
  refine ⟨Nat.zero_le _, fun e he => ?_⟩
  have s3 := same_upd (o := .lst []) he
  refine ⟨.list [], .list [], .lst (.of (s3 _ _ hD2)) .nil, .lst (.of upd_same) .nil, rfl, rfl, _, rfl, iteF ?_⟩
  exact nx _ (s2.trans s3)
theorem lr_b5 {CU CN : Addr} (T : Tx K mg) (S : RdS K mg) (R4 : RdR S CN 6) (E2 : RxE K mg "UnknownReader" CU) (E4 : RxE K mg "InvalidNumber" CN) (hr : Room 8 (XJ P w K mg base f (.ref cU) A outer s H0 E).A) : ∃ tt : TS, PS (XJ P w K mg base f (.ref cU) A outer s H0 E) (j2 5) tt ∧
    ∀ (D : Ends) (H1 H : Hp) (o dx rl ol : Addr) (r : Nat) (ra : List Addr) (lf ds ss : List Int) (os : List V) (n v : V) (wl : Addr) (fs : List Addr) (y4 : Option V), Ob T.C T.dC H o dx rl ol r ra lf ds ss os → (∀ H', LieV K H' v 0 1000000000000000000 false) → (∀ H', LieV K H' v 0 500 false) → fs.length = 5 → RJx P w K mg base f cU PT PU A outer s H0 E le2 H1 H wl fs → (∀ H', Same H H' → D.nx [some (.ref o), some n, some v, some (.ref wl), y4] H') → tt D [some (.ref o), some n, some v, some (.ref wl), y4] H := by
  have nd := sc_lare_rejected.nd
  refine ⟨_, ps_if (pt_cmpR (op_neD hr.units) (pe_rejs (X := XJ P w K mg base f (.ref cU) A outer s H0 E) (k := 6) (iw := 3) (ic := 4) (jn := 6) (le := le2) (ts := fun _ => RejB K T.C T.dC CN) T S rfl nd (fun _ _ _ _ _ => by rfl) le2_ok hr (hb_B T E2 E4) (pv 3) (blkOk_by (N := N_lare_rejected) (sc := defScope s_lare_rejected) (by decide +kernel)) (fun _ _ _ _ _ => pg_name (i := 4) nd rfl (.inl rfl)) (fun _ _ _ _ _ => pv 4) (fun _ _ _ _ _ => pa_cons (pv 4) pa_nil)
    (fun _ _ => by rfl) (fun _ _ => by rfl) (fun τ pins z Z L cl fp te h => pt_cmpR (op_neD hr.units) h (pe_tup (pa_cons pe_str pa_nil)) (nomark _)) (by show 4 < 5; decide) (fun _ => by rfl) rfl (by decide +kernel)) (pe_lst pa_nil) (nomark _)) (pss_one (ps_ret pe_bl)) pss_nil, ?_⟩
  intro D H1 H o dx rl ol r ra lf ds ss os n v wl fs y4 b hv hw hfs rj nx
  refine ⟨wl, fs, fun _ => CN, rfl, rfl, rj.h, by omega, rj.k, fun _ _ => R4, fun j hj H2 s2 E' Q q => ⟨o, dx, rl, ol, r, ra, lf, ds, ss, os, v, rfl, rfl, b.same s2, hv _, hw _, q⟩, fun H2 D2 s2 hD2 => ?_⟩
  refine ⟨Nat.zero_le _, fun e he => ?_⟩
  have s3 := same_upd (o := .lst []) he
  refine ⟨.list [], .list [], .lst (.of (s3 _ _ hD2)) .nil, .lst (.of upd_same) .nil, rfl, rfl, _, rfl, iteF ?_⟩
  exact nx _ (s2.trans s3)
def spRej (C dC PT PU : Addr) : Sp := fun vs H Q _ => ∃ (o dx rl ol : Addr) (r : Nat) (ra : List Addr) (lf ds ss : List Int) (os : List V), vs = [.ref o, .int (ds.length : Int)] ∧ Ob C dC H o dx rl ol r ra lf ds ss os ∧ Tabs (Tb2 PT PU) H ∧ ∀ H', Q (.bl true) H'
theorem ok_rej {CU CN : Addr} (T : Tx K mg) (S : RdS K mg) (R2 : RdR S CU 7) (R4 : RdR S CN 6) (E2 : RxE K mg "UnknownReader" CU) (E4 : RxE K mg "InvalidNumber" CN) (TB : TabB base mg cU PU) (np : PT ≠ PU) (FU : FunC K "_law_are_rejected" "_law_are_rejected" s_lare_rejected T.a_lare_rejected T.d_lare_rejected (.ref cU)) : FnOk P w K mg base CX0 9 T.a_lare_rejected T.d_lare_rejected P_lare_rejected (spRej T.C T.dC PT PU) := by
  refine FU.ok sc_lare_rejected (fun vs H Q E h => ?_) (fun A outer s H vs Q E hr h => ?_)
  · obtain ⟨o, dx, rl, ol, r, ra, lf, ds, ss, os, rfl, _⟩ := h
    rfl
  · obtain ⟨o, dx, rl, ol, r, ra, lf, ds, ss, os, rfl, b, tb, q⟩ := h
    have nd := sc_lare_rejected.nd
    obtain ⟨ta0, qa0, va0⟩ := lr_a0 (P := P) (w := w) (K := K) (mg := mg) (base := base) (f := T.a_lare_rejected) (cU := cU) (A := A) (outer := outer) (s := s) (H0 := H) (E := E) TB np
    obtain ⟨ta1, qa1, va1⟩ := lr_a1 (P := P) (w := w) (K := K) (mg := mg) (base := base) (f := T.a_lare_rejected) (cU := cU) (A := A) (outer := outer) (s := s) (H0 := H) (E := E) TB np
    obtain ⟨ta2, qa2, va2⟩ := lr_a2 (P := P) (w := w) (K := K) (mg := mg) (base := base) (f := T.a_lare_rejected) (cU := cU) (A := A) (outer := outer) (s := s) (H0 := H) (E := E) TB np
    obtain ⟨ta3, qa3, va3⟩ := lr_a3 (P := P) (w := w) (K := K) (mg := mg) (base := base) (f := T.a_lare_rejected) (cU := cU) (A := A) (outer := outer) (s := s) (H0 := H) (E := E) TB np
    obtain ⟨ta4, qa4, va4⟩ := lr_a4 (P := P) (w := w) (K := K) (mg := mg) (base := base) (f := T.a_lare_rejected) (cU := cU) (PT := PT) (PU := PU) (A := A) (outer := outer) (s := s) (H0 := H) (E := E) T S R2 E2 E4 hr
    obtain ⟨tb0, qb0, vb0⟩ := lr_b0 (P := P) (w := w) (K := K) (mg := mg) (base := base) (f := T.a_lare_rejected) (cU := cU) (A := A) (outer := outer) (s := s) (H0 := H) (E := E) TB np
    obtain ⟨tb1, qb1, vb1⟩ := lr_b1 (P := P) (w := w) (K := K) (mg := mg) (base := base) (f := T.a_lare_rejected) (cU := cU) (A := A) (outer := outer) (s := s) (H0 := H) (E := E) TB np
    obtain ⟨tb2, qb2, vb2⟩ := lr_b2 (P := P) (w := w) (K := K) (mg := mg) (base := base) (f := T.a_lare_rejected) (cU := cU) (A := A) (outer := outer) (s := s) (H0 := H) (E := E) TB np
    obtain ⟨tb3, qb3, vb3⟩ := lr_b3 (P := P) (w := w) (K := K) (mg := mg) (base := base) (f := T.a_lare_rejected) (cU := cU) (A := A) (outer := outer) (s := s) (H0 := H) (E := E) TB np
    obtain ⟨tb4, qb4, vb4⟩ := lr_b4 (P := P) (w := w) (K := K) (mg := mg) (base := base) (f := T.a_lare_rejected) (cU := cU) (A := A) (outer := outer) (s := s) (H0 := H) (E := E) TB np
    obtain ⟨tb5, qb5, vb5⟩ := lr_b5 (P := P) (w := w) (K := K) (mg := mg) (base := base) (f := T.a_lare_rejected) (cU := cU) (PT := PT) (PU := PU) (A := A) (outer := outer) (s := s) (H0 := H) (E := E) T S R4 E2 E4 hr
    refine ⟨_, pss_cons (ps_for PassesOwn.never rfl (pi_tup (pe_tup (pa_cons (pv 1) (pa_cons (pe_op op_sub pe_int pe_int) (pa_cons pe_non (pa_cons pe_bl pa_nil)))))) (pg_name (i := 2) nd rfl (.inr rfl)) (pss_cons qa0 (pss_cons qa1 (pss_cons qa2 (pss_cons qa3 (pss_one qa4))))))
      (pss_cons (ps_for PassesOwn.never rfl (pi_tup (pe_tup (pa_cons (pe_op op_sub pe_int pe_int) (pa_cons (pe_op op_add (pe_op op_pow pe_int pe_int) pe_int) (pa_cons pe_non (pa_cons pe_bl pa_nil)))))) (pg_name (i := 2) nd rfl (.inr rfl)) (pss_cons qb0 (pss_cons qb1 (pss_cons qb2 (pss_cons qb3 (pss_cons qb4 (pss_one qb5)))))))
      (pss_one (ps_ret (pe_cmpR (op_eqD hr.units) (pe_raised (X := XJ P w K mg base T.a_lare_rejected (.ref cU) A outer s H E) (k := 6) (le := le3) T S le3_ok (hb_C T E2 E4) (by rfl) hr (pe_lam0 TB rfl (List.mem_cons_of_mem _ List.mem_cons_self) (hu2 np) (fun y hy z => (le3_ok 0).free y hy z) rfl)) (pe_tup (pa_cons pe_str pa_nil)) (nomark _))))), ?_⟩
    refine ⟨_, rfl, _, _, rfl, rfl, (by show 4 ≤ sizeLine; decide), fun t ht => ?_⟩
    have s1 := same_upd (o := .tup [.int (ds.length : Int), .int (0 - 1), .non, .bl true]) ht
    have g1 : (upd H t (.tup [.int (ds.length : Int), .int (0 - 1), .non, .bl true])) t = some (.tup [.int (ds.length : Int), .int (0 - 1), .non, .bl true]) := upd_same
    have b1 := b.same s1
    have t1 := tb.ext s1
    generalize (upd H t (.tup [.int (ds.length : Int), .int (0 - 1), .non, .bl true])) = H1 at s1 g1 b1 t1
    refine ⟨t, rfl, ⟨_, .of g1⟩, for_tup (K := K) (a := t) (xs := [.int (ds.length : Int), .int (0 - 1), .non, .bl true]) (fun i σ H' => (∃ y2 y3 y4, σ = [some (.ref o), some (.int (ds.length : Int)), y2, y3, y4]) ∧ ExtN H1 H' ∧ Tabs (Tb2 PT PU) H') ⟨⟨_, _, _, rfl⟩, ExtN.refl _, t1⟩ (fun i σ H' _ p => .of (p.2.1 _ _ g1 (by intro ps z; cases z))) ?_ ?_⟩
    · rintro i v σ H2 hx ⟨⟨y2, y3, y4, rfl⟩, x2, t2⟩
      have hv : ∀ H', LieV K H' v 0 ((ds.length : Int) - 1) false := fun H' => by
        match i, hx with
        | 0, h => cases h; exact lie_no (.inl ⟨_, rfl, .inr (by omega)⟩)
        | 1, h => cases h; exact lie_no (.inl ⟨_, rfl, .inl (by decide)⟩)
        | 2, h => cases h; exact lie_no (.inr (.inl rfl))
        | 3, h => cases h; exact lie_no (.inr (.inr rfl))
        | _ + 4, h => simp at h
      refine va0 _ _ _ t2 fun H3 wl c0 r0 => ?_
      refine va1 _ _ _ _ wl [c0] rfl rfl r0 fun H4 c1 r1 => ?_
      refine va2 _ _ _ _ wl _ rfl rfl r1 fun H5 c2 r2 => ?_
      refine va3 _ _ _ _ wl _ rfl rfl r2 fun H6 c3 r3 => ?_
      refine va4 _ _ _ o dx rl ol r ra lf ds ss os _ v wl _ _ (b1.extN (x2.trans r3.x)) hv rfl r3 fun H7 s7 => ?_
      exact ⟨⟨_, _, _, rfl⟩, (x2.trans r3.x).trans (ExtN.of s7), r3.t.ext s7⟩
    rintro σ H2 ⟨⟨y2, y3, y4, rfl⟩, x2, t2⟩
    have b2 := b1.extN x2
    refine ⟨_, _, rfl, rfl, _, _, rfl, rfl, ⟨by decide, by decide, by decide⟩, _, _, rfl, rfl, (by show 4 ≤ sizeLine; decide), fun u hu => ?_⟩
    have s3 := same_upd (o := .tup [.int (0 - 1), .int (10 ^ (18 : Int).toNat + 1), .non, .bl true]) hu
    have g3 : (upd H2 u (.tup [.int (0 - 1), .int (10 ^ (18 : Int).toNat + 1), .non, .bl true])) u = some (.tup [.int (0 - 1), .int (10 ^ (18 : Int).toNat + 1), .non, .bl true]) := upd_same
    have b3 := b2.same s3
    have t3 := t2.ext s3
    refine ⟨u, rfl, ⟨_, .of g3⟩, ?_⟩
    show ∃ W : Nat → Nat → L2.St → Hp → Prop, (∃ m, W 0 m [some (.ref o), some (.int (ds.length : Int)), y2, y3, y4] (upd H2 u (.tup [.int (0 - 1), .int (10 ^ (18 : Int).toNat + 1), .non, .bl true]))) ∧ _
    generalize (upd H2 u (.tup [.int (0 - 1), .int (10 ^ (18 : Int).toNat + 1), .non, .bl true])) = H3 at s3 g3 b3 t3
    refine for_tup (K := K) (a := u) (xs := [.int (0 - 1), .int (10 ^ (18 : Int).toNat + 1), .non, .bl true]) (fun i σ H' => (∃ y2 y3 y4, σ = [some (.ref o), some (.int (ds.length : Int)), y2, y3, y4]) ∧ ExtN H3 H' ∧ Tabs (Tb2 PT PU) H') ⟨⟨_, _, _, rfl⟩, ExtN.refl _, t3⟩ (fun i σ H' _ p => .of (p.2.1 _ _ g3 (by intro ps z; cases z))) ?_ ?_
    · rintro i v σ H4 hx ⟨⟨y2, y3, y4, rfl⟩, x4, t4⟩
      have hv : (∀ H', LieV K H' v 0 1000000000000000000 false) ∧ ∀ H', LieV K H' v 0 500 false := by
        match i, hx with
        | 0, h => cases h; exact ⟨fun H' => lie_no (.inl ⟨_, rfl, .inl (by decide)⟩), fun H' => lie_no (.inl ⟨_, rfl, .inl (by decide)⟩)⟩
        | 1, h => cases h; exact ⟨fun H' => lie_no (.inl ⟨_, rfl, .inr (by decide)⟩), fun H' => lie_no (.inl ⟨_, rfl, .inr (by decide)⟩)⟩
        | 2, h => cases h; exact ⟨fun H' => lie_no (.inr (.inl rfl)), fun H' => lie_no (.inr (.inl rfl))⟩
        | 3, h => cases h; exact ⟨fun H' => lie_no (.inr (.inr rfl)), fun H' => lie_no (.inr (.inr rfl))⟩
        | _ + 4, h => simp at h
      refine vb0 _ _ _ t4 fun H5 wl c0 r0 => ?_
      refine vb1 _ _ _ _ wl [c0] rfl rfl r0 fun H6 c1 r1 => ?_
      refine vb2 _ _ _ _ wl _ rfl rfl r1 fun H7 c2 r2 => ?_
      refine vb3 _ _ _ _ wl _ rfl rfl r2 fun H8 c3 r3 => ?_
      refine vb4 _ _ _ _ wl _ rfl rfl r3 fun H9 c4 r4 => ?_
      refine vb5 _ _ _ o dx rl ol r ra lf ds ss os _ v wl _ _ (b3.extN (x4.trans r4.x)) hv.1 hv.2 rfl r4 fun H10 s10 => ?_
      exact ⟨⟨_, _, _, rfl⟩, (x4.trans r4.x).trans (ExtN.of s10), r4.t.ext s10⟩
    rintro σ H4 ⟨⟨y2, y3, y4, rfl⟩, x4, t4⟩
    have b4 := b3.extN x4
    refine ⟨t4, fun g c H5 x5 t5 _ k1 k2 => ⟨g, (0, none, c), rfl, k1, k2, bdC, fun E' hE => ?_⟩⟩
    have b5 := b4.extN x5
    refine ⟨o, dx, rl, ol, r, ra, lf, ds, ss, os, rfl, b5, hE _ _ _ ⟨CN, 6, rfl, rfl, R4, fun p H6 s6 hn hp => ?_⟩⟩
    refine ⟨(by show 1 ≤ sizeLine; decide), fun p9 hp9 => ?_⟩
    have s7 := same_upd (o := .tup [.str "number"]) hp9
    have hsh : SeqAt.shaped (.tuple [.str "number"]) = true := by decide +kernel
    refine ⟨.tuple [.str "number"], .tuple [.str "number"], .tup (.of (s7 _ _ hp)) (.cons (.str _) .nil), .tup (.of upd_same) (.cons (.str _) .nil), hsh, hsh, ?_⟩
    rw [show PyData.eqv (.tuple [.str "number"]) (.tuple [.str "number"]) = true by simp [PyData.eqv, PyData.eqvAll]]
    exact q _
end
end Rp
/-! _law_is_told. -/
namespace Rp
open PySem PySem.Spec PyProof.Rows L2 Rz Rm Rt Rl LamX
/-- the tables of the ends, for all numbers of days -/
def Tbl (H : Hp) (tb : Addr) (ds ss : List Int) (r : Nat) : Prop := ∃ kvs, H tb = some (.dK kvs) ∧ ∀ k : Int, 1 ≤ k → k ≤ 30 → ∃ (l : Addr) (la : List Addr), valV kvs (.inl k) = some (.ref l) ∧ H l = some (.lst (la.map V.ref)) ∧ la.length = ds.length ∧
  ∀ (j : Nat) (a : Addr), la[j]? = some a → H a = some (.lst ((rowE (ds.set r k) ss j 6).map V.int))
theorem Tbl.same {H H' : Hp} {tb : Addr} {ds ss : List Int} {r : Nat} (t : Tbl H tb ds ss r) (s : Same H H') : Tbl H' tb ds ss r := by
  obtain ⟨kvs, h1, h2⟩ := t
  refine ⟨kvs, s _ _ h1, fun k k1 k2 => ?_⟩
  obtain ⟨l, la, a1, a2, a3, a4⟩ := h2 k k1 k2
  exact ⟨l, la, a1, s _ _ a2, a3, fun j a h => s _ _ (a4 j a h)⟩
theorem get_of {H : Hp} {hd : Addr} {kvs : List (Key × V)} {k : Key} {v : V} {y : V} (h : H hd = some (.dK kvs)) (hv : valV kvs k = some v) (e : y = kV k) : DGet H hd y (some v) := .inl ⟨kvs, k, .inl h, e, hv.symm⟩
theorem row_at {ds ss : List Int} {r : Nat} {d : Int} {j n : Nat} (hn : n < 6) : atI ((rowE (ds.set r d) ss j 6).map V.int) (n : Int) = some (.int (En ds ss r d j n)) := by
  refine atI_nat ?_
  rw [List.getElem?_map, rowE_get (by omega)]
  rfl
theorem ref_at {la : List Addr} {j : Nat} {a : Addr} (h : la[j]? = some a) : atI (la.map V.ref) (j : Int) = some (.ref a) := atI_nat (by rw [List.getElem?_map, h]; rfl)
theorem Ob.lf30 {C dC : Addr} {H : Hp} {o dx rl ol : Addr} {r : Nat} {ra : List Addr} {lf ds ss : List Int} {os : List V} (b : Ob C dC H o dx rl ol r ra lf ds ss os) {n : Nat} {d : Int} (h : lf[n]? = some d) : 1 ≤ d ∧ d ≤ 30 := by
  have hn : n < ra.length := by rw [b.rg.1]; exact (List.getElem?_eq_some_iff.mp h).1
  obtain ⟨d1, d2, _⟩ := b.rg.2 n _ d (List.getElem?_eq_getElem hn) h
  exact ⟨d1, d2⟩
theorem non_eqv : (!PyData.eqv .none .none) = false := by decide +kernel
theorem non_shaped : SeqAt.shaped .none = true := by decide +kernel
section
variable {P : Program} {w : World} {K : PySem.W.Frag} {mg : Str → Option Value} {base : Heap}
def spIt (C dC : Addr) : Sp := fun vs H Q _ => ∃ (o dx rl ol : Addr) (r : Nat) (ra : List Addr) (lf ds ss : List Int) (os : List V) (tb kp : Addr) (k x : Nat), vs = [.ref o, .ref tb, .ref kp, .int (k : Int), .int (x : Int)] ∧ Ob C dC H o dx rl ol r ra lf ds ss os ∧ Tbl H tb ds ss r ∧ H kp = some (.lst (lf.map V.int)) ∧ k < ds.length ∧ x < 6 ∧
  ∀ H', Same H H' → Q (.bl true) H'
theorem ok_it (T : Tx K mg) : FnOk P w K mg base CX0 7 T.a_lis_told T.d_lis_told P_lis_told (spIt T.C T.dC) := by
  refine T.F_lis_told.ok sc_lis_told (fun vs H Q E h => ?_) (fun cdv A outer s H vs Q E hr h => ?_)
  · obtain ⟨o, dx, rl, ol, r, ra, lf, ds, ss, os, tb, kp, k, x, rfl, _⟩ := h
    rfl
  · obtain ⟨o, dx, rl, ol, r, ra, lf, ds, ss, os, tb, kp, k, x, rfl, b, tt, hk, k1, x1, q⟩ := h
    have nd := sc_lis_told.nd
    have hu1 : (cxOf CX0 P w K mg base N_lis_told "_law_is_told" (defScope s_lis_told) T.a_lis_told cdv A outer s H E).nox.A.units + 1 < cLine := Nat.lt_of_le_of_lt (Nat.add_le_add_left (by decide : 1 ≤ 64) _) hr.units
    refine ⟨_, pss_cons (ps_set (i := 5) nd rfl (.inl rfl) (pe_callB (cr_sortedSet rfl) (by rfl) T.z_sorted (by decide +kernel) (pa_cons (pe_callTy (T := "set") (r := rSetL K w) (cr_setL rfl) (by rfl) T.z_set (by decide +kernel) (pa_cons (pe_lc (own := [("_law_k", 7)]) rfl nd (pi_list (pv 2)) (blkOk_by (N := N_lis_told) (sc := defScope s_lis_told) (by decide +kernel)) (fun _ _ _ _ _ => pg_name (i := 7) nd rfl (.inl rfl)) (fun _ _ _ _ _ => pts_nil)
          (fun _ _ _ _ _ => pe_ix (r := rIxL K) ix_list (pe_ix (r := rIxL K) ix_list (pe_dget hu1 (pv 1) (pv 7) (fun _ _ => rfl)) (pv 3) (fun _ _ => rfl)) (pv 4) (fun _ _ => rfl))) pa_nil)) pa_nil)))
      (pss_cons (ps_if (pt_not (pt_val (pe_call (ok_likeD T 2) (hr.mono (by decide : 3 ≤ 6)) (by rfl) T.g_lalike T.F_lalike.kp T.b_lalike .nil pass0 (pa_cons (pe_lst (pa_cons (pe_prop (pv 0) T.clD T.q_dpossible_days (ok_pd T) (hr.mono (by decide : 4 ≤ 6)) T.b_dpossible_days .nil pass0 rfl) (pa_cons (pe_meth (pv 0) T.clD T.mPe (ok_pe T) (hr.mono (by decide : 5 ≤ 6)) T.b_dpossible_ends .nil pass0 (pa_cons (pv 3) (pa_cons (pv 4) pa_nil))) pa_nil)))
          (pa_cons (pe_lst (pa_cons (pv 2) (pa_cons (pv 5) pa_nil))) pa_nil))))) (pss_one (ps_ret pe_bl)) pss_nil)
      (pss_cons (ps_setLc (i := 6) (own := [("_law_n", 8)]) rfl nd rfl rfl (sw_true rfl rfl rfl (by decide +kernel)) (pi_range1 (by rfl) T.z_range (pa_cons pe_int pa_nil)) (blkOk_by (N := N_lis_told) (sc := defScope s_lis_told) (by decide +kernel)) (fun _ _ _ _ _ => pg_name (i := 8) nd rfl (.inr rfl))
        (fun _ _ _ _ _ => pts_one (pt_cmpR op_eq (pe_callB (r := rLenO w) cr_lenO (by rfl) T.z_len PySem.boot_len (pa_cons (pe_callTy (T := "set") (r := rSetL K w) (cr_setL rfl) (by rfl) T.z_set (by decide +kernel) (pa_cons (pe_lc (own := [("_law_k", 7)]) rfl nd (pi_listB (K := K) (pv 2) rfl) (blkOk_by (N := N_lis_told) (sc := { kind := .function, names := [(".0", .local), ("_law_n", .cell), ("len", .globalImplicit), ("set", .globalImplicit), ("_law_kept", .cell), ("_law_reader", .cell), ("_law_tables", .cell)], isGenerator := false, isCoroutine := false }) (by decide +kernel)) (fun _ _ _ _ _ => pg_name (i := 7) nd rfl (.inl rfl)) (fun _ _ _ _ _ => pts_nil)
          (fun _ _ _ _ _ => pe_ix (r := rIxL K) ix_list (pe_ix (r := rIxL K) ix_list (pe_dget hu1 (pv 1) (pv 7) (fun _ _ => rfl)) (pv 3) (fun _ _ => rfl)) (pv 8) (fun _ _ => rfl))) pa_nil)) pa_nil)) (pe_callB (r := rLenLT K) call_len_seqK (by rfl) T.z_len PySem.boot_len (pa_cons (pv 2) pa_nil)) (nomark _)))
        (fun _ _ _ _ _ => pv 8))
      (pss_cons (ps_if (PW.pt (pw_and (pt_cmpR (op_neD hr.units) (pv 6) (pe_lst pa_nil) (nomark _)) (pw_and (pt_cmpR op_gt (pe_ix ix_list (pv 6) pe_int (fun _ _ => rfl)) pe_int (nomark _)) (pw_and1 (pt_cmpR op_notN (pe_meth (pv 0) T.clD T.mTn (ok_tn T) hr T.b_dtelling_number .nil pass0 (pa_cons (pv 3) (pa_cons (pe_op op_sub (pe_ix ix_list (pv 6) pe_int (fun _ _ => rfl)) pe_int) pa_nil))) pe_non (nomark _)))))) (pss_one (ps_ret pe_bl)) pss_nil)
      (pss_cons (ps_if (PW.pt (pw_and (pt_cmpR (op_neD hr.units) (pv 6) (pe_lst pa_nil) (nomark _)) (pw_and1 (pt_cmpR (op_neD hr.units) (pe_meth (pv 0) T.clD T.mTn (ok_tn T) hr T.b_dtelling_number .nil pass0 (pa_cons (pv 3) (pa_cons (pe_ix ix_list (pv 6) pe_int (fun _ _ => rfl)) pa_nil))) (pe_ix ix_list (pv 6) pe_int (fun _ _ => rfl)) (nomark _))))) (pss_one (ps_ret pe_bl)) pss_nil)
      (pss_one (ps_ret (pe_call (ok_likeD T 0) (hr.mono (by decide : 1 ≤ 6)) (by rfl) T.g_lalike T.F_lalike.kp T.b_lalike .nil pass0 (pa_cons (pe_meth (pv 0) T.clD T.mTn (ok_tn T) hr T.b_dtelling_number .nil pass0 (pa_cons (pv 3) (pa_cons pe_int pa_nil))) (pa_cons (pe_ifExp (pt_cmpR (op_neD hr.units) (pv 6) (pe_lst pa_nil) (nomark _)) (pe_ix ix_list (pv 6) pe_int (fun _ _ => rfl)) pe_non) pa_nil))))))))), ?_⟩
    have l8 := b.l8
    have l30 := b.l30
    have lle : ∀ x : Int, (ends ds ss r lf k x).length = lf.length := fun x => by unfold ends; rw [List.length_map]
    -- the ends
    refine ⟨_, rfl, kp, rfl, ⟨_, .of hk⟩, fun D2 hD2 => lc_list (xs := lf.map V.int) (fun n H' => Same H H' ∧ H' D2 = some (.lst (((ends ds ss r lf k x).take n).map V.int))) ⟨same_upd hD2, upd_same⟩ (fun n H' _ p => .of (p.1 _ _ hk)) ?_ ?_⟩
    · rintro n v H2 hn ⟨s2, h2⟩
      obtain ⟨d, hd, rfl⟩ := get_int hn
      have hlt := (List.getElem?_eq_some_iff.mp hd).1
      obtain ⟨d1, d2⟩ := b.lf30 hd
      obtain ⟨kvs, t1, t2⟩ := tt.same s2
      obtain ⟨l, la, a1, a2, a3, a4⟩ := t2 d d1 d2
      obtain ⟨a, ga⟩ : ∃ a, la[k]? = some a := ⟨_, List.getElem?_eq_getElem (by omega)⟩
      refine ⟨rfl, lc_keep ?_⟩
      refine ⟨_, rfl, _, rfl, tb, _, rfl, get_of t1 a1 rfl, _, rfl, l, _, _, _, rfl, rfl, .of a2, ref_at ga, _, rfl, a, _, _, _, rfl, rfl, .of (a4 k a ga), row_at x1, ?_⟩
      refine ⟨_, h2, by rw [List.length_map]; exact small1000 (Nat.le_trans (List.length_take_le _ _) (by omega)), ?_, ?_⟩
      · exact fun c z e => by
          rw [upd_ne (ne_of_none e hD2)]
          exact s2 c z e
      · have eE : (ends ds ss r lf k x)[n]? = some (En ds ss r d k x) := by
          unfold ends
          rw [List.getElem?_map, hd]
          rfl
        rw [upd_same, map_snoc, List.take_add_one, eE]
        rfl
    rintro H2 ⟨s2, h2⟩
    rw [List.length_map, ← lle x, List.take_length] at h2
    refine ⟨D2, _, rfl, .of h2, by unfold scanBound; have := lle x; omega, fun p n hn hp => ?_⟩
    have s3 := same_upd (o := SetO w p (fun j => decide (j ∈ ends ds ss r lf k x)) n) hp
    refine ⟨p, _, n, rfl, upd_same, by have := lle x; omega, fun ms p2 pw2 mem2 _ hp2 => ?_⟩
    have s4 := same_upd (o := .lst (ms.map V.int)) hp2
    have g4 : (upd (upd H2 p (SetO w p (fun j => decide (j ∈ ends ds ss r lf k x)) n)) p2 (.lst (ms.map V.int))) p2 = some (.lst (ms.map V.int)) := upd_same
    have sA : Same H (upd (upd H2 p (SetO w p (fun j => decide (j ∈ ends ds ss r lf k x)) n)) p2 (.lst (ms.map V.int))) := (s2.trans s3).trans s4
    show tSeq _ _ _ [some (.ref o), some (.ref tb), some (.ref kp), some (.int (k : Int)), some (.int (x : Int)), some (.ref p2), none, none, none] (upd (upd H2 p (SetO w p (fun j => decide (j ∈ ends ds ss r lf k x)) n)) p2 (.lst (ms.map V.int)))
    generalize (upd (upd H2 p (SetO w p (fun j => decide (j ∈ ends ds ss r lf k x)) n)) p2 (.lst (ms.map V.int))) = H4 at g4 sA
    have b4 := b.same sA
    -- alike
    refine ⟨_, rfl, o, dx, _, rfl, b4.ob, o, dx, rl, ol, r, ra, lf, ds, ss, os, rfl, b4, fun H5 l1 s5 hl1 => ?_⟩
    have b5 := b4.same s5
    refine ⟨_, rfl, o, dx, _, rfl, b5.ob, rfl, _, rfl, _, rfl, o, dx, rl, ol, r, ra, lf, ds, ss, os, k, x, rfl, b5, by omega, by omega, by omega, by omega, fun H6 l2 ns s6 hl2 pw mem le => ?_⟩
    refine ⟨(by show 2 ≤ sizeLine; decide), fun L1 hL1 => ?_⟩
    have s7 := same_upd (o := .lst [.ref l1, .ref l2]) hL1
    have g7 : (upd H6 L1 (.lst [.ref l1, .ref l2])) L1 = some (.lst [.ref l1, .ref l2]) := upd_same
    generalize (upd H6 L1 (.lst [.ref l1, .ref l2])) = H7 at s7 g7
    refine ⟨_, rfl, _, rfl, (by show 2 ≤ sizeLine; decide), fun L2 hL2 => ?_⟩
    have s8 := same_upd (o := .lst [.ref kp, .ref p2]) hL2
    have g8 : (upd H7 L2 (.lst [.ref kp, .ref p2])) L2 = some (.lst [.ref kp, .ref p2]) := upd_same
    generalize (upd H7 L2 (.lst [.ref kp, .ref p2])) = H8 at s8 g8
    have s48 : Same H4 H8 := ((s5.trans s6).trans s7).trans s8
    have em : ms = ns := by
      refine List.Perm.eq_of_pairwise (le := fun a b => a < b) (fun a b _ _ h1 h2 => absurd h1 (by omega)) pw2 pw ?_
      refine (List.perm_ext_iff_of_nodup (inc_nodup pw2) (inc_nodup pw)).mpr fun a => ?_
      rw [mem2 a, mem a]
      exact decide_eq_true_iff
    subst em
    refine ⟨_, _, rfl, .inr ⟨L1, L2, _, _, rfl, rfl, .inr ⟨s8 _ _ g7, g8⟩, rfl, (by show 2 ≤ 1000; decide), fun i y z hy hz => ?_⟩, fun H9 s9 => ⟨_, rfl, iteF ?_⟩⟩
    · have hi : i = 0 ∨ i = 1 := by
        have := (List.getElem?_eq_some_iff.mp hy).1
        have e : ([V.ref l1, V.ref l2]).length = 2 := rfl
        omega
      rcases hi with rfl | rfl
      · cases hy
        cases hz
        exact LkD.ints (l := lf) (.inr ⟨s8 _ _ (s7 _ _ (s6 _ _ hl1)), s48 _ _ (sA _ _ hk)⟩) (by omega)
      · cases hy
        cases hz
        exact LkD.ints (l := ms) (.inr ⟨s8 _ _ (s7 _ _ hl2), s48 _ _ g4⟩) (by omega)
    have sB : Same H H9 := (sA.trans s48).trans s9
    -- which numbers tell all
    have hk9 := sB _ _ hk
    refine ⟨6, rfl, by decide, by decide, fun D1 hD1 => lc_range (lo := 0) (n := 6) (fun j H' => Same H9 H' ∧ ∃ tl : List Int, H' D1 = some (.lst (tl.map V.int)) ∧ tl.length ≤ j ∧ (∀ (z : Int) (r' : List Int), tl = z :: r' → ∃ n : Nat, z = n ∧ n < 6 ∧ Tells ds ss r lf k n ∧ ∀ i : Nat, i < n → ¬ Tells ds ss r lf k i) ∧ (tl = [] → ∀ i : Nat, i < j → ¬ Tells ds ss r lf k i)) ⟨same_upd hD1, [], upd_same, Nat.le_refl _, fun z r e => (by cases e), fun _ i hi => absurd hi (by omega)⟩ ?_ ?_⟩
    · rintro j H1 hj ⟨s1, tl, h1, le1, p1, p2⟩
      have ei : (0 : Int) + (j : Int) = j := by omega
      have sC := sB.trans s1
      refine ⟨rfl, _, rfl, kp, rfl, ⟨_, .of (s1 _ _ hk9)⟩, fun D3 hD3 => lc_list (xs := lf.map V.int) (fun n H' => Same H1 H' ∧ H' D3 = some (.lst (((ends ds ss r lf k (j : Int)).take n).map V.int))) ⟨same_upd hD3, upd_same⟩ (fun n H' _ p => .of (p.1 _ _ (s1 _ _ hk9))) ?_ ?_⟩
      · rintro n v H2 hn ⟨s2, h2⟩
        obtain ⟨d, hd, rfl⟩ := get_int hn
        have hlt := (List.getElem?_eq_some_iff.mp hd).1
        obtain ⟨d1, d2⟩ := b.lf30 hd
        obtain ⟨kvs, t1, t2⟩ := tt.same (sC.trans s2)
        obtain ⟨l, la, a1, a2, a3, a4⟩ := t2 d d1 d2
        obtain ⟨a, ga⟩ : ∃ a, la[k]? = some a := ⟨_, List.getElem?_eq_getElem (by omega)⟩
        refine ⟨rfl, lc_keep ?_⟩
        refine ⟨_, rfl, _, rfl, tb, _, rfl, get_of t1 a1 rfl, _, rfl, l, _, _, _, rfl, rfl, .of a2, ref_at ga, _, rfl, a, _, _, _, rfl, rfl, .of (a4 k a ga), (show atI ((rowE (ds.set r d) ss k 6).map V.int) (0 + (j : Int)) = some (.int (En ds ss r d k j)) by rw [ei]; exact row_at hj), ?_⟩
        refine ⟨_, h2, by rw [List.length_map]; exact small1000 (Nat.le_trans (List.length_take_le _ _) (by have := lle (j : Int); omega)), ?_, ?_⟩
        · exact fun c z e => by
            rw [upd_ne (ne_of_none e hD3)]
            exact s2 c z e
        · have eE : (ends ds ss r lf k (j : Int))[n]? = some (En ds ss r d k j) := by
            unfold ends
            rw [List.getElem?_map, hd]
            rfl
          rw [upd_same, map_snoc, List.take_add_one, eE]
          rfl
      rintro H2 ⟨s2, h2⟩
      rw [List.length_map, ← lle (j : Int), List.take_length] at h2
      refine ⟨_, _, rfl, .of h2, by unfold scanBound; have := lle (j : Int); omega, fun p n hn hp => ?_⟩
      have s3 := same_upd (o := SetO w p (fun i => decide (i ∈ ends ds ss r lf k (j : Int))) n) hp
      refine ⟨p, _, n, rfl, upd_same, by have := lle (j : Int); omega, fun ⟨ks, nk, mk, lk⟩ => ?_⟩
      have s13 := s2.trans s3
      refine ⟨_, rfl, kp, _, rfl, .inl (.of (s13 _ _ (s1 _ _ hk9))), rfl, _, rfl, ?_⟩
      rw [List.length_map]
      have cd : Cd (ends ds ss r lf k (j : Int)) n := ⟨ks, nk, fun y => (mk y).trans decide_eq_true_iff, lk⟩
      by_cases hcn : n = lf.length
      · have e : decide (V.int ((n : Nat) : Int) = V.int ((lf.length : Nat) : Int)) = true := decide_eq_true (by rw [hcn])
        rw [e]
        have yes : Tells ds ss r lf k (j : Int) := by unfold Tells; rw [← hcn]; exact cd
        show if true = true then _ else _
        rw [if_pos rfl]
        refine ⟨_, rfl, _, s13 _ _ h1, by rw [List.length_map]; exact small1000 (by omega), ?_, tl ++ [0 + (j : Int)], by rw [upd_same, map_snoc], by rw [List.length_append]; show _ + 1 ≤ _; omega, fun z r ez => ?_, fun z => absurd z (by simp)⟩
        · exact fun c z e => by
            rw [upd_ne (ne_of_none e hD1)]
            exact s13 _ _ (s1 c z e)
        · cases tl with
          | nil =>
            have : z = 0 + (j : Int) := by
              have := congrArg List.head? ez
              simpa using this.symm
            exact ⟨j, by omega, hj, yes, p2 rfl⟩
          | cons z0 r0 =>
            have e0 : z = z0 := by
              have := congrArg List.head? ez
              simpa using this.symm
            subst e0
            exact p1 z r0 rfl
      · have e : decide (V.int ((n : Nat) : Int) = V.int ((lf.length : Nat) : Int)) = false := decide_eq_false fun z => hcn (by have := V.int.inj z; omega)
        rw [e]
        show if false = true then _ else _
        rw [if_neg (by decide)]
        refine ⟨s1.trans s13, tl, s13 _ _ h1, by omega, p1, fun en i hi => ?_⟩
        by_cases hij : i < j
        · exact p2 en i hij
        · have : i = j := by omega
          subst this
          exact fun t => hcn (cd.one t)
    rintro H10 ⟨s10, tl, htl, letl, w1, w2⟩
    have sD : Same H H10 := sB.trans s10
    have bD := b.same sD
    show tSeq _ _ _ [some (.ref o), some (.ref tb), some (.ref kp), some (.int (k : Int)), some (.int (x : Int)), some (.ref p2), some (.ref D1), none, none] H10
    have ne0 : ∀ {H' : Hp} {F : Bool → Hp → Prop}, H' D1 = some (.lst (tl.map V.int)) → (∀ H'', Same H' H'' → F (!decide (tl = [])) H'') → tTest (tOp (rNeD K) (tVar 6) (tLst tNil)) [some (.ref o), some (.ref tb), some (.ref kp), some (.int (k : Int)), some (.int (x : Int)), some (.ref p2), some (.ref D1), none, none] H' F := fun {H' F} h hF => by
      refine ⟨_, rfl, (by show 0 ≤ sizeLine; decide), fun e he => ?_⟩
      have s2 := same_upd (o := .lst []) he
      exact lst_ne (as := tl) (bs := []) (.of (s2 _ _ h)) (.of upd_same) ⟨_, rfl, hF _ s2⟩
    cases tl with
    | nil =>
      have none6 := w2 rfl
      refine ne0 htl fun H11 s11 => ?_
      refine iteF (iteF ?_)
      refine ne0 (s11 _ _ htl) fun H12 s12 => ?_
      refine iteF (iteF ?_)
      have sE := (sD.trans s11).trans s12
      refine ⟨_, rfl, o, dx, _, rfl, (b.same sE).ob, rfl, _, rfl, ?_⟩
      refine ⟨o, dx, rl, ol, r, ra, lf, ds, ss, os, (k : Int), 5, rfl, b.same sE, by omega, by omega, by omega, (fun H13 n s13 hn tn no => absurd tn (none6 n (by omega))), fun H13 s13 no => ?_⟩
      refine ne0 (s13 _ _ (s12 _ _ (s11 _ _ htl))) fun H14 s14 => ?_
      refine iteF ?_
      exact ⟨_, _, rfl, .inr (.inl ⟨rfl, rfl⟩), fun H15 s15 => q _ (((sE.trans s13).trans s14).trans s15)⟩
    | cons z r' =>
      obtain ⟨n0, rfl, hn6, tn0, no0⟩ := w1 z r' rfl
      have uniq : ∀ n : Nat, Tells ds ss r lf k n → (∀ j : Nat, j < n → ¬ Tells ds ss r lf k j) → n = n0 := fun n tn no => by
        rcases Nat.lt_trichotomy n n0 with h | h | h
        · exact absurd tn (no0 n h)
        · exact h
        · exact absurd tn0 (no n0 h)
      have hne : (!decide ((n0 : Int) :: r' = [])) = true := by rw [decide_eq_false (fun h => by cases h)]; rfl
      refine ne0 htl fun H11 s11 => ?_
      rw [hne]
      refine iteT ?_
      have h11 := s11 _ _ htl
      refine ⟨_, rfl, D1, _, 0, _, rfl, rfl, .of h11, atI_nat (j := 0) rfl, _, _, rfl, rfl, _, rfl, ?_⟩
      have sE := sD.trans s11
      by_cases h0 : (0 : Int) < (n0 : Int)
      · rw [decide_eq_true h0]
        refine iteT ?_
        refine ⟨_, rfl, o, dx, _, rfl, (b.same sE).ob, rfl, _, rfl, _, rfl, D1, _, 0, _, rfl, rfl, .of h11, atI_nat (j := 0) rfl, _, _, rfl, rfl, ?_⟩
        refine ⟨o, dx, rl, ol, r, ra, lf, ds, ss, os, (k : Int), n0 - 1, (by show [V.ref o, V.int (k : Int), V.int ((n0 : Int) - 1)] = _; rw [show (n0 : Int) - 1 = ((n0 - 1 : Nat) : Int) by omega]), b.same sE, by omega, by omega, by omega, (fun H12 n s12 hn tn no => absurd tn (no0 n (by omega))), fun H12 s12 no => ?_⟩
        refine ⟨rfl, _, rfl, iteF ?_⟩
        have sE2 := sE.trans s12
        have h12 := s12 _ _ h11
        refine ne0 h12 fun H22 s22 => ?_
        rw [hne]
        refine iteT ?_
        have h22 := s22 _ _ h12
        have sF := sE2.trans s22
        refine ⟨_, rfl, o, dx, _, rfl, (b.same sF).ob, rfl, _, rfl, _, rfl, D1, _, 0, _, rfl, rfl, .of h22, atI_nat (j := 0) rfl, ?_⟩
        refine ⟨o, dx, rl, ol, r, ra, lf, ds, ss, os, (k : Int), n0, rfl, b.same sF, by omega, by omega, by omega, fun H23 n s23 hn tn no => ?_, fun H23 s23 no => absurd tn0 (no n0 (Nat.le_refl _))⟩
        obtain rfl := uniq n tn no
        have h23 := s23 _ _ h22
        refine ⟨_, rfl, D1, _, 0, _, rfl, rfl, .of h23, atI_nat (j := 0) rfl, .int (n : Int), .int (n : Int), .int _, .int _, by rfl, by rfl, _, rfl, ?_⟩
        rw [show (!PyData.eqv (.int (n : Int)) (.int (n : Int))) = false by simp [PyData.eqv]]
        refine iteF ?_
        have sG := sF.trans s23
        refine ⟨_, rfl, o, dx, _, rfl, (b.same sG).ob, rfl, _, rfl, ?_⟩
        refine ⟨o, dx, rl, ol, r, ra, lf, ds, ss, os, (k : Int), 5, rfl, b.same sG, by omega, by omega, by omega, fun H24 n2 s24 hn2 tn2 no2 => ?_, fun H24 s24 no => absurd tn0 (no n (by omega))⟩
        obtain rfl := uniq n2 tn2 no2
        have h24 := s24 _ _ h23
        refine ne0 h24 fun H25 s25 => ?_
        rw [hne]
        refine iteT ⟨_, rfl, D1, _, 0, _, rfl, rfl, .of (s25 _ _ h24), atI_nat (j := 0) rfl, ?_⟩
        exact ⟨_, _, rfl, .inl ⟨_, rfl, rfl⟩, fun H26 s26 => q _ (((sG.trans s24).trans s25).trans s26)⟩
      · rw [decide_eq_false h0]
        refine iteF (iteF ?_)
        refine ne0 h11 fun H22 s22 => ?_
        rw [hne]
        refine iteT ?_
        have h22 := s22 _ _ h11
        have sF := sE.trans s22
        refine ⟨_, rfl, o, dx, _, rfl, (b.same sF).ob, rfl, _, rfl, _, rfl, D1, _, 0, _, rfl, rfl, .of h22, atI_nat (j := 0) rfl, ?_⟩
        refine ⟨o, dx, rl, ol, r, ra, lf, ds, ss, os, (k : Int), n0, rfl, b.same sF, by omega, by omega, by omega, fun H23 n s23 hn tn no => ?_, fun H23 s23 no => absurd tn0 (no n0 (Nat.le_refl _))⟩
        obtain rfl := uniq n tn no
        have h23 := s23 _ _ h22
        refine ⟨_, rfl, D1, _, 0, _, rfl, rfl, .of h23, atI_nat (j := 0) rfl, .int (n : Int), .int (n : Int), .int _, .int _, by rfl, by rfl, _, rfl, ?_⟩
        rw [show (!PyData.eqv (.int (n : Int)) (.int (n : Int))) = false by simp [PyData.eqv]]
        refine iteF ?_
        have sG := sF.trans s23
        refine ⟨_, rfl, o, dx, _, rfl, (b.same sG).ob, rfl, _, rfl, ?_⟩
        refine ⟨o, dx, rl, ol, r, ra, lf, ds, ss, os, (k : Int), 5, rfl, b.same sG, by omega, by omega, by omega, fun H24 n2 s24 hn2 tn2 no2 => ?_, fun H24 s24 no => absurd tn0 (no n (by omega))⟩
        obtain rfl := uniq n2 tn2 no2
        have h24 := s24 _ _ h23
        refine ne0 h24 fun H25 s25 => ?_
        rw [hne]
        refine iteT ⟨_, rfl, D1, _, 0, _, rfl, rfl, .of (s25 _ _ h24), atI_nat (j := 0) rfl, ?_⟩
        exact ⟨_, _, rfl, .inl ⟨_, rfl, rfl⟩, fun H26 s26 => q _ (((sG.trans s24).trans s25).trans s26)⟩
end
end Rp
/-! The law: what stands at the head of a turn. -/
namespace Rp
open PySem PySem.Spec PyProof.Rows L2 Rz Rm Rt Rl LamX
abbrev bs (j : Nat) : Stmt := (defBody s_law).getD j (.Pass ⟨0, 0, 0, 0⟩)
abbrev fl (j : Nat) : Stmt := (stBody (bs 6)).getD j (.Pass ⟨0, 0, 0, 0⟩)
abbrev XL (P : Program) (w : World) (K : PySem.W.Frag) (mg : Str → Option Value) (base : Heap) (f : Addr) (cdv : Value) (A : Around) (outer : List Env) (s : Shared) (H0 : Hp) (E : XK) : Cx := (cxOf CX0 P w K mg base N_law "law" (defScope s_law) f cdv A outer s H0 E).nox
structure Lp where
  (a row td ts tb o dx rl ol ll sl : Addr)
  (ns ds ss lf : List Int)
  r : Nat
  ra : List Addr
  (os sv : List V)
  (ovs vo : List Ov)
/-- all that stands at the head of a turn -/
structure LB (K : PySem.W.Frag) (C dC : Addr) (Tb : List (Addr × Str)) (H : Hp) (q : Lp) : Prop where
  RA : RowAt K H q.row q.a q.ns
  tb : Tabs Tb H
  hd : H q.td = some (.tup (q.ds.map V.int))
  hs : H q.ts = some (.tup (q.ss.map V.int))
  G : Good q.ds q.ss
  l4 : q.ds.length ≤ 4
  tl : Tbl H q.tb q.ds q.ss q.r
  B : Ob C dC H q.o q.dx q.rl q.ol q.r q.ra q.lf q.ds q.ss q.os
  hl : H q.ll = some (.lst (q.lf.map V.int))
  hv : H q.sl = some (.lst q.sv)
  vs : Ovs H q.sv q.vo
  eo : Ovs H q.os q.ovs
  lfe : q.lf = after q.ds q.ss q.r all30 q.ovs
  okv : ∀ v ∈ q.ovs, OvOk q.ds.length v
  nes : ∀ n : Nat, n ≤ q.ovs.length → after q.ds q.ss q.r all30 (q.ovs.take n) ≠ []
  nrow : q.row ≠ q.ol
  nll : q.ll ≠ q.ol
  nsl : q.sl ≠ q.ol
  na : q.a ≠ q.ol ∨ Wr K q.a (q.ns.map V.int)
theorem refs_ne {ra : List Addr} {a : Addr} {i m q : Int} : HO.lst (ra.map V.ref) ≠ .lst [.ref a, .int i, .int m, .int q] := fun z => by
  injection z with z
  match ra, z with
  | [], z => cases z
  | [_], z => cases z
  | _ :: _ :: _, z => cases z
theorem ints_ne {l : List Int} {a : Addr} {i m q : Int} : HO.lst (l.map V.int) ≠ .lst [.ref a, .int i, .int m, .int q] := fun z => by
  injection z with z
  match l, z with
  | [], z => cases z
  | _ :: _, z => cases z
theorem ovs_ne {H : Hp} {os : List V} {vs : List Ov} (h : Ovs H os vs) {a : Addr} {i m q : Int} : HO.lst os ≠ .lst [.ref a, .int i, .int m, .int q] := fun z => by
  injection z with z
  subst z
  have hl := h.1
  obtain ⟨t, e, _⟩ := h.2 1 (.int i) (vs[1]'(by rw [← hl]; show 1 < 4; decide)) rfl (List.getElem?_eq_getElem _)
  cases e
theorem Tbl.gen {H H' : Hp} {tb row a : Addr} {ds ss : List Int} {r : Nat} (t : Tbl H tb ds ss r) (k : ∀ c x, H c = some x → (∀ i m n : Int, x ≠ .lst [.ref a, .int i, .int m, .int n]) → (∀ ps, x ≠ .tbl ps) → H' c = some x) : Tbl H' tb ds ss r := by
  obtain ⟨kvs, h1, h2⟩ := t
  refine ⟨kvs, k _ _ h1 (fun _ _ _ z => by cases z) (fun _ z => by cases z), fun d d1 d2 => ?_⟩
  obtain ⟨l, la, a1, a2, a3, a4⟩ := h2 d d1 d2
  exact ⟨l, la, a1, k _ _ a2 (fun _ _ _ => refs_ne) (fun _ z => by cases z), a3, fun j b h => k _ _ (a4 j b h) (fun _ _ _ => ints_ne) (fun _ z => by cases z)⟩
section
variable {K : PySem.W.Frag} {C dC : Addr} {Tb : List (Addr × Str)} {H H' : Hp} {q : Lp}
theorem LB.same (b : LB K C dC Tb H q) (s : Same H H') : LB K C dC Tb H' q := ⟨b.RA.same s, b.tb.ext s, s _ _ b.hd, s _ _ b.hs, b.G, b.l4, b.tl.same s, b.B.same s, s _ _ b.hl, s _ _ b.hv, b.vs.mono fun _ _ e => s _ _ e, b.eo.mono fun _ _ e => s _ _ e, b.lfe, b.okv, b.nes, b.nrow, b.nll, b.nsl, b.na⟩
theorem LB.gen (b : LB K C dC Tb H q) (RA' : RowAt K H' q.row q.a q.ns) (tb' : Tabs Tb H') (k : ∀ c x, H c = some x → (∀ i m n : Int, x ≠ .lst [.ref q.a, .int i, .int m, .int n]) → (∀ ps, x ≠ .tbl ps) → H' c = some x) : LB K C dC Tb H' q := by
  have kt : ∀ t xs, H t = some (.tup xs) → H' t = some (.tup xs) := fun t xs e => k _ _ e (fun _ _ _ z => by cases z) (fun _ z => by cases z)
  have kr : ∀ a dx td ts es, RingAt C H a dx td ts es q.ss → RingAt C H' a dx td ts es q.ss := fun a dx td ts es R => ⟨k _ _ R.ob (fun _ _ _ z => by cases z) (fun _ z => by cases z), kt _ _ R.td, kt _ _ R.ts, R.ok⟩
  exact ⟨RA', tb', kt _ _ b.hd, kt _ _ b.hs, b.G, b.l4, b.tl.gen (row := q.row) k, ⟨k _ _ b.B.ob (fun _ _ _ z => by cases z) (fun _ z => by cases z), k _ _ b.B.hr (fun _ _ _ => refs_ne) (fun _ z => by cases z), k _ _ b.B.ho (fun _ _ _ => ovs_ne b.eo) (fun _ z => by cases z), b.B.rg.mono kr, b.B.ne, b.B.l30, b.B.rlt, b.B.l8, b.B.few⟩,
    k _ _ b.hl (fun _ _ _ => ints_ne) (fun _ z => by cases z), k _ _ b.hv (fun _ _ _ => ovs_ne b.vs) (fun _ z => by cases z), b.vs.mono kt, b.eo.mono kt, b.lfe, b.okv, b.nes, b.nrow, b.nll, b.nsl, b.na⟩
theorem LB.kp (b : LB K C dC Tb H q) (k : Kp q.row H H') (RA' : RowAt K H' q.row q.a q.ns) : LB K C dC Tb H' q := b.gen RA' (Tabs_kp b.RA k b.tb) fun _ _ e n _ => kp_of b.RA k e n
theorem LB.extN (b : LB K C dC Tb H q) (s : ExtN H H') (t : Tabs Tb H') : LB K C dC Tb H' q := b.gen (b.RA.extN s) t fun _ _ e _ n => s _ _ e n
/-- the list of results is written -/
theorem LB.wr (b : LB K C dC Tb H q) {gr : Addr} {o : HO} (hg : H gr = some (.lst [])) (n1 : gr ≠ q.sl) (n2 : gr ≠ q.a ∨ Wr K q.a (q.ns.map V.int)) (ne : q.os ≠ []) : LB K C dC Tb (upd H gr o) q := by
  have k1 : ∀ c z, H c = some z → z ≠ .lst [] → (upd H gr o) c = some z := fun c z e n => by
    rw [upd_ne (fun h => by rw [h, hg] at e; exact n (Option.some.inj e).symm)]
    exact e
  have kt : ∀ t zs, H t = some (.tup zs) → (upd H gr o) t = some (.tup zs) := fun t zs e => k1 _ _ e (by intro z; cases z)
  have kr : ∀ a dx td ts es, RingAt C H a dx td ts es q.ss → RingAt C (upd H gr o) a dx td ts es q.ss := fun a dx td ts es R => ⟨k1 _ _ R.ob (by intro z; cases z), kt _ _ R.td, kt _ _ R.ts, R.ok⟩
  have nrow : gr ≠ q.row := fun e => by
    obtain ⟨i, m, n, h, _⟩ := b.RA.ob
    rw [← e, hg] at h
    cases h
  have l2 := b.G.l2
  refine ⟨b.RA.upd' nrow n2, Tabs.wr b.tb hg, kt _ _ b.hd, kt _ _ b.hs, b.G, b.l4, ?_, ⟨k1 _ _ b.B.ob (by intro z; cases z), k1 _ _ b.B.hr (fun z => ?_), k1 _ _ b.B.ho (fun z => ne (HO.lst.inj z)), b.B.rg.mono kr, b.B.ne, b.B.l30, b.B.rlt, b.B.l8, b.B.few⟩,
    k1 _ _ b.hl (fun z => b.B.ne (List.map_eq_nil_iff.mp (HO.lst.inj z))), by rw [upd_ne n1.symm]; exact b.hv, b.vs.mono kt, b.eo.mono kt, b.lfe, b.okv, b.nes, b.nrow, b.nll, b.nsl, b.na⟩
  · obtain ⟨kvs, h1, h2⟩ := b.tl
    refine ⟨kvs, k1 _ _ h1 (by intro z; cases z), fun d d1 d2 => ?_⟩
    obtain ⟨l, la, a1, a2, a3, a4⟩ := h2 d d1 d2
    refine ⟨l, la, a1, k1 _ _ a2 (fun z => ?_), a3, fun j c h => k1 _ _ (a4 j c h) (fun z => ?_)⟩
    · have := List.map_eq_nil_iff.mp (HO.lst.inj z)
      rw [this] at a3
      simp at a3
      omega
    · have := congrArg List.length (List.map_eq_nil_iff.mp (HO.lst.inj z))
      rw [rowE_len] at this
      cases this
  · have := List.map_eq_nil_iff.mp (HO.lst.inj z)
    have h := b.B.rg.1
    rw [this] at h
    exact b.B.ne (List.length_eq_zero_iff.mp h.symm)
/-- after an observation that agrees -/
abbrev Lp.put (q : Lp) (nl t gl : Addr) (rb : List Addr) (lg : List Int) (v : Ov) : Lp := { q with rl := nl, ra := rb, lf := lg, os := q.os ++ [.ref t], ll := gl, ovs := q.ovs ++ [v] }
theorem LB.seen {nl t gl : Addr} {rb : List Addr} {v : Ov} (b : LB K C dC Tb H q) (ko : KO q.o q.ol H H') (lg : q.lf.filter (agr q.ds q.ss q.r v.e v.k v.x v.day) ≠ [])
    (ht : H' t = some (.tup [.str (oNm v.e), .int v.k, .int v.x, .int v.day])) (B' : Ob C dC H' q.o q.dx nl q.ol q.r rb (q.lf.filter (agr q.ds q.ss q.r v.e v.k v.x v.day)) q.ds q.ss (q.os ++ [.ref t])) (hg : H gl = some (.lst ((q.lf.filter (agr q.ds q.ss q.r v.e v.k v.x v.day)).map V.int))) (ng : gl ≠ q.ol) (ov : OvOk q.ds.length v) :
    LB K C dC Tb H' (q.put nl t gl rb (q.lf.filter (agr q.ds q.ss q.r v.e v.k v.x v.day)) v) := by
  have k1 : ∀ c z, H c = some z → c ≠ q.ol → (∀ C dx fs, z ≠ .ins C dx fs) → H' c = some z := fun c z e n ni => ko c z e (fun h => by
    have := b.B.ob
    rw [← h, e] at this
    exact ni _ _ _ (Option.some.inj this)) n
  have kt : ∀ t zs, H t = some (.tup zs) → H' t = some (.tup zs) := fun t zs e => k1 _ _ e (ne_of e b.B.ho (by intro z; cases z)) (by intro _ _ _ z; cases z)
  have eaf : (q.lf.filter (agr q.ds q.ss q.r v.e v.k v.x v.day)) = after q.ds q.ss q.r all30 (q.ovs ++ [v]) := by rw [after_snoc, ← b.lfe]
  refine ⟨⟨?_, ?_, b.RA.ne⟩, fun p hp => ?_, kt _ _ b.hd, kt _ _ b.hs, b.G, b.l4, ?_, B', k1 _ _ hg ng (by intro _ _ _ z; cases z), k1 _ _ b.hv b.nsl (by intro _ _ _ z; cases z), b.vs.mono kt, (b.eo.mono kt).snoc ht, eaf, fun u hu => ?_, fun n hn => ?_, b.nrow, ng, b.nsl, b.na⟩
  · obtain ⟨i, m, n, h, h0⟩ := b.RA.ob
    exact ⟨i, m, n, k1 _ _ h b.nrow (by intro _ _ _ z; cases z), h0⟩
  · rcases b.na with na | na
    · rcases b.RA.sc with (z | ⟨o, z⟩) | z
      · exact .inl (.inl (k1 _ _ z na (by intro _ _ _ z; cases z)))
      · exact .inl (.inr ⟨o, k1 _ _ z na (by intro _ _ _ z; cases z)⟩)
      · exact .inr z
    · exact .inr na
  · obtain ⟨ps, e1, e2, e3⟩ := b.tb p hp
    refine ⟨ps, k1 _ _ e1 (ne_of e1 b.B.ho (by intro z; cases z)) (by intro _ _ _ z; cases z), e2, fun pos cv hc => ?_⟩
    obtain ⟨c, c1, c2⟩ := e3 pos cv hc
    refine ⟨c, c1, k1 _ _ c2 (ne_of c2 b.B.ho (by intro z; unfold CodeO at z; cases z)) (by intro _ _ _ z; unfold CodeO at z; cases z)⟩
  · obtain ⟨kvs, h1, h2⟩ := b.tl
    have l2 := b.G.l2
    refine ⟨kvs, k1 _ _ h1 (ne_of h1 b.B.ho (by intro z; cases z)) (by intro _ _ _ z; cases z), fun d d1 d2 => ?_⟩
    obtain ⟨l, la, a1, a2, a3, a4⟩ := h2 d d1 d2
    have nrow : ∀ (j : Nat) (c : Addr), la[j]? = some c → c ≠ q.ol := fun j c h e => by
      have h6 := a4 j c h
      rw [e, b.B.ho] at h6
      have h7 := HO.lst.inj (Option.some.inj h6)
      have hl := b.eo.1
      have h8 : q.os.length = 6 := by rw [h7, List.length_map, rowE_len]; rfl
      obtain ⟨u, e1, _⟩ := b.eo.2 0 _ _ (List.getElem?_eq_getElem (by omega)) (List.getElem?_eq_getElem (by omega : 0 < q.ovs.length))
      have h9 : q.os[0]? = some (V.int (Rm.E (at' (q.ds.set q.r d)) (at' q.ss) j 0)) := by
        rw [h7, List.getElem?_map]
        have := rowE_get (ds := q.ds.set q.r d) (ss := q.ss) (j := j) (n := 0) (c := 6) (by decide)
        rw [this]
        rfl
      rw [List.getElem?_eq_getElem (by omega), e1] at h9
      cases h9
    refine ⟨l, la, a1, k1 _ _ a2 (fun e => ?_) (by intro _ _ _ z; cases z), a3, fun j c h => k1 _ _ (a4 j c h) (nrow j c h) (by intro _ _ _ z; cases z)⟩
    have h6 := a2
    rw [e, b.B.ho] at h6
    have h7 := HO.lst.inj (Option.some.inj h6)
    have hl := b.eo.1
    have h8 : q.os.length = la.length := by rw [h7, List.length_map]
    obtain ⟨u, e1, e2⟩ := b.eo.2 0 _ _ (List.getElem?_eq_getElem (by omega)) (List.getElem?_eq_getElem (by omega : 0 < q.ovs.length))
    have h9 : q.os[0]? = some (V.ref (la[0]'(by omega))) := by
      rw [h7, List.getElem?_map, List.getElem?_eq_getElem (by omega)]
      rfl
    rw [List.getElem?_eq_getElem (by omega), e1] at h9
    have e3 := V.ref.inj (Option.some.inj h9)
    have h10 := a4 0 _ (List.getElem?_eq_getElem (by omega))
    rw [← e3, e2] at h10
    cases h10
  · rcases List.mem_append.mp hu with hu | hu
    · exact b.okv u hu
    · rw [List.mem_singleton.mp hu]
      exact ov
  · show after q.ds q.ss q.r all30 ((q.ovs ++ [v]).take n) ≠ []
    by_cases hlt : n ≤ q.ovs.length
    · rw [List.take_append_of_le_length hlt]
      exact b.nes n hlt
    · have hn' : n ≤ (q.ovs ++ [v]).length := hn
      rw [List.length_append] at hn'
      rw [List.take_of_length_le (by rw [List.length_append]; show q.ovs.length + 1 ≤ n; omega), ← eaf]
      exact lg
end
theorem end_ok {ds ss : List Int} (G : Good ds ss) {k x : Int} (x0 : 0 ≤ x) (x1 : x < 6) : 1 ≤ Rm.E (at' ds) (at' ss) k x ∧ Rm.E (at' ds) (at' ss) k x ≤ 4000 := by
  obtain ⟨M, hM, hMu⟩ := G.max
  have RR := G.ring hM hMu
  have h1 := RR.E1 k x0
  have h2 := RR.d1 k
  have l8 := G.l8
  have l2 := G.l2
  have h3 := E_le RR (fun i => (G.d1 _ (at_mem (by omega) i)).2) k x0
  have h4 : (x.toNat + 1) * ds.length ≤ 6 * 8 := Nat.mul_le_mul (by omega) l8
  omega
abbrev sg (q : Lp) (y6 y10 y11 y12 y13 y14 y15 y16 y17 y18 y19 : Option V) : L2.St := [some (.ref q.a), some (.ref q.row), some (.ref q.td), some (.ref q.ts), some (.int (q.r : Int)), some (.ref q.tb), y6, some (.ref q.o), some (.ref q.ll), some (.ref q.sl), y10, y11, y12, y13, y14, y15, y16, y17, y18, y19]
theorem set_self {ds : List Int} {r : Nat} (h : r < ds.length) : ds.set r (at' ds r) = ds := by
  have e : ds[r]? = some (at' ds r) := by
    rw [List.getElem?_eq_getElem h]
    exact congrArg some (at_nat (List.getElem?_eq_getElem h)).symm
  refine List.ext_getElem? fun i => ?_
  by_cases hi : i = r
  · subst hi
    rw [List.getElem?_set_self h, e]
  · rw [List.getElem?_set_ne (Ne.symm hi)]
section
variable {P : Program} {w : World} {K : PySem.W.Frag} {mg : Str → Option Value} {base : Heap}
variable {f : Addr} {cT PT : Addr} {A : Around} {outer : List Env} {s : Shared} {H0 : Hp} {E : XK}
theorem lx_f0 {Tb : List (Addr × Str)} (T : Tx K mg) (hr : Room 11 (XL P w K mg base f (.ref cT) A outer s H0 E).A) : ∃ tt : TS, PS (XL P w K mg base f (.ref cT) A outer s H0 E) (fl 0) tt ∧
    ∀ (D : Ends) (H : Hp) (q : Lp) (y6 y10 y11 y12 y13 y14 y15 y16 y17 y18 y19 : Option V), LB K T.C T.dC Tb H q → (∀ H' (k x : Nat), LB K T.C T.dC Tb H' q → k < q.ds.length → x < 6 → D.nx (sg q y6 y10 (some (.int (k : Int))) (some (.int (x : Int))) y13 y14 y15 y16 y17 y18 y19) H') → tt D (sg q y6 y10 y11 y12 y13 y14 y15 y16 y17 y18 y19) H := by
  have nd := sc_law.nd
  refine ⟨_, ps_asg (pe_tup (pa_cons (pe_call (ok_taken T) (hr.mono (by decide : 1 ≤ 11)) (by rfl) T.g_ltaken T.F_ltaken.kp T.b_ltaken .nil pass0 (pa_cons (pv 1) (pa_cons (pe_callB call_len_seq (by rfl) T.z_len PySem.boot_len (pa_cons (pv 2) pa_nil)) pa_nil))) (pa_cons (pe_call (ok_taken T) (hr.mono (by decide : 1 ≤ 11)) (by rfl) T.g_ltaken T.F_ltaken.kp T.b_ltaken .nil pass0 (pa_cons (pv 1) (pa_cons pe_int pa_nil))) pa_nil))) (pg_tup rfl (pgs_cons (pg_name (i := 11) nd rfl (.inr rfl)) (pgs_cons (pg_name (i := 12) nd rfl (.inr rfl)) pgs_nil))), ?_⟩
  intro D H q y6 y10 y11 y12 y13 y14 y15 y16 y17 y18 y19 b nx
  have l2 := b.G.l2
  have l8 := b.G.l8
  refine ⟨_, rfl, _, rfl, q.td, _, rfl, .inr (.of b.hd), q.row, q.a, q.ns, _, rfl, b.RA, by rw [List.length_map]; omega, by rw [List.length_map]; omega, fun v1 H1 v10 v11 RA1 k1 => ?_⟩
  rw [List.length_map] at v11
  have b1 := b.kp k1 RA1
  refine ⟨_, rfl, q.row, q.a, q.ns, _, rfl, b1.RA, by decide, by decide, fun v2 H2 v20 v21 RA2 k2 => ⟨(by show 2 ≤ sizeLine; decide), fun t ht => ?_⟩⟩
  have b2 := b1.kp k2 RA2
  have s3 := same_upd (o := .tup [.int v1, .int v2]) ht
  refine ⟨t, _, rfl, .of upd_same, rfl, _, _, rfl, _, _, rfl, rfl, ?_⟩
  have h := nx _ v1.toNat v2.toNat (b2.same s3) (by omega) (by omega)
  rw [show ((v1.toNat : Nat) : Int) = v1 by omega, show ((v2.toNat : Nat) : Int) = v2 by omega] at h
  exact h
theorem lx_f1 {Tb : List (Addr × Str)} (T : Tx K mg) (hr : Room 11 (XL P w K mg base f (.ref cT) A outer s H0 E).A) : ∃ tt : TS, PS (XL P w K mg base f (.ref cT) A outer s H0 E) (fl 1) tt ∧
    ∀ (D : Ends) (H : Hp) (q : Lp) (k x : Nat) (y6 y10 y13 y14 y15 y16 y17 y18 y19 : Option V), LB K T.C T.dC Tb H q → k < q.ds.length → x < 6 → (∀ H' (day : Int), LB K T.C T.dC Tb H' q → 0 ≤ day → day ≤ 5000 → D.nx (sg q y6 y10 (some (.int (k : Int))) (some (.int (x : Int))) (some (.int day)) y14 y15 y16 y17 y18 y19) H') → tt D (sg q y6 y10 (some (.int (k : Int))) (some (.int (x : Int))) y13 y14 y15 y16 y17 y18 y19) H := by
  have nd := sc_law.nd
  have hu1 : (XL P w K mg base f (.ref cT) A outer s H0 E).A.units + 1 < cLine := Nat.lt_of_le_of_lt (Nat.add_le_add_left (by decide : 1 ≤ 64) _) hr.units
  refine ⟨_, ps_set (i := 13) nd rfl (.inr rfl) (pe_op op_add (pe_ix ix_list (pe_ix ix_list (pe_dget hu1 (pv 5) (pe_ix ix_tup (pv 2) (pv 4) (fun _ _ => rfl)) (fun _ _ => rfl)) (pv 11) (fun _ _ => rfl)) (pv 12) (fun _ _ => rfl))
    (pe_ix ix_list (pe_lst (pa_cons pe_int (pa_cons pe_int (pa_cons pe_int (pa_cons pe_int (pa_cons (pe_op op_sub pe_int pe_int) (pa_cons (pe_call (ok_taken T) (hr.mono (by decide : 1 ≤ 11)) (by rfl) T.g_ltaken T.F_ltaken.kp T.b_ltaken .nil pass0 (pa_cons (pv 1) (pa_cons pe_int pa_nil))) pa_nil)))))))
      (pe_call (ok_taken T) (hr.mono (by decide : 1 ≤ 11)) (by rfl) T.g_ltaken T.F_ltaken.kp T.b_ltaken .nil pass0 (pa_cons (pv 1) (pa_cons pe_int pa_nil))) (fun _ _ => rfl))), ?_⟩
  intro D H q k x y6 y10 y13 y14 y15 y16 y17 y18 y19 b k1 x1 nx
  have l2 := b.G.l2
  have l8 := b.G.l8
  have rlt := b.B.rlt
  have hd0 : q.ds[q.r]? = some (at' q.ds q.r) := by
    rw [List.getElem?_eq_getElem rlt]
    exact congrArg some (at_nat (List.getElem?_eq_getElem rlt)).symm
  have hd1 := b.G.d1 _ (List.mem_of_getElem? hd0)
  obtain ⟨kvs, t1, t2⟩ := b.tl
  obtain ⟨l, la, a1, a2, a3, a4⟩ := t2 (at' q.ds q.r) hd1.1 hd1.2
  obtain ⟨a, ga⟩ : ∃ a, la[k]? = some a := ⟨_, List.getElem?_eq_getElem (by omega)⟩
  have eE : En q.ds q.ss q.r (at' q.ds q.r) k x = Rm.E (at' q.ds) (at' q.ss) k x := by
    unfold En
    rw [set_self rlt]
  obtain ⟨e1, e2⟩ := end_ok b.G (k := (k : Int)) (x := (x : Int)) (by omega) (by omega)
  rw [← eE] at e1 e2
  refine ⟨_, rfl, _, rfl, _, rfl, q.td, _, _, _, rfl, rfl, .of b.hd, at_ix (by omega) (by omega), q.tb, _, rfl, get_of t1 a1 rfl, _, rfl, l, _, _, _, rfl, rfl, .of a2, ref_at ga, _, rfl, a, _, _, _, rfl, rfl, .of (a4 k a ga), row_at x1, ?_⟩
  refine ⟨_, _, rfl, rfl, _, rfl, q.row, q.a, q.ns, _, rfl, b.RA, by decide, by decide, fun v1 H1 v10 v11 RA1 k1' => ⟨(by show 6 ≤ sizeLine; decide), fun l3 hl3 => ?_⟩⟩
  have b1 := b.kp k1' RA1
  have s1 := same_upd (o := .lst [.int 0, .int 0, .int 0, .int 1, .int (0 - 1), .int v1]) hl3
  have nl3 := b1.RA.nn hl3
  have b2 := b1.same s1
  refine ⟨_, rfl, q.row, q.a, q.ns, _, rfl, b2.RA, by decide, by decide, fun v2 H2 v20 v21 RA2 k2' => ?_⟩
  have b3 := b2.kp k2' RA2
  obtain ⟨z, hz, z1, z2⟩ : ∃ z : Int, atI [V.int 0, V.int 0, V.int 0, V.int 1, V.int (0 - 1), V.int v1] v2 = some (.int z) ∧ -1 ≤ z ∧ z ≤ 30 := by
    have : v2 = 0 ∨ v2 = 1 ∨ v2 = 2 ∨ v2 = 3 ∨ v2 = 4 ∨ v2 = 5 := by omega
    rcases this with rfl | rfl | rfl | rfl | rfl | rfl
    · exact ⟨0, rfl, by decide, by decide⟩
    · exact ⟨0, rfl, by decide, by decide⟩
    · exact ⟨0, rfl, by decide, by decide⟩
    · exact ⟨1, rfl, by decide, by decide⟩
    · exact ⟨-1, rfl, by decide, by decide⟩
    · exact ⟨v1, rfl, by omega, by omega⟩
  refine ⟨l3, _, v2, _, rfl, rfl, .of (k2' _ _ upd_same nl3), hz, _, _, rfl, rfl, ?_⟩
  exact nx _ _ b3 (by omega) (by omega)
theorem lx_f2 {Tb : List (Addr × Str)} (T : Tx K mg) (hr : Room 11 (XL P w K mg base f (.ref cT) A outer s H0 E).A) : ∃ tt : TS, PS (XL P w K mg base f (.ref cT) A outer s H0 E) (fl 2) tt ∧
    ∀ (D : Ends) (H : Hp) (q : Lp) (k x : Nat) (day : Int) (y6 y10 y14 y15 y16 y17 y18 y19 : Option V), LB K T.C T.dC Tb H q → (∀ H' (nt : Addr) (i : Bool), LB K T.C T.dC Tb H' q → H' nt = some (.tup [.str (oNm i), .int (k : Int), .int (x : Int), .int day]) → D.nx (sg q y6 y10 (some (.int (k : Int))) (some (.int (x : Int))) (some (.int day)) (some (.ref nt)) y15 y16 y17 y18 y19) H') → tt D (sg q y6 y10 (some (.int (k : Int))) (some (.int (x : Int))) (some (.int day)) y14 y15 y16 y17 y18 y19) H := by
  have nd := sc_law.nd
  refine ⟨_, ps_set (i := 14) nd rfl (.inl rfl) (pe_tup (pa_cons (pe_ix ix_list (pe_lst (pa_cons pe_str (pa_cons pe_str pa_nil))) (pe_call (ok_taken T) (hr.mono (by decide : 1 ≤ 11)) (by rfl) T.g_ltaken T.F_ltaken.kp T.b_ltaken .nil pass0 (pa_cons (pv 1) (pa_cons pe_int pa_nil))) (fun _ _ => rfl)) (pa_cons (pv 11) (pa_cons (pv 12) (pa_cons (pv 13) pa_nil))))), ?_⟩
  intro D H q k x day y6 y10 y14 y15 y16 y17 y18 y19 b nx
  refine ⟨(by show 2 ≤ sizeLine; decide), fun l3 hl3 => ?_⟩
  have s1 := same_upd (o := .lst [.str "see_end", .str "see_open"]) hl3
  have nl3 := b.RA.nn hl3
  have b2 := b.same s1
  refine ⟨_, rfl, q.row, q.a, q.ns, _, rfl, b2.RA, by decide, by decide, fun v2 H2 v20 v21 RA2 k2' => ?_⟩
  have b3 := b2.kp k2' RA2
  obtain ⟨i, hz⟩ : ∃ i : Bool, atI [V.str "see_end", V.str "see_open"] v2 = some (.str (oNm i)) := by
    have : v2 = 0 ∨ v2 = 1 := by omega
    rcases this with rfl | rfl
    · exact ⟨true, rfl⟩
    · exact ⟨false, rfl⟩
  refine ⟨l3, _, v2, _, rfl, rfl, .of (k2' _ _ upd_same nl3), hz, _, rfl, _, rfl, _, rfl, (by show 4 ≤ sizeLine; decide), fun nt hnt => ?_⟩
  have s4 := same_upd (o := .tup [.str (oNm i), .int (k : Int), .int (x : Int), .int day]) hnt
  exact nx _ nt i (b3.same s4) upd_same
end
end Rp
namespace Rp
open PySem PySem.Spec PyProof.Rows L2 Rz Rm Rt Rl LamX
noncomputable abbrev Lft (q : Lp) (i : Bool) (k x day : Int) : List Int := q.lf.filter (agr q.ds q.ss q.r i k x day)
/-- the note that was drawn -/
def Nt (H : Hp) (nt : Addr) (i : Bool) (k x : Nat) (day : Int) : Prop := H nt = some (.tup [.str (oNm i), .int (k : Int), .int (x : Int), .int day])
theorem onm_end (i : Bool) : decide (V.str (oNm i) = V.str "see_end") = i := by cases i <;> decide +kernel
def leL : Nat → Expr
  | 0 => lamOf (fl 5)
  | _ => lamOf (fl 6)
theorem leL_ok : ∀ j, LamP N_law (defScope s_law) (lpS (leL j))
  | 0 => lamP_by (by decide +kernel)
  | _ + 1 => (lamP_by (by decide +kernel) : LamP N_law (defScope s_law) (lpS (lamOf (fl 6))))
theorem bdL (j : Nat) (h : j < 2) : Bd0 (leL j) := by
  have hj : j = 0 ∨ j = 1 := by omega
  rcases hj with rfl | rfl <;> exact fun _ _ _ _ _ _ _ => .of_eq rfl
section
variable {P : Program} {w : World} {K : PySem.W.Frag} {mg : Str → Option Value} {base : Heap}
variable {f : Addr} {cT PT PU : Addr} {A : Around} {outer : List Env} {s : Shared} {H0 : Hp} {E : XK}
/-- works = [lambda: ..] -/
theorem mk_genL {le : Nat → Expr} {params : Arguments} {body : Expr} {scope : Scope} {p1 p2 lp p3 : Pos} (TB : TabB base mg cT PT) (np : PT ≠ PU) (hle : le 0 = .Lambda params body scope lp) (L : LamP N_law (defScope s_law) scope) (hdef : defaultsOf params (XL P w K mg base f (.ref cT) A outer s H0 E).env = ([], [])) (bd : Bd0 (le 0)) (hs : swapsWith (.List [.Lambda params body scope lp] p2) (some (.Name "_law_works" p1)) p3.line (XL P w K mg base f (.ref cT) A outer s H0 E).env = pure false) :
    ∃ tt : TS, PS (XL P w K mg base f (.ref cT) A outer s H0 E) (.Assign [.Name "_law_works" p1] (.List [.Lambda params body scope lp] p2) p3) tt ∧
    ∀ (D : Ends) (H : Hp) (σ : L2.St), Tabs (Tb2 PT PU) H → (∀ H' wl g, RJ ((XL P w K mg base f (.ref cT) A outer s H0 E).env.qual ++ "<lambda>") (XL P w K mg base f (.ref cT) A outer s H0 E).env.cells le (Tb2 PT PU) H H' wl [g] → D.nx (σ.set 17 (some (.ref wl))) H') → tt D σ H := by
  have nd := sc_law.nd
  refine ⟨_, ps_set (i := 17) nd rfl (.inl rfl) (pe_lst (pa_cons (pe_lam0 TB rfl List.mem_cons_self (hu1 np) (fun y hy z => L.free y hy z) hdef) pa_nil)) hs, ?_⟩
  intro D H σ tb nx
  refine ⟨tb, fun g c H1 x1 t1 _ h1 h2 => ⟨(by show 1 ≤ sizeLine; decide), fun wl hwl => ?_⟩⟩
  have s2 := same_upd (o := .lst [.ref g]) hwl
  refine nx _ wl g ⟨x1.trans (ExtN.of s2), t1.ext s2, fun b o h n z => ?_, upd_same, fun i g' hi => ?_⟩
  · have := x1 _ _ h n
    rw [z, hwl] at this
    cases this
  · cases i with
    | zero =>
      cases hi
      have kk : KLat ((XL P w K mg base f (.ref cT) A outer s H0 E).env.qual ++ "<lambda>") (XL P w K mg base f (.ref cT) A outer s H0 E).env.cells H1 (le 0) g := by
        rw [hle] at bd ⊢
        exact ⟨none, c, h1, h2, bd⟩
      exact kk.extN (ExtN.of s2)
    | succ i => simp at hi
/-- works.append(lambda: ..) -/
theorem ap_genL {le : Nat → Expr} {params : Arguments} {body : Expr} {scope : Scope} {p1 p2 lp p3 p4 : Pos} (j : Nat) (TB : TabB base mg cT PT) (np : PT ≠ PU) (hle : le j = .Lambda params body scope lp) (L : LamP N_law (defScope s_law) scope) (hdef : defaultsOf params (XL P w K mg base f (.ref cT) A outer s H0 E).env = ([], [])) (bd : Bd0 (le j)) (hj : j ≤ 100) (hl : (p2.endLine == p3.line) = true) (hs : swapsWith (.Call (.Attribute (.Name "_law_works" p1) "append" p2) [.Lambda params body scope lp] [] p3) none p4.line (XL P w K mg base f (.ref cT) A outer s H0 E).env = pure false) :
    ∃ tt : TS, PS (XL P w K mg base f (.ref cT) A outer s H0 E) (.Expr (.Call (.Attribute (.Name "_law_works" p1) "append" p2) [.Lambda params body scope lp] [] p3) p4) tt ∧
    ∀ (D : Ends) (H1 H : Hp) (σ : L2.St) (wl : Addr) (fs : List Addr), σ[17]? = some (some (.ref wl)) → fs.length = j → RJ ((XL P w K mg base f (.ref cT) A outer s H0 E).env.qual ++ "<lambda>") (XL P w K mg base f (.ref cT) A outer s H0 E).env.cells le (Tb2 PT PU) H1 H wl fs → (∀ H' g, RJ ((XL P w K mg base f (.ref cT) A outer s H0 E).env.qual ++ "<lambda>") (XL P w K mg base f (.ref cT) A outer s H0 E).env.cells le (Tb2 PT PU) H1 H' wl (fs ++ [g]) → D.nx σ H') → tt D σ H := by
  have nd := sc_law.nd
  refine ⟨_, ps_expr (pe_bm PySem.F.plainAttrs_list PySem.F.slot_list_append PySem.F.type_list_append mt_append (pv 17) (pa_cons (pe_lam0 TB rfl List.mem_cons_self (hu1 np) (fun y hy z => L.free y hy z) hdef) pa_nil) (hline := hl)) hs, ?_⟩
  intro D H1 H σ wl fs h3 hfs r nx
  refine ⟨_, h3, .inl ⟨rfl, _, SqL.of r.h⟩, r.t, fun g c H2 x2 t2 _ k1 k2 => ?_⟩
  have kk : KLat ((XL P w K mg base f (.ref cT) A outer s H0 E).env.qual ++ "<lambda>") (XL P w K mg base f (.ref cT) A outer s H0 E).env.cells H2 (le fs.length) g := by
    rw [hfs]
    rw [hle] at bd ⊢
    exact ⟨none, c, k1, k2, bd⟩
  refine ⟨wl, _, _, rfl, rfl, x2 _ _ r.h (by intro ps z; cases z), by rw [List.length_map, hfs]; exact small1000 (by omega), nx _ g (r.add x2 t2 kk)⟩
theorem lx_f3 {Tb : List (Addr × Str)} (T : Tx K mg) (hr : Room 11 (XL P w K mg base f (.ref cT) A outer s H0 E).A) : ∃ tt : TS, PS (XL P w K mg base f (.ref cT) A outer s H0 E) (fl 3) tt ∧
    ∀ (D : Ends) (H : Hp) (q : Lp) (k x : Nat) (day : Int) (nt : Addr) (i : Bool) (y6 y10 y15 y16 y17 y18 y19 : Option V), LB K T.C T.dC Tb H q → Nt H nt i k x day → k < q.ds.length → x < 6 → (∀ H' gl, LB K T.C T.dC Tb H' q → Nt H' nt i k x day → H' gl = some (.lst ((Lft q i k x day).map V.int)) → gl ≠ q.ol → D.nx (sg q y6 y10 (some (.int (k : Int))) (some (.int (x : Int))) (some (.int day)) (some (.ref nt)) (some (.ref gl)) y16 y17 y18 y19) H') → tt D (sg q y6 y10 (some (.int (k : Int))) (some (.int (x : Int))) (some (.int day)) (some (.ref nt)) y15 y16 y17 y18 y19) H := by
  have nd := sc_law.nd
  have hu1 : (XL P w K mg base f (.ref cT) A outer s H0 E).A.units + 1 < cLine := Nat.lt_of_le_of_lt (Nat.add_le_add_left (by decide : 1 ≤ 64) _) hr.units
  refine ⟨_, ps_if (pt_cmpR op_eq (pe_ix ix_tup (pv 14) pe_int (fun _ _ => rfl)) pe_str (nomark _)) (pss_one (ps_setLc (i := 15) (own := [("_law_k", 6)]) rfl nd rfl rfl (sw_true rfl rfl rfl (by decide +kernel)) (pi_list (pv 8)) (blkOk_by (N := N_law) (sc := defScope s_law) (by decide +kernel)) (fun _ _ _ _ _ => pg_name (i := 6) nd rfl (.inl rfl)) (fun _ _ _ _ _ => pts_one (pt_cmpR op_eq (pe_ix (r := rIxL K) ix_list (pe_ix (r := rIxL K) ix_list (pe_dget hu1 (pv 5) (pv 6) (fun _ _ => rfl)) (pv 11) (fun _ _ => rfl)) (pv 12) (fun _ _ => rfl)) (pv 13) (nomark _))) (fun _ _ _ _ _ => pv 6)))
    (pss_one (ps_setLc (i := 15) (own := [("_law_k", 6)]) rfl nd rfl rfl (sw_true rfl rfl rfl (by decide +kernel)) (pi_list (pv 8)) (blkOk_by (N := N_law) (sc := defScope s_law) (by decide +kernel)) (fun _ _ _ _ _ => pg_name (i := 6) nd rfl (.inl rfl)) (fun _ _ _ _ _ => pts_one (pt_cmpR op_gt (pe_ix (r := rIxL K) ix_list (pe_ix (r := rIxL K) ix_list (pe_dget hu1 (pv 5) (pv 6) (fun _ _ => rfl)) (pv 11) (fun _ _ => rfl)) (pv 12) (fun _ _ => rfl)) (pv 13) (nomark _))) (fun _ _ _ _ _ => pv 6))), ?_⟩
  intro D H q k x day nt i y6 y10 y15 y16 y17 y18 y19 b hn k1 x1 nx
  have l8 := b.G.l8
  have l30 := b.B.l30
  refine ⟨_, rfl, nt, _, 0, _, rfl, rfl, .of hn, atI_nat (j := 0) rfl, rfl, _, rfl, ?_⟩
  rw [onm_end]
  have fin : ∀ gl H', gl ≠ q.ol → Same H H' → H' gl = some (.lst (((q.lf.take q.lf.length).filter (agr q.ds q.ss q.r i k x day)).map V.int)) → D.nx (sg q y6 y10 (some (.int (k : Int))) (some (.int (x : Int))) (some (.int day)) (some (.ref nt)) (some (.ref gl)) y16 y17 y18 y19) H' := fun gl H' ng s1 h1 => by
    rw [List.take_length] at h1
    exact nx H' gl (b.same s1) (s1 _ _ hn) h1 ng
  have len : ∀ n, (((q.lf.take n).filter (agr q.ds q.ss q.r i k x day)).map V.int).length < sizeLine := fun n => by
    rw [List.length_map]
    exact small1000 (Nat.le_trans (List.length_filter_le _ _) (by rw [List.length_take]; omega))
  have stepY : ∀ {gl : Addr} {H2 : Hp} {n : Nat} {d : Int}, H gl = none → Same H H2 → q.lf[n]? = some d → H2 gl = some (.lst (((q.lf.take n).filter (agr q.ds q.ss q.r i k x day)).map V.int)) → agr q.ds q.ss q.r i k x day d = true → Same H (upd H2 gl (.lst (((q.lf.take n).filter (agr q.ds q.ss q.r i k x day)).map V.int ++ [V.int d]))) ∧ (upd H2 gl (.lst (((q.lf.take n).filter (agr q.ds q.ss q.r i k x day)).map V.int ++ [V.int d]))) gl = some (.lst (((q.lf.take (n + 1)).filter (agr q.ds q.ss q.r i k x day)).map V.int)) := fun {gl H2 n d} hg s2 hd h2 ea => by
    refine ⟨fun c z e => by rw [upd_ne (ne_of_none e hg)]; exact s2 c z e, ?_⟩
    rw [upd_same, List.take_add_one, hd, List.filter_append, map_snoc]
    show _ = some (HO.lst ((_ ++ List.filter _ [d]).map V.int))
    rw [List.filter_cons_of_pos ea, List.filter_nil]
  have stepN : ∀ {gl : Addr} {H2 : Hp} {n : Nat} {d : Int}, q.lf[n]? = some d → H2 gl = some (.lst (((q.lf.take n).filter (agr q.ds q.ss q.r i k x day)).map V.int)) → agr q.ds q.ss q.r i k x day d = false → H2 gl = some (.lst (((q.lf.take (n + 1)).filter (agr q.ds q.ss q.r i k x day)).map V.int)) := fun {gl H2 n d} hd h2 ea => by
    rw [h2, List.take_add_one, hd, List.filter_append]
    show _ = some (HO.lst ((_ ++ List.filter _ [d]).map V.int))
    rw [List.filter_cons_of_neg (by rw [ea]; decide), List.filter_nil, List.append_nil]
  cases i with
  | true =>
    refine iteT ⟨_, rfl, q.ll, rfl, ⟨_, .of b.hl⟩, fun gl hgl => ?_⟩
    have ng : gl ≠ q.ol := (ne_of_none b.B.ho hgl).symm
    refine lc_list (xs := q.lf.map V.int) (fun n H' => Same H H' ∧ H' gl = some (.lst (((q.lf.take n).filter (agr q.ds q.ss q.r true k x day)).map V.int))) ⟨same_upd hgl, upd_same⟩ (fun n H' _ p => .of (p.1 _ _ b.hl)) ?_ (fun H1 p => fin gl H1 ng p.1 (by have := p.2; rw [List.length_map] at this; exact this))
    rintro n v H2 hn' ⟨s2, h2⟩
    obtain ⟨d, hd, rfl⟩ := get_int hn'
    obtain ⟨d1, d2⟩ := b.B.lf30 hd
    obtain ⟨kvs, t1, t2⟩ := b.tl.same s2
    obtain ⟨l, la, a1, a2, a3, a4⟩ := t2 d d1 d2
    obtain ⟨a, ga⟩ : ∃ a, la[k]? = some a := ⟨_, List.getElem?_eq_getElem (by omega)⟩
    refine ⟨rfl, ?_⟩
    refine ⟨_, rfl, _, rfl, q.tb, _, rfl, get_of t1 a1 rfl, _, rfl, l, _, _, _, rfl, rfl, .of a2, ref_at ga, _, rfl, a, _, _, _, rfl, rfl, .of (a4 k a ga), row_at x1, _, rfl, rfl, _, rfl, ?_⟩
    have eq1 : agr q.ds q.ss q.r true k x day d = decide (V.int (En q.ds q.ss q.r d k x) = V.int day) := by
        unfold agr
        rw [if_pos rfl]
        exact decide_eq_decide.mpr ⟨fun h => by rw [h], fun h => V.int.inj h⟩
    cases ea : agr q.ds q.ss q.r true k x day d with
    | true =>
      rw [← eq1, ea]
      show if true = true then _ else _
      rw [if_pos rfl]
      exact ⟨_, rfl, _, h2, len n, stepY hgl s2 hd h2 ea⟩
    | false =>
      rw [← eq1, ea]
      show if false = true then _ else _
      rw [if_neg Bool.false_ne_true]
      exact ⟨s2, stepN hd h2 ea⟩
  | false =>
    refine iteF ⟨_, rfl, q.ll, rfl, ⟨_, .of b.hl⟩, fun gl hgl => ?_⟩
    have ng : gl ≠ q.ol := (ne_of_none b.B.ho hgl).symm
    refine lc_list (xs := q.lf.map V.int) (fun n H' => Same H H' ∧ H' gl = some (.lst (((q.lf.take n).filter (agr q.ds q.ss q.r false k x day)).map V.int))) ⟨same_upd hgl, upd_same⟩ (fun n H' _ p => .of (p.1 _ _ b.hl)) ?_ (fun H1 p => fin gl H1 ng p.1 (by have := p.2; rw [List.length_map] at this; exact this))
    rintro n v H2 hn' ⟨s2, h2⟩
    obtain ⟨d, hd, rfl⟩ := get_int hn'
    obtain ⟨d1, d2⟩ := b.B.lf30 hd
    obtain ⟨kvs, t1, t2⟩ := b.tl.same s2
    obtain ⟨l, la, a1, a2, a3, a4⟩ := t2 d d1 d2
    obtain ⟨a, ga⟩ : ∃ a, la[k]? = some a := ⟨_, List.getElem?_eq_getElem (by omega)⟩
    refine ⟨rfl, ?_⟩
    refine ⟨_, rfl, _, rfl, q.tb, _, rfl, get_of t1 a1 rfl, _, rfl, l, _, _, _, rfl, rfl, .of a2, ref_at ga, _, rfl, a, _, _, _, rfl, rfl, .of (a4 k a ga), row_at x1, _, rfl, _, _, rfl, rfl, _, rfl, ?_⟩
    have eq1 : agr q.ds q.ss q.r false k x day d = decide (day < En q.ds q.ss q.r d k x) := by
        unfold agr
        rw [if_neg (by decide)]
    cases ea : agr q.ds q.ss q.r false k x day d with
    | true =>
      rw [← eq1, ea]
      show if true = true then _ else _
      rw [if_pos rfl]
      exact ⟨_, rfl, _, h2, len n, stepY hgl s2 hd h2 ea⟩
    | false =>
      rw [← eq1, ea]
      show if false = true then _ else _
      rw [if_neg Bool.false_ne_true]
      exact ⟨s2, stepN hd h2 ea⟩
theorem lx_f4 {Tb : List (Addr × Str)} (T : Tx K mg) (hr : Room 11 (XL P w K mg base f (.ref cT) A outer s H0 E).A) : ∃ tt : TS, PS (XL P w K mg base f (.ref cT) A outer s H0 E) (fl 4) tt ∧
    ∀ (D : Ends) (H : Hp) (σ : L2.St), (∀ H' gr, Same H H' → H gr = none → H' gr = some (.lst []) → D.nx (σ.set 16 (some (.ref gr))) H') → tt D σ H := by
  have nd := sc_law.nd
  refine ⟨_, ps_set (i := 16) nd rfl (.inr rfl) (pe_lst pa_nil), ?_⟩
  intro D H σ nx
  exact ⟨Nat.zero_le _, fun gr hgr => nx _ gr (same_upd hgr) hgr upd_same⟩
theorem lx_f5 (TB : TabB base mg cT PT) (np : PT ≠ PU) : ∃ tt : TS, PS (XL P w K mg base f (.ref cT) A outer s H0 E) (fl 5) tt ∧
    ∀ (D : Ends) (H : Hp) (σ : L2.St), Tabs (Tb2 PT PU) H → (∀ H' wl g, RJ ((XL P w K mg base f (.ref cT) A outer s H0 E).env.qual ++ "<lambda>") (XL P w K mg base f (.ref cT) A outer s H0 E).env.cells leL (Tb2 PT PU) H H' wl [g] → D.nx (σ.set 17 (some (.ref wl))) H') → tt D σ H := mk_genL TB np rfl (leL_ok 0) rfl (bdL 0 (by decide)) rfl
theorem lx_f6 (TB : TabB base mg cT PT) (np : PT ≠ PU) : ∃ tt : TS, PS (XL P w K mg base f (.ref cT) A outer s H0 E) (fl 6) tt ∧
    ∀ (D : Ends) (H1 H : Hp) (σ : L2.St) (wl : Addr) (fs : List Addr), σ[17]? = some (some (.ref wl)) → fs.length = 1 → RJ ((XL P w K mg base f (.ref cT) A outer s H0 E).env.qual ++ "<lambda>") (XL P w K mg base f (.ref cT) A outer s H0 E).env.cells leL (Tb2 PT PU) H1 H wl fs → (∀ H' g, RJ ((XL P w K mg base f (.ref cT) A outer s H0 E).env.qual ++ "<lambda>") (XL P w K mg base f (.ref cT) A outer s H0 E).env.cells leL (Tb2 PT PU) H1 H' wl (fs ++ [g]) → D.nx σ H') → tt D σ H := ap_genL 1 TB np rfl (leL_ok 1) rfl (bdL 1 (by decide)) (by decide) rfl rfl
theorem lx_f7 {Tb : List (Addr × Str)} (T : Tx K mg) (hr : Room 11 (XL P w K mg base f (.ref cT) A outer s H0 E).A) : ∃ tt : TS, PS (XL P w K mg base f (.ref cT) A outer s H0 E) (fl 7) tt ∧
    ∀ (D : Ends) (H : Hp) (q : Lp) (k x : Nat) (day : Int) (nt wl g0 g1 : Addr) (i : Bool) (y6 y10 y15 y16 y18 y19 : Option V), Nt H nt i k x day → H wl = some (.lst [.ref g0, .ref g1]) → D.nx (sg q y6 y10 (some (.int (k : Int))) (some (.int (x : Int))) (some (.int day)) (some (.ref nt)) y15 y16 (some (.ref wl)) (some (.ref (if i then g1 else g0))) y19) H → tt D (sg q y6 y10 (some (.int (k : Int))) (some (.int (x : Int))) (some (.int day)) (some (.ref nt)) y15 y16 (some (.ref wl)) y18 y19) H := by
  have nd := sc_law.nd
  refine ⟨_, ps_set (i := 18) nd rfl (.inr rfl) (pe_ix ix_list (pv 17) (pe_callTy call_int1 (by rfl) T.z_int (by decide +kernel) (pa_cons (pe_cmpR op_eq (pe_ix ix_tup (pv 14) pe_int (fun _ _ => rfl)) pe_str (nomark _)) pa_nil)) (fun _ _ => rfl)), ?_⟩
  intro D H q k x day nt wl g0 g1 i y6 y10 y15 y16 y18 y19 hn hw nx
  refine ⟨_, rfl, _, rfl, nt, _, 0, _, rfl, rfl, .of hn, atI_nat (j := 0) rfl, rfl, .inr ⟨_, rfl, ?_⟩⟩
  rw [onm_end]
  cases i with
  | true => exact ⟨wl, _, 1, .ref g1, rfl, rfl, .of hw, rfl, nx⟩
  | false => exact ⟨wl, _, 0, .ref g0, rfl, rfl, .of hw, rfl, nx⟩
end
end Rp
/-! What is raised when an observation is told. -/
namespace Rp
open PySem PySem.Spec PyProof.Rows L2 Rz Rm Rt Rl LamX
/-- what a lambda that tells an observation does -/
def SeeR (C dC CC : Addr) (j : Nat) : XK → TE := fun E σ H Q => ∃ (o dx : Addr) (fs : List (Str × V)) (k x day : Int), σ[7]? = some (some (.ref o)) ∧ σ[11]? = some (some (.int k)) ∧ σ[12]? = some (some (.int x)) ∧ σ[13]? = some (some (.int day)) ∧ H o = some (.ins dC dx fs) ∧ fs.lookup (oNm (decide (j ≠ 0))) = none ∧
  spSee C dC CC (decide (j ≠ 0)) (oNm (decide (j ≠ 0))) [.ref o, .int k, .int x, .int day] H Q E
theorem SeeR.mono {C dC CC : Addr} {j : Nat} {E : XK} {σ : L2.St} {H : Hp} {Q Q' : VK} (h : SeeR C dC CC j E σ H Q) (k : ∀ v H', Q v H' → Q' v H') : SeeR C dC CC j E σ H Q' := by
  obtain ⟨o, dx, fs, k', x, day, h1, h2, h3, h4, h5, h6, o', dx', rl, ol, r, ra, lf, ds, ss, os, k2, x2, day2, e, B, few, a1, a2, a3, a4, a5, a6, g1, g2⟩ := h
  exact ⟨o, dx, fs, k', x, day, h1, h2, h3, h4, h5, h6, o', dx', rl, ol, r, ra, lf, ds, ss, os, k2, x2, day2, e, B, few, a1, a2, a3, a4, a5, a6, g1, fun ne H' t nl rb ko ht B' => k _ _ (g2 ne H' t nl rb ko ht B')⟩
def lamIf : Stmt → Expr
  | .If (.Compare (.Call _ (e :: _) _ _) _ _ _) _ _ _ => e
  | _ => .Name "" p0
def leR : Nat → Expr := fun _ => lamIf (fl 8)
def leN : Nat → Expr := fun _ => lamIf (bs 9)
theorem leR_ok : ∀ j, LamP N_law (defScope s_law) (lpS (leR j)) := fun _ => (lamP_by (by decide +kernel) : LamP N_law (defScope s_law) (lpS (lamIf (fl 8))))
theorem leN_ok : ∀ j, LamP N_law (defScope s_law) (lpS (leN j)) := fun _ => (lamP_by (by decide +kernel) : LamP N_law (defScope s_law) (lpS (lamIf (bs 9))))
theorem bdR : Bd0 (leR 0) := fun _ _ _ _ _ _ _ => .of_eq rfl
theorem bdN : Bd0 (leN 0) := fun _ _ _ _ _ _ _ => .of_eq rfl
/-- results.append(work()) -/
def ResR (X : Cx) (C dC CC : Addr) (σ : L2.St) (E : XK) : TE := fun σ' H Q => σ' = σ ∧ ∃ (gr fw : Addr) (i : Nat × Option Addr × Addr), σ[16]? = some (some (.ref gr)) ∧ σ[18]? = some (some (.ref fw)) ∧ H gr = some (.lst []) ∧ H fw = some (LamO fw (lFam X leL i)) ∧ H (lFam X leL i).c = some (CodeO (lFam X leL i).c (lFam X leL i).q) ∧ GD (leL i.1) i.2.1 H ∧
  SeeR C dC CC i.1 E σ H fun v H2 => H2 gr = some (.lst []) ∧ Q .non (upd H2 gr (.lst [v]))
/-- a kept lambda is called in a lambda's body -/
theorem pe_actLF {X : Cx} {pins : List (Addr × Obj)} {σ : L2.St} {H : Hp} {s : Shared} {le : Nat → Expr} {ts : Nat → XK → TE} {A : Around} {outer : List Env} {sC : Shared} {HC : Hp} {E : XK} {sc : Scope} {f c : Addr} {k jn : Nat} {a : Str} {p1 p2 : Pos} (I : Inv X pins σ H s) (unB : Un (frs X.stack) [] H HC s.heap sC.heap) (fro : Fro X s outer) (hl : ∀ j, LamP X.N X.env.scope (lpS (le j)))
    (hr : Room (k + 1) (A.deeper (lamEnv X sc sC.heap.objs.size f c)))
    (hb : ∀ (j : Nat) (A' : Around) (outer' : List Env) (s' : Shared) (H' : Hp) (E' : XK) (f' c' : Addr), Room k (A'.deeper (lamEnv X (lpS (le j)) s'.heap.objs.size f' c')) → PE (lamCx X A' outer' s' H' E' (lpS (le j)) f' c') (lpB (le j)) (ts j E'))
    (hN : X.N[jn]? = some a) (hv : Vis sc a) (hd : (a == ("__debug__" : Str)) = false := by decide) (hcd : (a == ("__classdict__" : Str)) = false := by decide) :
    PE (lamCx X A outer sC HC E sc f c) (.Call (.Name a p1) [] [] p2) (fun σ' H' Q => σ' = σ ∧ ∃ (g : Addr) (i : Nat × Option Addr × Addr), σ[jn]? = some (some (.ref g)) ∧ H' g = some (LamO g (lFam X le i)) ∧ H' (lFam X le i).c = some (CodeO (lFam X le i).c (lFam X le i).q) ∧ GD (le i.1) i.2.1 H' ∧ ts i.1 E σ H' Q) :=
  pe_actL (X := X) (F := lFam X le) (G := fun i H => GD (le i.1) i.2.1 H) (t := fun i => ts i.1) I unB fro (fam_ok hl) hr (fun i A outer s H E f hr2 => hb i.1 A outer s H E f i.2.2 hr2) hN hv hd hcd
/-- _law_raised(a lambda that calls a kept one) -/
theorem pe_raisedI {X : Cx} {e : Expr} {ta : TE} {k : Nat} {le : Nat → Expr} {ts : Nat → L2.St → XK → TE} {p pos : Pos} (T : Tx X.K X.mg) (S : RdS X.K X.mg) (hl : ∀ j, LamP X.N X.env.scope (lpS (le j)))
    (hb : ∀ (j : Nat) (A' : Around) (outer' : List Env) (s2 : Shared) (H2 : Hp) (E' : XK) (f' c' : Addr) (pins : List (Addr × Obj)) (σ : L2.St) (H : Hp) (s : Shared), Inv X pins σ H s → Un (frs X.stack) [] H H2 s.heap s2.heap → Fro X s outer' → Room k (A'.deeper (lamEnv X (lpS (le j)) s2.heap.objs.size f' c')) → PE (lamCx X A' outer' s2 H2 E' (lpS (le j)) f' c') (lpB (le j)) (ts j σ E'))
    (hg : Gl X "_law_raised") (hr : Room (k + 2) X.A) (ha : PE X e ta)
    (hst : starEach [e] X.env = (false, eval e X.env) :: starEach [] X.env := by rfl) (hpl : (backTo pos (starEach ([] : List Expr) X.env)).any (·.1) = false := by rfl) :
    PE X (.Call (.Name "_law_raised" p) [e] [] pos) (fun σ H Q => tLamC (lFam X le) (fun i H => GD (le i.1) i.2.1 H) (TRs S) (tCons ta tNil) (fun i => ts i.1 σ) σ H Q) := by
  obtain ⟨oc, od, kV, doc, pm, an, cdv, ct, osl, e1, lk, hcd⟩ := T.F_lraised.ex
  have bt := T.b_lraised
  rw [e1] at lk bt
  exact pe_lamcallI (X := X) (ι := Nat × Option Addr × Addr) (F := lFam X le) (G := fun i H => GD (le i.1) i.2.1 H) (TT := TRs S) (x := "_law_raised") (a := "_law_work") (k := k) (t := fun i => ts i.1) (p := p) (pos := pos)
    hg T.g_lraised T.F_lraised.kp lk hcd bt sc_lraised rfl (.inl rfl) (gives_raised (S := S)) (fam_ok hl) (pa_cons ha pa_nil hst) hr
    (fun i A outer s2 H2 E f pins σ H s I un fro hr2 => hb i.1 A outer s2 H2 E f i.2.2 pins σ H s I un fro hr2) hst hpl
section
variable {P : Program} {w : World} {K : PySem.W.Frag} {mg : Str → Option Value} {base : Heap}
variable {f : Addr} {cT PT PU : Addr} {A : Around} {outer : List Env} {s : Shared} {H0 : Hp} {E : XK}
theorem hb_see {CC : Addr} (T : Tx K mg) (XC : RxE K mg "Contradiction" CC) : ∀ (j : Nat) (A' : Around) (outer' : List Env) (s' : Shared) (H' : Hp) (E' : XK) (f' c' : Addr), Room 8 (A'.deeper (lamEnv (XL P w K mg base f (.ref cT) A outer s H0 E) (lpS (leL j)) s'.heap.objs.size f' c')) → PE (lamCx (XL P w K mg base f (.ref cT) A outer s H0 E) A' outer' s' H' E' (lpS (leL j)) f' c') (lpB (leL j)) (SeeR T.C T.dC CC j E')
  | 0, A', outer', s', H', E', f', c', hr => by
    have go : PE (lamCx (XL P w K mg base f (.ref cT) A outer s H0 E) A' outer' s' H' E' (lpS (leL 0)) f' c') (lpB (leL 0)) _ := pe_meth (E := E') (pv 7) T.clD T.bOpen.mt (ok_so T XC) (hr.mono (by decide)) T.b_dsee_open .nil (passes_call (takes_of rfl rfl rfl rfl) (fun _ _ _ _ z => z)) (pa_cons (pv 11) (pa_cons (pv 12) (pa_cons (pv 13) pa_nil)))
    refine ⟨fun pins s σ H Q I h => go.run pins s σ H Q I ?_⟩
    obtain ⟨o, dx, fs, k, x, day, h5, h11, h12, h15, ho, hl, sp⟩ := h
    exact ⟨_, h5, o, dx, fs, rfl, ho, hl, _, h11, _, h12, _, h15, sp⟩
  | j + 1, A', outer', s', H', E', f', c', hr => by
    have go : PE (lamCx (XL P w K mg base f (.ref cT) A outer s H0 E) A' outer' s' H' E' (lpS (leL (j + 1))) f' c') (lpB (leL (j + 1))) _ := pe_meth (E := E') (pv 7) T.clD T.bEnd.mt (ok_se T XC) (hr.mono (by decide)) T.b_dsee_end .nil (passes_call (takes_of rfl rfl rfl rfl) (fun _ _ _ _ z => z)) (pa_cons (pv 11) (pa_cons (pv 12) (pa_cons (pv 13) pa_nil)))
    refine ⟨fun pins s σ H Q I h => go.run pins s σ H Q I ?_⟩
    obtain ⟨o, dx, fs, k, x, day, h5, h11, h12, h15, ho, hl, sp⟩ := h
    have e1 : decide (j + 1 ≠ 0) = true := decide_eq_true (Nat.succ_ne_zero j)
    rw [e1] at hl sp
    exact ⟨_, h5, o, dx, fs, rfl, ho, hl, _, h11, _, h12, _, h15, sp⟩
theorem hb_res {CC : Addr} (T : Tx K mg) (XC : RxE K mg "Contradiction" CC) (j : Nat) (A' : Around) (outer' : List Env) (s2 : Shared) (H2 : Hp) (E' : XK) (f' c' : Addr) (pins : List (Addr × Obj)) (σ : L2.St) (H1 : Hp) (s1 : Shared) (I : Inv (XL P w K mg base f (.ref cT) A outer s H0 E) pins σ H1 s1)
    (un : Un (frs (XL P w K mg base f (.ref cT) A outer s H0 E).stack) [] H1 H2 s1.heap s2.heap) (fro : Fro (XL P w K mg base f (.ref cT) A outer s H0 E) s1 outer') (hr : Room 9 (A'.deeper (lamEnv (XL P w K mg base f (.ref cT) A outer s H0 E) (lpS (leR j)) s2.heap.objs.size f' c'))) :
    PE (lamCx (XL P w K mg base f (.ref cT) A outer s H0 E) A' outer' s2 H2 E' (lpS (leR j)) f' c') (lpB (leR j)) (ResR (XL P w K mg base f (.ref cT) A outer s H0 E) T.C T.dC CC σ E') := by
  have act : ∀ (p1 p2 : Pos), PE (lamCx (XL P w K mg base f (.ref cT) A outer s H0 E) A' outer' s2 H2 E' (lpS (leR j)) f' c') (.Call (.Name "_law_work" p1) [] [] p2) _ := fun p1 p2 => pe_actLF (X := XL P w K mg base f (.ref cT) A outer s H0 E) (k := 8) (jn := 18) (a := "_law_work") (p1 := p1) (p2 := p2) (le := leL) (ts := fun j => SeeR T.C T.dC CC j) I un fro leL_ok hr (hb_see T XC) rfl (.inr (.inr (by decide +kernel : (lpS (lamIf (fl 8))).names.lookup ("_law_work" : Str) = some NameKind.free)))
  have go : PE (lamCx (XL P w K mg base f (.ref cT) A outer s H0 E) A' outer' s2 H2 E' (lpS (leR j)) f' c') (lpB (leR j)) _ := pe_bm PySem.F.plainAttrs_list PySem.F.slot_list_append PySem.F.type_list_append mt_append (pv 16) (pa_cons (act _ _) pa_nil)
  refine ⟨fun pins s σ' H Q I h => go.run pins s σ' H Q I ?_⟩
  obtain ⟨rfl, gr, fw, i, h16, h18, hg, e1, e2, e3, sr⟩ := h
  refine ⟨_, h16, .inl ⟨rfl, _, SqL.of hg⟩, rfl, fw, i, h18, e1, e2, e3, sr.mono fun v H3 h => ?_⟩
  exact ⟨gr, [], v, rfl, rfl, h.1, by decide, h.2⟩
/-- the state, the kept days apart -/
abbrev sh (q : Lp) (y6 y8 y10 y11 y12 y13 y14 y15 y16 y17 y18 y19 : Option V) : L2.St := [some (.ref q.a), some (.ref q.row), some (.ref q.td), some (.ref q.ts), some (.int (q.r : Int)), some (.ref q.tb), y6, some (.ref q.o), y8, some (.ref q.sl), y10, y11, y12, y13, y14, y15, y16, y17, y18, y19]
theorem con_shaped : SeqAt.shaped (.tuple [.str "contradiction"]) = true := by decide +kernel
theorem lx_f8 {CC : Addr} (T : Tx K mg) (S : RdS K mg) (RC : RdR S CC 9) (XC : RxE K mg "Contradiction" CC) (TB : TabB base mg cT PT) (np : PT ≠ PU) (hr : Room 11 (XL P w K mg base f (.ref cT) A outer s H0 E).A) : ∃ tt : TS, PS (XL P w K mg base f (.ref cT) A outer s H0 E) (fl 8) tt ∧
    ∀ (D : Ends) (H : Hp) (q : Lp) (k x : Nat) (day : Int) (nt gl gr fw : Addr) (i : Bool) (y6 y10 y17 y19 : Option V), LB K T.C T.dC (Tb2 PT PU) H q → Nt H nt i k x day → k < q.ds.length → x < 6 → 0 ≤ day → day ≤ 5000 → q.os.length < 400 → H gl = some (.lst ((Lft q i k x day).map V.int)) → gl ≠ q.ol → H gr = some (.lst []) → gr ≠ q.sl → gr ≠ q.ol → (gr ≠ q.a ∨ Wr K q.a (q.ns.map V.int)) →
      KLat ((XL P w K mg base f (.ref cT) A outer s H0 E).env.qual ++ "<lambda>") (XL P w K mg base f (.ref cT) A outer s H0 E).env.cells H (leL (if i then 1 else 0)) fw →
      ((Lft q i k x day ≠ [] → ∀ H' nl t rb, LB K T.C T.dC (Tb2 PT PU) H' (q.put nl t gl rb (Lft q i k x day) ⟨i, k, x, day⟩) → Nt H' nt i k x day → H' gr = some (.lst [.int ((Lft q i k x day).length : Nat)]) → D.nx (sg q y6 y10 (some (.int (k : Int))) (some (.int (x : Int))) (some (.int day)) (some (.ref nt)) (some (.ref gl)) (some (.ref gr)) y17 (some (.ref fw)) y19) H') ∧
       (Lft q i k x day = [] → ∀ H', LB K T.C T.dC (Tb2 PT PU) H' q → Nt H' nt i k x day → H' gl = some (.lst []) → H' gr = some (.lst []) → D.nx (sg q y6 y10 (some (.int (k : Int))) (some (.int (x : Int))) (some (.int day)) (some (.ref nt)) (some (.ref gl)) (some (.ref gr)) y17 (some (.ref fw)) y19) H')) → tt D (sg q y6 y10 (some (.int (k : Int))) (some (.int (x : Int))) (some (.int day)) (some (.ref nt)) (some (.ref gl)) (some (.ref gr)) y17 (some (.ref fw)) y19) H := by
  have nd := sc_law.nd
  refine ⟨_, ps_if (pt_cmpR (op_neD hr.units) (pe_raisedI (X := XL P w K mg base f (.ref cT) A outer s H0 E) (k := 9) (le := leR) (ts := fun _ => ResR (XL P w K mg base f (.ref cT) A outer s H0 E) T.C T.dC CC) T S leR_ok (fun j A' outer' s2 H2 E' f' c' pins σ H s I un fro hr2 => hb_res T XC j A' outer' s2 H2 E' f' c' pins σ H s I un fro hr2) (by rfl) hr (pe_lam0 TB rfl List.mem_cons_self (hu1 np) (fun y hy z => (leR_ok 0).free y hy z) rfl))
    (pe_ifExp (pt_cmpR (op_neD hr.units) (pv 15) (pe_lst pa_nil) (nomark _)) pe_non (pe_tup (pa_cons pe_str pa_nil))) (nomark _)) (pss_one (ps_ret pe_bl)) pss_nil, ?_⟩
  intro D H q k x day nt gl gr fw i y6 y10 y17 y19 b hn k1 x1 d0 d1 few hg ng hgr g1 g2 g3 hw nx
  refine ⟨b.tb, fun fR cR H1 x1' t1 _ kR1 kR2 => ⟨fR, (0, none, cR), rfl, kR1, kR2, bdR, fun E' hE => ?_⟩⟩
  have b1 := b.extN x1' t1
  have hn1 : Nt H1 nt i k x day := x1' _ _ hn (by intro ps z; cases z)
  have hg1 := x1' _ _ hg (by intro ps z; cases z)
  have hgr1 := x1' _ _ hgr (by intro ps z; cases z)
  obtain ⟨t, c, h1, h2, h3⟩ := hw.extN x1'
  have ei : decide ((if i then 1 else 0 : Nat) ≠ 0) = i := by cases i <;> rfl
  have l8 := b.G.l8
  refine ⟨rfl, gr, fw, ((if i then 1 else 0), t, c), rfl, rfl, hgr1, h1, h2, h3, ?_⟩
  refine ⟨q.o, q.dx, _, k, x, day, rfl, rfl, rfl, rfl, b1.B.ob, ?_, ?_⟩
  · show (obF (q.r : Int) q.rl q.ol).lookup (oNm (decide ((if i then 1 else 0 : Nat) ≠ 0))) = none
    rw [ei]
    cases i <;> rfl
  · show spSee T.C T.dC CC (decide ((if i then 1 else 0 : Nat) ≠ 0)) (oNm (decide ((if i then 1 else 0 : Nat) ≠ 0))) _ _ _ _
    rw [ei]
    refine ⟨q.o, q.dx, q.rl, q.ol, q.r, q.ra, q.lf, q.ds, q.ss, q.os, k, x, day, rfl, b1.B, by omega, by omega, by omega, by omega, by omega, d0, by omega, fun en H' s' => ?_, fun ne H' t nl rb ko ht B' => ?_⟩
    · refine hE _ _ _ ⟨CC, 9, rfl, rfl, RC, fun p H2 s2 _ hp => ?_⟩
      have s12 : Same H1 H2 := fun b o h => s2 _ _ (s' _ _ h)
      have hg2 := s12 _ _ hg1
      rw [show Lft q i k x day = [] from en] at hg2
      refine ⟨_, rfl, (by show 0 ≤ sizeLine; decide), fun e he => ?_⟩
      have s3 := same_upd (o := .lst []) he
      refine lst_ne (as := []) (bs := []) (.of (s3 _ _ hg2)) (.of upd_same) ⟨_, rfl, ?_⟩
      rw [decide_eq_true rfl]
      refine iteF ⟨(by show 1 ≤ sizeLine; decide), fun p9 hp9 => ?_⟩
      have s4 := same_upd (o := .tup [.str "contradiction"]) hp9
      refine ⟨.tuple [.str "contradiction"], .tuple [.str "contradiction"], .tup (.of (s4 _ _ (s3 _ _ hp))) (.cons (.str _) .nil), .tup (.of upd_same) (.cons (.str _) .nil), con_shaped, con_shaped, _, rfl, ?_⟩
      rw [show (!PyData.eqv (.tuple [.str "contradiction"]) (.tuple [.str "contradiction"])) = false by simp [PyData.eqv, PyData.eqvAll]]
      have s14 := (s12.trans s3).trans s4
      exact iteF (nx.2 en _ (b1.same s14) (s14 _ _ hn1) (s4 _ _ (s3 _ _ hg2)) (s14 _ _ hgr1))
    · have no : gr ≠ q.o := ne_of hgr1 b1.B.ob (by intro z; cases z)
      have hgr2 := ko _ _ hgr1 no g2
      have b2 := b1.seen (v := ⟨i, k, x, day⟩) ko ne ht B' hg1 ng ⟨by show (0 : Int) ≤ k; omega, by show (k : Int) < q.ds.length; omega, by show (0 : Int) ≤ x; omega, by show (x : Int) ≤ 1000; omega, d0, by show day ≤ 100000; omega⟩
      have hn2 : Nt H' nt i k x day := ko _ _ hn1 (ne_of hn1 b1.B.ob (by intro z; cases z)) (ne_of hn1 b1.B.ho (by intro z; cases z))
      refine ⟨hgr2, ?_⟩
      have b3 := b2.wr (o := .lst [.int ((Lft q i k x day).length : Nat)]) hgr2 g1 g3 (by show q.os ++ [.ref t] ≠ []; simp)
      have hn3 : Nt (upd H' gr (.lst [.int ((Lft q i k x day).length : Nat)])) nt i k x day := by
        show (upd H' gr _) nt = _
        rw [upd_ne (ne_of hn2 hgr2 (by intro z; cases z))]
        exact hn2
      have hgr3 : (upd H' gr (.lst [.int ((Lft q i k x day).length : Nat)])) gr = some (.lst [.int ((Lft q i k x day).length : Nat)]) := upd_same
      refine ⟨_, rfl, (by show 0 ≤ sizeLine; decide), fun e he => ?_⟩
      have s3 := same_upd (o := .lst []) he
      refine lst_ne (as := Lft q i k x day) (bs := []) (.of (s3 _ _ b3.hl)) (.of upd_same) ⟨_, rfl, ?_⟩
      rw [decide_eq_false ne]
      refine iteT ⟨.none, .none, .non, .non, non_shaped, non_shaped, _, rfl, ?_⟩
      rw [non_eqv]
      exact iteF (nx.1 ne _ nl t rb (b3.same s3) (s3 _ _ hn3) (s3 _ _ hgr3))
end
end Rp
/-! The rest of a turn. -/
namespace Rp
open PySem PySem.Spec PyProof.Rows L2 Rz Rm Rt Rl LamX
theorem LB.app {K : PySem.W.Frag} {C dC : Addr} {Tb : List (Addr × Str)} {H : Hp} {q : Lp} (b : LB K C dC Tb H q) {ns nt : Addr} {v : Ov} (h : H ns = some (.lst (q.sv ++ [.ref nt]))) (hn : H nt = some (.tup [.str (oNm v.e), .int v.k, .int v.x, .int v.day])) (n : ns ≠ q.ol) : LB K C dC Tb H { q with sl := ns, sv := q.sv ++ [.ref nt], vo := q.vo ++ [v] } :=
  ⟨b.RA, b.tb, b.hd, b.hs, b.G, b.l4, b.tl, b.B, b.hl, h, b.vs.snoc hn, b.eo, b.lfe, b.okv, b.nes, b.nrow, b.nll, n, b.na⟩
theorem ovs_like {H : Hp} {os sv : List V} {vs : List Ov} (h1 : Ovs H os vs) (h2 : Ovs H sv vs) (i : Nat) (x y : V) (hx : os[i]? = some x) (hy : sv[i]? = some y) : LkD 1 H x y := by
  have hi : i < vs.length := by rw [← h1.1]; exact (List.getElem?_eq_some_iff.mp hx).1
  obtain ⟨t, rfl, e1⟩ := h1.2 i x _ hx (List.getElem?_eq_getElem hi)
  obtain ⟨u, rfl, e2⟩ := h2.2 i y _ hy (List.getElem?_eq_getElem hi)
  refine .inr ⟨t, u, _, _, rfl, rfl, .inl ⟨e1, e2⟩, rfl, (by show 4 ≤ 1000; decide), fun j a c ha hc => ?_⟩
  rw [ha] at hc
  cases hc
  match j, ha with
  | 0, h => cases h; exact .inr (.inr ⟨_, rfl, rfl⟩)
  | 1, h => cases h; exact .inl ⟨_, rfl, rfl⟩
  | 2, h => cases h; exact .inl ⟨_, rfl, rfl⟩
  | 3, h => cases h; exact .inl ⟨_, rfl, rfl⟩
  | _ + 4, h => simp at h
section
variable {P : Program} {w : World} {K : PySem.W.Frag} {mg : Str → Option Value} {base : Heap}
variable {f : Addr} {cT PT PU : Addr} {A : Around} {outer : List Env} {s : Shared} {H0 : Hp} {E : XK}
theorem lx_f9 (T : Tx K mg) (hr : Room 11 (XL P w K mg base f (.ref cT) A outer s H0 E).A) : ∃ tt : TS, PS (XL P w K mg base f (.ref cT) A outer s H0 E) (fl 9) tt ∧
    ∀ (D : Ends) (H : Hp) (σ : L2.St) (gl gr : Addr) (L : List Int), σ[15]? = some (some (.ref gl)) → σ[16]? = some (some (.ref gr)) → H gl = some (.lst (L.map V.int)) → H gr = some (.lst ((if L = [] then ([] : List Int) else [(L.length : Int)]).map V.int)) → L.length ≤ 30 → (∀ H', Same H H' → D.nx σ H') → tt D σ H := by
  have nd := sc_law.nd
  refine ⟨_, ps_if (pt_cmpR (op_neD hr.units) (pv 16) (pe_op op_rep (pe_lst (pa_cons (pe_callB call_len_seq (by rfl) T.z_len PySem.boot_len (pa_cons (pv 15) pa_nil)) pa_nil)) (pe_callTy call_int1 (by rfl) T.z_int (by decide +kernel) (pa_cons (pe_cmpR (op_neD hr.units) (pv 15) (pe_lst pa_nil) (nomark _)) pa_nil))) (nomark _)) (pss_one (ps_ret pe_bl)) pss_nil, ?_⟩
  intro D H σ gl gr L h15 h16 hg hgr l30 nx
  refine ⟨_, h16, _, h15, gl, _, rfl, .inl (.of hg), (by show 1 ≤ sizeLine; decide), fun l0 hl0 => ?_⟩
  have s1 := same_upd (o := .lst [.int ((L.map V.int).length : Nat)]) hl0
  have g1 : (upd H l0 (.lst [.int ((L.map V.int).length : Nat)])) l0 = some (.lst [.int ((L.map V.int).length : Nat)]) := upd_same
  refine ⟨_, h15, (by show 0 ≤ sizeLine; decide), fun e he => ?_⟩
  have s2 := same_upd (o := .lst []) he
  refine lst_ne (as := L) (bs := []) (.of (s2 _ _ (s1 _ _ hg))) (.of upd_same) (.inr ⟨_, rfl, ?_⟩)
  by_cases hL : L = []
  · subst hL
    rw [decide_eq_true rfl]
    refine ⟨l0, _, _, rfl, rfl, s2 _ _ g1, (by decide), (by decide), (by decide), fun p hp => ?_⟩
    have s3 := same_upd (o := .lst (([] : List Int).map V.int)) hp
    rw [if_pos rfl] at hgr
    refine lst_ne (as := []) (bs := []) (.of (s3 _ _ (s2 _ _ (s1 _ _ hgr)))) (.of upd_same) ⟨_, rfl, ?_⟩
    rw [decide_eq_true rfl]
    exact iteF (nx _ ((s1.trans s2).trans s3))
  · rw [decide_eq_false hL]
    refine ⟨l0, _, _, rfl, rfl, s2 _ _ g1, (by decide), (by decide), (by show 1 * 1 ≤ sizeLine; decide), fun p hp => ?_⟩
    have s3 := same_upd (o := .lst ([(((L.map V.int).length : Nat) : Int)].map V.int)) hp
    rw [if_neg hL] at hgr
    refine lst_ne (as := [(L.length : Int)]) (bs := [(((L.map V.int).length : Nat) : Int)]) (.of (s3 _ _ (s2 _ _ (s1 _ _ hgr)))) (.of upd_same) ⟨_, rfl, ?_⟩
    rw [decide_eq_true (by rw [List.length_map])]
    exact iteF (nx _ ((s1.trans s2).trans s3))
theorem lx_f10 {Tb : List (Addr × Str)} (T : Tx K mg) (hr : Room 11 (XL P w K mg base f (.ref cT) A outer s H0 E).A) : ∃ tt : TS, PS (XL P w K mg base f (.ref cT) A outer s H0 E) (fl 10) tt ∧
    ∀ (D : Ends) (H : Hp) (q : Lp) (v : Ov) (nt gl : Addr) (L : List Int) (y6 y8 y10 y11 y12 y13 y16 y17 y18 y19 : Option V), H gl = some (.lst (L.map V.int)) → (L = [] → ∀ H', Same H H' → D.nx (sh q y6 y8 y10 y11 y12 y13 (some (.ref nt)) (some (.ref gl)) y16 y17 y18 y19) H') → (L ≠ [] → gl = q.ll ∧ LB K T.C T.dC Tb H q ∧ H nt = some (.tup [.str (oNm v.e), .int v.k, .int v.x, .int v.day]) ∧ q.sv.length ≤ 400 ∧
      ∀ H' ns, LB K T.C T.dC Tb H' { q with sl := ns, sv := q.sv ++ [.ref nt], vo := q.vo ++ [v] } → D.nx (sg { q with sl := ns, sv := q.sv ++ [.ref nt], vo := q.vo ++ [v] } y6 y10 y11 y12 y13 (some (.ref nt)) (some (.ref gl)) y16 y17 y18 y19) H') → tt D (sh q y6 y8 y10 y11 y12 y13 (some (.ref nt)) (some (.ref gl)) y16 y17 y18 y19) H := by
  have nd := sc_law.nd
  refine ⟨_, ps_if (pt_cmpR (op_neD hr.units) (pv 15) (pe_lst pa_nil) (nomark _)) (pss_one (ps_par (i := 8) (j := 9) rfl nd rfl rfl (by decide) rfl rfl (pa_cons (pv 15) (pa_cons (pe_op op_cat (pv 9) (pe_lst (pa_cons (pv 14) pa_nil))) pa_nil)) rfl)) pss_nil, ?_⟩
  intro D H q v nt gl L y6 y8 y10 y11 y12 y13 y16 y17 y18 y19 hg n0 n1
  refine ⟨_, rfl, (by show 0 ≤ sizeLine; decide), fun e he => ?_⟩
  have s2 := same_upd (o := .lst []) he
  refine lst_ne (as := L) (bs := []) (.of (s2 _ _ hg)) (.of upd_same) ⟨_, rfl, ?_⟩
  by_cases hL : L = []
  · rw [decide_eq_true hL]
    exact iteF (n0 hL _ s2)
  · rw [decide_eq_false hL]
    obtain ⟨e1, b, hn, few, nx⟩ := n1 hL
    subst e1
    have b2 := b.same s2
    refine iteT ⟨_, rfl, _, rfl, _, rfl, (by show 1 ≤ sizeLine; decide), fun l1 hl1 => ?_⟩
    have s3 := same_upd (o := .lst [.ref nt]) hl1
    have b3 := b2.same s3
    refine ⟨q.sl, l1, _, _, rfl, rfl, b3.hv, upd_same, ?_, fun ns hns => ?_⟩
    · have := small1000 (n := q.sv.length + 1) (by omega)
      show q.sv.length + 1 ≤ sizeLine
      omega
    have s4 := same_upd (o := .lst (q.sv ++ [.ref nt])) hns
    have b4 := b3.same s4
    refine ⟨_, _, rfl, ?_⟩
    exact nx _ ns (b4.app (v := v) upd_same (s4 _ _ (s3 _ _ (s2 _ _ hn))) (ne_of_none b3.B.ho hns).symm)
theorem lx_f11 {Tb : List (Addr × Str)} (T : Tx K mg) (hr : Room 11 (XL P w K mg base f (.ref cT) A outer s H0 E).A) : ∃ tt : TS, PS (XL P w K mg base f (.ref cT) A outer s H0 E) (fl 11) tt ∧
    ∀ (D : Ends) (H : Hp) (q : Lp) (k x : Nat) (y6 y10 y13 y14 y15 y16 y17 y18 y19 : Option V), LB K T.C T.dC Tb H q → q.vo = q.ovs → k < q.ds.length → x < 6 → q.os.length ≤ 400 → (∀ H', LB K T.C T.dC Tb H' q → D.nx (sg q y6 y10 (some (.int (k : Int))) (some (.int (x : Int))) y13 y14 y15 y16 y17 y18 y19) H') → tt D (sg q y6 y10 (some (.int (k : Int))) (some (.int (x : Int))) y13 y14 y15 y16 y17 y18 y19) H := by
  have nd := sc_law.nd
  refine ⟨_, ps_if (PW.pt (pw_or (pt_not (pt_val (pe_call (ok_likeD T 2) (hr.mono (by decide : 3 ≤ 11)) (by rfl) T.g_lalike T.F_lalike.kp T.b_lalike .nil pass0 (pa_cons (pe_prop (pv 7) T.clD T.q_dobservations (ok_os T) (hr.mono (by decide : 2 ≤ 11)) T.b_dobservations .nil pass0 rfl) (pa_cons (pv 9) pa_nil)))))
    (pw_or1 (pt_not (pt_val (pe_call (ok_it T) (hr.mono (by decide : 7 ≤ 11)) (by rfl) T.g_lis_told T.F_lis_told.kp T.b_lis_told .nil pass0 (pa_cons (pv 7) (pa_cons (pv 5) (pa_cons (pv 8) (pa_cons (pv 11) (pa_cons (pv 12) pa_nil))))))))))) (pss_one (ps_ret pe_bl)) pss_nil, ?_⟩
  intro D H q k x y6 y10 y13 y14 y15 y16 y17 y18 y19 b ev k1 x1 few nx
  refine ⟨_, rfl, q.o, q.dx, _, rfl, b.B.ob, q.o, q.dx, q.rl, q.ol, q.r, q.ra, q.lf, q.ds, q.ss, q.os, rfl, b.B, fun H1 l s1 hl => ?_⟩
  have b1 := b.same s1
  have vs1 := b1.vs
  rw [ev] at vs1
  refine ⟨_, rfl, _, _, rfl, .inr ⟨l, q.sl, _, _, rfl, rfl, .inr ⟨hl, b1.hv⟩, by rw [vs1.1, b1.eo.1], by omega, fun i a c ha hc => ovs_like b1.eo vs1 i a c ha hc⟩, fun H2 s2 => ⟨_, rfl, iteF ?_⟩⟩
  have b2 := b1.same s2
  exact ⟨_, rfl, _, rfl, _, rfl, _, rfl, _, rfl, q.o, q.dx, q.rl, q.ol, q.r, q.ra, q.lf, q.ds, q.ss, q.os, q.tb, q.ll, k, x, rfl, b2.B, b2.tl, b2.hl, k1, x1, fun H3 s3 => ⟨_, rfl, iteF (nx _ (b2.same s3))⟩⟩
end
end Rp
/-! The law's top: the ring, the tables, the observer; the ends. -/
namespace Rp
open PySem PySem.Spec PyProof.Rows L2 Rz Rm Rt Rl LamX
theorem put_len (kvs : List (Key × V)) (k : Key) (v : V) : (putK kvs k v).length ≤ kvs.length + 1 := by
  unfold putK
  split
  · rw [List.length_map]
    omega
  · rw [List.length_append]
    exact Nat.le_refl _
theorem same_new {H : Hp} {C x z : Addr} (nx : H x = none) (nz : H z = none) : Same H (upd (upd H z (.own x)) x (.ins C z [])) := fun b o e => by
  rw [upd_ne (ne_of_none e nx), upd_ne (ne_of_none e nz)]
  exact e
/-- row, tables of lambdas, days and books at first -/
structure LP (K : PySem.W.Frag) (Tb : List (Addr × Str)) (H : Hp) (a row td ts : Addr) (ns ds ss : List Int) : Prop where
  RA : RowAt K H row a ns
  tb : Tabs Tb H
  hd : H td = some (.tup (ds.map V.int))
  hs : H ts = some (.tup (ss.map V.int))
  G : Good ds ss
  l4 : ds.length ≤ 4
theorem LP.same {K : PySem.W.Frag} {Tb : List (Addr × Str)} {H H' : Hp} {a row td ts : Addr} {ns ds ss : List Int} (b : LP K Tb H a row td ts ns ds ss) (s : Same H H') : LP K Tb H' a row td ts ns ds ss := ⟨b.RA.same s, b.tb.ext s, s _ _ b.hd, s _ _ b.hs, b.G, b.l4⟩
theorem LP.kp {K : PySem.W.Frag} {Tb : List (Addr × Str)} {H H' : Hp} {a row td ts : Addr} {ns ds ss : List Int} (b : LP K Tb H a row td ts ns ds ss) (k : Kp row H H') (RA' : RowAt K H' row a ns) : LP K Tb H' a row td ts ns ds ss :=
  ⟨RA', Tabs_kp b.RA k b.tb, kp_of b.RA k b.hd (fun _ _ _ z => by cases z), kp_of b.RA k b.hs (fun _ _ _ z => by cases z), b.G, b.l4⟩
section
variable {P : Program} {w : World} {K : PySem.W.Frag} {mg : Str → Option Value} {base : Heap}
variable {f : Addr} {cT PT PU : Addr} {A : Around} {outer : List Env} {s : Shared} {H0 : Hp} {E : XK}
theorem lb_b1 {Tb : List (Addr × Str)} (T : Tx K mg) (hr : Room 11 (XL P w K mg base f (.ref cT) A outer s H0 E).A) : ∃ tt : TS, PS (XL P w K mg base f (.ref cT) A outer s H0 E) (bs 1) tt ∧
    ∀ (D : Ends) (H : Hp) (a row : Addr) (ns : List Int) (y2 y3 : Option V) (r : L2.St), RowAt K H row a ns → Tabs Tb H → (∀ H' td ts ds ss, LP K Tb H' a row td ts ns ds ss → D.nx (some (.ref a) :: some (.ref row) :: some (.ref td) :: some (.ref ts) :: r) H') → tt D (some (.ref a) :: some (.ref row) :: y2 :: y3 :: r) H := by
  have nd := sc_law.nd
  refine ⟨_, ps_asg (pe_call (ok_pair T) (hr.mono (by decide : 2 ≤ 11)) (by rfl) T.g_lpair T.F_lpair.kp T.b_lpair .nil pass0 (pa_cons (pv 1) (pa_cons pe_int pa_nil))) (pg_tup rfl (pgs_cons (pg_name (i := 2) nd rfl (.inr rfl)) (pgs_cons (pg_name (i := 3) nd rfl (.inr rfl)) pgs_nil))), ?_⟩
  intro D H a row ns y2 y3 r RA tb nx
  refine ⟨_, rfl, row, a, ns, 4, rfl, RA, by decide, by decide, fun H1 t td ts ds ss G l4 RA1 k1 ht hd hs => ?_⟩
  refine ⟨t, _, rfl, .of ht, rfl, _, _, rfl, _, _, rfl, rfl, ?_⟩
  exact nx H1 td ts ds ss ⟨RA1, Tabs_kp RA k1 tb, hd, hs, G, by omega⟩
theorem lb_b2 {Tb : List (Addr × Str)} (T : Tx K mg) (hr : Room 11 (XL P w K mg base f (.ref cT) A outer s H0 E).A) : ∃ tt : TS, PS (XL P w K mg base f (.ref cT) A outer s H0 E) (bs 2) tt ∧
    ∀ (D : Ends) (H : Hp) (a row td ts : Addr) (ns ds ss : List Int) (y4 : Option V) (r : L2.St), LP K Tb H a row td ts ns ds ss → (∀ H' (h : Nat), LP K Tb H' a row td ts ns ds ss → h < ds.length → D.nx (some (.ref a) :: some (.ref row) :: some (.ref td) :: some (.ref ts) :: some (.int (h : Int)) :: r) H') → tt D (some (.ref a) :: some (.ref row) :: some (.ref td) :: some (.ref ts) :: y4 :: r) H := by
  have nd := sc_law.nd
  refine ⟨_, ps_set (i := 4) nd rfl (.inl rfl) (pe_call (ok_taken T) (hr.mono (by decide : 1 ≤ 11)) (by rfl) T.g_ltaken T.F_ltaken.kp T.b_ltaken .nil pass0 (pa_cons (pv 1) (pa_cons (pe_callB call_len_seq (by rfl) T.z_len PySem.boot_len (pa_cons (pv 2) pa_nil)) pa_nil))), ?_⟩
  intro D H a row td ts ns ds ss y4 r b nx
  have l2 := b.G.l2
  have l4 := b.l4
  refine ⟨_, rfl, _, rfl, td, _, rfl, .inr (.of b.hd), row, a, ns, _, rfl, b.RA, by rw [List.length_map]; omega, by rw [List.length_map]; omega, fun v1 H1 v10 v11 RA1 k1 => ?_⟩
  rw [List.length_map] at v11
  have h := nx _ v1.toNat (b.kp k1 RA1) (by omega)
  rw [show ((v1.toNat : Nat) : Int) = v1 by omega] at h
  exact h
theorem lb_b3 : ∃ tt : TS, PS (XL P w K mg base f (.ref cT) A outer s H0 E) (bs 3) tt ∧
    ∀ (D : Ends) (H : Hp) (σ : L2.St), (∀ H' tb, Same H H' → H tb = none → H' tb = some (.dK []) → D.nx (σ.set 5 (some (.ref tb))) H') → tt D σ H := by
  have nd := sc_law.nd
  refine ⟨_, ps_set (i := 5) nd rfl (.inr rfl) pe_dnewK, ?_⟩
  intro D H σ nx
  exact fun tb htb => nx _ tb (same_upd htb) htb upd_same
theorem lb_b4 {Tb : List (Addr × Str)} (T : Tx K mg) (hr : Room 11 (XL P w K mg base f (.ref cT) A outer s H0 E).A) : ∃ tt : TS, PS (XL P w K mg base f (.ref cT) A outer s H0 E) (bs 4) tt ∧
    ∀ (D : Ends) (Hs H : Hp) (a row td ts : Addr) (ns ds ss : List Int) (h : Nat) (tb : Addr) (y6 : Option V) (r : L2.St), LP K Tb Hs a row td ts ns ds ss → h < ds.length → Same Hs H → Hs tb = none → H tb = some (.dK []) → (∀ H' y6, Same Hs H' → Tbl H' tb ds ss h → D.nx (some (.ref a) :: some (.ref row) :: some (.ref td) :: some (.ref ts) :: some (.int (h : Int)) :: some (.ref tb) :: y6 :: r) H') → tt D (some (.ref a) :: some (.ref row) :: some (.ref td) :: some (.ref ts) :: some (.int (h : Int)) :: some (.ref tb) :: y6 :: r) H := by
  have nd := sc_law.nd
  have hu1 : (XL P w K mg base f (.ref cT) A outer s H0 E).A.units + 1 < cLine := Nat.lt_of_le_of_lt (Nat.add_le_add_left (by decide : 1 ≤ 64) _) hr.units
  refine ⟨_, ps_for PassesOwn.never rfl (pi_range2 (by rfl) T.z_range (pa_cons pe_int (pa_cons pe_int pa_nil))) (pg_name (i := 6) nd rfl (.inl rfl)) (pss_one (ps_dput hu1 (pv 5) (pv 6) (pe_call (ok_ends T) (hr.mono (by decide : 4 ≤ 11)) (by rfl) T.g_lends T.F_lends.kp T.b_lends .nil pass0
    (pa_cons (pe_op op_catA (pe_op op_catA (pe_slice sl_tupA (pv 2) po_none (po_some (pv 4))) (pe_tup (pa_cons (pv 6) pa_nil))) (pe_slice sl_tupA (pv 2) (po_some (pe_op op_add (pv 4) pe_int)) po_none)) (pa_cons (pv 3) pa_nil))) rfl)), ?_⟩
  intro D Hs H a row td ts ns ds ss h tb y6 r b hh sH nb hb nx
  have l2 := b.G.l2
  have l4 := b.l4
  refine ⟨_, _, rfl, ⟨by decide, by decide, by decide, by decide⟩, ?_⟩
  refine for_range (lo := 1) (n := 30) (fun i σ H' => (∃ y6, σ = some (.ref a) :: some (.ref row) :: some (.ref td) :: some (.ref ts) :: some (.int (h : Int)) :: some (.ref tb) :: y6 :: r) ∧ Same Hs H' ∧ ∃ kvs, H' tb = some (.dK kvs) ∧ kvs.length ≤ i ∧ ∀ k : Int, 1 ≤ k → k ≤ i → ∃ (l : Addr) (la : List Addr), valV kvs (.inl k) = some (.ref l) ∧ H' l = some (.lst (la.map V.ref)) ∧ la.length = ds.length ∧
      ∀ (j : Nat) (c : Addr), la[j]? = some c → H' c = some (.lst ((rowE (ds.set h k) ss j 6).map V.int))) ⟨⟨_, rfl⟩, sH, [], hb, Nat.le_refl _, fun k k1 k2 => absurd k1 (by omega)⟩ ?_ ?_
  · rintro i σ H1 hi ⟨⟨y6, rfl⟩, s1, kvs, h1, lk, hall⟩
    have b1 := b.same s1
    obtain ⟨k, ek⟩ : ∃ k : Int, k = 1 + (i : Int) := ⟨_, rfl⟩
    show sDPut _ _ _ _ (some (.ref a) :: some (.ref row) :: some (.ref td) :: some (.ref ts) :: some (.int (h : Int)) :: some (.ref tb) :: some (.int (1 + (i : Int))) :: r) H1
    rw [← ek]
    refine ⟨_, rfl, _, rfl, _, rfl, ?_⟩
    refine sl_to b1.hd (k := (h : Int)) (by omega) (by rw [List.length_map]; omega) fun H2 p2 s2 h2 => ?_
    refine ⟨_, rfl, (by show 1 ≤ sizeLine; decide), fun p3 hp3 => ?_⟩
    have s3 := same_upd (o := .tup [.int k]) hp3
    refine cat_any (s3 _ _ h2) upd_same (by rw [List.length_take, List.length_map]; have := small1000 (n := ds.length + 1) (by omega); simp only [List.length_cons, List.length_nil]; omega) fun H4 p4 s4 h4 => ?_
    have b4 := ((b1.same s2).same s3).same s4
    refine ⟨_, rfl, _, rfl, _, _, rfl, rfl, _, rfl, ?_⟩
    refine noPart ?_
    refine sl_from b4.hd (k := (h : Int) + 1) (by omega) (by rw [List.length_map]; omega) fun H5 p5 s5 h5 => ?_
    refine cat_any (s5 _ _ h4) h5 (by rw [List.length_append, List.length_drop, List.length_take, List.length_map]; simp only [List.length_cons, List.length_nil]; have := small1000 (n := ds.length + ds.length + 1) (by omega); omega) fun H6 td' s6 h6 => ?_
    rw [set_map (ds := ds) (r := (h : Int)) (d := k) (by omega) (by omega), show ((h : Nat) : Int).toNat = h by omega] at h6
    have b6 := (b4.same s5).same s6
    refine ⟨_, rfl, td', ts, ds.set h k, ss, rfl, h6, b6.hs, b.G.set h ⟨by omega, by omega⟩, fun H7 l la s7 hl lla hla => ?_⟩
    rw [List.length_set] at lla
    have S : Same H1 H7 := ((((s2.trans s3).trans s4).trans s5).trans s6).trans s7
    have hb7 := S _ _ h1
    have hput : DPut H7 tb (.int k) (.ref l) (upd H7 tb (.dK (putK kvs (.inl k) (.ref l)))) := DPut.k (k := .inl k) hb7 (small1000 (by omega))
    refine ⟨_, rfl, _, rfl, tb, _, rfl, hput, ?_⟩
    have kk : ∀ {c xs}, H7 c = some (.lst xs) → (upd H7 tb (.dK (putK kvs (.inl k) (.ref l)))) c = some (.lst xs) := fun {c xs} e => by
      rw [upd_ne (ne_of e hb7 (by intro z; cases z))]
      exact e
    refine ⟨⟨_, rfl⟩, fun c z e => by rw [upd_ne (ne_of_none e nb)]; exact S _ _ (s1 _ _ e), _, upd_same, Nat.le_trans (put_len _ _ _) (by omega), fun d d1 d2 => ?_⟩
    by_cases e : d = k
    · subst e
      exact ⟨l, la, by rw [valV_put, if_pos rfl], kk hl, lla, fun j c hc => kk (hla j c hc)⟩
    · obtain ⟨l', la', a1, a2, a3, a4⟩ := hall d d1 (by omega)
      exact ⟨l', la', by rw [valV_put, if_neg (fun z => e (Sum.inl.inj z))]; exact a1, kk (S _ _ a2), a3, fun j c hc => kk (S _ _ (a4 j c hc))⟩
  · rintro σ H1 ⟨⟨y6, rfl⟩, s1, kvs, h1, lk, hall⟩
    exact nx H1 _ s1 ⟨kvs, h1, fun k k1 k2 => hall k k1 (by omega)⟩
end
end Rp
/-! The law's top: the observer, another from its log. -/
namespace Rp
open PySem PySem.Spec PyProof.Rows L2 Rz Rm Rt Rl LamX
/-- an observer of no reader -/
def NewR (K : PySem.W.Frag) (CU : Addr) (E' : XK) : TE := fun σ H Q => ∃ (td ts : Addr) (ds ss : List Int), σ[2]? = some (some (.ref td)) ∧ σ[3]? = some (some (.ref ts)) ∧ H td = some (.tup (ds.map V.int)) ∧ H ts = some (.tup (ss.map V.int)) ∧ Good ds ss ∧ ∀ H', Same H H' → E' (.ref CU) none H'
theorem lk_pair {n : Nat} {H : Hp} {l1 l2 : Addr} {a1 a2 b1 b2 : V} (h1 : H l1 = some (.lst [a1, a2])) (h2 : H l2 = some (.lst [b1, b2])) (g1 : LkD n H a1 b1) (g2 : LkD n H a2 b2) : LkD (n + 1) H (.ref l1) (.ref l2) := by
  refine .inr ⟨l1, l2, _, _, rfl, rfl, .inr ⟨h1, h2⟩, rfl, (by show 2 ≤ 1000; decide), fun i y z hy hz => ?_⟩
  match i, hy, hz with
  | 0, hy, hz => cases hy; cases hz; exact g1
  | 1, hy, hz => cases hy; cases hz; exact g2
  | _ + 2, hy, _ => simp at hy
section
variable {P : Program} {w : World} {K : PySem.W.Frag} {mg : Str → Option Value} {base : Heap}
variable {f : Addr} {cT PT PU : Addr} {A : Around} {outer : List Env} {s : Shared} {H0 : Hp} {E : XK}
theorem hb_new {CU : Addr} (T : Tx K mg) (X2 : RxE K mg "UnknownReader" CU) : ∀ (j : Nat) (A' : Around) (outer' : List Env) (s' : Shared) (H' : Hp) (E' : XK) (f' c' : Addr), Room 8 (A'.deeper (lamEnv (XL P w K mg base f (.ref cT) A outer s H0 E) (lpS (leN j)) s'.heap.objs.size f' c')) → PE (lamCx (XL P w K mg base f (.ref cT) A outer s H0 E) A' outer' s' H' E' (lpS (leN j)) f' c') (lpB (leN j)) (NewR K CU E') := fun j A' outer' s' H' E' f' c' hr => by
  have go : PE (lamCx (XL P w K mg base f (.ref cT) A outer s H0 E) A' outer' s' H' E' (lpS (leN j)) f' c') (lpB (leN j)) _ := pe_make (E := E') T.mkD (ok_diX T X2) (hr.mono (by decide : 5 ≤ 8)) (by rfl) T.gD T.b_dinit .nil (passes_call (takes_of rfl rfl rfl rfl) (fun _ _ _ _ z => z))
    (pa_cons (pe_make T.mkR (ok_init T) (hr.mono (by decide : 5 ≤ 8)) (by rfl) T.gC T.b_rinit .nil pass0 (pa_cons (pv 2) (pa_cons (pv 3) pa_nil))) (pa_cons (pe_callB call_len_seq (by rfl) T.z_len PySem.boot_len (pa_cons (pv 2) pa_nil)) pa_nil))
  refine ⟨fun pins s σ H Q I h => go.run pins s σ H Q I ?_⟩
  obtain ⟨td, ts, ds, ss, h2, h3, hd, hs, G, q⟩ := h
  refine ⟨_, h2, _, h3, fun p dp np ndp ne => ?_⟩
  have s9 := same_new (C := T.C) np ndp
  refine ⟨p, dp, td, ts, ds, ss, rfl, upd_same, s9 _ _ hd, s9 _ _ hs, G, fun H2 R2 k2 => ⟨rfl, ?_⟩⟩
  have s2 : Same H H2 := Same.made np ndp k2
  refine ⟨_, h2, td, _, rfl, .inr (.of R2.td), fun o dx no ndx nod => ?_⟩
  have s3 := same_new (C := T.dC) no ndx
  refine ⟨o, p, dp, td, ts, ds, ss, _, rfl, R2.same s3, lie_no (.inl ⟨_, rfl, .inr ?_⟩), q _ (s2.trans s3)⟩
  rw [List.length_map]
  omega
theorem lb_b5 (T : Tx K mg) (hr : Room 11 (XL P w K mg base f (.ref cT) A outer s H0 E).A) : ∃ tt : TS, PS (XL P w K mg base f (.ref cT) A outer s H0 E) (bs 5) tt ∧
    ∀ (D : Ends) (H : Hp) (a row td ts tb : Addr) (ns ds ss : List Int) (h : Nat) (y6 y7 y8 y9 y10 y11 y12 y13 y14 y15 y16 y17 y18 y19 : Option V), LP K (Tb2 PT PU) H a row td ts ns ds ss → Tbl H tb ds ss h → h < ds.length → (∀ H' q, LB K T.C T.dC (Tb2 PT PU) H' q → q.vo = q.ovs → q.ovs = [] → D.nx (sg q y6 y10 y11 y12 y13 y14 y15 y16 y17 y18 y19) H') → tt D [some (.ref a), some (.ref row), some (.ref td), some (.ref ts), some (.int (h : Int)), some (.ref tb), y6, y7, y8, y9, y10, y11, y12, y13, y14, y15, y16, y17, y18, y19] H := by
  have nd := sc_law.nd
  refine ⟨_, ps_asg (pe_tup (pa_cons (pe_make T.mkD (ok_di T) (hr.mono (by decide : 9 ≤ 11)) (by rfl) T.gD T.b_dinit .nil pass0 (pa_cons (pe_make T.mkR (ok_init T) (hr.mono (by decide : 5 ≤ 11)) (by rfl) T.gC T.b_rinit .nil pass0 (pa_cons (pv 2) (pa_cons (pv 3) pa_nil))) (pa_cons (pv 4) pa_nil))) (pa_cons (pe_listRg rfl (by rfl) T.z_list (prg_2 (by rfl) T.z_range pe_int pe_int)) (pa_cons (pe_lst pa_nil) pa_nil)))) (pg_tup rfl (pgs_cons (pg_name (i := 7) nd rfl (.inr rfl)) (pgs_cons (pg_name (i := 8) nd rfl (.inl rfl)) (pgs_cons (pg_name (i := 9) nd rfl (.inl rfl)) pgs_nil)))), ?_⟩
  intro D H a row td ts tb ns ds ss r y6 y7 y8 y9 y10 y11 y12 y13 y14 y15 y16 y17 y18 y19 b tl hr1 nx
  refine ⟨_, rfl, _, rfl, fun p dp np ndp ne => ?_⟩
  have s1 := same_new (C := T.C) np ndp
  refine ⟨p, dp, td, ts, ds, ss, rfl, upd_same, s1 _ _ b.hd, s1 _ _ b.hs, b.G, fun H4 R4 k4 => ⟨rfl, ?_⟩⟩
  have s4 : Same H H4 := Same.made np ndp k4
  have b4 := b.same s4
  refine ⟨_, rfl, fun o dx no ndx nod => ?_⟩
  have s5 := same_new (C := T.dC) no ndx
  refine ⟨o, dx, p, dp, td, ts, ds, ss, r, rfl, upd_same, R4.same s5, hr1, fun H5 rl ol ra k5 nol B5 => ⟨rfl, ?_⟩⟩
  have S5 : Same H4 H5 := fun b x e => k5 b x (s5 b x e) (ne_of_none e no)
  have nol : H4 ol = none := same_none s5 nol
  have b5 := b4.same S5
  obtain ⟨ri, rm, rc, hrow4, _⟩ := b4.RA.ob
  have nrow : row ≠ ol := ne_of_none hrow4 nol
  have na : a ≠ ol ∨ Wr K a (ns.map V.int) := (far_of b4.RA.sc nol).imp Ne.symm id
  refine ⟨1, 31, rfl, rfl, .of_le (by omega) (by omega) (by omega) (by omega), fun ll hll => ?_⟩
  have e30 : rgV 1 31 = all30.map V.int := by
    unfold rgV
    rw [List.map_map]
    rfl
  rw [e30] at *
  have s6' := same_upd (o := .lst (all30.map V.int)) hll
  refine ⟨(by show 0 ≤ sizeLine; decide), fun sl hsl => ⟨(by show 3 ≤ sizeLine; decide), fun tq htq => ?_⟩⟩
  have s7 := same_upd (o := .lst []) hsl
  have s8 := same_upd (o := .tup [.ref o, .ref ll, .ref sl]) htq
  refine ⟨tq, _, rfl, .of upd_same, rfl, _, _, rfl, _, _, rfl, _, _, rfl, rfl, ?_⟩
  have S8 := (s6'.trans s7).trans s8
  have hll8 := s8 _ _ (s7 _ _ (upd_same : (upd H5 ll (.lst (all30.map V.int))) ll = _))
  have hsl8 := s8 _ _ (upd_same : (upd (upd H5 ll (.lst (all30.map V.int))) sl (.lst [])) sl = _)
  have nll : ll ≠ ol := Ne.symm (ne_of_none B5.ho hll)
  have nsl : sl ≠ ol := Ne.symm (ne_of_none (s6' _ _ B5.ho) hsl)
  have b8 := b5.same S8
  have B8 := B5.same S8
  have nes0 : ∀ n : Nat, n ≤ ([] : List Ov).length → after ds ss r all30 (([] : List Ov).take n) ≠ [] := fun n hn => by
    have e0 : n = 0 := Nat.le_zero.mp hn
    subst e0
    exact B5.ne
  exact nx _ ⟨a, row, td, ts, tb, o, dx, rl, ol, ll, sl, ns, ds, ss, all30, r, ra, [], [], [], []⟩ ⟨b8.RA, b8.tb, b8.hd, b8.hs, b.G, b.l4, ((tl.same s4).same S5).same S8, B8, hll8, hsl8, ⟨rfl, (fun i y v h1 h2 => by cases h1)⟩, ⟨rfl, (fun i y v h1 h2 => by cases h1)⟩, rfl, (fun v hv => by cases hv), nes0, nrow, nll, nsl, na⟩ rfl rfl
/-- the other observer -/
def Othr (C dC : Addr) (H : Hp) (q : Lp) (o2 : Addr) : Prop := ∃ (dx rl ol : Addr) (ra : List Addr) (os : List V), Ob C dC H o2 dx rl ol q.r ra q.lf q.ds q.ss os ∧ Ovs H os q.ovs
theorem lb_b7 {CC : Addr} (T : Tx K mg) (XC : RxE K mg "Contradiction" CC) (hr : Room 11 (XL P w K mg base f (.ref cT) A outer s H0 E).A) : ∃ tt : TS, PS (XL P w K mg base f (.ref cT) A outer s H0 E) (bs 7) tt ∧
    ∀ (D : Ends) (H : Hp) (q : Lp) (y6 y10 y11 y12 y13 y14 y15 y16 y17 y18 y19 : Option V), LB K T.C T.dC (Tb2 PT PU) H q → q.vo = q.ovs → q.ovs.length ≤ 400 → (∀ H' o2, LB K T.C T.dC (Tb2 PT PU) H' q → Othr T.C T.dC H' q o2 → D.nx (sg q y6 y10 y11 y12 y13 y14 y15 y16 y17 y18 (some (.ref o2))) H') → tt D (sg q y6 y10 y11 y12 y13 y14 y15 y16 y17 y18 y19) H := by
  have nd := sc_law.nd
  refine ⟨_, ps_set (i := 19) nd rfl (.inl rfl) (ClX.pe_cmeth (E := E0) (pe_glob (v := .ref T.dC) (by rfl) T.gD rfl) T.crdD T.cmF ((ok_fl T XC).raw T.b_dfrom_log .nil) (hr.mono (by decide : 10 ≤ 11)) pass0 (pa_cons (pe_make T.mkR (ok_init T) (hr.mono (by decide : 5 ≤ 11)) (by rfl) T.gC T.b_rinit .nil pass0 (pa_cons (pv 2) (pa_cons (pv 3) pa_nil))) (pa_cons (pv 4) (pa_cons (pv 9) pa_nil)))), ?_⟩
  intro D H q y6 y10 y11 y12 y13 y14 y15 y16 y17 y18 y19 b vo few nx
  refine ⟨rfl, _, rfl, _, rfl, fun p dp np ndp ne => ?_⟩
  have s1 := same_new (C := T.C) np ndp
  refine ⟨p, dp, q.td, q.ts, q.ds, q.ss, rfl, upd_same, s1 _ _ b.hd, s1 _ _ b.hs, b.G, fun H4 R4 k4 => ⟨rfl, ?_⟩⟩
  have s4 : Same H H4 := Same.made np ndp k4
  have b4 := b.same s4
  refine ⟨_, rfl, _, rfl, p, dp, q.td, q.ts, q.sl, q.ds, q.ss, q.r, q.sv, q.vo, rfl, R4, b4.B.rlt, b4.hv, ?_, b4.vs, ?_, ?_, fun H3 o dx rl ol ra os' s3 B' V' _ => ?_⟩
  · rw [b.vs.1, vo]; exact few
  · rw [vo]; exact b.okv
  · rw [vo]; exact b.nes
  · rw [vo] at V'
    rw [vo, ← b.lfe] at B'
    exact nx H3 o (b4.same s3) ⟨dx, rl, ol, ra, os', B', V'⟩
theorem lb_b8 (T : Tx K mg) (hr : Room 11 (XL P w K mg base f (.ref cT) A outer s H0 E).A) : ∃ tt : TS, PS (XL P w K mg base f (.ref cT) A outer s H0 E) (bs 8) tt ∧
    ∀ (D : Ends) (H : Hp) (q : Lp) (o2 : Addr) (y6 y10 y11 y12 y13 y14 y15 y16 y17 y18 : Option V), LB K T.C T.dC (Tb2 PT PU) H q → q.vo = q.ovs → q.ovs.length ≤ 400 → Othr T.C T.dC H q o2 → (∀ H', LB K T.C T.dC (Tb2 PT PU) H' q → D.nx (sg q y6 y10 y11 y12 y13 y14 y15 y16 y17 y18 (some (.ref o2))) H') → tt D (sg q y6 y10 y11 y12 y13 y14 y15 y16 y17 y18 (some (.ref o2))) H := by
  have nd := sc_law.nd
  refine ⟨_, ps_if (pt_not (pt_val (pe_call (ok_likeD T 3) (hr.mono (by decide : 4 ≤ 11)) (by rfl) T.g_lalike T.F_lalike.kp T.b_lalike .nil pass0 (pa_cons (pe_lst (pa_cons (pe_prop (pv 19) T.clD T.q_dpossible_days (ok_pd T) (hr.mono (by decide : 4 ≤ 11)) T.b_dpossible_days .nil pass0 rfl) (pa_cons (pe_prop (pv 19) T.clD T.q_dobservations (ok_os T) (hr.mono (by decide : 2 ≤ 11)) T.b_dobservations .nil pass0 rfl) pa_nil)))
    (pa_cons (pe_lst (pa_cons (pe_prop (pv 7) T.clD T.q_dpossible_days (ok_pd T) (hr.mono (by decide : 4 ≤ 11)) T.b_dpossible_days .nil pass0 rfl) (pa_cons (pv 9) pa_nil))) pa_nil))))) (pss_one (ps_ret pe_bl)) pss_nil, ?_⟩
  intro D H q o2 y6 y10 y11 y12 y13 y14 y15 y16 y17 y18 b vo few ho nx
  obtain ⟨dx, rl, ol, ra, os, B, V2⟩ := ho
  have l30 := b.B.l30
  refine ⟨_, rfl, o2, dx, _, rfl, B.ob, o2, dx, rl, ol, q.r, ra, q.lf, q.ds, q.ss, os, rfl, B, fun H1 l1 s1 h1 => ?_⟩
  have B1 := B.same s1
  refine ⟨_, rfl, o2, dx, _, rfl, B1.ob, o2, dx, rl, ol, q.r, ra, q.lf, q.ds, q.ss, os, rfl, B1, fun H2 l2 s2 h2 => ⟨(by show 2 ≤ sizeLine; decide), fun L1 hL1 => ?_⟩⟩
  have s3 := same_upd (o := .lst [.ref l1, .ref l2]) hL1
  have g3 : (upd H2 L1 (.lst [.ref l1, .ref l2])) L1 = some (.lst [.ref l1, .ref l2]) := upd_same
  have b3 := ((b.same s1).same s2).same s3
  have V3 := V2.mono fun t xs e => s3 _ _ (s2 _ _ (s1 _ _ e))
  generalize (upd H2 L1 (.lst [.ref l1, .ref l2])) = H3 at s3 g3 b3 V3
  refine ⟨_, rfl, q.o, q.dx, _, rfl, b3.B.ob, q.o, q.dx, q.rl, q.ol, q.r, q.ra, q.lf, q.ds, q.ss, q.os, rfl, b3.B, fun H4 l4 s4 h4 => ?_⟩
  refine ⟨_, rfl, (by show 2 ≤ sizeLine; decide), fun L2 hL2 => ?_⟩
  have s5 := same_upd (o := .lst [.ref l4, .ref q.sl]) hL2
  have b5 := (b3.same s4).same s5
  have s35 := s4.trans s5
  have vs5 := b5.vs
  rw [vo] at vs5
  have V5 := V3.mono fun t xs e => s35 _ _ e
  have h1' := s35 _ _ (s3 _ _ (s2 _ _ h1))
  have h2' := s35 _ _ (s3 _ _ h2)
  refine ⟨_, _, rfl, lk_pair (s35 _ _ g3) upd_same (.inl (LkD.ints (l := q.lf) (.inr ⟨h1', s5 _ _ h4⟩) (by omega))) (.inr ⟨l2, q.sl, _, _, rfl, rfl, .inr ⟨h2', b5.hv⟩, by rw [vs5.1, V5.1], by rw [V5.1]; omega, fun i a c ha hc => ovs_like V5 vs5 i a c ha hc⟩), fun H6 s6 => ⟨_, rfl, iteF (nx _ (b5.same s6))⟩⟩
theorem lb_b9 {CU : Addr} (T : Tx K mg) (S : RdS K mg) (R2 : RdR S CU 7) (X2 : RxE K mg "UnknownReader" CU) (TB : TabB base mg cT PT) (np : PT ≠ PU) (hr : Room 11 (XL P w K mg base f (.ref cT) A outer s H0 E).A) : ∃ tt : TS, PS (XL P w K mg base f (.ref cT) A outer s H0 E) (bs 9) tt ∧
    ∀ (D : Ends) (H : Hp) (q : Lp) (y6 y10 y11 y12 y13 y14 y15 y16 y17 y18 y19 : Option V), LB K T.C T.dC (Tb2 PT PU) H q → (∀ H', LB K T.C T.dC (Tb2 PT PU) H' q → D.nx (sg q y6 y10 y11 y12 y13 y14 y15 y16 y17 y18 y19) H') → tt D (sg q y6 y10 y11 y12 y13 y14 y15 y16 y17 y18 y19) H := by
  have nd := sc_law.nd
  refine ⟨_, ps_if (pt_cmpR (op_neD hr.units) (pe_raised (X := XL P w K mg base f (.ref cT) A outer s H0 E) (k := 8) (le := leN) T S leN_ok (hb_new T X2) (by rfl) (hr.mono (by decide : 10 ≤ 11)) (pe_lam0 TB rfl List.mem_cons_self (hu1 np) (fun y hy z => (leN_ok 0).free y hy z) rfl)) (pe_tup (pa_cons pe_str pa_nil)) (nomark _)) (pss_one (ps_ret pe_bl)) pss_nil, ?_⟩
  intro D H q y6 y10 y11 y12 y13 y14 y15 y16 y17 y18 y19 b nx
  refine ⟨b.tb, fun g c H5 x5 t5 _ k1 k2 => ⟨g, (0, none, c), rfl, k1, k2, bdN, fun E' hE => ?_⟩⟩
  have b5 := b.extN x5 t5
  refine ⟨q.td, q.ts, q.ds, q.ss, rfl, rfl, b5.hd, b5.hs, b5.G, fun H6 s6 => hE _ _ _ ⟨CU, 7, rfl, rfl, R2, fun p H7 s7 hn hp => ?_⟩⟩
  refine ⟨(by show 1 ≤ sizeLine; decide), fun p9 hp9 => ?_⟩
  have s8 := same_upd (o := .tup [.str "reader"]) hp9
  have hsh : SeqAt.shaped (.tuple [.str "reader"]) = true := by decide +kernel
  refine ⟨.tuple [.str "reader"], .tuple [.str "reader"], .tup (.of (s8 _ _ hp)) (.cons (.str _) .nil), .tup (.of upd_same) (.cons (.str _) .nil), hsh, hsh, _, rfl, ?_⟩
  rw [show (!PyData.eqv (.tuple [.str "reader"]) (.tuple [.str "reader"])) = false by simp [PyData.eqv, PyData.eqvAll]]
  exact iteF (nx _ (b5.same fun b o h => s8 _ _ (s7 _ _ (s6 _ _ h))))
end
end Rp
namespace Rp
open PySem PySem.Spec PyProof.Rows L2 Rz Rm Rt Rl LamX
section
variable {P : Program} {w : World} {K : PySem.W.Frag} {mg : Str → Option Value} {base : Heap}
def spLawL (K : PySem.W.Frag) (PT PU : Addr) : Sp := fun vs H Q _ => ∃ (a : Addr) (ns : List Int), vs = [.ref a] ∧ SqL K H a (ns.map V.int) ∧ ns.length ≤ 63 ∧ H PT = some (.tbl #[]) ∧ H PU = some (.tbl #[]) ∧ ∀ H', Q (.bl true) H'
theorem ok_law {cT PT cU PU : Addr} (T : Tx K mg) (S : RdS K mg) (R4 : RdR S S.k6 6) (R2 : RdR S S.k7 7) (RC : RdR S S.k9 9) (X4 : RxE K mg "InvalidNumber" S.k6) (X2 : RxE K mg "UnknownReader" S.k7) (XC : RxE K mg "Contradiction" S.k9) (TB : TabB base mg cT PT) (FC : FunC K "law" "law" s_law T.a_law T.d_law (.ref cT))
    (TU : TabB base mg cU PU) (FU : FunC K "_law_are_rejected" "_law_are_rejected" s_lare_rejected T.a_lare_rejected T.d_lare_rejected (.ref cU)) (np : PT ≠ PU) : FnOk P w K mg base CX0 12 T.a_law T.d_law P_law (spLawL K PT PU) := by
  refine FC.ok sc_law (fun vs H Q E h => ?_) (fun A outer s H vs Q E hr h => ?_)
  · obtain ⟨a, ns, rfl, _⟩ := h
    rfl
  · obtain ⟨a, ns, rfl, hS, hlen, hP, hU, qq⟩ := h
    have nd := sc_law.nd
    obtain ⟨tb1, qb1, vb1⟩ := lb_b1 (P := P) (w := w) (K := K) (mg := mg) (base := base) (f := T.a_law) (cT := cT) (A := A) (outer := outer) (s := s) (H0 := H) (E := E) (Tb := Tb2 PT PU) T hr
    obtain ⟨tb2, qb2, vb2⟩ := lb_b2 (P := P) (w := w) (K := K) (mg := mg) (base := base) (f := T.a_law) (cT := cT) (A := A) (outer := outer) (s := s) (H0 := H) (E := E) (Tb := Tb2 PT PU) T hr
    obtain ⟨tb3, qb3, vb3⟩ := lb_b3 (P := P) (w := w) (K := K) (mg := mg) (base := base) (f := T.a_law) (cT := cT) (A := A) (outer := outer) (s := s) (H0 := H) (E := E) 
    obtain ⟨tb4, qb4, vb4⟩ := lb_b4 (P := P) (w := w) (K := K) (mg := mg) (base := base) (f := T.a_law) (cT := cT) (A := A) (outer := outer) (s := s) (H0 := H) (E := E) (Tb := Tb2 PT PU) T hr
    obtain ⟨tb5, qb5, vb5⟩ := lb_b5 (P := P) (w := w) (K := K) (mg := mg) (base := base) (f := T.a_law) (cT := cT) (A := A) (outer := outer) (s := s) (H0 := H) (E := E)  (PT := PT) (PU := PU) T hr
    obtain ⟨tb7, qb7, vb7⟩ := lb_b7 (P := P) (w := w) (K := K) (mg := mg) (base := base) (f := T.a_law) (cT := cT) (A := A) (outer := outer) (s := s) (H0 := H) (E := E)  (PT := PT) (PU := PU) T XC hr
    obtain ⟨tb8, qb8, vb8⟩ := lb_b8 (P := P) (w := w) (K := K) (mg := mg) (base := base) (f := T.a_law) (cT := cT) (A := A) (outer := outer) (s := s) (H0 := H) (E := E)  (PT := PT) (PU := PU) T hr
    obtain ⟨tb9, qb9, vb9⟩ := lb_b9 (P := P) (w := w) (K := K) (mg := mg) (base := base) (f := T.a_law) (cT := cT) (A := A) (outer := outer) (s := s) (H0 := H) (E := E)  (PT := PT) (PU := PU) T S R2 X2 TB np hr
    obtain ⟨t0, q0, v0⟩ := lx_f0 (P := P) (w := w) (K := K) (mg := mg) (base := base) (f := T.a_law) (cT := cT) (A := A) (outer := outer) (s := s) (H0 := H) (E := E) (Tb := Tb2 PT PU) T hr
    obtain ⟨t1, q1, v1⟩ := lx_f1 (P := P) (w := w) (K := K) (mg := mg) (base := base) (f := T.a_law) (cT := cT) (A := A) (outer := outer) (s := s) (H0 := H) (E := E) (Tb := Tb2 PT PU) T hr
    obtain ⟨t2, q2, v2⟩ := lx_f2 (P := P) (w := w) (K := K) (mg := mg) (base := base) (f := T.a_law) (cT := cT) (A := A) (outer := outer) (s := s) (H0 := H) (E := E) (Tb := Tb2 PT PU) T hr
    obtain ⟨t3, q3, v3⟩ := lx_f3 (P := P) (w := w) (K := K) (mg := mg) (base := base) (f := T.a_law) (cT := cT) (A := A) (outer := outer) (s := s) (H0 := H) (E := E) (Tb := Tb2 PT PU) T hr
    obtain ⟨t4, q4, v4⟩ := lx_f4 (P := P) (w := w) (K := K) (mg := mg) (base := base) (f := T.a_law) (cT := cT) (A := A) (outer := outer) (s := s) (H0 := H) (E := E) (Tb := Tb2 PT PU) T hr
    obtain ⟨t5, q5, v5⟩ := lx_f5 (P := P) (w := w) (K := K) (mg := mg) (base := base) (f := T.a_law) (cT := cT) (A := A) (outer := outer) (s := s) (H0 := H) (E := E)  (PT := PT) (PU := PU) TB np
    obtain ⟨t6, q6, v6⟩ := lx_f6 (P := P) (w := w) (K := K) (mg := mg) (base := base) (f := T.a_law) (cT := cT) (A := A) (outer := outer) (s := s) (H0 := H) (E := E)  (PT := PT) (PU := PU) TB np
    obtain ⟨t7, q7, v7⟩ := lx_f7 (P := P) (w := w) (K := K) (mg := mg) (base := base) (f := T.a_law) (cT := cT) (A := A) (outer := outer) (s := s) (H0 := H) (E := E) (Tb := Tb2 PT PU) T hr
    obtain ⟨t8, q8, v8⟩ := lx_f8 (P := P) (w := w) (K := K) (mg := mg) (base := base) (f := T.a_law) (cT := cT) (A := A) (outer := outer) (s := s) (H0 := H) (E := E)  (PT := PT) (PU := PU) T S RC XC TB np hr
    obtain ⟨t9, q9, v9⟩ := lx_f9 (P := P) (w := w) (K := K) (mg := mg) (base := base) (f := T.a_law) (cT := cT) (A := A) (outer := outer) (s := s) (H0 := H) (E := E) T hr
    obtain ⟨t10, q10, v10⟩ := lx_f10 (P := P) (w := w) (K := K) (mg := mg) (base := base) (f := T.a_law) (cT := cT) (A := A) (outer := outer) (s := s) (H0 := H) (E := E) (Tb := Tb2 PT PU) T hr
    obtain ⟨t11, q11, v11⟩ := lx_f11 (P := P) (w := w) (K := K) (mg := mg) (base := base) (f := T.a_law) (cT := cT) (A := A) (outer := outer) (s := s) (H0 := H) (E := E) (Tb := Tb2 PT PU) T hr
    refine ⟨_, pss_cons (ps_set (i := 1) nd rfl (.inl rfl) (pe_lst (pa_cons (pv 0) (pa_cons pe_int (pa_cons pe_int (pa_cons pe_int pa_nil)))))) (pss_cons qb1 (pss_cons qb2 (pss_cons qb3 (pss_cons qb4 (pss_cons qb5
      (pss_cons (ps_for PassesOwn.never rfl (pi_range1 (by rfl) T.z_range (pa_cons (pe_call (ok_taken T) (hr.mono (by decide : 1 ≤ 11)) (by rfl) T.g_ltaken T.F_ltaken.kp T.b_ltaken .nil pass0 (pa_cons (pv 1) (pa_cons pe_int pa_nil))) pa_nil)) (pg_name (i := 10) nd rfl (.inl rfl)) (pss_cons q0 (pss_cons q1 (pss_cons q2 (pss_cons q3 (pss_cons q4 (pss_cons q5 (pss_cons q6 (pss_cons q7 (pss_cons q8 (pss_cons q9 (pss_cons q10 (pss_one q11)))))))))))))
      (pss_cons qb7 (pss_cons qb8 (pss_cons qb9 (pss_one (ps_ret (pe_call (ok_rej T S R2 R4 X2 X4 TU np FU) (hr.mono (by decide : 9 ≤ 11)) (by rfl) T.g_lare_rejected T.F_lare_rejected.kp T.b_lare_rejected .nil pass0 (pa_cons (pv 7) (pa_cons (pe_callB call_len_seq (by rfl) T.z_len PySem.boot_len (pa_cons (pv 2) pa_nil)) pa_nil)))))))))))))), ?_⟩
    have tb0 : Tabs (Tb2 PT PU) H := fun p hp => by
      rcases List.mem_cons.mp hp with rfl | hp
      · exact TabS.nil hP
      · obtain rfl := List.mem_singleton.mp hp
        exact TabS.nil hU
    refine ⟨_, rfl, (by show 4 ≤ sizeLine; decide), fun row hrow => ?_⟩
    have s0 := same_upd (o := .lst [.ref a, .int 0, .int 0, .int 0]) hrow
    have RA0 : RowAt K (upd H row (.lst [.ref a, .int 0, .int 0, .int 0])) row a ns := ⟨⟨0, 0, 0, upd_same, Int.le_refl _⟩, s0.seq hS, far_of hS hrow⟩
    have tb1 := tb0.ext s0
    show tSeq _ _ _ [some (.ref a), some (.ref row), none, none, none, none, none, none, none, none, none, none, none, none, none, none, none, none, none, none] (upd H row (.lst [.ref a, .int 0, .int 0, .int 0]))
    generalize (upd H row (.lst [.ref a, .int 0, .int 0, .int 0])) = H1 at RA0 tb1 ⊢
    refine vb1 _ H1 a row ns _ _ _ RA0 tb1 fun H2 td ts ds ss b2 => ?_
    refine vb2 _ H2 a row td ts ns ds ss _ _ b2 fun H3 h b3 hlt => ?_
    refine vb3 _ H3 _ fun H4 tb s4 ntb htb => ?_
    refine vb4 _ H3 H4 a row td ts ns ds ss h tb none _ b3 hlt s4 ntb htb fun H5 y6 s5 tl5 => ?_
    refine vb5 _ H5 a row td ts tb ns ds ss h y6 _ _ _ _ _ _ _ _ _ _ _ _ _ (b3.same s5) tl5 hlt fun H6 q0 b6 vo0 ov0 => ?_
    refine ⟨_, rfl, q0.row, q0.a, q0.ns, 6, rfl, b6.RA, by decide, by decide, fun tn H7 t0 t1 RA7 k7 => ⟨_, rfl, by omega, by omega, ?_⟩⟩
    have b7 := b6.kp k7 RA7
    refine for_range (lo := 0) (n := tn.toNat) (fun i σ H' => ∃ (q : Lp) (y6 y10 y11 y12 y13 y14 y15 y16 y17 y18 y19 : Option V), σ = sg q y6 y10 y11 y12 y13 y14 y15 y16 y17 y18 y19 ∧ LB K T.C T.dC (Tb2 PT PU) H' q ∧ q.vo = q.ovs ∧ q.ovs.length ≤ i)
      ⟨q0, _, _, _, _, _, _, _, _, _, _, _, rfl, b7, vo0, by rw [ov0]; exact Nat.le_refl _⟩ ?_ ?_
    · rintro i σ H8 hi ⟨q, y6, y10, y11, y12, y13, y14, y15, y16, y17, y18, y19, rfl, b, vo, lo⟩
      have hi6 : i < 6 := by omega
      show tSeq _ _ _ (sg q y6 (some (.int (0 + (i : Int)))) y11 y12 y13 y14 y15 y16 y17 y18 y19) H8
      refine v0 _ H8 q _ _ _ _ _ _ _ _ _ _ _ b fun H9 k x b k1 x1 => ?_
      refine v1 _ H9 q k x _ _ _ _ _ _ _ _ _ b k1 x1 fun H10 day b d0 d1 => ?_
      refine v2 _ H10 q k x day _ _ _ _ _ _ _ _ b fun H11 nt ie b hn => ?_
      refine v3 _ H11 q k x day nt ie _ _ _ _ _ _ _ b hn k1 x1 fun H12 gl b hn hg ng => ?_
      refine v4 _ H12 _ fun H13 gr s13 ngr hgr => ?_
      have b13 := b.same s13
      have hn13 : Nt H13 nt ie k x day := s13 _ _ hn
      have hg13 := s13 _ _ hg
      have nsl : gr ≠ q.sl := (ne_of_none b.hv ngr).symm
      have nol : gr ≠ q.ol := (ne_of_none b.B.ho ngr).symm
      have nga : gr ≠ q.a ∨ Wr K q.a (q.ns.map V.int) := far_of b.RA.sc ngr
      refine v5 _ H13 _ b13.tb fun H14 wl g0 r0 => ?_
      refine v6 _ H13 H14 _ wl [g0] rfl rfl r0 fun H15 g1 r1 => ?_
      have b15 := b13.extN r1.x r1.t
      have hn15 : Nt H15 nt ie k x day := r1.x _ _ hn13 (by intro ps z; cases z)
      have hg15 := r1.x _ _ hg13 (by intro ps z; cases z)
      have hgr15 := r1.x _ _ hgr (by intro ps z; cases z)
      refine v7 _ H15 q k x day nt wl g0 g1 ie _ _ _ _ _ _ hn15 r1.h ?_
      have kw : KLat ((XL P w K mg base T.a_law (.ref cT) A outer s H E).env.qual ++ "<lambda>") (XL P w K mg base T.a_law (.ref cT) A outer s H E).env.cells H15 (leL (if ie then 1 else 0)) (if ie then g1 else g0) := by
        cases ie with
        | true => exact r1.k 1 g1 rfl
        | false => exact r1.k 0 g0 rfl
      have few : q.os.length < 400 := by rw [b15.eo.1]; omega
      have l30 : (Lft q ie k x day).length ≤ 30 := Nat.le_trans (List.length_filter_le _ _) b15.B.l30
      refine v8 _ H15 q k x day nt gl gr (if ie then g1 else g0) ie _ _ _ _ b15 hn15 k1 x1 d0 d1 few hg15 ng hgr15 nsl nol nga kw ⟨fun ne H16 nl t rb b hn hgr => ?_, fun en H16 b hn hg hgr => ?_⟩
      · have vo2 : q.vo ++ [(⟨ie, k, x, day⟩ : Ov)] = q.ovs ++ [⟨ie, k, x, day⟩] := by rw [vo]
        have ln2 : (q.ovs ++ [(⟨ie, k, x, day⟩ : Ov)]).length ≤ i + 1 := by rw [List.length_append]; show _ + 1 ≤ _; omega
        refine v9 _ H16 _ gl gr (Lft q ie k x day) rfl rfl b.hl (by rw [if_neg ne]; exact hgr) l30 fun H17 s17 => ?_
        have b17 := b.same s17
        refine v10 _ H17 (q.put nl t gl rb (Lft q ie k x day) ⟨ie, k, x, day⟩) ⟨ie, k, x, day⟩ nt gl (Lft q ie k x day) _ (some (.ref q.ll)) _ _ _ _ _ _ _ _ b17.hl (fun e => absurd e ne) (fun _ => ⟨rfl, b17, s17 _ _ hn, by rw [b17.vs.1]; show q.vo.length ≤ 400; rw [vo]; omega, fun H18 ns' b18 => ?_⟩)
        have few2 : (q.os ++ [V.ref t]).length ≤ 400 := by rw [List.length_append]; show _ + 1 ≤ _; omega
        refine v11 _ H18 { (q.put nl t gl rb (Lft q ie k x day) ⟨ie, k, x, day⟩) with sl := ns', sv := q.sv ++ [.ref nt], vo := q.vo ++ [⟨ie, k, x, day⟩] } k x _ _ _ _ _ _ _ _ _ b18 vo2 k1 x1 few2 fun H19 b19 => ?_
        exact ⟨{ (q.put nl t gl rb (Lft q ie k x day) ⟨ie, k, x, day⟩) with sl := ns', sv := q.sv ++ [.ref nt], vo := q.vo ++ [⟨ie, k, x, day⟩] }, _, _, _, _, _, _, _, _, _, _, _, rfl, b19, vo2, ln2⟩
      · refine v9 _ H16 _ gl gr [] rfl rfl hg (by rw [if_pos rfl]; exact hgr) (by decide) fun H17 s17 => ?_
        have b17 := b.same s17
        refine v10 _ H17 q ⟨ie, k, x, day⟩ nt gl [] _ (some (.ref q.ll)) _ _ _ _ _ _ _ _ (s17 _ _ hg) (fun _ H18 s18 => ?_) (fun h => absurd rfl h)
        refine v11 _ H18 q k x _ _ _ _ _ _ _ _ _ (b17.same s18) vo k1 x1 (by omega) fun H19 b19 => ?_
        exact ⟨q, _, _, _, _, _, _, _, _, _, _, _, rfl, b19, vo, Nat.le_succ_of_le lo⟩
    · rintro σ H8 ⟨q, y6, y10, y11, y12, y13, y14, y15, y16, y17, y18, y19, rfl, b, vo, lo⟩
      have few : q.ovs.length ≤ 400 := by omega
      refine vb7 _ H8 q _ _ _ _ _ _ _ _ _ _ _ b vo few fun H9 o2 b ho => ?_
      refine vb8 _ H9 q o2 _ _ _ _ _ _ _ _ _ _ b vo few ho fun H10 b => ?_
      refine vb9 _ H10 q _ _ _ _ _ _ _ _ _ _ _ b fun H11 b => ?_
      refine ⟨_, rfl, _, rfl, q.td, _, rfl, .inr (.of b.hd), ?_⟩
      rw [List.length_map]
      exact ⟨q.o, q.dx, q.rl, q.ol, q.r, q.ra, q.lf, q.ds, q.ss, q.os, rfl, b.B, b.tb, qq⟩
end
end Rp
/-! The end of a law where several defs hold lambdas: all their tables are empty. -/
namespace Rl
open PySem PySem.Spec PyProof.Rows L2 LamX
theorem walk_tabs {l : PySem.W.OpenLaw} {n k : Nat} {pr : Program} {loose : List Str} {XP : (Str → Option Value) → Heap → Prop} {YP : World → Heap → Prop} {dr : DefRec} {K : Params → PySem.W.Frag} {CX : World → CXT} {x : Str}
    (most : l.most = some n) (small : n ≤ sizeLine) (nodf : dr.params.defaults = []) (room : Room k callerA) (kin : ∀ (w : World) (h : Heap), YP w h → (K w.params).In h)
    (F : ∀ (w : World) (mg : Str → Option Value) (fa : Addr) (h : Heap), YP w h → (K w.params).In h → h.Ns mainGlobals mg → mg dr.name = some (.ref fa) →
      (∀ (nm : Str) (fb : Addr), ((recsOf pr).any fun r => r.name == nm) = true → mg nm = some (.ref fb) → OwnTab (K w.params) fb h) → LawAtS l w (K w.params) (CX w) k n x mg fa h)
    (quiet : ∀ (w : World) (H : Hp) (s : Shared) (e : Value) (s' : Shared), CX w [] H s (fun _ _ _ => False) e s' → False) :
    PySem.W.WalkO pr loose XP YP l.row.toRowW dr [] (fun f vs => PySem.call f vs) := by
  refine Att.attach_callB most nodf fun w st0 st1 mg mb fa ob pm cd doc a vs ns Gd Yp hob hdt hcod hmn hob2 hin hle hbt hgn => ?_
  have KK := kin w _ Yp
  have tabs : ∀ (nm : Str) (fb : Addr), ((recsOf pr).any fun r => r.name == nm) = true → mg nm = some (.ref fb) → OwnTab (K w.params) fb st1.heap := by
    intro nm fb hr hb c P o1 fd1 e dd vs1 sl q1 q2 q3 q4 q5
    obtain ⟨rc, mem, eqn⟩ := List.any_eq_true.mp hr
    obtain ⟨b1, o2, fd2, c2, P2, t1, t2, t3, t4, t5, t6⟩ := Gd.T.tab rc mem
    rw [beq_iff_eq.mp eqn, hb] at t1
    cases t1
    rw [KK _ _ q1] at t2
    cases t2
    rw [q2] at t3
    cases t3
    rw [q3] at t4
    cases t4
    obtain ⟨⟨oc, vc, w1, _, w3, w4⟩, emp⟩ := t6
    rw [KK _ _ q4] at w1
    cases w1
    cases w3
    rw [q5] at w4
    cases w4
    exact emp
  obtain ⟨fd, cs, sp, g1, g2, g3, g4, g5, g6⟩ := F w mg fa _ Yp KK Gd.T.g hmn tabs
  refine law_callTs KK Gd.T.g Gd.T.b Gd.T.builtins Gd.T.nolimit hgn g1 g2 g3 Gd.T.bmain hob2 hin (Nat.le_trans hle small) room g6 g4 (fun H hH hS => ?_) fun H e s' => quiet w H st1 e s'
  exact g5 H a ns hle hbt hH hS
end Rl
namespace Rp
open PySem PySem.Spec PyProof.Rows L2 Rz Rm Rt Rl LamX
theorem all_mk {l : PySem.W.OpenLaw} {w : World} {K : PySem.W.Frag} {h : Heap} {mg : Str → Option Value} {fa C dC : Addr} (X : K.In h) (G : h.Ns mainGlobals mg) (hfa : mg "law" = some (.ref fa))
    {f_is_number : Addr} {od_is_number an_is_number : Option Addr} {sl_is_number : Array (Option Value)} {oc_is_number kV_is_number dc_is_number pm_is_number cd_is_number ct_is_number : Value}
    {f_lies_between : Addr} {od_lies_between an_lies_between : Option Addr} {sl_lies_between : Array (Option Value)} {oc_lies_between kV_lies_between dc_lies_between pm_lies_between cd_lies_between ct_lies_between : Value}
    {f_check_number : Addr} {od_check_number an_check_number : Option Addr} {sl_check_number : Array (Option Value)} {oc_check_number kV_check_number dc_check_number pm_check_number cd_check_number ct_check_number : Value}
    {f_check_reader : Addr} {od_check_reader an_check_reader : Option Addr} {sl_check_reader : Array (Option Value)} {oc_check_reader kV_check_reader dc_check_reader pm_check_reader cd_check_reader ct_check_reader : Value}
    {f_rinit : Addr} {od_rinit an_rinit : Option Addr} {sl_rinit : Array (Option Value)} {oc_rinit kV_rinit dc_rinit pm_rinit cd_rinit ct_rinit : Value}
    {f_rdays : Addr} {od_rdays an_rdays : Option Addr} {sl_rdays : Array (Option Value)} {oc_rdays kV_rdays dc_rdays pm_rdays cd_rdays ct_rdays : Value}
    {pp_rdays : Addr} {re_rdays : List Value}
    {f_rstarts : Addr} {od_rstarts an_rstarts : Option Addr} {sl_rstarts : Array (Option Value)} {oc_rstarts kV_rstarts dc_rstarts pm_rstarts cd_rstarts ct_rstarts : Value}
    {pp_rstarts : Addr} {re_rstarts : List Value}
    {f_rbooks : Addr} {od_rbooks an_rbooks : Option Addr} {sl_rbooks : Array (Option Value)} {oc_rbooks kV_rbooks dc_rbooks pm_rbooks cd_rbooks ct_rbooks : Value}
    {pp_rbooks : Addr} {re_rbooks : List Value}
    {f_rpace : Addr} {od_rpace an_rpace : Option Addr} {sl_rpace : Array (Option Value)} {oc_rpace kV_rpace dc_rpace pm_rpace cd_rpace ct_rpace : Value}
    {pp_rpace : Addr} {re_rpace : List Value}
    {f_rwith_days : Addr} {od_rwith_days an_rwith_days : Option Addr} {sl_rwith_days : Array (Option Value)} {oc_rwith_days kV_rwith_days dc_rwith_days pm_rwith_days cd_rwith_days ct_rwith_days : Value}
    {f_rlen : Addr} {od_rlen an_rlen : Option Addr} {sl_rlen : Array (Option Value)} {oc_rlen kV_rlen dc_rlen pm_rlen cd_rlen ct_rlen : Value}
    {f_rcall : Addr} {od_rcall an_rcall : Option Addr} {sl_rcall : Array (Option Value)} {oc_rcall kV_rcall dc_rcall pm_rcall cd_rcall ct_rcall : Value}
    {f_check_part : Addr} {od_check_part an_check_part : Option Addr} {sl_check_part : Array (Option Value)} {oc_check_part kV_check_part dc_check_part pm_check_part cd_check_part ct_check_part : Value}
    {f_end_day : Addr} {od_end_day an_end_day : Option Addr} {sl_end_day : Array (Option Value)} {oc_end_day kV_end_day dc_end_day pm_end_day cd_end_day ct_end_day : Value}
    {f_is_same_number : Addr} {od_is_same_number an_is_same_number : Option Addr} {sl_is_same_number : Array (Option Value)} {oc_is_same_number kV_is_same_number dc_is_same_number pm_is_same_number cd_is_same_number ct_is_same_number : Value}
    {f_dinit : Addr} {od_dinit an_dinit : Option Addr} {sl_dinit : Array (Option Value)} {oc_dinit kV_dinit dc_dinit pm_dinit cd_dinit ct_dinit : Value}
    {f_dfrom_log : Addr} {od_dfrom_log an_dfrom_log : Option Addr} {sl_dfrom_log : Array (Option Value)} {oc_dfrom_log kV_dfrom_log dc_dfrom_log pm_dfrom_log cd_dfrom_log ct_dfrom_log : Value}
    {p_dfl : Addr} {rest_dfl : List Value}
    {f_dpossible_days : Addr} {od_dpossible_days an_dpossible_days : Option Addr} {sl_dpossible_days : Array (Option Value)} {oc_dpossible_days kV_dpossible_days dc_dpossible_days pm_dpossible_days cd_dpossible_days ct_dpossible_days : Value}
    {pp_dpossible_days : Addr} {re_dpossible_days : List Value}
    {f_dobservations : Addr} {od_dobservations an_dobservations : Option Addr} {sl_dobservations : Array (Option Value)} {oc_dobservations kV_dobservations dc_dobservations pm_dobservations cd_dobservations ct_dobservations : Value}
    {pp_dobservations : Addr} {re_dobservations : List Value}
    {f_dsee_end : Addr} {od_dsee_end an_dsee_end : Option Addr} {sl_dsee_end : Array (Option Value)} {oc_dsee_end kV_dsee_end dc_dsee_end pm_dsee_end cd_dsee_end ct_dsee_end : Value}
    {f_dsee_open : Addr} {od_dsee_open an_dsee_open : Option Addr} {sl_dsee_open : Array (Option Value)} {oc_dsee_open kV_dsee_open dc_dsee_open pm_dsee_open cd_dsee_open ct_dsee_open : Value}
    {f_dpossible_ends : Addr} {od_dpossible_ends an_dpossible_ends : Option Addr} {sl_dpossible_ends : Array (Option Value)} {oc_dpossible_ends kV_dpossible_ends dc_dpossible_ends pm_dpossible_ends cd_dpossible_ends ct_dpossible_ends : Value}
    {f_dtelling_number : Addr} {od_dtelling_number an_dtelling_number : Option Addr} {sl_dtelling_number : Array (Option Value)} {oc_dtelling_number kV_dtelling_number dc_dtelling_number pm_dtelling_number cd_dtelling_number ct_dtelling_number : Value}
    {f_dcheck_reading : Addr} {od_dcheck_reading an_dcheck_reading : Option Addr} {sl_dcheck_reading : Array (Option Value)} {oc_dcheck_reading kV_dcheck_reading dc_dcheck_reading pm_dcheck_reading cd_dcheck_reading ct_dcheck_reading : Value}
    {f_daccept : Addr} {od_daccept an_daccept : Option Addr} {sl_daccept : Array (Option Value)} {oc_daccept kV_daccept dc_daccept pm_daccept cd_daccept ct_daccept : Value}
    {f_ltaken : Addr} {od_ltaken an_ltaken : Option Addr} {sl_ltaken : Array (Option Value)} {oc_ltaken kV_ltaken dc_ltaken pm_ltaken cd_ltaken ct_ltaken : Value}
    {f_lalike : Addr} {od_lalike an_lalike : Option Addr} {sl_lalike : Array (Option Value)} {oc_lalike kV_lalike dc_lalike pm_lalike cd_lalike ct_lalike : Value}
    {f_lraised : Addr} {od_lraised an_lraised : Option Addr} {sl_lraised : Array (Option Value)} {oc_lraised kV_lraised dc_lraised pm_lraised cd_lraised ct_lraised : Value}
    {f_lpair : Addr} {od_lpair an_lpair : Option Addr} {sl_lpair : Array (Option Value)} {oc_lpair kV_lpair dc_lpair pm_lpair cd_lpair ct_lpair : Value}
    {f_lbegun : Addr} {od_lbegun an_lbegun : Option Addr} {sl_lbegun : Array (Option Value)} {oc_lbegun kV_lbegun dc_lbegun pm_lbegun cd_lbegun ct_lbegun : Value}
    {f_lfirst : Addr} {od_lfirst an_lfirst : Option Addr} {sl_lfirst : Array (Option Value)} {oc_lfirst kV_lfirst dc_lfirst pm_lfirst cd_lfirst ct_lfirst : Value}
    {f_lnext : Addr} {od_lnext an_lnext : Option Addr} {sl_lnext : Array (Option Value)} {oc_lnext kV_lnext dc_lnext pm_lnext cd_lnext ct_lnext : Value}
    {f_lends : Addr} {od_lends an_lends : Option Addr} {sl_lends : Array (Option Value)} {oc_lends kV_lends dc_lends pm_lends cd_lends ct_lends : Value}
    {f_lare_rejected : Addr} {od_lare_rejected an_lare_rejected : Option Addr} {sl_lare_rejected : Array (Option Value)} {oc_lare_rejected kV_lare_rejected dc_lare_rejected pm_lare_rejected cd_lare_rejected ct_lare_rejected : Value}
    {f_lis_told : Addr} {od_lis_told an_lis_told : Option Addr} {sl_lis_told : Array (Option Value)} {oc_lis_told kV_lis_told dc_lis_told pm_lis_told cd_lis_told ct_lis_told : Value}
    {f_law : Addr} {od_law an_law : Option Addr} {sl_law : Array (Option Value)} {oc_law kV_law dc_law pm_law cd_law ct_law : Value}
    {t_LATEST : Tok}
    {t_MOST_LIMIT : Tok}
    {t_FEWEST_READERS : Tok}
    {t_MOST_READERS : Tok}
    {t_MOST_DAYS : Tok}
    {t_MOST_BOOKS : Tok}
    (aC : PySem.W.nsIn K mainGlobals "Ring" = some (some (.ref C)))
    (aD : PySem.W.nsIn K mainGlobals "DaysObserver" = some (some (.ref dC)))
    (x_is_number : PySem.W.nsIn K mainGlobals "is_number" = some (some (.ref f_is_number)))
    (l_is_number : K.lookup f_is_number = some ⟨oc_is_number, od_is_number, .func (PySem.W.fnOf "is_number" "is_number" (defArgs s_is_number) (defBody s_is_number) (defScope s_is_number) .none kV_is_number dc_is_number pm_is_number an_is_number cd_is_number ct_is_number), sl_is_number⟩)
    (c_is_number : PySem.W.codeIn K cd_is_number "is_number" = true)
    (k_is_number : PySem.W.keepIn K (.ref f_is_number) = true)
    (x_lies_between : PySem.W.nsIn K mainGlobals "lies_between" = some (some (.ref f_lies_between)))
    (l_lies_between : K.lookup f_lies_between = some ⟨oc_lies_between, od_lies_between, .func (PySem.W.fnOf "lies_between" "lies_between" (defArgs s_lies_between) (defBody s_lies_between) (defScope s_lies_between) .none kV_lies_between dc_lies_between pm_lies_between an_lies_between cd_lies_between ct_lies_between), sl_lies_between⟩)
    (c_lies_between : PySem.W.codeIn K cd_lies_between "lies_between" = true)
    (k_lies_between : PySem.W.keepIn K (.ref f_lies_between) = true)
    (x_check_number : PySem.W.nsIn K mainGlobals "check_number" = some (some (.ref f_check_number)))
    (l_check_number : K.lookup f_check_number = some ⟨oc_check_number, od_check_number, .func (PySem.W.fnOf "check_number" "check_number" (defArgs s_check_number) (defBody s_check_number) (defScope s_check_number) .none kV_check_number dc_check_number pm_check_number an_check_number cd_check_number ct_check_number), sl_check_number⟩)
    (c_check_number : PySem.W.codeIn K cd_check_number "check_number" = true)
    (k_check_number : PySem.W.keepIn K (.ref f_check_number) = true)
    (x_check_reader : PySem.W.nsIn K mainGlobals "check_reader" = some (some (.ref f_check_reader)))
    (l_check_reader : K.lookup f_check_reader = some ⟨oc_check_reader, od_check_reader, .func (PySem.W.fnOf "check_reader" "check_reader" (defArgs s_check_reader) (defBody s_check_reader) (defScope s_check_reader) .none kV_check_reader dc_check_reader pm_check_reader an_check_reader cd_check_reader ct_check_reader), sl_check_reader⟩)
    (c_check_reader : PySem.W.codeIn K cd_check_reader "check_reader" = true)
    (k_check_reader : PySem.W.keepIn K (.ref f_check_reader) = true)
    (x_rinit : PySem.W.findIn K (.ref C) "__init__" = some (some (.ref f_rinit)))
    (i_rinit : PySem.W.isFn K (.ref f_rinit) = true)
    (l_rinit : K.lookup f_rinit = some ⟨oc_rinit, od_rinit, .func (PySem.W.fnOf "__init__" "Ring.__init__" (defArgs s_rinit) (defBody s_rinit) (defScope s_rinit) .none kV_rinit dc_rinit pm_rinit an_rinit cd_rinit ct_rinit), sl_rinit⟩)
    (c_rinit : PySem.W.codeIn K cd_rinit "Ring.__init__" = true)
    (k_rinit : PySem.W.keepIn K (.ref f_rinit) = true)
    (pa_rdays : PySem.W.findIn K (.ref C) "days" = some (some (.ref pp_rdays)))
    (pg_rdays : PySem.W.specialIn K (.ref pp_rdays) "__get__" = some (some (.builtin "property.__get__")))
    (pt_rdays : PySem.W.takesIn K (.ref pp_rdays) = some true)
    (pr_rdays : PySem.W.recIn K pp_rdays "property" = some (.ref f_rdays :: re_rdays))
    (l_rdays : K.lookup f_rdays = some ⟨oc_rdays, od_rdays, .func (PySem.W.fnOf "days" "Ring.days" (defArgs s_rdays) (defBody s_rdays) (defScope s_rdays) .none kV_rdays dc_rdays pm_rdays an_rdays cd_rdays ct_rdays), sl_rdays⟩)
    (c_rdays : PySem.W.codeIn K cd_rdays "Ring.days" = true)
    (k_rdays : PySem.W.keepIn K (.ref f_rdays) = true)
    (pa_rstarts : PySem.W.findIn K (.ref C) "starts" = some (some (.ref pp_rstarts)))
    (pg_rstarts : PySem.W.specialIn K (.ref pp_rstarts) "__get__" = some (some (.builtin "property.__get__")))
    (pt_rstarts : PySem.W.takesIn K (.ref pp_rstarts) = some true)
    (pr_rstarts : PySem.W.recIn K pp_rstarts "property" = some (.ref f_rstarts :: re_rstarts))
    (l_rstarts : K.lookup f_rstarts = some ⟨oc_rstarts, od_rstarts, .func (PySem.W.fnOf "starts" "Ring.starts" (defArgs s_rstarts) (defBody s_rstarts) (defScope s_rstarts) .none kV_rstarts dc_rstarts pm_rstarts an_rstarts cd_rstarts ct_rstarts), sl_rstarts⟩)
    (c_rstarts : PySem.W.codeIn K cd_rstarts "Ring.starts" = true)
    (k_rstarts : PySem.W.keepIn K (.ref f_rstarts) = true)
    (pa_rbooks : PySem.W.findIn K (.ref C) "books" = some (some (.ref pp_rbooks)))
    (pg_rbooks : PySem.W.specialIn K (.ref pp_rbooks) "__get__" = some (some (.builtin "property.__get__")))
    (pt_rbooks : PySem.W.takesIn K (.ref pp_rbooks) = some true)
    (pr_rbooks : PySem.W.recIn K pp_rbooks "property" = some (.ref f_rbooks :: re_rbooks))
    (l_rbooks : K.lookup f_rbooks = some ⟨oc_rbooks, od_rbooks, .func (PySem.W.fnOf "books" "Ring.books" (defArgs s_rbooks) (defBody s_rbooks) (defScope s_rbooks) .none kV_rbooks dc_rbooks pm_rbooks an_rbooks cd_rbooks ct_rbooks), sl_rbooks⟩)
    (c_rbooks : PySem.W.codeIn K cd_rbooks "Ring.books" = true)
    (k_rbooks : PySem.W.keepIn K (.ref f_rbooks) = true)
    (pa_rpace : PySem.W.findIn K (.ref C) "pace" = some (some (.ref pp_rpace)))
    (pg_rpace : PySem.W.specialIn K (.ref pp_rpace) "__get__" = some (some (.builtin "property.__get__")))
    (pt_rpace : PySem.W.takesIn K (.ref pp_rpace) = some true)
    (pr_rpace : PySem.W.recIn K pp_rpace "property" = some (.ref f_rpace :: re_rpace))
    (l_rpace : K.lookup f_rpace = some ⟨oc_rpace, od_rpace, .func (PySem.W.fnOf "pace" "Ring.pace" (defArgs s_rpace) (defBody s_rpace) (defScope s_rpace) .none kV_rpace dc_rpace pm_rpace an_rpace cd_rpace ct_rpace), sl_rpace⟩)
    (c_rpace : PySem.W.codeIn K cd_rpace "Ring.pace" = true)
    (k_rpace : PySem.W.keepIn K (.ref f_rpace) = true)
    (x_rwith_days : PySem.W.findIn K (.ref C) "with_days" = some (some (.ref f_rwith_days)))
    (i_rwith_days : PySem.W.isFn K (.ref f_rwith_days) = true)
    (l_rwith_days : K.lookup f_rwith_days = some ⟨oc_rwith_days, od_rwith_days, .func (PySem.W.fnOf "with_days" "Ring.with_days" (defArgs s_rwith_days) (defBody s_rwith_days) (defScope s_rwith_days) .none kV_rwith_days dc_rwith_days pm_rwith_days an_rwith_days cd_rwith_days ct_rwith_days), sl_rwith_days⟩)
    (c_rwith_days : PySem.W.codeIn K cd_rwith_days "Ring.with_days" = true)
    (k_rwith_days : PySem.W.keepIn K (.ref f_rwith_days) = true)
    (x_rlen : PySem.W.findIn K (.ref C) "__len__" = some (some (.ref f_rlen)))
    (i_rlen : PySem.W.isFn K (.ref f_rlen) = true)
    (l_rlen : K.lookup f_rlen = some ⟨oc_rlen, od_rlen, .func (PySem.W.fnOf "__len__" "Ring.__len__" (defArgs s_rlen) (defBody s_rlen) (defScope s_rlen) .none kV_rlen dc_rlen pm_rlen an_rlen cd_rlen ct_rlen), sl_rlen⟩)
    (c_rlen : PySem.W.codeIn K cd_rlen "Ring.__len__" = true)
    (k_rlen : PySem.W.keepIn K (.ref f_rlen) = true)
    (x_rcall : PySem.W.findIn K (.ref C) "__call__" = some (some (.ref f_rcall)))
    (i_rcall : PySem.W.isFn K (.ref f_rcall) = true)
    (j_rcall : PySem.W.fnIn K f_rcall = true)
    (l_rcall : K.lookup f_rcall = some ⟨oc_rcall, od_rcall, .func (PySem.W.fnOf "__call__" "Ring.__call__" (defArgs s_rcall) (defBody s_rcall) (defScope s_rcall) .none kV_rcall dc_rcall pm_rcall an_rcall cd_rcall ct_rcall), sl_rcall⟩)
    (c_rcall : PySem.W.codeIn K cd_rcall "Ring.__call__" = true)
    (k_rcall : PySem.W.keepIn K (.ref f_rcall) = true)
    (x_check_part : PySem.W.nsIn K mainGlobals "check_part" = some (some (.ref f_check_part)))
    (l_check_part : K.lookup f_check_part = some ⟨oc_check_part, od_check_part, .func (PySem.W.fnOf "check_part" "check_part" (defArgs s_check_part) (defBody s_check_part) (defScope s_check_part) .none kV_check_part dc_check_part pm_check_part an_check_part cd_check_part ct_check_part), sl_check_part⟩)
    (c_check_part : PySem.W.codeIn K cd_check_part "check_part" = true)
    (k_check_part : PySem.W.keepIn K (.ref f_check_part) = true)
    (x_end_day : PySem.W.nsIn K mainGlobals "end_day" = some (some (.ref f_end_day)))
    (l_end_day : K.lookup f_end_day = some ⟨oc_end_day, od_end_day, .func (PySem.W.fnOf "end_day" "end_day" (defArgs s_end_day) (defBody s_end_day) (defScope s_end_day) .none kV_end_day dc_end_day pm_end_day an_end_day cd_end_day ct_end_day), sl_end_day⟩)
    (c_end_day : PySem.W.codeIn K cd_end_day "end_day" = true)
    (k_end_day : PySem.W.keepIn K (.ref f_end_day) = true)
    (x_is_same_number : PySem.W.nsIn K mainGlobals "is_same_number" = some (some (.ref f_is_same_number)))
    (l_is_same_number : K.lookup f_is_same_number = some ⟨oc_is_same_number, od_is_same_number, .func (PySem.W.fnOf "is_same_number" "is_same_number" (defArgs s_is_same_number) (defBody s_is_same_number) (defScope s_is_same_number) .none kV_is_same_number dc_is_same_number pm_is_same_number an_is_same_number cd_is_same_number ct_is_same_number), sl_is_same_number⟩)
    (c_is_same_number : PySem.W.codeIn K cd_is_same_number "is_same_number" = true)
    (k_is_same_number : PySem.W.keepIn K (.ref f_is_same_number) = true)
    (x_dinit : PySem.W.findIn K (.ref dC) "__init__" = some (some (.ref f_dinit)))
    (i_dinit : PySem.W.isFn K (.ref f_dinit) = true)
    (l_dinit : K.lookup f_dinit = some ⟨oc_dinit, od_dinit, .func (PySem.W.fnOf "__init__" "DaysObserver.__init__" (defArgs s_dinit) (defBody s_dinit) (defScope s_dinit) .none kV_dinit dc_dinit pm_dinit an_dinit cd_dinit ct_dinit), sl_dinit⟩)
    (c_dinit : PySem.W.codeIn K cd_dinit "DaysObserver.__init__" = true)
    (k_dinit : PySem.W.keepIn K (.ref f_dinit) = true)
    (cm_fl : PySem.W.findCls K (.ref dC) (.type "type") "from_log" = some (.get (.builtin "classmethod.__get__") (.ref p_dfl) .none (.ref dC)))
    (cm_flr : PySem.W.recIn K p_dfl "classmethod" = some (.ref f_dfrom_log :: rest_dfl))
    (cm_flf : PySem.W.fnIn K f_dfrom_log = true)
    (cr_rdD : PySem.W.readsIn K dC (.type "type") = true)
    (cr_gaD : PySem.W.specialIn K (.ref dC) "__getattribute__" = some (some (.builtin "type.__getattribute__")))
    (l_dfrom_log : K.lookup f_dfrom_log = some ⟨oc_dfrom_log, od_dfrom_log, .func (PySem.W.fnOf "from_log" "DaysObserver.from_log" (defArgs s_dfrom_log) (defBody s_dfrom_log) (defScope s_dfrom_log) .none kV_dfrom_log dc_dfrom_log pm_dfrom_log an_dfrom_log cd_dfrom_log ct_dfrom_log), sl_dfrom_log⟩)
    (c_dfrom_log : PySem.W.codeIn K cd_dfrom_log "DaysObserver.from_log" = true)
    (k_dfrom_log : PySem.W.keepIn K (.ref f_dfrom_log) = true)
    (pa_dpossible_days : PySem.W.findIn K (.ref dC) "possible_days" = some (some (.ref pp_dpossible_days)))
    (pg_dpossible_days : PySem.W.specialIn K (.ref pp_dpossible_days) "__get__" = some (some (.builtin "property.__get__")))
    (pt_dpossible_days : PySem.W.takesIn K (.ref pp_dpossible_days) = some true)
    (pr_dpossible_days : PySem.W.recIn K pp_dpossible_days "property" = some (.ref f_dpossible_days :: re_dpossible_days))
    (l_dpossible_days : K.lookup f_dpossible_days = some ⟨oc_dpossible_days, od_dpossible_days, .func (PySem.W.fnOf "possible_days" "DaysObserver.possible_days" (defArgs s_dpossible_days) (defBody s_dpossible_days) (defScope s_dpossible_days) .none kV_dpossible_days dc_dpossible_days pm_dpossible_days an_dpossible_days cd_dpossible_days ct_dpossible_days), sl_dpossible_days⟩)
    (c_dpossible_days : PySem.W.codeIn K cd_dpossible_days "DaysObserver.possible_days" = true)
    (k_dpossible_days : PySem.W.keepIn K (.ref f_dpossible_days) = true)
    (pa_dobservations : PySem.W.findIn K (.ref dC) "observations" = some (some (.ref pp_dobservations)))
    (pg_dobservations : PySem.W.specialIn K (.ref pp_dobservations) "__get__" = some (some (.builtin "property.__get__")))
    (pt_dobservations : PySem.W.takesIn K (.ref pp_dobservations) = some true)
    (pr_dobservations : PySem.W.recIn K pp_dobservations "property" = some (.ref f_dobservations :: re_dobservations))
    (l_dobservations : K.lookup f_dobservations = some ⟨oc_dobservations, od_dobservations, .func (PySem.W.fnOf "observations" "DaysObserver.observations" (defArgs s_dobservations) (defBody s_dobservations) (defScope s_dobservations) .none kV_dobservations dc_dobservations pm_dobservations an_dobservations cd_dobservations ct_dobservations), sl_dobservations⟩)
    (c_dobservations : PySem.W.codeIn K cd_dobservations "DaysObserver.observations" = true)
    (k_dobservations : PySem.W.keepIn K (.ref f_dobservations) = true)
    (x_dsee_end : PySem.W.findIn K (.ref dC) "see_end" = some (some (.ref f_dsee_end)))
    (bg_dsee_end : PySem.W.specialIn K (.ref f_dsee_end) "__get__" = some (some (.builtin "function.__get__")))
    (bt_dsee_end : PySem.W.takesIn K (.ref f_dsee_end) = some false)
    (bf_dsee_end : PySem.W.fnIn K f_dsee_end = true)
    (i_dsee_end : PySem.W.isFn K (.ref f_dsee_end) = true)
    (l_dsee_end : K.lookup f_dsee_end = some ⟨oc_dsee_end, od_dsee_end, .func (PySem.W.fnOf "see_end" "DaysObserver.see_end" (defArgs s_dsee_end) (defBody s_dsee_end) (defScope s_dsee_end) .none kV_dsee_end dc_dsee_end pm_dsee_end an_dsee_end cd_dsee_end ct_dsee_end), sl_dsee_end⟩)
    (c_dsee_end : PySem.W.codeIn K cd_dsee_end "DaysObserver.see_end" = true)
    (k_dsee_end : PySem.W.keepIn K (.ref f_dsee_end) = true)
    (x_dsee_open : PySem.W.findIn K (.ref dC) "see_open" = some (some (.ref f_dsee_open)))
    (bg_dsee_open : PySem.W.specialIn K (.ref f_dsee_open) "__get__" = some (some (.builtin "function.__get__")))
    (bt_dsee_open : PySem.W.takesIn K (.ref f_dsee_open) = some false)
    (bf_dsee_open : PySem.W.fnIn K f_dsee_open = true)
    (i_dsee_open : PySem.W.isFn K (.ref f_dsee_open) = true)
    (l_dsee_open : K.lookup f_dsee_open = some ⟨oc_dsee_open, od_dsee_open, .func (PySem.W.fnOf "see_open" "DaysObserver.see_open" (defArgs s_dsee_open) (defBody s_dsee_open) (defScope s_dsee_open) .none kV_dsee_open dc_dsee_open pm_dsee_open an_dsee_open cd_dsee_open ct_dsee_open), sl_dsee_open⟩)
    (c_dsee_open : PySem.W.codeIn K cd_dsee_open "DaysObserver.see_open" = true)
    (k_dsee_open : PySem.W.keepIn K (.ref f_dsee_open) = true)
    (x_dpossible_ends : PySem.W.findIn K (.ref dC) "possible_ends" = some (some (.ref f_dpossible_ends)))
    (i_dpossible_ends : PySem.W.isFn K (.ref f_dpossible_ends) = true)
    (l_dpossible_ends : K.lookup f_dpossible_ends = some ⟨oc_dpossible_ends, od_dpossible_ends, .func (PySem.W.fnOf "possible_ends" "DaysObserver.possible_ends" (defArgs s_dpossible_ends) (defBody s_dpossible_ends) (defScope s_dpossible_ends) .none kV_dpossible_ends dc_dpossible_ends pm_dpossible_ends an_dpossible_ends cd_dpossible_ends ct_dpossible_ends), sl_dpossible_ends⟩)
    (c_dpossible_ends : PySem.W.codeIn K cd_dpossible_ends "DaysObserver.possible_ends" = true)
    (k_dpossible_ends : PySem.W.keepIn K (.ref f_dpossible_ends) = true)
    (x_dtelling_number : PySem.W.findIn K (.ref dC) "telling_number" = some (some (.ref f_dtelling_number)))
    (i_dtelling_number : PySem.W.isFn K (.ref f_dtelling_number) = true)
    (l_dtelling_number : K.lookup f_dtelling_number = some ⟨oc_dtelling_number, od_dtelling_number, .func (PySem.W.fnOf "telling_number" "DaysObserver.telling_number" (defArgs s_dtelling_number) (defBody s_dtelling_number) (defScope s_dtelling_number) .none kV_dtelling_number dc_dtelling_number pm_dtelling_number an_dtelling_number cd_dtelling_number ct_dtelling_number), sl_dtelling_number⟩)
    (c_dtelling_number : PySem.W.codeIn K cd_dtelling_number "DaysObserver.telling_number" = true)
    (k_dtelling_number : PySem.W.keepIn K (.ref f_dtelling_number) = true)
    (x_dcheck_reading : PySem.W.findIn K (.ref dC) "_check_reading" = some (some (.ref f_dcheck_reading)))
    (i_dcheck_reading : PySem.W.isFn K (.ref f_dcheck_reading) = true)
    (l_dcheck_reading : K.lookup f_dcheck_reading = some ⟨oc_dcheck_reading, od_dcheck_reading, .func (PySem.W.fnOf "_check_reading" "DaysObserver._check_reading" (defArgs s_dcheck_reading) (defBody s_dcheck_reading) (defScope s_dcheck_reading) .none kV_dcheck_reading dc_dcheck_reading pm_dcheck_reading an_dcheck_reading cd_dcheck_reading ct_dcheck_reading), sl_dcheck_reading⟩)
    (c_dcheck_reading : PySem.W.codeIn K cd_dcheck_reading "DaysObserver._check_reading" = true)
    (k_dcheck_reading : PySem.W.keepIn K (.ref f_dcheck_reading) = true)
    (x_daccept : PySem.W.findIn K (.ref dC) "_accept" = some (some (.ref f_daccept)))
    (i_daccept : PySem.W.isFn K (.ref f_daccept) = true)
    (l_daccept : K.lookup f_daccept = some ⟨oc_daccept, od_daccept, .func (PySem.W.fnOf "_accept" "DaysObserver._accept" (defArgs s_daccept) (defBody s_daccept) (defScope s_daccept) .none kV_daccept dc_daccept pm_daccept an_daccept cd_daccept ct_daccept), sl_daccept⟩)
    (c_daccept : PySem.W.codeIn K cd_daccept "DaysObserver._accept" = true)
    (k_daccept : PySem.W.keepIn K (.ref f_daccept) = true)
    (x_ltaken : PySem.W.nsIn K mainGlobals "_law_taken" = some (some (.ref f_ltaken)))
    (l_ltaken : K.lookup f_ltaken = some ⟨oc_ltaken, od_ltaken, .func (PySem.W.fnOf "_law_taken" "_law_taken" (defArgs s_ltaken) (defBody s_ltaken) (defScope s_ltaken) .none kV_ltaken dc_ltaken pm_ltaken an_ltaken cd_ltaken ct_ltaken), sl_ltaken⟩)
    (c_ltaken : PySem.W.codeIn K cd_ltaken "_law_taken" = true)
    (k_ltaken : PySem.W.keepIn K (.ref f_ltaken) = true)
    (x_lalike : PySem.W.nsIn K mainGlobals "_law_alike" = some (some (.ref f_lalike)))
    (l_lalike : K.lookup f_lalike = some ⟨oc_lalike, od_lalike, .func (PySem.W.fnOf "_law_alike" "_law_alike" (defArgs s_lalike) (defBody s_lalike) (defScope s_lalike) .none kV_lalike dc_lalike pm_lalike an_lalike cd_lalike ct_lalike), sl_lalike⟩)
    (c_lalike : PySem.W.codeIn K cd_lalike "_law_alike" = true)
    (k_lalike : PySem.W.keepIn K (.ref f_lalike) = true)
    (x_lraised : PySem.W.nsIn K mainGlobals "_law_raised" = some (some (.ref f_lraised)))
    (l_lraised : K.lookup f_lraised = some ⟨oc_lraised, od_lraised, .func (PySem.W.fnOf "_law_raised" "_law_raised" (defArgs s_lraised) (defBody s_lraised) (defScope s_lraised) .none kV_lraised dc_lraised pm_lraised an_lraised cd_lraised ct_lraised), sl_lraised⟩)
    (c_lraised : PySem.W.codeIn K cd_lraised "_law_raised" = true)
    (k_lraised : PySem.W.keepIn K (.ref f_lraised) = true)
    (x_lpair : PySem.W.nsIn K mainGlobals "_law_pair" = some (some (.ref f_lpair)))
    (l_lpair : K.lookup f_lpair = some ⟨oc_lpair, od_lpair, .func (PySem.W.fnOf "_law_pair" "_law_pair" (defArgs s_lpair) (defBody s_lpair) (defScope s_lpair) .none kV_lpair dc_lpair pm_lpair an_lpair cd_lpair ct_lpair), sl_lpair⟩)
    (c_lpair : PySem.W.codeIn K cd_lpair "_law_pair" = true)
    (k_lpair : PySem.W.keepIn K (.ref f_lpair) = true)
    (x_lbegun : PySem.W.nsIn K mainGlobals "_law_begun" = some (some (.ref f_lbegun)))
    (l_lbegun : K.lookup f_lbegun = some ⟨oc_lbegun, od_lbegun, .func (PySem.W.fnOf "_law_begun" "_law_begun" (defArgs s_lbegun) (defBody s_lbegun) (defScope s_lbegun) .none kV_lbegun dc_lbegun pm_lbegun an_lbegun cd_lbegun ct_lbegun), sl_lbegun⟩)
    (c_lbegun : PySem.W.codeIn K cd_lbegun "_law_begun" = true)
    (k_lbegun : PySem.W.keepIn K (.ref f_lbegun) = true)
    (x_lfirst : PySem.W.nsIn K mainGlobals "_law_first" = some (some (.ref f_lfirst)))
    (l_lfirst : K.lookup f_lfirst = some ⟨oc_lfirst, od_lfirst, .func (PySem.W.fnOf "_law_first" "_law_first" (defArgs s_lfirst) (defBody s_lfirst) (defScope s_lfirst) .none kV_lfirst dc_lfirst pm_lfirst an_lfirst cd_lfirst ct_lfirst), sl_lfirst⟩)
    (c_lfirst : PySem.W.codeIn K cd_lfirst "_law_first" = true)
    (k_lfirst : PySem.W.keepIn K (.ref f_lfirst) = true)
    (x_lnext : PySem.W.nsIn K mainGlobals "_law_next" = some (some (.ref f_lnext)))
    (l_lnext : K.lookup f_lnext = some ⟨oc_lnext, od_lnext, .func (PySem.W.fnOf "_law_next" "_law_next" (defArgs s_lnext) (defBody s_lnext) (defScope s_lnext) .none kV_lnext dc_lnext pm_lnext an_lnext cd_lnext ct_lnext), sl_lnext⟩)
    (c_lnext : PySem.W.codeIn K cd_lnext "_law_next" = true)
    (k_lnext : PySem.W.keepIn K (.ref f_lnext) = true)
    (x_lends : PySem.W.nsIn K mainGlobals "_law_ends" = some (some (.ref f_lends)))
    (l_lends : K.lookup f_lends = some ⟨oc_lends, od_lends, .func (PySem.W.fnOf "_law_ends" "_law_ends" (defArgs s_lends) (defBody s_lends) (defScope s_lends) .none kV_lends dc_lends pm_lends an_lends cd_lends ct_lends), sl_lends⟩)
    (c_lends : PySem.W.codeIn K cd_lends "_law_ends" = true)
    (k_lends : PySem.W.keepIn K (.ref f_lends) = true)
    (x_lare_rejected : PySem.W.nsIn K mainGlobals "_law_are_rejected" = some (some (.ref f_lare_rejected)))
    (l_lare_rejected : K.lookup f_lare_rejected = some ⟨oc_lare_rejected, od_lare_rejected, .func (PySem.W.fnOf "_law_are_rejected" "_law_are_rejected" (defArgs s_lare_rejected) (defBody s_lare_rejected) (defScope s_lare_rejected) .none kV_lare_rejected dc_lare_rejected pm_lare_rejected an_lare_rejected cd_lare_rejected ct_lare_rejected), sl_lare_rejected⟩)
    (c_lare_rejected : PySem.W.codeIn K cd_lare_rejected "_law_are_rejected" = true)
    (k_lare_rejected : PySem.W.keepIn K (.ref f_lare_rejected) = true)
    (x_lis_told : PySem.W.nsIn K mainGlobals "_law_is_told" = some (some (.ref f_lis_told)))
    (l_lis_told : K.lookup f_lis_told = some ⟨oc_lis_told, od_lis_told, .func (PySem.W.fnOf "_law_is_told" "_law_is_told" (defArgs s_lis_told) (defBody s_lis_told) (defScope s_lis_told) .none kV_lis_told dc_lis_told pm_lis_told an_lis_told cd_lis_told ct_lis_told), sl_lis_told⟩)
    (c_lis_told : PySem.W.codeIn K cd_lis_told "_law_is_told" = true)
    (k_lis_told : PySem.W.keepIn K (.ref f_lis_told) = true)
    (x_law : PySem.W.nsIn K mainGlobals "law" = some (some (.ref f_law)))
    (l_law : K.lookup f_law = some ⟨oc_law, od_law, .func (PySem.W.fnOf "law" "law" (defArgs s_law) (defBody s_law) (defScope s_law) .none kV_law dc_law pm_law an_law cd_law ct_law), sl_law⟩)
    (c_law : PySem.W.codeIn K cd_law "law" = true)
    (k_law : PySem.W.keepIn K (.ref f_law) = true)
    (pgD : PySem.W.plainGet K dC Str.empty = true)
    (hdD : PySem.W.hasDictIn K dC = true)
    (poD : PySem.W.plainOver K dC = true)
    (saD : PySem.W.findIn K (.ref dC) "__setattr__" = some (some (.builtin "object.__setattr__")))
    (mkDD : PySem.W.makesIn K dC = true)
    (kDD : PySem.W.keepIn K (.ref dC) = true)
    (nD1 : PySem.W.findIn K (.ref dC) "_reader" = some none)
    (nD2 : PySem.W.findIn K (.ref dC) "_rings" = some none)
    (nD3 : PySem.W.findIn K (.ref dC) "_observations" = some none)
    (pgC : PySem.W.plainGet K C Str.empty = true)
    (hdC : PySem.W.hasDictIn K C = true)
    (poC : PySem.W.plainOver K C = true)
    (saC : PySem.W.findIn K (.ref C) "__setattr__" = some (some (.builtin "object.__setattr__")))
    (mkC : PySem.W.makesIn K C = true)
    (kC : PySem.W.keepIn K (.ref C) = true)
    (nD : PySem.W.findIn K (.ref C) "_days" = some none)
    (nS : PySem.W.findIn K (.ref C) "_starts" = some none)
    (v_LATEST : PySem.W.nsIn K mainGlobals "LATEST" = some (some (.int 1000000000000000000 t_LATEST)))
    (v_MOST_LIMIT : PySem.W.nsIn K mainGlobals "MOST_LIMIT" = some (some (.int 500 t_MOST_LIMIT)))
    (v_FEWEST_READERS : PySem.W.nsIn K mainGlobals "FEWEST_READERS" = some (some (.int 2 t_FEWEST_READERS)))
    (v_MOST_READERS : PySem.W.nsIn K mainGlobals "MOST_READERS" = some (some (.int 8 t_MOST_READERS)))
    (v_MOST_DAYS : PySem.W.nsIn K mainGlobals "MOST_DAYS" = some (some (.int 30 t_MOST_DAYS)))
    (v_MOST_BOOKS : PySem.W.nsIn K mainGlobals "MOST_BOOKS" = some (some (.int 12 t_MOST_BOOKS)))
    (z_len : PySem.W.nsIn K mainGlobals "len" = some none)
    (z_sum : PySem.W.nsIn K mainGlobals "sum" = some none)
    (z_max : PySem.W.nsIn K mainGlobals "max" = some none)
    (z_min : PySem.W.nsIn K mainGlobals "min" = some none)
    (z_range : PySem.W.nsIn K mainGlobals "range" = some none)
    (z_int : PySem.W.nsIn K mainGlobals "int" = some none)
    (z_bool : PySem.W.nsIn K mainGlobals "bool" = some none)
    (z_isinstance : PySem.W.nsIn K mainGlobals "isinstance" = some none)
    (z_tuple : PySem.W.nsIn K mainGlobals "tuple" = some none)
    (z_enumerate : PySem.W.nsIn K mainGlobals "enumerate" = some none)
    (z_list : PySem.W.nsIn K mainGlobals "list" = some none)
    (z_str : PySem.W.nsIn K mainGlobals "str" = some none)
    (z_sorted : PySem.W.nsIn K mainGlobals "sorted" = some none)
    (z_set : PySem.W.nsIn K mainGlobals "set" = some none)
    (own : LamX.OwnTab K fa h) (own2 : ∀ fb : Addr, mg "_law_are_rejected" = some (.ref fb) → LamX.OwnTab K fb h)
    {c_tb P_tb : Addr} {e_tb : Value} {dd_tb : Option Addr} {vs_tb : Array Value} {sl_tb : Array (Option Value)}
    {c_tc P_tc : Addr} {e_tc : Value} {dd_tc : Option Addr} {vs_tc : Array Value} {sl_tc : Array (Option Value)}
    {e0 e1 e2 e3 e4 e5 e6 e7 e8 e9 e10 eE : Addr}
    (tb_c : cd_law = .ref c_tb)
    (tb_l : K.lookup c_tb = some ⟨e_tb, dd_tb, .fields vs_tb, sl_tb⟩)
    (tb_p : vs_tb[11]? = some (.ref P_tb))
    (tb_h : PySem.W.codeHdIn K c_tb P_tb = true)
    (tb_n : K.lookup P_tb = none)
    (x_e0 : PySem.W.nsIn K mainGlobals "InvalidOperation" = some (some (.ref e0)))
    (x_e1 : PySem.W.nsIn K mainGlobals "InvalidRing" = some (some (.ref e1)))
    (x_e2 : PySem.W.nsIn K mainGlobals "DecodeError" = some (some (.ref e2)))
    (x_e3 : PySem.W.nsIn K mainGlobals "NotationError" = some (some (.ref e3)))
    (x_e4 : PySem.W.nsIn K mainGlobals "BeingRead" = some (some (.ref e4)))
    (x_e5 : PySem.W.nsIn K mainGlobals "DiaryError" = some (some (.ref e5)))
    (x_e6 : PySem.W.nsIn K mainGlobals "InvalidNumber" = some (some (.ref e6)))
    (x_e7 : PySem.W.nsIn K mainGlobals "UnknownReader" = some (some (.ref e7)))
    (x_e8 : PySem.W.nsIn K mainGlobals "UnknownBook" = some (some (.ref e8)))
    (x_e9 : PySem.W.nsIn K mainGlobals "Contradiction" = some (some (.ref e9)))
    (x_e10 : PySem.W.nsIn K mainGlobals "InvalidCount" = some (some (.ref e10)))
    (x_eE : PySem.W.nsIn K mainGlobals "ReadingError" = some (some (.ref eE)))
    (z_VE : PySem.W.nsIn K mainGlobals "ValueError" = some none)
    (xc_n : PySem.W.specialIn K (.builtin "object.__class__") "__get__" = some (some (.builtin "getset_descriptor.__get__")))
    (xc_t : PySem.W.takesIn K (.builtin "object.__class__") = some true)
    (xg6 : PySem.W.findIn K (.ref e6) "__getattribute__" = some (some (.builtin "BaseException.__getattribute__")))
    (xk6 : PySem.W.findIn K (.ref e6) "__getattr__" = some none)
    (xs6 : PySem.W.subIn K (.ref e6) (.type "BaseException") = some true)
    (xd6 : PySem.W.hasDictIn K e6 = true)
    (xa6 : PySem.W.findIn K (.ref e6) "__class__" = some (some (.builtin "object.__class__")))
    (xm6 : PySem.W.mroIn K e6 (.type "object") = some true)
    (xx6 : PySem.W.exmOne K (.ref e6) (.ref eE) = some true)
    (xq6_0 : PySem.W.kitOne K (.ref e6) (.ref e0) = some false)
    (xq6_1 : PySem.W.kitOne K (.ref e6) (.ref e1) = some false)
    (xq6_2 : PySem.W.kitOne K (.ref e6) (.ref e2) = some false)
    (xq6_3 : PySem.W.kitOne K (.ref e6) (.ref e3) = some false)
    (xq6_4 : PySem.W.kitOne K (.ref e6) (.ref e4) = some false)
    (xq6_5 : PySem.W.kitOne K (.ref e6) (.ref e5) = some false)
    (xq6_6 : PySem.W.kitOne K (.ref e6) (.ref e6) = some true)
    (xq6_7 : PySem.W.kitOne K (.ref e6) (.ref e7) = some false)
    (xq6_8 : PySem.W.kitOne K (.ref e6) (.ref e8) = some false)
    (xq6_9 : PySem.W.kitOne K (.ref e6) (.ref e9) = some false)
    (xq6_10 : PySem.W.kitOne K (.ref e6) (.ref e10) = some false)
    (xv6 : PySem.W.kitOne K (.ref e6) (.type "ValueError") = some true)
    (xi6 : PySem.W.excIn K e6 [.type "ValueError", .type "Exception", .type "BaseException", .type "object"] "ValueError.__new__" = true)
    (xt6 : PySem.W.typeIn K (.ref e6) = some (.type "type"))
    (xp6 : PySem.W.keepIn K (.ref e6) = true)
    (xg7 : PySem.W.findIn K (.ref e7) "__getattribute__" = some (some (.builtin "BaseException.__getattribute__")))
    (xk7 : PySem.W.findIn K (.ref e7) "__getattr__" = some none)
    (xs7 : PySem.W.subIn K (.ref e7) (.type "BaseException") = some true)
    (xd7 : PySem.W.hasDictIn K e7 = true)
    (xa7 : PySem.W.findIn K (.ref e7) "__class__" = some (some (.builtin "object.__class__")))
    (xm7 : PySem.W.mroIn K e7 (.type "object") = some true)
    (xx7 : PySem.W.exmOne K (.ref e7) (.ref eE) = some true)
    (xq7_0 : PySem.W.kitOne K (.ref e7) (.ref e0) = some false)
    (xq7_1 : PySem.W.kitOne K (.ref e7) (.ref e1) = some false)
    (xq7_2 : PySem.W.kitOne K (.ref e7) (.ref e2) = some false)
    (xq7_3 : PySem.W.kitOne K (.ref e7) (.ref e3) = some false)
    (xq7_4 : PySem.W.kitOne K (.ref e7) (.ref e4) = some false)
    (xq7_5 : PySem.W.kitOne K (.ref e7) (.ref e5) = some false)
    (xq7_6 : PySem.W.kitOne K (.ref e7) (.ref e6) = some false)
    (xq7_7 : PySem.W.kitOne K (.ref e7) (.ref e7) = some true)
    (xq7_8 : PySem.W.kitOne K (.ref e7) (.ref e8) = some false)
    (xq7_9 : PySem.W.kitOne K (.ref e7) (.ref e9) = some false)
    (xq7_10 : PySem.W.kitOne K (.ref e7) (.ref e10) = some false)
    (xv7 : PySem.W.kitOne K (.ref e7) (.type "ValueError") = some true)
    (xi7 : PySem.W.excIn K e7 [.type "ValueError", .type "Exception", .type "BaseException", .type "object"] "ValueError.__new__" = true)
    (xt7 : PySem.W.typeIn K (.ref e7) = some (.type "type"))
    (xp7 : PySem.W.keepIn K (.ref e7) = true)
    (xg9 : PySem.W.findIn K (.ref e9) "__getattribute__" = some (some (.builtin "BaseException.__getattribute__")))
    (xk9 : PySem.W.findIn K (.ref e9) "__getattr__" = some none)
    (xs9 : PySem.W.subIn K (.ref e9) (.type "BaseException") = some true)
    (xd9 : PySem.W.hasDictIn K e9 = true)
    (xa9 : PySem.W.findIn K (.ref e9) "__class__" = some (some (.builtin "object.__class__")))
    (xm9 : PySem.W.mroIn K e9 (.type "object") = some true)
    (xx9 : PySem.W.exmOne K (.ref e9) (.ref eE) = some true)
    (xq9_0 : PySem.W.kitOne K (.ref e9) (.ref e0) = some false)
    (xq9_1 : PySem.W.kitOne K (.ref e9) (.ref e1) = some false)
    (xq9_2 : PySem.W.kitOne K (.ref e9) (.ref e2) = some false)
    (xq9_3 : PySem.W.kitOne K (.ref e9) (.ref e3) = some false)
    (xq9_4 : PySem.W.kitOne K (.ref e9) (.ref e4) = some false)
    (xq9_5 : PySem.W.kitOne K (.ref e9) (.ref e5) = some false)
    (xq9_6 : PySem.W.kitOne K (.ref e9) (.ref e6) = some false)
    (xq9_7 : PySem.W.kitOne K (.ref e9) (.ref e7) = some false)
    (xq9_8 : PySem.W.kitOne K (.ref e9) (.ref e8) = some false)
    (xq9_9 : PySem.W.kitOne K (.ref e9) (.ref e9) = some true)
    (xq9_10 : PySem.W.kitOne K (.ref e9) (.ref e10) = some false)
    (xv9 : PySem.W.kitOne K (.ref e9) (.type "ValueError") = some true)
    (xi9 : PySem.W.excIn K e9 [.type "ValueError", .type "Exception", .type "BaseException", .type "object"] "ValueError.__new__" = true)
    (xt9 : PySem.W.typeIn K (.ref e9) = some (.type "type"))
    (xp9 : PySem.W.keepIn K (.ref e9) = true)
    (tc_c : cd_lare_rejected = .ref c_tc)
    (tc_l : K.lookup c_tc = some ⟨e_tc, dd_tc, .fields vs_tc, sl_tc⟩)
    (tc_p : vs_tc[11]? = some (.ref P_tc))
    (tc_h : PySem.W.codeHdIn K c_tc P_tc = true)
    (tc_n : K.lookup P_tc = none)
    (t_ne : P_tb ≠ P_tc)
    : LamX.LawAtS l w K CX0 12 63 "_law_script" mg fa h := by
  have e := hfa.symm.trans (PySem.W.mg_of X G x_law)
  cases e
  have F_is_number := fun_mk (st := s_is_number) l_is_number c_is_number k_is_number
  have b_is_number := F_is_number.binds (ps := P_is_number) fun _ _ _ _ _ _ us hl => match us, hl with | [_], _ => rfl
  have F_lies_between := fun_mk (st := s_lies_between) l_lies_between c_lies_between k_lies_between
  have b_lies_between := F_lies_between.binds (ps := P_lies_between) fun _ _ _ _ _ _ us hl => match us, hl with | [_, _, _], _ => rfl
  have F_check_number := fun_mk (st := s_check_number) l_check_number c_check_number k_check_number
  have b_check_number := F_check_number.binds (ps := P_check_number) fun _ _ _ _ _ _ us hl => match us, hl with | [_, _, _], _ => rfl
  have F_check_reader := fun_mk (st := s_check_reader) l_check_reader c_check_reader k_check_reader
  have b_check_reader := F_check_reader.binds (ps := P_check_reader) fun _ _ _ _ _ _ us hl => match us, hl with | [_, _], _ => rfl
  have F_rinit := fun_mk (st := s_rinit) l_rinit c_rinit k_rinit
  have b_rinit := F_rinit.binds (ps := P_rinit) fun _ _ _ _ _ _ us hl => match us, hl with | [_, _, _], _ => rfl
  have F_rdays := fun_mk (st := s_rdays) l_rdays c_rdays k_rdays
  have b_rdays := F_rdays.binds (ps := P_rdays) fun _ _ _ _ _ _ us hl => match us, hl with | [_], _ => rfl
  have F_rstarts := fun_mk (st := s_rstarts) l_rstarts c_rstarts k_rstarts
  have b_rstarts := F_rstarts.binds (ps := P_rstarts) fun _ _ _ _ _ _ us hl => match us, hl with | [_], _ => rfl
  have F_rbooks := fun_mk (st := s_rbooks) l_rbooks c_rbooks k_rbooks
  have b_rbooks := F_rbooks.binds (ps := P_rbooks) fun _ _ _ _ _ _ us hl => match us, hl with | [_], _ => rfl
  have F_rpace := fun_mk (st := s_rpace) l_rpace c_rpace k_rpace
  have b_rpace := F_rpace.binds (ps := P_rpace) fun _ _ _ _ _ _ us hl => match us, hl with | [_], _ => rfl
  have F_rwith_days := fun_mk (st := s_rwith_days) l_rwith_days c_rwith_days k_rwith_days
  have b_rwith_days := F_rwith_days.binds (ps := P_rwith_days) fun _ _ _ _ _ _ us hl => match us, hl with | [_, _, _], _ => rfl
  have F_rlen := fun_mk (st := s_rlen) l_rlen c_rlen k_rlen
  have b_rlen := F_rlen.binds (ps := P_rlen) fun _ _ _ _ _ _ us hl => match us, hl with | [_], _ => rfl
  have F_rcall := fun_mk (st := s_rcall) l_rcall c_rcall k_rcall
  have b_rcall := F_rcall.binds (ps := P_rcall) fun _ _ _ _ _ _ us hl => match us, hl with | [_, _, _], _ => rfl
  have F_check_part := fun_mk (st := s_check_part) l_check_part c_check_part k_check_part
  have b_check_part := F_check_part.binds (ps := P_check_part) fun _ _ _ _ _ _ us hl => match us, hl with | [_, _, _, _], _ => rfl
  have F_end_day := fun_mk (st := s_end_day) l_end_day c_end_day k_end_day
  have b_end_day := F_end_day.binds (ps := P_end_day) fun _ _ _ _ _ _ us hl => match us, hl with | [_, _, _], _ => rfl
  have F_is_same_number := fun_mk (st := s_is_same_number) l_is_same_number c_is_same_number k_is_same_number
  have b_is_same_number := F_is_same_number.binds (ps := P_is_same_number) fun _ _ _ _ _ _ us hl => match us, hl with | [_, _], _ => rfl
  have F_dinit := fun_mk (st := s_dinit) l_dinit c_dinit k_dinit
  have b_dinit := F_dinit.binds (ps := P_dinit) fun _ _ _ _ _ _ us hl => match us, hl with | [_, _, _], _ => rfl
  have F_dfrom_log := fun_mk (st := s_dfrom_log) l_dfrom_log c_dfrom_log k_dfrom_log
  have b_dfrom_log := F_dfrom_log.binds (ps := P_dfrom_log) fun _ _ _ _ _ _ us hl => match us, hl with | [_, _, _, _], _ => rfl
  have F_dpossible_days := fun_mk (st := s_dpossible_days) l_dpossible_days c_dpossible_days k_dpossible_days
  have b_dpossible_days := F_dpossible_days.binds (ps := P_dpossible_days) fun _ _ _ _ _ _ us hl => match us, hl with | [_], _ => rfl
  have F_dobservations := fun_mk (st := s_dobservations) l_dobservations c_dobservations k_dobservations
  have b_dobservations := F_dobservations.binds (ps := P_dobservations) fun _ _ _ _ _ _ us hl => match us, hl with | [_], _ => rfl
  have F_dsee_end := fun_mk (st := s_dsee_end) l_dsee_end c_dsee_end k_dsee_end
  have b_dsee_end := F_dsee_end.binds (ps := P_dsee_end) fun _ _ _ _ _ _ us hl => match us, hl with | [_, _, _, _], _ => rfl
  have F_dsee_open := fun_mk (st := s_dsee_open) l_dsee_open c_dsee_open k_dsee_open
  have b_dsee_open := F_dsee_open.binds (ps := P_dsee_open) fun _ _ _ _ _ _ us hl => match us, hl with | [_, _, _, _], _ => rfl
  have F_dpossible_ends := fun_mk (st := s_dpossible_ends) l_dpossible_ends c_dpossible_ends k_dpossible_ends
  have b_dpossible_ends := F_dpossible_ends.binds (ps := P_dpossible_ends) fun _ _ _ _ _ _ us hl => match us, hl with | [_, _, _], _ => rfl
  have F_dtelling_number := fun_mk (st := s_dtelling_number) l_dtelling_number c_dtelling_number k_dtelling_number
  have b_dtelling_number := F_dtelling_number.binds (ps := P_dtelling_number) fun _ _ _ _ _ _ us hl => match us, hl with | [_, _, _], _ => rfl
  have F_dcheck_reading := fun_mk (st := s_dcheck_reading) l_dcheck_reading c_dcheck_reading k_dcheck_reading
  have b_dcheck_reading := F_dcheck_reading.binds (ps := P_dcheck_reading) fun _ _ _ _ _ _ us hl => match us, hl with | [_, _, _], _ => rfl
  have F_daccept := fun_mk (st := s_daccept) l_daccept c_daccept k_daccept
  have b_daccept := F_daccept.binds (ps := P_daccept) fun _ _ _ _ _ _ us hl => match us, hl with | [_, _, _], _ => rfl
  have F_ltaken := fun_mk (st := s_ltaken) l_ltaken c_ltaken k_ltaken
  have b_ltaken := F_ltaken.binds (ps := P_ltaken) fun _ _ _ _ _ _ us hl => match us, hl with | [_, _], _ => rfl
  have F_lalike := fun_mk (st := s_lalike) l_lalike c_lalike k_lalike
  have b_lalike := F_lalike.binds (ps := P_lalike) fun _ _ _ _ _ _ us hl => match us, hl with | [_, _], _ => rfl
  have F_lraised := fun_mk (st := s_lraised) l_lraised c_lraised k_lraised
  have b_lraised := F_lraised.binds (ps := P_lraised) fun _ _ _ _ _ _ us hl => match us, hl with | [_], _ => rfl
  have F_lpair := fun_mk (st := s_lpair) l_lpair c_lpair k_lpair
  have b_lpair := F_lpair.binds (ps := P_lpair) fun _ _ _ _ _ _ us hl => match us, hl with | [_, _], _ => rfl
  have F_lbegun := fun_mk (st := s_lbegun) l_lbegun c_lbegun k_lbegun
  have b_lbegun := F_lbegun.binds (ps := P_lbegun) fun _ _ _ _ _ _ us hl => match us, hl with | [_], _ => rfl
  have F_lfirst := fun_mk (st := s_lfirst) l_lfirst c_lfirst k_lfirst
  have b_lfirst := F_lfirst.binds (ps := P_lfirst) fun _ _ _ _ _ _ us hl => match us, hl with | [_, _], _ => rfl
  have F_lnext := fun_mk (st := s_lnext) l_lnext c_lnext k_lnext
  have b_lnext := F_lnext.binds (ps := P_lnext) fun _ _ _ _ _ _ us hl => match us, hl with | [_], _ => rfl
  have F_lends := fun_mk (st := s_lends) l_lends c_lends k_lends
  have b_lends := F_lends.binds (ps := P_lends) fun _ _ _ _ _ _ us hl => match us, hl with | [_, _], _ => rfl
  have F_lare_rejected := fun_mk (st := s_lare_rejected) l_lare_rejected c_lare_rejected k_lare_rejected
  have b_lare_rejected := F_lare_rejected.binds (ps := P_lare_rejected) fun _ _ _ _ _ _ us hl => match us, hl with | [_, _], _ => rfl
  have F_lis_told := fun_mk (st := s_lis_told) l_lis_told c_lis_told k_lis_told
  have b_lis_told := F_lis_told.binds (ps := P_lis_told) fun _ _ _ _ _ _ us hl => match us, hl with | [_, _, _, _, _], _ => rfl
  have F_law := fun_mk (st := s_law) l_law c_law k_law
  have b_law := F_law.binds (ps := P_law) fun _ _ _ _ _ _ us hl => match us, hl with | [_], _ => rfl
  cases tb_c
  cases tc_c
  refine ⟨PySem.W.fnOf "law" "law" (defArgs s_law) (defBody s_law) (defScope s_law) .none kV_law dc_law pm_law an_law (.ref c_tb) ct_law, [(c_tb, P_tb), (c_tc, P_tc)], spLawL K P_tb P_tc, fun p hp => ?_, fun p hp => ?_, fun p hp => ?_, fun s v => .of_eq rfl, fun H a ns hl hb ht hS => ?_, fun base _ _ hTB => ?_⟩
  · rcases List.mem_cons.mp hp with rfl | hp
    · exact own _ _ _ _ _ _ _ _ l_law rfl rfl tb_l tb_p
    · cases List.mem_singleton.mp hp
      exact own2 _ (PySem.W.mg_of X G x_lare_rejected) _ _ _ _ _ _ _ _ l_lare_rejected rfl rfl tc_l tc_p
  · rcases List.mem_cons.mp hp with rfl | hp
    · exact tb_n
    · cases List.mem_singleton.mp hp
      exact tc_n
  · rcases List.mem_cons.mp hp with rfl | hp
    · exact PySem.W.codeHd_of_K X tb_h
    · cases List.mem_singleton.mp hp
      exact PySem.W.codeHd_of_K X tc_h
  · exact ⟨a, ns, rfl, hS, hl, ht _ List.mem_cons_self, ht _ (List.mem_cons_of_mem _ List.mem_cons_self), fun _ => rfl⟩
  · exact ok_law (mg := mg) (cT := c_tb) (PT := P_tb) (cU := c_tc) (PU := P_tc)
     {
    C := C,
    a_is_number := f_is_number, d_is_number := _, F_is_number := F_is_number, b_is_number := b_is_number,
    g_is_number := PySem.W.mg_of X G x_is_number,
    a_lies_between := f_lies_between, d_lies_between := _, F_lies_between := F_lies_between, b_lies_between := b_lies_between,
    g_lies_between := PySem.W.mg_of X G x_lies_between,
    a_check_number := f_check_number, d_check_number := _, F_check_number := F_check_number, b_check_number := b_check_number,
    g_check_number := PySem.W.mg_of X G x_check_number,
    a_check_reader := f_check_reader, d_check_reader := _, F_check_reader := F_check_reader, b_check_reader := b_check_reader,
    g_check_reader := PySem.W.mg_of X G x_check_reader,
    a_rinit := f_rinit, d_rinit := _, F_rinit := F_rinit, b_rinit := b_rinit,
    a_rdays := f_rdays, d_rdays := _, F_rdays := F_rdays, b_rdays := b_rdays,
    a_rstarts := f_rstarts, d_rstarts := _, F_rstarts := F_rstarts, b_rstarts := b_rstarts,
    a_rbooks := f_rbooks, d_rbooks := _, F_rbooks := F_rbooks, b_rbooks := b_rbooks,
    a_rpace := f_rpace, d_rpace := _, F_rpace := F_rpace, b_rpace := b_rpace,
    a_rwith_days := f_rwith_days, d_rwith_days := _, F_rwith_days := F_rwith_days, b_rwith_days := b_rwith_days,
    a_rlen := f_rlen, d_rlen := _, F_rlen := F_rlen, b_rlen := b_rlen,
    a_rcall := f_rcall, d_rcall := _, F_rcall := F_rcall, b_rcall := b_rcall,
    a_check_part := f_check_part, d_check_part := _, F_check_part := F_check_part, b_check_part := b_check_part,
    g_check_part := PySem.W.mg_of X G x_check_part,
    a_end_day := f_end_day, d_end_day := _, F_end_day := F_end_day, b_end_day := b_end_day,
    g_end_day := PySem.W.mg_of X G x_end_day,
    a_is_same_number := f_is_same_number, d_is_same_number := _, F_is_same_number := F_is_same_number, b_is_same_number := b_is_same_number,
    g_is_same_number := PySem.W.mg_of X G x_is_same_number,
    a_dinit := f_dinit, d_dinit := _, F_dinit := F_dinit, b_dinit := b_dinit,
    a_dfrom_log := f_dfrom_log, d_dfrom_log := _, F_dfrom_log := F_dfrom_log, b_dfrom_log := b_dfrom_log,
    a_dpossible_days := f_dpossible_days, d_dpossible_days := _, F_dpossible_days := F_dpossible_days, b_dpossible_days := b_dpossible_days,
    a_dobservations := f_dobservations, d_dobservations := _, F_dobservations := F_dobservations, b_dobservations := b_dobservations,
    a_dsee_end := f_dsee_end, d_dsee_end := _, F_dsee_end := F_dsee_end, b_dsee_end := b_dsee_end,
    a_dsee_open := f_dsee_open, d_dsee_open := _, F_dsee_open := F_dsee_open, b_dsee_open := b_dsee_open,
    a_dpossible_ends := f_dpossible_ends, d_dpossible_ends := _, F_dpossible_ends := F_dpossible_ends, b_dpossible_ends := b_dpossible_ends,
    a_dtelling_number := f_dtelling_number, d_dtelling_number := _, F_dtelling_number := F_dtelling_number, b_dtelling_number := b_dtelling_number,
    a_dcheck_reading := f_dcheck_reading, d_dcheck_reading := _, F_dcheck_reading := F_dcheck_reading, b_dcheck_reading := b_dcheck_reading,
    a_daccept := f_daccept, d_daccept := _, F_daccept := F_daccept, b_daccept := b_daccept,
    a_ltaken := f_ltaken, d_ltaken := _, F_ltaken := F_ltaken, b_ltaken := b_ltaken,
    g_ltaken := PySem.W.mg_of X G x_ltaken,
    a_lalike := f_lalike, d_lalike := _, F_lalike := F_lalike, b_lalike := b_lalike,
    g_lalike := PySem.W.mg_of X G x_lalike,
    a_lraised := f_lraised, d_lraised := _, F_lraised := F_lraised, b_lraised := b_lraised,
    g_lraised := PySem.W.mg_of X G x_lraised,
    a_lpair := f_lpair, d_lpair := _, F_lpair := F_lpair, b_lpair := b_lpair,
    g_lpair := PySem.W.mg_of X G x_lpair,
    a_lbegun := f_lbegun, d_lbegun := _, F_lbegun := F_lbegun, b_lbegun := b_lbegun,
    g_lbegun := PySem.W.mg_of X G x_lbegun,
    a_lfirst := f_lfirst, d_lfirst := _, F_lfirst := F_lfirst, b_lfirst := b_lfirst,
    g_lfirst := PySem.W.mg_of X G x_lfirst,
    a_lnext := f_lnext, d_lnext := _, F_lnext := F_lnext, b_lnext := b_lnext,
    g_lnext := PySem.W.mg_of X G x_lnext,
    a_lends := f_lends, d_lends := _, F_lends := F_lends, b_lends := b_lends,
    g_lends := PySem.W.mg_of X G x_lends,
    a_lare_rejected := f_lare_rejected, d_lare_rejected := _, F_lare_rejected := F_lare_rejected, b_lare_rejected := b_lare_rejected,
    g_lare_rejected := PySem.W.mg_of X G x_lare_rejected,
    a_lis_told := f_lis_told, d_lis_told := _, F_lis_told := F_lis_told, b_lis_told := b_lis_told,
    g_lis_told := PySem.W.mg_of X G x_lis_told,
    a_law := _, d_law := _, F_law := F_law, b_law := b_law,
    g_law := PySem.W.mg_of X G x_law,
    dC := dC, clD := ⟨pgD, hdD, poD, saD⟩, nRd := nD1, nRg := nD2, nOb := nD3, mkD := ⟨mkDD, x_dinit, i_dinit, kDD⟩, gD := PySem.W.mg_of X G aD, crdD := ⟨cr_rdD, cr_gaD⟩, p_dfrom_log := p_dfl, cmF := ⟨cm_fl, ⟨_, cm_flr⟩, cm_flf⟩, bEnd := ⟨⟨x_dsee_end, i_dsee_end, k_dsee_end⟩, bg_dsee_end, bt_dsee_end, by decide +kernel, bf_dsee_end⟩, bOpen := ⟨⟨x_dsee_open, i_dsee_open, k_dsee_open⟩, bg_dsee_open, bt_dsee_open, by decide +kernel, bf_dsee_open⟩, mChk := ⟨x_dcheck_reading, i_dcheck_reading, k_dcheck_reading⟩, mAcc := ⟨x_daccept, i_daccept, k_daccept⟩, mPe := ⟨x_dpossible_ends, i_dpossible_ends, k_dpossible_ends⟩, mTn := ⟨x_dtelling_number, i_dtelling_number, k_dtelling_number⟩,
    cl := ⟨pgC, hdC, poC, saC⟩, nD := nD, nS := nS, mkR := ⟨mkC, x_rinit, i_rinit, kC⟩, gC := PySem.W.mg_of X G aC,
    p_rdays := pp_rdays, q_rdays := ⟨pa_rdays, pg_rdays, pt_rdays, ⟨_, pr_rdays⟩⟩,
    p_rstarts := pp_rstarts, q_rstarts := ⟨pa_rstarts, pg_rstarts, pt_rstarts, ⟨_, pr_rstarts⟩⟩,
    p_rbooks := pp_rbooks, q_rbooks := ⟨pa_rbooks, pg_rbooks, pt_rbooks, ⟨_, pr_rbooks⟩⟩,
    p_rpace := pp_rpace, q_rpace := ⟨pa_rpace, pg_rpace, pt_rpace, ⟨_, pr_rpace⟩⟩,
    p_dpossible_days := pp_dpossible_days, q_dpossible_days := ⟨pa_dpossible_days, pg_dpossible_days, pt_dpossible_days, ⟨_, pr_dpossible_days⟩⟩,
    p_dobservations := pp_dobservations, q_dobservations := ⟨pa_dobservations, pg_dobservations, pt_dobservations, ⟨_, pr_dobservations⟩⟩,
    mW := ⟨x_rwith_days, i_rwith_days, k_rwith_days⟩,
    lenC := x_rlen, lenF := i_rlen, callC := ⟨x_rcall, i_rcall, j_rcall⟩,
    c_LATEST := ⟨_, PySem.W.mg_of X G v_LATEST⟩,
    c_MOST_LIMIT := ⟨_, PySem.W.mg_of X G v_MOST_LIMIT⟩,
    c_FEWEST_READERS := ⟨_, PySem.W.mg_of X G v_FEWEST_READERS⟩,
    c_MOST_READERS := ⟨_, PySem.W.mg_of X G v_MOST_READERS⟩,
    c_MOST_DAYS := ⟨_, PySem.W.mg_of X G v_MOST_DAYS⟩,
    c_MOST_BOOKS := ⟨_, PySem.W.mg_of X G v_MOST_BOOKS⟩,
    z_len := PySem.W.mg_none_of X G z_len,
    z_sum := PySem.W.mg_none_of X G z_sum,
    z_max := PySem.W.mg_none_of X G z_max,
    z_min := PySem.W.mg_none_of X G z_min,
    z_range := PySem.W.mg_none_of X G z_range,
    z_int := PySem.W.mg_none_of X G z_int,
    z_bool := PySem.W.mg_none_of X G z_bool,
    z_isinstance := PySem.W.mg_none_of X G z_isinstance,
    z_tuple := PySem.W.mg_none_of X G z_tuple,
    z_enumerate := PySem.W.mg_none_of X G z_enumerate,
    z_list := PySem.W.mg_none_of X G z_list,
    z_str := PySem.W.mg_none_of X G z_str,
    z_sorted := PySem.W.mg_none_of X G z_sorted,
    z_set := PySem.W.mg_none_of X G z_set }
     { k0 := e0, k1 := e1, k2 := e2, k3 := e3, k4 := e4, k5 := e5, k6 := e6, k7 := e7, k8 := e8, k9 := e9, k10 := e10, cE := eE, g0 := PySem.W.mg_of X G x_e0, g1 := PySem.W.mg_of X G x_e1, g2 := PySem.W.mg_of X G x_e2, g3 := PySem.W.mg_of X G x_e3, g4 := PySem.W.mg_of X G x_e4, g5 := PySem.W.mg_of X G x_e5, g6 := PySem.W.mg_of X G x_e6, g7 := PySem.W.mg_of X G x_e7, g8 := PySem.W.mg_of X G x_e8, g9 := PySem.W.mg_of X G x_e9, g10 := PySem.W.mg_of X G x_e10, gE := PySem.W.mg_of X G x_eE, zV := PySem.W.mg_none_of X G z_VE, zI := PySem.W.mg_none_of X G z_isinstance }
     ⟨by decide, by decide, ⟨xg6, xk6, xs6, xd6, xa6, xc_n, xc_t, xm6⟩, xx6, xq6_0, xq6_1, xq6_2, xq6_3, xq6_4, xq6_5, xq6_6, xq6_7, xq6_8, xq6_9, xq6_10, xv6⟩
     ⟨by decide, by decide, ⟨xg7, xk7, xs7, xd7, xa7, xc_n, xc_t, xm7⟩, xx7, xq7_0, xq7_1, xq7_2, xq7_3, xq7_4, xq7_5, xq7_6, xq7_7, xq7_8, xq7_9, xq7_10, xv7⟩
     ⟨by decide, by decide, ⟨xg9, xk9, xs9, xd9, xa9, xc_n, xc_t, xm9⟩, xx9, xq9_0, xq9_1, xq9_2, xq9_3, xq9_4, xq9_5, xq9_6, xq9_7, xq9_8, xq9_9, xq9_10, xv9⟩
     ⟨PySem.W.mg_of X G x_e6, xi6, xs6, xt6, xp6⟩
     ⟨PySem.W.mg_of X G x_e7, xi7, xs7, xt7, xp7⟩
     ⟨PySem.W.mg_of X G x_e9, xi9, xs9, xt9, xp9⟩
     (hTB _ List.mem_cons_self)
     ⟨⟨_, _, _, _, _, _, _, _, rfl, l_law, c_law⟩⟩
     (hTB _ (List.mem_cons_of_mem _ List.mem_cons_self))
     ⟨⟨_, _, _, _, _, _, _, _, rfl, l_lare_rejected, c_lare_rejected⟩⟩ t_ne

end Rp
open PySem PySem.W PyProof.Rows
set_option maxRecDepth 100000 in
set_option maxHeartbeats 0 in
theorem PySem.Challenge.cw_readingring_k44_hidden_days_holds : PySem.Challenge.rw_readingring_k44_hidden_days.Holds := by
  w_on; o_law; k_head; (case hw => w_witness2)
  k_fill
  refine Rl.walk_tabs (l := PySem.Challenge.rw_readingring_k44_hidden_days) (n := 63) (k := 12) (x := "_law_script") (CX := fun _ => L2.CX0) rfl (by decide) rfl ⟨rfl, by decide, by decide⟩ (fun w h Y => PySem.W.km_in_of Y) ?F (fun _ _ _ _ _ h => h)
  case F =>
    intro w mg fa h Y KX G hmg own
    refine' Rp.all_mk KX G hmg ?aC ?aD ?x_is_number ?l_is_number ?c_is_number ?k_is_number ?x_lies_between ?l_lies_between ?c_lies_between ?k_lies_between ?x_check_number ?l_check_number ?c_check_number ?k_check_number ?x_check_reader ?l_check_reader ?c_check_reader ?k_check_reader ?x_rinit ?i_rinit ?l_rinit ?c_rinit ?k_rinit ?pa_rdays ?pg_rdays ?pt_rdays ?pr_rdays ?l_rdays ?c_rdays ?k_rdays ?pa_rstarts ?pg_rstarts ?pt_rstarts ?pr_rstarts ?l_rstarts ?c_rstarts ?k_rstarts ?pa_rbooks ?pg_rbooks ?pt_rbooks ?pr_rbooks ?l_rbooks ?c_rbooks ?k_rbooks ?pa_rpace ?pg_rpace ?pt_rpace ?pr_rpace ?l_rpace ?c_rpace ?k_rpace ?x_rwith_days ?i_rwith_days ?l_rwith_days ?c_rwith_days ?k_rwith_days ?x_rlen ?i_rlen ?l_rlen ?c_rlen ?k_rlen ?x_rcall ?i_rcall ?j_rcall ?l_rcall ?c_rcall ?k_rcall ?x_check_part ?l_check_part ?c_check_part ?k_check_part ?x_end_day ?l_end_day ?c_end_day ?k_end_day ?x_is_same_number ?l_is_same_number ?c_is_same_number ?k_is_same_number ?x_dinit ?i_dinit ?l_dinit ?c_dinit ?k_dinit ?cm_fl ?cm_flr ?cm_flf ?cr_rdD ?cr_gaD ?l_dfrom_log ?c_dfrom_log ?k_dfrom_log ?pa_dpossible_days ?pg_dpossible_days ?pt_dpossible_days ?pr_dpossible_days ?l_dpossible_days ?c_dpossible_days ?k_dpossible_days ?pa_dobservations ?pg_dobservations ?pt_dobservations ?pr_dobservations ?l_dobservations ?c_dobservations ?k_dobservations ?x_dsee_end ?bg_dsee_end ?bt_dsee_end ?bf_dsee_end ?i_dsee_end ?l_dsee_end ?c_dsee_end ?k_dsee_end ?x_dsee_open ?bg_dsee_open ?bt_dsee_open ?bf_dsee_open ?i_dsee_open ?l_dsee_open ?c_dsee_open ?k_dsee_open ?x_dpossible_ends ?i_dpossible_ends ?l_dpossible_ends ?c_dpossible_ends ?k_dpossible_ends ?x_dtelling_number ?i_dtelling_number ?l_dtelling_number ?c_dtelling_number ?k_dtelling_number ?x_dcheck_reading ?i_dcheck_reading ?l_dcheck_reading ?c_dcheck_reading ?k_dcheck_reading ?x_daccept ?i_daccept ?l_daccept ?c_daccept ?k_daccept ?x_ltaken ?l_ltaken ?c_ltaken ?k_ltaken ?x_lalike ?l_lalike ?c_lalike ?k_lalike ?x_lraised ?l_lraised ?c_lraised ?k_lraised ?x_lpair ?l_lpair ?c_lpair ?k_lpair ?x_lbegun ?l_lbegun ?c_lbegun ?k_lbegun ?x_lfirst ?l_lfirst ?c_lfirst ?k_lfirst ?x_lnext ?l_lnext ?c_lnext ?k_lnext ?x_lends ?l_lends ?c_lends ?k_lends ?x_lare_rejected ?l_lare_rejected ?c_lare_rejected ?k_lare_rejected ?x_lis_told ?l_lis_told ?c_lis_told ?k_lis_told ?x_law ?l_law ?c_law ?k_law ?pgD ?hdD ?poD ?saD ?mkDD ?kDD ?nD1 ?nD2 ?nD3 ?pgC ?hdC ?poC ?saC ?mkC ?kC ?nD ?nS ?v_LATEST ?v_MOST_LIMIT ?v_FEWEST_READERS ?v_MOST_READERS ?v_MOST_DAYS ?v_MOST_BOOKS ?z_len ?z_sum ?z_max ?z_min ?z_range ?z_int ?z_bool ?z_isinstance ?z_tuple ?z_enumerate ?z_list ?z_str ?z_sorted ?z_set (own _ _ (by decide +kernel) hmg) (fun fb hb => own "_law_are_rejected" fb (by decide +kernel) hb) ?tb_c ?tb_l ?tb_p ?tb_h ?tb_n ?x_e0 ?x_e1 ?x_e2 ?x_e3 ?x_e4 ?x_e5 ?x_e6 ?x_e7 ?x_e8 ?x_e9 ?x_e10 ?x_eE ?z_VE ?xc_n ?xc_t ?xg6 ?xk6 ?xs6 ?xd6 ?xa6 ?xm6 ?xx6 ?xq6_0 ?xq6_1 ?xq6_2 ?xq6_3 ?xq6_4 ?xq6_5 ?xq6_6 ?xq6_7 ?xq6_8 ?xq6_9 ?xq6_10 ?xv6 ?xi6 ?xt6 ?xp6 ?xg7 ?xk7 ?xs7 ?xd7 ?xa7 ?xm7 ?xx7 ?xq7_0 ?xq7_1 ?xq7_2 ?xq7_3 ?xq7_4 ?xq7_5 ?xq7_6 ?xq7_7 ?xq7_8 ?xq7_9 ?xq7_10 ?xv7 ?xi7 ?xt7 ?xp7 ?xg9 ?xk9 ?xs9 ?xd9 ?xa9 ?xm9 ?xx9 ?xq9_0 ?xq9_1 ?xq9_2 ?xq9_3 ?xq9_4 ?xq9_5 ?xq9_6 ?xq9_7 ?xq9_8 ?xq9_9 ?xq9_10 ?xv9 ?xi9 ?xt9 ?xp9 ?tc_c ?tc_l ?tc_p ?tc_h ?tc_n ?t_ne
    (case aC => k_is); (case aD => k_is); (case x_is_number => k_is); (case l_is_number => k_is); (case c_is_number => k_is); (case k_is_number => k_is); (case x_lies_between => k_is); (case l_lies_between => k_is)
    (case c_lies_between => k_is); (case k_lies_between => k_is); (case x_check_number => k_is); (case l_check_number => k_is); (case c_check_number => k_is); (case k_check_number => k_is); (case x_check_reader => k_is); (case l_check_reader => k_is)
    (case c_check_reader => k_is); (case k_check_reader => k_is); (case x_rinit => k_is); (case i_rinit => k_is); (case l_rinit => k_is); (case c_rinit => k_is); (case k_rinit => k_is); (case pa_rdays => k_is)
    (case pg_rdays => k_is); (case pt_rdays => k_is); (case pr_rdays => k_is); (case l_rdays => k_is); (case c_rdays => k_is); (case k_rdays => k_is); (case pa_rstarts => k_is); (case pg_rstarts => k_is)
    (case pt_rstarts => k_is); (case pr_rstarts => k_is); (case l_rstarts => k_is); (case c_rstarts => k_is); (case k_rstarts => k_is); (case pa_rbooks => k_is); (case pg_rbooks => k_is); (case pt_rbooks => k_is)
    (case pr_rbooks => k_is); (case l_rbooks => k_is); (case c_rbooks => k_is); (case k_rbooks => k_is); (case pa_rpace => k_is); (case pg_rpace => k_is); (case pt_rpace => k_is); (case pr_rpace => k_is)
    (case l_rpace => k_is); (case c_rpace => k_is); (case k_rpace => k_is); (case x_rwith_days => k_is); (case i_rwith_days => k_is); (case l_rwith_days => k_is); (case c_rwith_days => k_is); (case k_rwith_days => k_is)
    (case x_rlen => k_is); (case i_rlen => k_is); (case l_rlen => k_is); (case c_rlen => k_is); (case k_rlen => k_is); (case x_rcall => k_is); (case i_rcall => k_is); (case j_rcall => k_is)
    (case l_rcall => k_is); (case c_rcall => k_is); (case k_rcall => k_is); (case x_check_part => k_is); (case l_check_part => k_is); (case c_check_part => k_is); (case k_check_part => k_is); (case x_end_day => k_is)
    (case l_end_day => k_is); (case c_end_day => k_is); (case k_end_day => k_is); (case x_is_same_number => k_is); (case l_is_same_number => k_is); (case c_is_same_number => k_is); (case k_is_same_number => k_is); (case x_dinit => k_is)
    (case i_dinit => k_is); (case l_dinit => k_is); (case c_dinit => k_is); (case k_dinit => k_is); (case cm_fl => first | k_is | exact rfl | k_exc | decide +kernel); (case cm_flr => first | k_is | exact rfl | k_exc | decide +kernel); (case cm_flf => first | k_is | exact rfl | k_exc | decide +kernel); (case cr_rdD => first | k_is | exact rfl | k_exc | decide +kernel)
    (case cr_gaD => first | k_is | exact rfl | k_exc | decide +kernel); (case l_dfrom_log => k_is); (case c_dfrom_log => k_is); (case k_dfrom_log => k_is); (case pa_dpossible_days => k_is); (case pg_dpossible_days => k_is); (case pt_dpossible_days => k_is); (case pr_dpossible_days => k_is)
    (case l_dpossible_days => k_is); (case c_dpossible_days => k_is); (case k_dpossible_days => k_is); (case pa_dobservations => k_is); (case pg_dobservations => k_is); (case pt_dobservations => k_is); (case pr_dobservations => k_is); (case l_dobservations => k_is)
    (case c_dobservations => k_is); (case k_dobservations => k_is); (case x_dsee_end => k_is); (case bg_dsee_end => first | k_is | exact rfl | k_exc | decide +kernel); (case bt_dsee_end => first | k_is | exact rfl | k_exc | decide +kernel); (case bf_dsee_end => first | k_is | exact rfl | k_exc | decide +kernel); (case i_dsee_end => k_is); (case l_dsee_end => k_is)
    (case c_dsee_end => k_is); (case k_dsee_end => k_is); (case x_dsee_open => k_is); (case bg_dsee_open => first | k_is | exact rfl | k_exc | decide +kernel); (case bt_dsee_open => first | k_is | exact rfl | k_exc | decide +kernel); (case bf_dsee_open => first | k_is | exact rfl | k_exc | decide +kernel); (case i_dsee_open => k_is); (case l_dsee_open => k_is)
    (case c_dsee_open => k_is); (case k_dsee_open => k_is); (case x_dpossible_ends => k_is); (case i_dpossible_ends => k_is); (case l_dpossible_ends => k_is); (case c_dpossible_ends => k_is); (case k_dpossible_ends => k_is); (case x_dtelling_number => k_is)
    (case i_dtelling_number => k_is); (case l_dtelling_number => k_is); (case c_dtelling_number => k_is); (case k_dtelling_number => k_is); (case x_dcheck_reading => k_is); (case i_dcheck_reading => k_is); (case l_dcheck_reading => k_is); (case c_dcheck_reading => k_is)
    (case k_dcheck_reading => k_is); (case x_daccept => k_is); (case i_daccept => k_is); (case l_daccept => k_is); (case c_daccept => k_is); (case k_daccept => k_is); (case x_ltaken => k_is); (case l_ltaken => k_is)
    (case c_ltaken => k_is); (case k_ltaken => k_is); (case x_lalike => k_is); (case l_lalike => k_is); (case c_lalike => k_is); (case k_lalike => k_is); (case x_lraised => k_is); (case l_lraised => k_is)
    (case c_lraised => k_is); (case k_lraised => k_is); (case x_lpair => k_is); (case l_lpair => k_is); (case c_lpair => k_is); (case k_lpair => k_is); (case x_lbegun => k_is); (case l_lbegun => k_is)
    (case c_lbegun => k_is); (case k_lbegun => k_is); (case x_lfirst => k_is); (case l_lfirst => k_is); (case c_lfirst => k_is); (case k_lfirst => k_is); (case x_lnext => k_is); (case l_lnext => k_is)
    (case c_lnext => k_is); (case k_lnext => k_is); (case x_lends => k_is); (case l_lends => k_is); (case c_lends => k_is); (case k_lends => k_is); (case x_lare_rejected => k_is); (case l_lare_rejected => k_is)
    (case c_lare_rejected => k_is); (case k_lare_rejected => k_is); (case x_lis_told => k_is); (case l_lis_told => k_is); (case c_lis_told => k_is); (case k_lis_told => k_is); (case x_law => k_is); (case l_law => k_is)
    (case c_law => k_is); (case k_law => k_is); (case pgD => k_is); (case hdD => k_is); (case poD => k_is); (case saD => k_is); (case mkDD => k_is); (case kDD => k_is)
    (case nD1 => k_is); (case nD2 => k_is); (case nD3 => k_is); (case pgC => k_is); (case hdC => k_is); (case poC => k_is); (case saC => k_is); (case mkC => k_is)
    (case kC => k_is); (case nD => k_is); (case nS => k_is); (case v_LATEST => k_is); (case v_MOST_LIMIT => k_is); (case v_FEWEST_READERS => k_is); (case v_MOST_READERS => k_is); (case v_MOST_DAYS => k_is)
    (case v_MOST_BOOKS => k_is); (case z_len => k_is); (case z_sum => k_is); (case z_max => k_is); (case z_min => k_is); (case z_range => k_is); (case z_int => k_is); (case z_bool => k_is)
    (case z_isinstance => k_is); (case z_tuple => k_is); (case z_enumerate => k_is); (case z_list => k_is); (case z_str => k_is); (case z_sorted => k_is); (case z_set => k_is)
    (case tb_c => first | exact rfl | k_is | k_exc | decide +kernel)
    (case tb_l => first | exact rfl | k_is | k_exc | decide +kernel)
    (case tb_p => first | exact rfl | k_is | k_exc | decide +kernel)
    (case tb_h => first | exact rfl | k_is | k_exc | decide +kernel)
    (case tb_n => first | exact rfl | k_is | k_exc | decide +kernel)
    (case x_e0 => first | exact rfl | k_is | k_exc | decide +kernel)
    (case x_e1 => first | exact rfl | k_is | k_exc | decide +kernel)
    (case x_e2 => first | exact rfl | k_is | k_exc | decide +kernel)
    (case x_e3 => first | exact rfl | k_is | k_exc | decide +kernel)
    (case x_e4 => first | exact rfl | k_is | k_exc | decide +kernel)
    (case x_e5 => first | exact rfl | k_is | k_exc | decide +kernel)
    (case x_e6 => first | exact rfl | k_is | k_exc | decide +kernel)
    (case x_e7 => first | exact rfl | k_is | k_exc | decide +kernel)
    (case x_e8 => first | exact rfl | k_is | k_exc | decide +kernel)
    (case x_e9 => first | exact rfl | k_is | k_exc | decide +kernel)
    (case x_e10 => first | exact rfl | k_is | k_exc | decide +kernel)
    (case x_eE => first | exact rfl | k_is | k_exc | decide +kernel)
    (case z_VE => first | exact rfl | k_is | k_exc | decide +kernel)
    (case xc_n => first | exact rfl | k_is | k_exc | decide +kernel)
    (case xc_t => first | exact rfl | k_is | k_exc | decide +kernel)
    (case xg6 => first | exact rfl | k_is | k_exc | decide +kernel)
    (case xk6 => first | exact rfl | k_is | k_exc | decide +kernel)
    (case xs6 => first | exact rfl | k_is | k_exc | decide +kernel)
    (case xd6 => first | exact rfl | k_is | k_exc | decide +kernel)
    (case xa6 => first | exact rfl | k_is | k_exc | decide +kernel)
    (case xm6 => first | exact rfl | k_is | k_exc | decide +kernel)
    (case xx6 => first | exact rfl | k_is | k_exc | decide +kernel)
    (case xq6_0 => first | exact rfl | k_is | k_exc | decide +kernel)
    (case xq6_1 => first | exact rfl | k_is | k_exc | decide +kernel)
    (case xq6_2 => first | exact rfl | k_is | k_exc | decide +kernel)
    (case xq6_3 => first | exact rfl | k_is | k_exc | decide +kernel)
    (case xq6_4 => first | exact rfl | k_is | k_exc | decide +kernel)
    (case xq6_5 => first | exact rfl | k_is | k_exc | decide +kernel)
    (case xq6_6 => first | exact rfl | k_is | k_exc | decide +kernel)
    (case xq6_7 => first | exact rfl | k_is | k_exc | decide +kernel)
    (case xq6_8 => first | exact rfl | k_is | k_exc | decide +kernel)
    (case xq6_9 => first | exact rfl | k_is | k_exc | decide +kernel)
    (case xq6_10 => first | exact rfl | k_is | k_exc | decide +kernel)
    (case xv6 => first | exact rfl | k_is | k_exc | decide +kernel)
    (case xi6 => first | exact rfl | k_is | k_exc | decide +kernel)
    (case xt6 => first | exact rfl | k_is | k_exc | decide +kernel)
    (case xp6 => first | exact rfl | k_is | k_exc | decide +kernel)
    (case xg7 => first | exact rfl | k_is | k_exc | decide +kernel)
    (case xk7 => first | exact rfl | k_is | k_exc | decide +kernel)
    (case xs7 => first | exact rfl | k_is | k_exc | decide +kernel)
    (case xd7 => first | exact rfl | k_is | k_exc | decide +kernel)
    (case xa7 => first | exact rfl | k_is | k_exc | decide +kernel)
    (case xm7 => first | exact rfl | k_is | k_exc | decide +kernel)
    (case xx7 => first | exact rfl | k_is | k_exc | decide +kernel)
    (case xq7_0 => first | exact rfl | k_is | k_exc | decide +kernel)
    (case xq7_1 => first | exact rfl | k_is | k_exc | decide +kernel)
    (case xq7_2 => first | exact rfl | k_is | k_exc | decide +kernel)
    (case xq7_3 => first | exact rfl | k_is | k_exc | decide +kernel)
    (case xq7_4 => first | exact rfl | k_is | k_exc | decide +kernel)
    (case xq7_5 => first | exact rfl | k_is | k_exc | decide +kernel)
    (case xq7_6 => first | exact rfl | k_is | k_exc | decide +kernel)
    (case xq7_7 => first | exact rfl | k_is | k_exc | decide +kernel)
    (case xq7_8 => first | exact rfl | k_is | k_exc | decide +kernel)
    (case xq7_9 => first | exact rfl | k_is | k_exc | decide +kernel)
    (case xq7_10 => first | exact rfl | k_is | k_exc | decide +kernel)
    (case xv7 => first | exact rfl | k_is | k_exc | decide +kernel)
    (case xi7 => first | exact rfl | k_is | k_exc | decide +kernel)
    (case xt7 => first | exact rfl | k_is | k_exc | decide +kernel)
    (case xp7 => first | exact rfl | k_is | k_exc | decide +kernel)
    (case xg9 => first | exact rfl | k_is | k_exc | decide +kernel)
    (case xk9 => first | exact rfl | k_is | k_exc | decide +kernel)
    (case xs9 => first | exact rfl | k_is | k_exc | decide +kernel)
    (case xd9 => first | exact rfl | k_is | k_exc | decide +kernel)
    (case xa9 => first | exact rfl | k_is | k_exc | decide +kernel)
    (case xm9 => first | exact rfl | k_is | k_exc | decide +kernel)
    (case xx9 => first | exact rfl | k_is | k_exc | decide +kernel)
    (case xq9_0 => first | exact rfl | k_is | k_exc | decide +kernel)
    (case xq9_1 => first | exact rfl | k_is | k_exc | decide +kernel)
    (case xq9_2 => first | exact rfl | k_is | k_exc | decide +kernel)
    (case xq9_3 => first | exact rfl | k_is | k_exc | decide +kernel)
    (case xq9_4 => first | exact rfl | k_is | k_exc | decide +kernel)
    (case xq9_5 => first | exact rfl | k_is | k_exc | decide +kernel)
    (case xq9_6 => first | exact rfl | k_is | k_exc | decide +kernel)
    (case xq9_7 => first | exact rfl | k_is | k_exc | decide +kernel)
    (case xq9_8 => first | exact rfl | k_is | k_exc | decide +kernel)
    (case xq9_9 => first | exact rfl | k_is | k_exc | decide +kernel)
    (case xq9_10 => first | exact rfl | k_is | k_exc | decide +kernel)
    (case xv9 => first | exact rfl | k_is | k_exc | decide +kernel)
    (case xi9 => first | exact rfl | k_is | k_exc | decide +kernel)
    (case xt9 => first | exact rfl | k_is | k_exc | decide +kernel)
    (case xp9 => first | exact rfl | k_is | k_exc | decide +kernel)
    (case tc_c => first | exact rfl | k_is | k_exc | decide +kernel)
    (case tc_l => first | exact rfl | k_is | k_exc | decide +kernel)
    (case tc_p => first | exact rfl | k_is | k_exc | decide +kernel)
    (case tc_h => first | exact rfl | k_is | k_exc | decide +kernel)
    (case tc_n => first | exact rfl | k_is | k_exc | decide +kernel)
    (case t_ne => first | exact rfl | k_is | k_exc | decide +kernel)
