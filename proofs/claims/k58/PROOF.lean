import PyProof.Rows.All
import Wide.All
import OpenK.AllK
import Wide.FinOn
import PyProof.EqAt
import PyProof.EqKinds
import PyProof.TupleCall
import HandS.ForMost
import HandS.Walk
import HandS.Property
import HandS.Star
import HandS.IsInst
import HandS.Gcd
import HandS.Flow
import KE.KTupSum
import KE.GoesEnum
import KE.KOpsOwn
import HandS.Strs
import HandS.Conv
import HandS.Sort
import HandS.OwnEq
import HandS.ClsMeth
import HandS.CallLocal
import OpenK.KMeth
import HandS.SetFor
import HandS.SetBool
import PyProof.Rows.SetFrom
import HandS.Nested
import HandS.Lambda
import KE.KDflt
import KE.KUnpackStar
import HandS.More
import HandS.TupAny
import KE.KEqDeep
import HandS.Style
import HandS.WordsExc
import HandS.ExcCtx
import HandS.EndOwn
import HandS.List
import HandS.Words
import HandS.ExcIs
import PyProof.P3Eq
import PySem.Challenge.RW_readingring_k58_whole_observers_by_all_d
set_option Elab.async false
set_option linter.all false
set_option maxRecDepth 100000
set_option maxHeartbeats 8000000
/-! Rules beside the layer's: len of an own instance, enumerate over a tuple, sum and max of a tuple. -/
namespace Rz
open PySem PySem.Spec PyProof.Rows L2

section
variable {X : Cx}
/-! ### len(o), o an instance whose class defines it -/
def rLenI (C : Addr) (sp : Sp) (E : XK) : List V → Hp → VK → Prop := fun xs H Q => ∃ a dx fs, xs = [.ref a] ∧ H a = some (.ins C dx fs) ∧
  sp [.ref a] H (fun v H' => ∃ n : Int, v = .int n ∧ 0 ≤ n ∧ n < 2 ^ 63 ∧ Q (.int n) H') E
theorem call_lenI {CX : CXT} {k : Nat} {f C : Addr} {sp : Sp} {E : XK} (hs : PySem.W.findIn X.K (.ref C) "__len__" = some (some (.ref f))) (hf : PySem.W.isFn X.K (.ref f) = true)
    (F : FnR X.prog X.w X.K X.mg X.base CX k f sp) (hr : Room (k + 1) X.A) (hx : Passes CX X E) : CallR X (.builtin "len") (rLenI C sp E) := by
  intro pins s σ H xs us Q I r h
  obtain ⟨a, dx, fs, rfl, ea, q⟩ := h
  rw [Vals.ref1 r]
  obtain ⟨mA, O, _⟩ := ins_get I.hok ea
  obtain ⟨od, J, _⟩ := O.look
  have hc : wpAny (model X.prog X.w) X.A.in1 (call (.ref f) [.ref a]) (EP X pins σ (fun v H' => ∃ n : Int, v = .int n ∧ 0 ≤ n ∧ n < 2 ^ 63 ∧ Q (.int n) H')) X.xe s := by
    refine wpAny_call (codeAny_mono (F X.A.in1 X.stack s H [.ref a] [.ref a] _ E hr.in1 I.env0.in1 (.cons rfl .nil) q) fun r s' hq => ?_)
    cases r with
    | error e => exact hx pins σ H s e s' I hq
    | ok fl =>
      cases fl with
      | ret u => exact I.after hq
      | next => exact False.elim hq
      | brk => exact False.elim hq
      | cont => exact False.elim hq
  refine Calls.call_function_entry kind_len plain_len entry_len (args_len1 _) ?_
  unfold Builtin.«len»
  refine wpAny_bind (m := oneArg "len" _) (wpAny_pure ?_)
  refine wpAny_bind (m := callSpecial? (.ref a) (Str.ofString "__len__")) (PySem.W.special_fn I.kIn J hs (beq_iff_eq.mp hf) (wpAny_mono hc (fun r s' hr => ?_) fun _ _ y => y))
  obtain ⟨v, H', I', rv, n, rfl, h0, h1, hq⟩ := hr
  obtain ⟨t, rfl⟩ := rv
  refine wpAny_bind (wpAny_holding (wpAny_pure ?_))
  refine wpAny_bind (wpAny_letGo ?_)
  show wpAny _ _ (if n < 0 then _ else _) _ _ _
  rw [if_neg (by omega)]
  show wpAny _ _ (if n ≥ 2 ^ 63 then _ else _) _ _ _
  rw [if_neg (by omega)]
  exact wpAny_bind (wpAny_mkInt (wpAny_pure ⟨_, rfl, ⟨.int n, H', I'.tok _, ⟨_, rfl⟩, hq⟩⟩))

/-! ### sum, max of a tuple of ints -/
def rSumT (K : PySem.W.Frag) : List V → Hp → VK → Prop := fun vs H Q => ∃ (a : Addr) (ns : List Int), vs = [V.ref a] ∧ SqT K H a (ns.map V.int) ∧ Q (.int ns.sum) H
def rMaxT (K : PySem.W.Frag) : List V → Hp → VK → Prop := fun vs H Q => ∃ (a : Addr) (ns : List Int), vs = [V.ref a] ∧ SqT K H a (ns.map V.int) ∧ 0 < ns.length ∧
  ∀ m, m ∈ ns → (∀ y, y ∈ ns → y ≤ m) → Q (.int m) H
theorem cr_sumT (hc : X.calm = true) : CallR X (.builtin "sum") (rSumT X.K) := by
  intro pins s σ H vs us Q I r h
  obtain ⟨a, ns, rfl, hs, q⟩ := h
  obtain ⟨its, rv, hl, _⟩ := I.tuple hs
  rw [Vals.ref1 r]
  have hi := rv.ints
  have hl' : s.heap.IsTuple a its.toArray := hl
  obtain ⟨xs, e⟩ := hi.allInts.items
  have hn : numsOf (intItems xs).toList = ns := by rw [← e]; exact hi.numsOf
  rw [nums_intItems] at hn
  rw [e] at hl'
  refine PySem.W.ktm_sumG (I.ok.hd hc) hl' fun h' tk t' hk => ?_
  have J : Inv X pins σ H { s with heap := h', toks := tk } := I.kept hk
  refine ⟨.int ns.sum, H, J, ⟨t', ?_⟩, q⟩
  rw [preSum_eq, List.take_of_length_le (by simp), hn]
theorem max_tup {prog : Program} {w : World} {A : Around} {E : Value → Shared → Prop} {s : Shared} {l : Addr} {xs : Array (Int × Tok)} {Q : Value → Shared → Prop} (hh : A.handled = none) (ht : s.heap.IsTuple l (intItems xs)) (hne : 0 < xs.size)
    (h : ∀ v h' tk, (intItems xs)[argBest (fun i j => decide (numAt xs i > numAt xs j)) (xs.size - 1)]? = some v → (∀ b o, s.heap.get? b = some o → h'.get? b = some o) → Q v { s with heap := h', toks := tk }) :
    wpAny (model prog w) A (call (.builtin "max") [.ref l]) Q E s := by
  obtain ⟨o, ho, hc, n, hd⟩ := id ht
  have hlt : l < s.heap.objs.size := Heap.lt_size ho
  refine call_max_walk (wpAny_pyIter_tuple ht ?_)
  refine ⟨s.heap.objs.size, _, _, _, _, _, _, rfl, Walks.tuple (A := A.in1) hh _ l (Nat.ne_of_lt hlt) (intItems xs), ⟨⟨_, Heap.get?_push_size _ rfl, rfl, rfl⟩, ht.at fun o e => Heap.get?_push_of_some _ e⟩, fun b hb => ?_, by simpa [intItems] using hne,
    CmpOf.ints_gt (numAt xs) (fun _ _ => intItems_at), fun v h' tk hP hk => ?_⟩
  · rcases List.mem_cons.mp hb with rfl | hb
    · exact Heap.lt_size (Heap.get?_push_size _ rfl)
    · obtain rfl := List.mem_singleton.mp hb
      exact Heap.lt_size (Heap.get?_push_of_some _ ho)
  · refine h v h' tk (by simpa [intItems] using hP) fun b o e => ?_
    refine hk b o (fun hm => ?_) (Heap.get?_push_of_some _ e)
    have := List.mem_singleton.mp hm
    exact absurd (this ▸ Heap.lt_size e) (Nat.lt_irrefl _)
theorem cr_maxT (hc : X.calm = true) : CallR X (.builtin "max") (rMaxT X.K) := by
  intro pins s σ H vs us Q I r h
  obtain ⟨a, ns, rfl, hs, hne, q⟩ := h
  obtain ⟨its, rv, hl, _⟩ := I.tuple hs
  rw [Vals.ref1 r]
  have hi := rv.ints
  have hl' : s.heap.IsTuple a its.toArray := hl
  obtain ⟨xs, e⟩ := hi.allInts.items
  have hn : numsOf (intItems xs).toList = ns := by rw [← e]; exact hi.numsOf
  rw [nums_intItems] at hn
  subst hn
  rw [e] at hl'
  have hsz : 0 < xs.size := by simpa using hne
  refine max_tup (I.ok.hd hc) hl' hsz fun v h' tk hv hk => ?_
  obtain ⟨t, rfl⟩ := intItems_at hv
  obtain ⟨h1, h2⟩ := argBest_gt (numAt xs) (xs.size - 1)
  refine ⟨.int _, H, I.kept hk, ⟨t, rfl⟩, q _ ?_ fun a ha => ?_⟩
  · rw [numAt_eq]; exact PySem.getD_mem (by rw [List.length_map, Array.length_toList]; omega)
  · obtain ⟨j, hj, rfl⟩ := mem_getD ha
    rw [List.length_map, Array.length_toList] at hj
    rw [← numAt_eq]; exact h2 j (by omega)
end

/-! ### enumerate(t), t a tuple -/
theorem meets_enumerate_newT (l : Addr) (items : Array Value) (n : Nat) (dct : Option Addr) (sl : Array (Option Value)) :
    Meets (Builtin.«enumerate.__new__» ⟨[.type "enumerate", .ref l], []⟩) (fun _ R s => s.heap.get? l = some { cls := .type "tuple", dict := dct, data := .seq items n, slots := sl } ∧
      R (.ok (.ret (.ref (s.heap.push { cls := .type "tuple_iterator", data := .fields #[.ref l, .int 0 0] }).objs.size)))
        { s with heap := (s.heap.push { cls := .type "tuple_iterator", data := .fields #[.ref l, .int 0 0] }).push { cls := .type "enumerate", data := .fields #[.none, .bool false, .ref s.heap.objs.size, rawInt 0, .none, .none] } }) :=
  .of_wp fun prog w A R s h => by
    obtain ⟨hp, g, d, tk, os⟩ := s; obtain ⟨hl, h⟩ := h
    have hsub := sub_enumerate
    have hL : Heap.IsTuple (Shared.heap ⟨hp, g, d, tk, os⟩) l items := ⟨_, hl, rfl, n, rfl⟩
    wp_walk using AutoSeq1.wpAny_loadPart' hl
    refine wpAny_stack_any fun st => wpAny_pure ?_
    split
    · rename_i c _ _ _ _ _
      cases (c == Value.type "enumerate")
      · wp_walk using AutoSeq1.wpAny_loadPart' hl, wpAny_pyIter_tuple hL
        exact ⟨_, rfl, h⟩
      · wp_walk using AutoSeq1.wpAny_loadPart' hl, wpAny_pyIter_tuple hL
        exact ⟨_, rfl, h⟩
    · wp_walk using AutoSeq1.wpAny_loadPart' hl, wpAny_pyIter_tuple hL
      exact ⟨_, rfl, h⟩
theorem call_enumerate_tuple {prog : Program} {w : World} {A : Around} {E : Value → Shared → Prop} {s : Shared} {l : Addr} {items : Array Value} {Q : Value → Shared → Prop} (hL : s.heap.IsTuple l items)
    (h : ∀ h', IsEnum h' (s.heap.objs.size + 1) s.heap.objs.size 0 .none → h'.IsTupleIter s.heap.objs.size l 0 → h'.objs.size = s.heap.objs.size + 2 →
      (∀ b o, s.heap.get? b = some o → h'.get? b = some o) → Q (.ref (s.heap.objs.size + 1)) { s with heap := h' }) :
    wpAny (model prog w) A (call (.type "enumerate") [.ref l]) Q E s := by
  obtain ⟨⟨c, dct, dt, sl⟩, hl, hc, n, hd⟩ := hL
  replace hc : c = .type "tuple" := hc
  replace hd : dt = .seq items n := hd
  subst hc hd
  refine callType_new F.called_enumerate (by decide) (F.typeCall_enumerate_1 _) (F.newCall_enumerate_1 _) (fun obj => F.args_object_init_2 obj _) F.entry_enumerate_new
    (meets_enumerate_newT l items n dct sl) ⟨hl, ?_⟩
  have hz : (s.heap.push { cls := .type "tuple_iterator", data := .fields #[.ref l, .int 0 0] }).objs.size = s.heap.objs.size + 1 := Heap.size_push ..
  show _ ∧ _
  rw [hz]
  have he : IsEnum ((s.heap.push { cls := .type "tuple_iterator", data := .fields #[.ref l, .int 0 0] }).push
      { cls := .type "enumerate", data := .fields #[.none, .bool false, .ref s.heap.objs.size, rawInt 0, .none, .none] }) (s.heap.objs.size + 1) s.heap.objs.size 0 .none := by
    have := Heap.get?_push_size (s.heap.push { cls := .type "tuple_iterator", data := .fields #[.ref l, .int 0 0] })
      (o := { cls := .type "enumerate", data := .fields #[.none, .bool false, .ref s.heap.objs.size, rawInt 0, .none, .none] }) rfl
    rw [hz] at this; exact this
  refine ⟨⟨_, he, rfl⟩, h _ he ⟨_, Heap.get?_push_of_some _ (Heap.get?_push_size _ rfl), rfl, rfl⟩ (by rw [Heap.size_push, hz]) fun b o x => Heap.get?_push_of_some _ (Heap.get?_push_of_some _ x)⟩

/-- the tuple at a, each item in a new pair with its number -/
def IteT (K : PySem.W.Frag) (a : Addr) : It :=
  ⟨fun i H => ∃ (xs : List V) (x : V), SqT K H a xs ∧ xs[i]? = some x, fun i H v H' => ∃ T x, v = .ref T ∧ H T = none ∧ H' = upd H T (.tup [.int (i : Nat), x]) ∧ ∀ xs, SqT K H a xs → xs[i]? = some x, fun i H => ∃ xs : List V, SqT K H a xs ∧ xs.length = i⟩
theorem turn_enumT {P : Program} {w : World} {K : PySem.W.Frag} {elts : List Expr} {kk : Nat} {tpos : Pos} (a e it : Addr) :
    Turn P w K (.Tuple elts kk tpos) (IteT K a) [e, it] e (fun i h => (∃ old, IsEnum h e it ((i : Nat) : Int) old) ∧ h.IsTupleIter it a i ∧ e ≠ it ∧ e ≠ a ∧ it ≠ a) where
  mem := by simp
  obj := fun i h st b hb => by
    obtain ⟨⟨old, he⟩, ⟨o, ho, hc, hd⟩, _⟩ := st
    have e' : b = e ∨ b = it := by simpa using hb
    rcases e' with z | z
    · rw [z]; exact ⟨_, he, fun v q => nomatch q⟩
    · rw [z]; exact ⟨o, ho, fun v q => by rw [hd] at q; cases q⟩
  keep := fun i h h' st k => let ⟨⟨old, he⟩, hi, hne⟩ := st; ⟨⟨old, k e (by simp) _ he⟩, hi.at fun o q => k it (by simp) o q, hne⟩
  item := by
    intro X hP hw hK hc i pins s σ H E I hf st hg
    subst hP hw hK
    obtain ⟨⟨old, he⟩, hit, hne, hea, hia⟩ := st
    obtain ⟨xs, x, hq, hx⟩ := hg
    obtain ⟨its, rv, p, hz⟩ := I.tuple hq
    obtain ⟨u, hu, ru⟩ := rv.get hx
    have hel : e < s.heap.objs.size := Heap.lt_size he
    have hil : it < s.heap.objs.size := by obtain ⟨_, q, _⟩ := hit; exact Heap.lt_size q
    have hlt : i < its.toArray.size := by
      have := (List.getElem?_eq_some_iff.mp hu).1
      simpa using this
    refine wpAny_pyNext_enum_itemC (Draws.tuple (prog := X.prog) (w := X.w) (A := X.A.in1) (I.ok.hd hc) it a (Ne.symm hia) its.toArray) he ⟨hit, p⟩ hlt hne (by simp [hne, hea]) fun x' h' tk hPx ho hst' hT hsz hk => ?_
    have ex : x' = u := by
      have h1 : its.toArray[i]? = some u := by simpa using hu
      exact Option.some.inj (hPx.symm.trans h1)
    subst ex
    obtain ⟨hit', _⟩ := hst'
    refine ⟨_, rfl, wpAny_letOwnedTupleGo_enum (s := { s with heap := h', toks := tk + 1 }) ho fun h'' he' sb => ?_⟩
    have hT2 : h''.get? s.heap.objs.size = some { cls := .type "tuple", data := .seq #[.int i tk, x'] } := (sb.2 _ (Nat.ne_of_gt hel)).trans hT
    have new : ObjOk X.prog X.w (upd H s.heap.objs.size (.tup [.int (i : Nat), x])) h'' s.heap.objs.size (.tup [.int (i : Nat), x]) :=
      ⟨by show 2 ≤ sizeLine; decide, [.int i tk, x'], .cons ⟨_, rfl⟩ (.cons ru .nil), ⟨_, hT2, rfl, _, rfl⟩⟩
    have I1 : Inv X pins σ (upd H s.heap.objs.size (.tup [.int (i : Nat), x])) { s with heap := h'', toks := tk + 1 } :=
      I.turnedNew (ch := [e, it]) (fun b ob hb q => (sb.2 b (fun z => hb (by simp [z]))).trans (hk b ob (fun z => hb (by simp [z])) (fun z => hb (by simp [z])) q)) hf (Nat.le_refl _) new
    refine ⟨.ref s.heap.objs.size, _, I1, rfl, ⟨_, x, rfl, I.hok.fresh (Nat.le_refl _), rfl, fun ys hy => by rw [I.tuple_inj hy hq]; exact hx⟩, ⟨⟨x', ?_⟩, hit'.at fun o q => (sb.2 it (Ne.symm hne)).trans q, hne, hea, hia⟩, fun b hb => ?_⟩
    · have e1 : ((i + 1 : Nat) : Int) = (i : Int) + 1 := by omega
      rw [e1]; exact he'
    · have hb' : b < s.heap.objs.size := by
        have e' : b = e ∨ b = it := by simpa using hb
        rcases e' with z | z
        · rw [z]; exact hel
        · rw [z]; exact hil
      rw [upd_ne (Nat.ne_of_lt hb')]
      exact (hf b hb).1
  done := by
    intro X hP hw hK hc i pins s σ H E I hf st hg
    subst hP hw hK
    obtain ⟨⟨old, he⟩, hit, hne, hea, hia⟩ := st
    obtain ⟨xs, hq, hx⟩ := hg
    obtain ⟨its, rv, p, hz⟩ := I.tuple hq
    obtain ⟨f0, f1, f2, f3, f4, f5⟩ := hf it (by simp)
    have hl := rv.length
    have hn : i = its.toArray.size := by simp; omega
    subst hn
    exact wpAny_pyNext_enum_endD (Draws.tuple (prog := X.prog) (w := X.w) (A := X.A.in1) (I.ok.hd hc) it a (Ne.symm hia) its.toArray) he ⟨hit, p⟩ fun h' eb => ⟨rfl, I.turned (t' := s.toks) (fun b o hb q => eb b o hb q) f0 f1 f3 f4 f5⟩
  self := fun A i s Q E st h => let ⟨⟨_, he⟩, _⟩ := st; wpAny_pyIter_enum he h
def iEnumT (K : PySem.W.Frag) (ta : TA) : TI := fun σ H R => ta σ H fun vs H1 => ∃ a xs, vs = [.ref a] ∧ SqT K H1 a xs ∧ R (IteT K a) H1
theorem pi_enumT {X : Cx} {e : Expr} {ta : TA} {p pos tpos : Pos} {elts : List Expr} {kk : Nat} (hg : Gl X "enumerate") (hm : X.mg "enumerate" = none) (ha : PA X [e] ta) (hs : starEach [e] X.env = [(false, eval e X.env)] := by rfl) :
    PI X (.Tuple elts kk tpos) (.Call (.Name "enumerate" p) [e] [] pos) (iEnumT X.K ta) := by
  refine ⟨fun pins s σ H R I h => ?_⟩
  refine Call_ (ld_blt I hg hm boot_enumerate (PyProof.Rows.callWith_type1 (thn (ha.run pos pins s σ H _ I h) fun us s1 ⟨vs, H1, I1, r1, q1⟩ => ?_) hs rfl))
  obtain ⟨a, xs, ex, hq, q⟩ := q1
  subst ex
  cases r1 with
  | cons r rr =>
    cases rr
    cases r
    obtain ⟨its, rv, p', hz⟩ := I1.tuple hq
    have la : a < s1.heap.objs.size := by obtain ⟨_, y, _⟩ := p'; exact Heap.lt_size y
    refine call_enumerate_tuple (show s1.heap.IsTuple a its.toArray from p') fun h' he hit hsz hk => wpAny_pyIter_enum he ?_
    have I2 : Inv X pins σ H1 { s1 with heap := h' } := I1.kept (t' := s1.toks) hk
    refine ⟨s1.heap.objs.size + 1, [s1.heap.objs.size + 1, s1.heap.objs.size], _, _, H1, rfl, I2, turn_enumT a (s1.heap.objs.size + 1) s1.heap.objs.size, ⟨⟨.none, he⟩, hit, Nat.succ_ne_self _, Nat.ne_of_gt (Nat.lt_succ_of_lt la), Nat.ne_of_gt la⟩, fun b hb => ?_, q⟩
    have e' : b = s1.heap.objs.size + 1 ∨ b = s1.heap.objs.size := by simpa using hb
    have hle : s1.heap.objs.size ≤ b := by
      rcases e' with z | z
      · rw [z]; exact Nat.le_add_right _ _
      · rw [z]; exact Nat.le_refl _
    exact I1.fpOk hle (I1.hok.fresh hle)
theorem walk_enumT {K : PySem.W.Frag} {a : Addr} {xs : List V} : Walk (IteT K a) xs.length (fun H => SqT K H a xs) (YPair (fun i => some (.int (i : Nat))) (fun i => xs[i]?)) := by
  refine ⟨fun i _ hi q => ⟨xs, xs[i], q, by simp [hi]⟩, fun _ q => ⟨xs, q, rfl⟩, fun i H v H' _ q y => ?_⟩
  obtain ⟨T, x, h1, h2, h3, h4⟩ := y
  exact ⟨T, .int (i : Nat), x, h1, h2, h3, rfl, h4 xs q⟩
/-! ### f(e, ..), f an instance: a reading that speaks of no context -/
def tCallI (C : Addr) (sp : Sp) (E : XK) (tf : TE) (t : TA) : TE := fun σ H Q => tf σ H fun y H1 => ∃ a, y = V.ref a ∧ t σ H1 fun vs H2 => (∃ dx fs, H2 a = some (.ins C dx fs)) ∧ sp (V.ref a :: vs) H2 Q E
theorem pe_callI {X : Cx} {CX : CXT} {k : Nat} {C g : Addr} {sp : Sp} {E : XK} {fe e : Expr} {es : List Expr} {tf : TE} {t : TA} {pos : Pos} (hf : PE X fe tf) (c : StX.CallO X.K C g) (F : FnR X.prog X.w X.K X.mg X.base CX k g sp) (hr : Room k X.A) (hx : Passes CX X E) (ha : PA X (e :: es) t)
    (ht : eval (.Call fe (e :: es) [] pos) X.env = (do callWith pos (← eval fe X.env) [] (backTo pos (starEach (e :: es) X.env)) (backToKw pos (keywordEach [] X.env))) := by rfl)
    (he : starEach (e :: es) X.env = (false, eval e X.env) :: starEach es X.env := by rfl) (hpl : (backTo pos (starEach es X.env)).any (·.1) = false := by rfl) : PE X (.Call fe (e :: es) [] pos) (tCallI C sp E tf t) := by
  refine ⟨fun pins s σ H Q I h => ?_⟩
  refine Call_ (thn (hf.run pins s σ H _ I h) fun u s1 ⟨y, H1, I1, ry, a, ey, q⟩ => ?_) ht
  subst ey
  obtain rfl : u = Value.ref a := ry
  refine StX.callO_with (thn (ha.run pos pins s1 σ H1 _ I1 q) fun us s2 ⟨vs, H2, I2, r, hi, q2⟩ => ?_) he hpl
  have hi' : StX.InsC X H2 a C := .inr hi
  obtain ⟨ox, od, J, hd⟩ := StX.insC_at I2 hi'
  exact ⟨⟨C, ox, od, J, hd⟩, StX.run_callO c F hr hx I2 hi' r q2⟩
end Rz
/-! One more rule beside the layer's: ring >> int, the class's own sign. -/
namespace Rz
open PySem PySem.Spec PyProof.Rows L2
section
variable {X : Cx}
def rShO (C : Addr) (sp : Sp) (E : XK) : R2 := fun x y H Q => ∃ (a dx : Addr) (fs : List (Str × V)) (i : Int), x = .ref a ∧ y = .int i ∧ H a = some (.ins C dx fs) ∧ sp [.ref a, .int i] H (fun v H' => (∃ b : Addr, v = .ref b) ∧ Q v H') E
theorem op_shO {CX : CXT} {k : Nat} {f C : Addr} {sp : Sp} {E : XK} {fo ro : Option Value} (hc : PySem.W.selfFirst X.K C = true) (hs : PySem.W.findIn X.K (.ref C) "__rshift__" = some (some (.ref f))) (hf : PySem.W.isFn X.K (.ref f) = true)
    (hn : PySem.W.findIn X.K (.ref C) "__rrshift__" = some none) (h1 : PySem.W.findIn X.K (.type "int") "__rshift__" = some fo) (h2 : PySem.W.findIn X.K (.type "int") "__rrshift__" = some ro) (hsub : PySem.W.subIn X.K (.type "int") (.ref C) = some false)
    (F : FnR X.prog X.w X.K X.mg X.base CX k f sp) (hr : Room k X.A) (hx : Passes CX X E) : OpR X (binaryOp .RShift) (rShO C sp E) := by
  intro pins s σ H x y v u Q I rx ry h
  obtain ⟨a, dx, fs, i, rfl, rfl, ea, q⟩ := h
  obtain rfl : v = Value.ref a := rx
  obtain ⟨t, rfl⟩ := ry
  obtain ⟨mA, O, _⟩ := ins_get I.hok ea
  obtain ⟨od, J, _⟩ := O.look
  obtain ⟨m, hns, _⟩ := I.loc
  refine PySem.W.ksp_binT (op := .RShift) (T := "int") ⟨hns, I.bk, Nat.le_trans I.ok.bsz I.ok.above⟩ I.ok.mod.kin J rfl hc hs hf hn (.inl rfl) h1 h2 hsub ?_
  refine wpAny_call (codeAny_mono (F X.A X.stack s H [.ref a, .int i t] [.ref a, .int i] _ E hr I.env0 (.cons rfl (.cons ⟨_, rfl⟩ .nil)) q) fun r s' hq => ?_)
  cases r with
  | error e => exact hx pins σ H s e s' I hq
  | ok fl =>
    cases fl with
    | ret u =>
      obtain ⟨v, H', J', rv, ⟨b, rfl⟩, q'⟩ := I.after hq
      obtain rfl : u = Value.ref b := rv
      exact ⟨.ref b, H', J', rfl, q'⟩
    | next => exact False.elim hq
    | brk => exact False.elim hq
    | cont => exact False.elim hq
end
end Rz
/-! More rules beside the layer's: a range that stands in a slot, walked; a tuple's index of an int. -/
namespace Rz
open PySem PySem.Spec PyProof.Rows L2
section
variable {X : Cx}
def iRngV (te : TE) : TI := fun σ H R => te σ H fun x H1 => ∃ a lo hi, x = .ref a ∧ H1 a = some (.rng lo hi) ∧ (-(2 ^ 62) ≤ lo ∧ lo < 2 ^ 62 ∧ -(2 ^ 62) ≤ hi ∧ hi < 2 ^ 62) ∧ R (Itr lo (hi - lo).toNat) H1
theorem pi_rngV {tg e : Expr} {te : TE} (he : PE X e te) : PI X tg e (iRngV te) := by
  refine ⟨fun pins s σ H R I h => ?_⟩
  refine thn (he.run pins s σ H _ I h) fun v s1 ⟨x, H1, I1, r1, q1⟩ => ?_
  obtain ⟨a, lo, hi, ex, ha, ⟨h1, h2, h3, h4⟩, q⟩ := q1
  subst ex
  cases r1
  obtain ⟨t, u, v, ho⟩ := (show ObjOk X.prog X.w H1 s1.heap a (.rng lo hi) from I1.hok a _ ha)
  refine wpAny_pyIter_range (show IsRange s1.heap a lo hi 1 t u v from ho) (small_one h1 h2 h3 h4) ?_
  refine ⟨s1.heap.objs.size, [s1.heap.objs.size], _, _, H1, rfl, I1.kept (t' := s1.toks) fun b o e => Heap.get?_push_of_some _ e, turn_range _ lo (hi - lo).toNat, ?_, fun b hb => ?_, q⟩
  · have e1 : lo + ((0 : Nat) : Int) * 1 = lo := by simp
    have e2 : (((hi - lo).toNat : Nat) : Int) - ((0 : Nat) : Int) = Builtin.Range.rangeSize lo hi 1 := by rw [rangeSize_one]; split <;> omega
    show IsRangeIter _ _ (lo + ((0 : Nat) : Int) * 1) ((((hi - lo).toNat : Nat) : Int) - ((0 : Nat) : Int)) 1
    rw [e1, e2]
    exact Heap.get?_push_size _ rfl
  · have e : b = s1.heap.objs.size := by simpa using hb
    subst e
    exact I1.fpOk (Nat.le_refl _) (I1.hok.fresh (Nat.le_refl _))
/-- t.index(i), the first place -/
theorem mt_tup_indexI : MtR X "tuple.index" (fun x xs H Q => ∃ p, ∃ ys : List Int, ∃ z j, x = .ref p ∧ xs = [.int z] ∧ SqT X.K H p (ys.map V.int) ∧ ys[j]? = some z ∧ (∀ m y, m < j → ys[m]? = some y → y ≠ z) ∧ Q (.int (j : Nat)) H) := by
  intro pins s σ H x xs v us Q I rx rs h
  obtain ⟨p, ys, z, j, rfl, rfl, hq, hy, hno, q⟩ := h
  cases rx
  obtain ⟨u, rfl, t, rfl⟩ := vals1 rs
  obtain ⟨its, r, pl, hz⟩ := I.tuple hq
  obtain ⟨⟨cls, dd, dt, sl⟩, ho, hc, n, hd⟩ := pl
  simp only at hc hd
  subst hc
  subst hd
  have fl : (ys.map V.int).all flatV = true := by
    rw [List.all_eq_true]
    intro x hx
    obtain ⟨i, _, rfl⟩ := List.mem_map.mp hx
    rfl
  have hl : its.toArray.size = ys.length := by rw [List.size_toArray, ← r.length, List.length_map]
  have hj : j < its.toArray.size := by rw [hl]; exact (List.getElem?_eq_some_iff.mp hy).1
  have at' : ∀ (m : Nat) (hm : m < its.toArray.size), ∃ y t', ys[m]? = some y ∧ its.toArray[m] = Value.int y t' := fun m hm => by
    have hm' : m < ys.length := by rw [← hl]; exact hm
    obtain ⟨w, hw, t', hw'⟩ := r.get (i := m) (x := .int ys[m]) (by simp [hm'])
    refine ⟨ys[m], t', List.getElem?_eq_getElem hm', ?_⟩
    have e := (List.getElem?_eq_some_iff.mp hw).2
    rw [← hw', ← e]
    simp
  refine call_meets PySem.F.slot_tuple_index ⟨_, ho, rfl⟩ PySem.F.entry_tuple_index (PySem.F.args_tuple_index_2 _ _) (TI.tuple_indexAt p its.toArray n dd sl (.int z t) (eqU (.int z)) j hj ?_ ?_)
    ⟨ho, fun w hw => mem_eqAt (x := .int z) ⟨t, rfl⟩ rfl r fl w (by simpa using hw), ⟨.int (j : Nat), H, I.tok _, ⟨_, rfl⟩, q⟩⟩
  · obtain ⟨y, t', h1, h2⟩ := at' j hj
    rw [hy] at h1
    cases h1
    rw [h2]
    show (z == z) = true
    exact beq_self_eq_true z
  · intro m hm hmj
    obtain ⟨y, t', h1, h2⟩ := at' m hm
    rw [h2]
    show (y == z) = false
    exact beq_eq_false_iff_ne.mpr (hno m y hmj h1)
end
end Rz
/-! Own signs: o[i], o == x, o >> x; a class held by a local name is called. -/
namespace Rz
open PySem PySem.Spec PyProof.Rows L2
section
variable {X : Cx} {CX : CXT} {k : Nat} {f C : Addr} {sp : Sp} {E : XK} {pins : List (Addr × Obj)} {s : Shared} {σ : L2.St} {H : Hp} {Q : VK}
/-- an own def is called within one more step -/
theorem run_in1 {us : List Value} {vs : List V} (F : FnR X.prog X.w X.K X.mg X.base CX k f sp) (hr : Room (k + 1) X.A) (hx : Passes CX X E) (I : Inv X pins σ H s) (r : Vals vs us) (q : sp vs H Q E) :
    wpAny (model X.prog X.w) X.A.in1 (call (.ref f) us) (EP X pins σ Q) X.xe s := by
  have e := I.env0
  have e0 : Env0 X.prog X.w X.K X.mg X.base X.A.in1 X.stack s H := ⟨e.frames, e.mod, e.bs, e.bsz, e.funs, e.frf, e.hok, e.bare⟩
  refine wpAny_call (codeAny_mono (F X.A.in1 X.stack s H us vs _ E hr.in1 e0 r q) fun r s' hq => ?_)
  cases r with
  | error e => exact hx pins σ H s e s' I hq
  | ok fl =>
    cases fl with
    | ret u => exact I.after hq
    | next => exact False.elim hq
    | brk => exact False.elim hq
    | cont => exact False.elim hq
theorem run_here {us : List Value} {vs : List V} (F : FnR X.prog X.w X.K X.mg X.base CX k f sp) (hr : Room k X.A) (hx : Passes CX X E) (I : Inv X pins σ H s) (r : Vals vs us) (q : sp vs H Q E) :
    wpAny (model X.prog X.w) X.A (call (.ref f) us) (EP X pins σ Q) X.xe s := by
  refine wpAny_call (codeAny_mono (F X.A X.stack s H us vs _ E hr I.env0 r q) fun r s' hq => ?_)
  cases r with
  | error e => exact hx pins σ H s e s' I hq
  | ok fl =>
    cases fl with
    | ret u => exact I.after hq
    | next => exact False.elim hq
    | brk => exact False.elim hq
    | cont => exact False.elim hq
/-- o[y], o of the class at C -/
def rIxO (C : Addr) (sp : Sp) (E : XK) : R2 := fun x y H Q => ∃ (p dx : Addr) (fs : List (Str × V)), x = .ref p ∧ H p = some (.ins C dx fs) ∧ sp [.ref p, y] H Q E
theorem pe_ixO {a b : Expr} {ta tb : TE} {pos : Pos} (hs : PySem.W.findIn X.K (.ref C) "__getitem__" = some (some (.ref f))) (hf : PySem.W.fnIn X.K f = true) (hfn : PySem.W.isFn X.K (.ref f) = true)
    (F : FnR X.prog X.w X.K X.mg X.base CX k f sp) (hr : Room (k + 1) X.A) (hx : Passes CX X E) (ha : PE X a ta) (hb : PE X b tb)
    (hsl : ∀ (o : Addr) (i : Value), subscripted b true (.ref o) i = runValue (.builtin "lifetime.subscript" ⟨[.ref o, i], []⟩) := by intro _ _; with_unfolding_all rfl) : PE X (.Subscript a b pos) (tOp (rIxO C sp E) ta tb) := by
  refine ⟨fun pins s σ H Q I h => Subscript_ (binT ha hb I h fun v u s2 x y H2 I2 rx ry q => ?_)⟩
  obtain ⟨p, dx, fs, rfl, hp, q⟩ := q
  obtain rfl : v = Value.ref p := rx
  obtain ⟨mA, O, _⟩ := ins_get I2.hok hp
  obtain ⟨od, J, _⟩ := O.look
  obtain ⟨m, hns, _⟩ := I2.loc
  exact PySem.W.sub_K ⟨hns, I2.bk, Nat.le_trans I2.ok.bsz I2.ok.above⟩ I2.ok.mod.kin J hs hf hfn (run_in1 F hr hx I2 (vs := [.ref p, y]) (.cons rfl (.cons ry .nil)) q) (hsl p u)
/-- the other side of an own sign: of the same class, or of a built-in kind -/
def Oth (C : Addr) (H : Hp) (y : V) : Prop := (∃ (b dy : Addr) (gs : List (Str × V)), y = .ref b ∧ H b = some (.ins C dy gs)) ∨ ∃ (b : Addr) (xs : List V), y = .ref b ∧ H b = some (.tup xs)
def rEqO (C : Addr) (sp : Sp) (E : XK) : R2 := fun x y H Q => ∃ (a dx : Addr) (fs : List (Str × V)), x = .ref a ∧ H a = some (.ins C dx fs) ∧ Oth C H y ∧ sp [.ref a, y] H (fun v H' => (∃ k, v = .bl k) ∧ Q v H') E
theorem op_eqO (hs : PySem.W.findIn X.K (.ref C) "__eq__" = some (some (.ref f))) (hf : PySem.W.isFn X.K (.ref f) = true) (ht : PySem.W.subIn X.K (.type "tuple") (.ref C) = some false)
    (F : FnR X.prog X.w X.K X.mg X.base CX k f sp) (hr : Room k X.A) (hx : Passes CX X E) : OpR X (compareOp .Eq) (rEqO C sp E) := by
  intro pins s σ H x y v u Q I rx ry h
  obtain ⟨a, dx, fs, rfl, ha, ho, q⟩ := h
  obtain rfl : v = Value.ref a := rx
  obtain ⟨mA, O, _⟩ := ins_get I.hok ha
  obtain ⟨od, J, _⟩ := O.look
  obtain ⟨m, hF⟩ := I.fr
  have back : ∀ (w : Value) (s' : Shared), EP X pins σ (fun v H' => (∃ k, v = V.bl k) ∧ Q v H') w s' → PySem.W.CmpBack (EP X pins σ Q) w s' := fun w s' h => by
    obtain ⟨z, H', I', rz, ⟨k, rfl⟩, q'⟩ := h
    cases rz
    exact ⟨.bl k, H', I', rfl, q'⟩
  show wpAny (model X.prog X.w) X.A (richCompare .Eq (.ref a) u) (EP X pins σ Q) X.xe s
  have hu : X.A.units < cLine := hr.units0
  rcases ho with ⟨b, dy, gs, rfl, hb⟩ | ⟨b, xs, rfl, hb⟩
  · obtain rfl : u = Value.ref b := ry
    obtain ⟨mB, O', _⟩ := ins_get I.hok hb
    obtain ⟨od', J', _⟩ := O'.look
    exact PySem.W.cmp_K (op := .Eq) (tb := .ref C) hu hF I.ok.mod.kin J J'.type (by simp [PySem.W.notFirst]) hs hf (wpAny_mono (run_here F hr hx I (vs := [.ref a, .ref b]) (.cons rfl (.cons rfl .nil)) q) back fun _ _ e => e)
  · obtain rfl : u = Value.ref b := ry
    obtain ⟨its, _, p1, _⟩ := I.tuple (SqT.of (K := X.K) hb)
    have L : PySem.W.Looks (model X.prog X.w) s.heap (typeOf (.ref b)) (.type "tuple") := by
      obtain ⟨o, ho, hc, _⟩ := p1
      exact fun A Q E s k q => wpAny_typeOf_ref (k _ _ ho) (by rw [hc]; exact q)
    exact PySem.W.cmp_K (op := .Eq) (tb := .type "tuple") hu hF I.ok.mod.kin J L (by simp [PySem.W.notFirst, ht]) hs hf (wpAny_mono (run_here F hr hx I (vs := [.ref a, .ref b]) (.cons rfl (.cons rfl .nil)) q) back fun _ _ e => e)
/-- o >> y, y of the built-in kind T -/
def rShV (C : Addr) (T : String) (sp : Sp) (E : XK) : R2 := fun x y H Q => ∃ (a dx : Addr) (fs : List (Str × V)), x = .ref a ∧ H a = some (.ins C dx fs) ∧ (∀ u, RelV y u → typeOf u = pure (.type T)) ∧ sp [.ref a, y] H (fun v H' => (∃ b : Addr, v = .ref b) ∧ Q v H') E
theorem op_shV {T : String} {fo ro : Option Value} (hc : PySem.W.selfFirst X.K C = true) (hs : PySem.W.findIn X.K (.ref C) "__rshift__" = some (some (.ref f))) (hf : PySem.W.isFn X.K (.ref f) = true)
    (hn : PySem.W.findIn X.K (.ref C) "__rrshift__" = some none) (h1 : PySem.W.findIn X.K (.type T) "__rshift__" = some fo) (h2 : PySem.W.findIn X.K (.type T) "__rrshift__" = some ro) (hsub : PySem.W.subIn X.K (.type T) (.ref C) = some false)
    (F : FnR X.prog X.w X.K X.mg X.base CX k f sp) (hr : Room k X.A) (hx : Passes CX X E) : OpR X (binaryOp .RShift) (rShV C T sp E) := by
  intro pins s σ H x y v u Q I rx ry h
  obtain ⟨a, dx, fs, rfl, ea, hT, q⟩ := h
  obtain rfl : v = Value.ref a := rx
  obtain ⟨mA, O, _⟩ := ins_get I.hok ea
  obtain ⟨od, J, _⟩ := O.look
  obtain ⟨m, hns, _⟩ := I.loc
  refine PySem.W.ksp_binT (op := .RShift) (T := T) ⟨hns, I.bk, Nat.le_trans I.ok.bsz I.ok.above⟩ I.ok.mod.kin J (hT u ry) hc hs hf hn (.inl rfl) h1 h2 hsub ?_
  refine wpAny_mono (run_here F hr hx I (vs := [.ref a, y]) (.cons rfl (.cons ry .nil)) q) (fun w s' z => ?_) fun _ _ e => e
  obtain ⟨z, H', I', rz, ⟨b, rfl⟩, q'⟩ := z
  obtain rfl : w = Value.ref b := rz
  exact ⟨.ref b, H', I', rfl, q'⟩
/-- x(..), x a local name that holds the class at C -/
def tMakeL (i : Nat) (C : Addr) (sp : Sp) (E : XK) (t : TA) : TE := fun σ H Q => σ[i]? = some (some (.ref C)) ∧ StX.tMakeR C sp E t σ H Q
theorem pe_makeL {i : Nat} {x : Str} {e : Expr} {es : List Expr} {t : TA} {p pos : Pos} (M : Mk X.K C f) (F : FnR X.prog X.w X.K X.mg X.base CX k f sp) (hr : Room (k + 1) X.A) (hN : X.N[i]? = some x) (hv : Vis X.env.scope x) (hx : Passes CX X E) (ha : PA X (e :: es) t)
    (hdb : (x == ("__debug__" : Str)) = false := by decide) (hcd : (x == ("__classdict__" : Str)) = false := by decide)
    (he : starEach (e :: es) X.env = (false, eval e X.env) :: starEach es X.env := by rfl) (hpl : (backTo pos (starEach es X.env)).any (·.1) = false := by rfl) : PE X (.Call (.Name x p) (e :: es) [] pos) (tMakeL i C sp E t) := by
  refine ⟨fun pins s σ H Q I h => ?_⟩
  obtain ⟨hs, ht⟩ := h
  have look := (pe_var (pos := p) hN hv hdb hcd).run pins s σ H (fun v H1 => v = .ref C ∧ H1 = H) I ⟨.ref C, hs, rfl, rfl⟩
  refine wpAny_Call_Name_kw (thn look fun u s1 hq => ?_)
  obtain ⟨v, H1, I1, r1, rfl, rfl⟩ := hq
  cases r1
  have args := ha.run pos pins s1 σ _ _ I1 ht
  exact PySem.W.callWith_K (h₀ := X.base) I.ok.mod.kin M.kp (thn args fun us s2 hq2 => by
    obtain ⟨vs, H2, I2, r, q⟩ := hq2
    exact ⟨I2.kIn, StX.run_makeR M F hr hx I2 r q⟩) he hpl
end
end Rz
/-! set(xs) of a list of ints, kept; its size. -/
namespace Rz
open PySem PySem.Spec PyProof.Rows L2
/-- an empty set, new -/
abbrev eS (w : World) : Obj := { cls := .type "set", dict := none, data := .set #[] 0 (.fresh 0 0 (!w.params.followText "set-order")) }
section
variable {P : Program} {w : World} {A : Around} {E : Value → Shared → Prop} {s : Shared}
theorem set_of_list {l : Addr} {xs : Array Value} (ns : List Int) {Q : Value → Shared → Prop} (quiet : A.handled = none) (isl : s.heap.IsList l xs) (are : IntsAre xs.toList ns) (few : ns.length + 1 < scanBound)
    (fin : ∀ (h2 : Heap) (tk c : Nat), SetR w h2 s.heap.objs.size (fun j => decide (j ∈ ns)) c → c ≤ ns.length → (∀ b o, s.heap.get? b = some o → h2.get? b = some o) → Q (.ref s.heap.objs.size) { s with heap := h2, toks := tk }) :
    wpAny (model P w) A (call (.type "set") [.ref l]) Q E s := by
  have size : xs.size = ns.length := by
    have z := IntsAre.length are
    rwa [Array.length_toList] at z
  obtain ⟨_, _, mro⟩ := F.called_set.mro
  have made := F.called_set.made
  have sub := F.called_set.sub
  refine wpAny_call (codeAny_of_tree ?_)
  show wpAny _ _ (callAny (.type "set") _) _ _ _
  refine wpAny_pure ⟨Code.quiet_builtin _ (by decide +kernel), ?_⟩
  refine codeAny_builtin F.entry_type_call ?_
  rw [Around.under_plain (weight_type_call_type "set" [.ref l] []) rfl]
  have nt := F.called_set.notType
  have cc := F.called_set.canCreate
  have tc := F.typeCall_set_1 (.ref l)
  repeat (any_goals (first | assumption | wp_step))
  refine codeAny_mono (L2.code_set_led1 (.ref l) (E := E) (Q₁ := fun v t => v = .ref s.heap.objs.size ∧ t = { s with heap := s.heap.push (eS w) }) ⟨rfl, rfl⟩) fun res t1 hres => ?_
  cases res with
  | error e => exact hres
  | ok flow =>
    cases flow with
    | ret v =>
      obtain ⟨rfl, rfl⟩ := hres
      have atS : (s.heap.push (eS w)).get? s.heap.objs.size = some (eS w) := Heap.get?_push_size _ rfl
      have tyS : Shared.TypeIs { s with heap := s.heap.push (eS w) } (.ref s.heap.objs.size) "set" := ⟨_, atS, rfl⟩
      have look := F.called_set.init.lookup
      have bnd := F.called_set.init.bind (.ref s.heap.objs.size)
      repeat (any_goals (first | assumption | wp_step))
      refine codeAny_mono (codeAny_call_builtin (R := wants (fun v t => v = .none ∧ ∃ h2 tk c, t = { s with heap := h2, toks := tk } ∧ SetR w h2 s.heap.objs.size (fun j => decide (j ∈ ns)) c ∧ c ≤ ns.length ∧
          (∀ b o, s.heap.get? b = some o → h2.get? b = some o)) E) F.called_set.init.plain F.entry_set_init (check_set_init_1 tyS ?_)) fun res2 t2 hres2 => ?_
      · obtain ⟨ob, at1, cl1, n1, da1⟩ := isl
        obtain ⟨c1, d1, a1, sl1⟩ := ob
        simp only at cl1 da1
        subst cl1
        subst da1
        have at2 : (s.heap.push (eS w)).get? l = some { cls := .type "list", dict := d1, data := .seq xs n1, slots := sl1 } := Heap.get?_push_of_some _ at1
        have sub1 := F.sub_list_set
        have sub2 := F.sub_list_frozenset
        have nod : (Value.type "list" == Value.type "dict") = false := by decide
        have isl2 : (s.heap.push (eS w)).IsList l xs := ⟨_, at2, rfl, n1, rfl⟩
        unfold Builtin.«set.__init__» noKeywords Builtin.Frozenset.updateFrom
        generalize gI : pyIter = PI
        wp_walk
        subst gI
        refine wpAny_pyIter_list isl2 (wpAny_bind (wpAny_runValue ?_))
        have lt1 : l < s.heap.objs.size := Heap.lt_size at1
        have quiet3 : A.in1.in1.in1.handled = none := by simp [quiet]
        have sz : (s.heap.push (eS w)).objs.size = s.heap.objs.size + 1 := Heap.size_push ..
        have ne1 : l ≠ (s.heap.push (eS w)).objs.size := fun z => by
          rw [sz] at z
          exact absurd lt1 (by rw [z]; exact Nat.not_lt.mpr (Nat.le_succ _))
        have ne2 : s.heap.objs.size ∉ [(s.heap.push (eS w)).objs.size, l] := by
          simp only [List.mem_cons, List.mem_singleton, List.not_mem_nil, or_false, not_or]
          rw [sz]
          exact ⟨Nat.ne_of_lt (Nat.lt_succ_self _), fun z => Nat.lt_irrefl _ (by rw [← z] at lt1; exact lt1)⟩
        have each : ∀ (i : Nat) (v : Value), xs[i]? = some v → ∃ k t, ns[i]? = some k ∧ v = .int k t := fun i v hv => by
          have lt : i < ns.length := by
            rw [← size]
            exact (Array.getElem?_eq_some_iff.mp hv).1
          obtain ⟨t, e⟩ := IntsAre.int_at are i v (by rw [Array.getElem?_toList]; exact hv)
          refine ⟨ns[i], t, List.getElem?_eq_getElem lt, ?_⟩
          rw [e, List.getD_eq_getElem?_getD, List.getElem?_eq_getElem lt]
          rfl
        refine L2.set_update_ints ((Walks.list quiet3 _ l ne1 xs).toS) s.heap.objs.size ne2 ns size few each (xs.size - 0) 0 _ (by omega) (Nat.zero_le _) ⟨⟨_, Heap.get?_push_size _ rfl, rfl, rfl⟩, (isl2.push _)⟩ ?start ?done
        case start => exact ⟨0, Nat.le_refl 0, L2.setR_new_at (Heap.get?_push_of_some _ atS)⟩
        case done =>
          intro t c moved le RR
          obtain ⟨h2, g2, dr2, tk2, os2⟩ := t
          have e1 : g2 = s.gens := moved.gens
          have e2 : dr2 = s.drawn := moved.drawn
          have e3 : os2 = s.os := moved.os
          subst e1 e2 e3
          show wpAny _ _ _ _ _ _
          refine wpAny_pure ?_
          show wpAny _ _ (ret Value.none) _ _ _
          rw [size] at le
          refine wpAny_pure ⟨rfl, h2, tk2, c, rfl, RR, le, fun b o hb => ?_⟩
          have ltb : b < s.heap.objs.size := Heap.lt_size hb
          refine moved.heap b o ?_ (Heap.get?_push_of_some _ (Heap.get?_push_of_some _ hb))
          simp only [List.mem_cons, List.mem_singleton, List.not_mem_nil, or_false, not_or]
          rw [sz]
          exact ⟨fun z => Nat.lt_irrefl _ (by rw [z] at ltb; exact ltb), fun z => Nat.lt_irrefl s.heap.objs.size (by rw [z] at ltb; exact Nat.lt_of_succ_lt ltb)⟩
      · cases res2 with
        | error e => exact hres2
        | ok flow2 =>
          cases flow2 with
          | ret v2 =>
            obtain ⟨rfl, h2, tk, c, rfl, RR, le, keep⟩ := hres2
            repeat (any_goals (first | assumption | wp_step))
            exact fin _ _ _ RR le keep
          | _ => exact hres2.elim
    | _ => exact hres.elim
end
section
variable {X : Cx}
/-- set(xs), xs a list of ints: a new set -/
def rSetL (K : PySem.W.Frag) (w : World) : List V → Hp → VK → Prop := fun vs H Q => ∃ (l : Addr) (ns : List Int), vs = [.ref l] ∧ SqL K H l (ns.map V.int) ∧ ns.length + 1 < scanBound ∧
  ∀ (p : Addr) (n : Nat), n ≤ ns.length → H p = none → Q (.ref p) (upd H p (SetO w p (fun j => decide (j ∈ ns)) n))
theorem cr_setL (hc : X.calm = true) : CallR X (.type "set") (rSetL X.K X.w) := by
  intro pins s σ H vs us Q I r h
  obtain ⟨l, ns, rfl, hq, few, q⟩ := h
  rw [Vals.ref1 r]
  obtain ⟨its, rv, pl, hz⟩ := I.list hq
  refine set_of_list ns (I.ok.hd hc) pl.isList (by simpa using rv.ints) few fun h2 tk c RR le keep => ?_
  exact ⟨.ref _, upd H s.heap.objs.size (SetO X.w s.heap.objs.size (fun j => decide (j ∈ ns)) c), I.laid (t' := tk) keep (Nat.le_refl _) (setO_new RR), rfl, q _ c le (I.hok.fresh (Nat.le_refl _))⟩
/-- the members of a set of ints, in some order -/
theorem setR_list {w : World} {h : Heap} {a : Addr} {S : Int → Bool} {n : Nat} (R : SetR w h a S n) : ∃ ks : List Int, ks.Nodup ∧ (∀ k, k ∈ ks ↔ S k = true) ∧ ks.length = n := by
  obtain ⟨o, es, ep, t, _, _, _, _, nd, mem, _, _, sz, _⟩ := R
  exact ⟨es.toList.map keyOf, nd, fun k => (mem k).symm, by rw [List.length_map, Array.length_toList]; exact sz⟩
/-- len(a set of ints) -/
def rLenO (w : World) : List V → Hp → VK → Prop := fun vs H Q => ∃ (a : Addr) (S : Int → Bool) (n : Nat), vs = [.ref a] ∧ H a = some (SetO w a S n) ∧ n < 1000 ∧
  ((∃ ks : List Int, ks.Nodup ∧ (∀ k, k ∈ ks ↔ S k = true) ∧ ks.length = n) → Q (.int (n : Int)) H)
theorem cr_lenO : CallR X (.builtin "len") (rLenO X.w) := by
  intro pins s σ H vs us Q I r h
  obtain ⟨a, S, n, rfl, ha, hn, q⟩ := h
  rw [Vals.ref1 r]
  have R := setO_get I ha
  have q := q (setR_list R)
  obtain ⟨o, es, ep, t, ho, hex, hd, _, _, _, _, hf, sz, _⟩ := R
  exact call_len_set ho hex hd hf (by omega) ⟨.int n, H, I.tok _, ⟨_, by rw [sz]⟩, q⟩
end
end Rz
/-! Lambdas as values: made and kept (in lists, in slots), with or without a default value. -/
namespace Rl
open PySem PySem.Spec PyProof.Rows L2 LamX
/-- what a lambda is -/
structure LF where
  q : Str
  params : Arguments
  body : Expr
  scope : Scope
  cl : List (Str × Addr)
  dV : Value
  c : Addr
def LamO (f : Addr) (F : LF) : HO := .ext fun h => ∃ (doc pm ctv : Value), h.get? f = some (PySem.W.kdv_obj "<lambda>" F.q F.params (.expr F.body) F.scope F.cl F.dV doc pm F.c ctv)
theorem lamO_ne {f : Addr} {F : LF} (ps : Array Value) : LamO f F ≠ .tbl ps := fun z => by
  unfold LamO at z
  cases z
section
variable {X : Cx} {pins : List (Addr × Obj)} {σ : L2.St} {H : Hp} {s : Shared}
theorem inv_lam {F : LF} {o : Obj} {t' : Nat} {doc pm ctv : Value} (I : Inv X pins σ H s) (ho : o = PySem.W.kdv_obj "<lambda>" F.q F.params (.expr F.body) F.scope F.cl F.dV doc pm F.c ctv) :
    Inv X pins σ (upd H s.heap.objs.size (LamO s.heap.objs.size F)) { s with heap := s.heap.push o, toks := t' } := by
  subst ho
  have e : (s.heap.push (PySem.W.kdv_obj "<lambda>" F.q F.params (.expr F.body) F.scope F.cl F.dV doc pm F.c ctv)).get? s.heap.objs.size = some (PySem.W.kdv_obj "<lambda>" F.q F.params (.expr F.body) F.scope F.cl F.dV doc pm F.c ctv) := Heap.get?_push_size _ rfl
  exact I.laid (a := s.heap.objs.size) (fun b u g => Heap.get?_push_of_some _ g) (Nat.le_refl _) ⟨⟨doc, pm, ctv, e⟩, ⟨_, e⟩, fun h1 h2 ⟨d1, p1, v1, z⟩ st => ⟨d1, p1, v1, st _ z⟩⟩
/-- the rest of the making, the default values evaluated -/
theorem lam_tail {T : List (Addr × Str)} {c P : Addr} {params : Arguments} {body : Expr} {scope : Scope} {pos : Pos} {dV : Value} {E : Value → Shared → Prop} {Q : Value → Shared → Prop} (I : Inv X pins σ H s) (TB : TabB X.base X.mg c P) (hcode : X.env.code = .ref c)
    (hm : (P, X.env.qual ++ "<lambda>") ∈ T) (hu : ∀ p ∈ T, p.1 = P → p.2 = X.env.qual ++ "<lambda>") (hT : Tabs T H) (hfree : ∀ y ∈ scope.names, y.2 = .free → ∃ c, X.env.cells.lookup y.1 = some c)
    (h : ∀ (f c' : Addr) (H1 : Hp) (s' : Shared), Inv X pins σ H1 s' → ExtN H H1 → Tabs T H1 → H f = none → H1 f = some (LamO f ⟨X.env.qual ++ "<lambda>", params, body, scope, cloFrom X.env.cells scope.names [], dV, c'⟩) → H1 c' = some (CodeO c' (X.env.qual ++ "<lambda>")) → Q (.ref f) s') :
    wpAny (model X.prog X.w) X.A (makeTail "<lambda>" (X.env.qual ++ "<lambda>") params (.expr body) scope X.env dV .none none pos pos.line) Q E s := by
  obtain ⟨ps, hP, ht, ha⟩ := hT _ hm
  have bP : s.heap.BuiltinsAt X.mg P := TB.bm.keeps I.bk
  have gP : s.heap.get? P = some { cls := .none, data := .fields ps } := I.hok P _ hP
  cases hc : codeAmong pos ps.toList with
  | none =>
    refine PySem.W.kdv_makeTail (mg := X.mg) (c := c) (P := P) (ps := ps) (closure_ok hfree) I.ok.glob (I.mod.glob.keeps I.bk) hcode (TB.code.keeps I.bk) gP ht hc TB.gP bP fun c' ctv doc h' tk hx hge hlt hrec htb => ?_
    obtain ⟨c2, oc, vs, t, e2, r1, r2, r3⟩ := hrec
    cases e2
    have nC := I.hok.fresh hge
    have J := inv_table (t' := tk) (more := #[rawInt pos.line, rawInt pos.col, .ref c']) (h' := h') I hP (fun b o n e => hx b o n e) htb hge ⟨oc, vs, t, r1, r2, r3⟩
    obtain ⟨H1, hH1⟩ : ∃ H1, H1 = upd (upd H P (.tbl (ps ++ #[rawInt pos.line, rawInt pos.col, .ref c']))) c' (CodeO c' (X.env.qual ++ "<lambda>")) := ⟨_, rfl⟩
    have ext1 : ExtN H H1 := fun b o e n => by
      rw [hH1, upd_ne (ne_of_none e nC), upd_ne (fun z => by subst z; rw [hP] at e; exact n ps (Option.some.inj e).symm)]
      exact e
    have atC : H1 c' = some (CodeO c' (X.env.qual ++ "<lambda>")) := by rw [hH1, upd_same]
    have tabs1 : Tabs T H1 := fun p hp => by
      by_cases hb : p.1 = P
      · rw [hu p hp hb, hb]
        refine ⟨ps ++ #[rawInt pos.line, rawInt pos.col, .ref c'], by rw [hH1, upd_ne (ne_of_none hP nC), upd_same], ?_, fun p' cv hcv => ?_⟩
        · rw [Array.toList_append]
          exact PySem.TriplesOk_snoc _ _ _ _ ht
        · rw [Array.toList_append] at hcv
          rcases among_app _ ht hcv with z | z
          · obtain ⟨c0, e1, e2⟩ := ha p' cv z
            exact ⟨c0, e1, ext1 _ _ e2 codeO_ne⟩
          · exact ⟨c', z, atC⟩
      · obtain ⟨ps', a1, a2, a3⟩ := hT p hp
        refine ⟨ps', by rw [hH1, upd_ne (ne_of_none a1 nC), upd_ne hb]; exact a1, a2, fun p' cv hcv => ?_⟩
        obtain ⟨c0, e1, e2⟩ := a3 p' cv hcv
        exact ⟨c0, e1, ext1 _ _ e2 codeO_ne⟩
    rw [← hH1] at J
    have nF := J.hok.fresh (Nat.le_refl _)
    have J2 := inv_lam (F := ⟨X.env.qual ++ "<lambda>", params, body, scope, cloFrom X.env.cells scope.names [], dV, c'⟩) (t' := tk) (doc := doc) (pm := (X.mg "__name__").getD .none) (ctv := ctv) J rfl
    have kp : ∀ {b o}, H1 b = some o → (upd H1 h'.objs.size (LamO h'.objs.size ⟨X.env.qual ++ "<lambda>", params, body, scope, cloFrom X.env.cells scope.names [], dV, c'⟩)) b = some o := fun e => (upd_ne (ne_of_none e nF)).trans e
    exact h h'.objs.size c' _ _ J2 (fun b o e n => kp (ext1 b o e n)) (tabs1.ext fun b o e => kp e) (I.hok.fresh (Nat.le_trans hge (Nat.le_of_lt hlt))) upd_same (kp atC)
  | some cv =>
    obtain ⟨c', e, hco⟩ := ha pos cv hc
    subst e
    refine PySem.W.kdv_makeTailHit (mg := X.mg) (c := c) (P := P) (ps := ps) (closure_ok hfree) I.ok.glob (I.mod.glob.keeps I.bk) hcode (TB.code.keeps I.bk) gP ht hc bP fun ctv doc h' tk hx hsz => ?_
    have J : Inv X pins σ H { s with heap := h', toks := tk } := I.kept hx
    have nF : H h'.objs.size = none := J.hok.fresh (Nat.le_refl _)
    have J2 := inv_lam (F := ⟨X.env.qual ++ "<lambda>", params, body, scope, cloFrom X.env.cells scope.names [], dV, c'⟩) (t' := tk) (doc := doc) (pm := (X.mg "__name__").getD .none) (ctv := ctv) J rfl
    have kp : ∀ {b o}, H b = some o → (upd H h'.objs.size (LamO h'.objs.size ⟨X.env.qual ++ "<lambda>", params, body, scope, cloFrom X.env.cells scope.names [], dV, c'⟩)) b = some o := fun e => (upd_ne (ne_of_none e nF)).trans e
    exact h h'.objs.size c' _ _ J2 (fun b o e n => kp e) (hT.ext fun b o e => kp e) nF upd_same (kp hco)
end
/-- the value of a lambda -/
def tLamV (T : List (Addr × Str)) (mk : Addr → LF) : TE := fun _ H Q => Tabs T H ∧ ∀ (f c' : Addr) (H1 : Hp), ExtN H H1 → Tabs T H1 → H f = none → H1 f = some (LamO f (mk c')) → H1 c' = some (CodeO c' (mk c').q) → Q (.ref f) H1
/-- the same, one int by default: the tuple of the values is told, too -/
def tLamD (T : List (Addr × Str)) (d : Int) (mk : Addr → Addr → LF) : TE := fun _ H Q => Tabs T H ∧ ∀ (f c' t : Addr) (H1 : Hp), ExtN H H1 → Tabs T H1 → H f = none → H1 t = some (.tup [.int d]) → H1 f = some (LamO f (mk t c')) → H1 c' = some (CodeO c' (mk t c').q) → Q (.ref f) H1
section
variable {X : Cx} {T : List (Addr × Str)} {c P : Addr} {params : Arguments} {body : Expr} {scope : Scope} {pos : Pos}
theorem pe_lam0 (TB : TabB X.base X.mg c P) (hcode : X.env.code = .ref c) (hm : (P, X.env.qual ++ "<lambda>") ∈ T) (hu : ∀ p ∈ T, p.1 = P → p.2 = X.env.qual ++ "<lambda>")
    (hF : ∀ y ∈ scope.names, y.2 = .free → X.env.scope.names.lookup y.1 = some .cell ∨ X.env.scope.names.lookup y.1 = some .free) (hdef : defaultsOf params X.env = ([], [])) :
    PE X (.Lambda params body scope pos) (tLamV T fun c' => ⟨X.env.qual ++ "<lambda>", params, body, scope, cloFrom X.env.cells scope.names [], .none, c'⟩) := by
  refine ⟨fun pins s σ H Q I h => ?_⟩
  obtain ⟨hT, h⟩ := h
  have hfree : ∀ y ∈ scope.names, y.2 = .free → ∃ c, X.env.cells.lookup y.1 = some c := fun y hy e => (hF y hy e).elim (fun z => I.ok.has _ (.inl z)) fun z => I.ok.has _ (.inr z)
  refine PySem.W.kla_eval hdef ?_
  simp only [makeFunction_eq, List.isEmpty_nil, List.filterMap_nil, List.zip_nil_right, pure_bind, if_true]
  exact lam_tail I TB hcode hm hu hT hfree fun f c' H1 s' I1 x1 t1 hf e1 e2 => ⟨.ref f, H1, I1, rfl, h f c' H1 x1 t1 hf e1 e2⟩
theorem pe_lam1 {d : Int} {j : Nat} {dp : Pos} (TB : TabB X.base X.mg c P) (hcode : X.env.code = .ref c) (hm : (P, X.env.qual ++ "<lambda>") ∈ T) (hu : ∀ p ∈ T, p.1 = P → p.2 = X.env.qual ++ "<lambda>")
    (hF : ∀ y ∈ scope.names, y.2 = .free → X.env.scope.names.lookup y.1 = some .cell ∨ X.env.scope.names.lookup y.1 = some .free) (hd : params.defaults = [.Constant (.int d) j dp]) (hk : params.kw_defaults = []) :
    PE X (.Lambda params body scope pos) (tLamD T d fun t c' => ⟨X.env.qual ++ "<lambda>", params, body, scope, cloFrom X.env.cells scope.names [], .ref t, c'⟩) := by
  refine ⟨fun pins s σ H Q I h => ?_⟩
  obtain ⟨hT, h⟩ := h
  have hfree : ∀ y ∈ scope.names, y.2 = .free → ∃ c, X.env.cells.lookup y.1 = some c := fun y hy e => (hF y hy e).elim (fun z => I.ok.has _ (.inl z)) fun z => I.ok.has _ (.inr z)
  refine PySem.W.kdv_lam (by rw [hd]; rfl) hk ?_
  rw [hd]
  refine PySem.W.kdv_all1 (thn ((pe_int (X := X) (i := d) (j := j) (pos := dp)).run pins s σ H (fun v H1 => v = .int d ∧ H1 = H) I ⟨rfl, rfl⟩) fun u s1 ⟨v, H1, I1, rv, e1, e2⟩ => PySem.W.kdv_all0 ?_)
  subst e1
  subst e2
  obtain ⟨tk, rfl⟩ := rv
  simp only [makeFunction_eq, List.isEmpty_nil, List.isEmpty_cons, List.filterMap_nil, List.zip_nil_right, pure_bind, if_true, Bool.false_eq_true, if_false]
  refine wpAny_bind (wpAny_newTextTuple ?_)
  have nt := I1.hok.fresh (Nat.le_refl _)
  have I2 : Inv X pins σ (upd H1 s1.heap.objs.size (.tup [.int d])) { s1 with heap := s1.heap.push { cls := .type "tuple", data := .seq [Value.int d tk].toArray } } :=
    I1.laid (t' := s1.toks) (fun b u e => Heap.get?_push_of_some _ e) (Nat.le_refl _) ⟨by show 1 ≤ sizeLine; decide, [.int d tk], .cons ⟨_, rfl⟩ .nil, ⟨_, Heap.get?_push_size _ rfl, rfl, _, rfl⟩⟩
  have kp : ∀ {b o}, H1 b = some o → (upd H1 s1.heap.objs.size (.tup [.int d])) b = some o := fun e => (upd_ne (ne_of_none e nt)).trans e
  refine lam_tail I2 TB hcode hm hu (hT.ext fun b o e => kp e) hfree fun f c' H3 s' I3 x1 t1 hf e1 e2 => ⟨.ref f, H3, I3, rfl, h f c' s1.heap.objs.size H3 (fun b o e n => x1 b o (kp e) n) t1 ?_ (x1 _ _ upd_same (by intro ps z; cases z)) e1 e2⟩
  unfold upd at hf
  split at hf
  · cases hf
  · exact hf
end
end Rl
/-! A kept lambda is called, in a def that the maker calls. -/
namespace Rl
open PySem PySem.Spec PyProof.Rows L2 LamX
/-- its names: captured ones, globals, parameters that the maker's slots don't name -/
structure LamP (N : List Str) (sc scope : Scope) : Prop where
  kind : scope.kind = .function
  co : scope.isCoroutine = false
  gen : scope.isGenerator = false
  nocell : ∀ y ∈ scope.names, y.2 ≠ .cell
  own : ∀ y ∈ scope.names, y.2 = .local → y.1 ∉ N
  free : ∀ y ∈ scope.names, y.2 = .free → sc.names.lookup y.1 = some .cell ∨ sc.names.lookup y.1 = some .free
def lamPB (N : List Str) (sc scope : Scope) : Bool :=
  decide (scope.kind = .function) && !scope.isCoroutine && !scope.isGenerator && scope.names.all fun y => !decide (y.2 = .cell) && (!decide (y.2 = .local) || !decide (y.1 ∈ N)) && (!decide (y.2 = .free) || (decide (sc.names.lookup y.1 = some .cell) || decide (sc.names.lookup y.1 = some .free)))
theorem lamP_by {N : List Str} {sc scope : Scope} (h : lamPB N sc scope = true) : LamP N sc scope := by
  unfold lamPB at h
  simp only [Bool.and_eq_true, List.all_eq_true, Bool.not_eq_true', Bool.or_eq_true, decide_eq_false_iff_not, decide_eq_true_eq] at h
  obtain ⟨⟨⟨k1, k2⟩, k3⟩, k4⟩ := h
  refine ⟨k1, k2, k3, fun y hy => (k4 y hy).1.1, fun y hy e => ?_, fun y hy e => ?_⟩
  · rcases (k4 y hy).1.2 with z | z
    · exact absurd e z
    · exact z
  · rcases (k4 y hy).2 with z | z
    · exact absurd e z
    · exact z
section
variable {X : Cx} {pins : List (Addr × Obj)} {σ : L2.St} {H HZ : Hp} {s s1 : Shared}
theorem LamP.has {scope : Scope} (L : LamP X.N X.env.scope scope) (ok : X.Ok) : ∀ y ∈ scope.names, y.2 = .free → ∃ c, X.env.cells.lookup y.1 = some c := fun y hy e => (L.free y hy e).elim (fun z => ok.has _ (.inl z)) fun z => ok.has _ (.inr z)
theorem lam_enter {ex : List Addr} {A : Around} {outer : List Env} {E : XK} {scope : Scope} {f c' : Addr} {g : Heap} {tk : Nat} {m1 : Str → Option Value} (I : Inv X pins σ H s) (L : LamP X.N X.env.scope scope) (e0 : Env0 X.prog X.w X.K X.mg X.base A outer s1 HZ) (hd : A.handled = none) (hex : ∀ y d, X.env.cells.lookup y = some d → d ∉ ex)
    (un : Un (frs X.stack) ex H HZ s.heap s1.heap) (hns : g.Ns s1.heap.objs.size m1) (kp : ∀ b o, s1.heap.get? b = some o → g.get? b = some o) :
    Inv (lamCx X A outer s1 HZ E scope f c') [] σ HZ { s1 with heap := g, toks := tk } := by
  have hfree := L.has I.ok
  have back : ∀ {y d}, (cloFrom X.env.cells scope.names []).lookup y = some d → X.env.cells.lookup y = some d := fun {y d} e => NdefX.clo_cm hfree e
  have there : ∀ {y}, scope.names.lookup y = some .free → ∃ d, (cloFrom X.env.cells scope.names []).lookup y = some d := fun {y} hl => mem_lookup (cloFrom_has (cells := X.env.cells) (acc := []) (PySem.mem_of_lookup hl))
  have cellK : ∀ {d : Addr} {v : Option Value}, H d = none → d ∉ ex → s.heap.IsCell d v → g.IsCell d v := fun {d v} n nx z => by
    obtain ⟨o, ho, hv⟩ := z
    obtain ⟨sl, q⟩ := un.any ho n nx
    exact ⟨_, kp _ _ q, hv⟩
  have none1 : ∀ b : Addr, b ∉ (lamCx X A outer s1 HZ E scope f c').ex := fun b z => absurd (show b ∈ ([] : List Addr) from z) (by simp)
  refine ⟨⟨e0.mod, L.kind, rfl, rfl, Nat.le_refl _, fun y z d e1 e2 => I.ok.inj y z d (back e1) (back e2), fun y hy => ?_, fun y d z _ => ?_, fun _ => hd, Around.frames_deeper e0.frames, .inr ⟨rfl, rfl⟩, fun b z => absurd z (none1 b), e0.bs, e0.bsz, fun b _ _ => none1 b, fun b z => absurd z (none1 b), e0.funs, e0.frf⟩,
    rfl, e0.bare, Un.kept kp, ⟨_, hns, fun i y v e1 e2 e3 => ?_⟩, fun y d e => ?_, e0.hok.fresh (Nat.le_refl _), fun y d e => ?_, fun q hq => absurd (show q ∈ ([] : List (Addr × Obj)) ++ [] from hq) (by simp), e0.hok.kept kp, I.len⟩
  · have hy : scope.names.lookup y = some .cell ∨ scope.names.lookup y = some .free := hy
    rcases hy with hy | hy
    · exact absurd rfl (L.nocell _ (PySem.mem_of_lookup hy))
    · exact there hy
  · have z : false = true := z
    cases z
  · have e3 : Vis scope y := e3
    have e1 : X.N[i]? = some y := e1
    rcases e3 with k | k | k
    · exact absurd (List.mem_of_getElem? e1) (L.own _ (PySem.mem_of_lookup k) rfl)
    · exact absurd rfl (L.nocell _ (PySem.mem_of_lookup k))
    · obtain ⟨m, hn, hl⟩ := I.loc
      have vis : Vis X.env.scope y := (L.free _ (PySem.mem_of_lookup k) rfl).elim (fun z => .inr (.inl z)) fun z => .inr (.inr z)
      obtain ⟨w', r, q⟩ := hl i y v e1 e2 vis
      obtain ⟨d, h2⟩ := there k
      refine ⟨w', r, .inr ⟨.inr k, d, h2, ?_⟩⟩
      have h3 := back h2
      rcases q with ⟨k', _⟩ | ⟨_, d3, e', z⟩
      · have k' : X.env.scope.names.lookup y = some .local := k'
        rcases L.free _ (PySem.mem_of_lookup k) rfl with k2 | k2
        · rw [show X.env.scope.names.lookup y = _ from k2] at k'
          cases k'
        · rw [show X.env.scope.names.lookup y = _ from k2] at k'
          cases k'
      · rw [h3] at e'
        cases e'
        exact cellK (I.freeC y _ h3) (hex y _ h3) z
  · obtain ⟨w', z⟩ := I.cell y d (back e)
    exact ⟨w', cellK (I.freeC y d (back e)) (hex y d (back e)) z⟩
  · obtain ⟨v, o, ho, hv⟩ := I.cell y d (back e)
    exact un.free d o ho (I.freeC y d (back e)) (hex y d (back e))
/-- a(), in the def that the maker calls and that got the lambda -/
theorem un_more {fs ex : List Addr} {H H' : Hp} {h h' : Heap} (u : Un fs [] H H' h h') : Un fs ex H H' h h' :=
  ⟨fun b o e n k _ => u.keep b o e n k (by simp), fun b o e n k _ => u.slot b o e n k (by simp), fun b o e n _ => u.free b o e n (by simp), fun b o e _ => u.there b o e (by simp), u.tups, u.frzs, u.tbls⟩
theorem pe_actVB {ex : List Addr} {sC : Shared} {HC : Hp} {CXg : CXT} {Eg : XK} {Ng : List Str} {qg : Str} {sg : Scope} {g f : Addr} {cdg : Value} {k i : Nat} {a : Str} {pn : List (Addr × Obj)} {xe : Value → Shared → Prop} {W : WX} {E : L2.St → XK} {tb : XK → TE} {p1 p2 : Pos} {F : LF} {G : Hp → Prop}
    (I : Inv X pins σ H s) (hex : ∀ y d, X.env.cells.lookup y = some d → d ∉ ex) (unB : Un (frs X.stack) ex H HC s.heap sC.heap) (L : LamP X.N X.env.scope F.scope) (hcl : F.cl = cloFrom X.env.cells F.scope.names []) (hq : F.q = X.env.qual ++ "<lambda>")
    (hbind : ∀ (doc pm ctv : Value) (sZ : Shared) (HZ : Hp), HOk X.prog X.w HZ sZ.heap → G HZ → ∃ binds, BindsTo sZ (PySem.W.kdv_fn "<lambda>" F.q F.params (.expr F.body) F.scope F.cl F.dV doc pm (.ref F.c) ctv) ⟨[], []⟩ binds ∧ ∀ y ∈ binds, F.scope.names.lookup y.1 = some .local)
    (tk : Takes ((cxOf CXg X.prog X.w X.K X.mg X.base Ng qg sg g cdg X.A X.stack sC HC Eg).tr pn xe) W) (hW : ∀ cls d σ' H', E σ' cls d H' → W cls d σ' H') (hr : Room (k + 1) (X.A.deeper (envOfC qg sg sC.heap.objs.size g cdg)))
    (hbody : ∀ (E' : XK) (A : Around) (outer : List Env) (s : Shared) (H : Hp), Room k (A.deeper (lamEnv X F.scope s.heap.objs.size f F.c)) → PE (lamCx X A outer s H E' F.scope f F.c) F.body (tb E'))
    (hN : Ng[i]? = some a) (hv : Vis sg a) (hd : (a == ("__debug__" : Str)) = false := by decide) (hcd : (a == ("__classdict__" : Str)) = false := by decide) :
    PE ((cxOf CXg X.prog X.w X.K X.mg X.base Ng qg sg g cdg X.A X.stack sC HC Eg).tr pn xe) (.Call (.Name a p1) [] [] p2)
      (fun σZ HZ Q => σZ[i]? = some (some (.ref f)) ∧ HZ f = some (LamO f F) ∧ HZ F.c = some (CodeO F.c F.q) ∧ G HZ ∧ tb (E σZ) σ HZ Q) := by
  refine ⟨fun pinsZ sZ σZ HZ Q IZ h => ?_⟩
  obtain ⟨hs, hf, hc, hg, ht⟩ := h
  refine wpAny_Call_Name_kw (thn ((pe_var (pos := p1) (i := i) hN hv hd hcd).run pinsZ sZ σZ HZ (fun v H1 => v = .ref f ∧ H1 = HZ) IZ ⟨.ref f, hs, rfl, rfl⟩) fun u s2 ⟨v, H2, I2, rv, e1, e2⟩ => ?_)
  subst e1
  rw [e2] at I2
  obtain rfl : u = Value.ref f := rv
  obtain ⟨⟨doc, pm, ctv, of1⟩, _, _⟩ := I2.hok f _ hf
  obtain ⟨⟨oc, vs, t, c1, c2, c3⟩, _, _⟩ := I2.hok F.c _ hc
  refine PySem.W.callWith_F0 ⟨_, _, _, _, of1⟩ ?_
  have un : Un (frs X.stack) ex H HZ s.heap s2.heap := unB.trans (un_more I2.base)
  obtain ⟨binds, hbi, hloc⟩ := hbind doc pm ctv s2 HZ I2.hok hg
  have rc : codeAny (model X.prog X.w) (X.A.deeper (envOfC qg sg sC.heap.objs.size g cdg)) (.call (.ref f) ⟨[], []⟩) (CR (L2.CX X.prog X.w) (envOfC qg sg sC.heap.objs.size g cdg :: X.stack) X.prog X.w HZ s2 Q (E σZ)) s2 := by
    refine PySem.W.kla_callFunE hr.depth of1 rfl L.co L.gen rfl ⟨F.c, oc, vs, t, rfl, c1, c2, c3⟩ (hbi _ _ _ _ ?_)
    refine wpAny_newFunctionEnv L.nocell hloc (fun h1 hns hsb => ⟨I2.nolimit.fresh _ hsb, ?_⟩) L.kind
    have ee : PySem.W.envX F.q F.scope s2.heap.objs.size f (.ref F.c) F.cl = lamEnv X F.scope s2.heap.objs.size f F.c := by rw [hq, hcl]
    show codeAny _ _ (.expr F.body (PySem.W.envX F.q F.scope s2.heap.objs.size f (.ref F.c) F.cl)) _ _
    rw [ee]
    have kp : ∀ b o, s2.heap.get? b = some o → h1.get? b = some o := fun b o e => hsb.extBut b o (Nat.ne_of_lt (Heap.lt_size e)) (Heap.get?_push_of_some _ e)
    have J := lam_enter (E := E σZ) (scope := F.scope) (f := f) (c' := F.c) (tk := s2.toks + binds.length) I L I2.env0 hr.hd hex un hns kp
    refine PySem.W.kla_codeExpr (wpAny_mono ((hbody (E σZ) _ _ s2 HZ (hr.deeper _)).run [] _ _ HZ Q J ht) (fun v s' hh => ?_) fun e s' hh => hh)
    obtain ⟨w', H', J', r', q'⟩ := hh
    exact ⟨w', H', J'.os, J'.bare, J'.base, J'.hok, r', q'⟩
  refine wpAny_call (codeAny_mono rc fun r s' hh => ?_)
  cases r with
  | error e => exact tk e s' (XE.of_call I2 (fun cls d H' z => hW cls d σZ H' z) hh)
  | ok fl =>
    cases fl with
    | ret u => exact I2.after hh
    | next => exact hh.elim
    | brk => exact hh.elim
    | cont => exact hh.elim
/-- a(), in the def that the maker calls and that got the lambda -/
theorem pe_actV {CXg : CXT} {Eg : XK} {Ng : List Str} {qg : Str} {sg : Scope} {g f : Addr} {cdg : Value} {k i : Nat} {a : Str} {pn : List (Addr × Obj)} {xe : Value → Shared → Prop} {W : WX} {E : L2.St → XK} {tb : XK → TE} {p1 p2 : Pos} {F : LF} {G : Hp → Prop}
    (I : Inv X pins σ H s) (L : LamP X.N X.env.scope F.scope) (hcl : F.cl = cloFrom X.env.cells F.scope.names []) (hq : F.q = X.env.qual ++ "<lambda>")
    (hbind : ∀ (doc pm ctv : Value) (sZ : Shared) (HZ : Hp), HOk X.prog X.w HZ sZ.heap → G HZ → ∃ binds, BindsTo sZ (PySem.W.kdv_fn "<lambda>" F.q F.params (.expr F.body) F.scope F.cl F.dV doc pm (.ref F.c) ctv) ⟨[], []⟩ binds ∧ ∀ y ∈ binds, F.scope.names.lookup y.1 = some .local)
    (tk : Takes ((cxOf CXg X.prog X.w X.K X.mg X.base Ng qg sg g cdg X.A X.stack s H Eg).tr pn xe) W) (hW : ∀ cls d σ' H', E σ' cls d H' → W cls d σ' H') (hr : Room (k + 1) (X.A.deeper (envOfC qg sg s.heap.objs.size g cdg)))
    (hbody : ∀ (E' : XK) (A : Around) (outer : List Env) (s : Shared) (H : Hp), Room k (A.deeper (lamEnv X F.scope s.heap.objs.size f F.c)) → PE (lamCx X A outer s H E' F.scope f F.c) F.body (tb E'))
    (hN : Ng[i]? = some a) (hv : Vis sg a) (hd : (a == ("__debug__" : Str)) = false := by decide) (hcd : (a == ("__classdict__" : Str)) = false := by decide) :
    PE ((cxOf CXg X.prog X.w X.K X.mg X.base Ng qg sg g cdg X.A X.stack s H Eg).tr pn xe) (.Call (.Name a p1) [] [] p2)
      (fun σZ HZ Q => σZ[i]? = some (some (.ref f)) ∧ HZ f = some (LamO f F) ∧ HZ F.c = some (CodeO F.c F.q) ∧ G HZ ∧ tb (E σZ) σ HZ Q) :=
  pe_actVB (ex := []) I (fun _ _ _ => by simp) Un.refl L hcl hq hbind tk hW hr hbody hN hv hd hcd
end
end Rl
/-! x(e), e a kept lambda, x a def that calls what it gets. -/
namespace Rl
open PySem PySem.Spec PyProof.Rows L2 LamX
/-- the def that calls what it got: a calls it; R: what must be true of the abstract heap at the call; TT: what the def makes of the lambda's reading -/
def GivesV (X : Cx) (Ng : List Str) (x : Str) (sg : Scope) (g : Addr) (cdg : Value) (bg : List Stmt) (a : Str) (TT : (XK → Hp → VK → Prop) → Hp → VK → Prop) : Prop :=
  ∀ (f : Addr) (R : Hp → Prop) (s : Shared) (H : Hp) (Q : VK) (tl : XK → Hp → VK → Prop),
    (∀ (W : WX) (pn : List (Addr × Obj)) (xe : Value → Shared → Prop) (p1 p2 : Pos), Takes ((cxOf C8.CX0 X.prog X.w X.K X.mg X.base Ng x sg g cdg X.A X.stack s H C8.E0).tr pn xe) W →
      PE ((cxOf C8.CX0 X.prog X.w X.K X.mg X.base Ng x sg g cdg X.A X.stack s H C8.E0).tr pn xe) (.Call (.Name a p1) [] [] p2) (fun σZ HZ Q => σZ[0]? = some (some (.ref f)) ∧ R HZ ∧ tl (fun cls d H' => W cls d σZ H') HZ Q)) →
    R H → TT tl H Q →
    ∃ t, PSs (cxOf C8.CX0 X.prog X.w X.K X.mg X.base Ng x sg g cdg X.A X.stack s H C8.E0).nox bg t ∧ t { nx := fun _ H' => Q .non H', rt := Q } (L2.start Ng [.ref f]) H
/-- one of a family of lambdas, all made where X stands -/
structure Fam (X : Cx) (ι : Type) (F : ι → LF) (G : ι → Hp → Prop) : Prop where
  nm : ∀ i, LamP X.N X.env.scope (F i).scope
  cl : ∀ i, (F i).cl = cloFrom X.env.cells (F i).scope.names []
  q : ∀ i, (F i).q = X.env.qual ++ "<lambda>"
  bind : ∀ i (doc pm ctv : Value) (sZ : Shared) (HZ : Hp), HOk X.prog X.w HZ sZ.heap → G i HZ → ∃ binds, BindsTo sZ (PySem.W.kdv_fn "<lambda>" (F i).q (F i).params (.expr (F i).body) (F i).scope (F i).cl (F i).dV doc pm (.ref (F i).c) ctv) ⟨[], []⟩ binds ∧ ∀ y ∈ binds, (F i).scope.names.lookup y.1 = some .local
def tLamC {ι : Type} (F : ι → LF) (G : ι → Hp → Prop) (TT : (XK → Hp → VK → Prop) → Hp → VK → Prop) (ta : TA) (t : ι → XK → TE) : TE := fun σ H Q => ta σ H fun vs H1 => ∃ (f : Addr) (i : ι), vs = [.ref f] ∧ H1 f = some (LamO f (F i)) ∧ H1 (F i).c = some (CodeO (F i).c (F i).q) ∧ G i H1 ∧ TT (fun E H' Q' => t i E σ H' Q') H1 Q
section
variable {X : Cx}
theorem pe_lamcallV {ι : Type} {F : ι → LF} {G : ι → Hp → Prop} {TT : (XK → Hp → VK → Prop) → Hp → VK → Prop} {x a : Str} {g : Addr} {k : Nat} {pg : Arguments} {bg : List Stmt} {sg : Scope} {dV kV doc pm cdv ct oc : Value} {an od : Option Addr} {osl : Array (Option Value)} {Ng : List Str}
    {e : Expr} {ta : TA} {t : ι → XK → TE} {p pos : Pos} (hg : Gl X x) (hm : X.mg x = some (.ref g)) (hk : PySem.W.keepIn X.K (.ref g) = true)
    (lk : X.K.lookup g = some ⟨oc, od, .func (PySem.W.fnOf x x pg bg sg dV kV doc pm an cdv ct), osl⟩) (hcg : PySem.W.codeIn X.K cdv x = true) (hb : L2.Binds X.K (PySem.W.fnOf x x pg bg sg dV kV doc pm an cdv ct) [a] []) (Sg : FnScope Ng [a] sg) (hNg : Ng[0]? = some a) (hva : Vis sg a)
    (hG : GivesV X Ng x sg g cdv bg a TT) (fam : Fam X ι F G) (ha : PA X [e] ta) (hr : Room (k + 2) X.A)
    (hbody : ∀ (i : ι) (A : Around) (outer : List Env) (s : Shared) (H : Hp) (E : XK) (f : Addr), Room k (A.deeper (lamEnv X (F i).scope s.heap.objs.size f (F i).c)) → PE (lamCx X A outer s H E (F i).scope f (F i).c) (F i).body (t i E))
    (hst : starEach [e] X.env = (false, eval e X.env) :: starEach [] X.env := by rfl) (hpl : (backTo pos (starEach ([] : List Expr) X.env)).any (·.1) = false := by rfl)
    (hdb : (x == ("__debug__" : Str)) = false := by decide) (hd : (a == ("__debug__" : Str)) = false := by decide) (hcd : (a == ("__classdict__" : Str)) = false := by decide) :
    PE X (.Call (.Name x p) [e] [] pos) (tLamC F G TT ta t) := by
  refine ⟨fun pins s σ H Q I h => ?_⟩
  refine wpAny_Call_Name_kw (ld_glob I hg hm ?_ hdb)
  refine PySem.W.callWith_K (h₀ := X.base) I.ok.mod.kin hk (thn (ha.run pos pins s σ H _ I h) fun us s1 ⟨vs, H1, I1, r, q⟩ => ⟨I1.kIn, ?_⟩) hst hpl
  obtain ⟨f, i, rfl, e1, e2, e3, q⟩ := q
  rw [Vals.ref1 r]
  have rc : codeAny (model X.prog X.w) X.A (.call (.ref g) ⟨[.ref f], []⟩) (CR C8.CX0 X.stack X.prog X.w H1 s1 Q C8.E0) s1 := by
    refine run_ofS (N := Ng) (ps := [a]) (us := [.ref f]) (vs := [.ref f]) lk hcg Sg hr I1.env0 (hb s1 [.ref f] I1.kIn rfl) (.cons rfl .nil) rfl fun hr2 => ?_
    have go := hG f (fun HZ => HZ f = some (LamO f (F i)) ∧ HZ (F i).c = some (CodeO (F i).c (F i).q) ∧ G i HZ) s1 H1 Q (fun E H' Q' => t i E σ H' Q') (fun W pn xe p1 p2 tk => by
      have act := pe_actV (i := 0) (p1 := p1) (p2 := p2) (E := fun σ' cls d H' => W cls d σ' H') (tb := t i) I1 (fam.nm i) (fam.cl i) (fam.q i) (fam.bind i) tk (fun _ _ _ _ z => z) hr2 (fun E' A outer s H hr3 => hbody i A outer s H E' f hr3) hNg hva hd hcd
      exact ⟨fun pins2 s2 σ2 H2 Q2 I2 ⟨a1, ⟨a2, a3, a4⟩, a5⟩ => act.run pins2 s2 σ2 H2 Q2 I2 ⟨a1, a2, a3, a4, a5⟩⟩) ⟨e1, e2, e3⟩ q
    obtain ⟨t', ht', hq'⟩ := go
    exact ⟨t', ht'.nox, hq'⟩
  refine wpAny_call (codeAny_mono rc fun r s2 hh => ?_)
  cases r with
  | error e => exact (show False from hh).elim
  | ok fl =>
    cases fl with
    | ret u => exact I1.after hh
    | next => exact hh.elim
    | brk => exact hh.elim
    | cont => exact hh.elim
end
end Rl
/-! A comprehension whose element may use what the def's slots held when the block began: kept lambdas are called in it. -/
namespace Rl
open PySem PySem.Spec PyProof.Rows L2 LamX
section
variable {X : Cx}
/-- the block of a comprehension that begins at z -/
abbrev bCx (X : Cx) (z : Shared) (Z : Hp) (sc : Scope) (L : Addr) (cl : List (Str × Addr)) (fp : List Addr) : Cx := X.blk z Z sc (compEnvC sc cl L X.env) fp
/-- the element is read in a block that began where the def's slots are τ -/
def ElB (X : Cx) (τ : L2.St) (sc : Scope) (e : Expr) (te : TE) : Prop :=
  ∀ (pins : List (Addr × Obj)) (z : Shared) (Z : Hp) (L : Addr) (cl : List (Str × Addr)) (fp : List Addr), Inv X pins τ Z z → (∀ b ∈ fp, FpOk X pins Z b) → PE (bCx X z Z sc L cl fp) e te
theorem lcB_loop {pins : List (Addr × Obj)} {τ : L2.St} {Q : VK} {e tg it0 : Expr} {sc : Scope} {own : List (Str × Nat)} {pos : Pos} {g : TG} {te : TE} {R : Result → Shared → Prop} {it D L : Addr} {cl : List (Str × Addr)} {fp : List Addr} {tn : Nat → Heap → Prop} {J : It} {z zs : Shared} {Z : Hp}
    (hc : X.calm = true) (T : Turn X.prog X.w X.K tg J fp it tn) (IZ : Inv X pins τ Z z) (fZ : ∀ b ∈ fp, FpOk X pins Z b) (hL : (compEnvC sc cl L X.env).locals = L) (hLz : z.heap.objs.size ≤ L)
    (pg : PG (bCx X z Z sc L cl fp) tg g) (pe : PE (bCx X z Z sc L cl fp) e te)
    (IS : Inv (bCx X z Z sc L cl fp) [] (wipe τ (own.map (·.2))) Z zs) (tS : tn 0 zs.heap)
    {W : Nat → Nat → Hp → Prop} {m₀ : Nat} (w₀ : W 0 m₀ Z)
    (turn : ∀ i m H, W i m H → (J.stop i H ∧ Q (.ref D) H) ∨ (J.go i H ∧ ∃ Nx : Hp → Prop, (∀ H', Nx H' → ∃ m', m' < m ∧ W (i + 1) m' H') ∧ ∀ x H', J.yld i H x H' → g x (wipe τ (own.map (·.2))) H' fun σ2 H2 => wipe σ2 (own.map (·.2)) = wipe τ (own.map (·.2)) ∧ tYes σ2 H2 fun b H3 =>
      if b = true then te σ2 H3 fun y H4 => ∃ acc, H4 D = some (.lst acc) ∧ acc.length < sizeLine ∧ Nx (upd H4 D (.lst (acc ++ [y]))) else Nx H3))
    (fin : ∀ s' m H', Inv X pins τ H' s' → Q (.ref D) H' → s'.heap.Ns L m → FpOk X pins H' L → R (.ok .next) s') :
    codeAny (model X.prog X.w) X.A (.compLoop (.ListComp e [⟨tg, it0, [], 0⟩] sc pos) 0 (.ref it) (.ref D) (compEnvC sc cl L X.env)) R zs := by
  have ofB : ∀ {σ' : L2.St} {H' : Hp} {s' : Shared}, Inv (bCx X z Z sc L cl fp) [] σ' H' s' → (∀ b ∈ fp, H' b = none) → ∀ b ∈ fp, FpOk (bCx X z Z sc L cl fp) [] H' b := fun {σ' H' s'} J0 nn b hb =>
    ⟨nn b hb, (J0.ok.exf b hb).1, J0.ok.exfs b hb, .inl hb, fun y d k => (J0.ok.exf b hb).2 y d k, fun p hp => by
      have hp : p ∈ ([] : List (Addr × Obj)) ++ [] := hp
      simp at hp⟩
  refine compLoop_any (fun m s' => ∃ i H', Inv (bCx X z Z sc L cl fp) [] (wipe τ (own.map (·.2))) H' s' ∧ tn i s'.heap ∧ (∀ b ∈ fp, H' b = none) ∧ W i m H') ?_ m₀ ⟨0, Z, IS, tS, fun b hb => (fZ b hb).1, w₀⟩
  intro m s1 ⟨i, H1, I1, t1, n1, w1⟩
  cases turn i m H1 w1 with
  | inl hs =>
    refine thnF (T.done (bCx X z Z sc L cl fp) rfl rfl rfl hc i [] s1 _ H1 (fun _ _ => False) I1 (ofB I1 n1) t1 hs.1) fun r s2 hr => ?_
    rw [hr.1]
    have IX : Inv X pins τ H1 s2 := IZ.call' (ch := fp) hr.2.os hr.2.base hr.2.hok hr.2.bare fun b hb => by
      obtain ⟨_, q1, _, q3, q4, q5⟩ := fZ b hb
      exact ⟨q3, q1, q4, q5⟩
    have nL : H1 L = none := by
      have q := hr.2.free
      rw [show (bCx X z Z sc L cl fp).env.locals = L from hL] at q
      exact q
    obtain ⟨mm, hmm, _⟩ := hr.2.loc
    rw [show (bCx X z Z sc L cl fp).env.locals = L from hL] at hmm
    exact fin s2 mm H1 IX hs.2 hmm (IZ.fpOk hLz nL)
  | inr hg =>
    obtain ⟨hgo, Nx, hNx, hstep⟩ := hg
    refine thnF (T.item (bCx X z Z sc L cl fp) rfl rfl rfl hc i [] s1 _ H1 (fun _ _ => False) I1 (ofB I1 n1) t1 hgo) fun r s2 ⟨u, hr, q2⟩ => ?_
    rw [hr]
    refine thnF q2 fun _ s3 ⟨x, H3, I3, r3, y3, t3, n3⟩ => ?_
    refine thnF (pg.run _ s3 _ H3 x u _ (I3.pinned (ofB I3 n3) (T.obj _ _ t3)) r3 (hstep x H3 y3)) fun _ s4 ⟨σ4, H4, I4, hw, q4⟩ => ?_
    refine thnF ((pts_nil (X := bCx X z Z sc L cl fp)).run _ s4 σ4 H4 _ I4 q4) fun b s5 ⟨H5, I5, q5⟩ => ?_
    have back : ∀ {s' : Shared} {H' : Hp}, Inv (bCx X z Z sc L cl fp) ([] ++ pinsAt fp s3.heap) σ4 H' s' → Nx H' → ∃ k, k < m ∧ ∃ i H', Inv (bCx X z Z sc L cl fp) [] (wipe τ (own.map (·.2))) H' s' ∧ tn i s'.heap ∧ (∀ b ∈ fp, H' b = none) ∧ W i k H' := fun {s' H'} JJ nx => by
      obtain ⟨k, hk, wk⟩ := hNx H' nx
      have pn : ∀ b ∈ fp, ∀ o, s3.heap.get? b = some o → s'.heap.get? b = some o ∧ H' b = none := fun b hb o ho => by
        obtain ⟨p1, p2, _⟩ := JJ.pin (b, o) (List.mem_append_right _ (List.mem_append_right _ (mem_pinsAt hb ho)))
        exact ⟨p1, p2⟩
      refine ⟨k, hk, i + 1, H', (JJ.unpinned (pins := [])).weak (by rw [← hw, wipe_length]) (fun j v hj => ?_), T.keep _ _ _ t3 fun b hb o ho => (pn b hb o ho).1, fun b hb => ?_, wk⟩
      · rw [← hw] at hj
        exact (wipe_some hj).1
      · obtain ⟨o, ho, _⟩ := T.obj _ _ t3 b hb
        exact (pn b hb o ho).2
    cases b with
    | false =>
      rw [if_neg Bool.false_ne_true] at q5
      rw [if_neg Bool.false_ne_true]
      exact back I5 q5
    | true =>
      rw [if_pos rfl] at q5
      rw [if_pos rfl]
      refine thnF (pe.run _ s5 σ4 H5 _ I5 q5) fun v s6 ⟨y, H6, I6, r6, acc, hD, hz, nx⟩ => ?_
      exact app_ok (X := bCx X z Z sc L cl fp) I6 hD hz r6 fun s7 I7 => back I7 nx
theorem lcB_core {pins : List (Addr × Obj)} {s : Shared} {τ : L2.St} {H : Hp} {Q : VK} {e tg iter : Expr} {sc : Scope} {own : List (Str × Nat)} {pos pos' : Pos} {wi : TI} {g : TG} {te : TE} {use : Option (Value → Sem Unit)} {Qf : Value → Shared → Prop}
    (hc : X.calm = true) (hN : X.N.Nodup) (I : Inv X pins τ H s) (hi : PI X tg iter wi) (ok : BlkOk X.N X.env.scope sc own)
    (hg : ∀ (z : Shared) (Z : Hp) (L : Addr) (cl : List (Str × Addr)) (fp : List Addr), PG (bCx X z Z sc L cl fp) tg g) (he : ElB X τ sc e te) (hs : ∀ x, foldedSetIterable iter X.env x = pure x)
    (h : tLc wi g tYes te (own.map (·.2)) τ H Q)
    (hR : ∀ D L s' m H', Inv X pins τ H' s' → Q (.ref D) H' → s'.heap.Ns L m → FpOk X pins H' L → compPost (model X.prog X.w) X.A X.xe use Qf (.ref D) L (.ok .next) s') :
    wpAny (model X.prog X.w) X.A (comprehension (.ListComp e [⟨tg, iter, [], 0⟩] sc pos) sc X.env pos' (newList []) false (eval iter X.env) use) Qf X.xe s := by
  have hf : ∀ y ∈ sc.names, y.2 = .free → ∃ d, X.env.cells.lookup y.1 = some d := fun y hy k => (ok.free y hy k).elim (fun q => I.ok.has _ (.inl q)) fun q => I.ok.has _ (.inr q)
  refine wpAny_comprehension_free (use := use) rfl hs (closure_ok hf) ok.kind (fun y hy k => by rw [ok.uniq y hy, k]) ?_
  refine thn (hi.run pins s τ H _ I h) fun _ s1 h1 => thn h1 fun itv s2 h2 => ?_
  obtain ⟨it, fp, tn, J, H2, rfl, I2, T, t2, f2, q⟩ := h2
  refine wpAny_newObj_type (newEnv_comp ?_) (by show 0 ≤ sizeLine; decide)
  have nD : H2 s2.heap.objs.size = none := I2.hok.fresh (Nat.le_refl _)
  obtain ⟨W, ⟨m₀, w₀⟩, turn⟩ := q _ nD
  obtain ⟨D, eD⟩ : ∃ D, D = s2.heap.objs.size := ⟨_, rfl⟩
  have push : ∀ b o, s2.heap.get? b = some o → (s2.heap.push { cls := .type "list", data := .seq ([] : List Value).toArray }).get? b = some o := fun b o k => Heap.get?_push_of_some _ k
  have I3 : Inv X pins τ (upd H2 s2.heap.objs.size (.lst [])) { s2 with heap := s2.heap.push { cls := .type "list", data := .seq ([] : List Value).toArray } } :=
    I2.laid (t' := s2.toks) push (Nat.le_refl _) ⟨Nat.zero_le _, [], 0, .nil, Heap.get?_push_size _ rfl⟩
  have f3 : ∀ b ∈ fp, FpOk X pins (upd H2 s2.heap.objs.size (.lst [])) b ∧ b < (s2.heap.push { cls := .type "list", data := .seq ([] : List Value).toArray }).objs.size := fun b hb => by
    obtain ⟨o, ho, _⟩ := T.obj _ _ t2 b hb
    have lt := Heap.lt_size ho
    refine ⟨⟨?_, (f2 b hb).2⟩, ?_⟩
    · rw [upd_ne (Nat.ne_of_lt lt)]
      exact (f2 b hb).1
    · rw [Heap.size_push]
      exact Nat.lt_succ_of_lt lt
  have IS := block_start I3 ok hN f3
  have t3 := T.keep _ _ (pushCells ((s2.heap.push { cls := .type "list", data := .seq ([] : List Value).toArray }).push { cls := .type "dict", data := .dict #[] }) sc.names) t2 fun b _ o ho => pushCells_keeps _ _ _ _ (Heap.get?_push_of_some _ (push b o ho))
  have go := lcB_loop (own := own) (e := e) (it0 := iter) (pos := pos) (Q := Q) (D := s2.heap.objs.size) (R := compPost (model X.prog X.w) X.A X.xe use Qf (.ref s2.heap.objs.size) (s2.heap.push { cls := .type "list", data := .seq ([] : List Value).toArray }).objs.size) hc T I3 (fun b hb => (f3 b hb).1) rfl (Nat.le_refl _) (hg _ _ _ _ _) (he pins _ _ _ _ _ I3 fun b hb => (f3 b hb).1) IS t3 w₀ turn
    (fun s' m H' I' q' hm hl => hR _ _ s' m H' I' q' hm hl)
  exact codeAny_compStart_list go (T.self X.A 0 _ _ _ t3 go)
/-- as a value -/
theorem pe_lcB {e tg iter : Expr} {sc : Scope} {own : List (Str × Nat)} {pos : Pos} {wi : TI} {g : TG} {te : L2.St → TE} (hc : X.calm = true) (hN : X.N.Nodup) (hi : PI X tg iter wi) (ok : BlkOk X.N X.env.scope sc own)
    (hg : ∀ (z : Shared) (Z : Hp) (L : Addr) (cl : List (Str × Addr)) (fp : List Addr), PG (bCx X z Z sc L cl fp) tg g) (he : ∀ τ, ElB X τ sc e (te τ)) (hs : ∀ x, foldedSetIterable iter X.env x = pure x := by intro _; rfl) :
    PE X (.ListComp e [⟨tg, iter, [], 0⟩] sc pos) (fun σ H Q => tLc wi g tYes (te σ) (own.map (·.2)) σ H Q) := by
  refine ⟨fun pins s σ H Q I h => ?_⟩
  rw [eval_ListComp]
  refine lcB_core hc hN I hi ok hg (he σ) hs h fun D L s' m H' I' q hn f => ⟨m, hn, fun h'' sb => ?_⟩
  obtain ⟨f0, f1, _, f3, f4, f5⟩ := f
  exact ⟨.ref D, H', I'.turned (t' := s'.toks) (fun b o hb k => (sb.2 b hb).trans k) f0 f1 f3 f4 f5, rfl, q⟩
end
end Rl
/-! {e for x in xs}, e an int. -/
namespace Rl
open PySem PySem.Spec PyProof.Rows L2 LamX
section
variable {X : Cx}
/-- {e for x in xs}: D the new set of ints -/
def tScI (w : World) (wi : TI) (g : TG) (te : TE) (vs : List Nat) : TE := fun σ H Q => wi σ H fun J H1 => ∀ D, H1 D = none → ∃ W : Nat → Nat → Hp → Prop, (∃ m, W 0 m (upd H1 D (SetO w D (fun _ => false) 0))) ∧ ∀ i m H, W i m H →
  (J.stop i H ∧ Q (.ref D) H) ∨ (J.go i H ∧ ∃ Nx : Hp → Prop, (∀ H', Nx H' → ∃ m', m' < m ∧ W (i + 1) m' H') ∧ ∀ x H', J.yld i H x H' → g x (wipe σ vs) H' fun σ2 H2 => wipe σ2 vs = wipe σ vs ∧
    te σ2 H2 fun y H4 => ∃ (c : Int) (S : Int → Bool) (n : Nat), y = .int c ∧ H4 D = some (SetO w D S n) ∧ n + 1 < scanBound ∧ Nx (upd H4 D (SetO w D (fun j => S j || decide (j = c)) (if S c = true then n else n + 1))))
theorem setI_add {pins : List (Addr × Obj)} {σ : L2.St} {H : Hp} {s : Shared} {E : Value → Shared → Prop} {D : Addr} {S : Int → Bool} {n : Nat} {y : Int} {tk : Tok} {Q : Value → Shared → Prop} (I : Inv X pins σ H s) (isD : H D = some (SetO X.w D S n)) (room : n + 1 < scanBound)
    (q : ∀ s', Inv X pins σ (upd H D (SetO X.w D (fun j => S j || decide (j = y)) (if S y = true then n else n + 1))) s' → Q .none s') : wpAny (model X.prog X.w) X.A (call (.builtin "set.add") [.ref D, .int y tk]) Q E s := by
  refine setR_add (setO_get I isD) room fun h2 but new => ?_
  obtain ⟨ob, es, ep, t, at2, _⟩ := id new
  exact q _ (I.write (e := D) (t' := s.toks + 1) (by rw [isD]; trivial) (.inl rfl) (fun b u nb hu => (but.2 b nb).trans hu) ⟨ob, at2⟩ (setO_new new))
theorem scI_loop {pins : List (Addr × Obj)} {τ : L2.St} {Q : VK} {e tg it0 : Expr} {sc : Scope} {own : List (Str × Nat)} {pos : Pos} {g : TG} {te : TE} {R : Result → Shared → Prop} {it D L : Addr} {cl : List (Str × Addr)} {fp : List Addr} {tn : Nat → Heap → Prop} {J : It} {z zs : Shared} {Z : Hp}
    (hc : X.calm = true) (T : Turn X.prog X.w X.K tg J fp it tn) (IZ : Inv X pins τ Z z) (fZ : ∀ b ∈ fp, FpOk X pins Z b) (hL : (compEnvC sc cl L X.env).locals = L) (hLz : z.heap.objs.size ≤ L)
    (pg : PG (bCx X z Z sc L cl fp) tg g) (pe : PE (bCx X z Z sc L cl fp) e te)
    (IS : Inv (bCx X z Z sc L cl fp) [] (wipe τ (own.map (·.2))) Z zs) (tS : tn 0 zs.heap)
    {W : Nat → Nat → Hp → Prop} {m₀ : Nat} (w₀ : W 0 m₀ Z)
    (turn : ∀ i m H, W i m H → (J.stop i H ∧ Q (.ref D) H) ∨ (J.go i H ∧ ∃ Nx : Hp → Prop, (∀ H', Nx H' → ∃ m', m' < m ∧ W (i + 1) m' H') ∧ ∀ x H', J.yld i H x H' → g x (wipe τ (own.map (·.2))) H' fun σ2 H2 => wipe σ2 (own.map (·.2)) = wipe τ (own.map (·.2)) ∧
      te σ2 H2 fun y H4 => ∃ (c : Int) (S : Int → Bool) (n : Nat), y = .int c ∧ H4 D = some (SetO X.w D S n) ∧ n + 1 < scanBound ∧ Nx (upd H4 D (SetO X.w D (fun j => S j || decide (j = c)) (if S c = true then n else n + 1)))))
    (fin : ∀ s' m H', Inv X pins τ H' s' → Q (.ref D) H' → s'.heap.Ns L m → FpOk X pins H' L → R (.ok .next) s') :
    codeAny (model X.prog X.w) X.A (.compLoop (.SetComp e [⟨tg, it0, [], 0⟩] sc pos) 0 (.ref it) (.ref D) (compEnvC sc cl L X.env)) R zs := by
  have keepB : ∀ {σ' : L2.St} {H' : Hp} {s' : Shared}, Inv (bCx X z Z sc L cl fp) [] σ' H' s' → (∀ b ∈ fp, H' b = none) → ∀ b ∈ fp, FpOk (bCx X z Z sc L cl fp) [] H' b := fun {σ' H' s'} J0 nn b hb =>
    ⟨nn b hb, (J0.ok.exf b hb).1, J0.ok.exfs b hb, .inl hb, fun y d k => (J0.ok.exf b hb).2 y d k, fun p hp => by
      have hp : p ∈ ([] : List (Addr × Obj)) ++ [] := hp
      simp at hp⟩
  refine PpSet.compLoopS_any (fun m s' => ∃ i H', Inv (bCx X z Z sc L cl fp) [] (wipe τ (own.map (·.2))) H' s' ∧ tn i s'.heap ∧ (∀ b ∈ fp, H' b = none) ∧ W i m H') ?_ m₀ ⟨0, Z, IS, tS, fun b hb => (fZ b hb).1, w₀⟩
  intro m s1 ⟨i, H1, I1, t1, n1, w1⟩
  cases turn i m H1 w1 with
  | inl hs =>
    refine thnF (T.done (bCx X z Z sc L cl fp) rfl rfl rfl hc i [] s1 _ H1 (fun _ _ => False) I1 (keepB I1 n1) t1 hs.1) fun r s2 hr => ?_
    rw [hr.1]
    have IX : Inv X pins τ H1 s2 := IZ.call' (ch := fp) hr.2.os hr.2.base hr.2.hok hr.2.bare fun b hb => by
      obtain ⟨_, q1, _, q3, q4, q5⟩ := fZ b hb
      exact ⟨q3, q1, q4, q5⟩
    have nL : H1 L = none := by
      have q := hr.2.free
      rw [show (bCx X z Z sc L cl fp).env.locals = L from hL] at q
      exact q
    obtain ⟨mm, hmm, _⟩ := hr.2.loc
    rw [show (bCx X z Z sc L cl fp).env.locals = L from hL] at hmm
    exact fin s2 mm H1 IX hs.2 hmm (IZ.fpOk hLz nL)
  | inr hg =>
    obtain ⟨hgo, Nx, hNx, hstep⟩ := hg
    refine thnF (T.item (bCx X z Z sc L cl fp) rfl rfl rfl hc i [] s1 _ H1 (fun _ _ => False) I1 (keepB I1 n1) t1 hgo) fun r s2 ⟨u, hr, q2⟩ => ?_
    rw [hr]
    refine thnF q2 fun _ s3 ⟨x, H3, I3, r3, y3, t3, n3⟩ => ?_
    refine thnF (pg.run _ s3 _ H3 x u _ (I3.pinned (keepB I3 n3) (T.obj _ _ t3)) r3 (hstep x H3 y3)) fun _ s4 ⟨σ4, H4, I4, hw, q4⟩ => ?_
    have q4 : (if true = true then te σ4 H4 fun y H5 => ∃ (c : Int) (S : Int → Bool) (n : Nat), y = .int c ∧ H5 D = some (SetO X.w D S n) ∧ n + 1 < scanBound ∧ Nx (upd H5 D (SetO X.w D (fun j => S j || decide (j = c)) (if S c = true then n else n + 1))) else False) := by
      rw [if_pos rfl]
      exact q4
    refine thnF ((pts_nil (X := bCx X z Z sc L cl fp)).run _ s4 σ4 H4 (fun b H5 => if b = true then te σ4 H5 fun y H6 => ∃ (c : Int) (S : Int → Bool) (n : Nat), y = .int c ∧ H6 D = some (SetO X.w D S n) ∧ n + 1 < scanBound ∧ Nx (upd H6 D (SetO X.w D (fun j => S j || decide (j = c)) (if S c = true then n else n + 1))) else False) I4 q4) fun b s5 ⟨H5, I5, q5⟩ => ?_
    have back : ∀ {s' : Shared} {H' : Hp}, Inv (bCx X z Z sc L cl fp) ([] ++ pinsAt fp s3.heap) σ4 H' s' → Nx H' → ∃ k, k < m ∧ ∃ i H', Inv (bCx X z Z sc L cl fp) [] (wipe τ (own.map (·.2))) H' s' ∧ tn i s'.heap ∧ (∀ b ∈ fp, H' b = none) ∧ W i k H' := fun {s' H'} JJ nx => by
      obtain ⟨k, hk, wk⟩ := hNx H' nx
      have pn : ∀ b ∈ fp, ∀ o, s3.heap.get? b = some o → s'.heap.get? b = some o ∧ H' b = none := fun b hb o ho => by
        obtain ⟨p1, p2, _⟩ := JJ.pin (b, o) (List.mem_append_right _ (List.mem_append_right _ (mem_pinsAt hb ho)))
        exact ⟨p1, p2⟩
      refine ⟨k, hk, i + 1, H', (JJ.unpinned (pins := [])).weak (by rw [← hw, wipe_length]) (fun j v hj => ?_), T.keep _ _ _ t3 fun b hb o ho => (pn b hb o ho).1, fun b hb => ?_, wk⟩
      · rw [← hw] at hj
        exact (wipe_some hj).1
      · obtain ⟨o, ho, _⟩ := T.obj _ _ t3 b hb
        exact (pn b hb o ho).2
    cases b with
    | false => exact absurd q5 (by rw [if_neg Bool.false_ne_true]; exact id)
    | true =>
      rw [if_pos rfl] at q5
      rw [if_pos rfl]
      refine thnF (pe.run _ s5 σ4 H5 _ I5 q5) fun v s6 ⟨y, H6, I6, r6, c, S, n, ey, isD, room, nx⟩ => ?_
      subst ey
      obtain ⟨tk, rfl⟩ := r6
      exact setI_add (X := bCx X z Z sc L cl fp) I6 isD room fun s7 I7 => back I7 nx
theorem scI_core {pins : List (Addr × Obj)} {s : Shared} {τ : L2.St} {H : Hp} {Q : VK} {e tg iter : Expr} {sc : Scope} {own : List (Str × Nat)} {pos pos' : Pos} {wi : TI} {g : TG} {te : TE} {use : Option (Value → Sem Unit)} {Qf : Value → Shared → Prop}
    (hc : X.calm = true) (hN : X.N.Nodup) (I : Inv X pins τ H s) (hi : PI X tg iter wi) (ok : BlkOk X.N X.env.scope sc own)
    (hg : ∀ (z : Shared) (Z : Hp) (L : Addr) (cl : List (Str × Addr)) (fp : List Addr), PG (bCx X z Z sc L cl fp) tg g) (he : ∀ (z : Shared) (Z : Hp) (L : Addr) (cl : List (Str × Addr)) (fp : List Addr), PE (bCx X z Z sc L cl fp) e te) (hs : ∀ x, foldedSetIterable iter X.env x = pure x)
    (h : tScI X.w wi g te (own.map (·.2)) τ H Q)
    (hR : ∀ D L s' m H', Inv X pins τ H' s' → Q (.ref D) H' → s'.heap.Ns L m → FpOk X pins H' L → compPost (model X.prog X.w) X.A X.xe use Qf (.ref D) L (.ok .next) s') :
    wpAny (model X.prog X.w) X.A (comprehension (.SetComp e [⟨tg, iter, [], 0⟩] sc pos) sc X.env pos' (newSet (.type "set")) false (eval iter X.env) use) Qf X.xe s := by
  have hf : ∀ y ∈ sc.names, y.2 = .free → ∃ d, X.env.cells.lookup y.1 = some d := fun y hy k => (ok.free y hy k).elim (fun q => I.ok.has _ (.inl q)) fun q => I.ok.has _ (.inr q)
  refine wpAny_comprehension_free (use := use) rfl hs (closure_ok hf) ok.kind (fun y hy k => by rw [ok.uniq y hy, k]) ?_
  refine thn (hi.run pins s τ H _ I h) fun _ s1 h1 => thn h1 fun itv s2 h2 => ?_
  obtain ⟨it, fp, tn, J, H2, rfl, I2, T, t2, f2, q⟩ := h2
  refine PpSet.newSet_ok (newEnv_comp ?_)
  have nD : H2 s2.heap.objs.size = none := I2.hok.fresh (Nat.le_refl _)
  obtain ⟨W, ⟨m₀, w₀⟩, turn⟩ := q _ nD
  have push : ∀ b o, s2.heap.get? b = some o → (s2.heap.push (Rz.eS X.w)).get? b = some o := fun b o k => Heap.get?_push_of_some _ k
  have I3 : Inv X pins τ (upd H2 s2.heap.objs.size (SetO X.w s2.heap.objs.size (fun _ => false) 0)) { s2 with heap := s2.heap.push (Rz.eS X.w) } :=
    I2.laid (t' := s2.toks) push (Nat.le_refl _) (setO_new (setR_fresh X.w))
  have f3 : ∀ b ∈ fp, FpOk X pins (upd H2 s2.heap.objs.size (SetO X.w s2.heap.objs.size (fun _ => false) 0)) b ∧ b < (s2.heap.push (Rz.eS X.w)).objs.size := fun b hb => by
    obtain ⟨o, ho, _⟩ := T.obj _ _ t2 b hb
    have lt := Heap.lt_size ho
    refine ⟨⟨?_, (f2 b hb).2⟩, ?_⟩
    · rw [upd_ne (Nat.ne_of_lt lt)]
      exact (f2 b hb).1
    · rw [Heap.size_push]
      exact Nat.lt_succ_of_lt lt
  have IS := block_start I3 ok hN f3
  have t3 := T.keep _ _ (pushCells ((s2.heap.push (Rz.eS X.w)).push { cls := .type "dict", data := .dict #[] }) sc.names) t2 fun b _ o ho => pushCells_keeps _ _ _ _ (Heap.get?_push_of_some _ (push b o ho))
  have go := scI_loop (own := own) (e := e) (it0 := iter) (pos := pos) (Q := Q) (D := s2.heap.objs.size) (R := compPost (model X.prog X.w) X.A X.xe use Qf (.ref s2.heap.objs.size) (s2.heap.push (Rz.eS X.w)).objs.size) hc T I3 (fun b hb => (f3 b hb).1) rfl (Nat.le_refl _) (hg _ _ _ _ _) (he _ _ _ _ _) IS t3 w₀ turn
    (fun s' m H' I' q' hm hl => hR _ _ s' m H' I' q' hm hl)
  exact PpSet.codeAny_compStart_set go (T.self X.A 0 _ _ _ t3 go)
/-- as a value -/
theorem pe_scI {e tg iter : Expr} {sc : Scope} {own : List (Str × Nat)} {pos : Pos} {wi : TI} {g : TG} {te : TE} (hc : X.calm = true) (hN : X.N.Nodup) (hi : PI X tg iter wi) (ok : BlkOk X.N X.env.scope sc own)
    (hg : ∀ (z : Shared) (Z : Hp) (L : Addr) (cl : List (Str × Addr)) (fp : List Addr), PG (bCx X z Z sc L cl fp) tg g) (he : ∀ (z : Shared) (Z : Hp) (L : Addr) (cl : List (Str × Addr)) (fp : List Addr), PE (bCx X z Z sc L cl fp) e te) (hs : ∀ x, foldedSetIterable iter X.env x = pure x := by intro _; rfl) :
    PE X (.SetComp e [⟨tg, iter, [], 0⟩] sc pos) (tScI X.w wi g te (own.map (·.2))) := by
  refine ⟨fun pins s σ H Q I h => ?_⟩
  rw [PpSet.eval_SetComp]
  refine scI_core hc hN I hi ok hg he hs h fun D L s' m H' I' q hn f => ⟨m, hn, fun h'' sb => ?_⟩
  obtain ⟨f0, f1, _, f3, f4, f5⟩ := f
  exact ⟨.ref D, H', I'.turned (t' := s'.toks) (fun b o hb k => (sb.2 b hb).trans k) f0 f1 f3 f4 f5, rfl, q⟩
/-- over a list that the block leaves as it is -/
theorem scI_list {w : World} {K : PySem.W.Frag} {a : Addr} {xs : List V} {g : TG} {te : TE} {vs : List Nat} {σ : L2.St} {H1 : Hp} {D : Addr} {Qd : Hp → Prop} (Pv : Nat → Hp → Prop) (start : Pv 0 (upd H1 D (SetO w D (fun _ => false) 0))) (isl : ∀ i H, i ≤ xs.length → Pv i H → SqL K H a xs)
    (step : ∀ i x H, xs[i]? = some x → Pv i H → g x (wipe σ vs) H fun σ2 H2 => wipe σ2 vs = wipe σ vs ∧
      te σ2 H2 fun y H4 => ∃ (c : Int) (S : Int → Bool) (n : Nat), y = .int c ∧ H4 D = some (SetO w D S n) ∧ n + 1 < scanBound ∧ Pv (i + 1) (upd H4 D (SetO w D (fun j => S j || decide (j = c)) (if S c = true then n else n + 1)))) (done : ∀ H, Pv xs.length H → Qd H) :
    ∃ W : Nat → Nat → Hp → Prop, (∃ m, W 0 m (upd H1 D (SetO w D (fun _ => false) 0))) ∧ ∀ i m H, W i m H →
      ((Itl K a).stop i H ∧ Qd H) ∨ ((Itl K a).go i H ∧ ∃ Nx : Hp → Prop, (∀ H', Nx H' → ∃ m', m' < m ∧ W (i + 1) m' H') ∧ ∀ x H', (Itl K a).yld i H x H' → g x (wipe σ vs) H' fun σ2 H2 => wipe σ2 vs = wipe σ vs ∧
        te σ2 H2 fun y H4 => ∃ (c : Int) (S : Int → Bool) (n : Nat), y = .int c ∧ H4 D = some (SetO w D S n) ∧ n + 1 < scanBound ∧ Nx (upd H4 D (SetO w D (fun j => S j || decide (j = c)) (if S c = true then n else n + 1)))) := by
  refine ⟨fun i m H => m = xs.length - i ∧ i ≤ xs.length ∧ Pv i H, ⟨_, rfl, Nat.zero_le _, start⟩, fun i m H ⟨em, le, p⟩ => ?_⟩
  subst em
  have q := isl i H le p
  rcases Nat.lt_or_ge i xs.length with lt | ge
  · refine .inr ⟨⟨xs, xs[i], q, List.getElem?_eq_getElem lt⟩, Pv (i + 1), fun H' p' => ⟨_, by omega, rfl, lt, p'⟩, fun x H' y => ?_⟩
    obtain ⟨ex, y⟩ := y
    subst ex
    exact step i x _ (y xs q) p
  · obtain rfl : i = xs.length := by omega
    exact .inl ⟨⟨xs, q, Nat.le_refl _⟩, done H p⟩
end
end Rl
/-! x, *y = a tuple; o.m( *e), e a list. -/
namespace Rz
open PySem PySem.Spec PyProof.Rows L2
section
variable {P : Program} {w : World} {A : Around} {E : Value → Shared → Prop} {s : Shared}
theorem first_rest {l : Addr} {xs : Array Value} {u : Value} {us : List Value} {Q : List Value → Shared → Prop} (quiet : A.handled = none) (isT : IsTup s.heap l xs) (exs : xs.toList = u :: us) (few : xs.size ≤ 1000)
    (fin : ∀ (h2 : Heap) (tk : Nat), (∀ b o, s.heap.get? b = some o → h2.get? b = some o) → Q [u, .ref h2.objs.size] { s with heap := h2.push { cls := .type "list", data := .seq us.toArray }, toks := tk }) :
    wpAny (model P w) A (unpackItems (.ref l) 2 (some 1)) Q E s := by
  have lt : l < s.heap.objs.size := by
    obtain ⟨o, ho, _⟩ := isT
    exact Heap.lt_size ho
  have ne : l ≠ s.heap.objs.size := Nat.ne_of_lt lt
  have size : xs.size = us.length + 1 := by rw [← Array.length_toList, exs, List.length_cons]
  unfold unpackItems
  refine wpAny_bind ?_
  unfold notIterableAtAll
  refine wpAny_bind (wpAny_specialOf isT.typeIs PyProof.Rows.slot_tuple_iter.lookup (wpAny_pure ?_))
  simp only [Bool.false_eq_true, if_false]
  refine wpAny_bind (wpAny_holding (iter_tuple isT ?_))
  refine wpAny_bind (wpAny_holding (draw_tuple ne 1 0 _ _ ⟨_, Heap.get?_push_size _ rfl, rfl, rfl⟩ (isT.push _) (by omega) fun h1 it1 but => ?_))
  have isT1 : IsTup h1 l xs := (isT.push _).extBut but.extBut ne
  rw [Nat.zero_add] at it1
  obtain ⟨oi, hoi, _⟩ := id it1
  obtain ⟨ol, hol, _⟩ := id isT1
  rw [List.drop_zero]
  have one : (xs.toList.take 1).length = 1 := by rw [exs]; rfl
  rw [if_neg (show ¬ ((xs.toList.take 1).length < 1) by rw [one]; decide)]
  refine wpAny_bind (wpAny_holding (PySem.W.kun_collect (s := { s with heap := h1 }) (T := "tuple_iterator") (.inr (.inr (.inr rfl))) (Walks.tuple (A := A.in1) quiet s.heap.objs.size l ne xs) (fun j v st => st.1.typeIs) (k := 1) (by omega) ⟨it1, isT1⟩ (Heap.lt_size hoi) (Heap.lt_size hol) (fun h2 tk keep => ?_) (by rw [sizeLine_eq]; omega)))
  have tl : xs.toList.drop 1 = us := by rw [exs]; rfl
  have hd : xs.toList.take 1 = [u] := by rw [exs]; rfl
  rw [tl, hd]
  have e2 : us.length - (2 - 1 - 1) = us.length := by omega
  show wpAny _ _ (if us.length < 2 - 1 - 1 then _ else _) _ _ _
  rw [if_neg (by omega)]
  show wpAny _ _ (newList (us.take (us.length - (2 - 1 - 1))) >>= fun d => pure ([u] ++ [d] ++ us.drop (us.length - (2 - 1 - 1)))) _ _ _
  rw [e2, List.take_length, List.drop_length]
  have k1 : ∀ b o, s.heap.get? b = some o → h2.get? b = some o := fun b o hb => keep b o (Nat.ne_of_lt (Heap.lt_size hb)) (but.extBut b o (Nat.ne_of_lt (Heap.lt_size hb)) (Heap.get?_push_of_some _ hb))
  refine wpAny_bind (wpAny_newObj_type (wpAny_pure (fin h2 tk k1)) ?_)
  show us.length ≤ sizeLine
  rw [sizeLine_eq]
  omega
end
section
variable {X : Cx}
/-- x, *y = a tuple of at least one item -/
def gStar1 (K : PySem.W.Frag) (t1 t2 : TG) : TG := fun v σ H Q => ∃ (a : Addr) (x : V) (xs : List V), v = .ref a ∧ SqT K H a (x :: xs) ∧ xs.length < 900 ∧ ∀ D, H D = none → t1 x σ (upd H D (.lst xs)) fun σ2 H2 => t2 (.ref D) σ2 H2 Q
theorem pg_star1 {e1 e2 : Expr} {k : Nat} {pos : Pos} {t1 t2 : TG} (hc : X.calm = true) (h1 : PG X e1 t1) (h2 : PG X e2 t2) {q : Pos}
    (hn : (assignEach [e1, .Starred e2 q] X.env).length = 2 := by rfl) (hst : (assignEach [e1, .Starred e2 q] X.env).findIdx? (·.1) = some 1 := by rfl)
    (ha : (assignEach [e1, .Starred e2 q] X.env).map (·.2) = [assign e1 X.env, assign e2 X.env] := by rfl) : PG X (.Tuple [e1, .Starred e2 q] k pos) (gStar1 X.K t1 t2) := by
  refine ⟨fun pins s σ H v u Q I r hw => ?_⟩
  obtain ⟨a, x, xs, rfl, hq, few, hw⟩ := hw
  cases r
  obtain ⟨its, rv, isT, hz⟩ := I.tuple hq
  cases rv with
  | cons rx rr =>
    rename_i ux us
    rw [arm_assign_Tuple]
    refine wpAny_bind (wpAny_standAt ?_)
    unfold unpack
    rw [hn, hst, ha]
    have lenr := rr.length
    refine wpAny_bind (wpAny_holding (first_rest (u := ux) (us := us) (I.ok.hd hc) isT (by simp) (by simp; omega) fun h' tk keep => ?_))
    have I0 : Inv X pins σ H { s with heap := h', toks := tk } := I.kept (t' := tk) keep
    have I1 : Inv X pins σ (upd H h'.objs.size (.lst xs)) { s with heap := h'.push { cls := .type "list", data := .seq us.toArray }, toks := tk } := I0.laid (t' := tk) (fun b o z => Heap.get?_push_of_some _ z) (Nat.le_refl _) ⟨by rw [sizeLine_eq]; omega, us, 0, rr, Heap.get?_push_size _ rfl⟩
    refine assignInOrder_cons (thn (h1.run pins _ σ _ x ux _ I1 rx (hw _ (I0.hok.fresh (Nat.le_refl _)))) fun _ s2 ⟨σ2, H2, I2, q2⟩ => ?_)
    exact assignInOrder_cons (thn (h2.run pins s2 σ2 H2 (.ref h'.objs.size) (.ref h'.objs.size) _ I2 rfl q2) fun _ s3 q3 => assignInOrder_nil q3)
/-- o.m( *e), e a list -/
def tMethSL (K : PySem.W.Frag) (C : Addr) (m : Str) (g : Addr) (sp : Sp) (E : XK) (ta te : TE) : TE := fun σ H Q => ta σ H fun x H1 => ∃ a dx fs, x = .ref a ∧ H1 a = some (.ins C dx fs) ∧ fs.lookup m = none ∧
  ∀ q, H1 q = none → te σ (upd H1 q (.met g a)) fun y H2 => ∃ b vs, y = .ref b ∧ SqL K H2 b vs ∧ H2 q = some (.met g a) ∧ sp (.ref a :: vs) H2 Q E
theorem pe_methSL {CX : CXT} {k : Nat} {C g : Addr} {m : Str} {sp : Sp} {E : XK} {o e : Expr} {ta te : TE} {p apos pos : Pos} (ho : PE X o ta) (c : Cls X.K C) (b : BMeth X.K C m g) (F : FnR X.prog X.w X.K X.mg X.base CX k g sp) (hr : Room k X.A)
    (hx : Passes CX X E) (he : PE X e te) (hb : attributeBase o m X.env (eval o X.env) = eval o X.env := by rfl) : PE X (.Call (.Attribute o m apos) [.Starred e p] [] pos) (tMethSL X.K C m g sp E ta te) := by
  refine ⟨fun pins s σ H Q I h => starcall_of hb (thn (ho.run pins s σ H _ I h) fun u s1 hu => ?_)⟩
  obtain ⟨x, H1, I1, rx, a, dx, fs, rfl, at1, l, q⟩ := hu
  obtain rfl : u = Value.ref a := rx
  refine getbound_ok I1 at1 c b l fun mt s2 fresh I2 => ?_
  refine PySem.W.ks_call (P := PySem.W.MethP X.K mt g (.ref a)) rfl (PySem.W.keeps_M b.fi) (PySem.W.ks_lone ?_)
  refine thn (he.run pins s2 σ _ _ I2 (q mt fresh)) fun v s3 hv => ?_
  obtain ⟨y, H2, I3, ry, t, vs, rfl, ht, hm, call⟩ := hv
  obtain rfl : v = Value.ref t := ry
  refine StX.star_lst I3 ht fun us s4 I4 rv => ⟨met_P I4 hm, ?_⟩
  refine wpAny_call (PySem.W.method_call (met_P I4 hm).1 ?_)
  exact run_fnR (us := Value.ref a :: us) (vs := V.ref a :: vs) F hr hx I4 (.cons rfl rv) call
end
end Rz
/-! The mathematics of a ring: the ends as the greatest sum over chains, Bellman's equation, where ends repeat. -/
namespace Rm
/-- f r + f (r - 1) + .. , k terms -/
def sumBack (f : Int → Int) (r : Int) : Nat → Int
  | 0 => 0
  | k + 1 => sumBack f r k + f (r - k)
/-- the greatest of f r .. f (r - k) -/
def maxBack (f : Int → Int) (r : Int) : Nat → Int
  | 0 => f r
  | k + 1 => max (maxBack f r k) (f (r - (k + 1 : Nat)))
theorem sum_front (f : Int → Int) : ∀ (k : Nat) (r : Int), sumBack f r (k + 1) = f r + sumBack f (r - 1) k
  | 0, r => by simp [sumBack]
  | k + 1, r => by
    show sumBack f r (k + 1) + f (r - (k + 1 : Nat)) = f r + (sumBack f (r - 1) k + f (r - 1 - k))
    rw [sum_front f k r, show r - ((k + 1 : Nat) : Int) = r - 1 - k by omega]
    omega
theorem max_front (f : Int → Int) : ∀ (k : Nat) (r : Int), maxBack f r (k + 1) = max (f r) (maxBack f (r - 1) k)
  | 0, r => by simp [maxBack]
  | k + 1, r => by
    show max (maxBack f r (k + 1)) (f (r - (k + 1 + 1 : Nat))) = max (f r) (max (maxBack f (r - 1) k) (f (r - 1 - (k + 1 : Nat))))
    rw [max_front f k r, show r - ((k + 1 + 1 : Nat) : Int) = r - 1 - (k + 1 : Nat) by omega]
    omega
theorem sum_add (f : Int → Int) (r : Int) (k : Nat) : ∀ n : Nat, sumBack f r (k + n) = sumBack f r k + sumBack f (r - k) n
  | 0 => by simp [sumBack]
  | n + 1 => by
    show sumBack f r (k + n) + f (r - (k + n : Nat)) = sumBack f r k + (sumBack f (r - k) n + f (r - k - n))
    rw [sum_add f r k n, show r - ((k + n : Nat) : Int) = r - k - n by omega]
    omega
theorem sum_mono {f : Int → Int} (h : ∀ i, 0 ≤ f i) (r : Int) {j k : Nat} (hjk : j ≤ k) : sumBack f r j ≤ sumBack f r k := by
  induction k with
  | zero =>
    have : j = 0 := by omega
    subst this
    exact Int.le_refl _
  | succ k ih =>
    by_cases e : j = k + 1
    · subst e
      exact Int.le_refl _
    · have := ih (by omega)
      have h2 := h (r - k)
      show sumBack f r j ≤ sumBack f r k + f (r - k)
      omega
theorem sum_nn {f : Int → Int} (h : ∀ i, 0 ≤ f i) (r : Int) (k : Nat) : 0 ≤ sumBack f r k := sum_mono h r (Nat.zero_le k)
theorem max_ge {f : Int → Int} (r : Int) : ∀ {j k : Nat}, j ≤ k → f (r - j) ≤ maxBack f r k
  | j, 0, h => by
    have : j = 0 := by omega
    subst this
    simp [maxBack]
  | j, k + 1, h => by
    show f (r - j) ≤ max (maxBack f r k) (f (r - (k + 1 : Nat)))
    by_cases e : j = k + 1
    · subst e
      omega
    · have := max_ge (f := f) r (j := j) (k := k) (by omega)
      omega
theorem max_le {f : Int → Int} {M : Int} (h : ∀ i, f i ≤ M) (r : Int) : ∀ k : Nat, maxBack f r k ≤ M
  | 0 => h r
  | k + 1 => by
    have h1 := max_le h r k
    have h2 := h (r - (k + 1 : Nat))
    show max (maxBack f r k) (f (r - (k + 1 : Nat))) ≤ M
    omega
theorem max_mono {f : Int → Int} (r : Int) {j k : Nat} (h : j ≤ k) : maxBack f r j ≤ maxBack f r k := by
  induction k with
  | zero =>
    have : j = 0 := by omega
    subst this
    exact Int.le_refl _
  | succ k ih =>
    by_cases e : j = k + 1
    · subst e
      exact Int.le_refl _
    · have := ih (by omega)
      show maxBack f r j ≤ max (maxBack f r k) (f (r - (k + 1 : Nat)))
      omega

/-- readers in a ring: days, books at first, all books, all days, the slowest -/
structure Ring (N : Nat) (d s : Int → Int) (B T M : Int) : Prop where
  pos : 0 < N
  dper : ∀ i t : Int, d (i + N * t) = d i
  sper : ∀ i t : Int, s (i + N * t) = s i
  d1 : ∀ i, 1 ≤ d i
  s0 : ∀ i, 0 ≤ s i
  b : ∀ r, sumBack s r N = B
  b1 : 1 ≤ B
  t : ∀ r, sumBack d r N = T
  mu : ∀ i, d i ≤ M
  ma : ∃ i, d i = M

/-- the sum of the chain from reading x of reader r that goes k readers back -/
def ch (d s : Int → Int) (r : Int) (k : Nat) (x : Int) : Int := sumBack d r (k + 1) + (x - sumBack s r k) * maxBack d r k
/-- e is the greatest of them -/
def IsEnd (d s : Int → Int) (r x e : Int) : Prop := (∀ k, sumBack s r k ≤ x → ch d s r k x ≤ e) ∧ ∃ k, sumBack s r k ≤ x ∧ ch d s r k x = e
theorem IsEnd.inj {d s : Int → Int} {r x e e' : Int} (h : IsEnd d s r x e) (h' : IsEnd d s r x e') : e = e' := by
  obtain ⟨k, h1, h2⟩ := h.2
  obtain ⟨k', h1', h2'⟩ := h'.2
  have := h.1 k' h1'
  have := h'.1 k h1
  omega

section
variable {N : Nat} {d s : Int → Int} {B T M : Int} (R : Ring N d s B T M)
include R
theorem Ring.sumS (r : Int) (k : Nat) : ∀ m : Nat, sumBack s r (k + m * N) = sumBack s r k + m * B
  | 0 => by simp
  | m + 1 => by
    rw [show k + (m + 1) * N = k + m * N + N by rw [Nat.add_mul, Nat.one_mul, Nat.add_assoc], sum_add, Ring.sumS r k m, R.b, show ((m + 1 : Nat) : Int) = (m : Int) + 1 by omega, Int.add_mul]
    omega
theorem Ring.sumD (r : Int) (k : Nat) : ∀ m : Nat, sumBack d r (k + m * N) = sumBack d r k + m * T
  | 0 => by simp
  | m + 1 => by
    rw [show k + (m + 1) * N = k + m * N + N by rw [Nat.add_mul, Nat.one_mul, Nat.add_assoc], sum_add, Ring.sumD r k m, R.t, show ((m + 1 : Nat) : Int) = (m : Int) + 1 by omega, Int.add_mul]
    omega
theorem Ring.maxM (r : Int) {k : Nat} (h : N ≤ k + 1) : maxBack d r k = M := by
  obtain ⟨i, hi⟩ := R.ma
  have hN := R.pos
  have h0 : 0 ≤ (r - i) % (N : Int) := Int.emod_nonneg _ (by omega)
  have h1 : (r - i) % (N : Int) < N := Int.emod_lt_of_pos _ (by omega)
  have e : r - (((r - i) % (N : Int)).toNat : Nat) = i + N * ((r - i) / (N : Int)) := by
    have := Int.emod_add_mul_ediv (r - i) (N : Int)
    omega
  have h2 := max_ge (f := d) r (j := ((r - i) % (N : Int)).toNat) (k := k) (by omega)
  rw [e, R.dper, hi] at h2
  have h3 := max_le R.mu r k
  omega
theorem Ring.M1 : 1 ≤ M := by
  obtain ⟨i, hi⟩ := R.ma
  have := R.d1 i
  omega
theorem Ring.round (r x : Int) (k : Nat) {m : Nat} (hm : 1 ≤ m) : ch d s r (k + m * N) x = sumBack d r (k + 1) + (x - sumBack s r k) * M + m * (T - B * M) := by
  unfold ch
  have e1 : sumBack d r (k + m * N + 1) = sumBack d r (k + 1) + m * T := by
    rw [show k + m * N + 1 = k + 1 + m * N by omega, R.sumD]
  have e2 : N ≤ k + m * N + 1 := by
    have : 1 * N ≤ m * N := Nat.mul_le_mul_right N hm
    omega
  rw [e1, R.sumS, R.maxM r e2]
  have e3 : (x - (sumBack s r k + m * B)) * M = (x - sumBack s r k) * M - m * (B * M) := by
    rw [show x - (sumBack s r k + m * B) = (x - sumBack s r k) - m * B by omega, Int.sub_mul, Int.mul_assoc]
  rw [e3, Int.mul_sub]
  omega
end

/-- what the loop over the first i readers back has found -/
def Sofar (N : Nat) (d s : Int → Int) (r x : Int) (i : Nat) (L : Int) : Prop :=
  (∀ j m : Nat, j < i → sumBack s r (j + m * N) ≤ x → ch d s r (j + m * N) x ≤ L) ∧ ((i = 0 ∧ L = 0) ∨ ∃ k, sumBack s r k ≤ x ∧ ch d s r k x = L)
section
variable {N : Nat} {d s : Int → Int} {B T M : Int} (R : Ring N d s B T M)
include R
theorem Ring.ch_pos (r x : Int) (k : Nat) (h : sumBack s r k ≤ x) : 1 ≤ ch d s r k x := by
  unfold ch
  have h1 : d (r - k) ≤ sumBack d r (k + 1) := by
    have := sum_nn (f := d) (fun i => by have := R.d1 i; omega) r k
    show d (r - k) ≤ sumBack d r k + d (r - k)
    omega
  have h2 := R.d1 (r - k)
  have h3 : 0 ≤ maxBack d r k := by
    have := max_ge (f := d) r (j := 0) (k := k) (Nat.zero_le _)
    have := R.d1 (r - (0 : Nat))
    omega
  have h4 := Int.mul_nonneg (show 0 ≤ x - sumBack s r k by omega) h3
  omega
theorem Ring.step {r x L : Int} {i : Nat} (P : Sofar N d s r x i L) (hl : sumBack s r i ≤ x) {L2 : Int}
    (h2 : L2 = if B ≤ x - sumBack s r i then max (max L (ch d s r i x)) (sumBack d r (i + 1) + (x - sumBack s r i) * M + (if 0 < T - B * M then (x - sumBack s r i) / B else 1) * (T - B * M)) else max L (ch d s r i x)) :
    Sofar N d s r x (i + 1) L2 := by
  have P1 := P.1
  have hB := R.b1
  have hge : max L (ch d s r i x) ≤ L2 := by
    rw [h2]
    split <;> omega
  have key : ∀ m : Nat, 1 ≤ m → sumBack s r (i + m * N) ≤ x → ch d s r (i + m * N) x ≤ L2 := by
    intro m hm hv
    rw [R.round r x i hm]
    rw [R.sumS] at hv
    have hmB : (1 : Int) * B ≤ m * B := Int.mul_le_mul_of_nonneg_right (by omega) (by omega)
    have hBl : B ≤ x - sumBack s r i := by omega
    rw [if_pos hBl] at h2
    have hc : (m : Int) * (T - B * M) ≤ (if 0 < T - B * M then (x - sumBack s r i) / B else 1) * (T - B * M) := by
      split
      · rename_i hg
        refine Int.mul_le_mul_of_nonneg_right ?_ (by omega)
        exact (Int.le_ediv_iff_mul_le (by omega)).mpr (by omega)
      · rename_i hg
        have h5 : (0 : Int) ≤ ((m : Int) - 1) * (-(T - B * M)) := Int.mul_nonneg (by omega) (by omega)
        rw [Int.sub_mul, Int.mul_neg] at h5
        omega
    omega
  refine ⟨fun j m hj hv => ?_, ?_⟩
  · by_cases e : j = i
    · subst e
      cases m with
      | zero =>
        have e0 : j + 0 * N = j := by omega
        rw [e0]
        omega
      | succ m => exact key (m + 1) (by omega) hv
    · have := P1 j m (by omega) hv
      omega
  · right
    have hcp := R.ch_pos r x i hl
    have hL : ∃ k, sumBack s r k ≤ x ∧ ch d s r k x = max L (ch d s r i x) := by
      rcases P.2 with ⟨h0, hL0⟩ | ⟨k, hk, hk2⟩
      · exact ⟨i, hl, by omega⟩
      · by_cases hh : ch d s r i x ≤ L
        · exact ⟨k, hk, by omega⟩
        · exact ⟨i, hl, by omega⟩
    by_cases hBl : B ≤ x - sumBack s r i
    · rw [if_pos hBl] at h2
      -- the candidate of whole rounds is a chain too
      have hcand : ∃ k, sumBack s r k ≤ x ∧ ch d s r k x = sumBack d r (i + 1) + (x - sumBack s r i) * M + (if 0 < T - B * M then (x - sumBack s r i) / B else 1) * (T - B * M) := by
        by_cases hg : 0 < T - B * M
        · rw [if_pos hg]
          have hq1 : 1 ≤ (x - sumBack s r i) / B := (Int.le_ediv_iff_mul_le (by omega)).mpr (by omega)
          have hq2 : (x - sumBack s r i) / B * B ≤ x - sumBack s r i := Int.ediv_mul_le _ (by omega)
          have hqn : ((((x - sumBack s r i) / B).toNat : Nat) : Int) = (x - sumBack s r i) / B := by omega
          refine ⟨i + ((x - sumBack s r i) / B).toNat * N, ?_, ?_⟩
          · rw [R.sumS, hqn]
            omega
          · rw [R.round r x i (by omega), hqn]
        · rw [if_neg hg]
          refine ⟨i + 1 * N, ?_, ?_⟩
          · rw [R.sumS]
            omega
          · rw [R.round r x i (by omega)]
            simp
      obtain ⟨k1, a1, a2⟩ := hL
      obtain ⟨k2, c1, c2⟩ := hcand
      by_cases hh : max L (ch d s r i x) ≤ sumBack d r (i + 1) + (x - sumBack s r i) * M + (if 0 < T - B * M then (x - sumBack s r i) / B else 1) * (T - B * M)
      · exact ⟨k2, c1, by rw [c2, h2]; omega⟩
      · exact ⟨k1, a1, by rw [a2, h2]; omega⟩
    · rw [if_neg hBl] at h2
      rw [h2]
      exact hL
theorem Ring.fin {r x L : Int} {i : Nat} (P : Sofar N d s r x i L) (hi : i = N ∨ (0 < i ∧ x < sumBack s r i)) : IsEnd d s r x L := by
  have P1 := P.1
  have hN := R.pos
  refine ⟨fun k hk => ?_, ?_⟩
  · have ek : k = k % N + k / N * N := by
      have := Nat.mod_add_div k N
      rw [Nat.mul_comm] at this
      exact this.symm
    rw [ek] at hk ⊢
    refine P1 _ _ ?_ hk
    rcases hi with hi | ⟨_, hi⟩
    · rw [hi]
      exact Nat.mod_lt _ hN
    · rcases Nat.lt_or_ge (k % N) i with h | h
      · exact h
      · have := sum_mono R.s0 r h
        have h2 := R.sumS r (k % N) (k / N)
        have h3 : (0 : Int) ≤ ((k / N : Nat) : Int) * B := Int.mul_nonneg (Int.natCast_nonneg _) (by have := R.b1; omega)
        omega
  · rcases P.2 with ⟨h0, _⟩ | h
    · rcases hi with hi | ⟨hi, _⟩ <;> omega
    · exact h
theorem Ring.sofar0 (r x : Int) : Sofar N d s r x 0 0 := ⟨fun _ _ h => absurd h (Nat.not_lt_zero _), .inl ⟨rfl, rfl⟩⟩
theorem Ring.ends (r : Int) {x : Int} (hx : 0 ≤ x) : ∃ e, IsEnd d s r x e := by
  have go : ∀ n i L, i + n = N → sumBack s r i ≤ x → Sofar N d s r x i L → ∃ e, IsEnd d s r x e := by
    intro n
    induction n with
    | zero =>
      intro i L hi _ P
      exact ⟨L, R.fin P (.inl (by omega))⟩
    | succ n ih =>
      intro i L hi hl P
      have P' := R.step P hl rfl
      by_cases h : sumBack s r (i + 1) ≤ x
      · exact ih (i + 1) _ (by omega) h P'
      · exact ⟨_, R.fin P' (.inr ⟨by omega, by omega⟩)⟩
  exact go N 0 0 (by omega) (by show (0 : Int) ≤ x; exact hx) (R.sofar0 r x)
end
/-- the day on which reading x of reader r ends -/
noncomputable def E (d s : Int → Int) (r x : Int) : Int := open Classical in if h : ∃ e, IsEnd d s r x e then Classical.choose h else 0
section
variable {N : Nat} {d s : Int → Int} {B T M : Int} (R : Ring N d s B T M)
include R
theorem Ring.isE (r : Int) {x : Int} (hx : 0 ≤ x) : IsEnd d s r x (E d s r x) := by
  have h := R.ends r hx
  unfold E
  rw [dif_pos h]
  exact Classical.choose_spec h
theorem Ring.E_of {r x e : Int} (h : IsEnd d s r x e) : E d s r x = e := by
  have h' : ∃ e, IsEnd d s r x e := ⟨e, h⟩
  unfold E
  rw [dif_pos h']
  exact (Classical.choose_spec h').inj h
theorem Ring.E_per (r x t : Int) : E d s (r + N * t) x = E d s r x := by
  have hs : ∀ k, sumBack s (r + N * t) k = sumBack s r k := by
    intro k
    induction k with
    | zero => rfl
    | succ k ih =>
      show sumBack s (r + N * t) k + s (r + N * t - k) = sumBack s r k + s (r - k)
      rw [ih, show r + N * t - k = (r - k) + N * t by omega, R.sper]
  have hd : ∀ k, sumBack d (r + N * t) k = sumBack d r k := by
    intro k
    induction k with
    | zero => rfl
    | succ k ih =>
      show sumBack d (r + N * t) k + d (r + N * t - k) = sumBack d r k + d (r - k)
      rw [ih, show r + N * t - k = (r - k) + N * t by omega, R.dper]
  have hm : ∀ k, maxBack d (r + N * t) k = maxBack d r k := by
    intro k
    induction k with
    | zero => exact R.dper r t
    | succ k ih =>
      show max (maxBack d (r + N * t) k) (d (r + N * t - (k + 1 : Nat))) = max (maxBack d r k) (d (r - (k + 1 : Nat)))
      rw [ih, show r + N * t - ((k + 1 : Nat) : Int) = (r - (k + 1 : Nat)) + N * t by omega, R.dper]
  have he : IsEnd d s (r + N * t) x = IsEnd d s r x := by
    funext e
    unfold IsEnd ch
    simp only [hs, hd, hm]
  unfold E
  rw [he]
theorem Ring.E_mod (r x : Int) : E d s (r % N) x = E d s r x := by
  have h := R.E_per (r % N) x (r / N)
  rw [Int.emod_add_mul_ediv] at h
  exact h.symm
theorem Ring.ub (r : Int) {x : Int} (hx : 0 ≤ x) (k : Nat) (h : sumBack s r k ≤ x) : ch d s r k x ≤ E d s r x := (R.isE r hx).1 k h
theorem Ring.att (r : Int) {x : Int} (hx : 0 ≤ x) : ∃ k, sumBack s r k ≤ x ∧ ch d s r k x = E d s r x := (R.isE r hx).2
theorem Ring.low (r : Int) {x : Int} (hx : 0 ≤ x) : (x + 1) * d r ≤ E d s r x := by
  have h := R.ub r hx 0 hx
  have e : ch d s r 0 x = (x + 1) * d r := by
    unfold ch
    show 0 + d (r - (0 : Nat)) + (x - 0) * d r = _
    rw [show r - ((0 : Nat) : Int) = r by omega, Int.add_mul]
    simp
    omega
  omega
theorem Ring.E1 (r : Int) {x : Int} (hx : 0 ≤ x) : d r ≤ E d s r x := by
  have h := R.low r hx
  have h2 : (0 : Int) ≤ x * d r := Int.mul_nonneg hx (by have := R.d1 r; omega)
  rw [Int.add_mul] at h
  omega
/-- Bellman, from below -/
theorem Ring.next (r : Int) {x : Int} (hx : 0 ≤ x) : E d s r x + d r ≤ E d s r (x + 1) := by
  obtain ⟨k, hk, e⟩ := R.att r hx
  have h := R.ub r (x := x + 1) (by omega) k (by omega)
  have h2 := max_ge (f := d) r (j := 0) (k := k) (Nat.zero_le _)
  rw [show r - ((0 : Nat) : Int) = r by omega] at h2
  unfold ch at h e
  have e3 : (x + 1 - sumBack s r k) * maxBack d r k = (x - sumBack s r k) * maxBack d r k + maxBack d r k := by
    rw [show x + 1 - sumBack s r k = (x - sumBack s r k) + 1 by omega, Int.add_mul]
    omega
  omega
theorem Ring.from (r : Int) {x : Int} (hs : s r ≤ x) : E d s (r - 1) (x - s r) + d r ≤ E d s r x := by
  have hx : 0 ≤ x - s r := by omega
  have hx0 : 0 ≤ x := by have := R.s0 r; omega
  obtain ⟨k, hk, e⟩ := R.att (r - 1) hx
  have hS : sumBack s r (k + 1) = s r + sumBack s (r - 1) k := sum_front s k r
  have h := R.ub r hx0 (k + 1) (by omega)
  unfold ch at h e
  rw [sum_front d (k + 1) r, hS, max_front d k r] at h
  have e2 : x - (s r + sumBack s (r - 1) k) = x - s r - sumBack s (r - 1) k := by omega
  rw [e2] at h
  have h4 : (x - s r - sumBack s (r - 1) k) * maxBack d (r - 1) k ≤ (x - s r - sumBack s (r - 1) k) * max (d r) (maxBack d (r - 1) k) :=
    Int.mul_le_mul_of_nonneg_left (by omega) (by omega)
  omega
/-- .. from above -/
theorem Ring.bell (r : Int) {x : Int} (hx : 0 ≤ x) : E d s r x = d r ∨ (1 ≤ x ∧ E d s r x = E d s r (x - 1) + d r) ∨ (s r ≤ x ∧ E d s r x = E d s (r - 1) (x - s r) + d r) := by
  obtain ⟨k, hk, e⟩ := R.att r hx
  cases k with
  | zero =>
    have e0 : ch d s r 0 x = d r + x * d r := by
      unfold ch
      show 0 + d (r - (0 : Nat)) + (x - 0) * d r = _
      rw [show r - ((0 : Nat) : Int) = r by omega]
      simp
    by_cases h0 : x = 0
    · left
      subst h0
      simp at e0
      omega
    · right; left
      refine ⟨by omega, ?_⟩
      have h1 := R.ub r (x := x - 1) (by omega) 0 (by show (0 : Int) ≤ x - 1; omega)
      have e1 : ch d s r 0 (x - 1) = x * d r := by
        unfold ch
        show 0 + d (r - (0 : Nat)) + (x - 1 - 0) * d r = _
        rw [show r - ((0 : Nat) : Int) = r by omega, show x - 1 - 0 = x - 1 by omega, Int.sub_mul]
        omega
      have h2 := R.next r (x := x - 1) (by omega)
      rw [show x - 1 + 1 = x by omega] at h2
      omega
  | succ k =>
    have hS : sumBack s r (k + 1) = s r + sumBack s (r - 1) k := sum_front s k r
    have hnn := sum_nn R.s0 (r - 1) k
    have hsr : s r ≤ x := by omega
    have h1 := R.ub (r - 1) (x := x - s r) (by omega) k (by omega)
    have h3 := R.from r hsr
    have e' := e
    unfold ch at e' h1
    rw [sum_front d (k + 1) r, hS, max_front d k r, show x - (s r + sumBack s (r - 1) k) = x - s r - sumBack s (r - 1) k by omega] at e'
    by_cases hm : d r ≤ maxBack d (r - 1) k
    · right; right
      refine ⟨hsr, ?_⟩
      rw [show max (d r) (maxBack d (r - 1) k) = maxBack d (r - 1) k by omega] at e'
      omega
    · rw [show max (d r) (maxBack d (r - 1) k) = d r by omega] at e'
      by_cases hl : x - s r - sumBack s (r - 1) k = 0
      · right; right
        refine ⟨hsr, ?_⟩
        rw [hl] at e' h1
        simp at e' h1
        omega
      · right; left
        have hx1 : 1 ≤ x := by have := R.s0 r; omega
        refine ⟨hx1, ?_⟩
        have h5 := R.ub r (x := x - 1) (by omega) (k + 1) (by omega)
        unfold ch at h5
        rw [sum_front d (k + 1) r, hS, max_front d k r, show max (d r) (maxBack d (r - 1) k) = d r by omega,
          show x - 1 - (s r + sumBack s (r - 1) k) = (x - s r - sumBack s (r - 1) k) - 1 by omega, Int.sub_mul] at h5
        have h2 := R.next r (x := x - 1) (by omega)
        rw [show x - 1 + 1 = x by omega] at h2
        omega
end
end Rm
/-! Where ends repeat; counts by a day; heaps. -/
namespace Rm
def Rep (d s : Int → Int) (p q x : Int) : Prop := ∀ r, E d s r (x + p) = E d s r x + q
section
variable {N : Nat} {d s : Int → Int} {B T M : Int} (R : Ring N d s B T M)
include R
theorem Ring.T0 : 0 ≤ T := by
  have h := sum_nn (f := d) (fun i => by have := R.d1 i; omega) 0 N
  rw [R.t] at h
  exact h
theorem Ring.BM0 : 0 ≤ B * M := Int.mul_nonneg (by have := R.b1; omega) (by have := R.M1; omega)
theorem Ring.S_le (r : Int) {k m : Nat} (h : k ≤ m * N) : sumBack s r k ≤ m * B := by
  have h1 := sum_mono R.s0 r h
  have h2 := R.sumS r 0 m
  rw [Nat.zero_add] at h2
  rw [h2] at h1
  show sumBack s r k ≤ m * B
  have : sumBack s r 0 = 0 := rfl
  omega
/-- one more unit of x -/
theorem ch_succ (d s : Int → Int) (r : Int) (k : Nat) (x y : Int) : ch d s r k (x + y) = ch d s r k x + y * maxBack d r k := by
  unfold ch
  rw [show x + y - sumBack s r k = (x - sumBack s r k) + y by omega, Int.add_mul]
  omega
theorem Ring.rep_slow (hg : T ≤ B * M) {x : Int} (hx : 4 * B + B * M ≤ x) : Rep d s 1 M x := by
  intro r
  have hB := R.b1
  have hT := R.T0
  have hBM := R.BM0
  have hM := R.M1
  have hx0 : 0 ≤ x := by omega
  apply Int.le_antisymm
  · obtain ⟨k, hk, e⟩ := R.att r (x := x + 1) (by omega)
    by_cases hv : sumBack s r k ≤ x
    · have h1 := R.ub r hx0 k hv
      rw [ch_succ R d s r k x 1] at e
      have h2 := max_le R.mu r k
      omega
    · have hkN : 2 * N ≤ k := by
        rcases Nat.lt_or_ge k (2 * N) with h | h
        · have := R.S_le r (k := k) (m := 2) (by omega)
          omega
        · exact h
      obtain ⟨k', rfl⟩ : ∃ k', k = k' + 1 * N := ⟨k - 1 * N, by omega⟩
      rw [R.round r (x + 1) k' (by omega)] at e
      rw [R.sumS] at hk hv
      have h1 := R.ub r hx0 k' (by omega)
      unfold ch at h1
      rw [R.maxM r (k := k') (by omega)] at h1
      rw [show x + 1 - sumBack s r k' = (x - sumBack s r k') + 1 by omega, Int.add_mul] at e
      omega
  · obtain ⟨k, hk, e⟩ := R.att r hx0
    by_cases hm : maxBack d r k = M
    · have h1 := R.ub r (x := x + 1) (by omega) k (by omega)
      rw [ch_succ R d s r k x 1, hm] at h1
      omega
    · have hkN : k + 1 < N := by
        rcases Nat.lt_or_ge (k + 1) N with h | h
        · exact h
        · exact absurd (R.maxM r h) hm
      have hS := R.S_le r (k := k) (m := 1) (by omega)
      have h1 := R.ub r (x := x + 1) (by omega) (k + 1 * N) (by rw [R.sumS]; omega)
      rw [R.round r (x + 1) k (by omega)] at h1
      have h2 := max_le R.mu r k
      unfold ch at e
      have h3 : (x - sumBack s r k) * (maxBack d r k + 1) ≤ (x - sumBack s r k) * M := Int.mul_le_mul_of_nonneg_left (by omega) (by omega)
      rw [Int.mul_add] at h3
      rw [show x + 1 - sumBack s r k = (x - sumBack s r k) + 1 by omega, Int.add_mul] at h1
      omega
theorem Ring.rep_fast (hg : B * M < T) {x : Int} (hx : 4 * B + B * M ≤ x) : Rep d s B T x := by
  intro r
  have hB := R.b1
  have hBM := R.BM0
  have hx0 : 0 ≤ x := by omega
  apply Int.le_antisymm
  · obtain ⟨k, hk, e⟩ := R.att r (x := x + B) (by omega)
    by_cases hkN : 2 * N ≤ k + 1
    · obtain ⟨k', rfl⟩ : ∃ k', k = k' + 1 * N := ⟨k - 1 * N, by have := R.pos; omega⟩
      rw [R.round r (x + B) k' (by omega)] at e
      rw [R.sumS] at hk
      have h1 := R.ub r hx0 k' (by omega)
      unfold ch at h1
      rw [R.maxM r (k := k') (by omega)] at h1
      rw [show x + B - sumBack s r k' = (x - sumBack s r k') + B by omega, Int.add_mul] at e
      omega
    · have hS := R.S_le r (k := k) (m := 2) (by omega)
      have h1 := R.ub r hx0 (k + 1 * N) (by rw [R.sumS]; omega)
      rw [R.round r x k (by omega)] at h1
      unfold ch at e
      have h2 := max_le R.mu r k
      have h3 : (x + B - sumBack s r k) * maxBack d r k ≤ (x + B - sumBack s r k) * M := Int.mul_le_mul_of_nonneg_left h2 (by omega)
      rw [show x + B - sumBack s r k = (x - sumBack s r k) + B by omega, Int.add_mul, Int.add_mul] at h3
      rw [show x + B - sumBack s r k = (x - sumBack s r k) + B by omega, Int.add_mul] at e
      omega
  · obtain ⟨k, hk, e⟩ := R.att r hx0
    have h1 := R.ub r (x := x + B) (by omega) (k + 1 * N) (by rw [R.sumS]; omega)
    rw [R.round r (x + B) k (by omega)] at h1
    have h2 := max_le R.mu r k
    unfold ch at e
    have h3 : (x - sumBack s r k) * maxBack d r k ≤ (x - sumBack s r k) * M := Int.mul_le_mul_of_nonneg_left h2 (by omega)
    rw [show x + B - sumBack s r k = (x - sumBack s r k) + B by omega, Int.add_mul] at h1
    omega
theorem Ring.claim {p q m r : Int} (hp : 1 ≤ p) (hm : 1 ≤ m) (hsm : s r ≤ m) (h1 : E d s r (m - 1 + p) = E d s r (m - 1) + q) (h2 : E d s (r - 1) (m - s r + p) = E d s (r - 1) (m - s r) + q) : E d s r (m + p) = E d s r m + q := by
  have n1 := R.next r (x := m - 1) (by omega)
  have n2 := R.next r (x := m - 1 + p) (by omega)
  have f1 := R.from r (x := m) hsm
  have f2 := R.from r (x := m + p) (by omega)
  have b1 := R.bell r (x := m) (by omega)
  have b2 := R.bell r (x := m + p) (by omega)
  have e1 := R.E1 r (x := m - 1) (by omega)
  have e2 := R.E1 r (x := m - 1 + p) (by omega)
  have d1 := R.d1 r
  rw [show m - 1 + 1 = m by omega] at n1
  rw [show m - 1 + p + 1 = m + p by omega] at n2
  rw [show m + p - s r = m - s r + p by omega] at f2 b2
  rw [show m + p - 1 = m - 1 + p by omega] at b2
  rcases b1 with b1 | ⟨_, b1⟩ | ⟨_, b1⟩ <;> rcases b2 with b2 | ⟨_, b2⟩ | ⟨_, b2⟩ <;> omega
/-- as many in a row as the greatest number of books at first: then all later ones -/
theorem Ring.later {w p q n : Int} (hw : ∀ i, s i ≤ w) (hw1 : ∃ i, s i = w) (w1 : 1 ≤ w) (hp : 1 ≤ p) (hn : 0 ≤ n) (h : ∀ j, 0 ≤ j → j < w → Rep d s p q (n + j)) : ∀ m, n ≤ m → Rep d s p q m := by
  have go : ∀ k : Nat, ∀ m, n ≤ m → m - n < k → Rep d s p q m := by
    intro k
    induction k with
    | zero => intro m h1 h2; omega
    | succ k ih =>
      intro m h1 h2
      by_cases hmw : m < n + w
      · have := h (m - n) (by omega) (by omega)
        rw [show n + (m - n) = m by omega] at this
        exact this
      · obtain ⟨r0, hr0⟩ := hw1
        -- around the ring from r0
        have around : ∀ j : Nat, E d s (r0 + j) (m + p) = E d s (r0 + j) m + q := by
          intro j
          induction j with
          | zero =>
            have hs := hw r0
            refine R.claim hp (by omega) (by rw [show r0 + ((0 : Nat) : Int) = r0 by omega]; omega) (ih (m - 1) (by omega) (by omega) _) ?_
            rw [show r0 + ((0 : Nat) : Int) = r0 by omega]
            exact ih (m - s r0) (by omega) (by omega) _
          | succ j ihj =>
            have hs := hw (r0 + (j + 1 : Nat))
            have hs0 := R.s0 (r0 + (j + 1 : Nat))
            refine R.claim hp (by omega) (by omega) (ih (m - 1) (by omega) (by omega) _) ?_
            rw [show r0 + ((j + 1 : Nat) : Int) - 1 = r0 + j by omega]
            by_cases hz : s (r0 + (j + 1 : Nat)) = 0
            · rw [hz, show m - 0 = m by omega]
              exact ihj
            · exact ih (m - s (r0 + (j + 1 : Nat))) (by omega) (by omega) _
        intro r
        have hN := R.pos
        have a0 : 0 ≤ (r - r0) % (N : Int) := Int.emod_nonneg _ (by omega)
        have h3 := around ((r - r0) % (N : Int)).toNat
        have e3 : r0 + ((((r - r0) % (N : Int)).toNat : Nat) : Int) = r + N * (-((r - r0) / (N : Int))) := by
          have := Int.emod_add_mul_ediv (r - r0) (N : Int)
          rw [Int.mul_neg]
          omega
        rw [e3, R.E_per, R.E_per] at h3
        exact h3
  intro m hm
  exact go ((m - n).toNat + 1) m hm (by omega)
theorem Ring.rounds {p q n : Int} (hp : 1 ≤ p) (h : ∀ m, n ≤ m → Rep d s p q m) (r : Int) {x : Int} (hx : n ≤ x) : ∀ k : Nat, E d s r (x + k * p) = E d s r x + k * q
  | 0 => by simp
  | k + 1 => by
    have ih := Ring.rounds hp h r hx k
    have h0 : (0 : Int) ≤ (k : Int) * p := Int.mul_nonneg (Int.natCast_nonneg _) (by omega)
    have h1 := h (x + k * p) (by omega) r
    rw [show ((k + 1 : Nat) : Int) = (k : Int) + 1 by omega, Int.add_mul, Int.add_mul, Int.one_mul, Int.one_mul, ← Int.add_assoc, h1, ih]
    omega
theorem Ring.mono (r : Int) {x : Int} (hx : 0 ≤ x) : ∀ k : Nat, E d s r x + (k + 1) * d r ≤ E d s r (x + (k + 1))
  | 0 => by
    have := R.next r hx
    simpa using this
  | k + 1 => by
    have ih := Ring.mono r hx k
    have h1 := R.next r (x := x + (k + 1)) (by omega)
    rw [show ((k + 1 : Nat) : Int) = (k : Int) + 1 by omega, show x + ((k : Int) + 1 + 1) = x + ((k : Int) + 1) + 1 by omega, Int.add_mul ((k : Int) + 1) 1]
    omega
theorem Ring.lt (r : Int) {x y : Int} (hx : 0 ≤ x) (h : x < y) : E d s r x + d r ≤ E d s r y := by
  have h1 := R.mono r hx (y - x - 1).toNat
  rw [show ((((y - x - 1).toNat : Nat) : Int) + 1) = y - x by omega, show x + (y - x) = y by omega] at h1
  have h2 : (1 : Int) * d r ≤ (y - x) * d r := Int.mul_le_mul_of_nonneg_right (by omega) (by have := R.d1 r; omega)
  omega
theorem Ring.le (r : Int) {x y : Int} (hx : 0 ≤ x) (h : x ≤ y) : E d s r x ≤ E d s r y := by
  by_cases e : x = y
  · subst e
    exact Int.le_refl _
  · have := R.lt r hx (show x < y by omega)
    have := R.d1 r
    omega
end

/-- c readings of reader r have ended by day D -/
def Cnt (d s : Int → Int) (r D c : Int) : Prop := 0 ≤ c ∧ (c = 0 ∨ E d s r (c - 1) ≤ D) ∧ D < E d s r c
noncomputable def Cn (d s : Int → Int) (r D : Int) : Int := open Classical in if h : ∃ c, Cnt d s r D c then Classical.choose h else 0
section
variable {N : Nat} {d s : Int → Int} {B T M : Int} (R : Ring N d s B T M)
include R
theorem Ring.cnt_inj {r D c c' : Int} (h : Cnt d s r D c) (h' : Cnt d s r D c') : c = c' := by
  obtain ⟨a0, a1, a2⟩ := h
  obtain ⟨b0, b1, b2⟩ := h'
  rcases Int.lt_trichotomy c c' with z | z | z
  · have := R.le r (x := c) (y := c' - 1) a0 (by omega)
    omega
  · exact z
  · have := R.le r (x := c') (y := c - 1) b0 (by omega)
    omega
theorem Ring.cnt_ex (r D : Int) : ∃ c, Cnt d s r D c := by
  have go : ∀ n : Nat, D < E d s r n → ∃ c, Cnt d s r D c := by
    intro n
    induction n with
    | zero => intro h; exact ⟨0, by omega, .inl rfl, h⟩
    | succ n ih =>
      intro h
      by_cases hh : E d s r n ≤ D
      · exact ⟨((n + 1 : Nat) : Int), by omega, .inr (by rw [show ((n + 1 : Nat) : Int) - 1 = n by omega]; exact hh), h⟩
      · exact ih (by omega)
  refine go D.toNat ?_
  have h := R.low r (x := (D.toNat : Nat)) (by omega)
  have h2 : (((D.toNat : Nat) : Int) + 1) * 1 ≤ (((D.toNat : Nat) : Int) + 1) * d r := Int.mul_le_mul_of_nonneg_left (R.d1 r) (by omega)
  omega
theorem Ring.cn (r D : Int) : Cnt d s r D (Cn d s r D) := by
  have h := R.cnt_ex r D
  unfold Cn
  rw [dif_pos h]
  exact Classical.choose_spec h
theorem Ring.cn_of {r D c : Int} (h : Cnt d s r D c) : Cn d s r D = c := R.cnt_inj (R.cn r D) h
theorem Ring.cn_per (r D t : Int) : Cn d s (r + N * t) D = Cn d s r D := by
  refine R.cn_of ?_
  have h := R.cn r D
  unfold Cnt at h ⊢
  rw [R.E_per, R.E_per]
  exact h
theorem Ring.cn_mod (r D : Int) : Cn d s (r % N) D = Cn d s r D := by
  have h := R.cn_per (r % N) D (r / N)
  rw [Int.emod_add_mul_ediv] at h
  exact h.symm
theorem Ring.cn_end (r : Int) {x : Int} (hx : 0 ≤ x) : Cn d s r (E d s r x) = x + 1 := by
  refine R.cn_of ⟨by omega, .inr (by rw [show x + 1 - 1 = x by omega]; exact Int.le_refl _), ?_⟩
  have := R.lt r hx (show x < x + 1 by omega)
  have := R.d1 r
  omega
theorem Ring.cn_before (r : Int) {x : Int} (hx : 0 ≤ x) : Cn d s r (E d s r x - 1) = x := by
  refine R.cn_of ⟨hx, ?_, by omega⟩
  by_cases h : x = 0
  · exact .inl h
  · right
    have := R.lt r (x := x - 1) (y := x) (by omega) (by omega)
    have := R.d1 r
    omega
theorem Ring.cn_next (r D : Int) : Cn d s r D ≤ Cn d s r (D + d r) ∧ Cn d s r (D + d r) ≤ Cn d s r D + 1 := by
  obtain ⟨a0, a1, a2⟩ := R.cn r D
  obtain ⟨b0, b1, b2⟩ := R.cn r (D + d r)
  have d1 := R.d1 r
  constructor
  · rcases Int.lt_or_le (Cn d s r (D + d r)) (Cn d s r D) with z | z
    · rcases a1 with a1 | a1
      · omega
      · have := R.le r (x := Cn d s r (D + d r)) (y := Cn d s r D - 1) b0 (by omega)
        omega
    · exact z
  · rcases Int.lt_or_le (Cn d s r D + 1) (Cn d s r (D + d r)) with z | z
    · rcases b1 with b1 | b1
      · omega
      · have := R.lt r (x := Cn d s r D) (y := Cn d s r (D + d r) - 1) a0 (by omega)
        omega
    · exact z
/-- a reader who has a book and is not reading begins -/
theorem Ring.cn_reads {r D : Int} (hD : 0 ≤ D) (h : Cn d s r D < s r + Cn d s (r - 1) D) : Cn d s r D + 1 ≤ Cn d s r (D + d r) := by
  obtain ⟨a0, a1, a2⟩ := R.cn r D
  obtain ⟨b0, b1, b2⟩ := R.cn r (D + d r)
  obtain ⟨c0, c1, c2⟩ := R.cn (r - 1) D
  have hs := R.s0 r
  rcases Int.lt_or_le (Cn d s r (D + d r)) (Cn d s r D + 1) with z | z
  · have h1 := R.le r (x := Cn d s r (D + d r)) (y := Cn d s r D) b0 (by omega)
    have b := R.bell r (x := Cn d s r D) a0
    rcases b with b | ⟨h2, b⟩ | ⟨h2, b⟩
    · omega
    · rcases a1 with a1 | a1 <;> omega
    · rcases c1 with c1 | c1
      · omega
      · have h3 := R.le (r - 1) (x := Cn d s r D - s r) (y := Cn d s (r - 1) D - 1) (by omega) (by omega)
        omega
  · exact z
end
theorem sum_lin (f g h : Int → Int) (r : Int) : ∀ n : Nat, sumBack (fun j => f j + g (j - 1) - h j) r n = sumBack f r n + sumBack g (r - 1) n - sumBack h r n
  | 0 => by simp [sumBack]
  | n + 1 => by
    show sumBack (fun j => f j + g (j - 1) - h j) r n + (f (r - n) + g (r - n - 1) - h (r - n)) = sumBack f r n + f (r - n) + (sumBack g (r - 1) n + g (r - 1 - n)) - (sumBack h r n + h (r - n))
    rw [sum_lin f g h r n, show r - 1 - (n : Int) = r - n - 1 by omega]
    omega
theorem sum_win {f : Int → Int} {N : Nat} (hp : ∀ i t : Int, f (i + N * t) = f i) (r : Int) : sumBack f (r - 1) N = sumBack f r N := by
  have h1 := sum_front f N r
  have h2 : sumBack f r (N + 1) = sumBack f r N + f (r - N) := rfl
  have h3 := hp (r - N) 1
  rw [show r - (N : Int) + N * 1 = r by omega] at h3
  omega
theorem sum_le {f g : Int → Int} (h : ∀ i, f i ≤ g i) (r : Int) : ∀ n : Nat, sumBack f r n ≤ sumBack g r n
  | 0 => Int.le_refl _
  | n + 1 => by
    have h1 := sum_le h r n
    have h2 := h (r - n)
    show sumBack f r n + f (r - n) ≤ sumBack g r n + g (r - n)
    omega
theorem sum_lt {f g : Int → Int} (h : ∀ i, f i ≤ g i) (r : Int) : ∀ {n j : Nat}, j < n → f (r - j) < g (r - j) → sumBack f r n < sumBack g r n
  | 0, j, hj, _ => absurd hj (Nat.not_lt_zero _)
  | n + 1, j, hj, hh => by
    show sumBack f r n + f (r - n) < sumBack g r n + g (r - n)
    by_cases e : j = n
    · subst e
      have := sum_le h r j
      omega
    · have h1 := sum_lt h r (n := n) (j := j) (by omega) hh
      have h2 := h (r - n)
      omega
theorem sum_shift (f : Int → Int) (r c : Int) : ∀ n : Nat, sumBack (fun i => f i + c) r n = sumBack f r n + n * c
  | 0 => by simp [sumBack]
  | n + 1 => by
    show sumBack (fun i => f i + c) r n + (f (r - n) + c) = sumBack f r n + f (r - n) + ((n + 1 : Nat) : Int) * c
    rw [sum_shift f r c n, show ((n + 1 : Nat) : Int) = (n : Int) + 1 by omega, Int.add_mul]
    omega
section
variable {N : Nat} {d s : Int → Int} {B T M : Int} (R : Ring N d s B T M)
include R
/-- the heaps of a day, all together: fewer than all books, as at least one is being read; at most one a reader is -/
theorem Ring.heaps {D : Int} (hD : 0 ≤ D) (r : Int) : B - N ≤ sumBack (fun j => s j + Cn d s (j - 1) D - Cn d s j (D + d j)) r N ∧ sumBack (fun j => s j + Cn d s (j - 1) D - Cn d s j (D + d j)) r N < B := by
  rw [sum_lin s (fun j => Cn d s j D) (fun j => Cn d s j (D + d j)) r N, R.b, sum_win (f := fun j => Cn d s j D) (N := N) (fun i t => R.cn_per i D t)]
  have h1 := sum_le (f := fun j => Cn d s j D) (g := fun j => Cn d s j (D + d j)) (fun i => (R.cn_next i D).1) r N
  have h2 := sum_le (f := fun j => Cn d s j (D + d j)) (g := fun j => Cn d s j D + 1) (fun i => (R.cn_next i D).2) r N
  rw [sum_shift (fun j => Cn d s j D) r 1 N] at h2
  refine ⟨by omega, ?_⟩
  -- someone reads
  have some_reads : ∃ j : Nat, j < N ∧ Cn d s (r - j) D < Cn d s (r - j) (D + d (r - j)) := by
    apply Classical.byContradiction
    intro hno
    have hall : ∀ j : Nat, j < N → s (r - j) + Cn d s (r - j - 1) D ≤ Cn d s (r - j) D := by
      intro j hj
      apply Classical.byContradiction
      intro hh
      have := R.cn_reads (r := r - j) hD (by omega)
      exact hno ⟨j, hj, by omega⟩
    have go : ∀ n : Nat, n ≤ N → sumBack s r n + sumBack (fun j => Cn d s j D) (r - 1) n ≤ sumBack (fun j => Cn d s j D) r n := by
      intro n
      induction n with
      | zero => intro _; show (0 : Int) + 0 ≤ 0; omega
      | succ n ih =>
        intro hn
        have h3 := ih (by omega)
        have h4 := hall n (by omega)
        show sumBack s r n + s (r - n) + (sumBack (fun j => Cn d s j D) (r - 1) n + Cn d s (r - 1 - n) D) ≤ sumBack (fun j => Cn d s j D) r n + Cn d s (r - n) D
        rw [show r - 1 - (n : Int) = r - n - 1 by omega]
        omega
    have h5 := go N (Nat.le_refl _)
    rw [R.b, sum_win (f := fun j => Cn d s j D) (N := N) (fun i t => R.cn_per i D t)] at h5
    have := R.b1
    omega
  obtain ⟨j, hj, hjr⟩ := some_reads
  have h6 := sum_lt (f := fun j => Cn d s j D) (g := fun j => Cn d s j (D + d j)) (fun i => (R.cn_next i D).1) r hj hjr
  omega
end

/-! ### from lists -/
/-- round the list, from any index -/
def at' (l : List Int) (i : Int) : Int := l.getD (i % (l.length : Int)).toNat 0
theorem at_per (l : List Int) (i t : Int) : at' l (i + (l.length : Int) * t) = at' l i := by
  unfold at'
  rw [Int.add_mul_emod_self_left]
theorem at_nat {l : List Int} {j : Nat} {v : Int} (h : l[j]? = some v) : at' l (j : Int) = v := by
  have hj := (List.getElem?_eq_some_iff.mp h).1
  unfold at'
  rw [Int.emod_eq_of_lt (by omega) (by omega), List.getD_eq_getElem?_getD, Int.toNat_natCast, h]
  rfl
theorem at_mem {l : List Int} (hl : 0 < l.length) (i : Int) : at' l i ∈ l := by
  unfold at'
  have h0 : 0 ≤ i % (l.length : Int) := Int.emod_nonneg _ (by omega)
  have h1 : i % (l.length : Int) < l.length := Int.emod_lt_of_pos _ (by omega)
  rw [List.getD_eq_getElem?_getD, List.getElem?_eq_getElem (show (i % (l.length : Int)).toNat < l.length by omega)]
  exact List.getElem_mem _
theorem mem_at {l : List Int} {v : Int} (h : v ∈ l) : ∃ i, at' l i = v := by
  obtain ⟨j, hj, e⟩ := List.getElem_of_mem h
  exact ⟨j, at_nat (by rw [List.getElem?_eq_getElem hj, e])⟩
theorem sum_list (l : List Int) : sumBack (at' l) ((l.length : Int) - 1) l.length = l.sum := by
  have go : ∀ n : Nat, n ≤ l.length → sumBack (at' l) ((n : Int) - 1) n = (l.take n).sum := by
    intro n
    induction n with
    | zero => intro _; simp [sumBack]
    | succ n ih =>
      intro hn
      rw [show ((n + 1 : Nat) : Int) - 1 = n by omega, sum_front, ih (by omega), List.take_add_one, List.sum_append, at_nat (List.getElem?_eq_getElem (show n < l.length by omega)), List.getElem?_eq_getElem (show n < l.length by omega)]
      simp
      omega
  have h := go l.length (Nat.le_refl _)
  rw [List.take_length] at h
  exact h
theorem sum_any {f : Int → Int} {N : Nat} (hp : ∀ i t : Int, f (i + N * t) = f i) (p q : Int) : sumBack f p N = sumBack f q N := by
  have go : ∀ (n : Nat) (r : Int), sumBack f (r - n) N = sumBack f r N := by
    intro n
    induction n with
    | zero => intro r; rw [show r - ((0 : Nat) : Int) = r by omega]
    | succ n ih =>
      intro r
      rw [show r - ((n + 1 : Nat) : Int) = r - n - 1 by omega, sum_win hp, ih]
  rcases Int.le_total p q with h | h
  · have := go (q - p).toNat q
    rw [show q - ((q - p).toNat : Int) = p by omega] at this
    exact this
  · have := go (p - q).toNat p
    rw [show p - ((p - q).toNat : Int) = q by omega] at this
    exact this.symm
theorem ring_of {ds ss : List Int} {M : Int} (hl : 0 < ds.length) (hls : ss.length = ds.length) (h1 : ∀ y ∈ ds, 1 ≤ y) (h2 : ∀ y ∈ ss, 0 ≤ y) (hB : 1 ≤ ss.sum) (hM : M ∈ ds) (hMu : ∀ y ∈ ds, y ≤ M) :
    Ring ds.length (at' ds) (at' ss) ss.sum ds.sum M where
  pos := hl
  dper := at_per ds
  sper := by rw [← hls]; exact at_per ss
  d1 := fun i => h1 _ (at_mem hl i)
  s0 := fun i => h2 _ (at_mem (by omega) i)
  b := fun r => by
    rw [sum_any (f := at' ss) (N := ds.length) (by rw [← hls]; exact at_per ss) r ((ss.length : Int) - 1), ← hls]
    exact sum_list ss
  b1 := hB
  t := fun r => by
    rw [sum_any (f := at' ds) (N := ds.length) (at_per ds) r ((ds.length : Int) - 1)]
    exact sum_list ds
  mu := fun i => hMu _ (at_mem hl i)
  ma := mem_at hM
end Rm
namespace Rp
open PySem PySem.Spec PyProof.Rows L2
def topS (i : Nat) : Stmt := PySem.Challenge.pw_readingring_k58_whole_observers_by_all_d.main.body.getD i (.Pass ⟨0, 0, 0, 0⟩)
abbrev s_is_number : Stmt := topS 13
abbrev s_lies_between : Stmt := topS 14
abbrev s_check_number : Stmt := topS 15
abbrev s_check_reader : Stmt := topS 16
abbrev s_rinit : Stmt := inClass (topS 22) 0
abbrev s_rdays : Stmt := inClass (topS 22) 2
abbrev s_rstarts : Stmt := inClass (topS 22) 3
abbrev s_rbooks : Stmt := inClass (topS 22) 4
abbrev s_rpace : Stmt := inClass (topS 22) 5
abbrev s_rwith_days : Stmt := inClass (topS 22) 6
abbrev s_rlen : Stmt := inClass (topS 22) 7
abbrev s_rcall : Stmt := inClass (topS 22) 10
abbrev s_check_part : Stmt := topS 23
abbrev s_end_day : Stmt := topS 24
abbrev s_is_same_number : Stmt := topS 27
abbrev s_dinit : Stmt := inClass (topS 28) 0
abbrev s_dfrom_log : Stmt := inClass (topS 28) 1
abbrev s_dpossible_days : Stmt := inClass (topS 28) 2
abbrev s_dobservations : Stmt := inClass (topS 28) 3
abbrev s_dsee_end : Stmt := inClass (topS 28) 4
abbrev s_dsee_open : Stmt := inClass (topS 28) 5
abbrev s_dpossible_ends : Stmt := inClass (topS 28) 6
abbrev s_dtelling_number : Stmt := inClass (topS 28) 7
abbrev s_dcheck_reading : Stmt := inClass (topS 28) 8
abbrev s_daccept : Stmt := inClass (topS 28) 9
abbrev s_ltaken : Stmt := topS 30
abbrev s_lparts : Stmt := topS 31
abbrev s_lraised : Stmt := topS 32
abbrev s_law : Stmt := topS 33
abbrev N_is_number : List Str := ["value"]
abbrev P_is_number : List Str := ["value"]
theorem sc_is_number : FnScope N_is_number P_is_number (defScope s_is_number) := ⟨rfl, rfl, rfl, by decide +kernel, rfl, by decide +kernel, by decide +kernel⟩
abbrev N_lies_between : List Str := ["value", "low", "high"]
abbrev P_lies_between : List Str := ["value", "low", "high"]
theorem sc_lies_between : FnScope N_lies_between P_lies_between (defScope s_lies_between) := ⟨rfl, rfl, rfl, by decide +kernel, rfl, by decide +kernel, by decide +kernel⟩
abbrev N_check_number : List Str := ["value", "low", "high"]
abbrev P_check_number : List Str := ["value", "low", "high"]
theorem sc_check_number : FnScope N_check_number P_check_number (defScope s_check_number) := ⟨rfl, rfl, rfl, by decide +kernel, rfl, by decide +kernel, by decide +kernel⟩
abbrev N_check_reader : List Str := ["ring", "reader"]
abbrev P_check_reader : List Str := ["ring", "reader"]
theorem sc_check_reader : FnScope N_check_reader P_check_reader (defScope s_check_reader) := ⟨rfl, rfl, rfl, by decide +kernel, rfl, by decide +kernel, by decide +kernel⟩
abbrev N_rinit : List Str := ["self", "days", "starts"]
abbrev P_rinit : List Str := ["self", "days", "starts"]
theorem sc_rinit : FnScope N_rinit P_rinit (defScope s_rinit) := ⟨rfl, rfl, rfl, by decide +kernel, rfl, by decide +kernel, by decide +kernel⟩
abbrev N_rdays : List Str := ["self"]
abbrev P_rdays : List Str := ["self"]
theorem sc_rdays : FnScope N_rdays P_rdays (defScope s_rdays) := ⟨rfl, rfl, rfl, by decide +kernel, rfl, by decide +kernel, by decide +kernel⟩
abbrev N_rstarts : List Str := ["self"]
abbrev P_rstarts : List Str := ["self"]
theorem sc_rstarts : FnScope N_rstarts P_rstarts (defScope s_rstarts) := ⟨rfl, rfl, rfl, by decide +kernel, rfl, by decide +kernel, by decide +kernel⟩
abbrev N_rbooks : List Str := ["self"]
abbrev P_rbooks : List Str := ["self"]
theorem sc_rbooks : FnScope N_rbooks P_rbooks (defScope s_rbooks) := ⟨rfl, rfl, rfl, by decide +kernel, rfl, by decide +kernel, by decide +kernel⟩
abbrev N_rpace : List Str := ["self"]
abbrev P_rpace : List Str := ["self"]
theorem sc_rpace : FnScope N_rpace P_rpace (defScope s_rpace) := ⟨rfl, rfl, rfl, by decide +kernel, rfl, by decide +kernel, by decide +kernel⟩
abbrev N_rwith_days : List Str := ["self", "reader", "days", "changed"]
abbrev P_rwith_days : List Str := ["self", "reader", "days"]
theorem sc_rwith_days : FnScope N_rwith_days P_rwith_days (defScope s_rwith_days) := ⟨rfl, rfl, rfl, by decide +kernel, rfl, by decide +kernel, by decide +kernel⟩
abbrev N_rlen : List Str := ["self"]
abbrev P_rlen : List Str := ["self"]
theorem sc_rlen : FnScope N_rlen P_rlen (defScope s_rlen) := ⟨rfl, rfl, rfl, by decide +kernel, rfl, by decide +kernel, by decide +kernel⟩
abbrev N_rcall : List Str := ["self", "reader", "number"]
abbrev P_rcall : List Str := ["self", "reader", "number"]
theorem sc_rcall : FnScope N_rcall P_rcall (defScope s_rcall) := ⟨rfl, rfl, rfl, by decide +kernel, rfl, by decide +kernel, by decide +kernel⟩
abbrev N_check_part : List Str := ["part", "values", "limits", "lengths", "low", "high", "fewest", "most", "index", "value"]
abbrev P_check_part : List Str := ["part", "values", "limits", "lengths"]
theorem sc_check_part : FnScope N_check_part P_check_part (defScope s_check_part) := ⟨rfl, rfl, rfl, by decide +kernel, rfl, by decide +kernel, by decide +kernel⟩
abbrev N_end_day : List Str := ["ring", "reader", "number", "books", "slowest", "gain", "latest", "total", "slowest_met", "left", "step", "rounds"]
abbrev P_end_day : List Str := ["ring", "reader", "number"]
theorem sc_end_day : FnScope N_end_day P_end_day (defScope s_end_day) := ⟨rfl, rfl, rfl, by decide +kernel, rfl, by decide +kernel, by decide +kernel⟩
abbrev N_is_same_number : List Str := ["value", "number"]
abbrev P_is_same_number : List Str := ["value", "number"]
theorem sc_is_same_number : FnScope N_is_same_number P_is_same_number (defScope s_is_same_number) := ⟨rfl, rfl, rfl, by decide +kernel, rfl, by decide +kernel, by decide +kernel⟩
abbrev N_dinit : List Str := ["self", "ring", "reader", "days"]
abbrev P_dinit : List Str := ["self", "ring", "reader"]
theorem sc_dinit : FnScope N_dinit P_dinit (defScope s_dinit) := ⟨rfl, rfl, rfl, by decide +kernel, rfl, by decide +kernel, by decide +kernel⟩
abbrev N_dfrom_log : List Str := ["cls", "ring", "reader", "observations", "observer", "name", "arguments"]
abbrev P_dfrom_log : List Str := ["cls", "ring", "reader", "observations"]
theorem sc_dfrom_log : FnScope N_dfrom_log P_dfrom_log (defScope s_dfrom_log) := ⟨rfl, rfl, rfl, by decide +kernel, rfl, by decide +kernel, by decide +kernel⟩
abbrev N_dpossible_days : List Str := ["self", "ring"]
abbrev P_dpossible_days : List Str := ["self"]
theorem sc_dpossible_days : FnScope N_dpossible_days P_dpossible_days (defScope s_dpossible_days) := ⟨rfl, rfl, rfl, by decide +kernel, rfl, by decide +kernel, by decide +kernel⟩
abbrev N_dobservations : List Str := ["self"]
abbrev P_dobservations : List Str := ["self"]
theorem sc_dobservations : FnScope N_dobservations P_dobservations (defScope s_dobservations) := ⟨rfl, rfl, rfl, by decide +kernel, rfl, by decide +kernel, by decide +kernel⟩
abbrev N_dsee_end : List Str := ["self", "reader", "number", "day", "rings", "ring"]
abbrev P_dsee_end : List Str := ["self", "reader", "number", "day"]
theorem sc_dsee_end : FnScope N_dsee_end P_dsee_end (defScope s_dsee_end) := ⟨rfl, rfl, rfl, by decide +kernel, rfl, by decide +kernel, by decide +kernel⟩
abbrev N_dsee_open : List Str := ["self", "reader", "number", "day", "rings", "ring"]
abbrev P_dsee_open : List Str := ["self", "reader", "number", "day"]
theorem sc_dsee_open : FnScope N_dsee_open P_dsee_open (defScope s_dsee_open) := ⟨rfl, rfl, rfl, by decide +kernel, rfl, by decide +kernel, by decide +kernel⟩
abbrev N_dpossible_ends : List Str := ["self", "reader", "number", "ring"]
abbrev P_dpossible_ends : List Str := ["self", "reader", "number"]
theorem sc_dpossible_ends : FnScope N_dpossible_ends P_dpossible_ends (defScope s_dpossible_ends) := ⟨rfl, rfl, rfl, by decide +kernel, rfl, by decide +kernel, by decide +kernel⟩
abbrev N_dtelling_number : List Str := ["self", "reader", "limit", "number"]
abbrev P_dtelling_number : List Str := ["self", "reader", "limit"]
theorem sc_dtelling_number : FnScope N_dtelling_number P_dtelling_number (defScope s_dtelling_number) := ⟨rfl, rfl, rfl, by decide +kernel, rfl, by decide +kernel, by decide +kernel⟩
abbrev N_dcheck_reading : List Str := ["self", "reader", "number"]
abbrev P_dcheck_reading : List Str := ["self", "reader", "number"]
theorem sc_dcheck_reading : FnScope N_dcheck_reading P_dcheck_reading (defScope s_dcheck_reading) := ⟨rfl, rfl, rfl, by decide +kernel, rfl, by decide +kernel, by decide +kernel⟩
abbrev N_daccept : List Str := ["self", "observation", "rings"]
abbrev P_daccept : List Str := ["self", "observation", "rings"]
theorem sc_daccept : FnScope N_daccept P_daccept (defScope s_daccept) := ⟨rfl, rfl, rfl, by decide +kernel, rfl, by decide +kernel, by decide +kernel⟩
abbrev N_ltaken : List Str := ["_law_row", "_law_many", "_law_found", "_law_cell"]
abbrev P_ltaken : List Str := ["_law_row", "_law_many"]
theorem sc_ltaken : FnScope N_ltaken P_ltaken (defScope s_ltaken) := ⟨rfl, rfl, rfl, by decide +kernel, rfl, by decide +kernel, by decide +kernel⟩
abbrev N_lparts : List Str := ["_law_row", "_law_most", "_law_size", "_law_far", "_law_days", "_law_starts", "_law_k"]
abbrev P_lparts : List Str := ["_law_row", "_law_most"]
theorem sc_lparts : FnScope N_lparts P_lparts (defScope s_lparts) := ⟨rfl, rfl, rfl, by decide +kernel, rfl, by decide +kernel, by decide +kernel⟩
abbrev N_lraised : List Str := ["_law_work", "e", "_law_kinds"]
abbrev P_lraised : List Str := ["_law_work"]
theorem sc_lraised : FnScope N_lraised P_lraised (defScope s_lraised) := ⟨rfl, rfl, rfl, by decide +kernel, rfl, by decide +kernel, by decide +kernel⟩
abbrev N_law : List Str := ["_law_script", "_law_row", "_law_parts_here", "_law_ring", "_law_hidden", "_law_observer", "_law_left", "_law_seen", "_law_rings", "_law_true", "_law_turn", "_law_k", "_law_number", "_law_end", "_law_is_end", "_law_day", "_law_good", "_law_days", "_law_due", "_law_work", "_law_word", "_law_ends", "_law_telling", "_law_j"]
abbrev P_law : List Str := ["_law_script"]
theorem sc_law : FnScope N_law P_law (defScope s_law) := ⟨rfl, rfl, rfl, by decide +kernel, rfl, by decide +kernel, by decide +kernel⟩
/-- what the top has written: the defs where they stand, the class, constants, built-ins that are still so -/
structure Tx (K : PySem.W.Frag) (mg : Str → Option Value) where
  C : Addr
  a_is_number : Addr
  d_is_number : FuncData
  F_is_number : Fun K "is_number" "is_number" s_is_number a_is_number d_is_number
  b_is_number : Binds K d_is_number P_is_number []
  g_is_number : mg "is_number" = some (.ref a_is_number)
  a_lies_between : Addr
  d_lies_between : FuncData
  F_lies_between : Fun K "lies_between" "lies_between" s_lies_between a_lies_between d_lies_between
  b_lies_between : Binds K d_lies_between P_lies_between []
  g_lies_between : mg "lies_between" = some (.ref a_lies_between)
  a_check_number : Addr
  d_check_number : FuncData
  F_check_number : Fun K "check_number" "check_number" s_check_number a_check_number d_check_number
  b_check_number : Binds K d_check_number P_check_number []
  g_check_number : mg "check_number" = some (.ref a_check_number)
  a_check_reader : Addr
  d_check_reader : FuncData
  F_check_reader : Fun K "check_reader" "check_reader" s_check_reader a_check_reader d_check_reader
  b_check_reader : Binds K d_check_reader P_check_reader []
  g_check_reader : mg "check_reader" = some (.ref a_check_reader)
  a_rinit : Addr
  d_rinit : FuncData
  F_rinit : Fun K "__init__" "Ring.__init__" s_rinit a_rinit d_rinit
  b_rinit : Binds K d_rinit P_rinit []
  a_rdays : Addr
  d_rdays : FuncData
  F_rdays : Fun K "days" "Ring.days" s_rdays a_rdays d_rdays
  b_rdays : Binds K d_rdays P_rdays []
  a_rstarts : Addr
  d_rstarts : FuncData
  F_rstarts : Fun K "starts" "Ring.starts" s_rstarts a_rstarts d_rstarts
  b_rstarts : Binds K d_rstarts P_rstarts []
  a_rbooks : Addr
  d_rbooks : FuncData
  F_rbooks : Fun K "books" "Ring.books" s_rbooks a_rbooks d_rbooks
  b_rbooks : Binds K d_rbooks P_rbooks []
  a_rpace : Addr
  d_rpace : FuncData
  F_rpace : Fun K "pace" "Ring.pace" s_rpace a_rpace d_rpace
  b_rpace : Binds K d_rpace P_rpace []
  a_rwith_days : Addr
  d_rwith_days : FuncData
  F_rwith_days : Fun K "with_days" "Ring.with_days" s_rwith_days a_rwith_days d_rwith_days
  b_rwith_days : Binds K d_rwith_days P_rwith_days []
  a_rlen : Addr
  d_rlen : FuncData
  F_rlen : Fun K "__len__" "Ring.__len__" s_rlen a_rlen d_rlen
  b_rlen : Binds K d_rlen P_rlen []
  a_rcall : Addr
  d_rcall : FuncData
  F_rcall : Fun K "__call__" "Ring.__call__" s_rcall a_rcall d_rcall
  b_rcall : Binds K d_rcall P_rcall []
  a_check_part : Addr
  d_check_part : FuncData
  F_check_part : Fun K "check_part" "check_part" s_check_part a_check_part d_check_part
  b_check_part : Binds K d_check_part P_check_part []
  g_check_part : mg "check_part" = some (.ref a_check_part)
  a_end_day : Addr
  d_end_day : FuncData
  F_end_day : Fun K "end_day" "end_day" s_end_day a_end_day d_end_day
  b_end_day : Binds K d_end_day P_end_day []
  g_end_day : mg "end_day" = some (.ref a_end_day)
  a_is_same_number : Addr
  d_is_same_number : FuncData
  F_is_same_number : Fun K "is_same_number" "is_same_number" s_is_same_number a_is_same_number d_is_same_number
  b_is_same_number : Binds K d_is_same_number P_is_same_number []
  g_is_same_number : mg "is_same_number" = some (.ref a_is_same_number)
  a_dinit : Addr
  d_dinit : FuncData
  F_dinit : Fun K "__init__" "DaysObserver.__init__" s_dinit a_dinit d_dinit
  b_dinit : Binds K d_dinit P_dinit []
  a_dfrom_log : Addr
  d_dfrom_log : FuncData
  F_dfrom_log : Fun K "from_log" "DaysObserver.from_log" s_dfrom_log a_dfrom_log d_dfrom_log
  b_dfrom_log : Binds K d_dfrom_log P_dfrom_log []
  a_dpossible_days : Addr
  d_dpossible_days : FuncData
  F_dpossible_days : Fun K "possible_days" "DaysObserver.possible_days" s_dpossible_days a_dpossible_days d_dpossible_days
  b_dpossible_days : Binds K d_dpossible_days P_dpossible_days []
  a_dobservations : Addr
  d_dobservations : FuncData
  F_dobservations : Fun K "observations" "DaysObserver.observations" s_dobservations a_dobservations d_dobservations
  b_dobservations : Binds K d_dobservations P_dobservations []
  a_dsee_end : Addr
  d_dsee_end : FuncData
  F_dsee_end : Fun K "see_end" "DaysObserver.see_end" s_dsee_end a_dsee_end d_dsee_end
  b_dsee_end : Binds K d_dsee_end P_dsee_end []
  a_dsee_open : Addr
  d_dsee_open : FuncData
  F_dsee_open : Fun K "see_open" "DaysObserver.see_open" s_dsee_open a_dsee_open d_dsee_open
  b_dsee_open : Binds K d_dsee_open P_dsee_open []
  a_dpossible_ends : Addr
  d_dpossible_ends : FuncData
  F_dpossible_ends : Fun K "possible_ends" "DaysObserver.possible_ends" s_dpossible_ends a_dpossible_ends d_dpossible_ends
  b_dpossible_ends : Binds K d_dpossible_ends P_dpossible_ends []
  a_dtelling_number : Addr
  d_dtelling_number : FuncData
  F_dtelling_number : Fun K "telling_number" "DaysObserver.telling_number" s_dtelling_number a_dtelling_number d_dtelling_number
  b_dtelling_number : Binds K d_dtelling_number P_dtelling_number []
  a_dcheck_reading : Addr
  d_dcheck_reading : FuncData
  F_dcheck_reading : Fun K "_check_reading" "DaysObserver._check_reading" s_dcheck_reading a_dcheck_reading d_dcheck_reading
  b_dcheck_reading : Binds K d_dcheck_reading P_dcheck_reading []
  a_daccept : Addr
  d_daccept : FuncData
  F_daccept : Fun K "_accept" "DaysObserver._accept" s_daccept a_daccept d_daccept
  b_daccept : Binds K d_daccept P_daccept []
  a_ltaken : Addr
  d_ltaken : FuncData
  F_ltaken : Fun K "_law_taken" "_law_taken" s_ltaken a_ltaken d_ltaken
  b_ltaken : Binds K d_ltaken P_ltaken []
  g_ltaken : mg "_law_taken" = some (.ref a_ltaken)
  a_lparts : Addr
  d_lparts : FuncData
  F_lparts : Fun K "_law_parts" "_law_parts" s_lparts a_lparts d_lparts
  b_lparts : Binds K d_lparts P_lparts []
  g_lparts : mg "_law_parts" = some (.ref a_lparts)
  a_lraised : Addr
  d_lraised : FuncData
  F_lraised : Fun K "_law_raised" "_law_raised" s_lraised a_lraised d_lraised
  b_lraised : Binds K d_lraised P_lraised []
  g_lraised : mg "_law_raised" = some (.ref a_lraised)
  a_law : Addr
  d_law : FuncData
  F_law : Fun K "law" "law" s_law a_law d_law
  b_law : Binds K d_law P_law []
  g_law : mg "law" = some (.ref a_law)
  cl : Cls K C
  nD : NoAttr K C "_days"
  nS : NoAttr K C "_starts"
  mkR : Mk K C a_rinit
  gC : mg "Ring" = some (.ref C)
  dC : Addr
  clD : Cls K dC
  nRd : NoAttr K dC "_reader"
  nRg : NoAttr K dC "_rings"
  nOb : NoAttr K dC "_observations"
  mkD : Mk K dC a_dinit
  gD : mg "DaysObserver" = some (.ref dC)
  crdD : ClX.CRead K dC (.type "type")
  p_dfrom_log : Addr
  cmF : ClX.CMet K dC (.type "type") "from_log" p_dfrom_log a_dfrom_log
  bEnd : BMeth K dC "see_end" a_dsee_end
  bOpen : BMeth K dC "see_open" a_dsee_open
  mChk : Meth K dC "_check_reading" a_dcheck_reading
  mAcc : Meth K dC "_accept" a_daccept
  mPe : Meth K dC "possible_ends" a_dpossible_ends
  mTn : Meth K dC "telling_number" a_dtelling_number
  p_rdays : Addr
  q_rdays : PropOf K C "days" p_rdays a_rdays
  p_rstarts : Addr
  q_rstarts : PropOf K C "starts" p_rstarts a_rstarts
  p_rbooks : Addr
  q_rbooks : PropOf K C "books" p_rbooks a_rbooks
  p_rpace : Addr
  q_rpace : PropOf K C "pace" p_rpace a_rpace
  p_dpossible_days : Addr
  q_dpossible_days : PropOf K dC "possible_days" p_dpossible_days a_dpossible_days
  p_dobservations : Addr
  q_dobservations : PropOf K dC "observations" p_dobservations a_dobservations
  lenC : PySem.W.findIn K (.ref C) "__len__" = some (some (.ref a_rlen))
  lenF : PySem.W.isFn K (.ref a_rlen) = true
  callC : StX.CallO K C a_rcall
  mW : Meth K C "with_days" a_rwith_days
  c_LATEST : ∃ t, mg "LATEST" = some (.int 1000000000000000000 t)
  c_MOST_LIMIT : ∃ t, mg "MOST_LIMIT" = some (.int 500 t)
  c_FEWEST_READERS : ∃ t, mg "FEWEST_READERS" = some (.int 2 t)
  c_MOST_READERS : ∃ t, mg "MOST_READERS" = some (.int 8 t)
  c_MOST_DAYS : ∃ t, mg "MOST_DAYS" = some (.int 30 t)
  c_MOST_BOOKS : ∃ t, mg "MOST_BOOKS" = some (.int 12 t)
  z_len : mg "len" = none
  z_sum : mg "sum" = none
  z_max : mg "max" = none
  z_min : mg "min" = none
  z_range : mg "range" = none
  z_int : mg "int" = none
  z_bool : mg "bool" = none
  z_isinstance : mg "isinstance" = none
  z_tuple : mg "tuple" = none
  z_enumerate : mg "enumerate" = none
  z_list : mg "list" = none
  z_str : mg "str" = none
  z_sorted : mg "sorted" = none
  z_set : mg "set" = none
end Rp
namespace Rp
open PySem PySem.Spec PyProof.Rows L2 Rz Rm
/-! ### a ring as it stands -/
theorem ds_ne : ¬ (("_days" : Str) = "_starts") := by decide +kernel
def flds (td ts : Addr) : List (Str × V) := putF "_starts" (.ref ts) (putF "_days" (.ref td) [])
theorem flds_days (td ts : Addr) : (flds td ts).lookup ("_days" : Str) = some (.ref td) := by
  unfold flds
  rw [lookup_putF, if_neg ds_ne, lookup_putF, if_pos rfl]
theorem flds_starts (td ts : Addr) : (flds td ts).lookup ("_starts" : Str) = some (.ref ts) := by
  unfold flds
  rw [lookup_putF, if_pos rfl]
/-- days and books at first that make a ring -/
structure Good (ds ss : List Int) : Prop where
  l2 : 2 ≤ ds.length
  l8 : ds.length ≤ 8
  ls : ss.length = ds.length
  d1 : ∀ y ∈ ds, 1 ≤ y ∧ y ≤ 30
  s0 : ∀ y ∈ ss, 0 ≤ y ∧ y ≤ 12
  b1 : 1 ≤ ss.sum
  b12 : ss.sum ≤ 12
structure RingAt (C : Addr) (H : Hp) (p dx td ts : Addr) (ds ss : List Int) : Prop where
  ob : H p = some (.ins C dx (flds td ts))
  td : H td = some (.tup (ds.map V.int))
  ts : H ts = some (.tup (ss.map V.int))
  ok : Good ds ss
theorem RingAt.same {C : Addr} {H H' : Hp} {p dx td ts : Addr} {ds ss : List Int} (R : RingAt C H p dx td ts ds ss) (s : Same H H') : RingAt C H' p dx td ts ds ss :=
  ⟨s _ _ R.ob, s _ _ R.td, s _ _ R.ts, R.ok⟩
theorem sq_same {K : PySem.W.Frag} {H H' : Hp} {a : Addr} {xs : List V} (e : Same H H') (h : H a = some (.tup xs)) : SqT K H' a xs := .of (e _ _ h)
theorem same_upd {H : Hp} {p : Addr} {o : HO} (h : H p = none) : Same H (upd H p o) := fun b x e => by
  rw [upd_ne (ne_of_none e h)]
  exact e
section
variable {P : Program} {w : World} {K : PySem.W.Frag} {mg : Str → Option Value} {base : Heap}
/-! ### checks -/
/-- a number is one -/
def spIsNum : Sp := fun vs H Q _ => ∃ i : Int, vs = [.int i] ∧ Q (.bl true) H
theorem ok_is_number (T : Tx K mg) : FnOk P w K mg base CX0 1 T.a_is_number T.d_is_number P_is_number spIsNum := by
  refine T.F_is_number.ok sc_is_number (fun vs H Q E h => ?_) (fun cdv A outer s H vs Q E hr h => ?_)
  · obtain ⟨i, rfl, _⟩ := h
    rfl
  · obtain ⟨i, rfl, q⟩ := h
    refine ⟨_, pss_one (ps_ret (pe_and (pe_callB call_isi (by rfl) T.z_isinstance (by decide +kernel) (pa_cons (pv 0) (pa_cons (pe_bltn (v := .ty "int") (u := .type "int") (by rfl) T.z_int (by decide +kernel) rfl) pa_nil)))
      (pe_one (pe_not (pe_callB call_isi (by rfl) T.z_isinstance (by decide +kernel) (pa_cons (pv 0) (pa_cons (pe_bltn (v := .ty "bool") (u := .type "bool") (by rfl) T.z_bool (by decide +kernel) rfl) pa_nil))))))), ?_⟩
    refine ⟨.int i, rfl, .int i, .ty "int", .type "int", .type "int", true, rfl, .ty _, .base (.int i), kit_ty (by decide +kernel), true, rfl, iteT ?_⟩
    exact ⟨.int i, rfl, .int i, .ty "bool", .type "int", .type "bool", false, rfl, .ty _, .base (.int i), kit_ty (by decide +kernel), false, rfl, q⟩
def spLies : Sp := fun vs H Q _ => ∃ v lo hi : Int, vs = [.int v, .int lo, .int hi] ∧ Q (.bl (decide (lo ≤ v) && decide (v ≤ hi))) H
theorem ok_lies (T : Tx K mg) : FnOk P w K mg base CX0 2 T.a_lies_between T.d_lies_between P_lies_between spLies := by
  refine T.F_lies_between.ok sc_lies_between (fun vs H Q E h => ?_) (fun cdv A outer s H vs Q E hr h => ?_)
  · obtain ⟨v, lo, hi, rfl, _⟩ := h
    rfl
  · obtain ⟨v, lo, hi, rfl, q⟩ := h
    refine ⟨_, pss_one (ps_ret (pe_and (pe_call (ok_is_number T) hr (by rfl) T.g_is_number T.F_is_number.kp T.b_is_number .nil pass0 (pa_cons (pv 0) pa_nil)) (pe_one (pe_chain op_le op_le (pv 1) (pv 0) (pv 2))))), ?_⟩
    refine ⟨.int v, rfl, v, rfl, true, rfl, iteT ?_⟩
    refine ⟨.int lo, rfl, .int v, rfl, lo, v, rfl, rfl, decide (lo ≤ v), rfl, ?_⟩
    by_cases h : lo ≤ v
    · rw [decide_eq_true h] at q ⊢
      exact iteT ⟨.int hi, rfl, v, hi, rfl, rfl, q⟩
    · rw [decide_eq_false h] at q ⊢
      exact iteF q
theorem in_lim {v lo hi : Int} (h1 : lo ≤ v) (h2 : v ≤ hi) : (decide (lo ≤ v) && decide (v ≤ hi)) = true := by
  rw [decide_eq_true h1, decide_eq_true h2] <;> rfl
def spChk : Sp := fun vs H Q _ => ∃ v lo hi : Int, vs = [.int v, .int lo, .int hi] ∧ lo ≤ v ∧ v ≤ hi ∧ Q .non H
theorem ok_chk (T : Tx K mg) : FnOk P w K mg base CX0 3 T.a_check_number T.d_check_number P_check_number spChk := by
  refine T.F_check_number.ok sc_check_number (fun vs H Q E h => ?_) (fun cdv A outer s H vs Q E hr h => ?_)
  · obtain ⟨v, lo, hi, rfl, _⟩ := h
    rfl
  · obtain ⟨v, lo, hi, rfl, h1, h2, q⟩ := h
    refine ⟨_, pss_one (ps_if (pt_not (pt_val (pe_call (ok_lies T) hr (by rfl) T.g_lies_between T.F_lies_between.kp T.b_lies_between .nil pass0 (pa_cons (pv 0) (pa_cons (pv 1) (pa_cons (pv 2) pa_nil)))))) (pss_one ps_never) pss_nil), ?_⟩
    refine ⟨.int v, rfl, .int lo, rfl, .int hi, rfl, v, lo, hi, rfl, _, rfl, ?_⟩
    rw [in_lim h1 h2]
    exact iteF q
/-! ### the ring's own -/
def spLen (C : Addr) : Sp := fun vs H Q _ => ∃ p dx td ts ds ss, vs = [.ref p] ∧ RingAt C H p dx td ts ds ss ∧ Q (.int ds.length) H
theorem ok_len (T : Tx K mg) : FnOk P w K mg base CX0 1 T.a_rlen T.d_rlen P_rlen (spLen T.C) := by
  refine T.F_rlen.ok sc_rlen (fun vs H Q E h => ?_) (fun cdv A outer s H vs Q E hr h => ?_)
  · obtain ⟨p, dx, td, ts, ds, ss, rfl, _⟩ := h
    rfl
  · obtain ⟨p, dx, td, ts, ds, ss, rfl, R, q⟩ := h
    refine ⟨_, pss_one (ps_ret (pe_callB call_len_seq (by rfl) T.z_len PySem.boot_len (pa_cons (pe_fld (pv 0) rfl) pa_nil))), ?_⟩
    refine ⟨_, rfl, p, _, dx, _, _, rfl, R.ob, T.cl, T.nD, flds_days _ _, td, _, rfl, .inr (.of R.td), ?_⟩
    rw [List.length_map]
    exact q
def spDays (C : Addr) : Sp := fun vs H Q _ => ∃ p dx td ts ds ss, vs = [.ref p] ∧ RingAt C H p dx td ts ds ss ∧ Q (.ref td) H
def spStarts (C : Addr) : Sp := fun vs H Q _ => ∃ p dx td ts ds ss, vs = [.ref p] ∧ RingAt C H p dx td ts ds ss ∧ Q (.ref ts) H
def spBooks (C : Addr) : Sp := fun vs H Q _ => ∃ p dx td ts ds ss, vs = [.ref p] ∧ RingAt C H p dx td ts ds ss ∧ Q (.int ss.sum) H
theorem ok_days (T : Tx K mg) : FnOk P w K mg base CX0 1 T.a_rdays T.d_rdays P_rdays (spDays T.C) := by
  refine T.F_rdays.ok sc_rdays (fun vs H Q E h => ?_) (fun cdv A outer s H vs Q E hr h => ?_)
  · obtain ⟨p, dx, td, ts, ds, ss, rfl, _⟩ := h
    rfl
  · obtain ⟨p, dx, td, ts, ds, ss, rfl, R, q⟩ := h
    refine ⟨_, pss_one (ps_ret (pe_fld (pv 0) rfl)), ?_⟩
    exact ⟨_, rfl, p, _, dx, _, _, rfl, R.ob, T.cl, T.nD, flds_days _ _, q⟩
theorem ok_starts (T : Tx K mg) : FnOk P w K mg base CX0 1 T.a_rstarts T.d_rstarts P_rstarts (spStarts T.C) := by
  refine T.F_rstarts.ok sc_rstarts (fun vs H Q E h => ?_) (fun cdv A outer s H vs Q E hr h => ?_)
  · obtain ⟨p, dx, td, ts, ds, ss, rfl, _⟩ := h
    rfl
  · obtain ⟨p, dx, td, ts, ds, ss, rfl, R, q⟩ := h
    refine ⟨_, pss_one (ps_ret (pe_fld (pv 0) rfl)), ?_⟩
    exact ⟨_, rfl, p, _, dx, _, _, rfl, R.ob, T.cl, T.nS, flds_starts _ _, q⟩
theorem ok_books (T : Tx K mg) : FnOk P w K mg base CX0 1 T.a_rbooks T.d_rbooks P_rbooks (spBooks T.C) := by
  refine T.F_rbooks.ok sc_rbooks (fun vs H Q E h => ?_) (fun cdv A outer s H vs Q E hr h => ?_)
  · obtain ⟨p, dx, td, ts, ds, ss, rfl, _⟩ := h
    rfl
  · obtain ⟨p, dx, td, ts, ds, ss, rfl, R, q⟩ := h
    refine ⟨_, pss_one (ps_ret (pe_callB (cr_sumT rfl) (by rfl) T.z_sum (by decide +kernel) (pa_cons (pe_fld (pv 0) rfl) pa_nil))), ?_⟩
    exact ⟨_, rfl, p, _, dx, _, _, rfl, R.ob, T.cl, T.nS, flds_starts _ _, ts, ss, rfl, .of R.ts, q⟩
/-! ### check_reader -/
def spReader (C : Addr) : Sp := fun vs H Q _ => ∃ p dx td ts ds ss, ∃ r : Int, vs = [.ref p, .int r] ∧ RingAt C H p dx td ts ds ss ∧ 0 ≤ r ∧ r < ds.length ∧ Q .non H
theorem ok_reader (T : Tx K mg) : FnOk P w K mg base CX0 3 T.a_check_reader T.d_check_reader P_check_reader (spReader T.C) := by
  refine T.F_check_reader.ok sc_check_reader (fun vs H Q E h => ?_) (fun cdv A outer s H vs Q E hr h => ?_)
  · obtain ⟨p, dx, td, ts, ds, ss, r, rfl, _⟩ := h
    rfl
  · obtain ⟨p, dx, td, ts, ds, ss, r, rfl, R, h1, h2, q⟩ := h
    refine ⟨_, pss_one (ps_if (pt_not (pt_val (pe_call (ok_lies T) hr (by rfl) T.g_lies_between T.F_lies_between.kp T.b_lies_between .nil pass0
      (pa_cons (pv 1) (pa_cons pe_int (pa_cons (pe_op op_sub (pe_callB (call_lenI T.lenC T.lenF ((ok_len T).raw T.b_rlen .nil) hr pass0) (by rfl) T.z_len PySem.boot_len (pa_cons (pv 0) pa_nil)) pe_int) pa_nil)))))) (pss_one ps_never) pss_nil), ?_⟩
    have hl := R.ok.l8
    refine ⟨.int r, rfl, .ref p, rfl, p, dx, _, rfl, R.ob, p, dx, td, ts, ds, ss, rfl, R, (ds.length : Int), rfl, by omega, by omega, _, _, rfl, rfl, ?_⟩
    refine ⟨r, 0, (ds.length : Int) - 1, rfl, _, rfl, ?_⟩
    rw [in_lim h1 (show r ≤ (ds.length : Int) - 1 by omega)]
    exact iteF q
end
end Rp
namespace Rp
open PySem PySem.Spec PyProof.Rows L2 Rz Rm
/-! ### the pace -/
/-- days that readers need -/
structure Dys (ds : List Int) : Prop where
  ne : 0 < ds.length
  d1 : ∀ y ∈ ds, 1 ≤ y
theorem Good.dys {ds ss : List Int} (G : Good ds ss) : Dys ds := ⟨by have := G.l2; omega, fun y h => (G.d1 y h).1⟩
def mx (ds : List Int) : Int := ds.foldr max 0
theorem mx_nn : ∀ ds : List Int, 0 ≤ mx ds
  | [] => Int.le_refl _
  | a :: r => by
    have := mx_nn r
    show 0 ≤ max a (mx r)
    omega
theorem le_mx : ∀ {ds : List Int} {y : Int}, y ∈ ds → y ≤ mx ds
  | a :: r, y, h => by
    show y ≤ max a (mx r)
    rcases List.mem_cons.mp h with e | e
    · omega
    · have := le_mx e
      omega
theorem mx_le : ∀ {ds : List Int} {M : Int}, 0 ≤ M → (∀ y ∈ ds, y ≤ M) → mx ds ≤ M
  | [], _, h, _ => h
  | a :: r, M, h, hu => by
    have h1 := hu a List.mem_cons_self
    have h2 := mx_le (ds := r) h fun y hy => hu y (List.mem_cons_of_mem _ hy)
    show max a (mx r) ≤ M
    omega
theorem mx_eq {ds : List Int} {M : Int} (D : Dys ds) (hM : M ∈ ds) (hMu : ∀ y ∈ ds, y ≤ M) : mx ds = M :=
  Int.le_antisymm (mx_le (by have := D.d1 M hM; omega) hMu) (le_mx hM)
theorem mx_mem : ∀ {ds : List Int}, ds ≠ [] → (∀ y ∈ ds, 0 ≤ y) → mx ds ∈ ds
  | [], h, _ => absurd rfl h
  | [a], _, h => by
    have h1 := h a (by simp)
    show max a 0 ∈ [a]
    rw [show max a 0 = a by omega]
    simp
  | a :: b :: r, _, h => by
    have ih := mx_mem (ds := b :: r) (by simp) fun y hy => h y (List.mem_cons_of_mem _ hy)
    show max a (mx (b :: r)) ∈ a :: b :: r
    by_cases c : a ≤ mx (b :: r)
    · rw [show max a (mx (b :: r)) = mx (b :: r) by omega]
      exact List.mem_cons_of_mem _ ih
    · rw [show max a (mx (b :: r)) = a by omega]
      exact List.mem_cons_self
theorem Dys.mem {ds : List Int} (D : Dys ds) : mx ds ∈ ds := mx_mem (fun e => by
  have := D.ne
  rw [e] at this
  exact absurd this (Nat.lt_irrefl _)) fun y h => by have := D.d1 y h; omega
def gq (ds : List Int) (b : Int) : Int := ((Nat.gcd ds.sum.natAbs b.natAbs : Nat) : Int)
/-- the pace's two numbers -/
def pX (ds : List Int) (b : Int) : Int := if ds.sum ≤ mx ds * b then mx ds else ds.sum / gq ds b
def pY (ds : List Int) (b : Int) : Int := if ds.sum ≤ mx ds * b then 1 else b / gq ds b
theorem gq_facts {ds : List Int} {b : Int} (h : 1 ≤ b) : 1 ≤ gq ds b ∧ gq ds b ≤ b ∧ gq ds b ∣ ds.sum ∧ gq ds b ∣ b := by
  have g0 : 0 < Nat.gcd ds.sum.natAbs b.natAbs := Nat.gcd_pos_of_pos_right _ (by omega)
  have gle : Nat.gcd ds.sum.natAbs b.natAbs ≤ b.natAbs := Nat.le_of_dvd (by omega) (Nat.gcd_dvd_right _ _)
  unfold gq
  exact ⟨by omega, by omega, Int.ofNat_dvd_left.mpr (Nat.gcd_dvd_left _ _), Int.ofNat_dvd_left.mpr (Nat.gcd_dvd_right _ _)⟩
section
variable {P : Program} {w : World} {K : PySem.W.Frag} {mg : Str → Option Value} {base : Heap}
/-! ### check_part -/
def spPart : Sp := fun vs H Q _ => ∃ (part : Str) (v l n : Addr) (ns : List Int) (lo hi f m : Int), vs = [.str part, .ref v, .ref l, .ref n] ∧ H v = some (.tup (ns.map V.int)) ∧ H l = some (.tup [.int lo, .int hi]) ∧ H n = some (.tup [.int f, .int m]) ∧
  (∀ y ∈ ns, lo ≤ y ∧ y ≤ hi) ∧ f ≤ ns.length ∧ (ns.length : Int) ≤ m ∧ ∀ H', Same H H' → Q .non H'
theorem get_int {ns : List Int} {i : Nat} {y : V} (h : (ns.map V.int)[i]? = some y) : ∃ z, ns[i]? = some z ∧ y = .int z := by
  rw [List.getElem?_map] at h
  cases e : ns[i]? with
  | none =>
    rw [e] at h
    cases h
  | some z =>
    rw [e] at h
    exact ⟨z, rfl, (Option.some.inj h).symm⟩
theorem ok_part (T : Tx K mg) : FnOk P w K mg base CX0 3 T.a_check_part T.d_check_part P_check_part spPart := by
  refine T.F_check_part.ok sc_check_part (fun vs H Q E h => ?_) (fun cdv A outer s H vs Q E hr h => ?_)
  · obtain ⟨part, v, l, n, ns, lo, hi, f, m, rfl, _⟩ := h
    rfl
  · obtain ⟨part, v, l, n, ns, lo, hi, f, m, rfl, hv, hl, hn, hall, hf, hm, q⟩ := h
    have nd := sc_check_part.nd
    refine ⟨_, pss_cons (ps_if (pt_not (pt_val (pe_callB call_isi (by rfl) T.z_isinstance (by decide +kernel) (pa_cons (pv 1) (pa_cons (pe_bltn (v := .ty "tuple") (u := .type "tuple") (by rfl) T.z_tuple (by decide +kernel) rfl) pa_nil))))) (pss_one ps_never) pss_nil)
      (pss_cons (ps_asg (pv 2) (pg_tup rfl (pgs_cons (pg_name (i := 4) nd rfl (.inl rfl)) (pgs_cons (pg_name (i := 5) nd rfl (.inl rfl)) pgs_nil))))
      (pss_cons (ps_asg (pv 3) (pg_tup rfl (pgs_cons (pg_name (i := 6) nd rfl (.inl rfl)) (pgs_cons (pg_name (i := 7) nd rfl (.inl rfl)) pgs_nil))))
      (pss_cons (ps_for PassesOwn.never rfl (pi_enumT (by rfl) T.z_enumerate (pa_cons (pv 1) pa_nil)) (pg_tup rfl (pgs_cons (pg_name (i := 8) nd rfl (.inl rfl)) (pgs_cons (pg_name (i := 9) nd rfl (.inl rfl)) pgs_nil)))
        (pss_one (ps_if (PW.pt (pw_or (pt_cmpR op_ge (pv 8) (pv 7) (nomark _)) (pw_or1 (pt_not (pt_val (pe_call (ok_lies T) hr (by rfl) T.g_lies_between T.F_lies_between.kp T.b_lies_between .nil pass0 (pa_cons (pv 9) (pa_cons (pv 4) (pa_cons (pv 5) pa_nil)))))))))
          (pss_one ps_never) pss_nil)))
      (pss_one (ps_if (pt_cmpR op_lt (pe_callB call_len_seq (by rfl) T.z_len PySem.boot_len (pa_cons (pv 1) pa_nil)) (pv 6) (nomark _)) (pss_one ps_never) pss_nil))))), ?_⟩
    -- isinstance(values, tuple)
    refine ⟨.ref v, rfl, .ref v, .ty "tuple", .type "tuple", .type "tuple", true, rfl, .ty _, .base (.tup hv), kit_ty (by decide +kernel), true, rfl, iteF ?_⟩
    -- low, high = limits; fewest, most = lengths
    refine ⟨.ref l, rfl, l, _, rfl, .of hl, rfl, _, _, rfl, _, _, rfl, rfl, ?_⟩
    refine ⟨.ref n, rfl, n, _, rfl, .of hn, rfl, _, _, rfl, _, _, rfl, rfl, ?_⟩
    -- for index, value in enumerate(values)
    refine ⟨.ref v, rfl, v, _, rfl, .of hv, for_it walk_enumT (fun i σ H' => ∃ y8 y9, σ = [some (.str part), some (.ref v), some (.ref l), some (.ref n), some (.int lo), some (.int hi), some (.int f), some (.int m), y8, y9] ∧ Same H H')
      ⟨none, none, rfl, Same.refl H⟩ (fun i σ H' _ ⟨_, _, _, sm⟩ => sq_same sm hv) ?_ ?_⟩
    · rintro i x σ H1 H2 hi1 ⟨y8, y9, rfl, sm⟩ ⟨t, a, b, rfl, nt, rfl, ha, hb⟩
      have ha' : a = .int (i : Nat) := (Option.some.inj ha).symm
      subst ha'
      obtain ⟨z, hz, rfl⟩ := get_int hb
      rw [List.length_map] at hi1
      have hz2 := hall z (List.mem_of_getElem? hz)
      refine ⟨t, _, rfl, .of upd_same, rfl, _, _, rfl, _, _, rfl, rfl, ?_⟩
      refine ⟨.int (i : Nat), rfl, .int m, rfl, _, _, rfl, rfl, _, rfl, ?_⟩
      rw [decide_eq_false (show ¬ m ≤ ((i : Nat) : Int) by omega)]
      refine iteF ?_
      refine ⟨.int z, rfl, .int lo, rfl, .int hi, rfl, z, lo, hi, rfl, _, rfl, ?_⟩
      rw [in_lim hz2.1 hz2.2]
      exact iteF ⟨_, _, rfl, sm.trans (same_upd nt)⟩
    · rintro σ H1 ⟨y8, y9, rfl, sm⟩
      refine ⟨.ref v, rfl, v, _, rfl, .inr (sq_same sm hv), .int f, rfl, _, _, rfl, rfl, _, rfl, ?_⟩
      rw [List.length_map, decide_eq_false (show ¬ (ns.length : Int) < f by omega)]
      exact iteF (q H1 sm)
/-! ### Ring.__init__ -/
def spInit (C : Addr) : Sp := fun vs H Q _ => ∃ (p dx td ts : Addr) (ds ss : List Int), vs = [.ref p, .ref td, .ref ts] ∧ H p = some (.ins C dx []) ∧ H td = some (.tup (ds.map V.int)) ∧ H ts = some (.tup (ss.map V.int)) ∧ Good ds ss ∧
  ∀ H', RingAt C H' p dx td ts ds ss → (∀ b o, H b = some o → b ≠ p → H' b = some o) → Q .non H'
theorem ok_init (T : Tx K mg) : FnOk P w K mg base CX0 4 T.a_rinit T.d_rinit P_rinit (spInit T.C) := by
  refine T.F_rinit.ok sc_rinit (fun vs H Q E h => ?_) (fun cdv A outer s H vs Q E hr h => ?_)
  · obtain ⟨p, dx, td, ts, ds, ss, rfl, _⟩ := h
    rfl
  · obtain ⟨p, dx, td, ts, ds, ss, rfl, hp, hd, hs, G, q⟩ := h
    obtain ⟨u1, c1⟩ := T.c_MOST_DAYS
    obtain ⟨u2, c2⟩ := T.c_FEWEST_READERS
    obtain ⟨u3, c3⟩ := T.c_MOST_READERS
    obtain ⟨u4, c4⟩ := T.c_MOST_BOOKS
    have l2 := G.l2
    have l8 := G.l8
    have ls := G.ls
    refine ⟨_, pss_cons (ps_expr (pe_call (ok_part T) hr (by rfl) T.g_check_part T.F_check_part.kp T.b_check_part .nil pass0 (pa_cons pe_str (pa_cons (pv 1) (pa_cons (pe_tup (pa_cons pe_int (pa_cons (pe_glob (v := .int 30) (by rfl) c1 ⟨_, rfl⟩) pa_nil))) (pa_cons (pe_tup (pa_cons (pe_glob (v := .int 2) (by rfl) c2 ⟨_, rfl⟩) (pa_cons (pe_glob (v := .int 8) (by rfl) c3 ⟨_, rfl⟩) pa_nil))) pa_nil))))))
      (pss_cons (ps_expr (pe_call (ok_part T) hr (by rfl) T.g_check_part T.F_check_part.kp T.b_check_part .nil pass0 (pa_cons pe_str (pa_cons (pv 2) (pa_cons (pe_tup (pa_cons pe_int (pa_cons (pe_glob (v := .int 12) (by rfl) c4 ⟨_, rfl⟩) pa_nil)))
        (pa_cons (pe_tup (pa_cons (pe_callB call_len_seq (by rfl) T.z_len PySem.boot_len (pa_cons (pv 1) pa_nil)) (pa_cons (pe_callB call_len_seq (by rfl) T.z_len PySem.boot_len (pa_cons (pv 1) pa_nil)) pa_nil))) pa_nil))))))
      (pss_cons (ps_if (pt_not (pt_chain op_le op_le pe_int (pe_callB (cr_sumT rfl) (by rfl) T.z_sum (by decide +kernel) (pa_cons (pv 2) pa_nil)) (pe_glob (v := .int 12) (by rfl) c4 ⟨_, rfl⟩))) (pss_one ps_never) pss_nil)
      (pss_cons (ps_fld (pv 0) (pe_callTy call_tupleT (by rfl) T.z_tuple (by decide +kernel) (pa_cons (pv 1) pa_nil)) rfl)
      (pss_one (ps_fld (pv 0) (pe_callTy call_tupleT (by rfl) T.z_tuple (by decide +kernel) (pa_cons (pv 2) pa_nil)) rfl))))), ?_⟩
    -- check_part("days", ..)
    refine ⟨.ref td, rfl, (by show 2 ≤ sizeLine; decide), fun a1 h1 => ⟨(by show 2 ≤ sizeLine; decide), fun a2 h2 => ?_⟩⟩
    have s1 := same_upd (o := .tup [.int 1, .int 30]) h1
    have s2 := same_upd (o := .tup [.int 2, .int 8]) h2
    refine ⟨_, td, a1, a2, ds, 1, 30, 2, 8, rfl, s2 _ _ (s1 _ _ hd), s2 _ _ upd_same, upd_same, G.d1, by omega, by omega, fun H1 s3 => ?_⟩
    have t1 : Same H H1 := (s1.trans s2).trans s3
    -- check_part("starts", ..)
    refine ⟨.ref ts, rfl, (by show 2 ≤ sizeLine; decide), fun a3 h3 => ?_⟩
    have s4 := same_upd (o := .tup [.int 0, .int 12]) h3
    refine ⟨.ref td, rfl, td, _, rfl, .inr (sq_same (t1.trans s4) hd), .ref td, rfl, td, _, rfl, .inr (sq_same (t1.trans s4) hd), (by show 2 ≤ sizeLine; decide), fun a4 h4 => ?_⟩
    have s5 := same_upd (o := .tup [.int ((ds.map V.int).length : Nat), .int ((ds.map V.int).length : Nat)]) h4
    refine ⟨_, ts, a3, a4, ss, 0, 12, ((ds.map V.int).length : Nat), ((ds.map V.int).length : Nat), rfl, s5 _ _ (s4 _ _ (t1 _ _ hs)), s5 _ _ upd_same, upd_same, G.s0, by rw [List.length_map]; omega, by rw [List.length_map]; omega, fun H2 s6 => ?_⟩
    have t2 : Same H H2 := ((t1.trans s4).trans s5).trans s6
    -- not 1 <= sum(starts) <= MOST_BOOKS
    refine ⟨.ref ts, rfl, ts, ss, rfl, sq_same t2 hs, _, _, rfl, rfl, _, rfl, ?_⟩
    rw [decide_eq_true G.b1]
    refine iteT ⟨_, _, rfl, rfl, _, rfl, ?_⟩
    rw [decide_eq_true G.b12]
    refine iteF ?_
    -- the two attributes
    refine ⟨.ref td, rfl, td, _, rfl, sq_same t2 hd, _, rfl, p, T.C, dx, [], rfl, t2 _ _ hp, T.cl, T.nD, (by show 0 < 1000; decide), ?_⟩
    have npt : ts ≠ p := ne_of hs hp (by intro z; cases z)
    have npd : td ≠ p := ne_of hd hp (by intro z; cases z)
    refine ⟨.ref ts, rfl, ts, ss.map V.int, rfl, .of (by rw [upd_ne npt]; exact t2 _ _ hs), _, rfl, p, T.C, dx, _, rfl, upd_same, T.cl, T.nS, (by show 1 < 1000; decide), ?_⟩
    refine q _ ⟨upd_same, by rw [upd_ne npd, upd_ne npd]; exact t2 _ _ hd, by rw [upd_ne npt, upd_ne npt]; exact t2 _ _ hs, G⟩ fun b o e hb => ?_
    rw [upd_ne hb, upd_ne hb]
    exact t2 _ _ e
end
end Rp
namespace Rp
open PySem PySem.Spec PyProof.Rows L2 Rz Rm
theorem at_ix {ds : List Int} {z : Int} (h1 : -(ds.length : Int) ≤ z) (h2 : z < ds.length) : atI (ds.map V.int) z = some (.int (at' ds z)) := by
  have hl : 0 < ds.length := by omega
  have h0 := Int.emod_nonneg z (show (ds.length : Int) ≠ 0 by omega)
  have hlt := Int.emod_lt_of_pos z (show (0 : Int) < ds.length by omega)
  have e : ixN (ds.map V.int).length z = some (z % (ds.length : Int)).toNat := by
    unfold ixN
    rw [List.length_map]
    by_cases h : 0 ≤ z
    · rw [if_pos h, if_pos h2, Int.emod_eq_of_lt h h2]
    · rw [if_neg h, if_pos h1]
      have e2 := Int.add_mul_emod_self_left z (ds.length : Int) 1
      rw [Int.mul_one, Int.emod_eq_of_lt (a := z + ds.length) (by omega) (by omega)] at e2
      rw [e2]
  unfold atI
  rw [e]
  show (ds.map V.int)[(z % (ds.length : Int)).toNat]? = _
  rw [List.getElem?_map]
  unfold at'
  rw [List.getD_eq_getElem?_getD, List.getElem?_eq_getElem (show (z % (ds.length : Int)).toNat < ds.length by omega)]
  rfl
theorem Good.ring {ds ss : List Int} (G : Good ds ss) {M : Int} (hM : M ∈ ds) (hMu : ∀ y ∈ ds, y ≤ M) : Rm.Ring ds.length (at' ds) (at' ss) ss.sum ds.sum M :=
  ring_of (by have := G.l2; omega) G.ls (fun y h => (G.d1 y h).1) (fun y h => (G.s0 y h).1) G.b1 hM hMu
theorem exists_max : ∀ {ds : List Int}, ds ≠ [] → ∃ M, M ∈ ds ∧ ∀ y ∈ ds, y ≤ M
  | [], h => absurd rfl h
  | [a], _ => ⟨a, by simp, by simp⟩
  | a :: b :: r, _ => by
    obtain ⟨M, h1, h2⟩ := exists_max (ds := b :: r) (by simp)
    by_cases h : a ≤ M
    · exact ⟨M, List.mem_cons_of_mem _ h1, fun y hy => by
        rcases List.mem_cons.mp hy with e | e
        · omega
        · exact h2 y e⟩
    · exact ⟨a, List.mem_cons_self, fun y hy => by
        rcases List.mem_cons.mp hy with e | e
        · omega
        · have := h2 y e; omega⟩
theorem Good.max {ds ss : List Int} (G : Good ds ss) : ∃ M, M ∈ ds ∧ ∀ y ∈ ds, y ≤ M := exists_max (by
  intro e
  have := G.l2
  rw [e] at this
  simp at this)
theorem sum_bounds : ∀ {ds : List Int}, (∀ y ∈ ds, 1 ≤ y ∧ y ≤ 30) → (ds.length : Int) ≤ ds.sum ∧ ds.sum ≤ 30 * ds.length
  | [], _ => by simp
  | a :: r, h => by
    have h1 := h a List.mem_cons_self
    have ih := sum_bounds (ds := r) fun y hy => h y (List.mem_cons_of_mem _ hy)
    rw [List.sum_cons, List.length_cons]
    omega
theorem max_if (i j : Int) : (if j > i then j else i) = max i j := by
  by_cases h : j > i
  · rw [if_pos h]
    omega
  · rw [if_neg h]
    omega
section
variable {P : Program} {w : World} {K : PySem.W.Frag} {mg : Str → Option Value} {base : Heap}
/-! ### end_day -/
def spEnd (C : Addr) : Sp := fun vs H Q _ => ∃ p dx td ts ds ss, ∃ r x : Int, vs = [.ref p, .int r, .int x] ∧ RingAt C H p dx td ts ds ss ∧ 0 ≤ r ∧ r < ds.length ∧ 0 ≤ x ∧ Q (.int (Rm.E (at' ds) (at' ss) r x)) H
/-- the loop's slots ahead of step i -/
def edS (p : Addr) (r x B M g L : Int) (ds ss : List Int) (i : Nat) (y10 y11 : Option V) : L2.St :=
  [some (.ref p), some (.int r), some (.int x), some (.int B), some (.int M), some (.int g), some (.int L), some (.int (sumBack (at' ds) r i)), some (.int (if i = 0 then 0 else maxBack (at' ds) r (i - 1))), some (.int (x - sumBack (at' ss) r i)), y10, y11]
theorem met_next {ds : List Int} (h1 : ∀ i, 1 ≤ at' ds i) (r : Int) (i : Nat) : (if at' ds (r - i) > (if i = 0 then 0 else maxBack (at' ds) r (i - 1)) then at' ds (r - i) else (if i = 0 then 0 else maxBack (at' ds) r (i - 1))) = maxBack (at' ds) r i := by
  rw [max_if]
  cases i with
  | zero =>
    have := h1 (r - (0 : Nat))
    show max 0 (at' ds (r - (0 : Nat))) = at' ds r
    rw [show r - ((0 : Nat) : Int) = r by omega] at this ⊢
    omega
  | succ i =>
    rw [if_neg (Nat.succ_ne_zero i)]
    show max (maxBack (at' ds) r i) (at' ds (r - (i + 1 : Nat))) = max (maxBack (at' ds) r i) (at' ds (r - (i + 1 : Nat)))
    rfl
theorem ok_end (T : Tx K mg) : FnOk P w K mg base CX0 3 T.a_end_day T.d_end_day P_end_day (spEnd T.C) := by
  refine T.F_end_day.ok sc_end_day (fun vs H Q E h => ?_) (fun cdv A outer s H vs Q E hr h => ?_)
  · obtain ⟨p, dx, td, ts, ds, ss, r, x, rfl, _⟩ := h
    rfl
  · obtain ⟨p, dx, td, ts, ds, ss, r, x, rfl, R, r0, r1, x0, q⟩ := h
    have nd := sc_end_day.nd
    have G := R.ok
    have l2 := G.l2
    have l8 := G.l8
    have ls := G.ls
    have rdD : ∀ {Q' : VK} {E' : XK}, Q' (.ref td) H → spDays T.C [.ref p] H Q' E' := fun z => ⟨p, dx, td, ts, ds, ss, rfl, R, z⟩
    have rdS : ∀ {Q' : VK} {E' : XK}, Q' (.ref ts) H → spStarts T.C [.ref p] H Q' E' := fun z => ⟨p, dx, td, ts, ds, ss, rfl, R, z⟩
    refine ⟨_, pss_cons (ps_set (i := 3) nd rfl (.inl rfl) (pe_prop (pv 0) T.cl T.q_rbooks (ok_books T) hr T.b_rbooks .nil pass0 rfl))
      (pss_cons (ps_set (i := 4) nd rfl (.inl rfl) (pe_callB (cr_maxT rfl) (by rfl) T.z_max (by decide +kernel) (pa_cons (pe_prop (pv 0) T.cl T.q_rdays (ok_days T) hr T.b_rdays .nil pass0 rfl) pa_nil)))
      (pss_cons (ps_set (i := 5) nd rfl (.inl rfl) (pe_op op_sub (pe_callB (cr_sumT rfl) (by rfl) T.z_sum (by decide +kernel) (pa_cons (pe_prop (pv 0) T.cl T.q_rdays (ok_days T) hr T.b_rdays .nil pass0 rfl) pa_nil)) (pe_op op_mul (pv 3) (pv 4))))
      (pss_cons (ps_asg3 pe_int (pg_name (i := 6) nd rfl (.inl rfl)) (pg_name (i := 7) nd rfl (.inl rfl)) (pg_name (i := 8) nd rfl (.inl rfl)))
      (pss_cons (ps_set (i := 9) nd rfl (.inl rfl) (pv 2))
      (pss_cons (ps_for PassesOwn.never rfl (pi_range1 (by rfl) T.z_range (pa_cons (pe_callB (call_lenI T.lenC T.lenF ((ok_len T).raw T.b_rlen .nil) hr pass0) (by rfl) T.z_len PySem.boot_len (pa_cons (pv 0) pa_nil)) pa_nil)) (pg_name (i := 10) nd rfl (.inl rfl))
        (pss_cons (ps_aug (i := 7) nd rfl (.inl rfl) (pe_ix ix_tup (pe_prop (pv 0) T.cl T.q_rdays (ok_days T) hr T.b_rdays .nil pass0 rfl) (pe_op op_sub (pv 1) (pv 10)) (fun _ _ => rfl)) ip_add)
        (pss_cons (ps_set (i := 8) nd rfl (.inl rfl) (pe_callB (call_max2 rfl) (by rfl) T.z_max (by decide +kernel) (pa_cons (pv 8) (pa_cons (pe_ix ix_tup (pe_prop (pv 0) T.cl T.q_rdays (ok_days T) hr T.b_rdays .nil pass0 rfl) (pe_op op_sub (pv 1) (pv 10)) (fun _ _ => rfl)) pa_nil))))
        (pss_cons (ps_set (i := 6) nd rfl (.inl rfl) (pe_callB (call_max2 rfl) (by rfl) T.z_max (by decide +kernel) (pa_cons (pv 6) (pa_cons (pe_op op_add (pv 7) (pe_op op_mul (pv 9) (pv 8))) pa_nil))))
        (pss_cons (ps_if (pt_cmpR op_ge (pv 9) (pv 3) (nomark _))
          (pss_cons (ps_set (i := 11) nd rfl (.inl rfl) (pe_ifExp (pt_cmpR op_gt (pv 5) pe_int (nomark _)) (pe_op op_fdiv (pv 9) (pv 3)) pe_int))
          (pss_one (ps_set (i := 6) nd rfl (.inl rfl) (pe_callB (call_max2 rfl) (by rfl) T.z_max (by decide +kernel) (pa_cons (pv 6) (pa_cons (pe_op op_add (pe_op op_add (pv 7) (pe_op op_mul (pv 9) (pv 4))) (pe_op op_mul (pv 11) (pv 5))) pa_nil)))))) pss_nil)
        (pss_cons (ps_aug (i := 9) nd rfl (.inl rfl) (pe_ix ix_tup (pe_prop (pv 0) T.cl T.q_rstarts (ok_starts T) hr T.b_rstarts .nil pass0 rfl) (pe_op op_sub (pv 1) (pv 10)) (fun _ _ => rfl)) ip_sub)
        (pss_one (ps_if (pt_cmpR op_lt (pv 9) pe_int (nomark _)) (pss_one ps_break) pss_nil))))))))
      (pss_one (ps_ret (pv 6)))))))), ?_⟩
    -- books, slowest, gain
    refine ⟨.ref p, rfl, p, dx, _, rfl, R.ob, p, dx, td, ts, ds, ss, rfl, R, ?_⟩
    refine ⟨.ref p, rfl, p, dx, _, rfl, R.ob, rdD ⟨td, ds, rfl, .of R.td, by omega, fun M hM hMu => ?_⟩⟩
    have RR := G.ring hM hMu
    have b1 := G.b1
    have b12 := G.b12
    have hM30 := G.d1 M hM
    have hT := sum_bounds G.d1
    have hBM : 0 ≤ ss.sum * M ∧ ss.sum * M ≤ 360 := by
      constructor
      · exact Int.mul_nonneg (by omega) (by omega)
      · have := Int.mul_le_mul_of_nonneg_right b12 (show 0 ≤ M by omega)
        omega
    refine ⟨.ref p, rfl, p, dx, _, rfl, R.ob, rdD ⟨td, ds, rfl, .of R.td, .int ss.sum, rfl, .int M, rfl, _, _, rfl, rfl, .inl ⟨by omega, by omega⟩, _, _, rfl, rfl, ?_⟩⟩
    -- latest = total = slowest_met = 0; left = number
    refine ⟨.int x, rfl, ?_⟩
    -- for step in range(len(ring))
    refine ⟨.ref p, rfl, p, dx, _, rfl, R.ob, p, dx, td, ts, ds, ss, rfl, R, (ds.length : Int), rfl, by omega, by omega, (ds.length : Int), rfl, by omega, by omega, for_range (lo := 0) (n := ((ds.length : Int) - 0).toNat)
      (fun i σ H' => H' = H ∧ ∃ L y10 y11, σ = edS p r x ss.sum M (ds.sum - ss.sum * M) L ds ss i y10 y11 ∧ sumBack (at' ss) r i ≤ x ∧ Sofar ds.length (at' ds) (at' ss) r x i L)
      ⟨rfl, 0, none, none, ?_, ?_, RR.sofar0 r x⟩ ?_ ?_⟩
    · show _ = ([some (.ref p), some (.int r), some (.int x), some (.int ss.sum), some (.int M), some (.int (ds.sum - ss.sum * M)), some (.int 0), some (.int 0), some (.int 0), some (.int (x - 0)), none, none] : L2.St)
      rw [show x - 0 = x by omega]
      rfl
    · show (0 : Int) ≤ x
      exact x0
    · rintro i σ H1 hi ⟨rfl, L, y10, y11, rfl, hle, SF⟩
      have hin : i < ds.length := by omega
      have e0 : (0 : Int) + (i : Int) = i := by omega
      have hix : atI (ds.map V.int) (r - (0 + (i : Int))) = some (.int (at' ds (r - i))) := by
        rw [e0]
        exact at_ix (by omega) (by omega)
      have hix2 : atI (ss.map V.int) (r - (0 + (i : Int))) = some (.int (at' ss (r - i))) := by
        rw [e0]
        exact at_ix (by omega) (by omega)
      -- total
      refine ⟨.int (sumBack (at' ds) r i), rfl, .ref p, rfl, p, dx, _, rfl, R.ob, rdD ⟨.int r, rfl, _, rfl, _, _, rfl, rfl, td, _, _, _, rfl, rfl, .of R.td, hix, _, _, rfl, rfl, ?_⟩⟩
      -- slowest_met
      refine ⟨_, rfl, .ref p, rfl, p, dx, _, rfl, R.ob, rdD ⟨.int r, rfl, _, rfl, _, _, rfl, rfl, td, _, _, _, rfl, rfl, .of R.td, hix, _, _, rfl, ?_⟩⟩
      rw [met_next RR.d1 r i]
      have hm1 : maxBack (at' ds) r i ≤ M := max_le RR.mu r i
      have hm0 : 1 ≤ maxBack (at' ds) r i := by
        have h1 := max_ge (f := at' ds) r (j := 0) (k := i) (Nat.zero_le _)
        have h2 := RR.d1 (r - (0 : Nat))
        omega
      -- latest
      refine ⟨.int L, rfl, .int (sumBack (at' ds) r (i + 1)), rfl, .int (x - sumBack (at' ss) r i), rfl, .int (maxBack (at' ds) r i), rfl, _, _, rfl, rfl, .inr ⟨by omega, by omega⟩, _, _, rfl, rfl, _, _, rfl, ?_⟩
      rw [max_if]
      have hch : sumBack (at' ds) r (i + 1) + (x - sumBack (at' ss) r i) * maxBack (at' ds) r i = ch (at' ds) (at' ss) r i x := rfl
      rw [hch]
      have hs : sumBack (at' ss) r (i + 1) = sumBack (at' ss) r i + at' ss (r - i) := rfl
      -- the end of a turn
      have fin : ∀ (L2 : Int) (y11' : Option V), Sofar ds.length (at' ds) (at' ss) r x (i + 1) L2 → tSeq (tAug 9 (tOp (rIxT K) (tProp T.C (spStarts T.C) [] E0 (tVar 0)) (tOp (rI0 fun i j => .int (i - j)) (tVar 1) (tVar 10))) (ipI fun i j => i - j)) (tIfS (tTest (tOp (rI0 fun i j => .bl (decide (i < j))) (tVar 9) (tC (.int 0)))) tBreak tNext)
          { nx := fun σ H' => H' = H1 ∧ ∃ L y10 y11, σ = edS p r x ss.sum M (ds.sum - ss.sum * M) L ds ss (i + 1) y10 y11 ∧ sumBack (at' ss) r (i + 1) ≤ x ∧ Sofar ds.length (at' ds) (at' ss) r x (i + 1) L,
            ct := fun σ H' => H' = H1 ∧ ∃ L y10 y11, σ = edS p r x ss.sum M (ds.sum - ss.sum * M) L ds ss (i + 1) y10 y11 ∧ sumBack (at' ss) r (i + 1) ≤ x ∧ Sofar ds.length (at' ds) (at' ss) r x (i + 1) L,
            rt := Q, bk := fun σ H' => tRet (tVar 6) { nx := fun _ H' => Q .non H', rt := Q } σ H' }
          [some (.ref p), some (.int r), some (.int x), some (.int ss.sum), some (.int M), some (.int (ds.sum - ss.sum * M)), some (.int L2), some (.int (sumBack (at' ds) r (i + 1))), some (.int (maxBack (at' ds) r i)), some (.int (x - sumBack (at' ss) r i)), some (.int (0 + (i : Int))), y11'] H1 := by
        intro L2 y11' SF2
        refine ⟨_, rfl, .ref p, rfl, p, dx, _, rfl, R.ob, rdS ⟨.int r, rfl, _, rfl, _, _, rfl, rfl, ts, _, _, _, rfl, rfl, .of R.ts, hix2, _, _, rfl, rfl, ?_⟩⟩
        have el : x - sumBack (at' ss) r i - at' ss (r - i) = x - sumBack (at' ss) r (i + 1) := by omega
        refine ⟨.int (x - sumBack (at' ss) r i - at' ss (r - i)), rfl, _, _, rfl, rfl, _, rfl, ?_⟩
        by_cases hb : x - sumBack (at' ss) r i - at' ss (r - i) < 0
        · rw [decide_eq_true hb]
          refine iteT ⟨.int L2, rfl, ?_⟩
          have := RR.E_of (RR.fin SF2 (.inr ⟨by omega, by omega⟩))
          rw [this] at q
          exact q
        · rw [decide_eq_false hb]
          refine iteF ⟨rfl, L2, some (.int (0 + (i : Int))), y11', ?_, by omega, SF2⟩
          unfold edS
          rw [← el]
          rfl
      -- if left >= books
      refine ⟨.int (x - sumBack (at' ss) r i), rfl, .int ss.sum, rfl, _, _, rfl, rfl, _, rfl, ?_⟩
      by_cases hb : ss.sum ≤ x - sumBack (at' ss) r i
      · rw [decide_eq_true hb]
        refine iteT ?_
        have go : ∀ rounds : Int, rounds = (if 0 < ds.sum - ss.sum * M then (x - sumBack (at' ss) r i) / ss.sum else 1) → _ := fun rounds hrd =>
          fin (max (max L (ch (at' ds) (at' ss) r i x)) (sumBack (at' ds) r (i + 1) + (x - sumBack (at' ss) r i) * M + rounds * (ds.sum - ss.sum * M))) (some (.int rounds)) (RR.step SF hle (by rw [if_pos hb, hrd]))
        -- rounds
        refine ⟨.int (ds.sum - ss.sum * M), rfl, _, _, rfl, rfl, _, rfl, ?_⟩
        by_cases hg : 0 < ds.sum - ss.sum * M
        · rw [decide_eq_true hg]
          refine iteT ⟨.int (x - sumBack (at' ss) r i), rfl, .int ss.sum, rfl, _, _, rfl, rfl, ⟨by omega, by omega⟩, ?_⟩
          refine ⟨_, rfl, .int (sumBack (at' ds) r (i + 1)), rfl, .int (x - sumBack (at' ss) r i), rfl, .int M, rfl, _, _, rfl, rfl, .inr ⟨by omega, by omega⟩, _, _, rfl, rfl, _, rfl, .int (ds.sum - ss.sum * M), rfl, _, _, rfl, rfl, .inr ⟨by omega, by omega⟩, _, _, rfl, rfl, _, _, rfl, ?_⟩
          rw [max_if]
          exact go _ (by rw [if_pos hg])
        · rw [decide_eq_false hg]
          refine iteF ?_
          refine ⟨_, rfl, .int (sumBack (at' ds) r (i + 1)), rfl, .int (x - sumBack (at' ss) r i), rfl, .int M, rfl, _, _, rfl, rfl, .inr ⟨by omega, by omega⟩, _, _, rfl, rfl, _, rfl, .int (ds.sum - ss.sum * M), rfl, _, _, rfl, rfl, .inr ⟨by omega, by omega⟩, _, _, rfl, rfl, _, _, rfl, ?_⟩
          rw [max_if]
          exact go _ (by rw [if_neg hg])
      · rw [decide_eq_false hb]
        refine iteF ?_
        exact fin _ y11 (RR.step SF hle (by rw [if_neg hb]))
    · rintro σ H1 ⟨rfl, L, y10, y11, rfl, hle, SF⟩
      have := RR.E_of (RR.fin SF (.inl (by omega)))
      rw [this] at q
      exact ⟨.int L, rfl, q⟩
end
end Rp
namespace Rp
open PySem PySem.Spec PyProof.Rows L2 Rz Rm
/-- readings and days of a repetition -/
def RepIs (T B M p q : Int) : Prop := (T ≤ M * B ∧ p = 1 ∧ q = M) ∨ (¬ T ≤ M * B ∧ p = B ∧ q = T)
theorem at_emod {ss : List Int} (i : Int) : at' ss (i % (ss.length : Int)) = at' ss i := by
  unfold at'
  rw [Int.emod_emod_of_dvd _ (Int.dvd_refl _)]
theorem emod_pred (z n : Int) : (z % n - 1) % n = (z - 1) % n := by
  have h := Int.emod_add_mul_ediv z n
  have e : z - 1 = (z % n - 1) + n * (z / n) := by omega
  rw [e, Int.add_mul_emod_self_left]
/-- the book of place q at reader r -/
def Bk (ss : List Int) (r q v : Int) : Prop := ∃ i : Nat, i < ss.length ∧ sumBack (at' ss) r i ≤ q ∧ q < sumBack (at' ss) r (i + 1) ∧ v = (ss.take ((r - i) % (ss.length : Int)).toNat).sum + (q - sumBack (at' ss) r i)
theorem Bk.inj {ss : List Int} (h0 : ∀ i, 0 ≤ at' ss i) {r q v v' : Int} (h : Bk ss r q v) (h' : Bk ss r q v') : v = v' := by
  obtain ⟨i, _, a1, a2, rfl⟩ := h
  obtain ⟨j, _, b1, b2, rfl⟩ := h'
  have e : i = j := by
    rcases Nat.lt_trichotomy i j with z | z | z
    · have := sum_mono h0 r (show i + 1 ≤ j by omega)
      omega
    · exact z
    · have := sum_mono h0 r (show j + 1 ≤ i by omega)
      omega
  rw [e]
section
variable {P : Program} {w : World} {K : PySem.W.Frag} {mg : Str → Option Value} {base : Heap}
/-! ### ring(reader, number) -/
def spCall (C : Addr) : Sp := fun vs H Q _ => ∃ p dx td ts ds ss, ∃ r x : Int, vs = [.ref p, .int r, .int x] ∧ RingAt C H p dx td ts ds ss ∧ 0 ≤ r ∧ r < ds.length ∧ 0 ≤ x ∧ x ≤ 1000000000000000000 ∧ Q (.int (Rm.E (at' ds) (at' ss) r x)) H
theorem ok_call (T : Tx K mg) : FnOk P w K mg base CX0 4 T.a_rcall T.d_rcall P_rcall (spCall T.C) := by
  refine T.F_rcall.ok sc_rcall (fun vs H Q E h => ?_) (fun cdv A outer s H vs Q E hr h => ?_)
  · obtain ⟨p, dx, td, ts, ds, ss, r, x, rfl, _⟩ := h
    rfl
  · obtain ⟨p, dx, td, ts, ds, ss, r, x, rfl, R, r0, r1, x0, x1, q⟩ := h
    obtain ⟨u1, c1⟩ := T.c_LATEST
    refine ⟨_, pss_cons (ps_expr (pe_call (ok_reader T) hr (by rfl) T.g_check_reader T.F_check_reader.kp T.b_check_reader .nil pass0 (pa_cons (pv 0) (pa_cons (pv 1) pa_nil))))
      (pss_cons (ps_expr (pe_call (ok_chk T) hr (by rfl) T.g_check_number T.F_check_number.kp T.b_check_number .nil pass0 (pa_cons (pv 2) (pa_cons pe_int (pa_cons (pe_glob (v := .int 1000000000000000000) (by rfl) c1 ⟨_, rfl⟩) pa_nil)))))
      (pss_one (ps_ret (pe_call (ok_end T) hr (by rfl) T.g_end_day T.F_end_day.kp T.b_end_day .nil pass0 (pa_cons (pv 0) (pa_cons (pv 1) (pa_cons (pv 2) pa_nil))))))), ?_⟩
    refine ⟨_, rfl, _, rfl, p, dx, td, ts, ds, ss, r, rfl, R, r0, r1, ?_⟩
    refine ⟨_, rfl, x, 0, 1000000000000000000, rfl, x0, x1, ?_⟩
    exact ⟨_, rfl, _, rfl, _, rfl, p, dx, td, ts, ds, ss, r, x, rfl, R, r0, r1, x0, q⟩
end
end Rp
namespace Rp
open PySem PySem.Spec PyProof.Rows L2 Rz Rm
theorem cut_front {xs : List V} {r : Int} (h0 : 0 ≤ r) (h1 : r < xs.length) : cutV xs none (some r) = xs.take r.toNat ∧ ¬ (HT.sIx xs.length 0 none = 0 ∧ HT.sIx xs.length xs.length (some r) = xs.length) := by
  have e : r = ((r.toNat : Nat) : Int) := by omega
  have e1 : HT.sIx xs.length xs.length (some r) = r.toNat := by
    rw [e, HT.sIx_nat]
    omega
  constructor
  · unfold cutV
    rw [HT.sIx_none, e1]
    simp
  · rw [e1]
    omega
theorem sum_le_zero : ∀ {l : List Int}, (∀ y ∈ l, y ≤ 0) → l.sum ≤ 0
  | [], _ => by simp
  | a :: r, h => by
    have h1 := h a List.mem_cons_self
    have ih := sum_le_zero (l := r) fun y hy => h y (List.mem_cons_of_mem _ hy)
    rw [List.sum_cons]
    omega
section
variable {N : Nat} {d s : Int → Int} {B T M : Int} (R : Rm.Ring N d s B T M)
include R
theorem _root_.Rm.Ring.rep_big {p q x : Int} (h : RepIs T B M p q) (hx : 4 * B + B * M ≤ x) : Rep d s p q x := by
  rw [RepIs, Int.mul_comm M B] at h
  rcases h with ⟨h1, rfl, rfl⟩ | ⟨h1, rfl, rfl⟩
  · exact R.rep_slow h1 hx
  · exact R.rep_fast (by omega) hx
theorem _root_.Rm.Ring.p1 {p q : Int} (h : RepIs T B M p q) : 1 ≤ p := by
  have := R.b1
  rcases h with ⟨_, rfl, _⟩ | ⟨_, rfl, _⟩ <;> omega
end
section
variable {P : Program} {w : World} {K : PySem.W.Frag} {mg : Str → Option Value} {base : Heap}
end
end Rp
namespace Rp
open PySem PySem.Spec PyProof.Rows L2 Rz Rm
/-! ### the drawn row -/
/-- all that was tracked but the row is as it was -/
def Kp (row : Addr) (H H' : Hp) : Prop := ∀ b o, H b = some o → b ≠ row → H' b = some o
theorem Kp.refl (row : Addr) (H : Hp) : Kp row H H := fun _ _ h _ => h
theorem Kp.trans {row : Addr} {H H1 H2 : Hp} (a : Kp row H H1) (b : Kp row H1 H2) : Kp row H H2 := fun c o h n => b c o (a c o h n) n
theorem Same.kp {row : Addr} {H H' : Hp} (s : Same H H') : Kp row H H' := fun b o h _ => s b o h
/-- the script stands in the written part -/
def Wr (K : PySem.W.Frag) (a : Addr) (xs : List V) : Prop := ∃ (o : Obj) (its : Array Value) (n : Nat), K.lookup a = some o ∧ o.cls = .type "list" ∧ o.dict = none ∧ o.data = .seq its n ∧ its.size ≤ sizeLine ∧ Vals xs its.toList
theorem far_of {K : PySem.W.Frag} {H : Hp} {D a : Addr} {xs : List V} (h : SqL K H a xs) (hD : H D = none) : D ≠ a ∨ Wr K a xs := by
  rcases h with (h | ⟨o, h⟩) | h
  · exact .inl fun e => by rw [e, h] at hD; cases hD
  · exact .inl fun e => by rw [e, h] at hD; cases hD
  · exact .inr h
theorem sq_upd {K : PySem.W.Frag} {H : Hp} {D a : Addr} {xs : List V} {o : HO} (h : SqL K H a xs) (f : D ≠ a ∨ Wr K a xs) : SqL K (upd H D o) a xs := by
  rcases f with f | f
  · rcases h with (h | ⟨u, h⟩) | h
    · exact .inl (.inl (by rw [upd_ne f.symm]; exact h))
    · exact .inl (.inr ⟨u, by rw [upd_ne f.symm]; exact h⟩)
    · exact .inr h
  · exact .inr f
structure RowAt (K : PySem.W.Frag) (H : Hp) (row a : Addr) (ns : List Int) : Prop where
  ob : ∃ i m q : Int, H row = some (.lst [.ref a, .int i, .int m, .int q]) ∧ 0 ≤ i
  sc : SqL K H a (ns.map V.int)
  ne : row ≠ a ∨ Wr K a (ns.map V.int)
theorem RowAt.same {K : PySem.W.Frag} {H H' : Hp} {row a : Addr} {ns : List Int} (R : RowAt K H row a ns) (s : Same H H') : RowAt K H' row a ns := by
  obtain ⟨i, m, q, h, h0⟩ := R.ob
  exact ⟨⟨i, m, q, s _ _ h, h0⟩, s.seq R.sc, R.ne⟩
theorem kp_upd {row : Addr} {H : Hp} {o : HO} : Kp row H (upd H row o) := fun b z h n => by
  rw [upd_ne n]
  exact h
/-- the row is written -/
theorem RowAt.put {K : PySem.W.Frag} {H : Hp} {row a : Addr} {ns : List Int} (R : RowAt K H row a ns) {i m q : Int} (h : 0 ≤ i) : RowAt K (upd H row (.lst [.ref a, .int i, .int m, .int q])) row a ns :=
  ⟨⟨i, m, q, upd_same, h⟩, sq_upd R.sc R.ne, R.ne⟩
theorem first_ix : ∀ {l : List Int} {m : Int}, m ∈ l → ∃ j : Nat, l[j]? = some m ∧ ∀ k z, k < j → l[k]? = some z → z ≠ m
  | a :: r, m, h => by
    by_cases e : a = m
    · exact ⟨0, by simp [e], fun k z hk => absurd hk (Nat.not_lt_zero _)⟩
    · obtain ⟨j, h1, h2⟩ := first_ix (l := r) (m := m) (by
        rcases List.mem_cons.mp h with q | q
        · exact absurd q.symm e
        · exact q)
      refine ⟨j + 1, by simpa using h1, fun k z hk hz => ?_⟩
      cases k with
      | zero =>
        simp at hz
        rw [← hz]
        exact e
      | succ k => exact h2 k z (by omega) (by simpa using hz)
theorem mem_le_sum : ∀ {l : List Int}, (∀ y ∈ l, 0 ≤ y) → ∀ x ∈ l, x ≤ l.sum
  | a :: r, h, x, hx => by
    have ha := h a List.mem_cons_self
    have hr : ∀ y ∈ r, 0 ≤ y := fun y hy => h y (List.mem_cons_of_mem _ hy)
    have hs : 0 ≤ r.sum := sum_nonneg' hr
    rw [List.sum_cons]
    rcases List.mem_cons.mp hx with e | e
    · omega
    · have := mem_le_sum hr x e
      omega
where sum_nonneg' : ∀ {l : List Int}, (∀ y ∈ l, 0 ≤ y) → 0 ≤ l.sum
  | [], _ => by simp
  | a :: r, h => by
    have h1 := h a List.mem_cons_self
    have h2 := sum_nonneg' (l := r) fun y hy => h y (List.mem_cons_of_mem _ hy)
    rw [List.sum_cons]
    omega
theorem mem_set {l : List Int} {j : Nat} {v y : Int} (h : y ∈ l.set j v) : y ∈ l ∨ y = v := List.mem_or_eq_of_mem_set h
theorem flat_ints (l : List Int) : (l.map V.int).all flatV = true := by
  rw [List.all_eq_true]
  intro x hx
  obtain ⟨i, _, rfl⟩ := List.mem_map.mp hx
  rfl
theorem lc_keep {σ : L2.St} {H : Hp} {F G : Hp → Prop} (h : F H) : tYes σ H (fun b H3 => if b = true then F H3 else G H3) := by
  show if true = true then F H else G H
  rw [if_pos rfl]
  exact h
theorem map_snoc (l : List Int) (v : Int) : l.map V.int ++ [V.int v] = (l ++ [v]).map V.int := by
  rw [List.map_append]
  rfl
theorem RowAt.upd' {K : PySem.W.Frag} {H : Hp} {D row a : Addr} {ns : List Int} {o : HO} (R : RowAt K H row a ns) (n : D ≠ row) (f : D ≠ a ∨ Wr K a (ns.map V.int)) : RowAt K (upd H D o) row a ns := by
  obtain ⟨i, m, q, h, h0⟩ := R.ob
  exact ⟨⟨i, m, q, by rw [upd_ne n.symm]; exact h, h0⟩, sq_upd R.sc f, R.ne⟩
theorem RowAt.nn {K : PySem.W.Frag} {H : Hp} {D row a : Addr} {ns : List Int} (R : RowAt K H row a ns) (h : H D = none) : D ≠ row := fun e => by
  obtain ⟨i, m, q, h2, _⟩ := R.ob
  rw [e, h2] at h
  cases h
theorem kp_new {row D : Addr} {H0 H : Hp} {o : HO} (k : Kp row H0 H) (h : H0 D = none) : Kp row H0 (upd H D o) := fun b z e n => by
  rw [upd_ne (ne_of_none e h)]
  exact k b z e n
end Rp
namespace Rp
open PySem PySem.Spec PyProof.Rows L2 Rz Rm
section
variable {P : Program} {w : World} {K : PySem.W.Frag} {mg : Str → Option Value} {base : Heap}
def spTaken (K : PySem.W.Frag) : Sp := fun vs H Q _ => ∃ (row a : Addr) (ns : List Int) (many : Int), vs = [.ref row, .int many] ∧ RowAt K H row a ns ∧ 1 ≤ many ∧ many < 1073741824 ∧
  ∀ v H', 0 ≤ v → v < many → RowAt K H' row a ns → Kp row H H' → Q (.int v) H'
theorem ok_taken (T : Tx K mg) : FnOk P w K mg base CX0 1 T.a_ltaken T.d_ltaken P_ltaken (spTaken K) := by
  refine T.F_ltaken.ok sc_ltaken (fun vs H Q E h => ?_) (fun cdv A outer s H vs Q E hr h => ?_)
  · obtain ⟨row, a, ns, many, rfl, _⟩ := h
    rfl
  · obtain ⟨row, a, ns, many, rfl, RA, m1, m2, q⟩ := h
    obtain ⟨i, m, c, hrow, i0⟩ := RA.ob
    have nd := sc_ltaken.nd
    refine ⟨_, pss_cons (ps_if (pt_cmpR op_gt (pe_ix ix_list (pv 0) pe_int (fun _ _ => rfl)) pe_int (nomark _))
        (pss_cons (ps_set (i := 2) nd rfl (.inl rfl) (pe_op op_mod (pe_callTy call_int1 (by rfl) T.z_int (by decide +kernel) (pa_cons (pe_ix ix_list (pv 0) pe_int (fun _ _ => rfl)) pa_nil)) (pv 1)))
        (pss_cons (ps_asg (pe_op op_fdiv (pe_ix ix_list (pv 0) pe_int (fun _ _ => rfl)) (pv 1)) (pg_sub (pv 0) pe_int set_list))
        (pss_one (ps_ret (pv 2))))) pss_nil)
      (pss_cons (ps_asg (pe_op op_add (pe_ix ix_list (pv 0) pe_int (fun _ _ => rfl)) pe_int) (pg_sub (pv 0) pe_int set_list))
      (pss_cons (ps_if (pt_cmpR op_gt (pe_ix ix_list (pv 0) pe_int (fun _ _ => rfl)) (pe_callB call_len_seq (by rfl) T.z_len PySem.boot_len (pa_cons (pe_ix ix_list (pv 0) pe_int (fun _ _ => rfl)) pa_nil)) (nomark _))
        (pss_cons (ps_asg (pe_op op_mod (pe_callTy call_int1 (by rfl) T.z_int (by decide +kernel) (pa_cons (pe_op op_add (pe_op op_mul (pe_ix ix_list (pv 0) pe_int (fun _ _ => rfl)) pe_int) pe_int) pa_nil)) pe_int) (pg_sub (pv 0) pe_int set_list))
        (pss_one (ps_ret (pe_op op_mod (pe_callTy call_int1 (by rfl) T.z_int (by decide +kernel) (pa_cons (pe_op op_fdiv (pe_ix ix_list (pv 0) pe_int (fun _ _ => rfl)) pe_int) pa_nil)) (pv 1))))) pss_nil)
      (pss_cons (ps_set (i := 3) nd rfl (.inl rfl) (pe_ix ix_list (pe_ix ix_list (pv 0) pe_int (fun _ _ => rfl)) (pe_op op_sub (pe_ix ix_list (pv 0) pe_int (fun _ _ => rfl)) pe_int) (fun _ _ => rfl)))
      (pss_cons (ps_asg (pe_op op_mod (pe_callTy call_int1 (by rfl) T.z_int (by decide +kernel) (pa_cons (pe_op op_add (pe_op op_add (pe_op op_mul (pe_ix ix_list (pv 0) pe_int (fun _ _ => rfl)) pe_int) (pv 3)) pe_int) pa_nil)) pe_int) (pg_sub (pv 0) pe_int set_list))
      (pss_cons (ps_asg (pe_ifExp (pt_cmpR op_ge (pv 3) (pe_op op_pow pe_int pe_int) (nomark _)) (pe_op op_fdiv (pv 3) (pv 1)) pe_int) (pg_sub (pv 0) pe_int set_list))
      (pss_one (ps_ret (pe_op op_mod (pe_callTy call_int1 (by rfl) T.z_int (by decide +kernel) (pa_cons (pv 3) pa_nil)) (pv 1))))))))), ?_⟩
    have mod0 : ∀ z : Int, 0 ≤ z % many := fun z => Int.emod_nonneg _ (by omega)
    have mod1 : ∀ z : Int, z % many < many := fun z => Int.emod_lt_of_pos _ (by omega)
    -- if row[3] > 0
    refine ⟨_, rfl, row, _, 3, _, rfl, rfl, .of hrow, atI_nat (j := 3) rfl, _, _, rfl, rfl, _, rfl, ?_⟩
    by_cases hc : 0 < c
    · rw [decide_eq_true hc]
      refine iteT ?_
      refine ⟨_, rfl, row, _, 3, _, rfl, rfl, .of hrow, atI_nat (j := 3) rfl, .inl ⟨_, rfl, _, rfl, _, _, rfl, rfl, by show (0 : Int) < many; omega, ?_⟩⟩
      refine ⟨_, rfl, row, _, 3, _, rfl, rfl, .of hrow, atI_nat (j := 3) rfl, _, rfl, _, _, rfl, rfl, ⟨by omega, by omega⟩, ?_⟩
      refine ⟨_, rfl, row, _, 3, 3, rfl, rfl, hrow, rfl, ?_⟩
      exact ⟨_, rfl, q _ _ (mod0 c) (mod1 c) (RA.put i0) kp_upd⟩
    · rw [decide_eq_false hc]
      refine iteF ?_
      -- row[1] = row[1] + 1
      refine ⟨_, rfl, row, _, 1, _, rfl, rfl, .of hrow, atI_nat (j := 1) rfl, _, _, rfl, rfl, ?_⟩
      refine ⟨_, rfl, row, _, 1, 1, rfl, rfl, hrow, rfl, ?_⟩
      have RA1 : RowAt K (upd H row (.lst [.ref a, .int (i + 1), .int m, .int c])) row a ns := RA.put (by omega)
      have hrow1 : (upd H row (.lst [.ref a, .int (i + 1), .int m, .int c])) row = some (.lst [.ref a, .int (i + 1), .int m, .int c]) := upd_same
      have kp1 : Kp row H (upd H row (.lst [.ref a, .int (i + 1), .int m, .int c])) := kp_upd
      show tSeq _ _ _ _ (upd H row (.lst [.ref a, .int (i + 1), .int m, .int c]))
      generalize (upd H row (.lst [.ref a, .int (i + 1), .int m, .int c])) = H1 at RA1 hrow1 kp1
      -- if row[1] > len(row[0])
      refine ⟨_, rfl, row, _, 1, _, rfl, rfl, .of hrow1, atI_nat (j := 1) rfl, _, rfl, row, _, 0, _, rfl, rfl, .of hrow1, atI_nat (j := 0) rfl, a, _, rfl, .inl RA1.sc, _, _, rfl, rfl, _, rfl, ?_⟩
      rw [List.length_map]
      by_cases hl : (ns.length : Int) < i + 1
      · rw [decide_eq_true hl]
        refine iteT ?_
        refine ⟨_, rfl, row, _, 2, _, rfl, rfl, .of hrow1, atI_nat (j := 2) rfl, _, _, rfl, rfl, .inr ⟨by decide, by decide⟩, _, _, rfl, rfl, .inl ⟨_, rfl, _, _, rfl, rfl, (by show (0 : Int) < 2147483647; decide), ?_⟩⟩
        refine ⟨_, rfl, row, _, 2, 2, rfl, rfl, hrow1, rfl, ?_⟩
        refine ⟨_, rfl, row, _, 2, _, rfl, rfl, .of upd_same, atI_nat (j := 2) rfl, _, _, rfl, rfl, ⟨by decide, by decide⟩, .inl ⟨_, rfl, _, rfl, _, _, rfl, rfl, by show (0 : Int) < many; omega, ?_⟩⟩
        exact q _ _ (mod0 _) (mod1 _) (RA1.put (by omega)) (kp1.trans kp_upd)
      · rw [decide_eq_false hl]
        refine iteF ?_
        have hi : i.toNat < ns.length := by omega
        have hg : atI (ns.map V.int) (i + 1 - 1) = some (.int ns[i.toNat]) := by
          refine at_of (j := i.toNat) (by omega) ?_
          rw [List.getElem?_map, List.getElem?_eq_getElem hi]
          rfl
        refine ⟨_, rfl, row, _, 0, _, rfl, rfl, .of hrow1, atI_nat (j := 0) rfl, _, rfl, row, _, 1, _, rfl, rfl, .of hrow1, atI_nat (j := 1) rfl, _, _, rfl, rfl, a, _, _, _, rfl, rfl, RA1.sc, hg, ?_⟩
        generalize ns[i.toNat] = cell
        -- row[2] = ..
        refine ⟨_, rfl, row, _, 2, _, rfl, rfl, .of hrow1, atI_nat (j := 2) rfl, _, _, rfl, rfl, .inr ⟨by decide, by decide⟩, _, rfl, _, _, rfl, rfl, _, _, rfl, rfl, .inl ⟨_, rfl, _, _, rfl, rfl, (by show (0 : Int) < 2147483647; decide), ?_⟩⟩
        refine ⟨_, rfl, row, _, 2, 2, rfl, rfl, hrow1, rfl, ?_⟩
        -- row[3] = ..
        refine ⟨_, rfl, _, _, rfl, rfl, ⟨by decide, by decide, by decide⟩, _, _, rfl, rfl, _, rfl, ?_⟩
        refine ite2 (fun _ => ?_) (fun _ => ?_)
        · refine ⟨_, rfl, _, rfl, _, _, rfl, rfl, ⟨by omega, by omega⟩, ?_⟩
          refine ⟨_, rfl, row, _, 3, 3, rfl, rfl, upd_same, rfl, ?_⟩
          refine ⟨_, rfl, .inl ⟨_, rfl, _, rfl, _, _, rfl, rfl, by show (0 : Int) < many; omega, ?_⟩⟩
          rw [upd_upd]
          exact q _ _ (mod0 _) (mod1 _) (RA1.put (by omega)) (kp1.trans kp_upd)
        · refine ⟨_, rfl, row, _, 3, 3, rfl, rfl, upd_same, rfl, ?_⟩
          refine ⟨_, rfl, .inl ⟨_, rfl, _, rfl, _, _, rfl, rfl, by show (0 : Int) < many; omega, ?_⟩⟩
          rw [upd_upd]
          exact q _ _ (mod0 _) (mod1 _) (RA1.put (by omega)) (kp1.trans kp_upd)
end
section
variable {P : Program} {w : World} {K : PySem.W.Frag} {mg : Str → Option Value} {base : Heap}
/-- two new tuples that make a ring -/
def spParts (K : PySem.W.Frag) : Sp := fun vs H Q _ => ∃ (row a : Addr) (ns : List Int) (most : Int), vs = [.ref row, .int most] ∧ RowAt K H row a ns ∧ 2 ≤ most ∧ most ≤ 8 ∧
  ∀ H' t td ts ds ss, Good ds ss → RowAt K H' row a ns → Kp row H H' → H' t = some (.tup [.ref td, .ref ts]) → H' td = some (.tup (ds.map V.int)) → H' ts = some (.tup (ss.map V.int)) → Q (.ref t) H'
/-- what a list being made holds -/
def Acc (K : PySem.W.Frag) (H0 : Hp) (row a D : Addr) (ns : List Int) (lo hi : Int) (i : Nat) (H : Hp) : Prop :=
  ∃ acc : List Int, acc.length = i ∧ (∀ y ∈ acc, lo ≤ y ∧ y ≤ hi) ∧ H D = some (.lst (acc.map V.int)) ∧ RowAt K H row a ns ∧ Kp row H0 H
theorem acc_next {H0 H H' : Hp} {row a D : Addr} {ns : List Int} {lo hi v : Int} {i : Nat} (hD : H0 D = none) (nD : D ≠ row) (f : D ≠ a ∨ Wr K a (ns.map V.int)) {acc : List Int} (hlen : acc.length = i) (hall : ∀ y ∈ acc, lo ≤ y ∧ y ≤ hi)
    (hacc : H D = some (.lst (acc.map V.int))) (k : Kp row H0 H) (RA : RowAt K H' row a ns) (k' : Kp row H H') (v0 : lo ≤ v) (v1 : v ≤ hi) : Acc K H0 row a D ns lo hi (i + 1) (upd H' D (.lst (acc.map V.int ++ [V.int v]))) := by
  refine ⟨acc ++ [v], by rw [List.length_append, hlen]; rfl, fun y hy => ?_, by rw [upd_same, map_snoc], RA.upd' nD f, kp_new (k.trans k') hD⟩
  rcases List.mem_append.mp hy with z | z
  · exact hall y z
  · have := List.mem_singleton.mp z
    omega
theorem ok_parts (T : Tx K mg) : FnOk P w K mg base CX0 2 T.a_lparts T.d_lparts P_lparts (spParts K) := by
  refine T.F_lparts.ok sc_lparts (fun vs H Q E h => ?_) (fun cdv A outer s H vs Q E hr h => ?_)
  · obtain ⟨row, a, ns, most, rfl, _⟩ := h
    rfl
  · obtain ⟨row, a, ns, most, rfl, RA, m2, m8, q⟩ := h
    have nd := sc_lparts.nd
    refine ⟨_, pss_cons (ps_asg (pe_tup (pa_cons (pe_op op_add pe_int (pe_call (ok_taken T) hr (by rfl) T.g_ltaken T.F_ltaken.kp T.b_ltaken .nil pass0 (pa_cons (pv 0) (pa_cons (pe_op op_sub (pv 1) pe_int) pa_nil))))
        (pa_cons (pe_ix ix_list (pe_lst (pa_cons pe_int (pa_cons pe_int (pa_cons pe_int pa_nil)))) (pe_call (ok_taken T) hr (by rfl) T.g_ltaken T.F_ltaken.kp T.b_ltaken .nil pass0 (pa_cons (pv 0) (pa_cons pe_int pa_nil))) (fun _ _ => rfl)) pa_nil)))
        (pg_tup rfl (pgs_cons (pg_name (i := 2) nd rfl (.inl rfl)) (pgs_cons (pg_name (i := 3) nd rfl (.inr rfl)) pgs_nil))))
      (pss_cons (ps_setLc (i := 4) (own := [("_law_k", 6)]) rfl nd rfl rfl (sw_true rfl rfl rfl (by decide +kernel)) (pi_range1 (by rfl) T.z_range (pa_cons (pv 2) pa_nil)) (blkOk_by (N := N_lparts) (sc := defScope s_lparts) (by decide +kernel))
        (fun _ _ _ _ _ => pg_name (i := 6) nd rfl (.inl rfl)) (fun _ _ _ _ _ => pts_nil)
        (fun _ _ _ _ _ => pe_op op_add pe_int (pe_call (ok_taken T) hr (by rfl) T.g_ltaken T.F_ltaken.kp T.b_ltaken .nil pass0 (pa_cons (pv 0) (pa_cons (pv 3) pa_nil)))))
      (pss_cons (ps_setLc (i := 5) (own := [("_law_k", 6)]) rfl nd rfl rfl (sw_true rfl rfl rfl (by decide +kernel)) (pi_range1 (by rfl) T.z_range (pa_cons (pv 2) pa_nil)) (blkOk_by (N := N_lparts) (sc := defScope s_lparts) (by decide +kernel))
        (fun _ _ _ _ _ => pg_name (i := 6) nd rfl (.inl rfl)) (fun _ _ _ _ _ => pts_nil)
        (fun _ _ _ _ _ => pe_call (ok_taken T) hr (by rfl) T.g_ltaken T.F_ltaken.kp T.b_ltaken .nil pass0 (pa_cons (pv 0) (pa_cons pe_int pa_nil))))
      (pss_cons (ps_if (pt_cmpR op_eq (pe_callB (cr_sum rfl) (by rfl) T.z_sum (by decide +kernel) (pa_cons (pv 5) pa_nil)) pe_int (nomark _))
        (pss_one (ps_asg (pe_op op_add pe_int (pe_call (ok_taken T) hr (by rfl) T.g_ltaken T.F_ltaken.kp T.b_ltaken .nil pass0 (pa_cons (pv 0) (pa_cons pe_int pa_nil))))
          (pg_sub (pv 5) (pe_call (ok_taken T) hr (by rfl) T.g_ltaken T.F_ltaken.kp T.b_ltaken .nil pass0 (pa_cons (pv 0) (pa_cons (pv 2) pa_nil))) set_list))) pss_nil)
      (pss_cons (ps_while PassesOwn.never (pt_cmpR op_gt (pe_callB (cr_sum rfl) (by rfl) T.z_sum (by decide +kernel) (pa_cons (pv 5) pa_nil)) pe_int (nomark _))
        (pss_one (ps_asg (pe_op op_sub (pe_callB (cr_max rfl) (by rfl) T.z_max (by decide +kernel) (pa_cons (pv 5) pa_nil)) pe_int)
          (pg_sub (pv 5) (pe_bm PySem.F.plainAttrs_list PySem.F.slot_list_index PySem.F.type_list_index mt_index (pv 5) (pa_cons (pe_callB (cr_max rfl) (by rfl) T.z_max (by decide +kernel) (pa_cons (pv 5) pa_nil)) pa_nil)) set_list))))
      (pss_one (ps_ret (pe_tup (pa_cons (pe_callTy call_tuple_of (by rfl) T.z_tuple (by decide +kernel) (pa_cons (pv 4) pa_nil)) (pa_cons (pe_callTy call_tuple_of (by rfl) T.z_tuple (by decide +kernel) (pa_cons (pv 5) pa_nil)) pa_nil))))))))), ?_⟩
    -- size, far
    refine ⟨_, rfl, _, rfl, _, _, rfl, rfl, row, a, ns, _, rfl, RA, by omega, by omega, fun v1 H1 v10 v11 RA1 k1 => ?_⟩
    refine ⟨_, _, rfl, rfl, (by show 3 ≤ sizeLine; decide), fun l3 hl3 => ?_⟩
    have s1 : Same H1 (upd H1 l3 (.lst [.int 3, .int 9, .int 30])) := same_upd hl3
    have RA1' := RA1.same s1
    obtain ⟨_, _, _, hrw1, _⟩ := RA1.ob
    have nl3 : l3 ≠ row := fun e => by rw [e, hrw1] at hl3; cases hl3
    refine ⟨_, rfl, row, a, ns, _, rfl, RA1', by decide, by decide, fun v2 H2 v20 v21 RA2 k2 => ?_⟩
    have hl3' : H2 l3 = some (.lst [.int 3, .int 9, .int 30]) := k2 _ _ upd_same nl3
    obtain ⟨far, hfar, f1, f30⟩ : ∃ far : Int, atI [V.int 3, V.int 9, V.int 30] v2 = some (.int far) ∧ 1 ≤ far ∧ far ≤ 30 := by
      have : v2 = 0 ∨ v2 = 1 ∨ v2 = 2 := by omega
      rcases this with rfl | rfl | rfl
      · exact ⟨3, rfl, by omega, by omega⟩
      · exact ⟨9, rfl, by omega, by omega⟩
      · exact ⟨30, rfl, by omega, by omega⟩
    refine ⟨l3, _, v2, _, rfl, rfl, .of hl3', hfar, (by show 2 ≤ sizeLine; decide), fun t0 ht0 => ?_⟩
    have s2 : Same H2 (upd H2 t0 (.tup [.int (2 + v1), .int far])) := same_upd ht0
    refine ⟨t0, _, rfl, .of upd_same, rfl, _, _, rfl, _, _, rfl, rfl, ?_⟩
    have RA3 := RA2.same s2
    have k3 : Kp row H (upd H2 t0 (.tup [.int (2 + v1), .int far])) := ((k1.trans (Same.kp s1)).trans k2).trans (Same.kp s2)
    show tSeq _ _ _ _ (upd H2 t0 (.tup [.int (2 + v1), .int far]))
    generalize (upd H2 t0 (.tup [.int (2 + v1), .int far])) = H3 at RA3 k3
    -- days
    refine ⟨_, rfl, _, rfl, by omega, by omega, fun D hD => lc_range (lo := 0) (n := (2 + v1).toNat) (Acc K H3 row a D ns 1 30) ?_ ?_ ?_⟩
    · exact ⟨[], rfl, fun y hy => absurd hy (by simp), upd_same, RA3.same (same_upd hD), Same.kp (same_upd hD)⟩
    · rintro i H4 hi ⟨acc, hlen, hall, hacc, RA4, k4⟩
      have nD := RA3.nn hD
      refine ⟨rfl, lc_keep ?_⟩
      refine ⟨_, rfl, _, rfl, row, a, ns, _, rfl, RA4, f1, by omega, fun v H5 v0 v1' RA5 k5 => ?_⟩
      exact ⟨_, _, rfl, rfl, acc.map V.int, k5 _ _ hacc nD, by rw [List.length_map]; exact small1000 (by omega), acc_next hD nD (far_of RA3.sc hD) hlen hall hacc k4 RA5 k5 (by omega) (by omega)⟩
    rintro H4 ⟨ds, dlen, dall, hds, RA4, k4⟩
    have nD := RA3.nn hD
    have k04 := k3.trans k4
    -- starts
    refine ⟨_, rfl, _, rfl, by omega, by omega, fun D2 hD2 => lc_range (lo := 0) (n := (2 + v1).toNat) (Acc K H4 row a D2 ns 0 2) ?_ ?_ ?_⟩
    · exact ⟨[], rfl, fun y hy => absurd hy (by simp), upd_same, RA4.same (same_upd hD2), Same.kp (same_upd hD2)⟩
    · rintro i H5 hi ⟨acc, hlen, hall, hacc, RA5, k5⟩
      have nD2 := RA4.nn hD2
      refine ⟨rfl, lc_keep ?_⟩
      refine ⟨_, rfl, row, a, ns, _, rfl, RA5, by decide, by decide, fun v H6 v0 v1' RA6 k6 => ?_⟩
      exact ⟨acc.map V.int, k6 _ _ hacc nD2, by rw [List.length_map]; exact small1000 (by omega), acc_next hD2 nD2 (far_of RA4.sc hD2) hlen hall hacc k5 RA6 k6 (by omega) (by omega)⟩
    rintro H5 ⟨ss0, slen0, sall0, hss0, RA5, k5⟩
    have nD2 := RA4.nn hD2
    have nDD : D ≠ D2 := ne_of_none hds hD2
    have fD2 := far_of RA4.sc hD2
    have hds5 : H5 D = some (.lst (ds.map V.int)) := k5 _ _ hds nD
    have k05 := k04.trans k5
    have hD20 : ∀ b o, H b = some o → b ≠ row → b ≠ D2 := fun b o e n => ne_of_none (k04 b o e n) hD2
    -- the loop that makes the books few
    have loop : ∀ (ss : List Int) (H6 : Hp), ss.length = (2 + v1).toNat → (∀ y ∈ ss, 0 ≤ y ∧ y ≤ 12) → 1 ≤ ss.sum → H6 D2 = some (.lst (ss.map V.int)) → H6 D = some (.lst (ds.map V.int)) → RowAt K H6 row a ns → Kp row H H6 →
        tSeq (tWhile (tTest (tOp (rI0 fun i j => .bl (decide (j < i))) (tCB (rSum K) (tCons (tVar 5) tNil)) (tC (.int 12))))
          (tAsg (tOp (rI0 fun i j => .int (i - j)) (tCB (rMax K) (tCons (tVar 5) tNil)) (tC (.int 1))) (gSub (tVar 5) (tBM K "list" (rIndex K) (tVar 5) (tCons (tCB (rMax K) (tCons (tVar 5) tNil)) tNil)) rSetL)))
          (tRet (tTup (tCons (tCB (fun xs H Q => ∃ p ys, xs = [.ref p] ∧ ((SqL K H p ys ∧ ∀ l, H l = none → Q (.ref l) (upd H l (.tup ys))) ∨ (SqT K H p ys ∧ Q (.ref p) H))) (tCons (tVar 4) tNil)) (tCons (tCB (fun xs H Q => ∃ p ys, xs = [.ref p] ∧ ((SqL K H p ys ∧ ∀ l, H l = none → Q (.ref l) (upd H l (.tup ys))) ∨ (SqT K H p ys ∧ Q (.ref p) H))) (tCons (tVar 5) tNil)) tNil))))
          { nx := fun _ H' => Q .non H', rt := Q } [some (.ref row), some (.int most), some (.int (2 + v1)), some (.int far), some (.ref D), some (.ref D2), none] H6 := by
      intro ss H6 slen sall ssum hss hdd RA6 k6
      refine ⟨fun m σ H' => σ = [some (.ref row), some (.int most), some (.int (2 + v1)), some (.int far), some (.ref D), some (.ref D2), none] ∧ ∃ ss : List Int, m = ss.sum.toNat ∧ ss.length = (2 + v1).toNat ∧ (∀ y ∈ ss, 0 ≤ y ∧ y ≤ 12) ∧ 1 ≤ ss.sum ∧ H' D2 = some (.lst (ss.map V.int)) ∧ H' D = some (.lst (ds.map V.int)) ∧ RowAt K H' row a ns ∧ Kp row H H',
        ⟨ss.sum.toNat, rfl, ss, rfl, slen, sall, ssum, hss, hdd, RA6, k6⟩, ?_⟩
      rintro m σ H7 ⟨rfl, ss, rfl, slen, sall, ssum, hss, hdd, RA7, k7⟩
      refine ⟨_, rfl, D2, ss, rfl, .of hss, _, _, rfl, rfl, _, rfl, ?_⟩
      by_cases hc : 12 < ss.sum
      · rw [decide_eq_true hc]
        refine iteT ⟨fun σ' H' => σ' = [some (.ref row), some (.int most), some (.int (2 + v1)), some (.int far), some (.ref D), some (.ref D2), none] ∧ ∃ ss' : List Int, ss'.sum = ss.sum - 1 ∧ ss'.length = (2 + v1).toNat ∧ (∀ y ∈ ss', 0 ≤ y ∧ y ≤ 12) ∧ H' D2 = some (.lst (ss'.map V.int)) ∧ H' D = some (.lst (ds.map V.int)) ∧ RowAt K H' row a ns ∧ Kp row H H',
          fun σ' H' ⟨e1, ss', e2, e3, e4, e5, e6, e7, e8⟩ => ⟨ss'.sum.toNat, by omega, e1, ss', rfl, e3, e4, by omega, e5, e6, e7, e8⟩, ?_⟩
        refine ⟨_, rfl, D2, ss, rfl, .of hss, by omega, fun mm hm hmu => ⟨_, _, rfl, rfl, ?_⟩⟩
        refine ⟨_, rfl, _, rfl, .inl ⟨rfl, _, .of hss⟩, _, rfl, D2, ss, rfl, .of hss, by omega, fun mm2 hm2 hmu2 => ?_⟩
        obtain ⟨j, hj, hno⟩ := first_ix hm2
        have emm : mm2 = mm := Int.le_antisymm (hmu _ hm2) (hmu2 _ hm)
        subst emm
        have hjl : j < ss.length := (List.getElem?_eq_some_iff.mp hj).1
        refine ⟨D2, ss.map V.int, .int mm2, j, .int mm2, rfl, rfl, .of hss, rfl, flat_ints ss, by rw [List.getElem?_map, hj]; rfl, beq_self_eq_true mm2, fun k z' hk hz => ?_, ?_⟩
        · obtain ⟨z, hz2, rfl⟩ := get_int hz
          exact beq_eq_false_iff_ne.mpr (hno k z hk hz2)
        · have hixn : ixN (ss.map V.int).length ((j : Nat) : Int) = some j := by
            unfold ixN
            rw [List.length_map, if_pos (by omega), if_pos (by omega), Int.toNat_natCast]
          refine ⟨D2, _, ((j : Nat) : Int), j, rfl, rfl, hss, hixn, rfl, ss.set j (mm2 - 1), ?_, by rw [List.length_set]; exact slen, fun y hy => ?_, by rw [upd_same, List.map_set], by rw [upd_ne nDD]; exact hdd, RA7.upd' nD2 fD2, fun b o e n => by rw [upd_ne (hD20 b o e n)]; exact k7 b o e n⟩
          · rw [sum_set hj]
            omega
          · have hm12 := sall _ hm2
            have hm1 : 1 ≤ mm2 := by
              rcases Int.lt_or_le mm2 1 with z | z
              · have := sum_le_zero (l := ss) fun y hy => by have := hmu _ hy; omega
                omega
              · exact z
            rcases mem_set hy with z | z
            · exact sall y z
            · omega
      · rw [decide_eq_false hc]
        refine iteF ?_
        refine ⟨_, rfl, D, _, rfl, .inl ⟨.of hdd, fun l1 hl1 => ?_⟩⟩
        have u1 := same_upd (o := .tup (ds.map V.int)) hl1
        refine ⟨_, rfl, D2, _, rfl, .inl ⟨.of (u1 _ _ hss), fun l2 hl2 => ⟨(by show 2 ≤ sizeLine; decide), fun t ht => ?_⟩⟩⟩
        have u2 := same_upd (o := .tup (ss.map V.int)) hl2
        have u3 := same_upd (o := .tup [.ref l1, .ref l2]) ht
        exact q _ t l1 l2 ds ss ⟨by omega, by omega, by omega, dall, sall, ssum, by omega⟩ (((RA7.same u1).same u2).same u3) (((k7.trans (Same.kp u1)).trans (Same.kp u2)).trans (Same.kp u3)) upd_same (u3 _ _ (u2 _ _ upd_same)) (u3 _ _ upd_same)
    -- if sum(starts) == 0
    refine ⟨_, rfl, D2, ss0, rfl, .of hss0, rfl, _, rfl, ?_⟩
    have nn0 : ∀ y ∈ ss0, 0 ≤ y := fun y hy => (sall0 y hy).1
    by_cases hz : ss0.sum = 0
    · rw [decide_eq_true (show V.int ss0.sum = V.int 0 by rw [hz])]
      refine iteT ?_
      refine ⟨_, rfl, row, a, ns, _, rfl, RA5, by decide, by decide, fun v H6 v0 v1' RA6 k6 => ⟨_, _, rfl, rfl, ?_⟩⟩
      refine ⟨_, rfl, _, rfl, _, rfl, row, a, ns, _, rfl, RA6, by omega, by omega, fun j H7 j0 j1 RA7 k7 => ?_⟩
      have k57 := k6.trans k7
      have hss7 : H7 D2 = some (.lst (ss0.map V.int)) := k57 _ _ hss0 nD2
      have hj : j.toNat < ss0.length := by omega
      have hixn : ixN (ss0.map V.int).length j = some j.toNat := by
        unfold ixN
        rw [List.length_map, if_pos (by omega), if_pos (by omega)]
      refine ⟨D2, _, j, j.toNat, rfl, rfl, hss7, hixn, ?_⟩
      have hmem : (1 + v) ∈ ss0.set j.toNat (1 + v) := List.mem_set hj (1 + v)
      have hall' : ∀ y ∈ ss0.set j.toNat (1 + v), 0 ≤ y ∧ y ≤ 12 := fun y hy => by
        rcases mem_set hy with z | z
        · have := sall0 y z; omega
        · omega
      refine loop (ss0.set j.toNat (1 + v)) _ (by rw [List.length_set]; exact slen0) hall' ?_ (by rw [upd_same, List.map_set]) (by rw [upd_ne nDD]; exact k57 _ _ hds5 nD) (RA7.upd' nD2 fD2) (fun b o e n => by rw [upd_ne (hD20 b o e n)]; exact (k05.trans k57) b o e n)
      have := mem_le_sum (fun y hy => (hall' y hy).1) _ hmem
      omega
    · rw [decide_eq_false (show ¬ V.int ss0.sum = V.int 0 from fun z => hz (V.int.inj z))]
      refine iteF ?_
      have := mem_le_sum.sum_nonneg' nn0
      exact loop ss0 H5 slen0 (fun y hy => by have := sall0 y hy; omega) (by omega) hss0 hds5 RA5 k05
end
end Rp
namespace Rp
open PySem PySem.Spec PyProof.Rows L2 Rz Rm
section
variable {K : PySem.W.Frag} {H : Hp} {Q : VK} {a b : Addr} {xs ys : List V}
theorem sl_from {k : Int} (ha : H a = some (.tup xs)) (k0 : 0 ≤ k) (k1 : k ≤ xs.length) (h : ∀ H' p, Same H H' → H' p = some (.tup (xs.drop k.toNat)) → Q (.ref p) H') : rSlA K (.ref a) (some k) none H Q := by
  have e : k = ((k.toNat : Nat) : Int) := by omega
  have e0 : HT.sIx xs.length 0 (some k) = k.toNat := by
    rw [e, HT.sIx_nat]
    omega
  have e1 : cutV xs (some k) none = xs.drop k.toNat := by
    unfold cutV
    rw [e0, HT.sIx_none, List.take_of_length_le (by rw [List.length_drop]; omega)]
  refine ⟨a, xs, rfl, .of ha, fun z => h H a (fun _ _ q => q) ?_, fun _ p hp => h _ p (same_upd hp) (by rw [upd_same, e1])⟩
  rw [e0] at z
  rw [ha, z.1]
  rfl
theorem sl_to {k : Int} (ha : H a = some (.tup xs)) (k0 : 0 ≤ k) (k1 : k ≤ xs.length) (h : ∀ H' p, Same H H' → H' p = some (.tup (xs.take k.toNat)) → Q (.ref p) H') : rSlA K (.ref a) none (some k) H Q := by
  have e : k = ((k.toNat : Nat) : Int) := by omega
  have e0 : HT.sIx xs.length xs.length (some k) = k.toNat := by
    rw [e, HT.sIx_nat]
    omega
  have e1 : cutV xs none (some k) = xs.take k.toNat := by
    unfold cutV
    rw [e0, HT.sIx_none, List.drop_zero, Nat.sub_zero]
  refine ⟨a, xs, rfl, .of ha, fun z => h H a (fun _ _ q => q) ?_, fun _ p hp => h _ p (same_upd hp) (by rw [upd_same, e1])⟩
  rw [e0] at z
  rw [ha, z.2, List.take_length]
theorem cat_any (ha : H a = some (.tup xs)) (hb : H b = some (.tup ys)) (hl : xs.length + ys.length ≤ sizeLine) (h : ∀ H' p, Same H H' → H' p = some (.tup (xs ++ ys)) → Q (.ref p) H') : rCatA K (.ref a) (.ref b) H Q := by
  refine ⟨a, b, xs, ys, rfl, rfl, .of ha, .of hb, hl, fun z => h H b (fun _ _ q => q) ?_, fun _ z => h H a (fun _ _ q => q) ?_, fun _ _ p hp => h _ p (same_upd hp) upd_same⟩
  · rw [z, hb]
    rfl
  · rw [z, ha, List.append_nil]
end
theorem noPart {σ : L2.St} {H : Hp} {Q : Option Int → Hp → Prop} (h : Q none H) : tNoPart σ H Q := h
end Rp
namespace Rp
open PySem PySem.Spec PyProof.Rows L2 Rz Rm
/-- tuples of ints at addresses -/
def Tups (H : Hp) : List V → List (List Int) → Prop := Paired fun v l => ∃ t, v = V.ref t ∧ H t = some (.tup (l.map V.int))
theorem Tups.snoc {H : Hp} {v : V} {l : List Int} (h2 : ∃ t, v = V.ref t ∧ H t = some (.tup (l.map V.int))) : ∀ {xs : List V} {ls : List (List Int)}, Tups H xs ls → Tups H (xs ++ [v]) (ls ++ [l])
  | _, _, .nil => .cons h2 .nil
  | _, _, .cons r t => .cons r (Tups.snoc h2 t)
theorem Tups.mono {H H' : Hp} (k : ∀ b xs, H b = some (.tup xs) → H' b = some (.tup xs)) : ∀ {xs : List V} {ls : List (List Int)}, Tups H xs ls → Tups H' xs ls
  | _, _, .nil => .nil
  | _, _, .cons ⟨t, e, h⟩ r => .cons ⟨t, e, k _ _ h⟩ (Tups.mono k r)
theorem Tups.length {H : Hp} {xs : List V} {ls : List (List Int)} (h : Tups H xs ls) : xs.length = ls.length := Paired.length h
theorem Tups.get {H : Hp} : ∀ {xs : List V} {ls : List (List Int)} {i : Nat} {l : List Int}, Tups H xs ls → ls[i]? = some l → ∃ t, xs[i]? = some (.ref t) ∧ H t = some (.tup (l.map V.int))
  | _, _, i, l, .nil, h => by simp at h
  | _, _, 0, l, .cons ⟨t, e, h2⟩ r, h => by
    simp at h
    subst h
    exact ⟨t, by rw [e]; rfl, h2⟩
  | _, _, i + 1, l, .cons _ r, h => by
    obtain ⟨t, h1, h2⟩ := Tups.get (i := i) (l := l) r (by simpa using h)
    exact ⟨t, by simpa using h1, h2⟩
/-- as data, for == -/
theorem dp_is {K : PySem.W.Frag} {H : Hp} : ∀ l : List Int, DpAll K H (l.map V.int) (l.map PyData.int)
  | [] => .nil
  | x :: r => .cons (.int x) (dp_is r)
theorem Tups.data {K : PySem.W.Frag} {H : Hp} : ∀ {xs : List V} {ls : List (List Int)}, Tups H xs ls → DpAll K H xs (ls.map fun l => PyData.tuple (l.map PyData.int))
  | _, _, .nil => .nil
  | _, _, .cons ⟨t, e, h⟩ r => .cons (by subst e; exact .tup (.of h) (dp_is _)) (Tups.data r)
theorem lay_tups : ∀ ls : List (List Int), PyData.canLayAll0 (ls.map fun l => PyData.tuple (l.map PyData.int)) = true ∧ PyData.depthAll (ls.map fun l => PyData.tuple (l.map PyData.int)) ≤ 1
  | [] => ⟨rfl, Nat.zero_le _⟩
  | l :: r => by
    obtain ⟨h1, h2⟩ := lay_tups r
    constructor
    · simp [PyData.canLayAll0, PyData.canLay0, PySem.W.ke_canLayAll0 l, h1]
    · simp only [List.map_cons, PyData.depthAll, PyData.depth, PySem.W.ke_depthAll l]
      omega
theorem shaped_tups (ls : List (List Int)) : SeqAt.shaped (.list (ls.map fun l => PyData.tuple (l.map PyData.int))) = true := by
  obtain ⟨h1, h2⟩ := lay_tups ls
  simp only [SeqAt.shaped, PyData.canLay0, PyData.depth, h1, Bool.true_and]
  exact decide_eq_true (by omega)
theorem RingAt.kp {C : Addr} {K : PySem.W.Frag} {H H' : Hp} {p dx td ts row a : Addr} {ds ss ns : List Int} (R : RingAt C H p dx td ts ds ss) (RA : RowAt K H row a ns) (k : Kp row H H') : RingAt C H' p dx td ts ds ss := by
  obtain ⟨i, m, q, h, _⟩ := RA.ob
  exact ⟨k _ _ R.ob (ne_of R.ob h (by intro z; cases z)), k _ _ R.td (ne_of R.td h (by intro z; cases z)), k _ _ R.ts (ne_of R.ts h (by intro z; cases z)), R.ok⟩
theorem tup_kp {K : PySem.W.Frag} {H H' : Hp} {t row a : Addr} {xs : List V} {ns : List Int} (ht : H t = some (.tup xs)) (RA : RowAt K H row a ns) (k : Kp row H H') : H' t = some (.tup xs) := by
  obtain ⟨i, m, q, h, _⟩ := RA.ob
  exact k _ _ ht (ne_of ht h (by intro z; cases z))
theorem up {N : Nat} {d s : Int → Int} {B T M : Int} (R : Rm.Ring N d s B T M) (r : Int) {x : Int} (hx : 0 ≤ x) : Rm.E d s r x ≤ (x + 1) * T + x * M := by
  obtain ⟨k, hk, e⟩ := R.att r hx
  have hN := R.pos
  have hB := R.b1
  have hT := R.T0
  have ek : k = k % N + k / N * N := by
    have := Nat.mod_add_div k N
    rw [Nat.mul_comm] at this
    exact this.symm
  have hj := Nat.mod_lt k hN
  have hS := R.sumS r (k % N) (k / N)
  have hD := R.sumD r (k % N + 1) (k / N)
  rw [← ek] at hS
  rw [show k % N + 1 + k / N * N = k + 1 by omega] at hD
  have hm : ((k / N : Nat) : Int) ≤ x := by
    have h1 := sum_nn R.s0 r (k % N)
    have h2 : ((k / N : Nat) : Int) * 1 ≤ ((k / N : Nat) : Int) * B := Int.mul_le_mul_of_nonneg_left hB (Int.natCast_nonneg _)
    omega
  have hd0 : sumBack d r (k % N + 1) ≤ T := by
    have := sum_mono (f := d) (fun i => by have := R.d1 i; omega) r (show k % N + 1 ≤ N by omega)
    rw [R.t] at this
    exact this
  have h3 : ((k / N : Nat) : Int) * T ≤ x * T := Int.mul_le_mul_of_nonneg_right hm hT
  have h4 := max_le R.mu r k
  have h40 : 0 ≤ maxBack d r k := by
    have h1 := max_ge (f := d) r (j := 0) (k := k) (Nat.zero_le _)
    have h2 := R.d1 (r - (0 : Nat))
    omega
  have h5 : (x - sumBack s r k) * maxBack d r k ≤ x * M := by
    have a1 : (x - sumBack s r k) * maxBack d r k ≤ x * maxBack d r k := Int.mul_le_mul_of_nonneg_right (by have := sum_nn R.s0 r k; omega) h40
    have a2 : x * maxBack d r k ≤ x * M := Int.mul_le_mul_of_nonneg_left h4 hx
    omega
  unfold ch at e
  rw [Int.add_mul]
  omega
theorem and_go {c : Bool} {u : TT} {σ : L2.St} {H : Hp} {F : Bool → Hp → Prop} (G : Hp → Prop) (next : ∀ H9, G H9 → F false H9) (hH : G H) (h1 : c = true → (∀ H9, G H9 → F false H9) → u σ H F) : if c = true then u σ H F else F false H := by
  cases c with
  | true => exact iteT (h1 rfl next)
  | false => exact iteF (next H hH)
theorem dp_ints {K : PySem.W.Frag} {H : Hp} : ∀ l : List Int, DpAll K H (l.map V.int) (l.map PyData.int)
  | [] => .nil
  | x :: r => .cons (.int x) (dp_ints r)
theorem Tups.rev {H : Hp} : ∀ {xs : List V} {ls : List (List Int)}, Tups H xs ls → Tups H xs.reverse ls.reverse
  | _, _, .nil => .nil
  | _, _, .cons r t => by
    rw [List.reverse_cons, List.reverse_cons]
    exact Tups.snoc r (Tups.rev t)
theorem Tups.drop {H : Hp} : ∀ {xs : List V} {ls : List (List Int)} (k : Nat), Tups H xs ls → Tups H (xs.drop k) (ls.drop k)
  | _, _, 0, h => h
  | _, _, k + 1, .nil => .nil
  | _, _, k + 1, .cons _ t => Tups.drop k t
theorem Tups.same {H H' : Hp} (s : Same H H') {xs : List V} {ls : List (List Int)} (h : Tups H xs ls) : Tups H' xs ls := h.mono fun b xs e => s _ _ e
/-- two tuples of ints are compared -/
theorem eqv_tup (as bs : List Int) : PyData.eqv (.tuple (as.map PyData.int)) (.tuple (bs.map PyData.int)) = decide (as = bs) := PySem.W.ked_eqvAll _ _
theorem eqv_lst (as bs : List Int) : PyData.eqv (.list (as.map PyData.int)) (.list (bs.map PyData.int)) = decide (as = bs) := PySem.W.ked_eqvAll _ _
theorem shaped_tup (as : List Int) : SeqAt.shaped (.tuple (as.map PyData.int)) = true := by
  simp only [SeqAt.shaped, PyData.canLay0, PyData.depth, PySem.W.ke_canLayAll0 as, PySem.W.ke_depthAll as, Bool.true_and]
  exact decide_eq_true (by omega)
theorem shaped_lst (as : List Int) : SeqAt.shaped (.list (as.map PyData.int)) = true := by
  simp only [SeqAt.shaped, PyData.canLay0, PyData.depth, PySem.W.ke_canLayAll0 as, PySem.W.ke_depthAll as, Bool.true_and]
  exact decide_eq_true (by omega)
section
variable {K : PySem.W.Frag} {H : Hp} {a b : Addr} {as bs : List Int} {Q : VK}
theorem tup_eq (ha : H a = some (.tup (as.map V.int))) (hb : H b = some (.tup (bs.map V.int))) (q : Q (.bl (decide (as = bs))) H) : rEqD K (.ref a) (.ref b) H Q :=
  ⟨_, _, .tup (.of ha) (dp_is as), .tup (.of hb) (dp_is bs), shaped_tup as, shaped_tup bs, by rw [eqv_tup]; exact q⟩
theorem tup_ne (ha : H a = some (.tup (as.map V.int))) (hb : H b = some (.tup (bs.map V.int))) (q : Q (.bl (!decide (as = bs))) H) : rNeD K (.ref a) (.ref b) H Q :=
  ⟨_, _, .tup (.of ha) (dp_is as), .tup (.of hb) (dp_is bs), shaped_tup as, shaped_tup bs, by rw [eqv_tup]; exact q⟩
theorem lst_ne (ha : SqL K H a (as.map V.int)) (hb : SqL K H b (bs.map V.int)) (q : Q (.bl (!decide (as = bs))) H) : rNeD K (.ref a) (.ref b) H Q :=
  ⟨_, _, .lst ha (dp_is as), .lst hb (dp_is bs), shaped_lst as, shaped_lst bs, by rw [eqv_lst]; exact q⟩
theorem lst_eq (ha : SqL K H a (as.map V.int)) (hb : SqL K H b (bs.map V.int)) (q : Q (.bl (decide (as = bs))) H) : rEqD K (.ref a) (.ref b) H Q :=
  ⟨_, _, .lst ha (dp_is as), .lst hb (dp_is bs), shaped_lst as, shaped_lst bs, by rw [eqv_lst]; exact q⟩
end
end Rp
namespace Rp
open PySem PySem.Spec PyProof.Rows L2 Rz Rm
theorem set_map {ds : List Int} {r d : Int} (h0 : 0 ≤ r) (h1 : r < ds.length) : ((ds.map V.int).take r.toNat ++ [V.int d]) ++ (ds.map V.int).drop (r + 1).toNat = (ds.set r.toNat d).map V.int := by
  have e : (r + 1).toNat = r.toNat + 1 := by omega
  rw [List.map_set, List.set_eq_take_append_cons_drop, if_pos (by rw [List.length_map]; omega), e]
  simp
theorem Good.set {ds ss : List Int} (G : Good ds ss) (i : Nat) {d : Int} (h : 1 ≤ d ∧ d ≤ 30) : Good (ds.set i d) ss :=
  ⟨by rw [List.length_set]; exact G.l2, by rw [List.length_set]; exact G.l8, by rw [List.length_set]; exact G.ls, fun y hy => (mem_set hy).elim (G.d1 y) (fun e => by rw [e]; exact h), G.s0, G.b1, G.b12⟩
/-! ### numbers from 0 on -/
def iot (n : Nat) : List Int := (List.range n).map fun i => ((i : Nat) : Int)
theorem rgV_iot (n : Nat) : rgV 0 (n : Int) = (iot n).map V.int := by
  unfold rgV iot
  rw [List.map_map, show ((n : Int) - 0).toNat = n by omega]
  refine List.map_congr_left fun i _ => ?_
  show V.int (0 + (i : Int)) = V.int (i : Int)
  rw [Int.zero_add]
theorem iot_len (n : Nat) : (iot n).length = n := by unfold iot; rw [List.length_map, List.length_range]
section
variable {P : Program} {w : World} {K : PySem.W.Frag} {mg : Str → Option Value} {base : Heap}
/-! ### Ring.with_days -/
def spWith (C : Addr) : Sp := fun vs H Q _ => ∃ p dx td ts ds ss, ∃ r d : Int, vs = [.ref p, .int r, .int d] ∧ RingAt C H p dx td ts ds ss ∧ 0 ≤ r ∧ r < ds.length ∧ 1 ≤ d ∧ d ≤ 30 ∧
  ∀ H' p' dx' td' ts', Same H H' → RingAt C H' p' dx' td' ts' (ds.set r.toNat d) ss → Q (.ref p') H'
theorem ok_with (T : Tx K mg) : FnOk P w K mg base CX0 6 T.a_rwith_days T.d_rwith_days P_rwith_days (spWith T.C) := by
  refine T.F_rwith_days.ok sc_rwith_days (fun vs H Q E h => ?_) (fun cdv A outer s H vs Q E hr h => ?_)
  · obtain ⟨p, dx, td, ts, ds, ss, r, d, rfl, _⟩ := h
    rfl
  · obtain ⟨p, dx, td, ts, ds, ss, r, d, rfl, R, r0, r1, d1, d2, q⟩ := h
    have hr3 : Room 3 _ := hr.mono (by decide)
    have nd := sc_rwith_days.nd
    have l8 := R.ok.l8
    have ls := R.ok.ls
    refine ⟨_, pss_cons (ps_expr (pe_call (ok_reader T) hr3 (by rfl) T.g_check_reader T.F_check_reader.kp T.b_check_reader .nil pass0 (pa_cons (pv 0) (pa_cons (pv 1) pa_nil))))
      (pss_cons (ps_set (i := 3) nd rfl (.inl rfl) (pe_op op_catA (pe_op op_catA (pe_slice sl_tupA (pe_fld (pv 0) rfl) po_none (po_some (pv 1))) (pe_tup (pa_cons (pv 2) pa_nil))) (pe_slice sl_tupA (pe_fld (pv 0) rfl) (po_some (pe_op op_add (pv 1) pe_int)) po_none)))
      (pss_one (ps_ret (pe_make T.mkR (ok_init T) hr (by rfl) T.gC T.b_rinit .nil pass0 (pa_cons (pv 3) (pa_cons (pe_fld (pv 0) rfl) pa_nil)))))), ?_⟩
    refine ⟨_, rfl, _, rfl, p, dx, td, ts, ds, ss, r, rfl, R, r0, r1, ?_⟩
    refine ⟨_, rfl, p, _, dx, _, _, rfl, R.ob, T.cl, T.nD, flds_days _ _, _, rfl, _, rfl, ?_⟩
    refine sl_to R.td r0 (by rw [List.length_map]; omega) fun H1 p1 s1 h1 => ?_
    refine ⟨_, rfl, (by show 1 ≤ sizeLine; decide), fun p2 hp2 => ?_⟩
    have s2 := same_upd (o := .tup [.int d]) hp2
    refine cat_any (s2 _ _ h1) upd_same (by rw [List.length_take, List.length_map]; have := small1000 (n := ds.length) (by omega); simp only [List.length_cons, List.length_nil]; have := small1000 (n := ds.length + 1) (by omega); omega) fun H3 p3 s3 h3 => ?_
    have R3 := ((R.same s1).same s2).same s3
    refine ⟨_, rfl, p, _, dx, _, _, rfl, R3.ob, T.cl, T.nD, flds_days _ _, _, rfl, _, _, rfl, rfl, _, rfl, ?_⟩
    refine noPart ?_
    refine sl_from R3.td (k := r + 1) (by omega) (by rw [List.length_map]; omega) fun H4 p4 s4 h4 => ?_
    refine cat_any (s4 _ _ h3) h4 (by rw [List.length_append, List.length_drop, List.length_take, List.length_map]; simp only [List.length_cons, List.length_nil]; have := small1000 (n := ds.length + ds.length + 1) (by omega); omega) fun H5 td' s5 h5 => ?_
    rw [set_map r0 r1] at h5
    have R5 := (R3.same s4).same s5
    refine ⟨_, rfl, _, rfl, p, _, dx, _, _, rfl, R5.ob, T.cl, T.nS, flds_starts _ _, fun x y nx ny ne => ?_⟩
    have s0 : Same H5 (upd (upd H5 y (.own x)) x (.ins T.C y [])) := fun b o e => by
      rw [upd_ne (ne_of_none e nx), upd_ne (ne_of_none e ny)]
      exact e
    refine ⟨x, y, td', ts, ds.set r.toNat d, ss, rfl, upd_same, s0 _ _ h5, s0 _ _ R5.ts, R.ok.set _ ⟨d1, d2⟩, fun H7 R7 k7 => ⟨rfl, ?_⟩⟩
    exact q H7 x y td' ts (((((s1.trans s2).trans s3).trans s4).trans s5).trans (Same.made nx ny k7)) R7
end
end Rp
/-! Observers of days that are not known. -/
namespace Rp
open PySem PySem.Spec PyProof.Rows L2 Rz Rm Rl
/-- an observer's attributes -/
def obF (r : Int) (rl ol : Addr) : List (Str × V) := [("_reader", .int r), ("_rings", .ref rl), ("_observations", .ref ol)]
theorem obF_r (r : Int) (rl ol : Addr) : (obF r rl ol).lookup ("_reader" : Str) = some (.int r) := by rfl
theorem obF_g (r : Int) (rl ol : Addr) : (obF r rl ol).lookup ("_rings" : Str) = some (.ref rl) := by rfl
theorem obF_o (r : Int) (rl ol : Addr) : (obF r rl ol).lookup ("_observations" : Str) = some (.ref ol) := by rfl
theorem obF_put (r : Int) (rl ol nl : Addr) : putF "_rings" (.ref nl) (obF r rl ol) = obF r nl ol := by rfl
/-- rings with these days of one reader -/
def Rgs (C : Addr) (H : Hp) (r : Nat) (ra : List Addr) (lf : List Int) (ds ss : List Int) : Prop :=
  ra.length = lf.length ∧ ∀ (i : Nat) (a : Addr) (d : Int), ra[i]? = some a → lf[i]? = some d → 1 ≤ d ∧ d ≤ 30 ∧ ∃ dx td ts, RingAt C H a dx td ts (ds.set r d) ss
structure Ob (C dC : Addr) (H : Hp) (o dx rl ol : Addr) (r : Nat) (ra : List Addr) (lf ds ss : List Int) (os : List V) : Prop where
  ob : H o = some (.ins dC dx (obF (r : Int) rl ol))
  hr : H rl = some (.lst (ra.map V.ref))
  ho : H ol = some (.lst os)
  rg : Rgs C H r ra lf ds ss
  ne : lf ≠ []
  l30 : lf.length ≤ 30
  rlt : r < ds.length
  l8 : ds.length ≤ 8
  few : os.length ≤ 500
/-- all but the observer and its list of observations stays -/
def KO (o ol : Addr) (H H' : Hp) : Prop := ∀ b x, H b = some x → b ≠ o → b ≠ ol → H' b = some x
theorem Same.ko {o ol : Addr} {H H' : Hp} (s : Same H H') : KO o ol H H' := fun b x h _ _ => s b x h
theorem Rgs.mono {C : Addr} {H H' : Hp} {r : Nat} {ra : List Addr} {lf ds ss : List Int} (h : Rgs C H r ra lf ds ss) (k : ∀ a dx td ts es, RingAt C H a dx td ts es ss → RingAt C H' a dx td ts es ss) : Rgs C H' r ra lf ds ss :=
  ⟨h.1, fun i a d h1 h2 => by
    obtain ⟨d1, d2, dx, td, ts, R⟩ := h.2 i a d h1 h2
    exact ⟨d1, d2, dx, td, ts, k _ _ _ _ _ R⟩⟩
section
variable {C dC : Addr} {H H' : Hp} {o dx rl ol : Addr} {r : Nat} {ra : List Addr} {lf ds ss : List Int} {os : List V}
theorem Rgs.same (h : Rgs C H r ra lf ds ss) (s : Same H H') : Rgs C H' r ra lf ds ss := h.mono fun _ _ _ _ _ R => R.same s
theorem Ob.same (b : Ob C dC H o dx rl ol r ra lf ds ss os) (s : Same H H') : Ob C dC H' o dx rl ol r ra lf ds ss os := ⟨s _ _ b.ob, s _ _ b.hr, s _ _ b.ho, b.rg.same s, b.ne, b.l30, b.rlt, b.l8, b.few⟩
/-- the first ring -/
theorem Ob.first (b : Ob C dC H o dx rl ol r ra lf ds ss os) : ∃ a d dx' td ts, ra[0]? = some a ∧ RingAt C H a dx' td ts (ds.set r d) ss := by
  have h0 : 0 < lf.length := List.length_pos_iff.mpr b.ne
  have h1 : 0 < ra.length := by rw [b.rg.1]; exact h0
  obtain ⟨_, _, dx', td, ts, R⟩ := b.rg.2 0 _ _ (List.getElem?_eq_getElem h1) (List.getElem?_eq_getElem h0)
  exact ⟨_, _, dx', td, ts, List.getElem?_eq_getElem h1, R⟩
theorem Rgs.get (h : Rgs C H r ra lf ds ss) {i : Nat} {x : V} (hx : (ra.map V.ref)[i]? = some x) : ∃ a d dx' td ts, x = .ref a ∧ ra[i]? = some a ∧ lf[i]? = some d ∧ 1 ≤ d ∧ d ≤ 30 ∧ RingAt C H a dx' td ts (ds.set r d) ss := by
  rw [List.getElem?_map] at hx
  cases e : ra[i]? with
  | none => rw [e] at hx; cases hx
  | some a =>
    rw [e] at hx
    have hi : i < lf.length := by rw [← h.1]; exact (List.getElem?_eq_some_iff.mp e).1
    obtain ⟨d1, d2, dx', td, ts, R⟩ := h.2 i a _ e (List.getElem?_eq_getElem hi)
    exact ⟨a, _, dx', td, ts, (Option.some.inj hx).symm, rfl, List.getElem?_eq_getElem hi, d1, d2, R⟩
end
theorem pe_fldB {X : Cx} {K : PySem.W.Frag} {o : Expr} {ta : TE} {f : Str} {pos : Pos} (ha : PE X o ta) (hK : X.K = K) (hab : attributeBase o f X.env (eval o X.env) = eval o X.env) : PE X (.Attribute o f pos) (tFld K ta f) := by
  subst hK
  exact pe_fld ha hab
/-- the end of a reading when the reader at r needs d days -/
noncomputable def En (ds ss : List Int) (r : Nat) (d k x : Int) : Int := Rm.E (at' (ds.set r d)) (at' ss) k x
theorem at_set {ds : List Int} {r : Nat} {d : Int} (h : r < ds.length) : at' (ds.set r d) r = d := by
  exact at_nat (by rw [List.getElem?_set_self (by exact h)])
section
variable {P : Program} {w : World} {K : PySem.W.Frag} {mg : Str → Option Value} {base : Heap}
/-! ### _check_reading -/
def spCr (C dC : Addr) : Sp := fun vs H Q _ => ∃ (o dx rl ol : Addr) (r : Nat) (ra : List Addr) (lf ds ss : List Int) (os : List V) (k x : Int), vs = [.ref o, .int k, .int x] ∧ Ob C dC H o dx rl ol r ra lf ds ss os ∧ 0 ≤ k ∧ k < ds.length ∧ 0 ≤ x ∧ x ≤ 1000 ∧ Q .non H
theorem ok_cr (T : Tx K mg) : FnOk P w K mg base CX0 4 T.a_dcheck_reading T.d_dcheck_reading P_dcheck_reading (spCr T.C T.dC) := by
  refine T.F_dcheck_reading.ok sc_dcheck_reading (fun vs H Q E h => ?_) (fun cdv A outer s H vs Q E hr h => ?_)
  · obtain ⟨o, dx, rl, ol, r, ra, lf, ds, ss, os, k, x, rfl, _⟩ := h
    rfl
  · obtain ⟨o, dx, rl, ol, r, ra, lf, ds, ss, os, k, x, rfl, b, k0, k1, x0, x1, q⟩ := h
    obtain ⟨u1, c1⟩ := T.c_LATEST
    refine ⟨_, pss_cons (ps_expr (pe_call (ok_reader T) hr (by rfl) T.g_check_reader T.F_check_reader.kp T.b_check_reader .nil pass0 (pa_cons (pe_ix ix_list (pe_fld (pv 0) rfl) pe_int (fun _ _ => rfl)) (pa_cons (pv 1) pa_nil))))
      (pss_one (ps_expr (pe_call (ok_chk T) hr (by rfl) T.g_check_number T.F_check_number.kp T.b_check_number .nil pass0 (pa_cons (pv 2) (pa_cons pe_int (pa_cons (pe_glob (v := .int 1000000000000000000) (by rfl) c1 ⟨_, rfl⟩) pa_nil)))))), ?_⟩
    obtain ⟨a, d, dx', td, ts, ha, R⟩ := b.first
    refine ⟨_, rfl, o, _, dx, _, _, rfl, b.ob, T.clD, T.nRg, obF_g _ _ _, rl, _, 0, .ref a, rfl, rfl, .of b.hr, atI_nat (j := 0) (by rw [List.getElem?_map, ha]; rfl), ?_⟩
    refine ⟨_, rfl, a, dx', td, ts, ds.set r d, ss, k, rfl, R, k0, by rw [List.length_set]; exact k1, ?_⟩
    exact ⟨_, rfl, x, 0, _, rfl, x0, by omega, q⟩
/-! ### possible_days -/
def spPd (C dC : Addr) : Sp := fun vs H Q _ => ∃ (o dx rl ol : Addr) (r : Nat) (ra : List Addr) (lf ds ss : List Int) (os : List V), vs = [.ref o] ∧ Ob C dC H o dx rl ol r ra lf ds ss os ∧ ∀ H' l, Same H H' → H' l = some (.lst (lf.map V.int)) → Q (.ref l) H'
theorem ok_pd (T : Tx K mg) : FnOk P w K mg base CX0 3 T.a_dpossible_days T.d_dpossible_days P_dpossible_days (spPd T.C T.dC) := by
  refine T.F_dpossible_days.ok sc_dpossible_days (fun vs H Q E h => ?_) (fun cdv A outer s H vs Q E hr h => ?_)
  · obtain ⟨o, dx, rl, ol, r, ra, lf, ds, ss, os, rfl, _⟩ := h
    rfl
  · obtain ⟨o, dx, rl, ol, r, ra, lf, ds, ss, os, rfl, b, q⟩ := h
    have nd := sc_dpossible_days.nd
    refine ⟨_, pss_one (ps_ret (pe_lc (own := [("ring", 1)]) rfl nd (pi_list (pe_fld (pv 0) rfl)) (blkOk_by (N := N_dpossible_days) (sc := defScope s_dpossible_days) (by decide +kernel)) (fun _ _ _ _ _ => pg_name (i := 1) nd rfl (.inl rfl)) (fun _ _ _ _ _ => pts_nil)
      (fun _ _ _ _ _ => pe_ix (r := rIxT K) ix_tup (pe_prop (pv 1) T.cl T.q_rdays (ok_days T) (hr.mono (by decide : 2 ≤ 2)) T.b_rdays .nil pass0 rfl) (pe_fldB (K := K) (pv 0) rfl rfl) (fun _ _ => rfl)))), ?_⟩
    refine ⟨_, rfl, o, _, dx, _, _, rfl, b.ob, T.clD, T.nRg, obF_g _ _ _, rl, rfl, ⟨_, .of b.hr⟩, fun D hD => lc_list (xs := ra.map V.ref) (fun i H' => Same H H' ∧ H' D = some (.lst ((lf.take i).map V.int))) ⟨same_upd hD, upd_same⟩ (fun i H' _ p => .of (p.1 _ _ b.hr)) ?_ ?_⟩
    · rintro i x H1 hi ⟨s1, h1⟩
      obtain ⟨a, d, dx', td, ts, rfl, ha, hd, d1, d2, R⟩ := (b.rg.same s1).get hi
      refine ⟨rfl, lc_keep ?_⟩
      have hlt : i < lf.length := (List.getElem?_eq_some_iff.mp hd).1
      have l30 := b.l30
      refine ⟨_, rfl, a, dx', _, rfl, R.ob, a, dx', td, ts, ds.set r d, ss, rfl, R, _, rfl, o, _, dx, _, _, rfl, s1 _ _ b.ob, T.clD, T.nRd, obF_r _ _ _, td, _, (r : Int), .int d, rfl, rfl, .of R.td, ?_, (lf.take i).map V.int, h1, ?_, ?_⟩
      · refine at_of (j := r) rfl ?_
        rw [List.getElem?_map, List.getElem?_set_self b.rlt]
        rfl
      · rw [List.length_map, List.length_take]
        exact small1000 (by omega)
      · refine ⟨fun c z e => ?_, ?_⟩
        · rw [upd_ne (ne_of_none e hD)]
          exact s1 c z e
        · rw [upd_same, List.take_add_one, hd, map_snoc]
          rfl
    · rintro H1 ⟨s1, h1⟩
      rw [List.length_map, b.rg.1, List.take_length] at h1
      exact q H1 D s1 h1
/-! ### observations -/
def spOs (C dC : Addr) : Sp := fun vs H Q _ => ∃ (o dx rl ol : Addr) (r : Nat) (ra : List Addr) (lf ds ss : List Int) (os : List V), vs = [.ref o] ∧ Ob C dC H o dx rl ol r ra lf ds ss os ∧ ∀ H' l, Same H H' → H' l = some (.lst os) → Q (.ref l) H'
theorem ok_os (T : Tx K mg) : FnOk P w K mg base CX0 1 T.a_dobservations T.d_dobservations P_dobservations (spOs T.C T.dC) := by
  refine T.F_dobservations.ok sc_dobservations (fun vs H Q E h => ?_) (fun cdv A outer s H vs Q E hr h => ?_)
  · obtain ⟨o, dx, rl, ol, r, ra, lf, ds, ss, os, rfl, _⟩ := h
    rfl
  · obtain ⟨o, dx, rl, ol, r, ra, lf, ds, ss, os, rfl, b, q⟩ := h
    refine ⟨_, pss_one (ps_ret (pe_callTy (T := "list") call_list_of (by rfl) T.z_list (by decide +kernel) (pa_cons (pe_fld (pv 0) rfl) pa_nil))), ?_⟩
    exact ⟨_, rfl, o, _, dx, _, _, rfl, b.ob, T.clD, T.nOb, obF_o _ _ _, ol, _, rfl, .inl (.of b.ho), fun l hl => q _ l (same_upd hl) upd_same⟩
/-! ### is_same_number -/
def spSn : Sp := fun vs H Q _ => ∃ x y : Int, vs = [.int x, .int y] ∧ Q (.bl (decide (x = y))) H
theorem ok_sn (T : Tx K mg) : FnOk P w K mg base CX0 2 T.a_is_same_number T.d_is_same_number P_is_same_number spSn := by
  refine T.F_is_same_number.ok sc_is_same_number (fun vs H Q E h => ?_) (fun cdv A outer s H vs Q E hr h => ?_)
  · obtain ⟨x, y, rfl, _⟩ := h
    rfl
  · obtain ⟨x, y, rfl, q⟩ := h
    refine ⟨_, pss_one (ps_ret (pe_and (pe_call (ok_is_number T) hr (by rfl) T.g_is_number T.F_is_number.kp T.b_is_number .nil pass0 (pa_cons (pv 0) pa_nil)) (pe_one (pe_cmpR op_eq (pv 0) (pv 1) (nomark _))))), ?_⟩
    refine ⟨_, rfl, x, rfl, true, rfl, iteT ⟨_, rfl, _, rfl, rfl, ?_⟩⟩
    have e : decide (V.int x = V.int y) = decide (x = y) := by
      by_cases h : x = y
      · rw [h, decide_eq_true rfl, decide_eq_true rfl]
      · rw [decide_eq_false h, decide_eq_false fun z => h (V.int.inj z)]
    rw [e]
    exact q
/-! ### possible_ends -/
noncomputable def ends (ds ss : List Int) (r : Nat) (lf : List Int) (k x : Int) : List Int := lf.map fun d => En ds ss r d k x
def spPe (C dC : Addr) : Sp := fun vs H Q _ => ∃ (o dx rl ol : Addr) (r : Nat) (ra : List Addr) (lf ds ss : List Int) (os : List V) (k x : Int), vs = [.ref o, .int k, .int x] ∧ Ob C dC H o dx rl ol r ra lf ds ss os ∧ 0 ≤ k ∧ k < ds.length ∧ 0 ≤ x ∧ x ≤ 1000 ∧
  ∀ (H' : Hp) (l : Addr) (ns : List Int), Same H H' → H' l = some (.lst (ns.map V.int)) → ns.Pairwise (· < ·) → (∀ y : Int, y ∈ ns ↔ y ∈ ends ds ss r lf k x) → ns.length ≤ 30 → Q (.ref l) H'
theorem ok_pe (T : Tx K mg) : FnOk P w K mg base CX0 5 T.a_dpossible_ends T.d_dpossible_ends P_dpossible_ends (spPe T.C T.dC) := by
  refine T.F_dpossible_ends.ok sc_dpossible_ends (fun vs H Q E h => ?_) (fun cdv A outer s H vs Q E hr h => ?_)
  · obtain ⟨o, dx, rl, ol, r, ra, lf, ds, ss, os, k, x, rfl, _⟩ := h
    rfl
  · obtain ⟨o, dx, rl, ol, r, ra, lf, ds, ss, os, k, x, rfl, b, k0, k1, x0, x1, q⟩ := h
    have nd := sc_dpossible_ends.nd
    refine ⟨_, pss_cons (ps_expr (pe_meth (pv 0) T.clD T.mChk (ok_cr T) hr T.b_dcheck_reading .nil pass0 (pa_cons (pv 1) (pa_cons (pv 2) pa_nil))))
      (pss_one (ps_ret (pe_callB (cr_sortedSet rfl) (by rfl) T.z_sorted (by decide +kernel) (pa_cons (pe_scI (own := [("ring", 3)]) rfl nd (pi_list (pe_fld (pv 0) rfl)) (blkOk_by (N := N_dpossible_ends) (sc := defScope s_dpossible_ends) (by decide +kernel)) (fun _ _ _ _ _ => pg_name (i := 3) nd rfl (.inl rfl))
        (fun _ _ _ _ _ => pe_call (ok_end T) (hr.mono (by decide : 3 ≤ 4)) (by rfl) T.g_end_day T.F_end_day.kp T.b_end_day .nil pass0 (pa_cons (pv 3) (pa_cons (pv 1) (pa_cons (pv 2) pa_nil))))) pa_nil)))), ?_⟩
    have l30 := b.l30
    refine ⟨_, rfl, o, dx, _, rfl, b.ob, rfl, _, rfl, _, rfl, o, dx, rl, ol, r, ra, lf, ds, ss, os, k, x, rfl, b, k0, k1, x0, x1, ?_⟩
    refine ⟨_, rfl, o, _, dx, _, _, rfl, b.ob, T.clD, T.nRg, obF_g _ _ _, rl, rfl, ⟨_, .of b.hr⟩, fun D hD => scI_list (xs := ra.map V.ref) (fun i H' => Same H H' ∧ ∃ n, n ≤ i ∧ H' D = some (SetO w D (fun j => decide (j ∈ (ends ds ss r lf k x).take i)) n)) ?_ (fun i H' _ p => .of (p.1 _ _ b.hr)) ?_ ?_⟩
    · refine ⟨same_upd hD, 0, Nat.le_refl _, ?_⟩
      rw [upd_same]
      rfl
    · rintro i v H1 hi ⟨s1, n, hn, h1⟩
      obtain ⟨a, d, dx', td, ts, rfl, ha, hd, d1, d2, R⟩ := (b.rg.same s1).get hi
      have hlt : i < lf.length := (List.getElem?_eq_some_iff.mp hd).1
      refine ⟨rfl, _, rfl, _, rfl, _, rfl, a, dx', td, ts, ds.set r d, ss, k, x, rfl, R, k0, by rw [List.length_set]; exact k1, x0, _, _, n, rfl, h1, by unfold scanBound; omega, fun c z e => ?_, (if decide (Rm.E (at' (ds.set r d)) (at' ss) k x ∈ (ends ds ss r lf k x).take i) = true then n else n + 1), ?_, ?_⟩
      · rw [upd_ne (ne_of_none e hD)]
        exact s1 c z e
      · split <;> omega
      · rw [upd_same]
        have eE : (ends ds ss r lf k x)[i]? = some (En ds ss r d k x) := by
          unfold ends
          rw [List.getElem?_map, hd]
          rfl
        have eS : (fun j => decide (j ∈ (ends ds ss r lf k x).take i) || decide (j = En ds ss r d k x)) = fun j => decide (j ∈ (ends ds ss r lf k x).take (i + 1)) := by
          funext j
          rw [List.take_add_one, eE]
          simp [List.mem_append]
        show some (SetO w D (fun j => decide (j ∈ (ends ds ss r lf k x).take i) || decide (j = En ds ss r d k x)) _) = _
        rw [eS]
    · rintro H1 ⟨s1, n, hn, h1⟩
      have le : (ends ds ss r lf k x).length = lf.length := by unfold ends; rw [List.length_map]
      rw [List.length_map, b.rg.1] at h1 hn
      have tk : (ends ds ss r lf k x).take lf.length = ends ds ss r lf k x := by rw [← le, List.take_length]
      rw [tk] at h1
      refine ⟨D, _, n, rfl, h1, by omega, fun ns p pw mem ln hp => q _ p ns (s1.trans (same_upd hp)) upd_same pw (fun y => ?_) (by omega)⟩
      rw [mem y]
      exact decide_eq_true_iff
end
end Rp
/-! Observers: what is seen; the telling number; from a log; made. -/
namespace Rp
open PySem PySem.Spec PyProof.Rows L2 Rz Rm Rl
/-- the class of an error without fields, as the program raises it -/
structure RxE (K : PySem.W.Frag) (mg : Str → Option Value) (x : Str) (D : Addr) : Prop where
  g : mg x = some (.ref D)
  xF : PySem.W.excIn K D [.type "ValueError", .type "Exception", .type "BaseException", .type "object"] "ValueError.__new__" = true
  bF : PySem.W.subIn K (.ref D) (.type "BaseException") = some true
  tF : PySem.W.typeIn K (.ref D) = some (.type "type")
  kF : PySem.W.keepIn K (.ref D) = true
/-- the days that agree, and their rings -/
structure Sub (C : Addr) (H : Hp) (nl : Addr) (r : Nat) (rb : List Addr) (lg ds ss : List Int) : Prop where
  h : H nl = some (.lst (rb.map V.ref))
  rg : Rgs C H r rb lg ds ss
section
variable {P : Program} {w : World} {K : PySem.W.Frag} {mg : Str → Option Value} {base : Heap}
/-! ### _accept -/
/-- what an accepted observation changes -/
def AcQ (C dC : Addr) (H : Hp) (o dx nl ol : Addr) (r : Nat) (rb : List Addr) (lg ds ss : List Int) (os : List V) (t : Addr) (Q : VK) : Prop :=
  ∀ H', KO o ol H H' → Ob C dC H' o dx nl ol r rb lg ds ss (os ++ [.ref t]) → Q (.int (lg.length : Nat)) H'
def spAc (C dC CC : Addr) : Sp := fun vs H Q E => ∃ (o dx rl ol : Addr) (r : Nat) (ra : List Addr) (lf ds ss : List Int) (os : List V) (t nl : Addr) (ys : List V) (rb : List Addr) (lg : List Int), vs = [.ref o, .ref t, .ref nl] ∧ Ob C dC H o dx rl ol r ra lf ds ss os ∧ os.length < 500 ∧ H t = some (.tup ys) ∧
  Sub C H nl r rb lg ds ss ∧ lg.length ≤ 30 ∧ nl ≠ ol ∧ (lg = [] → E (.ref CC) none H) ∧ (lg ≠ [] → AcQ C dC H o dx nl ol r rb lg ds ss os t Q)
theorem ok_ac {CC : Addr} (T : Tx K mg) (X : RxE K mg "Contradiction" CC) : FnOk P w K mg base (L2.CX P w) 2 T.a_daccept T.d_daccept P_daccept (spAc T.C T.dC CC) := by
  refine T.F_daccept.okX sc_daccept (fun vs H Q E h => ?_) (fun cdv A outer s H vs Q E hr h => ?_)
  · obtain ⟨o, dx, rl, ol, r, ra, lf, ds, ss, os, t, nl, ys, rb, lg, rfl, _⟩ := h
    rfl
  · obtain ⟨o, dx, rl, ol, r, ra, lf, ds, ss, os, t, nl, ys, rb, lg, rfl, b, few, ht, sb, l30, nn, q1, q2⟩ := h
    refine ⟨_, pss_cons (ps_if (pt_cmpR op_eq (pe_callB call_len_seq (by rfl) T.z_len PySem.boot_len (pa_cons (pv 2) pa_nil)) pe_int (nomark _))
        (pss_one (ps_raise rfl (takes_of rfl rfl rfl rfl) (pmk_own PySem.F.excBase_ValueError X.xF X.g X.kF (raises_own X.bF X.tF) (by exact rfl)))) pss_nil)
      (pss_cons (ps_fld (pv 0) (pv 2) rfl)
      (pss_cons (ps_expr (pe_bm PySem.F.plainAttrs_list PySem.F.slot_list_append PySem.F.type_list_append mt_append (pe_fld (pv 0) rfl) (pa_cons (pv 1) pa_nil)))
      (pss_one (ps_ret (pe_callB call_len_seq (by rfl) T.z_len PySem.boot_len (pa_cons (pv 2) pa_nil)))))), ?_⟩
    refine ⟨_, rfl, nl, _, rfl, .inl (.of sb.h), rfl, _, rfl, ?_⟩
    rw [List.length_map, sb.rg.1]
    by_cases e : lg = []
    · subst e
      exact iteT (q1 rfl)
    · have lp : 0 < lg.length := List.length_pos_iff.mpr e
      have ne0 : decide (V.int ((lg.length : Nat) : Int) = V.int 0) = false := decide_eq_false fun z => by
        have := V.int.inj z
        omega
      rw [ne0]
      refine iteF ?_
      have on : o ≠ nl := ne_of b.ob sb.h (by intro z; cases z)
      have oo : o ≠ ol := ne_of b.ob b.ho (by intro z; cases z)
      have ot : o ≠ t := ne_of b.ob ht (by intro z; cases z)
      refine ⟨_, rfl, _, rfl, o, T.dC, dx, _, rfl, b.ob, T.clD, T.nRg, (by show 3 < 1000; decide), ?_⟩
      rw [obF_put]
      have hol : (upd H o (.ins T.dC dx (obF r nl ol))) ol = some (.lst os) := (upd_ne (Ne.symm oo)).trans b.ho
      refine ⟨_, rfl, o, _, dx, _, _, rfl, upd_same, T.clD, T.nOb, obF_o _ _ _, .inl ⟨rfl, _, SqL.of hol⟩, _, rfl, ol, os, _, rfl, rfl, hol, by have := small1000 (n := 500) (by decide); omega, ?_⟩
      have hk : KO o ol H (upd (upd H o (.ins T.dC dx (obF r nl ol))) ol (.lst (os ++ [.ref t]))) := fun c z hz n1 n2 => (upd_ne n2).trans ((upd_ne n1).trans hz)
      have hnl := hk _ _ sb.h (Ne.symm on) nn
      refine ⟨_, rfl, nl, _, rfl, .inl (.of hnl), ?_⟩
      rw [List.length_map, sb.rg.1]
      refine q2 e _ hk ⟨?_, hnl, upd_same, sb.rg.mono fun c dx' td ts es R => ⟨hk _ _ R.ob (fun z => ?_) (fun z => ?_), hk _ _ R.td (fun z => ?_) (fun z => ?_), hk _ _ R.ts (fun z => ?_) (fun z => ?_), R.ok⟩, e, l30, b.rlt, b.l8, by rw [List.length_append]; simp; omega⟩
      · rw [upd_ne oo, upd_same]
      · have h1 := R.ob
        rw [z, b.ob] at h1
        injection h1 with h1
        injection h1 with h1 h2 h3
        have h4 := congrArg List.length h3
        have e3 : (obF (r : Int) rl ol).length = 3 := rfl
        have e2 : (flds td ts).length = 2 := by rfl
        omega
      · have h1 := R.ob
        rw [z, b.ho] at h1
        cases h1
      · have h1 := R.td
        rw [z, b.ob] at h1
        cases h1
      · have h1 := R.td
        rw [z, b.ho] at h1
        cases h1
      · have h1 := R.ts
        rw [z, b.ob] at h1
        cases h1
      · have h1 := R.ts
        rw [z, b.ho] at h1
        cases h1
/-! ### see_end, see_open -/
/-- the days whose rings agree with what is seen -/
noncomputable def agr (ds ss : List Int) (r : Nat) (isEnd : Bool) (k x day : Int) : Int → Bool := fun d => if isEnd then decide (En ds ss r d k x = day) else decide (day < En ds ss r d k x)
def spSee (C dC CC : Addr) (isEnd : Bool) (nm : Str) : Sp := fun vs H Q E => ∃ (o dx rl ol : Addr) (r : Nat) (ra : List Addr) (lf ds ss : List Int) (os : List V) (k x day : Int), vs = [.ref o, .int k, .int x, .int day] ∧ Ob C dC H o dx rl ol r ra lf ds ss os ∧ os.length < 500 ∧ 0 ≤ k ∧ k < ds.length ∧ 0 ≤ x ∧ x ≤ 1000 ∧ 0 ≤ day ∧ day ≤ 100000 ∧
  (lf.filter (agr ds ss r isEnd k x day) = [] → ∀ H', Same H H' → E (.ref CC) none H') ∧
  (lf.filter (agr ds ss r isEnd k x day) ≠ [] → ∀ (H' : Hp) (t nl : Addr) (rb : List Addr), KO o ol H H' → H' t = some (.tup [.str nm, .int k, .int x, .int day]) → Ob C dC H' o dx nl ol r rb (lf.filter (agr ds ss r isEnd k x day)) ds ss (os ++ [.ref t]) → Q (.int ((lf.filter (agr ds ss r isEnd k x day)).length : Nat)) H')
theorem ko_trans {o ol : Addr} {H H1 H2 : Hp} (s : Same H H1) (k : KO o ol H1 H2) : KO o ol H H2 := fun b x h n1 n2 => k b x (s b x h) n1 n2
/-- filtering rings along with their days -/
theorem rgs_next {C : Addr} {H : Hp} {r : Nat} {rb : List Addr} {lg ds ss : List Int} (h : Rgs C H r rb lg ds ss) {a dx td ts : Addr} {d : Int} (d1 : 1 ≤ d) (d2 : d ≤ 30) (R : RingAt C H a dx td ts (ds.set r d) ss) : Rgs C H r (rb ++ [a]) (lg ++ [d]) ds ss := by
  refine ⟨by rw [List.length_append, List.length_append, h.1]; rfl, fun i b e h1 h2 => ?_⟩
  by_cases hi : i < rb.length
  · rw [List.getElem?_append_left hi] at h1
    rw [List.getElem?_append_left (by rw [← h.1]; exact hi)] at h2
    exact h.2 i b e h1 h2
  · have hl := (List.getElem?_eq_some_iff.mp h1).1
    rw [List.length_append] at hl
    simp only [List.length_cons, List.length_nil] at hl
    have ei : i = rb.length := by omega
    subst ei
    rw [List.getElem?_append_right (Nat.le_refl _), Nat.sub_self] at h1
    rw [List.getElem?_append_right (by rw [h.1]; exact Nat.le_refl _), h.1, Nat.sub_self] at h2
    cases h1
    cases h2
    exact ⟨d1, d2, dx, td, ts, R⟩
theorem ref_snoc (rb : List Addr) (a : Addr) : rb.map V.ref ++ [V.ref a] = (rb ++ [a]).map V.ref := by rw [List.map_append]; rfl
theorem ok_se {CC : Addr} (T : Tx K mg) (X : RxE K mg "Contradiction" CC) : FnOk P w K mg base (L2.CX P w) 5 T.a_dsee_end T.d_dsee_end P_dsee_end (spSee T.C T.dC CC true "see_end") := by
  refine T.F_dsee_end.okX sc_dsee_end (fun vs H Q E h => ?_) (fun cdv A outer s H vs Q E hr h => ?_)
  · obtain ⟨o, dx, rl, ol, r, ra, lf, ds, ss, os, k, x, day, rfl, _⟩ := h
    rfl
  · obtain ⟨o, dx, rl, ol, r, ra, lf, ds, ss, os, k, x, day, rfl, b, few, k0, k1, x0, x1, y0, y1, q1, q2⟩ := h
    have nd := sc_dsee_end.nd
    refine ⟨_, pss_cons (ps_expr (pe_meth (pv 0) T.clD T.mChk (ok_cr T) hr T.b_dcheck_reading .nil pass0 (pa_cons (pv 1) (pa_cons (pv 2) pa_nil))))
      (pss_cons (ps_setLc (i := 4) (own := [("ring", 5)]) rfl nd rfl rfl (sw_true rfl rfl rfl (by decide +kernel)) (pi_list (pe_fld (pv 0) rfl)) (blkOk_by (N := N_dsee_end) (sc := defScope s_dsee_end) (by decide +kernel)) (fun _ _ _ _ _ => pg_name (i := 5) nd rfl (.inl rfl))
        (fun _ _ _ _ _ => pts_one (pt_val (pe_call (ok_sn T) (hr.mono (by decide : 2 ≤ 4)) (by rfl) T.g_is_same_number T.F_is_same_number.kp T.b_is_same_number .nil pass0 (pa_cons (pv 3) (pa_cons (pe_call (ok_end T) (hr.mono (by decide : 3 ≤ 4)) (by rfl) T.g_end_day T.F_end_day.kp T.b_end_day .nil pass0 (pa_cons (pv 5) (pa_cons (pv 1) (pa_cons (pv 2) pa_nil)))) pa_nil)))))
        (fun _ _ _ _ _ => pv 5))
      (pss_one (ps_ret (pe_meth (E := E) (pv 0) T.clD T.mAcc (ok_ac T X) (hr.mono (by decide : 2 ≤ 4)) T.b_daccept .nil (passes_call (takes_of rfl rfl rfl rfl) (fun _ _ _ _ z => z)) (pa_cons (pe_tup (pa_cons pe_str (pa_cons (pv 1) (pa_cons (pv 2) (pa_cons (pv 3) pa_nil))))) (pa_cons (pv 4) pa_nil)))))), ?_⟩
    have l30 := b.l30
    refine ⟨_, rfl, o, dx, _, rfl, b.ob, rfl, _, rfl, _, rfl, o, dx, rl, ol, r, ra, lf, ds, ss, os, k, x, rfl, b, k0, k1, x0, x1, ?_⟩
    refine ⟨_, rfl, o, _, dx, _, _, rfl, b.ob, T.clD, T.nRg, obF_g _ _ _, rl, rfl, ⟨_, .of b.hr⟩, fun D hD => lc_list (xs := ra.map V.ref) (fun i H' => Same H H' ∧ ∃ rb, H' D = some (.lst (rb.map V.ref)) ∧ Rgs T.C H' r rb ((lf.take i).filter (agr ds ss r true k x day)) ds ss) ?_ (fun i H' _ p => .of (p.1 _ _ b.hr)) ?_ ?_⟩
    · exact ⟨same_upd hD, [], upd_same, rfl, fun i a d h1 h2 => by cases h1⟩
    · rintro i v H1 hi ⟨s1, rb, h1, g1⟩
      obtain ⟨a, d, dx', td, ts, rfl, ha, hd, d1, d2, R⟩ := (b.rg.same s1).get hi
      have hlt : i < lf.length := (List.getElem?_eq_some_iff.mp hd).1
      have lb : rb.length ≤ i := by
        rw [g1.1]
        exact Nat.le_trans (List.length_filter_le _ _) (by rw [List.length_take]; omega)
      refine ⟨rfl, _, rfl, _, rfl, _, rfl, _, rfl, a, dx', td, ts, ds.set r d, ss, k, x, rfl, R, k0, by rw [List.length_set]; exact k1, x0, day, _, rfl, _, rfl, ?_⟩
      have ea : agr ds ss r true k x day d = decide (day = Rm.E (at' (ds.set r d)) (at' ss) k x) := by
        unfold agr En
        rw [if_pos rfl]
        exact decide_eq_decide.mpr eq_comm
      by_cases hc : day = Rm.E (at' (ds.set r d)) (at' ss) k x
      · rw [decide_eq_true hc]
        rw [decide_eq_true hc] at ea
        refine iteT ⟨_, rfl, _, h1, by rw [List.length_map]; exact small1000 (by omega), ?_, rb ++ [a], by rw [upd_same, ref_snoc], ?_⟩
        · exact fun c z e => by
            rw [upd_ne (ne_of_none e hD)]
            exact s1 c z e
        · rw [List.take_add_one, hd, Option.toList_some, List.filter_append, List.filter_cons_of_pos ea, List.filter_nil]
          have nd1 : ∀ c z, H1 c = some z → (∀ xs, z ≠ .lst xs) → (upd H1 D (.lst (rb.map V.ref ++ [V.ref a]))) c = some z := fun c z e n => (upd_ne fun q => by
            rw [q, h1] at e
            exact n _ (Option.some.inj e).symm).trans e
          refine rgs_next (g1.mono fun c dx2 td2 ts2 es R2 => ⟨nd1 _ _ R2.ob (fun _ z => by cases z), nd1 _ _ R2.td (fun _ z => by cases z), nd1 _ _ R2.ts (fun _ z => by cases z), R2.ok⟩) d1 d2 (dx := dx') (td := td) (ts := ts) ⟨nd1 _ _ R.ob (fun _ z => by cases z), nd1 _ _ R.td (fun _ z => by cases z), nd1 _ _ R.ts (fun _ z => by cases z), R.ok⟩
      · rw [decide_eq_false hc]
        rw [decide_eq_false hc] at ea
        refine iteF ⟨s1, rb, h1, ?_⟩
        rw [List.take_add_one, hd, Option.toList_some, List.filter_append, List.filter_cons_of_neg (by rw [ea]; decide), List.filter_nil, List.append_nil]
        exact g1
    · rintro H1 ⟨s1, rb, h1, g1⟩
      rw [List.length_map, b.rg.1, List.take_length] at g1
      refine ⟨_, rfl, o, dx, _, rfl, s1 _ _ b.ob, rfl, _, rfl, _, rfl, _, rfl, (by show 4 ≤ sizeLine; decide), fun t ht => ⟨_, rfl, ?_⟩⟩
      have s2 := same_upd (o := .tup [.str "see_end", .int k, .int x, .int day]) ht
      have b2 := (b.same s1).same s2
      have nD : D ≠ ol := fun z => by
        have := b.ho
        rw [← z, hD] at this
        cases this
      refine ⟨o, dx, rl, ol, r, ra, lf, ds, ss, os, t, D, _, rb, _, rfl, b2, few, upd_same, ⟨s2 _ _ h1, g1.same s2⟩, Nat.le_trans (List.length_filter_le _ _) b.l30, nD, fun e => q1 e _ (s1.trans s2), fun e H' hk b' => ?_⟩
      refine q2 e H' t D rb (ko_trans (s1.trans s2) hk) (hk _ _ upd_same ?_ ?_) b'
      · intro z
        have := b2.ob
        rw [← z, upd_same] at this
        cases this
      · intro z
        have := b2.ho
        rw [← z, upd_same] at this
        cases this
theorem ok_so {CC : Addr} (T : Tx K mg) (X : RxE K mg "Contradiction" CC) : FnOk P w K mg base (L2.CX P w) 5 T.a_dsee_open T.d_dsee_open P_dsee_open (spSee T.C T.dC CC false "see_open") := by
  refine T.F_dsee_open.okX sc_dsee_open (fun vs H Q E h => ?_) (fun cdv A outer s H vs Q E hr h => ?_)
  · obtain ⟨o, dx, rl, ol, r, ra, lf, ds, ss, os, k, x, day, rfl, _⟩ := h
    rfl
  · obtain ⟨o, dx, rl, ol, r, ra, lf, ds, ss, os, k, x, day, rfl, b, few, k0, k1, x0, x1, y0, y1, q1, q2⟩ := h
    have nd := sc_dsee_open.nd
    obtain ⟨u1, c1⟩ := T.c_LATEST
    refine ⟨_, pss_cons (ps_expr (pe_meth (pv 0) T.clD T.mChk (ok_cr T) hr T.b_dcheck_reading .nil pass0 (pa_cons (pv 1) (pa_cons (pv 2) pa_nil))))
      (pss_cons (ps_expr (pe_call (ok_chk T) (hr.mono (by decide : 3 ≤ 4)) (by rfl) T.g_check_number T.F_check_number.kp T.b_check_number .nil pass0 (pa_cons (pv 3) (pa_cons pe_int (pa_cons (pe_glob (v := .int 1000000000000000000) (by rfl) c1 ⟨_, rfl⟩) pa_nil)))))
      (pss_cons (ps_setLc (i := 4) (own := [("ring", 5)]) rfl nd rfl rfl (sw_true rfl rfl rfl (by decide +kernel)) (pi_list (pe_fld (pv 0) rfl)) (blkOk_by (N := N_dsee_open) (sc := defScope s_dsee_open) (by decide +kernel)) (fun _ _ _ _ _ => pg_name (i := 5) nd rfl (.inl rfl))
        (fun _ _ _ _ _ => pts_one (pt_cmpR op_gt (pe_call (ok_end T) (hr.mono (by decide : 3 ≤ 4)) (by rfl) T.g_end_day T.F_end_day.kp T.b_end_day .nil pass0 (pa_cons (pv 5) (pa_cons (pv 1) (pa_cons (pv 2) pa_nil)))) (pv 3) (nomark _)))
        (fun _ _ _ _ _ => pv 5))
      (pss_one (ps_ret (pe_meth (E := E) (pv 0) T.clD T.mAcc (ok_ac T X) (hr.mono (by decide : 2 ≤ 4)) T.b_daccept .nil (passes_call (takes_of rfl rfl rfl rfl) (fun _ _ _ _ z => z)) (pa_cons (pe_tup (pa_cons pe_str (pa_cons (pv 1) (pa_cons (pv 2) (pa_cons (pv 3) pa_nil))))) (pa_cons (pv 4) pa_nil))))))), ?_⟩
    have l30 := b.l30
    refine ⟨_, rfl, o, dx, _, rfl, b.ob, rfl, _, rfl, _, rfl, o, dx, rl, ol, r, ra, lf, ds, ss, os, k, x, rfl, b, k0, k1, x0, x1, ?_⟩
    refine ⟨_, rfl, day, 0, _, rfl, y0, by omega, ?_⟩
    refine ⟨_, rfl, o, _, dx, _, _, rfl, b.ob, T.clD, T.nRg, obF_g _ _ _, rl, rfl, ⟨_, .of b.hr⟩, fun D hD => lc_list (xs := ra.map V.ref) (fun i H' => Same H H' ∧ ∃ rb, H' D = some (.lst (rb.map V.ref)) ∧ Rgs T.C H' r rb ((lf.take i).filter (agr ds ss r false k x day)) ds ss) ?_ (fun i H' _ p => .of (p.1 _ _ b.hr)) ?_ ?_⟩
    · exact ⟨same_upd hD, [], upd_same, rfl, fun i a d h1 h2 => by cases h1⟩
    · rintro i v H1 hi ⟨s1, rb, h1, g1⟩
      obtain ⟨a, d, dx', td, ts, rfl, ha, hd, d1, d2, R⟩ := (b.rg.same s1).get hi
      have hlt : i < lf.length := (List.getElem?_eq_some_iff.mp hd).1
      have lb : rb.length ≤ i := by
        rw [g1.1]
        exact Nat.le_trans (List.length_filter_le _ _) (by rw [List.length_take]; omega)
      refine ⟨rfl, _, rfl, _, rfl, _, rfl, a, dx', td, ts, ds.set r d, ss, k, x, rfl, R, k0, by rw [List.length_set]; exact k1, x0, _, rfl, _, _, rfl, rfl, _, rfl, ?_⟩
      have ea : agr ds ss r false k x day d = decide (day < Rm.E (at' (ds.set r d)) (at' ss) k x) := by
        unfold agr En
        rw [if_neg (by decide)]
      by_cases hc : day < Rm.E (at' (ds.set r d)) (at' ss) k x
      · rw [decide_eq_true hc]
        rw [decide_eq_true hc] at ea
        refine iteT ⟨_, rfl, _, h1, by rw [List.length_map]; exact small1000 (by omega), ?_, rb ++ [a], by rw [upd_same, ref_snoc], ?_⟩
        · exact fun c z e => by
            rw [upd_ne (ne_of_none e hD)]
            exact s1 c z e
        · rw [List.take_add_one, hd, Option.toList_some, List.filter_append, List.filter_cons_of_pos ea, List.filter_nil]
          have nd1 : ∀ c z, H1 c = some z → (∀ xs, z ≠ .lst xs) → (upd H1 D (.lst (rb.map V.ref ++ [V.ref a]))) c = some z := fun c z e n => (upd_ne fun q => by
            rw [q, h1] at e
            exact n _ (Option.some.inj e).symm).trans e
          refine rgs_next (g1.mono fun c dx2 td2 ts2 es R2 => ⟨nd1 _ _ R2.ob (fun _ z => by cases z), nd1 _ _ R2.td (fun _ z => by cases z), nd1 _ _ R2.ts (fun _ z => by cases z), R2.ok⟩) d1 d2 (dx := dx') (td := td) (ts := ts) ⟨nd1 _ _ R.ob (fun _ z => by cases z), nd1 _ _ R.td (fun _ z => by cases z), nd1 _ _ R.ts (fun _ z => by cases z), R.ok⟩
      · rw [decide_eq_false hc]
        rw [decide_eq_false hc] at ea
        refine iteF ⟨s1, rb, h1, ?_⟩
        rw [List.take_add_one, hd, Option.toList_some, List.filter_append, List.filter_cons_of_neg (by rw [ea]; decide), List.filter_nil, List.append_nil]
        exact g1
    · rintro H1 ⟨s1, rb, h1, g1⟩
      rw [List.length_map, b.rg.1, List.take_length] at g1
      refine ⟨_, rfl, o, dx, _, rfl, s1 _ _ b.ob, rfl, _, rfl, _, rfl, _, rfl, (by show 4 ≤ sizeLine; decide), fun t ht => ⟨_, rfl, ?_⟩⟩
      have s2 := same_upd (o := .tup [.str "see_open", .int k, .int x, .int day]) ht
      have b2 := (b.same s1).same s2
      have nD : D ≠ ol := fun z => by
        have := b.ho
        rw [← z, hD] at this
        cases this
      refine ⟨o, dx, rl, ol, r, ra, lf, ds, ss, os, t, D, _, rb, _, rfl, b2, few, upd_same, ⟨s2 _ _ h1, g1.same s2⟩, Nat.le_trans (List.length_filter_le _ _) b.l30, nD, fun e => q1 e _ (s1.trans s2), fun e H' hk b' => ?_⟩
      refine q2 e H' t D rb (ko_trans (s1.trans s2) hk) (hk _ _ upd_same ?_ ?_) b'
      · intro z
        have := b2.ob
        rw [← z, upd_same] at this
        cases this
      · intro z
        have := b2.ho
        rw [← z, upd_same] at this
        cases this
end
end Rp
/-! Observers: the telling number; made; from a log. -/
namespace Rp
open PySem PySem.Spec PyProof.Rows L2 Rz Rm Rl
/-- l has n different members -/
def Cd (l : List Int) (n : Nat) : Prop := ∃ ks : List Int, ks.Nodup ∧ (∀ k : Int, k ∈ ks ↔ k ∈ l) ∧ ks.length = n
theorem Cd.one {l : List Int} {n m : Nat} (h : Cd l n) (g : Cd l m) : n = m := by
  obtain ⟨a, na, ma, rfl⟩ := h
  obtain ⟨b, nb, mb, rfl⟩ := g
  exact ((List.perm_ext_iff_of_nodup na nb).mpr fun k => (ma k).trans (mb k).symm).length_eq
theorem inc_nodup {l : List Int} (h : l.Pairwise (· < ·)) : l.Nodup := h.imp fun h => Int.ne_of_lt h
section
variable {P : Program} {w : World} {K : PySem.W.Frag} {mg : Str → Option Value} {base : Heap}
/-! ### telling_number -/
/-- the number n tells -/
noncomputable def Tells (ds ss : List Int) (r : Nat) (lf : List Int) (k n : Int) : Prop := Cd (ends ds ss r lf k n) lf.length
def spTn (C dC : Addr) : Sp := fun vs H Q _ => ∃ (o dx rl ol : Addr) (r : Nat) (ra : List Addr) (lf ds ss : List Int) (os : List V) (k : Int) (lim : Nat), vs = [.ref o, .int k, .int (lim : Int)] ∧ Ob C dC H o dx rl ol r ra lf ds ss os ∧ 0 ≤ k ∧ k < ds.length ∧ lim ≤ 400 ∧
  (∀ (H' : Hp) (n : Nat), Same H H' → n ≤ lim → Tells ds ss r lf k n → (∀ j : Nat, j < n → ¬ Tells ds ss r lf k j) → Q (.int (n : Int)) H') ∧ (∀ H', Same H H' → (∀ j : Nat, j ≤ lim → ¬ Tells ds ss r lf k j) → Q .non H')
theorem ok_tn (T : Tx K mg) : FnOk P w K mg base CX0 6 T.a_dtelling_number T.d_dtelling_number P_dtelling_number (spTn T.C T.dC) := by
  refine T.F_dtelling_number.ok sc_dtelling_number (fun vs H Q E h => ?_) (fun cdv A outer s H vs Q E hr h => ?_)
  · obtain ⟨o, dx, rl, ol, r, ra, lf, ds, ss, os, k, lim, rfl, _⟩ := h
    rfl
  · obtain ⟨o, dx, rl, ol, r, ra, lf, ds, ss, os, k, lim, rfl, b, k0, k1, l4, q1, q2⟩ := h
    have nd := sc_dtelling_number.nd
    obtain ⟨u1, c1⟩ := T.c_MOST_LIMIT
    refine ⟨_, pss_cons (ps_expr (pe_call (ok_reader T) (hr.mono (by decide)) (by rfl) T.g_check_reader T.F_check_reader.kp T.b_check_reader .nil pass0 (pa_cons (pe_ix ix_list (pe_fld (pv 0) rfl) pe_int (fun _ _ => rfl)) (pa_cons (pv 1) pa_nil))))
      (pss_cons (ps_expr (pe_call (ok_chk T) (hr.mono (by decide)) (by rfl) T.g_check_number T.F_check_number.kp T.b_check_number .nil pass0 (pa_cons (pv 2) (pa_cons pe_int (pa_cons (pe_glob (v := .int 500) (by rfl) c1 ⟨_, rfl⟩) pa_nil)))))
      (pss_cons (ps_for PassesOwn.never rfl (pi_range1 (by rfl) T.z_range (pa_cons (pe_op op_add (pv 2) pe_int) pa_nil)) (pg_name (i := 3) nd rfl (.inl rfl))
        (pss_one (ps_if (pt_cmpR op_eq (pe_callB call_len_seq (by rfl) T.z_len PySem.boot_len (pa_cons (pe_meth (pv 0) T.clD T.mPe (ok_pe T) hr T.b_dpossible_ends .nil pass0 (pa_cons (pv 1) (pa_cons (pv 3) pa_nil))) pa_nil)) (pe_callB call_len_seq (by rfl) T.z_len PySem.boot_len (pa_cons (pe_fld (pv 0) rfl) pa_nil)) (nomark _))
          (pss_one (ps_ret (pv 3))) pss_nil)))
      (pss_one (ps_ret pe_non)))), ?_⟩
    obtain ⟨a, d, dx', td, ts, ha, R⟩ := b.first
    refine ⟨_, rfl, o, _, dx, _, _, rfl, b.ob, T.clD, T.nRg, obF_g _ _ _, rl, _, 0, .ref a, rfl, rfl, .of b.hr, atI_nat (j := 0) (by rw [List.getElem?_map, ha]; rfl), ?_⟩
    refine ⟨_, rfl, a, dx', td, ts, ds.set r d, ss, k, rfl, R, k0, by rw [List.length_set]; exact k1, ?_⟩
    refine ⟨_, rfl, (lim : Int), 0, _, rfl, by omega, by omega, ?_⟩
    refine ⟨_, rfl, _, _, rfl, rfl, _, rfl, by omega, by omega, ?_⟩
    refine for_range (lo := 0) (n := ((lim : Int) + 1).toNat) (fun i σ H' => (∃ y3, σ = [some (.ref o), some (.int k), some (.int (lim : Int)), y3]) ∧ Same H H' ∧ ∀ j : Nat, j < i → ¬ Tells ds ss r lf k j) ⟨⟨_, rfl⟩, Same.refl H, fun j hj => absurd hj (by omega)⟩ ?_ ?_
    · rintro i σ H1 hi ⟨⟨y3, rfl⟩, s1, no⟩
      have hi' : i ≤ lim := by omega
      have b1 := b.same s1
      refine ⟨_, rfl, o, dx, _, rfl, b1.ob, rfl, _, rfl, _, rfl, o, dx, rl, ol, r, ra, lf, ds, ss, os, k, _, rfl, b1, k0, k1, by omega, by omega, fun H2 l ns s2 hl pw mem le => ?_⟩
      have b2 := b1.same s2
      refine ⟨l, _, rfl, .inl (.of hl), _, rfl, o, _, dx, _, _, rfl, b2.ob, T.clD, T.nRg, obF_g _ _ _, rl, _, rfl, .inl (.of b2.hr), rfl, _, rfl, ?_⟩
      rw [List.length_map, List.length_map, b.rg.1]
      have mem' : ∀ y : Int, y ∈ ns ↔ y ∈ ends ds ss r lf k ((i : Nat) : Int) := fun y => by
        have := mem y
        rwa [show (0 : Int) + ((i : Nat) : Int) = ((i : Nat) : Int) by omega] at this
      have cd : Cd (ends ds ss r lf k ((i : Nat) : Int)) ns.length := ⟨ns, inc_nodup pw, mem', rfl⟩
      by_cases hc : ns.length = lf.length
      · have e : decide (V.int ((ns.length : Nat) : Int) = V.int ((lf.length : Nat) : Int)) = true := decide_eq_true (by rw [hc])
        rw [e]
        refine iteT ⟨_, rfl, ?_⟩
        show Q (.int (0 + ((i : Nat) : Int))) H2
        rw [show (0 : Int) + ((i : Nat) : Int) = ((i : Nat) : Int) by omega]
        exact q1 H2 i (s1.trans s2) hi' (by unfold Tells; rw [← hc]; exact cd) no
      · have e : decide (V.int ((ns.length : Nat) : Int) = V.int ((lf.length : Nat) : Int)) = false := decide_eq_false fun z => hc (by have := V.int.inj z; omega)
        rw [e]
        refine iteF ⟨⟨_, rfl⟩, s1.trans s2, fun j hj => ?_⟩
        by_cases hj2 : j < i
        · exact no j hj2
        · have : j = i := by omega
          subst this
          exact fun t => hc (cd.one t)
    · rintro σ H1 ⟨⟨y3, rfl⟩, s1, no⟩
      exact q2 H1 s1 fun j hj => no j (by omega)
/-! ### made -/
def spDi (C dC : Addr) : Sp := fun vs H Q _ => ∃ (o dx p dp td ts : Addr) (ds ss : List Int) (r : Nat), vs = [.ref o, .ref p, .int (r : Int)] ∧ H o = some (.ins dC dx []) ∧ RingAt C H p dp td ts ds ss ∧ r < ds.length ∧
  ∀ (H' : Hp) (rl ol : Addr) (ra : List Addr), (∀ b x, H b = some x → b ≠ o → H' b = some x) → H ol = none → Ob C dC H' o dx rl ol r ra ((List.range 30).map fun (i : Nat) => (1 : Int) + (i : Int)) ds ss [] → Q .non H'
theorem ok_di (T : Tx K mg) : FnOk P w K mg base CX0 8 T.a_dinit T.d_dinit P_dinit (spDi T.C T.dC) := by
  refine T.F_dinit.ok sc_dinit (fun vs H Q E h => ?_) (fun cdv A outer s H vs Q E hr h => ?_)
  · obtain ⟨o, dx, p, dp, td, ts, ds, ss, r, rfl, _⟩ := h
    rfl
  · obtain ⟨o, dx, p, dp, td, ts, ds, ss, r, rfl, ho, R, hr1, q⟩ := h
    have nd := sc_dinit.nd
    have l8 := R.ok.l8
    obtain ⟨u1, c1⟩ := T.c_MOST_DAYS
    refine ⟨_, pss_cons (ps_expr (pe_call (ok_reader T) (hr.mono (by decide)) (by rfl) T.g_check_reader T.F_check_reader.kp T.b_check_reader .nil pass0 (pa_cons (pv 1) (pa_cons (pv 2) pa_nil))))
      (pss_cons (ps_fld (pv 0) (pv 2) rfl)
      (pss_cons (ps_fld (pv 0) (pe_lc (own := [("days", 3)]) rfl nd (pi_range2 (by rfl) T.z_range (pa_cons pe_int (pa_cons (pe_op op_add (pe_glob (v := .int 30) (by rfl) c1 ⟨_, rfl⟩) pe_int) pa_nil))) (blkOk_by (N := N_dinit) (sc := defScope s_dinit) (by decide +kernel)) (fun _ _ _ _ _ => pg_name (i := 3) nd rfl (.inl rfl)) (fun _ _ _ _ _ => pts_nil)
        (fun _ _ _ _ _ => pe_meth (pv 1) T.cl T.mW (ok_with T) (hr.mono (by decide : 6 ≤ 7)) T.b_rwith_days .nil pass0 (pa_cons (pv 2) (pa_cons (pv 3) pa_nil)))) rfl)
      (pss_one (ps_fld (pv 0) (pe_lst pa_nil) rfl)))), ?_⟩
    refine ⟨_, rfl, _, rfl, p, dp, td, ts, ds, ss, (r : Int), rfl, R, by omega, by omega, ?_⟩
    refine ⟨_, rfl, _, rfl, o, T.dC, dx, [], rfl, ho, T.clD, T.nRd, (by show 0 < 1000; decide), ?_⟩
    have R1 : RingAt T.C (upd H o (.ins T.dC dx (putF "_reader" (.int (r : Int)) []))) p dp td ts ds ss := ⟨(upd_ne (ne_of R.ob ho (by
        intro z
        injection z with z1 z2 z3
        have h4 := congrArg List.length z3
        have e2 : (flds td ts).length = 2 := by rfl
        have e0 : ([] : List (Str × V)).length = 0 := rfl
        omega))).trans R.ob, (upd_ne (ne_of R.td ho (by intro z; cases z))).trans R.td, (upd_ne (ne_of R.ts ho (by intro z; cases z))).trans R.ts, R.ok⟩
    have hk1 : ∀ b x, H b = some x → b ≠ o → (upd H o (.ins T.dC dx (putF "_reader" (.int (r : Int)) []))) b = some x := fun b x e n => (upd_ne n).trans e
    have ho1 : (upd H o (.ins T.dC dx (putF "_reader" (.int (r : Int)) []))) o = some (.ins T.dC dx (putF "_reader" (.int (r : Int)) [])) := upd_same
    have hn1 : ∀ b, (upd H o (.ins T.dC dx (putF "_reader" (.int (r : Int)) []))) b = none → H b = none := fun b e => by
      cases z : H b with
      | none => rfl
      | some v =>
        by_cases n : b = o
        · rw [n, ho1] at e; cases e
        · rw [hk1 b v z n] at e; cases e
    show tSeq _ _ _ _ (upd H o (.ins T.dC dx (putF "_reader" (.int (r : Int)) [])))
    generalize (upd H o (.ins T.dC dx (putF "_reader" (.int (r : Int)) []))) = H1 at R1 hk1 ho1 hn1 ⊢
    refine ⟨_, _, rfl, rfl, _, _, rfl, ⟨by omega, by omega, by omega, by omega⟩, fun D hD => lc_range (lo := 1) (n := 30) (fun i H' => Same H1 H' ∧ ∃ ra : List Addr, H' D = some (.lst (ra.map V.ref)) ∧ Rgs T.C H' r ra ((List.range i).map fun (j : Nat) => (1 : Int) + (j : Int)) ds ss) ?_ ?_ ?_⟩
    · exact ⟨same_upd hD, [], upd_same, rfl, fun i a d h1 h2 => by cases h1⟩
    · rintro i H2 hi ⟨s1, ra, h2, g2⟩
      have R2 := R1.same s1
      have lra : ra.length = i := by rw [g2.1, List.length_map, List.length_range]
      refine ⟨rfl, lc_keep ?_⟩
      refine ⟨_, rfl, p, dp, _, rfl, R2.ob, rfl, _, rfl, _, rfl, p, dp, td, ts, ds, ss, (r : Int), (1 : Int) + (i : Int), rfl, R2, by omega, by omega, by omega, by omega, fun H3 p3 dx3 td3 ts3 s3 R3 => ?_⟩
      refine ⟨ra.map V.ref, s3 _ _ h2, by rw [List.length_map]; exact small1000 (by omega), ?_, ra ++ [p3], by rw [upd_same, ref_snoc], ?_⟩
      · exact fun c z e => by
          rw [upd_ne (ne_of_none e hD)]
          exact s3 _ _ (s1 c z e)
      · have h3 := s3 _ _ h2
        have nd1 : ∀ c z, H3 c = some z → (∀ xs, z ≠ .lst xs) → (upd H3 D (.lst (ra.map V.ref ++ [V.ref p3]))) c = some z := fun c z e n => (upd_ne fun q => by
          rw [q, h3] at e
          exact n _ (Option.some.inj e).symm).trans e
        have R3' : RingAt T.C H3 p3 dx3 td3 ts3 (ds.set r ((1 : Int) + (i : Int))) ss := by
          rw [show ((r : Nat) : Int).toNat = r by omega] at R3
          exact R3
        rw [List.range_succ, List.map_append]
        exact rgs_next ((g2.same s3).mono fun c dx2 td2 ts2 es R2 => ⟨nd1 _ _ R2.ob (fun _ z => by cases z), nd1 _ _ R2.td (fun _ z => by cases z), nd1 _ _ R2.ts (fun _ z => by cases z), R2.ok⟩) (by show (1 : Int) ≤ 1 + (i : Int); omega) (by show (1 : Int) + (i : Int) ≤ 30; omega) (dx := dx3) (td := td3) (ts := ts3) ⟨nd1 _ _ R3'.ob (fun _ z => by cases z), nd1 _ _ R3'.td (fun _ z => by cases z), nd1 _ _ R3'.ts (fun _ z => by cases z), R3'.ok⟩
    · rintro H2 ⟨s1, ra, h2, g2⟩
      have ho2 := s1 _ _ ho1
      refine ⟨_, rfl, o, T.dC, dx, _, rfl, ho2, T.clD, T.nRg, (by show 1 < 1000; decide), ?_⟩
      have oD : o ≠ D := ne_of ho2 h2 (by intro z; cases z)
      have hk2 : ∀ b x, H2 b = some x → b ≠ o → (upd H2 o (.ins T.dC dx (putF "_rings" (.ref D) (putF "_reader" (.int (r : Int)) [])))) b = some x := fun b x e n => (upd_ne n).trans e
      have hn2 : ∀ b, (upd H2 o (.ins T.dC dx (putF "_rings" (.ref D) (putF "_reader" (.int (r : Int)) [])))) b = none → H2 b = none := fun b e => by
        cases z : H2 b with
        | none => rfl
        | some v =>
          by_cases n : b = o
          · rw [n, upd_same] at e; cases e
          · rw [hk2 b v z n] at e; cases e
      have ho3 : (upd H2 o (.ins T.dC dx (putF "_rings" (.ref D) (putF "_reader" (.int (r : Int)) [])))) o = some (.ins T.dC dx (putF "_rings" (.ref D) (putF "_reader" (.int (r : Int)) []))) := upd_same
      generalize (upd H2 o (.ins T.dC dx (putF "_rings" (.ref D) (putF "_reader" (.int (r : Int)) [])))) = H3 at hk2 hn2 ho3 ⊢
      refine ⟨(by show 0 ≤ sizeLine; decide), fun ol hol => ⟨_, rfl, o, T.dC, dx, _, rfl, (upd_ne (ne_of_none ho3 hol)).trans ho3, T.clD, T.nOb, (by show 2 < 1000; decide), ?_⟩⟩
      have oo : o ≠ ol := ne_of_none ho3 hol
      have hk3 : ∀ b x, H b = some x → b ≠ o → (upd (upd H3 ol (.lst [])) o (.ins T.dC dx (obF (r : Int) D ol))) b = some x := fun b x e n => by
        have z := hk2 _ _ (s1 _ _ (hk1 b x e n)) n
        exact (upd_ne n).trans ((upd_ne (ne_of_none z hol)).trans z)
      have none1 : H ol = none := by
        refine hn1 _ ?_
        have z := hn2 _ hol
        cases e : H1 ol with
        | none => rfl
        | some v => rw [s1 _ _ e] at z; cases z
      have keep : ∀ c z, H2 c = some z → c ≠ o → (upd (upd H3 ol (.lst [])) o (.ins T.dC dx (obF (r : Int) D ol))) c = some z := fun c z e n => by
        have h := hk2 _ _ e n
        exact (upd_ne n).trans ((upd_ne (ne_of_none h hol)).trans h)
      have notO : ∀ {c : Addr} {z : HO}, H2 c = some z → (∀ fs, z ≠ .ins T.dC dx fs) → c ≠ o := fun {c z} e n q => by
        rw [q, ho2] at e
        exact n _ (Option.some.inj e).symm
      refine q _ D ol ra hk3 none1 ⟨upd_same, keep _ _ h2 (Ne.symm oD), ?_, ?_, by simp, by simp, hr1, l8, by simp⟩
      · rw [upd_ne (Ne.symm oo), upd_same]
      · refine g2.mono fun c dx2 td2 ts2 es R2 => ⟨keep _ _ R2.ob fun z => ?_, keep _ _ R2.td (notO R2.td fun _ z => by cases z), keep _ _ R2.ts (notO R2.ts fun _ z => by cases z), R2.ok⟩
        have e := R2.ob
        rw [z, ho2] at e
        injection e with e
        injection e with e1 e2 e3
        have h4 := congrArg (fun fs => fs.lookup ("_days" : Str)) e3
        have h5 : (putF "_rings" (.ref D) (putF "_reader" (.int (r : Int)) [])).lookup ("_days" : Str) = none := by rfl
        have h6 : (putF "_rings" (.ref D) (putF "_reader" (.int (r : Int)) [])).lookup ("_days" : Str) = (flds td2 ts2).lookup ("_days" : Str) := h4
        rw [h5, flds_days] at h6
        cases h6
/-! ### from_log -/
/-- observations as data: (is it an end, reader, number, day) -/
def oNm (e : Bool) : Str := if e then "see_end" else "see_open"
structure Ov where
  e : Bool
  k : Int
  x : Int
  day : Int
def Ovs (H : Hp) (os : List V) (vs : List Ov) : Prop := os.length = vs.length ∧ ∀ (i : Nat) (y : V) (v : Ov), os[i]? = some y → vs[i]? = some v → ∃ t, y = .ref t ∧ H t = some (.tup [.str (oNm v.e), .int v.k, .int v.x, .int v.day])
/-- what is left after these observations -/
noncomputable def after (ds ss : List Int) (r : Nat) (lf : List Int) (vs : List Ov) : List Int := vs.foldl (fun l v => l.filter (agr ds ss r v.e v.k v.x v.day)) lf
def OvOk (n : Nat) (v : Ov) : Prop := 0 ≤ v.k ∧ v.k < n ∧ 0 ≤ v.x ∧ v.x ≤ 1000 ∧ 0 ≤ v.day ∧ v.day ≤ 100000
abbrev all30 : List Int := (List.range 30).map fun (i : Nat) => (1 : Int) + (i : Int)
def spFl (C dC CC : Addr) : Sp := fun vs H Q _ => ∃ (p dp td ts ll : Addr) (ds ss : List Int) (r : Nat) (os : List V) (ovs : List Ov), vs = [.ref dC, .ref p, .int (r : Int), .ref ll] ∧ RingAt C H p dp td ts ds ss ∧ r < ds.length ∧ H ll = some (.lst os) ∧ os.length ≤ 400 ∧ Ovs H os ovs ∧ (∀ v ∈ ovs, OvOk ds.length v) ∧
  (∀ n : Nat, n ≤ ovs.length → after ds ss r all30 (ovs.take n) ≠ []) ∧
  ∀ (H' : Hp) (o dx rl ol : Addr) (ra : List Addr) (os' : List V), Same H H' → Ob C dC H' o dx rl ol r ra (after ds ss r all30 ovs) ds ss os' → Q (.ref o) H'
end
end Rp
/-! DaysObserver.from_log. -/
namespace Rp
open PySem PySem.Spec PyProof.Rows L2 Rz Rm Rl
/-- where nothing is raised -/
theorem fn_calm {P : Program} {w : World} {K : PySem.W.Frag} {mg : Str → Option Value} {base : Heap} {k : Nat} {f : Addr} {fd : FuncData} {ps : List Str} {sp : Sp} (F : FnOk P w K mg base (L2.CX P w) k f fd ps sp) :
    FnOk P w K mg base CX0 k f fd ps (fun vs H Q _ => sp vs H Q fun _ _ _ => False) := by
  refine ⟨fun vs H Q E h => F.len vs H Q _ h, fun A outer s H args us vs Q E hr e0 b r h => ?_⟩
  refine codeAny_mono (F.run A outer s H args us vs Q _ hr e0 b r h) fun res s' z => ?_
  cases res with
  | ok fl => cases fl <;> exact z
  | error e =>
    obtain ⟨_, _, _, _, _, _, _, _, _, _, _, _, no⟩ := z
    exact no.elim
theorem after_snoc (ds ss : List Int) (r : Nat) (lf : List Int) (vs : List Ov) (v : Ov) : after ds ss r lf (vs ++ [v]) = (after ds ss r lf vs).filter (agr ds ss r v.e v.k v.x v.day) := by
  unfold after
  rw [List.foldl_append]
  rfl
theorem KO.trans {o ol : Addr} {H H1 H2 : Hp} (a : KO o ol H H1) (b : KO o ol H1 H2) : KO o ol H H2 := fun c x h n1 n2 => b c x (a c x h n1 n2) n1 n2
section
variable {P : Program} {w : World} {K : PySem.W.Frag} {mg : Str → Option Value} {base : Heap}
theorem ok_fl {CC : Addr} (T : Tx K mg) (X : RxE K mg "Contradiction" CC) : FnOk P w K mg base CX0 10 T.a_dfrom_log T.d_dfrom_log P_dfrom_log (spFl T.C T.dC CC) := by
  refine T.F_dfrom_log.ok sc_dfrom_log (fun vs H Q E h => ?_) (fun cdv A outer s H vs Q E hr h => ?_)
  · obtain ⟨p, dp, td, ts, ll, ds, ss, r, os, ovs, rfl, _⟩ := h
    rfl
  · obtain ⟨p, dp, td, ts, ll, ds, ss, r, os, ovs, rfl, R, hr1, hl, few, ho, ok, ne, q⟩ := h
    have nd := sc_dfrom_log.nd
    have l8 := R.ok.l8
    refine ⟨_, pss_cons (ps_set (i := 4) nd rfl (.inl rfl) (pe_makeL (i := 0) (C := T.dC) T.mkD ((ok_di T).raw T.b_dinit .nil) hr rfl (.inl rfl) pass0 (pa_cons (pv 1) (pa_cons (pv 2) pa_nil))))
      (pss_cons (ps_for PassesOwn.never rfl (pi_list (pv 3)) (pg_star1 rfl (pg_name (i := 5) nd rfl (.inl rfl)) (pg_name (i := 6) nd rfl (.inl rfl)))
        (pss_one (ps_if (pt_cmpR op_eq (pv 5) pe_str (nomark _))
          (pss_one (ps_expr (pe_methSL (pv 4) T.clD T.bEnd ((fn_calm (ok_se T X)).raw T.b_dsee_end .nil) (hr.mono (by decide)) pass0 (pv 6))))
          (pss_one (ps_expr (pe_methSL (pv 4) T.clD T.bOpen ((fn_calm (ok_so T X)).raw T.b_dsee_open .nil) (hr.mono (by decide)) pass0 (pv 6)))))))
      (pss_one (ps_ret (pv 4)))), ?_⟩
    refine ⟨rfl, _, rfl, _, rfl, fun o z no nz noz => ?_⟩
    have s0 : Same H (upd (upd H z (.own o)) o (.ins T.dC z [])) := fun b x e => by
      rw [upd_ne (ne_of_none e no), upd_ne (ne_of_none e nz)]
      exact e
    refine ⟨o, z, p, dp, td, ts, ds, ss, r, rfl, upd_same, R.same s0, hr1, fun H1 rl ol ra k1 nol b1 => ⟨rfl, ?_⟩⟩
    have S1 : Same H H1 := fun b x e => k1 b x (s0 b x e) (ne_of_none e no)
    have nol : H ol = none := by
      cases e : H ol with
      | none => rfl
      | some v => rw [s0 _ _ e] at nol; cases nol
    have lo : ll ≠ o := ne_of_none hl no
    have lol : ll ≠ ol := ne_of_none hl nol
    refine ⟨_, rfl, ll, rfl, ⟨_, .of (S1 _ _ hl)⟩, for_list (K := K) (a := ll) (xs := os) (fun i σ H' => (∃ y5 y6, σ = [some (.ref T.dC), some (.ref p), some (.int (r : Int)), some (.ref ll), some (.ref o), y5, y6]) ∧ KO o ol H1 H' ∧ ∃ (rl : Addr) (ra : List Addr) (os' : List V), Ob T.C T.dC H' o z rl ol r ra (after ds ss r all30 (ovs.take i)) ds ss os' ∧ os'.length = i) ?_ (fun i σ H' _ ⟨_, k, _⟩ => .of (k _ _ (S1 _ _ hl) lo lol)) ?_ ?_⟩
    · exact ⟨⟨_, _, rfl⟩, fun b x e _ _ => e, rl, ra, [], b1, rfl⟩
    · rintro i y σ H2 hi ⟨⟨y5, y6, rfl⟩, k2, rl, ra, os', b2, lo'⟩
      have hlt := (List.getElem?_eq_some_iff.mp hi).1
      have hv : ovs[i]? = some (ovs[i]'(by rw [← ho.1]; exact hlt)) := List.getElem?_eq_getElem _
      generalize (ovs[i]'(by rw [← ho.1]; exact hlt)) = v at hv
      obtain ⟨t, rfl, ht⟩ := ho.2 i y v hi hv
      obtain ⟨v0, v1, v2, v3, v4, v5⟩ := ok v (List.mem_of_getElem? hv)
      have ht2 := k2 _ _ (S1 _ _ ht) (ne_of_none ht no) (ne_of_none ht nol)
      have tk : ovs.take (i + 1) = ovs.take i ++ [v] := by rw [List.take_add_one, hv]; rfl
      have nei : after ds ss r all30 (ovs.take (i + 1)) ≠ [] := ne (i + 1) (by rw [← ho.1]; omega)
      rw [tk, after_snoc] at nei
      refine ⟨t, _, _, rfl, .of ht2, by show 3 < 900; decide, fun D hD => ?_⟩
      have s3 := same_upd (o := .lst [.int v.k, .int v.x, .int v.day]) hD
      refine ⟨_, rfl, rfl, _, rfl, ?_⟩
      have b3 := b2.same s3
      obtain ⟨e, k, x, day⟩ := v
      cases e with
      | true =>
        rw [show decide (V.str (oNm true) = V.str "see_end") = true from decide_eq_true rfl]
        refine iteT ⟨_, rfl, o, z, _, rfl, b3.ob, rfl, fun m hm => ?_⟩
        have s4 := same_upd (o := .met T.a_dsee_end o) hm
        refine ⟨_, rfl, D, _, rfl, .of (s4 _ _ upd_same), upd_same, ?_⟩
        refine ⟨o, z, rl, ol, r, ra, _, ds, ss, os', k, x, day, rfl, b3.same s4, by omega, v0, v1, v2, v3, v4, v5, fun e => absurd e nei, fun _ H5 t5 nl rb hk h5 b5 => ?_⟩
        refine ⟨⟨_, _, rfl⟩, k2.trans (ko_trans (s3.trans s4) hk), nl, rb, os' ++ [.ref t5], ?_, by rw [List.length_append, lo']; rfl⟩
        rw [tk, after_snoc]
        exact b5
      | false =>
        rw [show decide (V.str (oNm false) = V.str "see_end") = false from by decide +kernel]
        refine iteF ⟨_, rfl, o, z, _, rfl, b3.ob, rfl, fun m hm => ?_⟩
        have s4 := same_upd (o := .met T.a_dsee_open o) hm
        refine ⟨_, rfl, D, _, rfl, .of (s4 _ _ upd_same), upd_same, ?_⟩
        refine ⟨o, z, rl, ol, r, ra, _, ds, ss, os', k, x, day, rfl, b3.same s4, by omega, v0, v1, v2, v3, v4, v5, fun e => absurd e nei, fun _ H5 t5 nl rb hk h5 b5 => ?_⟩
        refine ⟨⟨_, _, rfl⟩, k2.trans (ko_trans (s3.trans s4) hk), nl, rb, os' ++ [.ref t5], ?_, by rw [List.length_append, lo']; rfl⟩
        rw [tk, after_snoc]
        exact b5
    · rintro σ H2 ⟨⟨y5, y6, rfl⟩, k2, rl, ra, os', b2, lo'⟩
      rw [ho.1, List.take_length] at b2
      exact ⟨_, rfl, q H2 o z rl ol ra os' (fun b x e => k2 _ _ (S1 _ _ e) (ne_of_none e no) (ne_of_none e nol)) b2⟩
end
end Rp
/-! Kept lambdas, with and without a default value. -/
namespace Rp
open PySem PySem.Spec PyProof.Rows L2 Rl LamX
def lpA : Expr → Arguments
  | .Lambda p _ _ _ => p
  | _ => ⟨[], [], none, [], [], none, []⟩
def lpB : Expr → Expr
  | .Lambda _ b _ _ => b
  | e => e
def lpS : Expr → Scope
  | .Lambda _ _ s _ => s
  | _ => ⟨.function, [], false, false, []⟩
def dfV : Option Addr → Value
  | none => .none
  | some t => .ref t
def mkF (q : Str) (cells : List (Str × Addr)) (e : Expr) (t : Option Addr) (c : Addr) : LF := ⟨q, lpA e, lpB e, lpS e, cloFrom cells (lpS e).names [], dfV t, c⟩
/-- without parameters -/
def Bd0 (e : Expr) : Prop := ∀ (q : Str) (cl : List (Str × Addr)) (c doc pm ctv : Value) (sZ : Shared), BindsTo sZ (PySem.W.kdv_fn "<lambda>" q (lpA e) (.expr (lpB e)) (lpS e) cl .none doc pm c ctv) ⟨[], []⟩ []
/-- one parameter with a default value -/
def Bd1 (e : Expr) : Prop := ∃ x : Str, (lpS e).names.lookup x = some .local ∧ ∀ (q : Str) (cl : List (Str × Addr)) (t : Addr) (c doc pm ctv : Value) (sZ : Shared) (o : Obj) (v : Value) (n : Nat), sZ.heap.get? t = some o → o.data = .seq #[v] n →
  BindsTo sZ (PySem.W.kdv_fn "<lambda>" q (lpA e) (.expr (lpB e)) (lpS e) cl (.ref t) doc pm c ctv) ⟨[], []⟩ [(x, v)]
def GD (e : Expr) (t : Option Addr) (H : Hp) : Prop := match t with
  | none => Bd0 e
  | some t => Bd1 e ∧ H t = some (.tup [.int 0])
/-- f is the lambda e, kept -/
def KLat (q : Str) (cells : List (Str × Addr)) (H : Hp) (e : Expr) (f : Addr) : Prop := ∃ (t : Option Addr) (c : Addr), H f = some (LamO f (mkF q cells e t c)) ∧ H c = some (CodeO c q) ∧ GD e t H
theorem KLat.extN {q : Str} {cells : List (Str × Addr)} {H H' : Hp} {e : Expr} {f : Addr} (k : KLat q cells H e f) (x : ExtN H H') : KLat q cells H' e f := by
  obtain ⟨t, c, h1, h2, h3⟩ := k
  refine ⟨t, c, x _ _ h1 (lamO_ne), x _ _ h2 codeO_ne, ?_⟩
  cases t with
  | none => exact h3
  | some t => exact ⟨h3.1, x _ _ h3.2 (by intro ps z; cases z)⟩
section
variable {X : Cx}
def lFam (X : Cx) (le : Nat → Expr) : Nat × Option Addr × Addr → LF := fun i => mkF (X.env.qual ++ "<lambda>") X.env.cells (le i.1) i.2.1 i.2.2
theorem fam_ok {le : Nat → Expr} (hl : ∀ j, LamP X.N X.env.scope (lpS (le j))) : Fam X (Nat × Option Addr × Addr) (lFam X le) (fun i H => GD (le i.1) i.2.1 H) where
  nm := fun i => hl i.1
  cl := fun _ => rfl
  q := fun _ => rfl
  bind := fun ⟨j, t, c⟩ doc pm ctv sZ HZ hok hg => by
    cases t with
    | none => exact ⟨[], hg _ _ _ _ _ _ _, fun y hy => by cases hy⟩
    | some t =>
      obtain ⟨⟨x, hx, hb⟩, ht⟩ := hg
      obtain ⟨_, its, rv, o, ho, _, n, hd⟩ := hok t _ ht
      cases rv with
      | cons r1 r2 =>
        rename_i v vs
        cases r2
        exact ⟨[(x, v)], hb _ _ _ _ _ _ _ _ _ _ _ ho hd, fun y hy => by
          obtain rfl := List.mem_singleton.mp hy
          exact hx⟩
end
end Rp
/-! xs.count(y) of flat items; what a suite that knows the class of its error wants. -/
namespace Rt
open PySem PySem.Spec PyProof.Rows L2
section
variable {X : Cx}
def rCntV (K : PySem.W.Frag) : V → List V → Hp → VK → Prop := fun x xs H Q => ∃ (p : Addr) (ys : List V) (y : V), x = .ref p ∧ xs = [y] ∧ SqL K H p ys ∧ flatV y = true ∧ ys.all flatV = true ∧ Q (.int (ys.countP (fun z => eqV z y) : Nat)) H
theorem cntV_eq {y : V} : ∀ {ys : List V} {its : List Value}, Vals ys its → ys.all flatV = true → its.countP (eqU y) = ys.countP (fun z => eqV z y)
  | [], _, .nil, _ => rfl
  | z :: ys, _, .cons r rr, f => by
    simp only [List.all_cons, Bool.and_eq_true] at f
    rw [List.countP_cons, List.countP_cons, cntV_eq rr f.2, eqU_of r f.1]
theorem mt_countV : MtR X "list.count" (rCntV X.K) := by
  intro pins s σ H x xs v us Q I rx rxs h
  obtain ⟨p, ys, y, rfl, rfl, hs, fy, fys, q⟩ := h
  cases rx
  cases rxs with
  | cons ry rt =>
    rename_i uy ut
    cases rt
    obtain ⟨its, rv, ⟨⟨cls, dd, data, sl⟩, n, ho, hc, hdn, hd⟩, hlen⟩ := I.list hs
    simp only at hc hd
    subst hc hd
    refine call_meets PySem.F.slot_list_count ⟨_, ho, rfl⟩ PySem.F.entry_list_count (PySem.F.args_list_count_2 _ _)
      (SeqAt.list_countAt p its.toArray n dd sl uy (eqU y)) ⟨ho, fun u' hu' => mem_eqAt ry fy rv fys u' (by simpa using hu'), ?_⟩
    have ec : its.toArray.toList.countP (eqU y) = ys.countP (fun z => eqV z y) := cntV_eq rv fys
    rw [ec]
    exact ⟨.int _, H, I.kept (t' := s.toks + 1) fun _ _ z => z, ⟨_, rfl⟩, q⟩
/-- the classes that the suite asks for -/
structure RdS (K : PySem.W.Frag) (mg : Str → Option Value) where
  k0 : Addr
  k1 : Addr
  k2 : Addr
  k3 : Addr
  k4 : Addr
  k5 : Addr
  cE : Addr
  g0 : mg "BeingRead" = some (.ref k0)
  g1 : mg "InvalidNumber" = some (.ref k1)
  g2 : mg "UnknownBook" = some (.ref k2)
  g3 : mg "Contradiction" = some (.ref k3)
  g4 : mg "InvalidOperation" = some (.ref k4)
  g5 : mg "DiaryError" = some (.ref k5)
  gE : mg "ReadingError" = some (.ref cE)
  zV : mg "ValueError" = none
  zI : mg "isinstance" = none
/-- Contradiction -/
structure RdR {K : PySem.W.Frag} {mg : Str → Option Value} (S : RdS K mg) : Prop where
  ex : ExcC K S.k3
  ee : PySem.W.exmOne K (.ref S.k3) (.ref S.cE) = some true
  q0 : PySem.W.kitOne K (.ref S.k3) (.ref S.k0) = some false
  q1 : PySem.W.kitOne K (.ref S.k3) (.ref S.k1) = some false
  q2 : PySem.W.kitOne K (.ref S.k3) (.ref S.k2) = some false
  q3 : PySem.W.kitOne K (.ref S.k3) (.ref S.k3) = some true
  q4 : PySem.W.kitOne K (.ref S.k3) (.ref S.k4) = some false
  q5 : PySem.W.kitOne K (.ref S.k3) (.ref S.k5) = some false
  qv : PySem.W.kitOne K (.ref S.k3) (.type "ValueError") = some true
/-- a def whose code object is known -/
structure FunC (K : PySem.W.Frag) (x qual : Str) (st : Stmt) (f : Addr) (fd : FuncData) (cd : Value) : Prop where
  ex : ∃ (oc : Value) (od : Option Addr) (kV doc pm : Value) (an : Option Addr) (ct : Value) (osl : Array (Option Value)),
    fd = PySem.W.fnOf x qual (defArgs st) (defBody st) (defScope st) .none kV doc pm an cd ct ∧ K.lookup f = some ⟨oc, od, .func fd, osl⟩ ∧ PySem.W.codeIn K cd qual = true
theorem FunC.ok {P : Program} {w : World} {K : PySem.W.Frag} {mg : Str → Option Value} {base : Heap} {x qual : Str} {st : Stmt} {f : Addr} {fd : FuncData} {cd : Value} {N ps : List Str} {k : Nat} {sp : Sp} (F : FunC K x qual st f fd cd) (S : FnScope N ps (defScope st)) (len : ∀ vs H Q E, sp vs H Q E → vs.length = ps.length)
    (hbody : ∀ (A : Around) (outer : List Env) (s : Shared) (H : Hp) (vs : List V) (Q : VK) (E : XK), Room k (A.deeper (envOfC qual (defScope st) s.heap.objs.size f cd)) → sp vs H Q E →
      ∃ t, PSs (cxOf CX0 P w K mg base N qual (defScope st) f cd A outer s H E).nox (defBody st) t ∧ t { nx := fun _ H' => Q .non H', rt := Q } (start N vs) H) : FnOk P w K mg base CX0 (k + 1) f fd ps sp := by
  obtain ⟨oc, od, kV, doc, pm, an, ct, osl, rfl, lk, hcd⟩ := F.ex
  refine fn_of lk hcd S len fun A outer s H vs Q E hr hsp => ?_
  obtain ⟨t, h, q⟩ := hbody A outer s H vs Q E hr hsp
  exact ⟨t, h.nox, q⟩
end
end Rt
/-! _law_raised: a kept lambda is called, the word for its error. -/
namespace Rp
open PySem PySem.Spec PyProof.Rows L2 Rz Rm Rt Rl LamX
section
variable {X : Cx} {g f : Addr} {cdg : Value} {s : Shared} {H : Hp} {K : PySem.W.Frag} {mg : Str → Option Value}
abbrev rsCx (X : Cx) (g : Addr) (cdg : Value) (s : Shared) (H : Hp) : Cx := (cxOf C8.CX0 X.prog X.w X.K X.mg X.base N_lraised "_law_raised" (defScope s_lraised) g cdg X.A X.stack s H C8.E0).nox
abbrev rsSuite : List Stmt := match (defBody s_lraised).head? with
  | some (.Try _ [.ExceptHandler _ _ st _] _ _ _) => st
  | _ => []
/-- the word for it -/
def RsTold (Q : VK) (H1 : Hp) : Prop := ∀ (p : Addr) (H' : Hp), (∀ b o, H1 b = some o → H' b = some o) → H' p = some (.tup [.str "contradiction"]) → Q (.ref p) H'
theorem raised_suite (S : RdS X.K X.mg) (R : RdR S) {a : Addr} {oe : Obj} {pn : List (Addr × Obj)} (hz : Zc (.ref S.k3) none oe) (hf : ∃ vs, oe.data = .fields vs)
    {DD : Ends} {wv y2 : Option V} {H1 : Hp} {Q : VK} (hrt : DD.rt = Q) (q : RsTold Q H1) :
    ∃ t, PSs ((rsCx X g cdg s H).suite a ((a, oe) :: pn)) rsSuite t ∧ t DD [wv, some (.ref a), y2] H1 := by
  have nd := sc_lraised.nd
  subst hrt
  refine ⟨_, pss_cons (ps_set (i := 2) nd rfl (.inl rfl) (pe_lst (pa_cons (pe_callB (call_isE R.ex hz hf) (by rfl) S.zI (by decide +kernel) (pa_cons (pv 1) (pa_cons (pe_glob (v := .ref S.k0) (by rfl) S.g0 rfl) pa_nil))) (pa_cons (pe_callB (call_isE R.ex hz hf) (by rfl) S.zI (by decide +kernel) (pa_cons (pv 1) (pa_cons (pe_glob (v := .ref S.k1) (by rfl) S.g1 rfl) pa_nil))) (pa_cons (pe_callB (call_isE R.ex hz hf) (by rfl) S.zI (by decide +kernel) (pa_cons (pv 1) (pa_cons (pe_glob (v := .ref S.k2) (by rfl) S.g2 rfl) pa_nil))) pa_nil)))))
    (pss_cons (ps_set (i := 2) nd rfl (.inl rfl) (pe_op op_cat (pv 2) (pe_lst (pa_cons (pe_callB (call_isE R.ex hz hf) (by rfl) S.zI (by decide +kernel) (pa_cons (pv 1) (pa_cons (pe_glob (v := .ref S.k3) (by rfl) S.g3 rfl) pa_nil))) (pa_cons (pe_callB (call_isE R.ex hz hf) (by rfl) S.zI (by decide +kernel) (pa_cons (pv 1) (pa_cons (pe_glob (v := .ref S.k4) (by rfl) S.g4 rfl) pa_nil))) (pa_cons (pe_callB (call_isE R.ex hz hf) (by rfl) S.zI (by decide +kernel) (pa_cons (pv 1) (pa_cons (pe_glob (v := .ref S.k5) (by rfl) S.g5 rfl) pa_nil))) pa_nil))))))
    (pss_cons (ps_if (PW.pt (pw_or (pt_cmpR op_ne (pe_bm PySem.F.plainAttrs_list PySem.F.slot_list_count PySem.F.type_list_count mt_countV (pv 2) (pa_cons pe_bl pa_nil)) pe_int (nomark _))
        (pw_or1 (pt_not (pt_val (pe_callB (call_isE R.ex hz hf) (by rfl) S.zI (by decide +kernel) (pa_cons (pv 1) (pa_cons (pe_bltn (v := .ty "ValueError") (u := .type "ValueError") (by rfl) S.zV (by decide +kernel) rfl) pa_nil)))))))) (pss_one ps_never) pss_nil)
    (pss_cons (ps_if (pt_val (pe_ix ix_list (pv 2) pe_int (fun _ _ => rfl))) (pss_one ps_never) pss_nil)
    (pss_cons (ps_if (pt_val (pe_ix ix_list (pv 2) pe_int (fun _ _ => rfl))) (pss_one ps_never) pss_nil)
    (pss_cons (ps_if (pt_val (pe_ix ix_list (pv 2) pe_int (fun _ _ => rfl))) (pss_one ps_never) pss_nil)
    (pss_one (ps_ret (pe_tup (pa_cons (pe_ix ix_list (pe_lst (pa_cons pe_str (pa_cons pe_str (pa_cons pe_str (pa_cons pe_str pa_nil))))) (pe_bm PySem.F.plainAttrs_list PySem.F.slot_list_index PySem.F.type_list_index mt_index (pv 2) (pa_cons pe_bl pa_nil)) (fun _ _ => rfl)) pa_nil))))))))), ?_⟩
  refine ⟨.ref a, rfl, .ref S.k0, .ref S.k0, _, rfl, fun u h => h, R.q0, .ref a, rfl, .ref S.k1, .ref S.k1, _, rfl, fun u h => h, R.q1, .ref a, rfl, .ref S.k2, .ref S.k2, _, rfl, fun u h => h, R.q2, (by show 3 ≤ sizeLine; decide), fun p1 hp1 => ?_⟩
  have s1 : ∀ b o, H1 b = some o → (upd H1 p1 (.lst [.bl false, .bl false, .bl false])) b = some o := fun b o e => (upd_ne (ne_of_none e hp1)).trans e
  have g1 : (upd H1 p1 (.lst [.bl false, .bl false, .bl false])) p1 = some (.lst [.bl false, .bl false, .bl false]) := upd_same
  show tSeq _ _ _ [wv, some (.ref a), some (.ref p1)] (upd H1 p1 (.lst [.bl false, .bl false, .bl false]))
  generalize (upd H1 p1 (.lst [.bl false, .bl false, .bl false])) = H2 at s1 g1 ⊢
  refine ⟨.ref p1, rfl, .ref a, rfl, .ref S.k3, .ref S.k3, _, rfl, fun u h => h, R.q3, .ref a, rfl, .ref S.k4, .ref S.k4, _, rfl, fun u h => h, R.q4, .ref a, rfl, .ref S.k5, .ref S.k5, _, rfl, fun u h => h, R.q5, (by show 3 ≤ sizeLine; decide), fun p2 hp2 => ?_⟩
  have s2 : ∀ b o, H2 b = some o → (upd H2 p2 (.lst [.bl true, .bl false, .bl false])) b = some o := fun b o e => (upd_ne (ne_of_none e hp2)).trans e
  have g2 : (upd H2 p2 (.lst [.bl true, .bl false, .bl false])) p2 = some (.lst [.bl true, .bl false, .bl false]) := upd_same
  generalize (upd H2 p2 (.lst [.bl true, .bl false, .bl false])) = H3 at s2 g2 ⊢
  refine ⟨p1, p2, _, _, rfl, rfl, s2 _ _ g1, g2, (by show 3 + 3 ≤ sizeLine; decide), fun p3 hp3 => ?_⟩
  have s3 : ∀ b o, H3 b = some o → (upd H3 p3 (.lst ([.bl false, .bl false, .bl false] ++ [.bl true, .bl false, .bl false]))) b = some o := fun b o e => (upd_ne (ne_of_none e hp3)).trans e
  have g3 : (upd H3 p3 (.lst ([.bl false, .bl false, .bl false] ++ [.bl true, .bl false, .bl false]))) p3 = some (.lst [.bl false, .bl false, .bl false, .bl true, .bl false, .bl false]) := upd_same
  show tSeq _ _ _ [wv, some (.ref a), some (.ref p3)] (upd H3 p3 (.lst ([.bl false, .bl false, .bl false] ++ [.bl true, .bl false, .bl false])))
  generalize (upd H3 p3 (.lst ([.bl false, .bl false, .bl false] ++ [.bl true, .bl false, .bl false]))) = H4 at s3 g3 ⊢
  refine ⟨.ref p3, rfl, .inl ⟨rfl, _, SqL.of g3⟩, p3, _, .bl true, rfl, rfl, SqL.of g3, rfl, rfl, ?_⟩
  refine ⟨rfl, _, rfl, iteNS rfl ?_⟩
  refine ⟨.ref a, rfl, .ty "ValueError", .type "ValueError", true, rfl, fun u h => h, R.qv, true, rfl, iteF ?_⟩
  refine ⟨.ref p3, rfl, p3, _, 0, .bl false, rfl, rfl, .of g3, rfl, false, rfl, iteF ?_⟩
  refine ⟨.ref p3, rfl, p3, _, 4, .bl false, rfl, rfl, .of g3, rfl, false, rfl, iteF ?_⟩
  refine ⟨.ref p3, rfl, p3, _, 5, .bl false, rfl, rfl, .of g3, rfl, false, rfl, iteF ?_⟩
  refine ⟨(by show 4 ≤ sizeLine; decide), fun p4 hp4 => ?_⟩
  have s4 : ∀ b o, H4 b = some o → (upd H4 p4 (.lst [.str "read", .str "number", .str "book", .str "contradiction"])) b = some o := fun b o e => (upd_ne (ne_of_none e hp4)).trans e
  refine ⟨.ref p3, rfl, .inl ⟨rfl, _, SqL.of (s4 _ _ g3)⟩, p3, _, .bl true, 3, .bl true, rfl, rfl, SqL.of (s4 _ _ g3), rfl, rfl, rfl, rfl, fun m z' hm e => ?_, ?_⟩
  · have hm' : m = 0 ∨ m = 1 ∨ m = 2 := by omega
    rcases hm' with rfl | rfl | rfl <;> (cases e; rfl)
  refine ⟨p4, _, 3, .str "contradiction", rfl, rfl, .of upd_same, rfl, (by show 1 ≤ sizeLine; decide), fun p5 hp5 => ?_⟩
  exact q p5 _ (fun b o e => (upd_ne (ne_of_none (s4 _ _ (s3 _ _ (s2 _ _ (s1 _ _ e)))) hp5)).trans (s4 _ _ (s3 _ _ (s2 _ _ (s1 _ _ e))))) upd_same
/-- how it ends: None, or the word -/
def RsO {K : PySem.W.Frag} {mg : Str → Option Value} (S : RdS K mg) (Q : VK) : XK := fun cls d H => cls = .ref S.k3 ∧ d = none ∧ RsTold Q H
def TRs {K : PySem.W.Frag} {mg : Str → Option Value} (S : RdS K mg) : (XK → Hp → VK → Prop) → Hp → VK → Prop := fun tl H Q => ∀ E : XK, (∀ cls d H', RsO S Q cls d H' → E cls d H') → tl E H fun _ H' => Q .non H'
theorem gives_raised {S : RdS X.K X.mg} (R : RdR S) : GivesV X N_lraised "_law_raised" (defScope s_lraised) g cdg (defBody s_lraised) "_law_work" (TRs S) := by
  intro f RR s H Q tl hact hR ht
  have nd := sc_lraised.nd
  refine ⟨_, pss_cons (ps_try_as (i := 1) (c := .ref S.cE) (Wout := fun _ _ _ _ => False)
    (ts := fun a cls d DD σ1 H1 => ∀ (oe : Obj) (pn : List (Addr × Obj)), Zc cls d oe → (∃ vs, oe.data = .fields vs) → ∃ t, PSs ((rsCx X g cdg s H).suite a ((a, oe) :: pn)) rsSuite t ∧ t DD σ1 H1)
    rfl rfl nd rfl rfl ⟨rfl, by decide, Or.inl S.gE⟩ LamX.takes0
    (fun W pn xe tk _ => pss_one (ps_expr (hact W pn xe _ _ tk)))
    (fun a oe cls d pn hz hf => ⟨fun pins s1 σ1 H1 DD I h => by
      obtain ⟨t, ht, hh⟩ := h oe pn hz hf
      exact ht.run pins s1 σ1 H1 DD I hh⟩)) (pss_one (ps_ret pe_non)), ?_⟩
  refine ⟨rfl, hR, ht _ fun cls d H' hto => ?_⟩
  obtain ⟨rfl, rfl, q⟩ := hto
  refine ⟨true, R.ee, fun _ a ha oe pn hz hf => ?_, fun z => Bool.noConfusion z⟩
  exact raised_suite S R hz hf rfl q
end
end Rp
namespace Rp
open PySem PySem.Spec PyProof.Rows L2 Rz Rm Rt Rl LamX
def stBody : Stmt → List Stmt
  | .For _ _ b _ _ => b
  | _ => []
abbrev bs (j : Nat) : Stmt := (defBody s_law).getD j (.Pass ⟨0, 0, 0, 0⟩)
abbrev fl (j : Nat) : Stmt := (stBody (bs 6)).getD j (.Pass ⟨0, 0, 0, 0⟩)
abbrev XL (P : Program) (w : World) (K : PySem.W.Frag) (mg : Str → Option Value) (base : Heap) (f : Addr) (cdv : Value) (A : Around) (outer : List Env) (s : Shared) (H0 : Hp) (E : XK) : Cx := (cxOf CX0 P w K mg base N_law "law" (defScope s_law) f cdv A outer s H0 E).nox
abbrev p0 : Pos := ⟨0, 0, 0, 0⟩
def ixE : Stmt → List Expr
  | .Assign _ (.Subscript (.List es _) _ _) _ => es
  | _ => []
def le : Nat → Expr
  | 0 => (ixE (fl 6)).getD 0 (.Name "" p0)
  | _ => (ixE (fl 6)).getD 1 (.Name "" p0)
theorem le_ok : ∀ j, LamP N_law (defScope s_law) (lpS (le j))
  | 0 => lamP_by (by decide +kernel)
  | _ + 1 => (lamP_by (by decide +kernel) : LamP N_law (defScope s_law) (lpS ((ixE (fl 6)).getD 1 (.Name "" p0))))
theorem bd0 : Bd0 (le 0) := fun _ _ _ _ _ _ _ => .of_eq rfl
theorem bd1 : Bd1 (le 1) := ⟨"_law_x", by decide +kernel, fun _ _ _ _ _ _ _ _ _ _ _ ho hd => BindsTo.of_defaults rfl ho hd rfl rfl⟩
theorem pi_listB {X : Cx} {K : PySem.W.Frag} {tg l : Expr} {tl : TE} (hl : PE X l tl) (hK : X.K = K) : PI X tg l (iList K tl) := by
  subst hK
  exact pi_list hl
theorem pt_ifT {X : Cx} {c a b : Expr} {tA tB tC : TT} {pos : Pos} (hc : PT X c tA) (ha : PT X a tB) (hb : PT X b tC) : PT X (.IfExp c a b pos) (fun σ H Q => tA σ H fun d H1 => if d = true then tB σ H1 Q else tC σ H1 Q) := by
  refine ⟨fun pins s σ H Q I h => ?_⟩
  show wpAny _ _ (isTrue c X.env (eval c X.env) >>= fun z => if z = true then isTrue a X.env (eval a X.env) else isTrue b X.env (eval b X.env)) _ _ _
  refine wpAny_bind (thn (hc.run pins s σ H _ I h) fun d s1 hd => ?_)
  obtain ⟨H1, I1, q1⟩ := hd
  cases d with
  | true => exact ha.run pins s1 σ H1 Q I1 q1
  | false => exact hb.run pins s1 σ H1 Q I1 q1
/-- len of a list or tuple -/
def rLenLT (K : PySem.W.Frag) : List V → Hp → VK → Prop := fun vs H Q => ∃ a xs, vs = [V.ref a] ∧ (SqL K H a xs ∨ SqT K H a xs) ∧ Q (.int (xs.length : Nat)) H
theorem call_len_seqK {X : Cx} : CallR X (.builtin "len") (rLenLT X.K) := by
  intro pins s σ H vs us Q I r h
  exact call_len_seq pins s σ H vs us Q I r h
/-- _law_raised(x), x a kept lambda -/
theorem pe_raised {X : Cx} {e : Expr} {ta : TE} {k : Nat} {le : Nat → Expr} {ts : Nat → XK → TE} {p pos : Pos} (T : Tx X.K X.mg) {S : RdS X.K X.mg} (R : RdR S) (hl : ∀ j, LamP X.N X.env.scope (lpS (le j)))
    (hb : ∀ (j : Nat) (A' : Around) (outer' : List Env) (s' : Shared) (H' : Hp) (E' : XK) (f' c' : Addr), Room k (A'.deeper (lamEnv X (lpS (le j)) s'.heap.objs.size f' c')) → PE (lamCx X A' outer' s' H' E' (lpS (le j)) f' c') (lpB (le j)) (ts j E'))
    (hg : Gl X "_law_raised") (hr : Room (k + 2) X.A) (ha : PE X e ta)
    (hst : starEach [e] X.env = (false, eval e X.env) :: starEach [] X.env := by rfl) (hpl : (backTo pos (starEach ([] : List Expr) X.env)).any (·.1) = false := by rfl) :
    PE X (.Call (.Name "_law_raised" p) [e] [] pos) (tLamC (lFam X le) (fun i H => GD (le i.1) i.2.1 H) (TRs S) (tCons ta tNil) (fun i => ts i.1)) := by
  obtain ⟨oc, od, kV, doc, pm, an, cdv, ct, osl, e1, lk, hcd⟩ := T.F_lraised.ex
  have bt := T.b_lraised
  rw [e1] at lk bt
  exact pe_lamcallV (X := X) (ι := Nat × Option Addr × Addr) (F := lFam X le) (G := fun i H => GD (le i.1) i.2.1 H) (TT := TRs S) (x := "_law_raised") (a := "_law_work") (k := k) (t := fun i => ts i.1) (p := p) (pos := pos)
    hg T.g_lraised T.F_lraised.kp lk hcd bt sc_lraised rfl (.inl rfl) (gives_raised R) (fam_ok hl) (pa_cons ha pa_nil hst) hr
    (fun i A outer s H E f hr2 => hb i.1 A outer s H E f i.2.2 hr2) hst hpl
theorem Tabs_kp {K : PySem.W.Frag} {H H' : Hp} {row a : Addr} {ns : List Int} {Tb : List (Addr × Str)} (RA : RowAt K H row a ns) (k : Kp row H H') (t : Tabs Tb H) : Tabs Tb H' := fun p hp => by
  obtain ⟨_, _, _, hrow, _⟩ := RA.ob
  obtain ⟨ps, h1, h2, h3⟩ := t p hp
  refine ⟨ps, k _ _ h1 (fun e => by rw [e, hrow] at h1; cases h1), h2, fun pos cv hc => ?_⟩
  obtain ⟨c, e1, e2⟩ := h3 pos cv hc
  refine ⟨c, e1, k _ _ e2 (fun e => ?_)⟩
  rw [e, hrow] at e2
  unfold CodeO at e2
  cases e2
theorem kp_of {K : PySem.W.Frag} {H H' : Hp} {row a b : Addr} {ns : List Int} {o : HO} (RA : RowAt K H row a ns) (k : Kp row H H') (h : H b = some o) (n : ∀ i m q : Int, o ≠ .lst [.ref a, .int i, .int m, .int q]) : H' b = some o := by
  obtain ⟨i, m, q, hrow, _⟩ := RA.ob
  refine k _ _ h fun e => ?_
  rw [e, hrow] at h
  exact n i m q (Option.some.inj h).symm
theorem RowAt.extN {K : PySem.W.Frag} {H H' : Hp} {row a : Addr} {ns : List Int} (R : RowAt K H row a ns) (s : ExtN H H') : RowAt K H' row a ns := by
  obtain ⟨i, m, q, h, h0⟩ := R.ob
  refine ⟨⟨i, m, q, s _ _ h (by intro ps z; cases z), h0⟩, ?_, R.ne⟩
  rcases R.sc with (z | ⟨o, z⟩) | z
  · exact .inl (.inl (s _ _ z (by intro ps z; cases z)))
  · exact .inl (.inr ⟨o, s _ _ z (by intro ps z; cases z)⟩)
  · exact .inr z
theorem RingAt.kp8 {K : PySem.W.Frag} {C : Addr} {H H' : Hp} {row a p dx td ts : Addr} {ns ds ss : List Int} (RA : RowAt K H row a ns) (k : Kp row H H') (R : RingAt C H p dx td ts ds ss) : RingAt C H' p dx td ts ds ss :=
  ⟨kp_of RA k R.ob (fun _ _ _ z => by cases z), kp_of RA k R.td (fun _ _ _ z => by cases z), kp_of RA k R.ts (fun _ _ _ z => by cases z), R.ok⟩
theorem RingAt.extN {C : Addr} {H H' : Hp} {p dx td ts : Addr} {ds ss : List Int} (R : RingAt C H p dx td ts ds ss) (s : ExtN H H') : RingAt C H' p dx td ts ds ss :=
  ⟨s _ _ R.ob (by intro ps z; cases z), s _ _ R.td (by intro ps z; cases z), s _ _ R.ts (by intro ps z; cases z), R.ok⟩

structure Lp where
  (a row t0 td ts p dp o dx rl ol ll sl r8 : Addr)
  (ns ds ss lf : List Int)
  r : Nat
  (ra rs8 : List Addr)
  (os sv : List V)
  (ovs vo : List Ov)
/-- all that stands at the head of a turn -/
structure LB (K : PySem.W.Frag) (C dC : Addr) (Tb : List (Addr × Str)) (H : Hp) (q : Lp) : Prop where
  RA : RowAt K H q.row q.a q.ns
  tb : Tabs Tb H
  R : RingAt C H q.p q.dp q.td q.ts q.ds q.ss
  ht : H q.t0 = some (.tup [.ref q.td, .ref q.ts])
  B : Ob C dC H q.o q.dx q.rl q.ol q.r q.ra q.lf q.ds q.ss q.os
  hl : H q.ll = some (.lst (q.lf.map V.int))
  hs : H q.sl = some (.lst q.sv)
  vs : Ovs H q.sv q.vo
  eo : Ovs H q.os q.ovs
  h8 : H q.r8 = some (.lst (q.rs8.map V.ref))
  g8 : Rgs C H q.r q.rs8 all30 q.ds q.ss
  lfe : q.lf = after q.ds q.ss q.r all30 q.ovs
  okv : ∀ v ∈ q.ovs, OvOk q.ds.length v
  nes : ∀ n : Nat, n ≤ q.ovs.length → after q.ds q.ss q.r all30 (q.ovs.take n) ≠ []
  nrow : q.row ≠ q.ol
  nll : q.ll ≠ q.ol
  nsl : q.sl ≠ q.ol
  n8 : q.r8 ≠ q.ol
  na : q.a ≠ q.ol ∨ Wr K q.a (q.ns.map V.int)
  sa : q.sl ≠ q.a ∨ Wr K q.a (q.ns.map V.int)
theorem Ovs.mono {H H' : Hp} {os : List V} {vs : List Ov} (h : Ovs H os vs) (k : ∀ t xs, H t = some (.tup xs) → H' t = some (.tup xs)) : Ovs H' os vs := ⟨h.1, fun i y v h1 h2 => by
  obtain ⟨t, e, g⟩ := h.2 i y v h1 h2
  exact ⟨t, e, k _ _ g⟩⟩
theorem refs_ne {ra : List Addr} {a : Addr} {i m q : Int} : HO.lst (ra.map V.ref) ≠ .lst [.ref a, .int i, .int m, .int q] := fun z => by
  injection z with z
  match ra, z with
  | [], z => cases z
  | [_], z => cases z
  | _ :: _ :: _, z => cases z
theorem ints_ne {l : List Int} {a : Addr} {i m q : Int} : HO.lst (l.map V.int) ≠ .lst [.ref a, .int i, .int m, .int q] := fun z => by
  injection z with z
  match l, z with
  | [], z => cases z
  | _ :: _, z => cases z
theorem ovs_ne {H : Hp} {os : List V} {vs : List Ov} (h : Ovs H os vs) {a : Addr} {i m q : Int} : HO.lst os ≠ .lst [.ref a, .int i, .int m, .int q] := fun z => by
  injection z with z
  subst z
  have hl := h.1
  obtain ⟨t, e, _⟩ := h.2 1 (.int i) (vs[1]'(by rw [← hl]; show 1 < 4; decide)) rfl (List.getElem?_eq_getElem _)
  cases e
section
variable {K : PySem.W.Frag} {C dC : Addr} {Tb : List (Addr × Str)} {H H' : Hp} {q : Lp}
theorem LB.same (b : LB K C dC Tb H q) (s : Same H H') : LB K C dC Tb H' q := ⟨b.RA.same s, b.tb.ext s, b.R.same s, s _ _ b.ht, b.B.same s, s _ _ b.hl, s _ _ b.hs, b.vs.mono fun _ _ e => s _ _ e, b.eo.mono fun _ _ e => s _ _ e, s _ _ b.h8, b.g8.same s, b.lfe, b.okv, b.nes, b.nrow, b.nll, b.nsl, b.n8, b.na, b.sa⟩
theorem LB.gen (b : LB K C dC Tb H q) (RA' : RowAt K H' q.row q.a q.ns) (tb' : Tabs Tb H') (k : ∀ c x, H c = some x → (∀ i m n : Int, x ≠ .lst [.ref q.a, .int i, .int m, .int n]) → (∀ ps, x ≠ .tbl ps) → H' c = some x) : LB K C dC Tb H' q := by
  have kt : ∀ t xs, H t = some (.tup xs) → H' t = some (.tup xs) := fun t xs e => k _ _ e (fun _ _ _ z => by cases z) (fun _ z => by cases z)
  have kr : ∀ a dx td ts es, RingAt C H a dx td ts es q.ss → RingAt C H' a dx td ts es q.ss := fun a dx td ts es R => ⟨k _ _ R.ob (fun _ _ _ z => by cases z) (fun _ z => by cases z), kt _ _ R.td, kt _ _ R.ts, R.ok⟩
  exact ⟨RA', tb', kr _ _ _ _ _ b.R, kt _ _ b.ht, ⟨k _ _ b.B.ob (fun _ _ _ z => by cases z) (fun _ z => by cases z), k _ _ b.B.hr (fun _ _ _ => refs_ne) (fun _ z => by cases z), k _ _ b.B.ho (fun _ _ _ => ovs_ne b.eo) (fun _ z => by cases z), b.B.rg.mono kr, b.B.ne, b.B.l30, b.B.rlt, b.B.l8, b.B.few⟩,
    k _ _ b.hl (fun _ _ _ => ints_ne) (fun _ z => by cases z), k _ _ b.hs (fun _ _ _ => ovs_ne b.vs) (fun _ z => by cases z), b.vs.mono kt, b.eo.mono kt, k _ _ b.h8 (fun _ _ _ => refs_ne) (fun _ z => by cases z), b.g8.mono kr, b.lfe, b.okv, b.nes, b.nrow, b.nll, b.nsl, b.n8, b.na, b.sa⟩
theorem LB.kp (b : LB K C dC Tb H q) (k : Kp q.row H H') (RA' : RowAt K H' q.row q.a q.ns) : LB K C dC Tb H' q := b.gen RA' (Tabs_kp b.RA k b.tb) fun _ _ e n _ => kp_of b.RA k e n
theorem LB.extN (b : LB K C dC Tb H q) (s : ExtN H H') (t : Tabs Tb H') : LB K C dC Tb H' q := b.gen (b.RA.extN s) t fun _ _ e _ n => s _ _ e n
/-- the ring of these days -/
theorem LB.at8 (b : LB K C dC Tb H q) {d : Int} (d1 : 1 ≤ d) (d2 : d ≤ 30) : ∃ c dx td ts, q.rs8[(d - 1).toNat]? = some c ∧ RingAt C H c dx td ts (q.ds.set q.r d) q.ss := by
  have hi : (d - 1).toNat < q.rs8.length := by
    rw [b.g8.1]
    show _ < (List.map _ (List.range 30)).length
    rw [List.length_map, List.length_range]
    omega
  have e30 : all30[(d - 1).toNat]? = some d := by
    show (List.map _ (List.range 30))[(d - 1).toNat]? = _
    rw [List.getElem?_map, List.getElem?_range (by omega)]
    show some ((1 : Int) + (((d - 1).toNat : Nat) : Int)) = _
    congr 1
    omega
  obtain ⟨_, _, dx, td, ts, R⟩ := b.g8.2 _ _ _ (List.getElem?_eq_getElem hi) e30
  exact ⟨_, dx, td, ts, List.getElem?_eq_getElem hi, R⟩
theorem LB.lf30 (b : LB K C dC Tb H q) {d : Int} {i : Nat} (h : q.lf[i]? = some d) : 1 ≤ d ∧ d ≤ 30 := by
  have hi : i < q.ra.length := by rw [b.B.rg.1]; exact (List.getElem?_eq_some_iff.mp h).1
  obtain ⟨d1, d2, _⟩ := b.B.rg.2 i _ d (List.getElem?_eq_getElem hi) h
  exact ⟨d1, d2⟩
end
/-- an end lies between one and 4000 -/
theorem end_ok {ds ss : List Int} (G : Good ds ss) {k x : Int} (x0 : 0 ≤ x) (x1 : x ≤ 12) : 1 ≤ Rm.E (at' ds) (at' ss) k x ∧ Rm.E (at' ds) (at' ss) k x ≤ 4000 := by
  obtain ⟨M, hM, hMu⟩ := G.max
  have RR := G.ring hM hMu
  have h1 := RR.E1 k x0
  have h2 := RR.d1 k
  have h3 := up RR k x0
  have hs : ds.sum ≤ 240 := by
    have l8 := G.l8
    have : ∀ l : List Int, (∀ y ∈ l, y ≤ 30) → l.sum ≤ 30 * l.length := by
      intro l
      induction l with
      | nil => intro _; simp
      | cons a r ih =>
        intro h
        have := ih fun y hy => h y (List.mem_cons_of_mem _ hy)
        have := h a List.mem_cons_self
        rw [List.sum_cons, List.length_cons]
        omega
    have := this ds fun y hy => (G.d1 y hy).2
    omega
  have hM30 := (G.d1 M hM).2
  have hM1 := (G.d1 M hM).1
  have a1 : (x + 1) * ds.sum ≤ 13 * 240 := by
    have z0 : 0 ≤ ds.sum := RR.T0
    exact Int.mul_le_mul (by omega) hs z0 (by omega)
  have a2 : x * M ≤ 12 * 30 := Int.mul_le_mul x1 hM30 (by omega) (by omega)
  omega
abbrev sg (q : Lp) (y9 y10 y11 y12 y13 y14 y15 y16 y17 y18 y19 y20 y21 y22 y23 : Option V) : L2.St := [some (.ref q.a), some (.ref q.row), some (.ref q.t0), some (.ref q.p), some (.int (q.r : Int)), some (.ref q.o), some (.ref q.ll), some (.ref q.sl), some (.ref q.r8), y9, y10, y11, y12, y13, y14, y15, y16, y17, y18, y19, y20, y21, y22, y23]
section
variable {P : Program} {w : World} {K : PySem.W.Frag} {mg : Str → Option Value} {base : Heap}
variable {f : Addr} {cT PT : Addr} {A : Around} {outer : List Env} {s : Shared} {H0 : Hp} {E : XK}
theorem lx_f0 {Tb : List (Addr × Str)} (T : Tx K mg) (hr : Room 11 (XL P w K mg base f (.ref cT) A outer s H0 E).A) : ∃ tt : TS, PS (XL P w K mg base f (.ref cT) A outer s H0 E) (fl 0) tt ∧
    ∀ (D : Ends) (H : Hp) (q : Lp) (y9 y10 y11 y12 y13 y14 y15 y16 y17 y18 y19 y20 y21 y22 y23 : Option V), LB K T.C T.dC Tb H q → (∀ H' (k x : Int), LB K T.C T.dC Tb H' q → 0 ≤ k → k < q.ds.length → 0 ≤ x → x < 12 → D.nx (sg q y9 y10 (some (.int k)) (some (.int x)) y13 y14 y15 y16 y17 y18 y19 y20 y21 y22 y23) H') → tt D (sg q y9 y10 y11 y12 y13 y14 y15 y16 y17 y18 y19 y20 y21 y22 y23) H := by
  have nd := sc_law.nd
  refine ⟨_, ps_asg (pe_tup (pa_cons (pe_call (ok_taken T) (hr.mono (by decide : 1 ≤ 11)) (by rfl) T.g_ltaken T.F_ltaken.kp T.b_ltaken .nil pass0 (pa_cons (pv 1) (pa_cons (pe_callB call_len_seq (by rfl) T.z_len PySem.boot_len (pa_cons (pe_ix ix_tup (pv 2) pe_int (fun _ _ => rfl)) pa_nil)) pa_nil))) (pa_cons (pe_call (ok_taken T) (hr.mono (by decide : 1 ≤ 11)) (by rfl) T.g_ltaken T.F_ltaken.kp T.b_ltaken .nil pass0 (pa_cons (pv 1) (pa_cons pe_int pa_nil))) pa_nil))) (pg_tup rfl (pgs_cons (pg_name (i := 11) nd rfl (.inr rfl)) (pgs_cons (pg_name (i := 12) nd rfl (.inr rfl)) pgs_nil))), ?_⟩
  intro D H q y9 y10 y11 y12 y13 y14 y15 y16 y17 y18 y19 y20 y21 y22 y23 b nx
  have l2 := b.R.ok.l2
  have l8 := b.R.ok.l8
  refine ⟨_, rfl, _, rfl, q.t0, _, 0, _, rfl, rfl, .of b.ht, atI_nat (j := 0) rfl, q.td, _, rfl, .inr (.of b.R.td), q.row, q.a, q.ns, _, rfl, b.RA, by rw [List.length_map]; omega, by rw [List.length_map]; omega, fun k H1 v0 v1 RA1 k1 => ?_⟩
  rw [List.length_map] at v1
  have b1 := b.kp k1 RA1
  refine ⟨_, rfl, q.row, q.a, q.ns, 12, rfl, b1.RA, by decide, by decide, fun x H2 x0 x1 RA2 k2 => ⟨(by show 2 ≤ sizeLine; decide), fun t ht => ?_⟩⟩
  have s3 := same_upd (o := .tup [.int k, .int x]) ht
  refine ⟨t, _, rfl, .of upd_same, rfl, _, _, rfl, _, _, rfl, rfl, ?_⟩
  exact nx _ k x ((b1.kp k2 RA2).same s3) v0 v1 x0 x1
theorem lx_f1 {Tb : List (Addr × Str)} (T : Tx K mg) (hr : Room 11 (XL P w K mg base f (.ref cT) A outer s H0 E).A) : ∃ tt : TS, PS (XL P w K mg base f (.ref cT) A outer s H0 E) (fl 1) tt ∧
    ∀ (D : Ends) (H : Hp) (q : Lp) (k x : Int) (tr : Addr) (d : Int) (y10 y13 y14 y15 y16 y17 y18 y19 y20 y21 y22 y23 : Option V), LB K T.C T.dC Tb H q → 0 ≤ k → k < q.ds.length → 0 ≤ x → x < 12 → 1 ≤ d → d ≤ 30 → (∃ dx td ts, RingAt T.C H tr dx td ts (q.ds.set q.r d) q.ss) → (∀ H' (e : Int), LB K T.C T.dC Tb H' q → 1 ≤ e → e ≤ 4001 → D.nx (sg q (some (.ref tr)) y10 (some (.int k)) (some (.int x)) (some (.int e)) y14 y15 y16 y17 y18 y19 y20 y21 y22 y23) H') → tt D (sg q (some (.ref tr)) y10 (some (.int k)) (some (.int x)) y13 y14 y15 y16 y17 y18 y19 y20 y21 y22 y23) H := by
  have nd := sc_law.nd
  refine ⟨_, ps_set (i := 13) nd rfl (.inl rfl) (pe_op op_add (pe_callI (pv 9) T.callC ((ok_call T).raw T.b_rcall .nil) (hr.mono (by decide : 4 ≤ 11)) pass0 (pa_cons (pv 11) (pa_cons (pv 12) pa_nil))) (pe_ix ix_list (pe_lst (pa_cons pe_int (pa_cons pe_int (pa_cons pe_int (pa_cons pe_int pa_nil))))) (pe_call (ok_taken T) (hr.mono (by decide : 1 ≤ 11)) (by rfl) T.g_ltaken T.F_ltaken.kp T.b_ltaken .nil pass0 (pa_cons (pv 1) (pa_cons pe_int pa_nil))) (fun _ _ => rfl))), ?_⟩
  intro D H q k x tr d y10 y13 y14 y15 y16 y17 y18 y19 y20 y21 y22 y23 b k0 k1 x0 x1 d1 d2 htr nx
  have l2 := b.R.ok.l2
  have l8 := b.R.ok.l8
  obtain ⟨dx, td, ts, R⟩ := htr
  have eo := end_ok R.ok (k := k) x0 (by omega : x ≤ 12)
  refine ⟨_, rfl, tr, rfl, _, rfl, _, rfl, ⟨dx, _, R.ob⟩, tr, dx, td, ts, q.ds.set q.r d, q.ss, k, x, rfl, R, k0, by rw [List.length_set]; exact k1, x0, by omega, ?_⟩
  refine ⟨(by show 4 ≤ sizeLine; decide), fun l hl => ?_⟩
  have s1 := same_upd (o := .lst [.int 0, .int 0, .int 0, .int 1]) hl
  have b1 := b.same s1
  refine ⟨_, rfl, q.row, q.a, q.ns, 4, rfl, b1.RA, by decide, by decide, fun v H2 v0 v1 RA2 k2 => ?_⟩
  have hl2 := kp_of b1.RA k2 (upd_same : (upd H l (.lst [.int 0, .int 0, .int 0, .int 1])) l = _) (fun _ _ _ z => by cases z)
  obtain ⟨w0, hw, w1, w2⟩ : ∃ w0 : Int, atI [V.int 0, V.int 0, V.int 0, V.int 1] v = some (.int w0) ∧ 0 ≤ w0 ∧ w0 ≤ 1 := by
    have : v = 0 ∨ v = 1 ∨ v = 2 ∨ v = 3 := by omega
    rcases this with rfl | rfl | rfl | rfl
    · exact ⟨0, rfl, by decide, by decide⟩
    · exact ⟨0, rfl, by decide, by decide⟩
    · exact ⟨0, rfl, by decide, by decide⟩
    · exact ⟨1, rfl, by decide, by decide⟩
  refine ⟨l, _, v, _, rfl, rfl, .of hl2, hw, _, _, rfl, rfl, ?_⟩
  exact nx H2 _ (b1.kp k2 RA2) (by omega) (by omega)
theorem lx_f2 {Tb : List (Addr × Str)} (T : Tx K mg) (hr : Room 11 (XL P w K mg base f (.ref cT) A outer s H0 E).A) : ∃ tt : TS, PS (XL P w K mg base f (.ref cT) A outer s H0 E) (fl 2) tt ∧
    ∀ (D : Ends) (H : Hp) (q : Lp) (k x e : Int) (y9 y10 y14 y15 y16 y17 y18 y19 y20 y21 y22 y23 : Option V), LB K T.C T.dC Tb H q → (∀ H' (i : Bool), LB K T.C T.dC Tb H' q → D.nx (sg q y9 y10 (some (.int k)) (some (.int x)) (some (.int e)) (some (.bl i)) y15 y16 y17 y18 y19 y20 y21 y22 y23) H') → tt D (sg q y9 y10 (some (.int k)) (some (.int x)) (some (.int e)) y14 y15 y16 y17 y18 y19 y20 y21 y22 y23) H := by
  have nd := sc_law.nd
  refine ⟨_, ps_set (i := 14) nd rfl (.inl rfl) (pe_cmpR op_eq (pe_call (ok_taken T) (hr.mono (by decide : 1 ≤ 11)) (by rfl) T.g_ltaken T.F_ltaken.kp T.b_ltaken .nil pass0 (pa_cons (pv 1) (pa_cons pe_int pa_nil))) pe_int (nomark _)), ?_⟩
  intro D H q k x e y9 y10 y14 y15 y16 y17 y18 y19 y20 y21 y22 y23 b nx
  have l2 := b.R.ok.l2
  have l8 := b.R.ok.l8
  refine ⟨_, rfl, q.row, q.a, q.ns, 2, rfl, b.RA, by decide, by decide, fun v H2 v0 v1 RA2 k2 => ⟨rfl, ?_⟩⟩
  exact nx H2 _ (b.kp k2 RA2)
theorem lx_f3 {Tb : List (Addr × Str)} (T : Tx K mg) (hr : Room 11 (XL P w K mg base f (.ref cT) A outer s H0 E).A) : ∃ tt : TS, PS (XL P w K mg base f (.ref cT) A outer s H0 E) (fl 3) tt ∧
    ∀ (D : Ends) (H : Hp) (q : Lp) (k x e : Int) (i : Bool) (y9 y10 y15 y16 y17 y18 y19 y20 y21 y22 y23 : Option V), LB K T.C T.dC Tb H q → 1 ≤ e → e ≤ 4001 → (∀ H' (day : Int), LB K T.C T.dC Tb H' q → 0 ≤ day → day ≤ 4001 → D.nx (sg q y9 y10 (some (.int k)) (some (.int x)) (some (.int e)) (some (.bl i)) (some (.int day)) y16 y17 y18 y19 y20 y21 y22 y23) H') → tt D (sg q y9 y10 (some (.int k)) (some (.int x)) (some (.int e)) (some (.bl i)) y15 y16 y17 y18 y19 y20 y21 y22 y23) H := by
  have nd := sc_law.nd
  refine ⟨_, ps_set (i := 15) nd rfl (.inr rfl) (pe_ifExp (pt_val (pv 14)) (pv 13) (pe_callB (call_max2 rfl) (by rfl) T.z_max (by decide +kernel) (pa_cons pe_int (pa_cons (pe_op op_sub (pe_op op_sub (pv 13) pe_int) (pe_call (ok_taken T) (hr.mono (by decide : 1 ≤ 11)) (by rfl) T.g_ltaken T.F_ltaken.kp T.b_ltaken .nil pass0 (pa_cons (pv 1) (pa_cons pe_int pa_nil)))) pa_nil)))), ?_⟩
  intro D H q k x e i y9 y10 y15 y16 y17 y18 y19 y20 y21 y22 y23 b e1 e2 nx
  have l2 := b.R.ok.l2
  have l8 := b.R.ok.l8
  refine ⟨_, rfl, i, rfl, ?_⟩
  cases i with
  | true => exact iteT ⟨_, rfl, nx H _ b (by omega) (by omega)⟩
  | false =>
    refine iteF ⟨_, rfl, _, _, rfl, rfl, _, rfl, q.row, q.a, q.ns, 9, rfl, b.RA, by decide, by decide, fun v H2 v0 v1 RA2 k2 => ⟨_, _, rfl, rfl, _, _, rfl, ?_⟩⟩
    exact nx H2 _ (b.kp k2 RA2) (by split <;> omega) (by split <;> omega)
theorem lx_f4 {Tb : List (Addr × Str)} (T : Tx K mg) (hr : Room 11 (XL P w K mg base f (.ref cT) A outer s H0 E).A) : ∃ tt : TS, PS (XL P w K mg base f (.ref cT) A outer s H0 E) (fl 4) tt ∧
    ∀ (D : Ends) (H : Hp) (q : Lp) (k x e : Int) (i : Bool) (day : Int) (y9 y10 y16 y17 y18 y19 y20 y21 y22 y23 : Option V), LB K T.C T.dC Tb H q → (∀ H' gl, LB K T.C T.dC Tb H' q → H' gl = some (.lst (([] : List Int).map V.int)) → gl ≠ q.ll → gl ≠ q.row → gl ≠ q.sl → gl ≠ q.r8 → gl ≠ q.ol → gl ≠ q.rl → (gl ≠ q.a ∨ Wr K q.a (q.ns.map V.int)) → D.nx (sg q y9 y10 (some (.int k)) (some (.int x)) (some (.int e)) (some (.bl i)) (some (.int day)) (some (.ref gl)) y17 y18 y19 y20 y21 y22 y23) H') → tt D (sg q y9 y10 (some (.int k)) (some (.int x)) (some (.int e)) (some (.bl i)) (some (.int day)) y16 y17 y18 y19 y20 y21 y22 y23) H := by
  have nd := sc_law.nd
  refine ⟨_, ps_set (i := 16) nd rfl (.inl rfl) (pe_lst pa_nil), ?_⟩
  intro D H q k x e i day y9 y10 y16 y17 y18 y19 y20 y21 y22 y23 b nx
  have l2 := b.R.ok.l2
  have l8 := b.R.ok.l8
  refine ⟨(by show 0 ≤ sizeLine; decide), fun gl hg => ?_⟩
  have s1 := same_upd (o := .lst []) hg
  exact nx _ gl (b.same s1) upd_same (Ne.symm (ne_of_none b.hl hg)) (b.RA.nn hg) (Ne.symm (ne_of_none b.hs hg)) (Ne.symm (ne_of_none b.h8 hg)) (Ne.symm (ne_of_none b.B.ho hg)) (Ne.symm (ne_of_none b.B.hr hg)) (far_of b.RA.sc hg)
theorem lx_f5 {Tb : List (Addr × Str)} (T : Tx K mg) (hr : Room 11 (XL P w K mg base f (.ref cT) A outer s H0 E).A) : ∃ tt : TS, PS (XL P w K mg base f (.ref cT) A outer s H0 E) (fl 5) tt ∧
    ∀ (D : Ends) (H : Hp) (q : Lp) (k x e : Int) (i : Bool) (day : Int) (gl : Addr) (y9 y10 y17 y18 y19 y20 y21 y22 y23 : Option V), LB K T.C T.dC Tb H q → 0 ≤ k → k < q.ds.length → 0 ≤ x → x < 12 → H gl = some (.lst (([] : List Int).map V.int)) → gl ≠ q.ll → gl ≠ q.row → gl ≠ q.sl → gl ≠ q.r8 → gl ≠ q.ol → gl ≠ q.rl → (gl ≠ q.a ∨ Wr K q.a (q.ns.map V.int)) → (∀ H' y17 y18, LB K T.C T.dC Tb H' q → H' gl = some (.lst ((q.lf.filter (agr q.ds q.ss q.r i k x day)).map V.int)) → D.nx (sg q y9 y10 (some (.int k)) (some (.int x)) (some (.int e)) (some (.bl i)) (some (.int day)) (some (.ref gl)) y17 y18 y19 y20 y21 y22 y23) H') → tt D (sg q y9 y10 (some (.int k)) (some (.int x)) (some (.int e)) (some (.bl i)) (some (.int day)) (some (.ref gl)) y17 y18 y19 y20 y21 y22 y23) H := by
  have nd := sc_law.nd
  refine ⟨_, ps_for PassesOwn.never rfl (pi_list (pv 6)) (pg_name (i := 17) nd rfl (.inl rfl)) (pss_cons (ps_set (i := 18) nd rfl (.inl rfl) (pe_callI (pe_ix ix_list (pv 8) (pe_op op_sub (pv 17) pe_int) (fun _ _ => rfl)) T.callC ((ok_call T).raw T.b_rcall .nil) (hr.mono (by decide : 4 ≤ 11)) pass0 (pa_cons (pv 11) (pa_cons (pv 12) pa_nil)))) (pss_one (ps_if (pt_ifT (pt_val (pv 14)) (pt_cmpR op_eq (pv 18) (pv 15) (nomark _)) (pt_cmpR op_gt (pv 18) (pv 15) (nomark _))) (pss_one (ps_expr (pe_bm PySem.F.plainAttrs_list PySem.F.slot_list_append PySem.F.type_list_append mt_append (pv 16) (pa_cons (pv 17) pa_nil)))) pss_nil))), ?_⟩
  intro D H q k x e i day gl y9 y10 y17 y18 y19 y20 y21 y22 y23 b k0 k1 x0 x1 hg n1 n2 n3 n4 n5 n6 n7 nx
  have l2 := b.R.ok.l2
  have l8 := b.R.ok.l8
  have l30 := b.B.l30
  have keep : ∀ (H1 : Hp) (xs ys : List V), LB K T.C T.dC Tb H1 q → H1 gl = some (.lst xs) → LB K T.C T.dC Tb (upd H1 gl (.lst ys)) q := fun H1 xs ys b1 h1 => by
    have k1 : ∀ c z, H1 c = some z → c ≠ gl → (upd H1 gl (.lst ys)) c = some z := fun c z e n => (upd_ne n).trans e
    have kt : ∀ t zs, H1 t = some (.tup zs) → (upd H1 gl (.lst ys)) t = some (.tup zs) := fun t zs e => k1 _ _ e fun z => by rw [z, h1] at e; cases e
    have kr : ∀ a dx td ts es, RingAt T.C H1 a dx td ts es q.ss → RingAt T.C (upd H1 gl (.lst ys)) a dx td ts es q.ss := fun a dx td ts es R => ⟨k1 _ _ R.ob (fun z => by have := R.ob; rw [z, h1] at this; cases this), kt _ _ R.td, kt _ _ R.ts, R.ok⟩
    refine ⟨b1.RA.upd' n2 n7, fun p hp => ?_, kr _ _ _ _ _ b1.R, kt _ _ b1.ht, ⟨k1 _ _ b1.B.ob (fun z => by have := b1.B.ob; rw [z, h1] at this; cases this), k1 _ _ b1.B.hr (Ne.symm n6), k1 _ _ b1.B.ho (Ne.symm n5), b1.B.rg.mono kr, b1.B.ne, b1.B.l30, b1.B.rlt, b1.B.l8, b1.B.few⟩,
      k1 _ _ b1.hl (Ne.symm n1), k1 _ _ b1.hs (Ne.symm n3), b1.vs.mono kt, b1.eo.mono kt, k1 _ _ b1.h8 (Ne.symm n4), b1.g8.mono kr, b1.lfe, b1.okv, b1.nes, b1.nrow, b1.nll, b1.nsl, b1.n8, b1.na, b1.sa⟩
    obtain ⟨ps, e1, e2, e3⟩ := b1.tb p hp
    refine ⟨ps, k1 _ _ e1 (fun z => by rw [z, h1] at e1; cases e1), e2, fun pos cv hc => ?_⟩
    obtain ⟨c, c1, c2⟩ := e3 pos cv hc
    refine ⟨c, c1, k1 _ _ c2 (fun z => ?_)⟩
    rw [z, h1] at c2
    unfold CodeO at c2
    cases c2
  refine ⟨_, rfl, q.ll, rfl, ⟨_, .of b.hl⟩, for_list (K := K) (a := q.ll) (xs := q.lf.map V.int) (fun j σ H' => (∃ y17 y18, σ = (sg q y9 y10 (some (.int k)) (some (.int x)) (some (.int e)) (some (.bl i)) (some (.int day)) (some (.ref gl)) y17 y18 y19 y20 y21 y22 y23)) ∧ LB K T.C T.dC Tb H' q ∧ H' gl = some (.lst (((q.lf.take j).filter (agr q.ds q.ss q.r i k x day)).map V.int))) ⟨⟨_, _, rfl⟩, b, hg⟩ (fun j σ H' _ ⟨_, b', _⟩ => .of b'.hl) ?_ ?_⟩
  · rintro j v σ H1 hj ⟨⟨y17, y18, rfl⟩, b1, h1⟩
    obtain ⟨d, hd, rfl⟩ := get_int hj
    have hlt := (List.getElem?_eq_some_iff.mp hd).1
    obtain ⟨d1, d2⟩ := b1.lf30 hd
    obtain ⟨c, dx, td, ts, hc, R⟩ := b1.at8 d1 d2
    refine ⟨_, rfl, _, rfl, _, _, rfl, rfl, q.r8, _, d - 1, .ref c, rfl, rfl, .of b1.h8, at_of (j := (d - 1).toNat) (by omega) (by rw [List.getElem?_map, hc]; rfl), c, rfl, _, rfl, _, rfl, ⟨dx, _, R.ob⟩, c, dx, td, ts, q.ds.set q.r d, q.ss, k, x, rfl, R, k0, by rw [List.length_set]; exact k1, x0, by omega, ?_⟩
    have hd' : (q.lf.take (j + 1)) = q.lf.take j ++ [d] := by rw [List.take_add_one, hd]; rfl
    have yes : agr q.ds q.ss q.r i k x day d = true → LB K T.C T.dC Tb (upd H1 gl (.lst (((q.lf.take j).filter (agr q.ds q.ss q.r i k x day)).map V.int ++ [V.int d]))) q ∧ (upd H1 gl (.lst (((q.lf.take j).filter (agr q.ds q.ss q.r i k x day)).map V.int ++ [V.int d]))) gl = some (.lst (((q.lf.take (j + 1)).filter (agr q.ds q.ss q.r i k x day)).map V.int)) := fun ea => by
      refine ⟨keep _ _ _ b1 h1, ?_⟩
      rw [upd_same, hd', List.filter_append, List.filter_cons_of_pos ea, List.filter_nil, map_snoc]
    have no : agr q.ds q.ss q.r i k x day d = false → H1 gl = some (.lst (((q.lf.take (j + 1)).filter (agr q.ds q.ss q.r i k x day)).map V.int)) := fun ea => by
      rw [hd', List.filter_append, List.filter_cons_of_neg (by rw [ea]; decide), List.filter_nil, List.append_nil]
      exact h1
    have len : (((q.lf.take j).filter (agr q.ds q.ss q.r i k x day)).map V.int).length < sizeLine := by
      rw [List.length_map]
      refine small1000 (Nat.le_trans (List.length_filter_le _ _) ?_)
      rw [List.length_take]
      omega
    refine ⟨_, rfl, i, rfl, ?_⟩
    cases i with
    | true =>
      refine iteT ⟨_, rfl, _, rfl, rfl, _, rfl, ?_⟩
      have eq1 : agr q.ds q.ss q.r true k x day d = decide (V.int (Rm.E (at' (q.ds.set q.r d)) (at' q.ss) k x) = V.int day) := by
        unfold agr En
        rw [if_pos rfl]
        exact decide_eq_decide.mpr ⟨fun h => by rw [h], fun h => V.int.inj h⟩
      cases ea : agr q.ds q.ss q.r true k x day d with
      | true =>
        rw [← eq1, ea]
        exact iteT ⟨_, rfl, .inl ⟨rfl, _, SqL.of h1⟩, _, rfl, gl, _, _, rfl, rfl, h1, len, ⟨_, _, rfl⟩, yes ea⟩
      | false =>
        rw [← eq1, ea]
        exact iteF ⟨⟨_, _, rfl⟩, b1, no ea⟩
    | false =>
      refine iteF ⟨_, rfl, _, rfl, _, _, rfl, rfl, _, rfl, ?_⟩
      have eq1 : agr q.ds q.ss q.r false k x day d = decide (day < Rm.E (at' (q.ds.set q.r d)) (at' q.ss) k x) := by
        unfold agr En
        rw [if_neg (by decide)]
      cases ea : agr q.ds q.ss q.r false k x day d with
      | true =>
        rw [← eq1, ea]
        exact iteT ⟨_, rfl, .inl ⟨rfl, _, SqL.of h1⟩, _, rfl, gl, _, _, rfl, rfl, h1, len, ⟨_, _, rfl⟩, yes ea⟩
      | false =>
        rw [← eq1, ea]
        exact iteF ⟨⟨_, _, rfl⟩, b1, no ea⟩
  · rintro σ H1 ⟨⟨y17, y18, rfl⟩, b1, h1⟩
    rw [List.length_map, List.take_length] at h1
    exact nx H1 _ _ b1 h1
end
end Rp
namespace Rp
open PySem PySem.Spec PyProof.Rows L2 Rz Rm Rt Rl LamX
/-- what a lambda that tells an observation does -/
def SeeR (C dC CC : Addr) (j : Nat) : XK → TE := fun E σ H Q => ∃ (o dx : Addr) (fs : List (Str × V)) (k x day : Int), σ[5]? = some (some (.ref o)) ∧ σ[11]? = some (some (.int k)) ∧ σ[12]? = some (some (.int x)) ∧ σ[15]? = some (some (.int day)) ∧ H o = some (.ins dC dx fs) ∧ fs.lookup (oNm (decide (j ≠ 0))) = none ∧
  spSee C dC CC (decide (j ≠ 0)) (oNm (decide (j ≠ 0))) [.ref o, .int k, .int x, .int day] H Q E
/-- after an observation that agrees -/
abbrev Lp.put (q : Lp) (nl t gl : Addr) (rb : List Addr) (lg : List Int) (v : Ov) : Lp := { q with rl := nl, ra := rb, lf := lg, os := q.os ++ [.ref t], ll := gl, ovs := q.ovs ++ [v] }
theorem Ovs.snoc {H : Hp} {os : List V} {vs : List Ov} (h : Ovs H os vs) {t : Addr} {v : Ov} (ht : H t = some (.tup [.str (oNm v.e), .int v.k, .int v.x, .int v.day])) : Ovs H (os ++ [.ref t]) (vs ++ [v]) := by
  refine ⟨by rw [List.length_append, List.length_append, h.1]; rfl, fun i y u h1 h2 => ?_⟩
  by_cases hi : i < os.length
  · rw [List.getElem?_append_left hi] at h1
    rw [List.getElem?_append_left (by rw [← h.1]; exact hi)] at h2
    exact h.2 i y u h1 h2
  · have hl := (List.getElem?_eq_some_iff.mp h1).1
    rw [List.length_append] at hl
    simp only [List.length_cons, List.length_nil] at hl
    have ei : i = os.length := by omega
    subst ei
    rw [List.getElem?_append_right (Nat.le_refl _), Nat.sub_self] at h1
    rw [List.getElem?_append_right (by rw [h.1]; exact Nat.le_refl _), h.1, Nat.sub_self] at h2
    cases h1
    cases h2
    exact ⟨t, rfl, ht⟩
theorem LB.seen {K : PySem.W.Frag} {C dC : Addr} {Tb : List (Addr × Str)} {H H' : Hp} {q : Lp} (b : LB K C dC Tb H q) (ko : KO q.o q.ol H H') {nl t gl : Addr} {rb : List Addr} {v : Ov} (lg : q.lf.filter (agr q.ds q.ss q.r v.e v.k v.x v.day) ≠ [])
    (ht : H' t = some (.tup [.str (oNm v.e), .int v.k, .int v.x, .int v.day])) (B' : Ob C dC H' q.o q.dx nl q.ol q.r rb (q.lf.filter (agr q.ds q.ss q.r v.e v.k v.x v.day)) q.ds q.ss (q.os ++ [.ref t])) (hg : H gl = some (.lst ((q.lf.filter (agr q.ds q.ss q.r v.e v.k v.x v.day)).map V.int))) (ng : gl ≠ q.ol) (ov : OvOk q.ds.length v) :
    LB K C dC Tb H' (q.put nl t gl rb (q.lf.filter (agr q.ds q.ss q.r v.e v.k v.x v.day)) v) := by
  have kl : ∀ c xs, H c = some (.lst xs) → c ≠ q.ol → H' c = some (.lst xs) := fun c xs e n => ko _ _ e (fun z => by rw [z, b.B.ob] at e; cases e) n
  have kt : ∀ c xs, H c = some (.tup xs) → H' c = some (.tup xs) := fun c xs e => ko _ _ e (fun z => by rw [z, b.B.ob] at e; cases e) (fun z => by rw [z, b.B.ho] at e; cases e)
  have kr : ∀ a dx td ts es, RingAt C H a dx td ts es q.ss → RingAt C H' a dx td ts es q.ss := fun a dx td ts es R => ⟨ko _ _ R.ob (fun z => by
      have h1 := R.ob
      rw [z, b.B.ob] at h1
      injection h1 with h1
      injection h1 with h1 h2 h3
      have h4 := congrArg List.length h3
      have e3 : (obF (q.r : Int) q.rl q.ol).length = 3 := rfl
      have e2 : (flds td ts).length = 2 := by rfl
      omega) (fun z => by have := R.ob; rw [z, b.B.ho] at this; cases this), kt _ _ R.td, kt _ _ R.ts, R.ok⟩
  refine ⟨⟨?_, ?_, b.RA.ne⟩, fun p hp => ?_, kr _ _ _ _ _ b.R, kt _ _ b.ht, B', kl _ _ hg ng, kl _ _ b.hs b.nsl, b.vs.mono kt, (b.eo.mono kt).snoc ht, kl _ _ b.h8 b.n8, b.g8.mono kr, ?_, fun u hu => ?_, fun n hn => ?_, b.nrow, ng, b.nsl, b.n8, b.na, b.sa⟩
  · obtain ⟨i, m, c, h, h0⟩ := b.RA.ob
    exact ⟨i, m, c, kl _ _ h b.nrow, h0⟩
  · rcases b.RA.sc with (z | ⟨o, z⟩) | z
    · rcases b.na with n | n
      · exact .inl (.inl (kl _ _ z n))
      · exact .inr n
    · exact .inl (.inr ⟨o, ko _ _ z (fun e => by rw [e, b.B.ob] at z; cases z) (fun e => by rw [e, b.B.ho] at z; cases z)⟩)
    · exact .inr z
  · obtain ⟨ps, e1, e2, e3⟩ := b.tb p hp
    refine ⟨ps, ko _ _ e1 (fun z => by rw [z, b.B.ob] at e1; cases e1) (fun z => by rw [z, b.B.ho] at e1; cases e1), e2, fun pos cv hc => ?_⟩
    obtain ⟨c, c1, c2⟩ := e3 pos cv hc
    refine ⟨c, c1, ko _ _ c2 (fun z => ?_) (fun z => ?_)⟩
    · rw [z, b.B.ob] at c2
      unfold CodeO at c2
      cases c2
    · rw [z, b.B.ho] at c2
      unfold CodeO at c2
      cases c2
  · show _ = after q.ds q.ss q.r all30 (q.ovs ++ [v])
    rw [after_snoc, ← b.lfe]
  · rcases List.mem_append.mp hu with hu | hu
    · exact b.okv u hu
    · obtain rfl := List.mem_singleton.mp hu
      exact ov
  · rcases Nat.lt_or_ge q.ovs.length n with z | z
    · have hn' : n ≤ (q.ovs ++ [v]).length := hn
      rw [List.length_append] at hn'
      have e : n = (q.ovs ++ [v]).length := by
        rw [List.length_append]
        simp only [List.length_cons, List.length_nil] at hn' ⊢
        omega
      show after q.ds q.ss q.r all30 ((q.ovs ++ [v]).take n) ≠ []
      rw [e, List.take_length, after_snoc, ← b.lfe]
      exact lg
    · show after q.ds q.ss q.r all30 ((q.ovs ++ [v]).take n) ≠ []
      rw [List.take_append_of_le_length z]
      exact b.nes n z
def dC1 : PyData := .tuple [.str "contradiction"]
theorem dC1_shaped : SeqAt.shaped dC1 = true := by decide +kernel
theorem dC1_eqv : (!PyData.eqv dC1 dC1) = false := by decide +kernel
theorem non_eqv : (!PyData.eqv .none .none) = false := by decide +kernel
theorem non_shaped : SeqAt.shaped .none = true := by decide +kernel
/-- the word that was found -/
def Wd (H : Hp) (lg : List Int) (v : V) : Prop := (v = .non ∧ lg ≠ []) ∨ ∃ t, v = .ref t ∧ H t = some (.tup [.str "contradiction"]) ∧ lg = []
abbrev s6 (q : Lp) (y6 y9 y10 y11 y12 y13 y14 y15 y16 y17 y18 y19 y20 y21 y22 y23 : Option V) : L2.St := [some (.ref q.a), some (.ref q.row), some (.ref q.t0), some (.ref q.p), some (.int (q.r : Int)), some (.ref q.o), y6, some (.ref q.sl), some (.ref q.r8), y9, y10, y11, y12, y13, y14, y15, y16, y17, y18, y19, y20, y21, y22, y23]
section
variable {P : Program} {w : World} {K : PySem.W.Frag} {mg : Str → Option Value} {base : Heap}
variable {f : Addr} {cT PT : Addr} {A : Around} {outer : List Env} {s : Shared} {H0 : Hp} {E : XK}
theorem lx_f6 (T : Tx K mg) (TB : TabB base mg cT PT) (hr : Room 11 (XL P w K mg base f (.ref cT) A outer s H0 E).A) : ∃ tt : TS, PS (XL P w K mg base f (.ref cT) A outer s H0 E) (fl 6) tt ∧
    ∀ (D : Ends) (H : Hp) (q : Lp) (k x e : Int) (i : Bool) (day : Int) (gl : Addr) (gs : List Int) (y9 y10 y17 y18 y19 y20 y21 y22 y23 : Option V), LB K T.C T.dC [(PT, (XL P w K mg base f (.ref cT) A outer s H0 E).env.qual ++ "<lambda>")] H q → H gl = some (.lst (gs.map V.int)) → (∀ H' fw, LB K T.C T.dC [(PT, (XL P w K mg base f (.ref cT) A outer s H0 E).env.qual ++ "<lambda>")] H' q → H' gl = some (.lst (gs.map V.int)) → KLat ((XL P w K mg base f (.ref cT) A outer s H0 E).env.qual ++ "<lambda>") (XL P w K mg base f (.ref cT) A outer s H0 E).env.cells H' (le (if i then 1 else 0)) fw → D.nx (sg q y9 y10 (some (.int k)) (some (.int x)) (some (.int e)) (some (.bl i)) (some (.int day)) (some (.ref gl)) y17 y18 (some (.ref fw)) y20 y21 y22 y23) H') → tt D (sg q y9 y10 (some (.int k)) (some (.int x)) (some (.int e)) (some (.bl i)) (some (.int day)) (some (.ref gl)) y17 y18 y19 y20 y21 y22 y23) H := by
  have nd := sc_law.nd
  refine ⟨_, ps_set (i := 19) nd rfl (.inl rfl) (pe_ix ix_list (pe_lst (pa_cons (pe_lam0 TB rfl (List.mem_singleton.mpr rfl) (fun q hq _ => by rw [List.mem_singleton.mp hq]) (fun y hy z => (lamP_by (N := N_law) (sc := defScope s_law) (by decide +kernel)).free y hy z) rfl) (pa_cons (pe_lam1 TB rfl (List.mem_singleton.mpr rfl) (fun q hq _ => by rw [List.mem_singleton.mp hq]) (fun y hy z => (lamP_by (N := N_law) (sc := defScope s_law) (by decide +kernel)).free y hy z) rfl rfl) pa_nil))) (pe_callTy call_int1 (by rfl) T.z_int (by decide +kernel) (pa_cons (pv 14) pa_nil)) (fun _ _ => rfl)), ?_⟩
  intro D H q k x e i day gl gs y9 y10 y17 y18 y19 y20 y21 y22 y23 b hg nx
  have l2 := b.R.ok.l2
  have l8 := b.R.ok.l8
  refine ⟨b.tb, fun f0 c0 H1 x1 tb1 _ k1 k1c => ⟨tb1, fun f1 c1 t1 H2 x2 tb2 _ kt2 k2 k2c => ⟨(by show 2 ≤ sizeLine; decide), fun wl hwl => ?_⟩⟩⟩
  have s4 := same_upd (o := .lst [.ref f0, .ref f1]) hwl
  have a0 : KLat ((XL P w K mg base f (.ref cT) A outer s H0 E).env.qual ++ "<lambda>") (XL P w K mg base f (.ref cT) A outer s H0 E).env.cells H1 (le 0) f0 := ⟨none, c0, k1, k1c, bd0⟩
  have a1 : KLat ((XL P w K mg base f (.ref cT) A outer s H0 E).env.qual ++ "<lambda>") (XL P w K mg base f (.ref cT) A outer s H0 E).env.cells H2 (le 1) f1 := ⟨some t1, c1, k2, k2c, bd1, kt2⟩
  have b3 := (b.extN (x1.trans x2) tb2).same s4
  have hg3 := s4 _ _ (x2 _ _ (x1 _ _ hg (by intro ps z; cases z)) (by intro ps z; cases z))
  refine ⟨_, rfl, .inr ⟨i, rfl, ?_⟩⟩
  cases i with
  | true => exact ⟨wl, _, 1, .ref f1, rfl, rfl, .of upd_same, rfl, nx _ f1 b3 hg3 (a1.extN (ExtN.of s4))⟩
  | false => exact ⟨wl, _, 0, .ref f0, rfl, rfl, .of upd_same, rfl, nx _ f0 b3 hg3 ((a0.extN x2).extN (ExtN.of s4))⟩
theorem lx_f7 {Tb : List (Addr × Str)} (T : Tx K mg) {S : RdS K mg} (R : RdR S) (hb : ∀ (j : Nat) (A' : Around) (outer' : List Env) (s' : Shared) (H' : Hp) (E' : XK) (f' c' : Addr), Room 6 (A'.deeper (lamEnv (XL P w K mg base f (.ref cT) A outer s H0 E) (lpS (le j)) s'.heap.objs.size f' c')) → PE (lamCx (XL P w K mg base f (.ref cT) A outer s H0 E) A' outer' s' H' E' (lpS (le j)) f' c') (lpB (le j)) (SeeR T.C T.dC S.k3 j E')) (hr : Room 11 (XL P w K mg base f (.ref cT) A outer s H0 E).A) : ∃ tt : TS, PS (XL P w K mg base f (.ref cT) A outer s H0 E) (fl 7) tt ∧
    ∀ (D : Ends) (H : Hp) (q : Lp) (k x e : Int) (i : Bool) (day : Int) (gl fw : Addr) (y9 y10 y17 y18 y20 y21 y22 y23 : Option V), LB K T.C T.dC Tb H q → 0 ≤ k → k < q.ds.length → 0 ≤ x → x < 12 → 0 ≤ day → day ≤ 4001 → q.os.length < 500 → H gl = some (.lst ((q.lf.filter (agr q.ds q.ss q.r i k x day)).map V.int)) → gl ≠ q.ol → KLat ((XL P w K mg base f (.ref cT) A outer s H0 E).env.qual ++ "<lambda>") (XL P w K mg base f (.ref cT) A outer s H0 E).env.cells H (le (if i then 1 else 0)) fw →
      ((q.lf.filter (agr q.ds q.ss q.r i k x day) ≠ [] → ∀ H' nl t rb, LB K T.C T.dC Tb H' (q.put nl t gl rb (q.lf.filter (agr q.ds q.ss q.r i k x day)) ⟨i, k, x, day⟩) → D.nx (s6 q (some (.ref q.ll)) y9 y10 (some (.int k)) (some (.int x)) (some (.int e)) (some (.bl i)) (some (.int day)) (some (.ref gl)) y17 y18 (some (.ref fw)) (some .non) y21 y22 y23) H') ∧ (q.lf.filter (agr q.ds q.ss q.r i k x day) = [] → ∀ H' t, LB K T.C T.dC Tb H' q → H' gl = some (.lst []) → H' t = some (.tup [.str "contradiction"]) → D.nx (s6 q (some (.ref q.ll)) y9 y10 (some (.int k)) (some (.int x)) (some (.int e)) (some (.bl i)) (some (.int day)) (some (.ref gl)) y17 y18 (some (.ref fw)) (some (.ref t)) y21 y22 y23) H')) → tt D (sg q y9 y10 (some (.int k)) (some (.int x)) (some (.int e)) (some (.bl i)) (some (.int day)) (some (.ref gl)) y17 y18 (some (.ref fw)) y20 y21 y22 y23) H := by
  have nd := sc_law.nd
  refine ⟨_, ps_set (i := 20) nd rfl (.inl rfl) (pe_raised (X := XL P w K mg base f (.ref cT) A outer s H0 E) (k := 6) (le := le) T R le_ok hb (by rfl) (hr.mono (by decide : 8 ≤ 11)) (pv 19)), ?_⟩
  intro D H q k x e i day gl fw y9 y10 y17 y18 y20 y21 y22 y23 b k0 k1 x0 x1 y0 y1 few hg ng hw nx
  obtain ⟨t, c, h1, h2, h3⟩ := hw
  refine ⟨_, rfl, fw, ((if i then 1 else 0), t, c), rfl, h1, h2, h3, fun E' hE => ?_⟩
  have ei : decide ((if i then 1 else 0 : Nat) ≠ 0) = i := by cases i <;> rfl
  refine ⟨q.o, q.dx, _, k, x, day, rfl, rfl, rfl, rfl, b.B.ob, ?_, ?_⟩
  · show (obF (q.r : Int) q.rl q.ol).lookup (oNm (decide ((if i then 1 else 0 : Nat) ≠ 0))) = none
    rw [ei]
    cases i <;> rfl
  · show spSee T.C T.dC S.k3 (decide ((if i then 1 else 0 : Nat) ≠ 0)) (oNm (decide ((if i then 1 else 0 : Nat) ≠ 0))) _ _ _ _
    rw [ei]
    refine ⟨q.o, q.dx, q.rl, q.ol, q.r, q.ra, q.lf, q.ds, q.ss, q.os, k, x, day, rfl, b.B, few, k0, k1, x0, by omega, y0, by omega, fun en H' s' => ?_, fun ne H' t nl rb ko ht B' => ?_⟩
    · refine hE _ _ _ ⟨rfl, rfl, fun p H2 s2 hp => ?_⟩
      have hg2 := s2 _ _ (s' _ _ hg)
      rw [en] at hg2
      exact nx.2 en H2 p ((b.same s').same s2) hg2 hp
    · exact nx.1 ne H' nl t rb (b.seen (v := ⟨i, k, x, day⟩) ko ne ht B' hg ng ⟨k0, k1, x0, by show x ≤ 1000; omega, y0, by show day ≤ 100000; omega⟩)
end
end Rp
namespace Rp
open PySem PySem.Spec PyProof.Rows L2 Rz Rm Rt Rl LamX
/-- one more in the list of what was seen -/
theorem LB.app {K : PySem.W.Frag} {C dC : Addr} {Tb : List (Addr × Str)} {H : Hp} {q : Lp} (b : LB K C dC Tb H q) (few : q.sv.length < 20) {t : Addr} {v : Ov} (ht : H t = some (.tup [.str (oNm v.e), .int v.k, .int v.x, .int v.day])) :
    LB K C dC Tb (upd H q.sl (.lst (q.sv ++ [.ref t]))) { q with sv := q.sv ++ [.ref t], vo := q.vo ++ [v] } := by
  have k1 : ∀ c z, H c = some z → c ≠ q.sl → (upd H q.sl (.lst (q.sv ++ [.ref t]))) c = some z := fun c z e n => (upd_ne n).trans e
  have kt : ∀ c zs, H c = some (.tup zs) → (upd H q.sl (.lst (q.sv ++ [.ref t]))) c = some (.tup zs) := fun c zs e => k1 _ _ e fun z => by rw [z, b.hs] at e; cases e
  have kr : ∀ a dx td ts es, RingAt C H a dx td ts es q.ss → RingAt C (upd H q.sl (.lst (q.sv ++ [.ref t]))) a dx td ts es q.ss := fun a dx td ts es R => ⟨k1 _ _ R.ob (fun z => by have := R.ob; rw [z, b.hs] at this; cases this), kt _ _ R.td, kt _ _ R.ts, R.ok⟩
  have nr : q.sl ≠ q.row := fun z => by
    obtain ⟨i, m, c, h, _⟩ := b.RA.ob
    have h2 := b.hs
    rw [z, h] at h2
    exact ovs_ne b.vs (Option.some.inj h2).symm
  have n0 : 0 < q.ra.length := by rw [b.B.rg.1]; exact List.length_pos_iff.mpr b.B.ne
  have nrl : q.rl ≠ q.sl := fun z => by
    have h2 := b.B.hr
    rw [z, b.hs] at h2
    injection h2 with h2
    injection h2 with h2
    obtain ⟨a, d, dx', td, ts, ha, R⟩ := b.B.first
    have e0 : q.sv[0]? = some (.ref a) := by rw [h2, List.getElem?_map, ha]; rfl
    have l0 : 0 < q.vo.length := by rw [← b.vs.1]; exact (List.getElem?_eq_some_iff.mp e0).1
    obtain ⟨t', e1, e2⟩ := b.vs.2 0 _ _ e0 (List.getElem?_eq_getElem l0)
    injection e1 with e1
    have := R.ob
    rw [e1, e2] at this
    cases this
  have n8 : q.r8 ≠ q.sl := fun z => by
    have h2 := b.h8
    rw [z, b.hs] at h2
    injection h2 with h2
    injection h2 with h2
    have h3 := b.g8.1
    have e30 : (all30 : List Int).length = 30 := rfl
    have h4 : q.rs8.length = 30 := h3
    have := congrArg List.length h2
    rw [List.length_map] at this
    omega
  have nll : q.ll ≠ q.sl := fun z => by
    have h2 := b.hl
    rw [z, b.hs] at h2
    injection h2 with h2
    injection h2 with h2
    have l0 : 0 < q.lf.length := List.length_pos_iff.mpr b.B.ne
    have e0 : q.sv[0]? = some (.int (q.lf[0])) := by rw [h2, List.getElem?_map, List.getElem?_eq_getElem l0]; rfl
    have l1 : 0 < q.vo.length := by rw [← b.vs.1]; exact (List.getElem?_eq_some_iff.mp e0).1
    obtain ⟨t', e1, e2⟩ := b.vs.2 0 _ _ e0 (List.getElem?_eq_getElem l1)
    cases e1
  refine ⟨b.RA.upd' nr b.sa, fun p hp => ?_, kr _ _ _ _ _ b.R, kt _ _ b.ht, ⟨k1 _ _ b.B.ob (fun z => by have := b.B.ob; rw [z, b.hs] at this; cases this), k1 _ _ b.B.hr nrl, k1 _ _ b.B.ho (Ne.symm b.nsl), b.B.rg.mono kr, b.B.ne, b.B.l30, b.B.rlt, b.B.l8, b.B.few⟩,
    k1 _ _ b.hl nll, upd_same, (b.vs.mono kt).snoc (kt _ _ ht), b.eo.mono kt, k1 _ _ b.h8 n8, b.g8.mono kr, b.lfe, b.okv, b.nes, b.nrow, b.nll, b.nsl, b.n8, b.na, b.sa⟩
  obtain ⟨ps, e1, e2, e3⟩ := b.tb p hp
  refine ⟨ps, k1 _ _ e1 (fun z => by rw [z, b.hs] at e1; cases e1), e2, fun pos cv hc => ?_⟩
  obtain ⟨c, c1, c2⟩ := e3 pos cv hc
  refine ⟨c, c1, k1 _ _ c2 (fun z => ?_)⟩
  rw [z, b.hs] at c2
  unfold CodeO at c2
  cases c2
/-! observations as data -/
def ovD (v : Ov) : PyData := .tuple [.str (oNm v.e), .int v.k, .int v.x, .int v.day]
theorem oNm_ok (e : Bool) : PyData.strOk (oNm e) = true := by cases e <;> decide +kernel
theorem ovD_lay : ∀ vs : List Ov, PyData.canLayAll0 (vs.map ovD) = true
  | [] => rfl
  | v :: vs => by
    rw [List.map_cons]
    simp only [PyData.canLayAll0, ovD_lay vs, Bool.and_true, ovD, PyData.canLay0, oNm_ok]
theorem ovD_deep : ∀ vs : List Ov, PyData.depthAll (vs.map ovD) ≤ 2
  | [] => by decide
  | v :: vs => by
    rw [List.map_cons]
    have := ovD_deep vs
    simp only [PyData.depthAll, ovD, PyData.depth] at this ⊢
    omega
theorem ovs_data {K : PySem.W.Frag} {H : Hp} : ∀ {os : List V} {vs : List Ov}, Ovs H os vs → DpAll K H os (vs.map ovD)
  | [], [], _ => .nil
  | [], _ :: _, h => absurd h.1 (by simp)
  | _ :: _, [], h => absurd h.1 (by simp)
  | y :: os, v :: vs, h => by
    obtain ⟨t, rfl, ht⟩ := h.2 0 y v rfl rfl
    exact .cons (.tup (.of ht) (.cons (.str _) (.cons (.int _) (.cons (.int _) (.cons (.int _) .nil))))) (ovs_data ⟨by have := h.1; simpa using this, fun i z u h1 h2 => h.2 (i + 1) z u h1 h2⟩)
theorem ovs_shaped (vs : List Ov) : SeqAt.shaped (.list (vs.map ovD)) = true := by
  simp only [SeqAt.shaped, PyData.canLay0, PyData.depth, ovD_lay vs, Bool.true_and]
  have := ovD_deep vs
  exact decide_eq_true (by omega)
theorem ovs_eqv (vs : List Ov) : (!PyData.eqv (.list (vs.map ovD)) (.list (vs.map ovD))) = false := by
  rw [SeqAt.eqv_refl _ (by simp only [PyData.canLay0]; exact ovD_lay vs)]
  rfl
section
variable {P : Program} {w : World} {K : PySem.W.Frag} {mg : Str → Option Value} {base : Heap}
variable {f : Addr} {cT PT : Addr} {A : Around} {outer : List Env} {s : Shared} {H0 : Hp} {E : XK}
theorem lx_f8 {Tb : List (Addr × Str)} (T : Tx K mg) (hr : Room 11 (XL P w K mg base f (.ref cT) A outer s H0 E).A) : ∃ tt : TS, PS (XL P w K mg base f (.ref cT) A outer s H0 E) (fl 8) tt ∧
    ∀ (D : Ends) (H : Hp) (q : Lp) (k x e : Int) (i : Bool) (day : Int) (gl : Addr) (gs : List Int) (wv : V) (y6 : Option V) (y9 y10 y17 y18 y19 y21 y22 y23 : Option V), LB K T.C T.dC Tb H q → H gl = some (.lst (gs.map V.int)) → Wd H gs wv → (∀ H', Same H H' → D.nx (s6 q (y6) y9 y10 (some (.int k)) (some (.int x)) (some (.int e)) (some (.bl i)) (some (.int day)) (some (.ref gl)) y17 y18 y19 (some wv) y21 y22 y23) H') → tt D (s6 q (y6) y9 y10 (some (.int k)) (some (.int x)) (some (.int e)) (some (.bl i)) (some (.int day)) (some (.ref gl)) y17 y18 y19 (some wv) y21 y22 y23) H := by
  have nd := sc_law.nd
  refine ⟨_, ps_if (pt_cmpR (op_neD hr.units) (pv 20) (pe_ifExp (pt_cmpR (op_neD hr.units) (pv 16) (pe_lst pa_nil) (nomark _)) pe_non (pe_tup (pa_cons pe_str pa_nil))) (nomark _)) (pss_one (ps_ret pe_bl)) pss_nil, ?_⟩
  intro D H q k x e i day gl gs wv y6 y9 y10 y17 y18 y19 y21 y22 y23 b hg hw nx
  have l2 := b.R.ok.l2
  have l8 := b.R.ok.l8
  rcases hw with ⟨rfl, ne⟩ | ⟨t, rfl, ht, rfl⟩
  · refine ⟨_, rfl, _, rfl, (by show 0 ≤ sizeLine; decide), fun l hl => ?_⟩
    have s1 := same_upd (o := .lst []) hl
    refine lst_ne (as := gs) (bs := []) (.of (s1 _ _ hg)) (.of upd_same) ⟨_, rfl, ?_⟩
    rw [decide_eq_false ne]
    refine iteT ⟨.none, .none, .non, .non, non_shaped, non_shaped, _, rfl, ?_⟩
    rw [non_eqv]
    exact iteF (nx _ s1)
  · refine ⟨_, rfl, _, rfl, (by show 0 ≤ sizeLine; decide), fun l hl => ?_⟩
    have s1 := same_upd (o := .lst []) hl
    refine lst_ne (as := []) (bs := []) (.of (s1 _ _ hg)) (.of upd_same) ⟨_, rfl, iteNS rfl ⟨(by show 1 ≤ sizeLine; decide), fun u hu => ?_⟩⟩
    have s2 := same_upd (o := .tup [.str "contradiction"]) hu
    refine ⟨dC1, dC1, .tup (.of (s2 _ _ (s1 _ _ ht))) (.cons (.str _) .nil), .tup (.of upd_same) (.cons (.str _) .nil), dC1_shaped, dC1_shaped, _, rfl, ?_⟩
    rw [dC1_eqv]
    exact iteF (nx _ (s1.trans s2))
theorem lx_f9 {Tb : List (Addr × Str)} (T : Tx K mg) (hr : Room 11 (XL P w K mg base f (.ref cT) A outer s H0 E).A) : ∃ tt : TS, PS (XL P w K mg base f (.ref cT) A outer s H0 E) (fl 9) tt ∧
    ∀ (D : Ends) (H : Hp) (q : Lp) (k x e : Int) (i : Bool) (day : Int) (gl : Addr) (wv : V) (y6 : Option V) (y9 y10 y17 y18 y19 y21 y22 y23 : Option V), LB K T.C T.dC Tb H q → q.sv.length < 20 → (∃ t, wv = .ref t) ∨ wv = .non → (wv ≠ .non → D.nx (s6 q (y6) y9 y10 (some (.int k)) (some (.int x)) (some (.int e)) (some (.bl i)) (some (.int day)) (some (.ref gl)) y17 y18 y19 (some wv) y21 y22 y23) H) → (wv = .non → ∀ H' t, LB K T.C T.dC Tb H' { q with sv := q.sv ++ [.ref t], vo := q.vo ++ [⟨i, k, x, day⟩] } → D.nx (s6 q (some (.ref gl)) y9 y10 (some (.int k)) (some (.int x)) (some (.int e)) (some (.bl i)) (some (.int day)) (some (.ref gl)) y17 y18 y19 (some wv) y21 y22 y23) H') → tt D (s6 q (y6) y9 y10 (some (.int k)) (some (.int x)) (some (.int e)) (some (.bl i)) (some (.int day)) (some (.ref gl)) y17 y18 y19 (some wv) y21 y22 y23) H := by
  have nd := sc_law.nd
  refine ⟨_, ps_if (pt_cmpR op_isN (pv 20) pe_non (nomark _)) (pss_cons (ps_set (i := 6) nd rfl (.inr rfl) (pv 16)) (pss_one (ps_expr (pe_bm PySem.F.plainAttrs_list PySem.F.slot_list_append PySem.F.type_list_append mt_append (pv 7) (pa_cons (pe_tup (pa_cons (pe_ix ix_list (pe_lst (pa_cons pe_str (pa_cons pe_str pa_nil))) (pe_callTy call_int1 (by rfl) T.z_int (by decide +kernel) (pa_cons (pv 14) pa_nil)) (fun _ _ => rfl)) (pa_cons (pv 11) (pa_cons (pv 12) (pa_cons (pv 15) pa_nil))))) pa_nil))))) pss_nil, ?_⟩
  intro D H q k x e i day gl wv y6 y9 y10 y17 y18 y19 y21 y22 y23 b few hw n1 nx
  have l2 := b.R.ok.l2
  have l8 := b.R.ok.l8
  rcases hw with ⟨t, rfl⟩ | rfl
  · refine ⟨_, rfl, rfl, _, rfl, ?_⟩
    rw [decide_eq_false (show ¬ V.ref t = V.non from fun z => by cases z)]
    exact iteF (n1 (fun z => by cases z))
  · refine ⟨_, rfl, rfl, _, rfl, ?_⟩
    rw [decide_eq_true rfl]
    refine iteT ⟨_, rfl, _, rfl, .inl ⟨rfl, _, SqL.of b.hs⟩, (by show 2 ≤ sizeLine; decide), fun l hl => ?_⟩
    have s1 := same_upd (o := .lst [.str "see_open", .str "see_end"]) hl
    refine ⟨_, rfl, .inr ⟨i, rfl, l, _, (if i then 1 else 0), .str (oNm i), rfl, by cases i <;> rfl, .of upd_same, by cases i <;> rfl, _, rfl, _, rfl, _, rfl, (by show 4 ≤ sizeLine; decide), fun t ht => ?_⟩⟩
    have s2 := same_upd (o := .tup [.str (oNm i), .int k, .int x, .int day]) ht
    have b2 := (b.same s1).same s2
    refine ⟨q.sl, q.sv, _, rfl, rfl, b2.hs, small1000 (by omega), ?_⟩
    exact nx rfl _ t (b2.app few (v := ⟨i, k, x, day⟩) upd_same)
theorem lx_f10 {Tb : List (Addr × Str)} (T : Tx K mg) (hr : Room 11 (XL P w K mg base f (.ref cT) A outer s H0 E).A) : ∃ tt : TS, PS (XL P w K mg base f (.ref cT) A outer s H0 E) (fl 10) tt ∧
    ∀ (D : Ends) (H : Hp) (q : Lp) (y9 y10 y11 y12 y13 y14 y15 y16 y17 y18 y19 y20 y21 y22 y23 : Option V), LB K T.C T.dC Tb H q → q.vo = q.ovs → (∀ H', LB K T.C T.dC Tb H' q → D.nx (sg q y9 y10 y11 y12 y13 y14 y15 y16 y17 y18 y19 y20 y21 y22 y23) H') → tt D (sg q y9 y10 y11 y12 y13 y14 y15 y16 y17 y18 y19 y20 y21 y22 y23) H := by
  have nd := sc_law.nd
  refine ⟨_, ps_if (PW.pt (pw_or (pt_cmpR (op_neD hr.units) (pe_prop (pv 5) T.clD T.q_dpossible_days (ok_pd T) (hr.mono (by decide : 4 ≤ 11)) T.b_dpossible_days .nil pass0 rfl) (pv 6) (nomark _)) (pw_or1 (pt_cmpR (op_neD hr.units) (pe_prop (pv 5) T.clD T.q_dobservations (ok_os T) (hr.mono (by decide : 2 ≤ 11)) T.b_dobservations .nil pass0 rfl) (pv 7) (nomark _))))) (pss_one (ps_ret pe_bl)) pss_nil, ?_⟩
  intro D H q y9 y10 y11 y12 y13 y14 y15 y16 y17 y18 y19 y20 y21 y22 y23 b vo nx
  have l2 := b.R.ok.l2
  have l8 := b.R.ok.l8
  refine ⟨_, rfl, q.o, q.dx, _, rfl, b.B.ob, q.o, q.dx, q.rl, q.ol, q.r, q.ra, q.lf, q.ds, q.ss, q.os, rfl, b.B, fun H1 l s1 hl => ?_⟩
  have b1 := b.same s1
  refine ⟨_, rfl, lst_ne (as := q.lf) (bs := q.lf) (.of hl) (.of b1.hl) ⟨_, rfl, iteNS rfl ?_⟩⟩
  refine ⟨_, rfl, q.o, q.dx, _, rfl, b1.B.ob, q.o, q.dx, q.rl, q.ol, q.r, q.ra, q.lf, q.ds, q.ss, q.os, rfl, b1.B, fun H2 l2 s2 hl2 => ?_⟩
  have b2 := b1.same s2
  have e2 := b2.vs
  rw [vo] at e2
  refine ⟨_, rfl, .list (q.ovs.map ovD), .list (q.ovs.map ovD), .lst (.of hl2) (ovs_data b2.eo), .lst (.of b2.hs) (ovs_data e2), ovs_shaped _, ovs_shaped _, _, rfl, ?_⟩
  rw [ovs_eqv]
  exact iteF (nx _ b2)
theorem lx_f11 {Tb : List (Addr × Str)} (T : Tx K mg) (hr : Room 11 (XL P w K mg base f (.ref cT) A outer s H0 E).A) : ∃ tt : TS, PS (XL P w K mg base f (.ref cT) A outer s H0 E) (fl 11) tt ∧
    ∀ (D : Ends) (H : Hp) (q : Lp) (k x : Int) (y9 y10 y13 y14 y15 y16 y17 y18 y19 y20 y21 y22 y23 : Option V), LB K T.C T.dC Tb H q → 0 ≤ k → k < q.ds.length → (∀ H' el, LB K T.C T.dC Tb H' q → (∃ es : List Addr, H' el = some (.lst (es.map V.ref)) ∧ es.length = 9 ∧ ∀ (j : Nat) (c : Addr), es[j]? = some c → H' c = some (.lst ((ends q.ds q.ss q.r q.lf k (j : Int)).map V.int))) → D.nx (sg q y9 y10 (some (.int k)) (some (.int x)) y13 y14 y15 y16 y17 y18 y19 y20 (some (.ref el)) y22 y23) H') → tt D (sg q y9 y10 (some (.int k)) (some (.int x)) y13 y14 y15 y16 y17 y18 y19 y20 y21 y22 y23) H := by
  have nd := sc_law.nd
  refine ⟨_, ps_set (i := 21) nd rfl (.inr rfl) (pe_lc (own := [("_law_j", 23)]) rfl nd (pi_range1 (by rfl) T.z_range (pa_cons pe_int pa_nil)) (blkOk_by (N := N_law) (sc := defScope s_law) (by decide +kernel)) (fun _ _ _ _ _ => pg_name (i := 23) nd rfl (.inr rfl)) (fun _ _ _ _ _ => pts_nil) (fun _ _ _ _ _ => (pe_lc (own := [("_law_days", 17)]) rfl nd (pi_listB (K := K) (pv 6) rfl) (blkOk_by (N := N_law) (sc := { kind := .function, names := [(".0", .local), ("_law_j", .cell), ("_law_k", .cell), ("_law_left", .cell), ("_law_rings", .cell)], isGenerator := false, isCoroutine := false }) (by decide +kernel)) (fun _ _ _ _ _ => pg_name (i := 17) nd rfl (.inl rfl)) (fun _ _ _ _ _ => pts_nil) (fun _ _ _ _ _ => (pe_callI (pe_ix (r := rIxL K) ix_list (pv 8) (pe_op op_sub (pv 17) pe_int) (fun _ _ => rfl)) T.callC ((ok_call T).raw T.b_rcall .nil) (hr.mono (by decide : 4 ≤ 11)) pass0 (pa_cons (pv 11) (pa_cons (pv 23) pa_nil))))))), ?_⟩
  intro D H q k x y9 y10 y13 y14 y15 y16 y17 y18 y19 y20 y21 y22 y23 b k0 k1 nx
  have l2 := b.R.ok.l2
  have l8 := b.R.ok.l8
  have l30 := b.B.l30
  refine ⟨9, rfl, by decide, by decide, fun E1 hE1 => lc_range (lo := 0) (n := 9) (fun j H' => Same H H' ∧ ∃ es : List Addr, H' E1 = some (.lst (es.map V.ref)) ∧ es.length = j ∧ ∀ (n : Nat) (c : Addr), es[n]? = some c → H' c = some (.lst ((ends q.ds q.ss q.r q.lf k (n : Int)).map V.int))) ⟨same_upd hE1, [], upd_same, rfl, fun n c h => by cases h⟩ ?_ ?_⟩
  · rintro j H1 hj ⟨s1, es, h1, le1, he1⟩
    have b1 := b.same s1
    refine ⟨rfl, lc_keep ?_⟩
    refine ⟨_, rfl, q.ll, rfl, ⟨_, .of b1.hl⟩, fun D2 hD2 => lc_list (xs := q.lf.map V.int) (fun n H' => Same H1 H' ∧ H' D2 = some (.lst (((ends q.ds q.ss q.r q.lf k (j : Int)).take n).map V.int))) ⟨same_upd hD2, upd_same⟩ (fun n H' _ p => .of (p.1 _ _ b1.hl)) ?_ ?_⟩
    · rintro n v H2 hn ⟨s2, h2⟩
      obtain ⟨d, hd, rfl⟩ := get_int hn
      have hlt := (List.getElem?_eq_some_iff.mp hd).1
      have b2 := b1.same s2
      obtain ⟨d1, d2⟩ := b2.lf30 hd
      obtain ⟨c, dx, td, ts, hc, R⟩ := b2.at8 d1 d2
      refine ⟨rfl, lc_keep ?_⟩
      refine ⟨_, rfl, _, rfl, _, _, rfl, rfl, q.r8, _, d - 1, .ref c, rfl, rfl, .of b2.h8, at_of (j := (d - 1).toNat) (by omega) (by rw [List.getElem?_map, hc]; rfl), c, rfl, _, rfl, _, rfl, ⟨dx, _, R.ob⟩, c, dx, td, ts, q.ds.set q.r d, q.ss, k, _, rfl, R, k0, by rw [List.length_set]; exact k1, by omega, by omega, ?_⟩
      refine ⟨_, h2, by rw [List.length_map]; exact small1000 (Nat.le_trans (List.length_take_le _ _) (by omega)), ?_, ?_⟩
      · exact fun c z e => by
          rw [upd_ne (ne_of_none e hD2)]
          exact s2 c z e
      · have eE : (ends q.ds q.ss q.r q.lf k (j : Int))[n]? = some (Rm.E (at' (q.ds.set q.r d)) (at' q.ss) k (0 + (j : Int))) := by
          unfold ends
          rw [List.getElem?_map, hd, show (0 : Int) + (j : Int) = (j : Int) by omega]
          rfl
        rw [upd_same, map_snoc, List.take_add_one, eE]
        rfl
    · rintro H2 ⟨s2, h2⟩
      have le : (ends q.ds q.ss q.r q.lf k (j : Int)).length = q.lf.length := by unfold ends; rw [List.length_map]
      rw [List.length_map, ← le, List.take_length] at h2
      have h1' := s2 _ _ h1
      refine ⟨_, h1', by rw [List.length_map]; exact small1000 (by omega), ?_, es ++ [D2], by rw [upd_same, ref_snoc], by rw [List.length_append, le1]; rfl, fun n c hn => ?_⟩
      · exact fun c z e => by
          rw [upd_ne (ne_of_none e hE1)]
          exact s2 _ _ (s1 c z e)
      · have key : ∀ m, m ≠ E1 → H2 m = some (.lst ((ends q.ds q.ss q.r q.lf k (n : Int)).map V.int)) → (upd H2 E1 (.lst (es.map V.ref ++ [.ref D2]))) m = some (.lst ((ends q.ds q.ss q.r q.lf k (n : Int)).map V.int)) := fun m nm e => (upd_ne nm).trans e
        have nonE : ∀ m l, H2 m = some (.lst (l.map V.int)) → l ≠ [] → m ≠ E1 := fun m l e nl z => by
          rw [z, h1'] at e
          injection e with e
          injection e with e
          match l, nl, e with
          | _ :: _, _, e =>
            match es, e with
            | [], e => cases e
            | _ :: _, e => cases e
        have nl : ∀ n : Int, ends q.ds q.ss q.r q.lf k n ≠ [] := fun n z => by
          have := congrArg List.length z
          unfold ends at this
          rw [List.length_map] at this
          exact b.B.ne (List.length_eq_zero_iff.mp this)
        by_cases hlt : n < es.length
        · rw [List.getElem?_append_left hlt] at hn
          have e := s2 _ _ (he1 n c hn)
          exact key c (nonE c _ e (nl _)) e
        · have hl := (List.getElem?_eq_some_iff.mp hn).1
          rw [List.length_append] at hl
          simp only [List.length_cons, List.length_nil] at hl
          have en : n = es.length := by omega
          subst en
          rw [List.getElem?_append_right (Nat.le_refl _), Nat.sub_self] at hn
          cases hn
          rw [le1] at key ⊢
          exact key _ (nonE _ _ h2 (nl _)) h2
  · rintro H1 ⟨s1, es, h1, le1, he1⟩
    exact nx H1 E1 (b.same s1) ⟨es, h1, le1, he1⟩
end
end Rp
namespace Rp
open PySem PySem.Spec PyProof.Rows L2 Rz Rm Rt Rl LamX
section
variable {P : Program} {w : World} {K : PySem.W.Frag} {mg : Str → Option Value} {base : Heap}
variable {f : Addr} {cT PT : Addr} {A : Around} {outer : List Env} {s : Shared} {H0 : Hp} {E : XK}
theorem lx_f12 {Tb : List (Addr × Str)} (T : Tx K mg) (hr : Room 11 (XL P w K mg base f (.ref cT) A outer s H0 E).A) : ∃ tt : TS, PS (XL P w K mg base f (.ref cT) A outer s H0 E) (fl 12) tt ∧
    ∀ (D : Ends) (H : Hp) (q : Lp) (k x : Int) (y9 y10 y13 y14 y15 y16 y17 y18 y19 y20 y21 y22 y23 : Option V), LB K T.C T.dC Tb H q → 0 ≤ k → k < q.ds.length → 0 ≤ x → x < 12 → (∀ H', Same H H' → LB K T.C T.dC Tb H' q → D.nx (sg q y9 y10 (some (.int k)) (some (.int x)) y13 y14 y15 y16 y17 y18 y19 y20 y21 y22 y23) H') → tt D (sg q y9 y10 (some (.int k)) (some (.int x)) y13 y14 y15 y16 y17 y18 y19 y20 y21 y22 y23) H := by
  have nd := sc_law.nd
  refine ⟨_, ps_if (pt_cmpR (op_neD hr.units) (pe_meth (pv 5) T.clD T.mPe (ok_pe T) (hr.mono (by decide : 5 ≤ 11)) T.b_dpossible_ends .nil pass0 (pa_cons (pv 11) (pa_cons (pv 12) pa_nil))) (pe_callB (cr_sortedSet rfl) (by rfl) T.z_sorted (by decide +kernel) (pa_cons (pe_callTy (T := "set") (r := rSetL K w) (cr_setL rfl) (by rfl) T.z_set (by decide +kernel) (pa_cons (pe_lc (own := [("_law_days", 17)]) rfl nd (pi_list (pv 6)) (blkOk_by (N := N_law) (sc := defScope s_law) (by decide +kernel)) (fun _ _ _ _ _ => pg_name (i := 17) nd rfl (.inl rfl)) (fun _ _ _ _ _ => pts_nil) (fun _ _ _ _ _ => (pe_callI (pe_ix (r := rIxL K) ix_list (pv 8) (pe_op op_sub (pv 17) pe_int) (fun _ _ => rfl)) T.callC ((ok_call T).raw T.b_rcall .nil) (hr.mono (by decide : 4 ≤ 11)) pass0 (pa_cons (pv 11) (pa_cons (pv 12) pa_nil))))) pa_nil)) pa_nil)) (nomark _)) (pss_one (ps_ret pe_bl)) pss_nil, ?_⟩
  intro D H q k x y9 y10 y13 y14 y15 y16 y17 y18 y19 y20 y21 y22 y23 b k0 k1 x0 x1 nx
  have l2 := b.R.ok.l2
  have l8 := b.R.ok.l8
  have l30 := b.B.l30
  refine ⟨_, rfl, q.o, q.dx, _, rfl, b.B.ob, rfl, _, rfl, _, rfl, q.o, q.dx, q.rl, q.ol, q.r, q.ra, q.lf, q.ds, q.ss, q.os, k, x, rfl, b.B, k0, k1, x0, by omega, fun H1 l ns s1 hl pw mem le => ?_⟩
  have b1 := b.same s1
  refine ⟨_, rfl, q.ll, rfl, ⟨_, .of b1.hl⟩, fun D2 hD2 => lc_list (xs := q.lf.map V.int) (fun n H' => Same H1 H' ∧ H' D2 = some (.lst (((ends q.ds q.ss q.r q.lf k x).take n).map V.int))) ⟨same_upd hD2, upd_same⟩ (fun n H' _ p => .of (p.1 _ _ b1.hl)) ?_ ?_⟩
  · rintro n v H2 hn ⟨s2, h2⟩
    obtain ⟨d, hd, rfl⟩ := get_int hn
    have hlt := (List.getElem?_eq_some_iff.mp hd).1
    have b2 := b1.same s2
    obtain ⟨d1, d2⟩ := b2.lf30 hd
    obtain ⟨c, dx, td, ts, hc, R⟩ := b2.at8 d1 d2
    refine ⟨rfl, lc_keep ?_⟩
    refine ⟨_, rfl, _, rfl, _, _, rfl, rfl, q.r8, _, d - 1, .ref c, rfl, rfl, .of b2.h8, at_of (j := (d - 1).toNat) (by omega) (by rw [List.getElem?_map, hc]; rfl), c, rfl, _, rfl, _, rfl, ⟨dx, _, R.ob⟩, c, dx, td, ts, q.ds.set q.r d, q.ss, k, x, rfl, R, k0, by rw [List.length_set]; exact k1, x0, by omega, ?_⟩
    refine ⟨_, h2, by rw [List.length_map]; exact small1000 (Nat.le_trans (List.length_take_le _ _) (by omega)), ?_, ?_⟩
    · exact fun c z e => by
        rw [upd_ne (ne_of_none e hD2)]
        exact s2 c z e
    · have eE : (ends q.ds q.ss q.r q.lf k x)[n]? = some (Rm.E (at' (q.ds.set q.r d)) (at' q.ss) k x) := by
        unfold ends
        rw [List.getElem?_map, hd]
        rfl
      rw [upd_same, map_snoc, List.take_add_one, eE]
      rfl
  · rintro H2 ⟨s2, h2⟩
    have le2 : (ends q.ds q.ss q.r q.lf k x).length = q.lf.length := by unfold ends; rw [List.length_map]
    rw [List.length_map, ← le2, List.take_length] at h2
    refine ⟨D2, _, rfl, .of h2, by unfold scanBound; omega, fun p n hn hp => ?_⟩
    have s3 := same_upd (o := SetO w p (fun j => decide (j ∈ ends q.ds q.ss q.r q.lf k x)) n) hp
    refine ⟨p, _, n, rfl, upd_same, by omega, fun ms p2 pw2 mem2 _ hp2 => ?_⟩
    have s4 := same_upd (o := .lst (ms.map V.int)) hp2
    have em : ms = ns := by
      refine List.Perm.eq_of_pairwise (le := fun a b => a < b) (fun a b _ _ h1 h2 => absurd h1 (by omega)) pw2 pw ?_
      refine (List.perm_ext_iff_of_nodup (inc_nodup pw2) (inc_nodup pw)).mpr fun a => ?_
      rw [mem2 a, mem a]
      exact decide_eq_true_iff
    subst em
    refine lst_ne (as := ms) (bs := ms) (.of (s4 _ _ (s3 _ _ (s2 _ _ hl)))) (.of upd_same) ⟨_, rfl, ?_⟩
    rw [decide_eq_true rfl]
    exact iteF (nx _ (((s1.trans s2).trans s3).trans s4) (((b1.same s2).same s3).same s4))
theorem lx_f13 {Tb : List (Addr × Str)} (T : Tx K mg) (hr : Room 11 (XL P w K mg base f (.ref cT) A outer s H0 E).A) : ∃ tt : TS, PS (XL P w K mg base f (.ref cT) A outer s H0 E) (fl 13) tt ∧
    ∀ (D : Ends) (H : Hp) (q : Lp) (k : Int) (el : Addr) (y9 y10 y12 y13 y14 y15 y16 y17 y18 y19 y20 y22 y23 : Option V), LB K T.C T.dC Tb H q → (∃ es : List Addr, H el = some (.lst (es.map V.ref)) ∧ es.length = 9 ∧ ∀ (j : Nat) (c : Addr), es[j]? = some c → H c = some (.lst ((ends q.ds q.ss q.r q.lf k (j : Int)).map V.int))) → (∀ H' gl, LB K T.C T.dC Tb H' q → (∃ tl : List Int, H' gl = some (.lst (tl.map V.int)) ∧ tl.length ≤ 9 ∧ (∀ (z : Int) (r : List Int), tl = z :: r → ∃ n : Nat, z = n ∧ n < 9 ∧ Tells q.ds q.ss q.r q.lf k n ∧ ∀ j : Nat, j < n → ¬ Tells q.ds q.ss q.r q.lf k j) ∧ (tl = [] → ∀ j : Nat, j < 9 → ¬ Tells q.ds q.ss q.r q.lf k j)) → D.nx (sg q y9 y10 (some (.int k)) y12 y13 y14 y15 y16 y17 y18 y19 y20 (some (.ref el)) (some (.ref gl)) y23) H') → tt D (sg q y9 y10 (some (.int k)) y12 y13 y14 y15 y16 y17 y18 y19 y20 (some (.ref el)) y22 y23) H := by
  have nd := sc_law.nd
  refine ⟨_, ps_setLc (i := 22) (own := [("_law_j", 23)]) rfl nd rfl rfl (sw_true rfl rfl rfl (by decide +kernel)) (pi_range1 (by rfl) T.z_range (pa_cons pe_int pa_nil)) (blkOk_by (N := N_law) (sc := defScope s_law) (by decide +kernel)) (fun _ _ _ _ _ => pg_name (i := 23) nd rfl (.inl rfl)) (fun _ _ _ _ _ => pts_one (pt_cmpR op_eq (pe_callB (r := rLenO w) cr_lenO (by rfl) T.z_len PySem.boot_len (pa_cons (pe_callTy (T := "set") (r := rSetL K w) (cr_setL rfl) (by rfl) T.z_set (by decide +kernel) (pa_cons (pe_ix (r := rIxL K) ix_list (pv 21) (pv 23) (fun _ _ => rfl)) pa_nil)) pa_nil)) (pe_callB (r := rLenLT K) call_len_seqK (by rfl) T.z_len PySem.boot_len (pa_cons (pv 6) pa_nil)) (nomark _))) (fun _ _ _ _ _ => pv 23), ?_⟩
  intro D H q k el y9 y10 y12 y13 y14 y15 y16 y17 y18 y19 y20 y22 y23 b he nx
  have l2 := b.R.ok.l2
  have l8 := b.R.ok.l8
  have l30 := b.B.l30
  obtain ⟨es, h0, le9, hes⟩ := he
  refine ⟨9, rfl, by decide, by decide, fun D1 hD1 => lc_range (lo := 0) (n := 9) (fun j H' => Same H H' ∧ ∃ tl : List Int, H' D1 = some (.lst (tl.map V.int)) ∧ tl.length ≤ j ∧ (∀ (z : Int) (r : List Int), tl = z :: r → ∃ n : Nat, z = n ∧ n < 9 ∧ Tells q.ds q.ss q.r q.lf k n ∧ ∀ i : Nat, i < n → ¬ Tells q.ds q.ss q.r q.lf k i) ∧ (tl = [] → ∀ i : Nat, i < j → ¬ Tells q.ds q.ss q.r q.lf k i)) ⟨same_upd hD1, [], upd_same, Nat.le_refl _, fun z r e => (by cases e), fun _ i hi => absurd hi (by omega)⟩ ?_ ?_⟩
  · rintro j H1 hj ⟨s1, tl, h1, le1, p1, p2⟩
    have b1 := b.same s1
    have hj9 : j < es.length := by omega
    have hc := s1 _ _ (hes j _ (List.getElem?_eq_getElem hj9))
    have lle : (ends q.ds q.ss q.r q.lf k (j : Int)).length = q.lf.length := by unfold ends; rw [List.length_map]
    refine ⟨rfl, _, rfl, _, rfl, el, _, _, _, rfl, rfl, .of (s1 _ _ h0), at_of (j := j) (by omega) (by rw [List.getElem?_map, List.getElem?_eq_getElem hj9]; rfl), _, _, rfl, .of hc, by unfold scanBound; omega, fun p n hn hp => ?_⟩
    have s2 := same_upd (o := SetO w p (fun i => decide (i ∈ ends q.ds q.ss q.r q.lf k (j : Int))) n) hp
    refine ⟨p, _, n, rfl, upd_same, by omega, fun ⟨ks, nk, mk, lk⟩ => ?_⟩
    have b2 := b1.same s2
    refine ⟨_, rfl, q.ll, _, rfl, .inl (.of b2.hl), rfl, _, rfl, ?_⟩
    rw [List.length_map]
    have cd : Cd (ends q.ds q.ss q.r q.lf k (j : Int)) n := ⟨ks, nk, fun y => (mk y).trans decide_eq_true_iff, lk⟩
    by_cases hcn : n = q.lf.length
    · have e : decide (V.int ((n : Nat) : Int) = V.int ((q.lf.length : Nat) : Int)) = true := decide_eq_true (by rw [hcn])
      rw [e]
      have yes : Tells q.ds q.ss q.r q.lf k (j : Int) := by unfold Tells; rw [← hcn]; exact cd
      show if true = true then _ else _
      rw [if_pos rfl]
      refine ⟨_, rfl, _, s2 _ _ h1, by rw [List.length_map]; exact small1000 (by omega), ?_, tl ++ [0 + (j : Int)], by rw [upd_same, map_snoc], by rw [List.length_append]; show _ + 1 ≤ _; omega, fun z r ez => ?_, fun z => absurd z (by simp)⟩
      · exact fun c z e => by
          rw [upd_ne (ne_of_none e hD1)]
          exact s2 _ _ (s1 c z e)
      · cases tl with
        | nil =>
          have : z = 0 + (j : Int) := by
            have := congrArg List.head? ez
            simpa using this.symm
          exact ⟨j, by omega, hj, yes, p2 rfl⟩
        | cons z0 r0 =>
          have e0 : z = z0 := by
            have := congrArg List.head? ez
            simpa using this.symm
          subst e0
          exact p1 z r0 rfl
    · have e : decide (V.int ((n : Nat) : Int) = V.int ((q.lf.length : Nat) : Int)) = false := decide_eq_false fun z => hcn (by have := V.int.inj z; omega)
      rw [e]
      show if false = true then _ else _
      rw [if_neg (by decide)]
      refine ⟨s1.trans s2, tl, s2 _ _ h1, by omega, p1, fun en i hi => ?_⟩
      by_cases hij : i < j
      · exact p2 en i hij
      · have : i = j := by omega
        subst this
        exact fun t => hcn (cd.one t)
  · rintro H1 ⟨s1, tl, h1, le1, p1, p2⟩
    exact nx H1 D1 (b.same s1) ⟨tl, h1, le1, p1, p2⟩
theorem lx_f14 {Tb : List (Addr × Str)} (T : Tx K mg) (hr : Room 11 (XL P w K mg base f (.ref cT) A outer s H0 E).A) : ∃ tt : TS, PS (XL P w K mg base f (.ref cT) A outer s H0 E) (fl 14) tt ∧
    ∀ (D : Ends) (H : Hp) (q : Lp) (k : Int) (gl : Addr) (y9 y10 y12 y13 y14 y15 y16 y17 y18 y19 y20 y21 y23 : Option V), LB K T.C T.dC Tb H q → 0 ≤ k → k < q.ds.length → (∃ tl : List Int, H gl = some (.lst (tl.map V.int)) ∧ tl.length ≤ 9 ∧ (∀ (z : Int) (r : List Int), tl = z :: r → ∃ n : Nat, z = n ∧ n < 9 ∧ Tells q.ds q.ss q.r q.lf k n ∧ ∀ j : Nat, j < n → ¬ Tells q.ds q.ss q.r q.lf k j) ∧ (tl = [] → ∀ j : Nat, j < 9 → ¬ Tells q.ds q.ss q.r q.lf k j)) → (∀ H', LB K T.C T.dC Tb H' q → D.nx (sg q y9 y10 (some (.int k)) y12 y13 y14 y15 y16 y17 y18 y19 y20 y21 (some (.ref gl)) y23) H') → tt D (sg q y9 y10 (some (.int k)) y12 y13 y14 y15 y16 y17 y18 y19 y20 y21 (some (.ref gl)) y23) H := by
  have nd := sc_law.nd
  refine ⟨_, ps_if (pt_cmpR (op_neD hr.units) (pe_meth (pv 5) T.clD T.mTn (ok_tn T) (hr.mono (by decide : 6 ≤ 11)) T.b_dtelling_number .nil pass0 (pa_cons (pv 11) (pa_cons pe_int pa_nil))) (pe_ifExp (pt_cmpR (op_neD hr.units) (pv 22) (pe_lst pa_nil) (nomark _)) (pe_ix ix_list (pv 22) pe_int (fun _ _ => rfl)) pe_non) (nomark _)) (pss_one (ps_ret pe_bl)) pss_nil, ?_⟩
  intro D H q k gl y9 y10 y12 y13 y14 y15 y16 y17 y18 y19 y20 y21 y23 b k0 k1 htl nx
  have l2 := b.R.ok.l2
  have l8 := b.R.ok.l8
  obtain ⟨tl, h0, le9, p1, p2⟩ := htl
  refine ⟨_, rfl, q.o, q.dx, _, rfl, b.B.ob, rfl, _, rfl, q.o, q.dx, q.rl, q.ol, q.r, q.ra, q.lf, q.ds, q.ss, q.os, k, 8, rfl, b.B, k0, k1, by decide, fun H1 n s1 hn tn no => ?_, fun H1 s1 no => ?_⟩
  · have hv : (tl = [] ∧ V.int (n : Int) = .non) ∨ ∃ z r, tl = z :: r ∧ V.int (n : Int) = .int z := by
      cases tl with
      | nil => exact absurd tn (p2 rfl n (by omega))
      | cons z r =>
        obtain ⟨m, rfl, hm, tm, nom⟩ := p1 z r rfl
        refine .inr ⟨_, r, rfl, ?_⟩
        rcases Nat.lt_trichotomy n m with h | h | h
        · exact absurd tn (nom n h)
        · rw [h]
        · exact absurd tm (no m h)
    refine ⟨_, rfl, (by show 0 ≤ sizeLine; decide), fun e he => ?_⟩
    have s2 := same_upd (o := .lst []) he
    refine lst_ne (as := tl) (bs := []) (.of (s2 _ _ (s1 _ _ h0))) (.of upd_same) ⟨_, rfl, ?_⟩
    have b2 := (b.same s1).same s2
    rcases hv with ⟨_, h⟩ | ⟨z, r, rfl, h⟩
    · cases h
    · injection h with h
      subst h
      rw [decide_eq_false (fun h => by cases h)]
      refine iteT ⟨_, rfl, gl, _, 0, .int _, rfl, rfl, .of (s2 _ _ (s1 _ _ h0)), atI_nat (j := 0) rfl, .int (n : Int), .int (n : Int), .int _, .int _, by rfl, by rfl, _, rfl, ?_⟩
      rw [show (!PyData.eqv (.int (n : Int)) (.int (n : Int))) = false by simp [PyData.eqv]]
      exact iteF (nx _ b2)
  · have hv : tl = [] := by
      cases tl with
      | nil => rfl
      | cons z r =>
        obtain ⟨m, rfl, hm, tm, nom⟩ := p1 z r rfl
        exact absurd tm (no m (by omega))
    subst hv
    refine ⟨_, rfl, (by show 0 ≤ sizeLine; decide), fun e he => ?_⟩
    have s2 := same_upd (o := .lst []) he
    refine lst_ne (as := []) (bs := []) (.of (s2 _ _ (s1 _ _ h0))) (.of upd_same) ⟨_, rfl, ?_⟩
    have b2 := (b.same s1).same s2
    rw [decide_eq_true rfl]
    refine iteF ⟨.none, .none, .non, .non, non_shaped, non_shaped, _, rfl, ?_⟩
    rw [non_eqv]
    exact iteF (nx _ b2)
end
end Rp
namespace Rp
open PySem PySem.Spec PyProof.Rows L2 Rz Rm Rt Rl LamX
/-- a new ring's place -/
theorem same_new {H : Hp} {C x z : Addr} (nx : H x = none) (nz : H z = none) : Same H (upd (upd H z (.own x)) x (.ins C z [])) := fun b o e => by
  rw [upd_ne (ne_of_none e nx), upd_ne (ne_of_none e nz)]
  exact e
section
variable {P : Program} {w : World} {K : PySem.W.Frag} {mg : Str → Option Value} {base : Heap}
variable {f : Addr} {cT PT : Addr} {A : Around} {outer : List Env} {s : Shared} {H0 : Hp} {E : XK}
theorem hb_see {S : RdS K mg} (T : Tx K mg) (XC : RxE K mg "Contradiction" S.k3) : ∀ (j : Nat) (A' : Around) (outer' : List Env) (s' : Shared) (H' : Hp) (E' : XK) (f' c' : Addr), Room 6 (A'.deeper (lamEnv (XL P w K mg base f (.ref cT) A outer s H0 E) (lpS (le j)) s'.heap.objs.size f' c')) → PE (lamCx (XL P w K mg base f (.ref cT) A outer s H0 E) A' outer' s' H' E' (lpS (le j)) f' c') (lpB (le j)) (SeeR T.C T.dC S.k3 j E')
  | 0, A', outer', s', H', E', f', c', hr => by
    have go : PE (lamCx (XL P w K mg base f (.ref cT) A outer s H0 E) A' outer' s' H' E' (lpS (le 0)) f' c') (lpB (le 0)) _ := pe_meth (E := E') (pv 5) T.clD T.bOpen.mt (ok_so T XC) (hr.mono (by decide)) T.b_dsee_open .nil (passes_call (takes_of rfl rfl rfl rfl) (fun _ _ _ _ z => z)) (pa_cons (pv 11) (pa_cons (pv 12) (pa_cons (pv 15) pa_nil)))
    refine ⟨fun pins s σ H Q I h => go.run pins s σ H Q I ?_⟩
    obtain ⟨o, dx, fs, k, x, day, h5, h11, h12, h15, ho, hl, sp⟩ := h
    exact ⟨_, h5, o, dx, fs, rfl, ho, hl, _, h11, _, h12, _, h15, sp⟩
  | j + 1, A', outer', s', H', E', f', c', hr => by
    have go : PE (lamCx (XL P w K mg base f (.ref cT) A outer s H0 E) A' outer' s' H' E' (lpS (le (j + 1))) f' c') (lpB (le (j + 1))) _ := pe_meth (E := E') (pv 5) T.clD T.bEnd.mt (ok_se T XC) (hr.mono (by decide)) T.b_dsee_end .nil (passes_call (takes_of rfl rfl rfl rfl) (fun _ _ _ _ z => z)) (pa_cons (pv 11) (pa_cons (pv 12) (pa_cons (pv 15) pa_nil)))
    refine ⟨fun pins s σ H Q I h => go.run pins s σ H Q I ?_⟩
    obtain ⟨o, dx, fs, k, x, day, h5, h11, h12, h15, ho, hl, sp⟩ := h
    have e1 : decide (j + 1 ≠ 0) = true := decide_eq_true (Nat.succ_ne_zero j)
    rw [e1] at hl sp
    exact ⟨_, h5, o, dx, fs, rfl, ho, hl, _, h11, _, h12, _, h15, sp⟩
end
section
variable {P : Program} {w : World} {K : PySem.W.Frag} {mg : Str → Option Value} {base : Heap}
def spLawL (K : PySem.W.Frag) (PT : Addr) : Sp := fun vs H Q _ => ∃ (a : Addr) (ns : List Int), vs = [.ref a] ∧ SqL K H a (ns.map V.int) ∧ ns.length ≤ 63 ∧ H PT = some (.tbl #[]) ∧ ∀ H', Q (.bl true) H'
theorem ok_law {cT PT : Addr} (T : Tx K mg) (S : RdS K mg) (R : RdR S) (XC : RxE K mg "Contradiction" S.k3) (TB : TabB base mg cT PT) (FC : FunC K "law" "law" s_law T.a_law T.d_law (.ref cT)) : FnOk P w K mg base CX0 12 T.a_law T.d_law P_law (spLawL K PT) := by
  refine FC.ok sc_law (fun vs H Q E h => ?_) (fun A outer s H vs Q E hr h => ?_)
  · obtain ⟨a, ns, rfl, _⟩ := h
    rfl
  · obtain ⟨a, ns, rfl, hS, hlen, hP, qq⟩ := h
    have nd := sc_law.nd
    obtain ⟨u0, q0, v0⟩ := lx_f0 (P := P) (w := w) (K := K) (mg := mg) (base := base) (f := T.a_law) (cT := cT) (A := A) (outer := outer) (s := s) (H0 := H) (E := E) (Tb := [(PT, (XL P w K mg base T.a_law (.ref cT) A outer s H E).env.qual ++ "<lambda>")]) T hr
    obtain ⟨u1, q1, v1⟩ := lx_f1 (P := P) (w := w) (K := K) (mg := mg) (base := base) (f := T.a_law) (cT := cT) (A := A) (outer := outer) (s := s) (H0 := H) (E := E) (Tb := [(PT, (XL P w K mg base T.a_law (.ref cT) A outer s H E).env.qual ++ "<lambda>")]) T hr
    obtain ⟨u2, q2, v2⟩ := lx_f2 (P := P) (w := w) (K := K) (mg := mg) (base := base) (f := T.a_law) (cT := cT) (A := A) (outer := outer) (s := s) (H0 := H) (E := E) (Tb := [(PT, (XL P w K mg base T.a_law (.ref cT) A outer s H E).env.qual ++ "<lambda>")]) T hr
    obtain ⟨u3, q3, v3⟩ := lx_f3 (P := P) (w := w) (K := K) (mg := mg) (base := base) (f := T.a_law) (cT := cT) (A := A) (outer := outer) (s := s) (H0 := H) (E := E) (Tb := [(PT, (XL P w K mg base T.a_law (.ref cT) A outer s H E).env.qual ++ "<lambda>")]) T hr
    obtain ⟨u4, q4, v4⟩ := lx_f4 (P := P) (w := w) (K := K) (mg := mg) (base := base) (f := T.a_law) (cT := cT) (A := A) (outer := outer) (s := s) (H0 := H) (E := E) (Tb := [(PT, (XL P w K mg base T.a_law (.ref cT) A outer s H E).env.qual ++ "<lambda>")]) T hr
    obtain ⟨u5, q5, v5⟩ := lx_f5 (P := P) (w := w) (K := K) (mg := mg) (base := base) (f := T.a_law) (cT := cT) (A := A) (outer := outer) (s := s) (H0 := H) (E := E) (Tb := [(PT, (XL P w K mg base T.a_law (.ref cT) A outer s H E).env.qual ++ "<lambda>")]) T hr
    obtain ⟨u6, q6, v6⟩ := lx_f6 (P := P) (w := w) (K := K) (mg := mg) (base := base) (f := T.a_law) (cT := cT) (A := A) (outer := outer) (s := s) (H0 := H) (E := E) (PT := PT) T TB hr
    obtain ⟨u7, q7, v7⟩ := lx_f7 (P := P) (w := w) (K := K) (mg := mg) (base := base) (f := T.a_law) (cT := cT) (A := A) (outer := outer) (s := s) (H0 := H) (E := E) (Tb := [(PT, (XL P w K mg base T.a_law (.ref cT) A outer s H E).env.qual ++ "<lambda>")]) T R (hb_see T XC) hr
    obtain ⟨u8, q8, v8⟩ := lx_f8 (P := P) (w := w) (K := K) (mg := mg) (base := base) (f := T.a_law) (cT := cT) (A := A) (outer := outer) (s := s) (H0 := H) (E := E) (Tb := [(PT, (XL P w K mg base T.a_law (.ref cT) A outer s H E).env.qual ++ "<lambda>")]) T hr
    obtain ⟨u9, q9, v9⟩ := lx_f9 (P := P) (w := w) (K := K) (mg := mg) (base := base) (f := T.a_law) (cT := cT) (A := A) (outer := outer) (s := s) (H0 := H) (E := E) (Tb := [(PT, (XL P w K mg base T.a_law (.ref cT) A outer s H E).env.qual ++ "<lambda>")]) T hr
    obtain ⟨u10, q10, v10⟩ := lx_f10 (P := P) (w := w) (K := K) (mg := mg) (base := base) (f := T.a_law) (cT := cT) (A := A) (outer := outer) (s := s) (H0 := H) (E := E) (Tb := [(PT, (XL P w K mg base T.a_law (.ref cT) A outer s H E).env.qual ++ "<lambda>")]) T hr
    obtain ⟨u11, q11, v11⟩ := lx_f11 (P := P) (w := w) (K := K) (mg := mg) (base := base) (f := T.a_law) (cT := cT) (A := A) (outer := outer) (s := s) (H0 := H) (E := E) (Tb := [(PT, (XL P w K mg base T.a_law (.ref cT) A outer s H E).env.qual ++ "<lambda>")]) T hr
    obtain ⟨u12, q12, v12⟩ := lx_f12 (P := P) (w := w) (K := K) (mg := mg) (base := base) (f := T.a_law) (cT := cT) (A := A) (outer := outer) (s := s) (H0 := H) (E := E) (Tb := [(PT, (XL P w K mg base T.a_law (.ref cT) A outer s H E).env.qual ++ "<lambda>")]) T hr
    obtain ⟨u13, q13, v13⟩ := lx_f13 (P := P) (w := w) (K := K) (mg := mg) (base := base) (f := T.a_law) (cT := cT) (A := A) (outer := outer) (s := s) (H0 := H) (E := E) (Tb := [(PT, (XL P w K mg base T.a_law (.ref cT) A outer s H E).env.qual ++ "<lambda>")]) T hr
    obtain ⟨u14, q14, v14⟩ := lx_f14 (P := P) (w := w) (K := K) (mg := mg) (base := base) (f := T.a_law) (cT := cT) (A := A) (outer := outer) (s := s) (H0 := H) (E := E) (Tb := [(PT, (XL P w K mg base T.a_law (.ref cT) A outer s H E).env.qual ++ "<lambda>")]) T hr
    refine ⟨_, pss_cons (ps_set (i := 1) nd rfl (.inl rfl) (pe_lst (pa_cons (pv 0) (pa_cons pe_int (pa_cons pe_int (pa_cons pe_int pa_nil)))))) (pss_cons (ps_set (i := 2) nd rfl (.inl rfl) (pe_call (ok_parts T) (hr.mono (by decide : 2 ≤ 11)) (by rfl) T.g_lparts T.F_lparts.kp T.b_lparts .nil pass0 (pa_cons (pv 1) (pa_cons pe_int pa_nil)))) (pss_cons (ps_asg (pe_tup (pa_cons (pe_make T.mkR (ok_init T) (hr.mono (by decide : 5 ≤ 11)) (by rfl) T.gC T.b_rinit .nil pass0 (pa_cons (pe_ix ix_tup (pv 2) pe_int (fun _ _ => rfl)) (pa_cons (pe_ix ix_tup (pv 2) pe_int (fun _ _ => rfl)) pa_nil))) (pa_cons (pe_call (ok_taken T) (hr.mono (by decide : 1 ≤ 11)) (by rfl) T.g_ltaken T.F_ltaken.kp T.b_ltaken .nil pass0 (pa_cons (pv 1) (pa_cons (pe_callB call_len_seq (by rfl) T.z_len PySem.boot_len (pa_cons (pe_ix ix_tup (pv 2) pe_int (fun _ _ => rfl)) pa_nil)) pa_nil))) pa_nil))) (pg_tup rfl (pgs_cons (pg_name (i := 3) nd rfl (.inr rfl)) (pgs_cons (pg_name (i := 4) nd rfl (.inr rfl)) pgs_nil)))) (pss_cons (ps_asg (pe_tup (pa_cons (pe_make T.mkD (ok_di T) (hr.mono (by decide : 9 ≤ 11)) (by rfl) T.gD T.b_dinit .nil pass0 (pa_cons (pv 3) (pa_cons (pv 4) pa_nil))) (pa_cons (pe_listRg rfl (by rfl) T.z_list (prg_2 (by rfl) T.z_range pe_int pe_int)) (pa_cons (pe_lst pa_nil) pa_nil)))) (pg_tup rfl (pgs_cons (pg_name (i := 5) nd rfl (.inr rfl)) (pgs_cons (pg_name (i := 6) nd rfl (.inr rfl)) (pgs_cons (pg_name (i := 7) nd rfl (.inl rfl)) pgs_nil))))) (pss_cons (ps_set (i := 8) nd rfl (.inr rfl) (pe_lc (own := [("_law_days", 17)]) rfl nd (pi_list (pv 6)) (blkOk_by (N := N_law) (sc := defScope s_law) (by decide +kernel)) (fun _ _ _ _ _ => pg_name (i := 17) nd rfl (.inl rfl)) (fun _ _ _ _ _ => pts_nil) (fun _ _ _ _ _ => pe_meth (pv 3) T.cl T.mW (ok_with T) (hr.mono (by decide : 6 ≤ 11)) T.b_rwith_days .nil pass0 (pa_cons (pv 4) (pa_cons (pv 17) pa_nil))))) (pss_cons (ps_set (i := 9) nd rfl (.inl rfl) (pe_ix ix_list (pv 8) (pe_call (ok_taken T) (hr.mono (by decide : 1 ≤ 11)) (by rfl) T.g_ltaken T.F_ltaken.kp T.b_ltaken .nil pass0 (pa_cons (pv 1) (pa_cons pe_int pa_nil))) (fun _ _ => rfl)))
      (pss_cons (ps_for PassesOwn.never rfl (pi_range1 (by rfl) T.z_range (pa_cons (pe_op op_add pe_int (pe_call (ok_taken T) (hr.mono (by decide : 1 ≤ 11)) (by rfl) T.g_ltaken T.F_ltaken.kp T.b_ltaken .nil pass0 (pa_cons (pv 1) (pa_cons pe_int pa_nil)))) pa_nil)) (pg_name (i := 10) nd rfl (.inl rfl)) (pss_cons q0 (pss_cons q1 (pss_cons q2 (pss_cons q3 (pss_cons q4 (pss_cons q5 (pss_cons q6 (pss_cons q7 (pss_cons q8 (pss_cons q9 (pss_cons q10 (pss_cons q11 (pss_cons q12 (pss_cons q13 (pss_one q14))))))))))))))))
      (pss_one (ps_ret (pe_cmpR (op_eqD hr.units) (pe_prop (ClX.pe_cmeth (E := E0) (pe_glob (v := .ref T.dC) (by rfl) T.gD rfl) T.crdD T.cmF ((ok_fl T XC).raw T.b_dfrom_log .nil) (hr.mono (by decide : 10 ≤ 11)) pass0 (pa_cons (pv 3) (pa_cons (pv 4) (pa_cons (pv 7) pa_nil)))) T.clD T.q_dpossible_days (ok_pd T) (hr.mono (by decide : 4 ≤ 11)) T.b_dpossible_days .nil pass0 rfl) (pv 6) (nomark _)))))))))), ?_⟩
    have tb0 : Tabs [(PT, (XL P w K mg base T.a_law (.ref cT) A outer s H E).env.qual ++ "<lambda>")] H := fun p hp => by
      cases List.mem_singleton.mp hp
      exact TabS.nil hP
    refine ⟨_, rfl, (by show 4 ≤ sizeLine; decide), fun row hrow => ?_⟩
    have s0 := same_upd (o := .lst [.ref a, .int 0, .int 0, .int 0]) hrow
    have RA0 : RowAt K (upd H row (.lst [.ref a, .int 0, .int 0, .int 0])) row a ns := ⟨⟨0, 0, 0, upd_same, Int.le_refl _⟩, s0.seq hS, far_of hS hrow⟩
    have tb1 := tb0.ext s0
    show tSeq _ _ _ [some (.ref a), some (.ref row), none, none, none, none, none, none, none, none, none, none, none, none, none, none, none, none, none, none, none, none, none, none] (upd H row (.lst [.ref a, .int 0, .int 0, .int 0]))
    generalize (upd H row (.lst [.ref a, .int 0, .int 0, .int 0])) = H0 at RA0 tb1 ⊢
    refine ⟨_, rfl, row, a, ns, 6, rfl, RA0, by decide, by decide, fun H1 t0 td ts ds ss G RA1 k1 ht hd hs => ?_⟩
    have tb2 := Tabs_kp RA0 k1 tb1
    have l2 := G.l2
    have l8 := G.l8
    refine ⟨_, rfl, t0, _, 0, _, rfl, rfl, .of ht, atI_nat (j := 0) rfl, _, rfl, t0, _, 1, _, rfl, rfl, .of ht, atI_nat (j := 1) rfl, fun p dp np ndp ne => ?_⟩
    have s9 := same_new (C := T.C) np ndp
    refine ⟨p, dp, td, ts, ds, ss, rfl, upd_same, s9 _ _ hd, s9 _ _ hs, G, fun H2 R2 k2 => ⟨rfl, ?_⟩⟩
    have s2 : Same H1 H2 := Same.made np ndp k2
    have RA2 := RA1.same s2
    have ht2 := s2 _ _ ht
    refine ⟨_, rfl, _, rfl, t0, _, 0, _, rfl, rfl, .of ht2, atI_nat (j := 0) rfl, td, _, rfl, .inr (.of R2.td), row, a, ns, _, rfl, RA2, by rw [List.length_map]; omega, by rw [List.length_map]; omega, fun rr H3 r0 r1 RA3 k3 => ⟨(by show 2 ≤ sizeLine; decide), fun tp htp => ?_⟩⟩
    rw [List.length_map] at r1
    obtain ⟨r, rfl⟩ : ∃ n : Nat, rr = (n : Int) := ⟨rr.toNat, by omega⟩
    have s4 := same_upd (o := .tup [.ref p, .int (r : Int)]) htp
    refine ⟨tp, _, rfl, .of upd_same, rfl, _, _, rfl, _, _, rfl, rfl, ?_⟩
    have RA4 := RA3.same s4
    have R4 := (R2.kp8 RA2 k3).same s4
    have ht4 := s4 _ _ (kp_of RA2 k3 ht2 (fun _ _ _ z => by cases z))
    have tb4 := (Tabs_kp RA2 k3 (tb2.ext s2)).ext s4
    show tSeq _ _ _ [some (.ref a), some (.ref row), some (.ref t0), some (.ref p), some (.int (r : Int)), none, none, none, none, none, none, none, none, none, none, none, none, none, none, none, none, none, none, none] (upd H3 tp (.tup [.ref p, .int (r : Int)]))
    generalize (upd H3 tp (.tup [.ref p, .int (r : Int)])) = H4 at RA4 R4 ht4 tb4 ⊢
    refine ⟨_, rfl, _, rfl, fun o dx no ndx nod => ?_⟩
    have s5 : Same H4 (upd (upd H4 dx (.own o)) o (.ins T.dC dx [])) := fun b x e => by
      rw [upd_ne (ne_of_none e no), upd_ne (ne_of_none e ndx)]
      exact e
    refine ⟨o, dx, p, dp, td, ts, ds, ss, r, rfl, upd_same, R4.same s5, by omega, fun H5 rl ol ra k5 nol B5 => ⟨rfl, ?_⟩⟩
    have S5 : Same H4 H5 := fun b x e => k5 b x (s5 b x e) (ne_of_none e no)
    have nol : H4 ol = none := by
      cases e : H4 ol with
      | none => rfl
      | some v => rw [s5 _ _ e] at nol; cases nol
    have RA5 := RA4.same S5
    obtain ⟨ri, rm, rc, hrow4, _⟩ := RA4.ob
    have nrow : row ≠ ol := ne_of_none hrow4 nol
    have na : a ≠ ol ∨ Wr K a (ns.map V.int) := (far_of RA4.sc nol).imp Ne.symm id
    refine ⟨1, 31, rfl, rfl, .of_le (by omega) (by omega) (by omega) (by omega), fun ll hll => ?_⟩
    have e30 : rgV 1 31 = all30.map V.int := by
      unfold rgV
      rw [List.map_map]
      rfl
    rw [e30] at *
    have s6' := same_upd (o := .lst (all30.map V.int)) hll
    refine ⟨(by show 0 ≤ sizeLine; decide), fun sl hsl => ⟨(by show 3 ≤ sizeLine; decide), fun tq htq => ?_⟩⟩
    have s7 := same_upd (o := .lst []) hsl
    have s8 := same_upd (o := .tup [.ref o, .ref ll, .ref sl]) htq
    refine ⟨tq, _, rfl, .of upd_same, rfl, _, _, rfl, _, _, rfl, _, _, rfl, rfl, ?_⟩
    have S8 := (s6'.trans s7).trans s8
    have hll8 := s8 _ _ (s7 _ _ (upd_same : (upd H5 ll (.lst (all30.map V.int))) ll = _))
    have hsl8 := s8 _ _ (upd_same : (upd (upd H5 ll (.lst (all30.map V.int))) sl (.lst [])) sl = _)
    have sa : sl ≠ a ∨ Wr K a (ns.map V.int) := far_of (RA5.same s6').sc hsl
    have nll : ll ≠ ol := Ne.symm (ne_of_none B5.ho hll)
    have nsl : sl ≠ ol := Ne.symm (ne_of_none (s6' _ _ B5.ho) hsl)
    have RA8 := RA5.same S8
    have R8 := (R4.same S5).same S8
    have B8 := B5.same S8
    have ht8 := S8 _ _ (S5 _ _ ht4)
    have tb8 := (tb4.ext S5).ext S8
    show tSeq _ _ _ [some (.ref a), some (.ref row), some (.ref t0), some (.ref p), some (.int (r : Int)), some (.ref o), some (.ref ll), some (.ref sl), none, none, none, none, none, none, none, none, none, none, none, none, none, none, none, none] (upd (upd (upd H5 ll (.lst (all30.map V.int))) sl (.lst [])) tq (.tup [.ref o, .ref ll, .ref sl]))
    generalize (upd (upd (upd H5 ll (.lst (all30.map V.int))) sl (.lst [])) tq (.tup [.ref o, .ref ll, .ref sl])) = H8 at hll8 hsl8 RA8 R8 B8 ht8 tb8 ⊢
    refine ⟨_, rfl, ll, rfl, ⟨_, .of hll8⟩, fun r8 hr8 => lc_list (xs := all30.map V.int) (fun i H' => Same H8 H' ∧ ∃ rs : List Addr, H' r8 = some (.lst (rs.map V.ref)) ∧ Rgs T.C H' r rs (all30.take i) ds ss) ⟨same_upd hr8, [], upd_same, rfl, (fun i a d h1 h2 => by cases h1)⟩ (fun i H' _ z => .of (z.1 _ _ hll8)) ?_ ?_⟩
    · rintro i v H9 hi ⟨s9, rs, h9, g9⟩
      obtain ⟨d, hd, rfl⟩ := get_int hi
      have hlt : i < 30 := (List.getElem?_eq_some_iff.mp hd).1
      have ed : d = 1 + (i : Int) := by
        have : all30[i]? = some ((1 : Int) + (i : Int)) := by
          show (List.map _ (List.range 30))[i]? = _
          rw [List.getElem?_map, List.getElem?_range hlt]
          rfl
        rw [this] at hd
        exact (Option.some.inj hd).symm
      have R9 := R8.same s9
      refine ⟨rfl, lc_keep ?_⟩
      refine ⟨_, rfl, p, dp, _, rfl, R9.ob, rfl, _, rfl, _, rfl, p, dp, td, ts, ds, ss, (r : Int), d, rfl, R9, by omega, by omega, by omega, by omega, fun H10 p3 dx3 td3 ts3 s10 R10 => ?_⟩
      have lrs : rs.length ≤ 30 := by rw [g9.1]; exact Nat.le_trans (List.length_take_le _ _) (by omega)
      have h10 := s10 _ _ h9
      have nd1 : ∀ c z, H10 c = some z → (∀ xs, z ≠ .lst xs) → (upd H10 r8 (.lst (rs.map V.ref ++ [V.ref p3]))) c = some z := fun c z e n => (upd_ne fun q => by
        rw [q, h10] at e
        exact n _ (Option.some.inj e).symm).trans e
      refine ⟨rs.map V.ref, h10, by rw [List.length_map]; exact small1000 (by omega), ?_, rs ++ [p3], by rw [upd_same, ref_snoc], ?_⟩
      · exact fun c z e => by
          rw [upd_ne (ne_of_none e hr8)]
          exact s10 _ _ (s9 c z e)
      · rw [List.take_add_one, hd, Option.toList_some]
        have R10' : RingAt T.C H10 p3 dx3 td3 ts3 (ds.set r d) ss := by
          rw [show ((r : Nat) : Int).toNat = r by omega] at R10
          exact R10
        exact rgs_next ((g9.same s10).mono fun c dx2 td2 ts2 es R2 => ⟨nd1 _ _ R2.ob (fun _ z => by cases z), nd1 _ _ R2.td (fun _ z => by cases z), nd1 _ _ R2.ts (fun _ z => by cases z), R2.ok⟩) (by omega) (by omega) (dx := dx3) (td := td3) (ts := ts3) ⟨nd1 _ _ R10'.ob (fun _ z => by cases z), nd1 _ _ R10'.td (fun _ z => by cases z), nd1 _ _ R10'.ts (fun _ z => by cases z), R10'.ok⟩
    rintro H9 ⟨s9, rs, h9, g9⟩
    rw [List.length_map, List.take_length] at g9
    have nes0 : ∀ n : Nat, n ≤ ([] : List Ov).length → after ds ss r all30 (([] : List Ov).take n) ≠ [] := fun n hn => by
      have e0 : n = 0 := Nat.le_zero.mp hn
      subst e0
      exact B5.ne
    have n8 : r8 ≠ ol := fun z => by rw [z, B8.ho] at hr8; cases hr8
    have b9 : LB K T.C T.dC [(PT, (XL P w K mg base T.a_law (.ref cT) A outer s H E).env.qual ++ "<lambda>")] H9 ⟨a, row, t0, td, ts, p, dp, o, dx, rl, ol, ll, sl, r8, ns, ds, ss, all30, r, ra, rs, [], [], [], []⟩ := ⟨RA8.same s9, tb8.ext s9, R8.same s9, s9 _ _ ht8, B8.same s9, s9 _ _ hll8, s9 _ _ hsl8, ⟨rfl, (fun i y v h1 h2 => by cases h1)⟩, ⟨rfl, (fun i y v h1 h2 => by cases h1)⟩, h9, g9, rfl, (fun v hv => by cases hv), nes0, nrow, nll, nsl, n8, na, sa⟩
    generalize eq0 : (⟨a, row, t0, td, ts, p, dp, o, dx, rl, ol, ll, sl, r8, ns, ds, ss, all30, r, ra, rs, [], [], [], []⟩ : Lp) = q0 at b9
    have lrs : rs.length = 30 := g9.1
    refine ⟨_, rfl, _, rfl, row, a, ns, 30, rfl, RA8.same s9, by decide, by decide, fun tv H10 t00 t01 RA10 k10 => ?_⟩
    have b10 : LB K T.C T.dC [(PT, (XL P w K mg base T.a_law (.ref cT) A outer s H E).env.qual ++ "<lambda>")] H10 q0 := b9.kp (by subst eq0; exact k10) (by subst eq0; exact RA10)
    obtain ⟨j0, rfl⟩ : ∃ n : Nat, tv = (n : Int) := ⟨tv.toNat, by omega⟩
    have hj0 : j0 < rs.length := by omega
    have h810 : H10 r8 = some (.lst (rs.map V.ref)) := by
      have := b10.h8
      subst eq0
      exact this
    refine ⟨r8, _, (j0 : Int), .ref (rs[j0]), rfl, rfl, .of h810, atI_nat (j := j0) (by rw [List.getElem?_map, List.getElem?_eq_getElem hj0]; rfl), ?_⟩
    have htr : q0.rs8[j0]? = some (rs[j0]) := by subst eq0; exact List.getElem?_eq_getElem hj0
    generalize rs[j0] = tr at htr ⊢
    refine ⟨_, rfl, row, a, ns, 6, rfl, by subst eq0; exact b10.RA, by decide, by decide, fun tn H11 t0' t1' RA11 k11 => ⟨_, _, rfl, rfl, _, rfl, by omega, by omega, ?_⟩⟩
    have b11 : LB K T.C T.dC [(PT, (XL P w K mg base T.a_law (.ref cT) A outer s H E).env.qual ++ "<lambda>")] H11 q0 := b10.kp (by subst eq0; exact k11) (by subst eq0; exact RA11)
    have st0 : ([some (.ref a), some (.ref row), some (.ref t0), some (.ref p), some (.int (r : Int)), some (.ref o), some (.ref ll), some (.ref sl), some (.ref r8), some (.ref tr), none, none, none, none, none, none, none, none, none, none, none, none, none, none] : L2.St) = sg q0 (some (.ref tr)) none none none none none none none none none none none none none none := by subst eq0; rfl
    have vo0 : q0.vo = q0.ovs ∧ q0.ovs.length = 0 := by subst eq0; exact ⟨rfl, rfl⟩
    refine for_range (lo := 0) (n := ((1 : Int) + tn).toNat) (fun i σ H' => ∃ (q : Lp) (y10 y11 y12 y13 y14 y15 y16 y17 y18 y19 y20 y21 y22 y23 : Option V), σ = sg q (some (.ref tr)) y10 y11 y12 y13 y14 y15 y16 y17 y18 y19 y20 y21 y22 y23 ∧ LB K T.C T.dC [(PT, (XL P w K mg base T.a_law (.ref cT) A outer s H E).env.qual ++ "<lambda>")] H' q ∧ q.vo = q.ovs ∧ q.ovs.length ≤ i ∧ q.rs8[j0]? = some tr)
      ⟨q0, none, none, none, none, none, none, none, none, none, none, none, none, none, none, st0, b11, vo0.1, Nat.le_of_eq vo0.2, htr⟩ ?_ ?_
    · rintro i σ H2 hi ⟨q, y10, y11, y12, y13, y14, y15, y16, y17, y18, y19, y20, y21, y22, y23, rfl, b, vo, lo', htr⟩
      have hi6 : i < 6 := by omega
      show tSeq _ _ _ (sg q (some (.ref tr)) (some (.int (0 + (i : Int)))) y11 y12 y13 y14 y15 y16 y17 y18 y19 y20 y21 y22 y23) H2
      refine v0 _ H2 q _ _ _ _ _ _ _ _ _ _ _ _ _ _ _ b fun H3 k x b k0 k1 x0 x1 => ?_
      obtain ⟨d, hd⟩ : ∃ d, all30[j0]? = some d := ⟨_, List.getElem?_eq_getElem (by show j0 < (List.map _ (List.range 30)).length; rw [List.length_map, List.length_range]; omega)⟩
      obtain ⟨d1, d2, dxx, tdx, tsx, Rx⟩ := b.g8.2 j0 tr d htr hd
      refine v1 _ H3 q k x tr d _ _ _ _ _ _ _ _ _ _ _ _ b k0 k1 x0 x1 d1 d2 ⟨dxx, tdx, tsx, Rx⟩ fun H4 e b e1 e2 => ?_
      refine v2 _ H4 q k x e _ _ _ _ _ _ _ _ _ _ _ _ b fun H5 ie b => ?_
      refine v3 _ H5 q k x e ie _ _ _ _ _ _ _ _ _ _ _ b e1 e2 fun H6 day b y0 y1 => ?_
      refine v4 _ H6 q k x e ie day _ _ _ _ _ _ _ _ _ _ b fun H7 gl b hg n1 n2 n3 n4 n5 n6 n7 => ?_
      refine v5 _ H7 q k x e ie day gl _ _ _ _ _ _ _ _ _ b k0 k1 x0 x1 hg n1 n2 n3 n4 n5 n6 n7 fun H8 y17 y18 b hg => ?_
      refine v6 _ H8 q k x e ie day gl _ _ _ _ _ _ _ _ _ _ b hg fun H9 fw b hg hw => ?_
      have fsv : q.sv.length < 20 := by rw [b.vs.1, vo]; omega
      have losn : q.os.length < 500 := by rw [b.eo.1]; omega
      refine v7 _ H9 q k x e ie day gl fw _ _ _ _ _ _ _ _ b k0 k1 x0 x1 y0 y1 losn hg n5 hw ⟨fun ne H' nl t rb b => ?_, fun en H' t b hg ht => ?_⟩
      · refine v8 _ H' (q.put nl t gl rb (q.lf.filter (agr q.ds q.ss q.r ie k x day)) ⟨ie, k, x, day⟩) k x e ie day gl _ .non (some (.ref q.ll)) _ _ _ _ _ _ _ _ b b.hl (.inl ⟨rfl, ne⟩) fun H8' s8' => ?_
        refine v9 _ H8' (q.put nl t gl rb (q.lf.filter (agr q.ds q.ss q.r ie k x day)) ⟨ie, k, x, day⟩) k x e ie day gl .non (some (.ref q.ll)) _ _ _ _ _ _ _ _ (b.same s8') fsv (.inr rfl) (fun h => absurd rfl h) (fun _ H9' t' b => ?_)
        have vo2 : q.vo ++ [(⟨ie, k, x, day⟩ : Ov)] = q.ovs ++ [⟨ie, k, x, day⟩] := by rw [vo]
        have ln2 : (q.ovs ++ [(⟨ie, k, x, day⟩ : Ov)]).length ≤ i + 1 := by rw [List.length_append]; show _ + 1 ≤ _; omega
        refine v10 _ H9' { (q.put nl t gl rb (q.lf.filter (agr q.ds q.ss q.r ie k x day)) ⟨ie, k, x, day⟩) with sv := q.sv ++ [.ref t'], vo := q.vo ++ [⟨ie, k, x, day⟩] } _ _ _ _ _ _ _ _ _ _ _ _ _ _ _ b vo2 fun H10 b => ?_
        refine v11 _ H10 { (q.put nl t gl rb (q.lf.filter (agr q.ds q.ss q.r ie k x day)) ⟨ie, k, x, day⟩) with sv := q.sv ++ [.ref t'], vo := q.vo ++ [⟨ie, k, x, day⟩] } k x _ _ _ _ _ _ _ _ _ _ _ _ _ b k0 k1 fun H11 el b he => ?_
        obtain ⟨es, he1, he2, he3⟩ := he
        refine v12 _ H11 { (q.put nl t gl rb (q.lf.filter (agr q.ds q.ss q.r ie k x day)) ⟨ie, k, x, day⟩) with sv := q.sv ++ [.ref t'], vo := q.vo ++ [⟨ie, k, x, day⟩] } k x _ _ _ _ _ _ _ _ _ _ _ _ _ b k0 k1 x0 x1 fun H12 s12 b => ?_
        refine v13 _ H12 { (q.put nl t gl rb (q.lf.filter (agr q.ds q.ss q.r ie k x day)) ⟨ie, k, x, day⟩) with sv := q.sv ++ [.ref t'], vo := q.vo ++ [⟨ie, k, x, day⟩] } k el _ _ _ _ _ _ _ _ _ _ _ _ _ b ⟨es, s12 _ _ he1, he2, fun j c h => s12 _ _ (he3 j c h)⟩ fun H13 tg b ht => ?_
        refine v14 _ H13 { (q.put nl t gl rb (q.lf.filter (agr q.ds q.ss q.r ie k x day)) ⟨ie, k, x, day⟩) with sv := q.sv ++ [.ref t'], vo := q.vo ++ [⟨ie, k, x, day⟩] } k tg _ _ _ _ _ _ _ _ _ _ _ _ _ b k0 k1 ht fun H14 b => ?_
        exact ⟨{ (q.put nl t gl rb (q.lf.filter (agr q.ds q.ss q.r ie k x day)) ⟨ie, k, x, day⟩) with sv := q.sv ++ [.ref t'], vo := q.vo ++ [⟨ie, k, x, day⟩] }, _, _, _, _, _, _, _, _, _, _, _, _, _, _, rfl, b, vo2, ln2, htr⟩
      · refine v8 _ H' q k x e ie day gl [] (.ref t) (some (.ref q.ll)) _ _ _ _ _ _ _ _ b hg (.inr ⟨t, rfl, ht, rfl⟩) fun H8' s8' => ?_
        refine v9 _ H8' q k x e ie day gl (.ref t) (some (.ref q.ll)) _ _ _ _ _ _ _ _ (b.same s8') fsv (.inl ⟨t, rfl⟩) (fun _ => ?_) (fun h => nomatch h)
        refine v10 _ H8' q _ _ _ _ _ _ _ _ _ _ _ _ _ _ _ (b.same s8') vo fun H10 b => ?_
        refine v11 _ H10 q k x _ _ _ _ _ _ _ _ _ _ _ _ _ b k0 k1 fun H11 el b he => ?_
        obtain ⟨es, he1, he2, he3⟩ := he
        refine v12 _ H11 q k x _ _ _ _ _ _ _ _ _ _ _ _ _ b k0 k1 x0 x1 fun H12 s12 b => ?_
        refine v13 _ H12 q k el _ _ _ _ _ _ _ _ _ _ _ _ _ b ⟨es, s12 _ _ he1, he2, fun j c h => s12 _ _ (he3 j c h)⟩ fun H13 tg b ht => ?_
        refine v14 _ H13 q k tg _ _ _ _ _ _ _ _ _ _ _ _ _ b k0 k1 ht fun H14 b => ?_
        exact ⟨q, _, _, _, _, _, _, _, _, _, _, _, _, _, _, rfl, b, vo, (Nat.le_succ_of_le lo'), htr⟩
    · rintro σ H2 ⟨q, y10, y11, y12, y13, y14, y15, y16, y17, y18, y19, y20, y21, y22, y23, rfl, b, vo, lo', htr⟩
      have ho6 : q.ovs.length ≤ 400 := by omega
      refine ⟨rfl, _, rfl, _, rfl, _, rfl, q.p, q.dp, q.td, q.ts, q.sl, q.ds, q.ss, q.r, q.sv, q.vo, rfl, b.R, b.B.rlt, b.hs, ?_, b.vs, ?_, ?_, fun H3 o dx rl ol ra os' s3 B' => ?_⟩
      · rw [b.vs.1, vo]; exact ho6
      · rw [vo]; exact b.okv
      · rw [vo]; exact b.nes
      · rw [vo, ← b.lfe] at B'
        refine ⟨o, dx, _, rfl, B'.ob, o, dx, rl, ol, q.r, ra, q.lf, q.ds, q.ss, os', rfl, B', fun H4 l s4 hl => ⟨_, rfl, lst_eq (as := q.lf) (bs := q.lf) (.of hl) (.of (s4 _ _ (s3 _ _ b.hl))) ?_⟩⟩
        rw [decide_eq_true rfl]
        exact qq _
end
end Rp
namespace Rp
open PySem PySem.Spec PyProof.Rows L2 Rz Rm Rt Rl LamX
theorem all_mk {l : PySem.W.OpenLaw} {w : World} {K : PySem.W.Frag} {h : Heap} {mg : Str → Option Value} {fa C dC : Addr} (X : K.In h) (G : h.Ns mainGlobals mg) (hfa : mg "law" = some (.ref fa))
    {f_is_number : Addr} {od_is_number an_is_number : Option Addr} {sl_is_number : Array (Option Value)} {oc_is_number kV_is_number dc_is_number pm_is_number cd_is_number ct_is_number : Value}
    {f_lies_between : Addr} {od_lies_between an_lies_between : Option Addr} {sl_lies_between : Array (Option Value)} {oc_lies_between kV_lies_between dc_lies_between pm_lies_between cd_lies_between ct_lies_between : Value}
    {f_check_number : Addr} {od_check_number an_check_number : Option Addr} {sl_check_number : Array (Option Value)} {oc_check_number kV_check_number dc_check_number pm_check_number cd_check_number ct_check_number : Value}
    {f_check_reader : Addr} {od_check_reader an_check_reader : Option Addr} {sl_check_reader : Array (Option Value)} {oc_check_reader kV_check_reader dc_check_reader pm_check_reader cd_check_reader ct_check_reader : Value}
    {f_rinit : Addr} {od_rinit an_rinit : Option Addr} {sl_rinit : Array (Option Value)} {oc_rinit kV_rinit dc_rinit pm_rinit cd_rinit ct_rinit : Value}
    {f_rdays : Addr} {od_rdays an_rdays : Option Addr} {sl_rdays : Array (Option Value)} {oc_rdays kV_rdays dc_rdays pm_rdays cd_rdays ct_rdays : Value}
    {pp_rdays : Addr} {re_rdays : List Value}
    {f_rstarts : Addr} {od_rstarts an_rstarts : Option Addr} {sl_rstarts : Array (Option Value)} {oc_rstarts kV_rstarts dc_rstarts pm_rstarts cd_rstarts ct_rstarts : Value}
    {pp_rstarts : Addr} {re_rstarts : List Value}
    {f_rbooks : Addr} {od_rbooks an_rbooks : Option Addr} {sl_rbooks : Array (Option Value)} {oc_rbooks kV_rbooks dc_rbooks pm_rbooks cd_rbooks ct_rbooks : Value}
    {pp_rbooks : Addr} {re_rbooks : List Value}
    {f_rpace : Addr} {od_rpace an_rpace : Option Addr} {sl_rpace : Array (Option Value)} {oc_rpace kV_rpace dc_rpace pm_rpace cd_rpace ct_rpace : Value}
    {pp_rpace : Addr} {re_rpace : List Value}
    {f_rwith_days : Addr} {od_rwith_days an_rwith_days : Option Addr} {sl_rwith_days : Array (Option Value)} {oc_rwith_days kV_rwith_days dc_rwith_days pm_rwith_days cd_rwith_days ct_rwith_days : Value}
    {f_rlen : Addr} {od_rlen an_rlen : Option Addr} {sl_rlen : Array (Option Value)} {oc_rlen kV_rlen dc_rlen pm_rlen cd_rlen ct_rlen : Value}
    {f_rcall : Addr} {od_rcall an_rcall : Option Addr} {sl_rcall : Array (Option Value)} {oc_rcall kV_rcall dc_rcall pm_rcall cd_rcall ct_rcall : Value}
    {f_check_part : Addr} {od_check_part an_check_part : Option Addr} {sl_check_part : Array (Option Value)} {oc_check_part kV_check_part dc_check_part pm_check_part cd_check_part ct_check_part : Value}
    {f_end_day : Addr} {od_end_day an_end_day : Option Addr} {sl_end_day : Array (Option Value)} {oc_end_day kV_end_day dc_end_day pm_end_day cd_end_day ct_end_day : Value}
    {f_is_same_number : Addr} {od_is_same_number an_is_same_number : Option Addr} {sl_is_same_number : Array (Option Value)} {oc_is_same_number kV_is_same_number dc_is_same_number pm_is_same_number cd_is_same_number ct_is_same_number : Value}
    {f_dinit : Addr} {od_dinit an_dinit : Option Addr} {sl_dinit : Array (Option Value)} {oc_dinit kV_dinit dc_dinit pm_dinit cd_dinit ct_dinit : Value}
    {f_dfrom_log : Addr} {od_dfrom_log an_dfrom_log : Option Addr} {sl_dfrom_log : Array (Option Value)} {oc_dfrom_log kV_dfrom_log dc_dfrom_log pm_dfrom_log cd_dfrom_log ct_dfrom_log : Value}
    {p_dfl : Addr} {rest_dfl : List Value}
    {f_dpossible_days : Addr} {od_dpossible_days an_dpossible_days : Option Addr} {sl_dpossible_days : Array (Option Value)} {oc_dpossible_days kV_dpossible_days dc_dpossible_days pm_dpossible_days cd_dpossible_days ct_dpossible_days : Value}
    {pp_dpossible_days : Addr} {re_dpossible_days : List Value}
    {f_dobservations : Addr} {od_dobservations an_dobservations : Option Addr} {sl_dobservations : Array (Option Value)} {oc_dobservations kV_dobservations dc_dobservations pm_dobservations cd_dobservations ct_dobservations : Value}
    {pp_dobservations : Addr} {re_dobservations : List Value}
    {f_dsee_end : Addr} {od_dsee_end an_dsee_end : Option Addr} {sl_dsee_end : Array (Option Value)} {oc_dsee_end kV_dsee_end dc_dsee_end pm_dsee_end cd_dsee_end ct_dsee_end : Value}
    {f_dsee_open : Addr} {od_dsee_open an_dsee_open : Option Addr} {sl_dsee_open : Array (Option Value)} {oc_dsee_open kV_dsee_open dc_dsee_open pm_dsee_open cd_dsee_open ct_dsee_open : Value}
    {f_dpossible_ends : Addr} {od_dpossible_ends an_dpossible_ends : Option Addr} {sl_dpossible_ends : Array (Option Value)} {oc_dpossible_ends kV_dpossible_ends dc_dpossible_ends pm_dpossible_ends cd_dpossible_ends ct_dpossible_ends : Value}
    {f_dtelling_number : Addr} {od_dtelling_number an_dtelling_number : Option Addr} {sl_dtelling_number : Array (Option Value)} {oc_dtelling_number kV_dtelling_number dc_dtelling_number pm_dtelling_number cd_dtelling_number ct_dtelling_number : Value}
    {f_dcheck_reading : Addr} {od_dcheck_reading an_dcheck_reading : Option Addr} {sl_dcheck_reading : Array (Option Value)} {oc_dcheck_reading kV_dcheck_reading dc_dcheck_reading pm_dcheck_reading cd_dcheck_reading ct_dcheck_reading : Value}
    {f_daccept : Addr} {od_daccept an_daccept : Option Addr} {sl_daccept : Array (Option Value)} {oc_daccept kV_daccept dc_daccept pm_daccept cd_daccept ct_daccept : Value}
    {f_ltaken : Addr} {od_ltaken an_ltaken : Option Addr} {sl_ltaken : Array (Option Value)} {oc_ltaken kV_ltaken dc_ltaken pm_ltaken cd_ltaken ct_ltaken : Value}
    {f_lparts : Addr} {od_lparts an_lparts : Option Addr} {sl_lparts : Array (Option Value)} {oc_lparts kV_lparts dc_lparts pm_lparts cd_lparts ct_lparts : Value}
    {f_lraised : Addr} {od_lraised an_lraised : Option Addr} {sl_lraised : Array (Option Value)} {oc_lraised kV_lraised dc_lraised pm_lraised cd_lraised ct_lraised : Value}
    {f_law : Addr} {od_law an_law : Option Addr} {sl_law : Array (Option Value)} {oc_law kV_law dc_law pm_law cd_law ct_law : Value}
    {t_LATEST : Tok}
    {t_MOST_LIMIT : Tok}
    {t_FEWEST_READERS : Tok}
    {t_MOST_READERS : Tok}
    {t_MOST_DAYS : Tok}
    {t_MOST_BOOKS : Tok}
    (aC : PySem.W.nsIn K mainGlobals "Ring" = some (some (.ref C)))
    (aD : PySem.W.nsIn K mainGlobals "DaysObserver" = some (some (.ref dC)))
    (x_is_number : PySem.W.nsIn K mainGlobals "is_number" = some (some (.ref f_is_number)))
    (l_is_number : K.lookup f_is_number = some ⟨oc_is_number, od_is_number, .func (PySem.W.fnOf "is_number" "is_number" (defArgs s_is_number) (defBody s_is_number) (defScope s_is_number) .none kV_is_number dc_is_number pm_is_number an_is_number cd_is_number ct_is_number), sl_is_number⟩)
    (c_is_number : PySem.W.codeIn K cd_is_number "is_number" = true)
    (k_is_number : PySem.W.keepIn K (.ref f_is_number) = true)
    (x_lies_between : PySem.W.nsIn K mainGlobals "lies_between" = some (some (.ref f_lies_between)))
    (l_lies_between : K.lookup f_lies_between = some ⟨oc_lies_between, od_lies_between, .func (PySem.W.fnOf "lies_between" "lies_between" (defArgs s_lies_between) (defBody s_lies_between) (defScope s_lies_between) .none kV_lies_between dc_lies_between pm_lies_between an_lies_between cd_lies_between ct_lies_between), sl_lies_between⟩)
    (c_lies_between : PySem.W.codeIn K cd_lies_between "lies_between" = true)
    (k_lies_between : PySem.W.keepIn K (.ref f_lies_between) = true)
    (x_check_number : PySem.W.nsIn K mainGlobals "check_number" = some (some (.ref f_check_number)))
    (l_check_number : K.lookup f_check_number = some ⟨oc_check_number, od_check_number, .func (PySem.W.fnOf "check_number" "check_number" (defArgs s_check_number) (defBody s_check_number) (defScope s_check_number) .none kV_check_number dc_check_number pm_check_number an_check_number cd_check_number ct_check_number), sl_check_number⟩)
    (c_check_number : PySem.W.codeIn K cd_check_number "check_number" = true)
    (k_check_number : PySem.W.keepIn K (.ref f_check_number) = true)
    (x_check_reader : PySem.W.nsIn K mainGlobals "check_reader" = some (some (.ref f_check_reader)))
    (l_check_reader : K.lookup f_check_reader = some ⟨oc_check_reader, od_check_reader, .func (PySem.W.fnOf "check_reader" "check_reader" (defArgs s_check_reader) (defBody s_check_reader) (defScope s_check_reader) .none kV_check_reader dc_check_reader pm_check_reader an_check_reader cd_check_reader ct_check_reader), sl_check_reader⟩)
    (c_check_reader : PySem.W.codeIn K cd_check_reader "check_reader" = true)
    (k_check_reader : PySem.W.keepIn K (.ref f_check_reader) = true)
    (x_rinit : PySem.W.findIn K (.ref C) "__init__" = some (some (.ref f_rinit)))
    (i_rinit : PySem.W.isFn K (.ref f_rinit) = true)
    (l_rinit : K.lookup f_rinit = some ⟨oc_rinit, od_rinit, .func (PySem.W.fnOf "__init__" "Ring.__init__" (defArgs s_rinit) (defBody s_rinit) (defScope s_rinit) .none kV_rinit dc_rinit pm_rinit an_rinit cd_rinit ct_rinit), sl_rinit⟩)
    (c_rinit : PySem.W.codeIn K cd_rinit "Ring.__init__" = true)
    (k_rinit : PySem.W.keepIn K (.ref f_rinit) = true)
    (pa_rdays : PySem.W.findIn K (.ref C) "days" = some (some (.ref pp_rdays)))
    (pg_rdays : PySem.W.specialIn K (.ref pp_rdays) "__get__" = some (some (.builtin "property.__get__")))
    (pt_rdays : PySem.W.takesIn K (.ref pp_rdays) = some true)
    (pr_rdays : PySem.W.recIn K pp_rdays "property" = some (.ref f_rdays :: re_rdays))
    (l_rdays : K.lookup f_rdays = some ⟨oc_rdays, od_rdays, .func (PySem.W.fnOf "days" "Ring.days" (defArgs s_rdays) (defBody s_rdays) (defScope s_rdays) .none kV_rdays dc_rdays pm_rdays an_rdays cd_rdays ct_rdays), sl_rdays⟩)
    (c_rdays : PySem.W.codeIn K cd_rdays "Ring.days" = true)
    (k_rdays : PySem.W.keepIn K (.ref f_rdays) = true)
    (pa_rstarts : PySem.W.findIn K (.ref C) "starts" = some (some (.ref pp_rstarts)))
    (pg_rstarts : PySem.W.specialIn K (.ref pp_rstarts) "__get__" = some (some (.builtin "property.__get__")))
    (pt_rstarts : PySem.W.takesIn K (.ref pp_rstarts) = some true)
    (pr_rstarts : PySem.W.recIn K pp_rstarts "property" = some (.ref f_rstarts :: re_rstarts))
    (l_rstarts : K.lookup f_rstarts = some ⟨oc_rstarts, od_rstarts, .func (PySem.W.fnOf "starts" "Ring.starts" (defArgs s_rstarts) (defBody s_rstarts) (defScope s_rstarts) .none kV_rstarts dc_rstarts pm_rstarts an_rstarts cd_rstarts ct_rstarts), sl_rstarts⟩)
    (c_rstarts : PySem.W.codeIn K cd_rstarts "Ring.starts" = true)
    (k_rstarts : PySem.W.keepIn K (.ref f_rstarts) = true)
    (pa_rbooks : PySem.W.findIn K (.ref C) "books" = some (some (.ref pp_rbooks)))
    (pg_rbooks : PySem.W.specialIn K (.ref pp_rbooks) "__get__" = some (some (.builtin "property.__get__")))
    (pt_rbooks : PySem.W.takesIn K (.ref pp_rbooks) = some true)
    (pr_rbooks : PySem.W.recIn K pp_rbooks "property" = some (.ref f_rbooks :: re_rbooks))
    (l_rbooks : K.lookup f_rbooks = some ⟨oc_rbooks, od_rbooks, .func (PySem.W.fnOf "books" "Ring.books" (defArgs s_rbooks) (defBody s_rbooks) (defScope s_rbooks) .none kV_rbooks dc_rbooks pm_rbooks an_rbooks cd_rbooks ct_rbooks), sl_rbooks⟩)
    (c_rbooks : PySem.W.codeIn K cd_rbooks "Ring.books" = true)
    (k_rbooks : PySem.W.keepIn K (.ref f_rbooks) = true)
    (pa_rpace : PySem.W.findIn K (.ref C) "pace" = some (some (.ref pp_rpace)))
    (pg_rpace : PySem.W.specialIn K (.ref pp_rpace) "__get__" = some (some (.builtin "property.__get__")))
    (pt_rpace : PySem.W.takesIn K (.ref pp_rpace) = some true)
    (pr_rpace : PySem.W.recIn K pp_rpace "property" = some (.ref f_rpace :: re_rpace))
    (l_rpace : K.lookup f_rpace = some ⟨oc_rpace, od_rpace, .func (PySem.W.fnOf "pace" "Ring.pace" (defArgs s_rpace) (defBody s_rpace) (defScope s_rpace) .none kV_rpace dc_rpace pm_rpace an_rpace cd_rpace ct_rpace), sl_rpace⟩)
    (c_rpace : PySem.W.codeIn K cd_rpace "Ring.pace" = true)
    (k_rpace : PySem.W.keepIn K (.ref f_rpace) = true)
    (x_rwith_days : PySem.W.findIn K (.ref C) "with_days" = some (some (.ref f_rwith_days)))
    (i_rwith_days : PySem.W.isFn K (.ref f_rwith_days) = true)
    (l_rwith_days : K.lookup f_rwith_days = some ⟨oc_rwith_days, od_rwith_days, .func (PySem.W.fnOf "with_days" "Ring.with_days" (defArgs s_rwith_days) (defBody s_rwith_days) (defScope s_rwith_days) .none kV_rwith_days dc_rwith_days pm_rwith_days an_rwith_days cd_rwith_days ct_rwith_days), sl_rwith_days⟩)
    (c_rwith_days : PySem.W.codeIn K cd_rwith_days "Ring.with_days" = true)
    (k_rwith_days : PySem.W.keepIn K (.ref f_rwith_days) = true)
    (x_rlen : PySem.W.findIn K (.ref C) "__len__" = some (some (.ref f_rlen)))
    (i_rlen : PySem.W.isFn K (.ref f_rlen) = true)
    (l_rlen : K.lookup f_rlen = some ⟨oc_rlen, od_rlen, .func (PySem.W.fnOf "__len__" "Ring.__len__" (defArgs s_rlen) (defBody s_rlen) (defScope s_rlen) .none kV_rlen dc_rlen pm_rlen an_rlen cd_rlen ct_rlen), sl_rlen⟩)
    (c_rlen : PySem.W.codeIn K cd_rlen "Ring.__len__" = true)
    (k_rlen : PySem.W.keepIn K (.ref f_rlen) = true)
    (x_rcall : PySem.W.findIn K (.ref C) "__call__" = some (some (.ref f_rcall)))
    (i_rcall : PySem.W.isFn K (.ref f_rcall) = true)
    (j_rcall : PySem.W.fnIn K f_rcall = true)
    (l_rcall : K.lookup f_rcall = some ⟨oc_rcall, od_rcall, .func (PySem.W.fnOf "__call__" "Ring.__call__" (defArgs s_rcall) (defBody s_rcall) (defScope s_rcall) .none kV_rcall dc_rcall pm_rcall an_rcall cd_rcall ct_rcall), sl_rcall⟩)
    (c_rcall : PySem.W.codeIn K cd_rcall "Ring.__call__" = true)
    (k_rcall : PySem.W.keepIn K (.ref f_rcall) = true)
    (x_check_part : PySem.W.nsIn K mainGlobals "check_part" = some (some (.ref f_check_part)))
    (l_check_part : K.lookup f_check_part = some ⟨oc_check_part, od_check_part, .func (PySem.W.fnOf "check_part" "check_part" (defArgs s_check_part) (defBody s_check_part) (defScope s_check_part) .none kV_check_part dc_check_part pm_check_part an_check_part cd_check_part ct_check_part), sl_check_part⟩)
    (c_check_part : PySem.W.codeIn K cd_check_part "check_part" = true)
    (k_check_part : PySem.W.keepIn K (.ref f_check_part) = true)
    (x_end_day : PySem.W.nsIn K mainGlobals "end_day" = some (some (.ref f_end_day)))
    (l_end_day : K.lookup f_end_day = some ⟨oc_end_day, od_end_day, .func (PySem.W.fnOf "end_day" "end_day" (defArgs s_end_day) (defBody s_end_day) (defScope s_end_day) .none kV_end_day dc_end_day pm_end_day an_end_day cd_end_day ct_end_day), sl_end_day⟩)
    (c_end_day : PySem.W.codeIn K cd_end_day "end_day" = true)
    (k_end_day : PySem.W.keepIn K (.ref f_end_day) = true)
    (x_is_same_number : PySem.W.nsIn K mainGlobals "is_same_number" = some (some (.ref f_is_same_number)))
    (l_is_same_number : K.lookup f_is_same_number = some ⟨oc_is_same_number, od_is_same_number, .func (PySem.W.fnOf "is_same_number" "is_same_number" (defArgs s_is_same_number) (defBody s_is_same_number) (defScope s_is_same_number) .none kV_is_same_number dc_is_same_number pm_is_same_number an_is_same_number cd_is_same_number ct_is_same_number), sl_is_same_number⟩)
    (c_is_same_number : PySem.W.codeIn K cd_is_same_number "is_same_number" = true)
    (k_is_same_number : PySem.W.keepIn K (.ref f_is_same_number) = true)
    (x_dinit : PySem.W.findIn K (.ref dC) "__init__" = some (some (.ref f_dinit)))
    (i_dinit : PySem.W.isFn K (.ref f_dinit) = true)
    (l_dinit : K.lookup f_dinit = some ⟨oc_dinit, od_dinit, .func (PySem.W.fnOf "__init__" "DaysObserver.__init__" (defArgs s_dinit) (defBody s_dinit) (defScope s_dinit) .none kV_dinit dc_dinit pm_dinit an_dinit cd_dinit ct_dinit), sl_dinit⟩)
    (c_dinit : PySem.W.codeIn K cd_dinit "DaysObserver.__init__" = true)
    (k_dinit : PySem.W.keepIn K (.ref f_dinit) = true)
    (cm_fl : PySem.W.findCls K (.ref dC) (.type "type") "from_log" = some (.get (.builtin "classmethod.__get__") (.ref p_dfl) .none (.ref dC)))
    (cm_flr : PySem.W.recIn K p_dfl "classmethod" = some (.ref f_dfrom_log :: rest_dfl))
    (cm_flf : PySem.W.fnIn K f_dfrom_log = true)
    (cr_rdD : PySem.W.readsIn K dC (.type "type") = true)
    (cr_gaD : PySem.W.specialIn K (.ref dC) "__getattribute__" = some (some (.builtin "type.__getattribute__")))
    (l_dfrom_log : K.lookup f_dfrom_log = some ⟨oc_dfrom_log, od_dfrom_log, .func (PySem.W.fnOf "from_log" "DaysObserver.from_log" (defArgs s_dfrom_log) (defBody s_dfrom_log) (defScope s_dfrom_log) .none kV_dfrom_log dc_dfrom_log pm_dfrom_log an_dfrom_log cd_dfrom_log ct_dfrom_log), sl_dfrom_log⟩)
    (c_dfrom_log : PySem.W.codeIn K cd_dfrom_log "DaysObserver.from_log" = true)
    (k_dfrom_log : PySem.W.keepIn K (.ref f_dfrom_log) = true)
    (pa_dpossible_days : PySem.W.findIn K (.ref dC) "possible_days" = some (some (.ref pp_dpossible_days)))
    (pg_dpossible_days : PySem.W.specialIn K (.ref pp_dpossible_days) "__get__" = some (some (.builtin "property.__get__")))
    (pt_dpossible_days : PySem.W.takesIn K (.ref pp_dpossible_days) = some true)
    (pr_dpossible_days : PySem.W.recIn K pp_dpossible_days "property" = some (.ref f_dpossible_days :: re_dpossible_days))
    (l_dpossible_days : K.lookup f_dpossible_days = some ⟨oc_dpossible_days, od_dpossible_days, .func (PySem.W.fnOf "possible_days" "DaysObserver.possible_days" (defArgs s_dpossible_days) (defBody s_dpossible_days) (defScope s_dpossible_days) .none kV_dpossible_days dc_dpossible_days pm_dpossible_days an_dpossible_days cd_dpossible_days ct_dpossible_days), sl_dpossible_days⟩)
    (c_dpossible_days : PySem.W.codeIn K cd_dpossible_days "DaysObserver.possible_days" = true)
    (k_dpossible_days : PySem.W.keepIn K (.ref f_dpossible_days) = true)
    (pa_dobservations : PySem.W.findIn K (.ref dC) "observations" = some (some (.ref pp_dobservations)))
    (pg_dobservations : PySem.W.specialIn K (.ref pp_dobservations) "__get__" = some (some (.builtin "property.__get__")))
    (pt_dobservations : PySem.W.takesIn K (.ref pp_dobservations) = some true)
    (pr_dobservations : PySem.W.recIn K pp_dobservations "property" = some (.ref f_dobservations :: re_dobservations))
    (l_dobservations : K.lookup f_dobservations = some ⟨oc_dobservations, od_dobservations, .func (PySem.W.fnOf "observations" "DaysObserver.observations" (defArgs s_dobservations) (defBody s_dobservations) (defScope s_dobservations) .none kV_dobservations dc_dobservations pm_dobservations an_dobservations cd_dobservations ct_dobservations), sl_dobservations⟩)
    (c_dobservations : PySem.W.codeIn K cd_dobservations "DaysObserver.observations" = true)
    (k_dobservations : PySem.W.keepIn K (.ref f_dobservations) = true)
    (x_dsee_end : PySem.W.findIn K (.ref dC) "see_end" = some (some (.ref f_dsee_end)))
    (bg_dsee_end : PySem.W.specialIn K (.ref f_dsee_end) "__get__" = some (some (.builtin "function.__get__")))
    (bt_dsee_end : PySem.W.takesIn K (.ref f_dsee_end) = some false)
    (bf_dsee_end : PySem.W.fnIn K f_dsee_end = true)
    (i_dsee_end : PySem.W.isFn K (.ref f_dsee_end) = true)
    (l_dsee_end : K.lookup f_dsee_end = some ⟨oc_dsee_end, od_dsee_end, .func (PySem.W.fnOf "see_end" "DaysObserver.see_end" (defArgs s_dsee_end) (defBody s_dsee_end) (defScope s_dsee_end) .none kV_dsee_end dc_dsee_end pm_dsee_end an_dsee_end cd_dsee_end ct_dsee_end), sl_dsee_end⟩)
    (c_dsee_end : PySem.W.codeIn K cd_dsee_end "DaysObserver.see_end" = true)
    (k_dsee_end : PySem.W.keepIn K (.ref f_dsee_end) = true)
    (x_dsee_open : PySem.W.findIn K (.ref dC) "see_open" = some (some (.ref f_dsee_open)))
    (bg_dsee_open : PySem.W.specialIn K (.ref f_dsee_open) "__get__" = some (some (.builtin "function.__get__")))
    (bt_dsee_open : PySem.W.takesIn K (.ref f_dsee_open) = some false)
    (bf_dsee_open : PySem.W.fnIn K f_dsee_open = true)
    (i_dsee_open : PySem.W.isFn K (.ref f_dsee_open) = true)
    (l_dsee_open : K.lookup f_dsee_open = some ⟨oc_dsee_open, od_dsee_open, .func (PySem.W.fnOf "see_open" "DaysObserver.see_open" (defArgs s_dsee_open) (defBody s_dsee_open) (defScope s_dsee_open) .none kV_dsee_open dc_dsee_open pm_dsee_open an_dsee_open cd_dsee_open ct_dsee_open), sl_dsee_open⟩)
    (c_dsee_open : PySem.W.codeIn K cd_dsee_open "DaysObserver.see_open" = true)
    (k_dsee_open : PySem.W.keepIn K (.ref f_dsee_open) = true)
    (x_dpossible_ends : PySem.W.findIn K (.ref dC) "possible_ends" = some (some (.ref f_dpossible_ends)))
    (i_dpossible_ends : PySem.W.isFn K (.ref f_dpossible_ends) = true)
    (l_dpossible_ends : K.lookup f_dpossible_ends = some ⟨oc_dpossible_ends, od_dpossible_ends, .func (PySem.W.fnOf "possible_ends" "DaysObserver.possible_ends" (defArgs s_dpossible_ends) (defBody s_dpossible_ends) (defScope s_dpossible_ends) .none kV_dpossible_ends dc_dpossible_ends pm_dpossible_ends an_dpossible_ends cd_dpossible_ends ct_dpossible_ends), sl_dpossible_ends⟩)
    (c_dpossible_ends : PySem.W.codeIn K cd_dpossible_ends "DaysObserver.possible_ends" = true)
    (k_dpossible_ends : PySem.W.keepIn K (.ref f_dpossible_ends) = true)
    (x_dtelling_number : PySem.W.findIn K (.ref dC) "telling_number" = some (some (.ref f_dtelling_number)))
    (i_dtelling_number : PySem.W.isFn K (.ref f_dtelling_number) = true)
    (l_dtelling_number : K.lookup f_dtelling_number = some ⟨oc_dtelling_number, od_dtelling_number, .func (PySem.W.fnOf "telling_number" "DaysObserver.telling_number" (defArgs s_dtelling_number) (defBody s_dtelling_number) (defScope s_dtelling_number) .none kV_dtelling_number dc_dtelling_number pm_dtelling_number an_dtelling_number cd_dtelling_number ct_dtelling_number), sl_dtelling_number⟩)
    (c_dtelling_number : PySem.W.codeIn K cd_dtelling_number "DaysObserver.telling_number" = true)
    (k_dtelling_number : PySem.W.keepIn K (.ref f_dtelling_number) = true)
    (x_dcheck_reading : PySem.W.findIn K (.ref dC) "_check_reading" = some (some (.ref f_dcheck_reading)))
    (i_dcheck_reading : PySem.W.isFn K (.ref f_dcheck_reading) = true)
    (l_dcheck_reading : K.lookup f_dcheck_reading = some ⟨oc_dcheck_reading, od_dcheck_reading, .func (PySem.W.fnOf "_check_reading" "DaysObserver._check_reading" (defArgs s_dcheck_reading) (defBody s_dcheck_reading) (defScope s_dcheck_reading) .none kV_dcheck_reading dc_dcheck_reading pm_dcheck_reading an_dcheck_reading cd_dcheck_reading ct_dcheck_reading), sl_dcheck_reading⟩)
    (c_dcheck_reading : PySem.W.codeIn K cd_dcheck_reading "DaysObserver._check_reading" = true)
    (k_dcheck_reading : PySem.W.keepIn K (.ref f_dcheck_reading) = true)
    (x_daccept : PySem.W.findIn K (.ref dC) "_accept" = some (some (.ref f_daccept)))
    (i_daccept : PySem.W.isFn K (.ref f_daccept) = true)
    (l_daccept : K.lookup f_daccept = some ⟨oc_daccept, od_daccept, .func (PySem.W.fnOf "_accept" "DaysObserver._accept" (defArgs s_daccept) (defBody s_daccept) (defScope s_daccept) .none kV_daccept dc_daccept pm_daccept an_daccept cd_daccept ct_daccept), sl_daccept⟩)
    (c_daccept : PySem.W.codeIn K cd_daccept "DaysObserver._accept" = true)
    (k_daccept : PySem.W.keepIn K (.ref f_daccept) = true)
    (x_ltaken : PySem.W.nsIn K mainGlobals "_law_taken" = some (some (.ref f_ltaken)))
    (l_ltaken : K.lookup f_ltaken = some ⟨oc_ltaken, od_ltaken, .func (PySem.W.fnOf "_law_taken" "_law_taken" (defArgs s_ltaken) (defBody s_ltaken) (defScope s_ltaken) .none kV_ltaken dc_ltaken pm_ltaken an_ltaken cd_ltaken ct_ltaken), sl_ltaken⟩)
    (c_ltaken : PySem.W.codeIn K cd_ltaken "_law_taken" = true)
    (k_ltaken : PySem.W.keepIn K (.ref f_ltaken) = true)
    (x_lparts : PySem.W.nsIn K mainGlobals "_law_parts" = some (some (.ref f_lparts)))
    (l_lparts : K.lookup f_lparts = some ⟨oc_lparts, od_lparts, .func (PySem.W.fnOf "_law_parts" "_law_parts" (defArgs s_lparts) (defBody s_lparts) (defScope s_lparts) .none kV_lparts dc_lparts pm_lparts an_lparts cd_lparts ct_lparts), sl_lparts⟩)
    (c_lparts : PySem.W.codeIn K cd_lparts "_law_parts" = true)
    (k_lparts : PySem.W.keepIn K (.ref f_lparts) = true)
    (x_lraised : PySem.W.nsIn K mainGlobals "_law_raised" = some (some (.ref f_lraised)))
    (l_lraised : K.lookup f_lraised = some ⟨oc_lraised, od_lraised, .func (PySem.W.fnOf "_law_raised" "_law_raised" (defArgs s_lraised) (defBody s_lraised) (defScope s_lraised) .none kV_lraised dc_lraised pm_lraised an_lraised cd_lraised ct_lraised), sl_lraised⟩)
    (c_lraised : PySem.W.codeIn K cd_lraised "_law_raised" = true)
    (k_lraised : PySem.W.keepIn K (.ref f_lraised) = true)
    (x_law : PySem.W.nsIn K mainGlobals "law" = some (some (.ref f_law)))
    (l_law : K.lookup f_law = some ⟨oc_law, od_law, .func (PySem.W.fnOf "law" "law" (defArgs s_law) (defBody s_law) (defScope s_law) .none kV_law dc_law pm_law an_law cd_law ct_law), sl_law⟩)
    (c_law : PySem.W.codeIn K cd_law "law" = true)
    (k_law : PySem.W.keepIn K (.ref f_law) = true)
    (pgD : PySem.W.plainGet K dC Str.empty = true)
    (hdD : PySem.W.hasDictIn K dC = true)
    (poD : PySem.W.plainOver K dC = true)
    (saD : PySem.W.findIn K (.ref dC) "__setattr__" = some (some (.builtin "object.__setattr__")))
    (mkDD : PySem.W.makesIn K dC = true)
    (kDD : PySem.W.keepIn K (.ref dC) = true)
    (nD1 : PySem.W.findIn K (.ref dC) "_reader" = some none)
    (nD2 : PySem.W.findIn K (.ref dC) "_rings" = some none)
    (nD3 : PySem.W.findIn K (.ref dC) "_observations" = some none)
    (pgC : PySem.W.plainGet K C Str.empty = true)
    (hdC : PySem.W.hasDictIn K C = true)
    (poC : PySem.W.plainOver K C = true)
    (saC : PySem.W.findIn K (.ref C) "__setattr__" = some (some (.builtin "object.__setattr__")))
    (mkC : PySem.W.makesIn K C = true)
    (kC : PySem.W.keepIn K (.ref C) = true)
    (nD : PySem.W.findIn K (.ref C) "_days" = some none)
    (nS : PySem.W.findIn K (.ref C) "_starts" = some none)
    (v_LATEST : PySem.W.nsIn K mainGlobals "LATEST" = some (some (.int 1000000000000000000 t_LATEST)))
    (v_MOST_LIMIT : PySem.W.nsIn K mainGlobals "MOST_LIMIT" = some (some (.int 500 t_MOST_LIMIT)))
    (v_FEWEST_READERS : PySem.W.nsIn K mainGlobals "FEWEST_READERS" = some (some (.int 2 t_FEWEST_READERS)))
    (v_MOST_READERS : PySem.W.nsIn K mainGlobals "MOST_READERS" = some (some (.int 8 t_MOST_READERS)))
    (v_MOST_DAYS : PySem.W.nsIn K mainGlobals "MOST_DAYS" = some (some (.int 30 t_MOST_DAYS)))
    (v_MOST_BOOKS : PySem.W.nsIn K mainGlobals "MOST_BOOKS" = some (some (.int 12 t_MOST_BOOKS)))
    (z_len : PySem.W.nsIn K mainGlobals "len" = some none)
    (z_sum : PySem.W.nsIn K mainGlobals "sum" = some none)
    (z_max : PySem.W.nsIn K mainGlobals "max" = some none)
    (z_min : PySem.W.nsIn K mainGlobals "min" = some none)
    (z_range : PySem.W.nsIn K mainGlobals "range" = some none)
    (z_int : PySem.W.nsIn K mainGlobals "int" = some none)
    (z_bool : PySem.W.nsIn K mainGlobals "bool" = some none)
    (z_isinstance : PySem.W.nsIn K mainGlobals "isinstance" = some none)
    (z_tuple : PySem.W.nsIn K mainGlobals "tuple" = some none)
    (z_enumerate : PySem.W.nsIn K mainGlobals "enumerate" = some none)
    (z_list : PySem.W.nsIn K mainGlobals "list" = some none)
    (z_str : PySem.W.nsIn K mainGlobals "str" = some none)
    (z_sorted : PySem.W.nsIn K mainGlobals "sorted" = some none)
    (z_set : PySem.W.nsIn K mainGlobals "set" = some none)
    (own : LamX.OwnTab K fa h)
    {c_tb P_tb : Addr} {e_tb : Value} {dd_tb : Option Addr} {vs_tb : Array Value} {sl_tb : Array (Option Value)}
    {e0 e1 e2 e3 e4 e5 eE : Addr}
    (tb_c : cd_law = .ref c_tb)
    (tb_l : K.lookup c_tb = some ⟨e_tb, dd_tb, .fields vs_tb, sl_tb⟩)
    (tb_p : vs_tb[11]? = some (.ref P_tb))
    (tb_h : PySem.W.codeHdIn K c_tb P_tb = true)
    (tb_n : K.lookup P_tb = none)
    (x_e0 : PySem.W.nsIn K mainGlobals "BeingRead" = some (some (.ref e0)))
    (x_e1 : PySem.W.nsIn K mainGlobals "InvalidNumber" = some (some (.ref e1)))
    (x_e2 : PySem.W.nsIn K mainGlobals "UnknownBook" = some (some (.ref e2)))
    (x_e3 : PySem.W.nsIn K mainGlobals "Contradiction" = some (some (.ref e3)))
    (x_e4 : PySem.W.nsIn K mainGlobals "InvalidOperation" = some (some (.ref e4)))
    (x_e5 : PySem.W.nsIn K mainGlobals "DiaryError" = some (some (.ref e5)))
    (x_eE : PySem.W.nsIn K mainGlobals "ReadingError" = some (some (.ref eE)))
    (z_VE : PySem.W.nsIn K mainGlobals "ValueError" = some none)
    (xc_n : PySem.W.specialIn K (.builtin "object.__class__") "__get__" = some (some (.builtin "getset_descriptor.__get__")))
    (xc_t : PySem.W.takesIn K (.builtin "object.__class__") = some true)
    (xg3 : PySem.W.findIn K (.ref e3) "__getattribute__" = some (some (.builtin "BaseException.__getattribute__")))
    (xk3 : PySem.W.findIn K (.ref e3) "__getattr__" = some none)
    (xs3 : PySem.W.subIn K (.ref e3) (.type "BaseException") = some true)
    (xd3 : PySem.W.hasDictIn K e3 = true)
    (xa3 : PySem.W.findIn K (.ref e3) "__class__" = some (some (.builtin "object.__class__")))
    (xm3 : PySem.W.mroIn K e3 (.type "object") = some true)
    (xx3 : PySem.W.exmOne K (.ref e3) (.ref eE) = some true)
    (xq3_0 : PySem.W.kitOne K (.ref e3) (.ref e0) = some false)
    (xq3_1 : PySem.W.kitOne K (.ref e3) (.ref e1) = some false)
    (xq3_2 : PySem.W.kitOne K (.ref e3) (.ref e2) = some false)
    (xq3_3 : PySem.W.kitOne K (.ref e3) (.ref e3) = some true)
    (xq3_4 : PySem.W.kitOne K (.ref e3) (.ref e4) = some false)
    (xq3_5 : PySem.W.kitOne K (.ref e3) (.ref e5) = some false)
    (xv3 : PySem.W.kitOne K (.ref e3) (.type "ValueError") = some true)
    (xi3 : PySem.W.excIn K e3 [.type "ValueError", .type "Exception", .type "BaseException", .type "object"] "ValueError.__new__" = true)
    (xt3 : PySem.W.typeIn K (.ref e3) = some (.type "type"))
    (xp3 : PySem.W.keepIn K (.ref e3) = true)
    : LamX.LawAtS l w K CX0 12 63 "_law_script" mg fa h := by
  have e := hfa.symm.trans (PySem.W.mg_of X G x_law)
  cases e
  have F_is_number := fun_mk (st := s_is_number) l_is_number c_is_number k_is_number
  have b_is_number := F_is_number.binds (ps := P_is_number) fun _ _ _ _ _ _ us hl => match us, hl with | [_], _ => rfl
  have F_lies_between := fun_mk (st := s_lies_between) l_lies_between c_lies_between k_lies_between
  have b_lies_between := F_lies_between.binds (ps := P_lies_between) fun _ _ _ _ _ _ us hl => match us, hl with | [_, _, _], _ => rfl
  have F_check_number := fun_mk (st := s_check_number) l_check_number c_check_number k_check_number
  have b_check_number := F_check_number.binds (ps := P_check_number) fun _ _ _ _ _ _ us hl => match us, hl with | [_, _, _], _ => rfl
  have F_check_reader := fun_mk (st := s_check_reader) l_check_reader c_check_reader k_check_reader
  have b_check_reader := F_check_reader.binds (ps := P_check_reader) fun _ _ _ _ _ _ us hl => match us, hl with | [_, _], _ => rfl
  have F_rinit := fun_mk (st := s_rinit) l_rinit c_rinit k_rinit
  have b_rinit := F_rinit.binds (ps := P_rinit) fun _ _ _ _ _ _ us hl => match us, hl with | [_, _, _], _ => rfl
  have F_rdays := fun_mk (st := s_rdays) l_rdays c_rdays k_rdays
  have b_rdays := F_rdays.binds (ps := P_rdays) fun _ _ _ _ _ _ us hl => match us, hl with | [_], _ => rfl
  have F_rstarts := fun_mk (st := s_rstarts) l_rstarts c_rstarts k_rstarts
  have b_rstarts := F_rstarts.binds (ps := P_rstarts) fun _ _ _ _ _ _ us hl => match us, hl with | [_], _ => rfl
  have F_rbooks := fun_mk (st := s_rbooks) l_rbooks c_rbooks k_rbooks
  have b_rbooks := F_rbooks.binds (ps := P_rbooks) fun _ _ _ _ _ _ us hl => match us, hl with | [_], _ => rfl
  have F_rpace := fun_mk (st := s_rpace) l_rpace c_rpace k_rpace
  have b_rpace := F_rpace.binds (ps := P_rpace) fun _ _ _ _ _ _ us hl => match us, hl with | [_], _ => rfl
  have F_rwith_days := fun_mk (st := s_rwith_days) l_rwith_days c_rwith_days k_rwith_days
  have b_rwith_days := F_rwith_days.binds (ps := P_rwith_days) fun _ _ _ _ _ _ us hl => match us, hl with | [_, _, _], _ => rfl
  have F_rlen := fun_mk (st := s_rlen) l_rlen c_rlen k_rlen
  have b_rlen := F_rlen.binds (ps := P_rlen) fun _ _ _ _ _ _ us hl => match us, hl with | [_], _ => rfl
  have F_rcall := fun_mk (st := s_rcall) l_rcall c_rcall k_rcall
  have b_rcall := F_rcall.binds (ps := P_rcall) fun _ _ _ _ _ _ us hl => match us, hl with | [_, _, _], _ => rfl
  have F_check_part := fun_mk (st := s_check_part) l_check_part c_check_part k_check_part
  have b_check_part := F_check_part.binds (ps := P_check_part) fun _ _ _ _ _ _ us hl => match us, hl with | [_, _, _, _], _ => rfl
  have F_end_day := fun_mk (st := s_end_day) l_end_day c_end_day k_end_day
  have b_end_day := F_end_day.binds (ps := P_end_day) fun _ _ _ _ _ _ us hl => match us, hl with | [_, _, _], _ => rfl
  have F_is_same_number := fun_mk (st := s_is_same_number) l_is_same_number c_is_same_number k_is_same_number
  have b_is_same_number := F_is_same_number.binds (ps := P_is_same_number) fun _ _ _ _ _ _ us hl => match us, hl with | [_, _], _ => rfl
  have F_dinit := fun_mk (st := s_dinit) l_dinit c_dinit k_dinit
  have b_dinit := F_dinit.binds (ps := P_dinit) fun _ _ _ _ _ _ us hl => match us, hl with | [_, _, _], _ => rfl
  have F_dfrom_log := fun_mk (st := s_dfrom_log) l_dfrom_log c_dfrom_log k_dfrom_log
  have b_dfrom_log := F_dfrom_log.binds (ps := P_dfrom_log) fun _ _ _ _ _ _ us hl => match us, hl with | [_, _, _, _], _ => rfl
  have F_dpossible_days := fun_mk (st := s_dpossible_days) l_dpossible_days c_dpossible_days k_dpossible_days
  have b_dpossible_days := F_dpossible_days.binds (ps := P_dpossible_days) fun _ _ _ _ _ _ us hl => match us, hl with | [_], _ => rfl
  have F_dobservations := fun_mk (st := s_dobservations) l_dobservations c_dobservations k_dobservations
  have b_dobservations := F_dobservations.binds (ps := P_dobservations) fun _ _ _ _ _ _ us hl => match us, hl with | [_], _ => rfl
  have F_dsee_end := fun_mk (st := s_dsee_end) l_dsee_end c_dsee_end k_dsee_end
  have b_dsee_end := F_dsee_end.binds (ps := P_dsee_end) fun _ _ _ _ _ _ us hl => match us, hl with | [_, _, _, _], _ => rfl
  have F_dsee_open := fun_mk (st := s_dsee_open) l_dsee_open c_dsee_open k_dsee_open
  have b_dsee_open := F_dsee_open.binds (ps := P_dsee_open) fun _ _ _ _ _ _ us hl => match us, hl with | [_, _, _, _], _ => rfl
  have F_dpossible_ends := fun_mk (st := s_dpossible_ends) l_dpossible_ends c_dpossible_ends k_dpossible_ends
  have b_dpossible_ends := F_dpossible_ends.binds (ps := P_dpossible_ends) fun _ _ _ _ _ _ us hl => match us, hl with | [_, _, _], _ => rfl
  have F_dtelling_number := fun_mk (st := s_dtelling_number) l_dtelling_number c_dtelling_number k_dtelling_number
  have b_dtelling_number := F_dtelling_number.binds (ps := P_dtelling_number) fun _ _ _ _ _ _ us hl => match us, hl with | [_, _, _], _ => rfl
  have F_dcheck_reading := fun_mk (st := s_dcheck_reading) l_dcheck_reading c_dcheck_reading k_dcheck_reading
  have b_dcheck_reading := F_dcheck_reading.binds (ps := P_dcheck_reading) fun _ _ _ _ _ _ us hl => match us, hl with | [_, _, _], _ => rfl
  have F_daccept := fun_mk (st := s_daccept) l_daccept c_daccept k_daccept
  have b_daccept := F_daccept.binds (ps := P_daccept) fun _ _ _ _ _ _ us hl => match us, hl with | [_, _, _], _ => rfl
  have F_ltaken := fun_mk (st := s_ltaken) l_ltaken c_ltaken k_ltaken
  have b_ltaken := F_ltaken.binds (ps := P_ltaken) fun _ _ _ _ _ _ us hl => match us, hl with | [_, _], _ => rfl
  have F_lparts := fun_mk (st := s_lparts) l_lparts c_lparts k_lparts
  have b_lparts := F_lparts.binds (ps := P_lparts) fun _ _ _ _ _ _ us hl => match us, hl with | [_, _], _ => rfl
  have F_lraised := fun_mk (st := s_lraised) l_lraised c_lraised k_lraised
  have b_lraised := F_lraised.binds (ps := P_lraised) fun _ _ _ _ _ _ us hl => match us, hl with | [_], _ => rfl
  have F_law := fun_mk (st := s_law) l_law c_law k_law
  have b_law := F_law.binds (ps := P_law) fun _ _ _ _ _ _ us hl => match us, hl with | [_], _ => rfl
  cases tb_c
  refine ⟨PySem.W.fnOf "law" "law" (defArgs s_law) (defBody s_law) (defScope s_law) .none kV_law dc_law pm_law an_law (.ref c_tb) ct_law, [(c_tb, P_tb)], spLawL K P_tb, fun p hp => ?_, fun p hp => ?_, fun p hp => ?_, fun s v => .of_eq rfl, fun H a ns hl hb ht hS => ?_, fun base _ _ hTB => ?_⟩
  · cases List.mem_singleton.mp hp
    exact own _ _ _ _ _ _ _ _ l_law rfl rfl tb_l tb_p
  · cases List.mem_singleton.mp hp
    exact tb_n
  · cases List.mem_singleton.mp hp
    exact PySem.W.codeHd_of_K X tb_h
  · exact ⟨a, ns, rfl, hS, hl, ht _ (List.mem_singleton.mpr rfl), fun _ => rfl⟩
  · exact ok_law (mg := mg) (cT := c_tb) (PT := P_tb)
     {
    C := C,
    a_is_number := f_is_number, d_is_number := _, F_is_number := F_is_number, b_is_number := b_is_number,
    g_is_number := PySem.W.mg_of X G x_is_number,
    a_lies_between := f_lies_between, d_lies_between := _, F_lies_between := F_lies_between, b_lies_between := b_lies_between,
    g_lies_between := PySem.W.mg_of X G x_lies_between,
    a_check_number := f_check_number, d_check_number := _, F_check_number := F_check_number, b_check_number := b_check_number,
    g_check_number := PySem.W.mg_of X G x_check_number,
    a_check_reader := f_check_reader, d_check_reader := _, F_check_reader := F_check_reader, b_check_reader := b_check_reader,
    g_check_reader := PySem.W.mg_of X G x_check_reader,
    a_rinit := f_rinit, d_rinit := _, F_rinit := F_rinit, b_rinit := b_rinit,
    a_rdays := f_rdays, d_rdays := _, F_rdays := F_rdays, b_rdays := b_rdays,
    a_rstarts := f_rstarts, d_rstarts := _, F_rstarts := F_rstarts, b_rstarts := b_rstarts,
    a_rbooks := f_rbooks, d_rbooks := _, F_rbooks := F_rbooks, b_rbooks := b_rbooks,
    a_rpace := f_rpace, d_rpace := _, F_rpace := F_rpace, b_rpace := b_rpace,
    a_rwith_days := f_rwith_days, d_rwith_days := _, F_rwith_days := F_rwith_days, b_rwith_days := b_rwith_days,
    a_rlen := f_rlen, d_rlen := _, F_rlen := F_rlen, b_rlen := b_rlen,
    a_rcall := f_rcall, d_rcall := _, F_rcall := F_rcall, b_rcall := b_rcall,
    a_check_part := f_check_part, d_check_part := _, F_check_part := F_check_part, b_check_part := b_check_part,
    g_check_part := PySem.W.mg_of X G x_check_part,
    a_end_day := f_end_day, d_end_day := _, F_end_day := F_end_day, b_end_day := b_end_day,
    g_end_day := PySem.W.mg_of X G x_end_day,
    a_is_same_number := f_is_same_number, d_is_same_number := _, F_is_same_number := F_is_same_number, b_is_same_number := b_is_same_number,
    g_is_same_number := PySem.W.mg_of X G x_is_same_number,
    a_dinit := f_dinit, d_dinit := _, F_dinit := F_dinit, b_dinit := b_dinit,
    a_dfrom_log := f_dfrom_log, d_dfrom_log := _, F_dfrom_log := F_dfrom_log, b_dfrom_log := b_dfrom_log,
    a_dpossible_days := f_dpossible_days, d_dpossible_days := _, F_dpossible_days := F_dpossible_days, b_dpossible_days := b_dpossible_days,
    a_dobservations := f_dobservations, d_dobservations := _, F_dobservations := F_dobservations, b_dobservations := b_dobservations,
    a_dsee_end := f_dsee_end, d_dsee_end := _, F_dsee_end := F_dsee_end, b_dsee_end := b_dsee_end,
    a_dsee_open := f_dsee_open, d_dsee_open := _, F_dsee_open := F_dsee_open, b_dsee_open := b_dsee_open,
    a_dpossible_ends := f_dpossible_ends, d_dpossible_ends := _, F_dpossible_ends := F_dpossible_ends, b_dpossible_ends := b_dpossible_ends,
    a_dtelling_number := f_dtelling_number, d_dtelling_number := _, F_dtelling_number := F_dtelling_number, b_dtelling_number := b_dtelling_number,
    a_dcheck_reading := f_dcheck_reading, d_dcheck_reading := _, F_dcheck_reading := F_dcheck_reading, b_dcheck_reading := b_dcheck_reading,
    a_daccept := f_daccept, d_daccept := _, F_daccept := F_daccept, b_daccept := b_daccept,
    a_ltaken := f_ltaken, d_ltaken := _, F_ltaken := F_ltaken, b_ltaken := b_ltaken,
    g_ltaken := PySem.W.mg_of X G x_ltaken,
    a_lparts := f_lparts, d_lparts := _, F_lparts := F_lparts, b_lparts := b_lparts,
    g_lparts := PySem.W.mg_of X G x_lparts,
    a_lraised := f_lraised, d_lraised := _, F_lraised := F_lraised, b_lraised := b_lraised,
    g_lraised := PySem.W.mg_of X G x_lraised,
    a_law := _, d_law := _, F_law := F_law, b_law := b_law,
    g_law := PySem.W.mg_of X G x_law,
    dC := dC, clD := ⟨pgD, hdD, poD, saD⟩, nRd := nD1, nRg := nD2, nOb := nD3, mkD := ⟨mkDD, x_dinit, i_dinit, kDD⟩, gD := PySem.W.mg_of X G aD, crdD := ⟨cr_rdD, cr_gaD⟩, p_dfrom_log := p_dfl, cmF := ⟨cm_fl, ⟨_, cm_flr⟩, cm_flf⟩, bEnd := ⟨⟨x_dsee_end, i_dsee_end, k_dsee_end⟩, bg_dsee_end, bt_dsee_end, by decide +kernel, bf_dsee_end⟩, bOpen := ⟨⟨x_dsee_open, i_dsee_open, k_dsee_open⟩, bg_dsee_open, bt_dsee_open, by decide +kernel, bf_dsee_open⟩, mChk := ⟨x_dcheck_reading, i_dcheck_reading, k_dcheck_reading⟩, mAcc := ⟨x_daccept, i_daccept, k_daccept⟩, mPe := ⟨x_dpossible_ends, i_dpossible_ends, k_dpossible_ends⟩, mTn := ⟨x_dtelling_number, i_dtelling_number, k_dtelling_number⟩,
    cl := ⟨pgC, hdC, poC, saC⟩, nD := nD, nS := nS, mkR := ⟨mkC, x_rinit, i_rinit, kC⟩, gC := PySem.W.mg_of X G aC,
    p_rdays := pp_rdays, q_rdays := ⟨pa_rdays, pg_rdays, pt_rdays, ⟨_, pr_rdays⟩⟩,
    p_rstarts := pp_rstarts, q_rstarts := ⟨pa_rstarts, pg_rstarts, pt_rstarts, ⟨_, pr_rstarts⟩⟩,
    p_rbooks := pp_rbooks, q_rbooks := ⟨pa_rbooks, pg_rbooks, pt_rbooks, ⟨_, pr_rbooks⟩⟩,
    p_rpace := pp_rpace, q_rpace := ⟨pa_rpace, pg_rpace, pt_rpace, ⟨_, pr_rpace⟩⟩,
    p_dpossible_days := pp_dpossible_days, q_dpossible_days := ⟨pa_dpossible_days, pg_dpossible_days, pt_dpossible_days, ⟨_, pr_dpossible_days⟩⟩,
    p_dobservations := pp_dobservations, q_dobservations := ⟨pa_dobservations, pg_dobservations, pt_dobservations, ⟨_, pr_dobservations⟩⟩,
    mW := ⟨x_rwith_days, i_rwith_days, k_rwith_days⟩,
    lenC := x_rlen, lenF := i_rlen, callC := ⟨x_rcall, i_rcall, j_rcall⟩,
    c_LATEST := ⟨_, PySem.W.mg_of X G v_LATEST⟩,
    c_MOST_LIMIT := ⟨_, PySem.W.mg_of X G v_MOST_LIMIT⟩,
    c_FEWEST_READERS := ⟨_, PySem.W.mg_of X G v_FEWEST_READERS⟩,
    c_MOST_READERS := ⟨_, PySem.W.mg_of X G v_MOST_READERS⟩,
    c_MOST_DAYS := ⟨_, PySem.W.mg_of X G v_MOST_DAYS⟩,
    c_MOST_BOOKS := ⟨_, PySem.W.mg_of X G v_MOST_BOOKS⟩,
    z_len := PySem.W.mg_none_of X G z_len,
    z_sum := PySem.W.mg_none_of X G z_sum,
    z_max := PySem.W.mg_none_of X G z_max,
    z_min := PySem.W.mg_none_of X G z_min,
    z_range := PySem.W.mg_none_of X G z_range,
    z_int := PySem.W.mg_none_of X G z_int,
    z_bool := PySem.W.mg_none_of X G z_bool,
    z_isinstance := PySem.W.mg_none_of X G z_isinstance,
    z_tuple := PySem.W.mg_none_of X G z_tuple,
    z_enumerate := PySem.W.mg_none_of X G z_enumerate,
    z_list := PySem.W.mg_none_of X G z_list,
    z_str := PySem.W.mg_none_of X G z_str,
    z_sorted := PySem.W.mg_none_of X G z_sorted,
    z_set := PySem.W.mg_none_of X G z_set }
     { k0 := e0, k1 := e1, k2 := e2, k3 := e3, k4 := e4, k5 := e5, cE := eE, g0 := PySem.W.mg_of X G x_e0, g1 := PySem.W.mg_of X G x_e1, g2 := PySem.W.mg_of X G x_e2, g3 := PySem.W.mg_of X G x_e3, g4 := PySem.W.mg_of X G x_e4, g5 := PySem.W.mg_of X G x_e5, gE := PySem.W.mg_of X G x_eE, zV := PySem.W.mg_none_of X G z_VE, zI := PySem.W.mg_none_of X G z_isinstance }
     ⟨⟨xg3, xk3, xs3, xd3, xa3, xc_n, xc_t, xm3⟩, xx3, xq3_0, xq3_1, xq3_2, xq3_3, xq3_4, xq3_5, xv3⟩
     ⟨PySem.W.mg_of X G x_e3, xi3, xs3, xt3, xp3⟩
     (hTB _ (List.mem_singleton.mpr rfl))
     ⟨⟨_, _, _, _, _, _, _, _, rfl, l_law, c_law⟩⟩

end Rp
open PySem PySem.W PyProof.Rows
set_option maxRecDepth 100000 in
set_option maxHeartbeats 0 in
theorem PySem.Challenge.cw_readingring_k58_whole_observers_by_all_d_holds : PySem.Challenge.rw_readingring_k58_whole_observers_by_all_d.Holds := by
  w_on; o_law; k_head; (case hw => w_witness2)
  k_fill
  refine LamX.walk_ofOwn (l := PySem.Challenge.rw_readingring_k58_whole_observers_by_all_d) (n := 63) (k := 12) (x := "_law_script") (CX := fun _ => L2.CX0) rfl (by decide) rfl ⟨rfl, by decide, by decide⟩ (by decide +kernel) (fun w h Y => PySem.W.km_in_of Y) ?F (fun _ _ _ _ _ h => h)
  case F =>
    intro w mg fa h Y KX G hmg own
    refine' Rp.all_mk KX G hmg ?aC ?aD ?x_is_number ?l_is_number ?c_is_number ?k_is_number ?x_lies_between ?l_lies_between ?c_lies_between ?k_lies_between ?x_check_number ?l_check_number ?c_check_number ?k_check_number ?x_check_reader ?l_check_reader ?c_check_reader ?k_check_reader ?x_rinit ?i_rinit ?l_rinit ?c_rinit ?k_rinit ?pa_rdays ?pg_rdays ?pt_rdays ?pr_rdays ?l_rdays ?c_rdays ?k_rdays ?pa_rstarts ?pg_rstarts ?pt_rstarts ?pr_rstarts ?l_rstarts ?c_rstarts ?k_rstarts ?pa_rbooks ?pg_rbooks ?pt_rbooks ?pr_rbooks ?l_rbooks ?c_rbooks ?k_rbooks ?pa_rpace ?pg_rpace ?pt_rpace ?pr_rpace ?l_rpace ?c_rpace ?k_rpace ?x_rwith_days ?i_rwith_days ?l_rwith_days ?c_rwith_days ?k_rwith_days ?x_rlen ?i_rlen ?l_rlen ?c_rlen ?k_rlen ?x_rcall ?i_rcall ?j_rcall ?l_rcall ?c_rcall ?k_rcall ?x_check_part ?l_check_part ?c_check_part ?k_check_part ?x_end_day ?l_end_day ?c_end_day ?k_end_day ?x_is_same_number ?l_is_same_number ?c_is_same_number ?k_is_same_number ?x_dinit ?i_dinit ?l_dinit ?c_dinit ?k_dinit ?cm_fl ?cm_flr ?cm_flf ?cr_rdD ?cr_gaD ?l_dfrom_log ?c_dfrom_log ?k_dfrom_log ?pa_dpossible_days ?pg_dpossible_days ?pt_dpossible_days ?pr_dpossible_days ?l_dpossible_days ?c_dpossible_days ?k_dpossible_days ?pa_dobservations ?pg_dobservations ?pt_dobservations ?pr_dobservations ?l_dobservations ?c_dobservations ?k_dobservations ?x_dsee_end ?bg_dsee_end ?bt_dsee_end ?bf_dsee_end ?i_dsee_end ?l_dsee_end ?c_dsee_end ?k_dsee_end ?x_dsee_open ?bg_dsee_open ?bt_dsee_open ?bf_dsee_open ?i_dsee_open ?l_dsee_open ?c_dsee_open ?k_dsee_open ?x_dpossible_ends ?i_dpossible_ends ?l_dpossible_ends ?c_dpossible_ends ?k_dpossible_ends ?x_dtelling_number ?i_dtelling_number ?l_dtelling_number ?c_dtelling_number ?k_dtelling_number ?x_dcheck_reading ?i_dcheck_reading ?l_dcheck_reading ?c_dcheck_reading ?k_dcheck_reading ?x_daccept ?i_daccept ?l_daccept ?c_daccept ?k_daccept ?x_ltaken ?l_ltaken ?c_ltaken ?k_ltaken ?x_lparts ?l_lparts ?c_lparts ?k_lparts ?x_lraised ?l_lraised ?c_lraised ?k_lraised ?x_law ?l_law ?c_law ?k_law ?pgD ?hdD ?poD ?saD ?mkDD ?kDD ?nD1 ?nD2 ?nD3 ?pgC ?hdC ?poC ?saC ?mkC ?kC ?nD ?nS ?v_LATEST ?v_MOST_LIMIT ?v_FEWEST_READERS ?v_MOST_READERS ?v_MOST_DAYS ?v_MOST_BOOKS ?z_len ?z_sum ?z_max ?z_min ?z_range ?z_int ?z_bool ?z_isinstance ?z_tuple ?z_enumerate ?z_list ?z_str ?z_sorted ?z_set own ?tb_c ?tb_l ?tb_p ?tb_h ?tb_n ?x_e0 ?x_e1 ?x_e2 ?x_e3 ?x_e4 ?x_e5 ?x_eE ?z_VE ?xc_n ?xc_t ?xg3 ?xk3 ?xs3 ?xd3 ?xa3 ?xm3 ?xx3 ?xq3_0 ?xq3_1 ?xq3_2 ?xq3_3 ?xq3_4 ?xq3_5 ?xv3 ?xi3 ?xt3 ?xp3
    (case aC => k_is); (case aD => k_is); (case x_is_number => k_is); (case l_is_number => k_is); (case c_is_number => k_is); (case k_is_number => k_is); (case x_lies_between => k_is); (case l_lies_between => k_is)
    (case c_lies_between => k_is); (case k_lies_between => k_is); (case x_check_number => k_is); (case l_check_number => k_is); (case c_check_number => k_is); (case k_check_number => k_is); (case x_check_reader => k_is); (case l_check_reader => k_is)
    (case c_check_reader => k_is); (case k_check_reader => k_is); (case x_rinit => k_is); (case i_rinit => k_is); (case l_rinit => k_is); (case c_rinit => k_is); (case k_rinit => k_is); (case pa_rdays => k_is)
    (case pg_rdays => k_is); (case pt_rdays => k_is); (case pr_rdays => k_is); (case l_rdays => k_is); (case c_rdays => k_is); (case k_rdays => k_is); (case pa_rstarts => k_is); (case pg_rstarts => k_is)
    (case pt_rstarts => k_is); (case pr_rstarts => k_is); (case l_rstarts => k_is); (case c_rstarts => k_is); (case k_rstarts => k_is); (case pa_rbooks => k_is); (case pg_rbooks => k_is); (case pt_rbooks => k_is)
    (case pr_rbooks => k_is); (case l_rbooks => k_is); (case c_rbooks => k_is); (case k_rbooks => k_is); (case pa_rpace => k_is); (case pg_rpace => k_is); (case pt_rpace => k_is); (case pr_rpace => k_is)
    (case l_rpace => k_is); (case c_rpace => k_is); (case k_rpace => k_is); (case x_rwith_days => k_is); (case i_rwith_days => k_is); (case l_rwith_days => k_is); (case c_rwith_days => k_is); (case k_rwith_days => k_is)
    (case x_rlen => k_is); (case i_rlen => k_is); (case l_rlen => k_is); (case c_rlen => k_is); (case k_rlen => k_is); (case x_rcall => k_is); (case i_rcall => k_is); (case j_rcall => k_is)
    (case l_rcall => k_is); (case c_rcall => k_is); (case k_rcall => k_is); (case x_check_part => k_is); (case l_check_part => k_is); (case c_check_part => k_is); (case k_check_part => k_is); (case x_end_day => k_is)
    (case l_end_day => k_is); (case c_end_day => k_is); (case k_end_day => k_is); (case x_is_same_number => k_is); (case l_is_same_number => k_is); (case c_is_same_number => k_is); (case k_is_same_number => k_is); (case x_dinit => k_is)
    (case i_dinit => k_is); (case l_dinit => k_is); (case c_dinit => k_is); (case k_dinit => k_is); (case cm_fl => first | k_is | exact rfl | k_exc | decide +kernel); (case cm_flr => first | k_is | exact rfl | k_exc | decide +kernel); (case cm_flf => first | k_is | exact rfl | k_exc | decide +kernel); (case cr_rdD => first | k_is | exact rfl | k_exc | decide +kernel)
    (case cr_gaD => first | k_is | exact rfl | k_exc | decide +kernel); (case l_dfrom_log => k_is); (case c_dfrom_log => k_is); (case k_dfrom_log => k_is); (case pa_dpossible_days => k_is); (case pg_dpossible_days => k_is); (case pt_dpossible_days => k_is); (case pr_dpossible_days => k_is)
    (case l_dpossible_days => k_is); (case c_dpossible_days => k_is); (case k_dpossible_days => k_is); (case pa_dobservations => k_is); (case pg_dobservations => k_is); (case pt_dobservations => k_is); (case pr_dobservations => k_is); (case l_dobservations => k_is)
    (case c_dobservations => k_is); (case k_dobservations => k_is); (case x_dsee_end => k_is); (case bg_dsee_end => first | k_is | exact rfl | k_exc | decide +kernel); (case bt_dsee_end => first | k_is | exact rfl | k_exc | decide +kernel); (case bf_dsee_end => first | k_is | exact rfl | k_exc | decide +kernel); (case i_dsee_end => k_is); (case l_dsee_end => k_is)
    (case c_dsee_end => k_is); (case k_dsee_end => k_is); (case x_dsee_open => k_is); (case bg_dsee_open => first | k_is | exact rfl | k_exc | decide +kernel); (case bt_dsee_open => first | k_is | exact rfl | k_exc | decide +kernel); (case bf_dsee_open => first | k_is | exact rfl | k_exc | decide +kernel); (case i_dsee_open => k_is); (case l_dsee_open => k_is)
    (case c_dsee_open => k_is); (case k_dsee_open => k_is); (case x_dpossible_ends => k_is); (case i_dpossible_ends => k_is); (case l_dpossible_ends => k_is); (case c_dpossible_ends => k_is); (case k_dpossible_ends => k_is); (case x_dtelling_number => k_is)
    (case i_dtelling_number => k_is); (case l_dtelling_number => k_is); (case c_dtelling_number => k_is); (case k_dtelling_number => k_is); (case x_dcheck_reading => k_is); (case i_dcheck_reading => k_is); (case l_dcheck_reading => k_is); (case c_dcheck_reading => k_is)
    (case k_dcheck_reading => k_is); (case x_daccept => k_is); (case i_daccept => k_is); (case l_daccept => k_is); (case c_daccept => k_is); (case k_daccept => k_is); (case x_ltaken => k_is); (case l_ltaken => k_is)
    (case c_ltaken => k_is); (case k_ltaken => k_is); (case x_lparts => k_is); (case l_lparts => k_is); (case c_lparts => k_is); (case k_lparts => k_is); (case x_lraised => k_is); (case l_lraised => k_is)
    (case c_lraised => k_is); (case k_lraised => k_is); (case x_law => k_is); (case l_law => k_is); (case c_law => k_is); (case k_law => k_is); (case pgD => k_is); (case hdD => k_is)
    (case poD => k_is); (case saD => k_is); (case mkDD => k_is); (case kDD => k_is); (case nD1 => k_is); (case nD2 => k_is); (case nD3 => k_is); (case pgC => k_is)
    (case hdC => k_is); (case poC => k_is); (case saC => k_is); (case mkC => k_is); (case kC => k_is); (case nD => k_is); (case nS => k_is); (case v_LATEST => k_is)
    (case v_MOST_LIMIT => k_is); (case v_FEWEST_READERS => k_is); (case v_MOST_READERS => k_is); (case v_MOST_DAYS => k_is); (case v_MOST_BOOKS => k_is); (case z_len => k_is); (case z_sum => k_is); (case z_max => k_is)
    (case z_min => k_is); (case z_range => k_is); (case z_int => k_is); (case z_bool => k_is); (case z_isinstance => k_is); (case z_tuple => k_is); (case z_enumerate => k_is); (case z_list => k_is)
    (case z_str => k_is); (case z_sorted => k_is); (case z_set => k_is)
    (case tb_c => first | exact rfl | k_is | k_exc | decide +kernel)
    (case tb_l => first | exact rfl | k_is | k_exc | decide +kernel)
    (case tb_p => first | exact rfl | k_is | k_exc | decide +kernel)
    (case tb_h => first | exact rfl | k_is | k_exc | decide +kernel)
    (case tb_n => first | exact rfl | k_is | k_exc | decide +kernel)
    (case x_e0 => first | exact rfl | k_is | k_exc | decide +kernel)
    (case x_e1 => first | exact rfl | k_is | k_exc | decide +kernel)
    (case x_e2 => first | exact rfl | k_is | k_exc | decide +kernel)
    (case x_e3 => first | exact rfl | k_is | k_exc | decide +kernel)
    (case x_e4 => first | exact rfl | k_is | k_exc | decide +kernel)
    (case x_e5 => first | exact rfl | k_is | k_exc | decide +kernel)
    (case x_eE => first | exact rfl | k_is | k_exc | decide +kernel)
    (case z_VE => first | exact rfl | k_is | k_exc | decide +kernel)
    (case xc_n => first | exact rfl | k_is | k_exc | decide +kernel)
    (case xc_t => first | exact rfl | k_is | k_exc | decide +kernel)
    (case xg3 => first | exact rfl | k_is | k_exc | decide +kernel)
    (case xk3 => first | exact rfl | k_is | k_exc | decide +kernel)
    (case xs3 => first | exact rfl | k_is | k_exc | decide +kernel)
    (case xd3 => first | exact rfl | k_is | k_exc | decide +kernel)
    (case xa3 => first | exact rfl | k_is | k_exc | decide +kernel)
    (case xm3 => first | exact rfl | k_is | k_exc | decide +kernel)
    (case xx3 => first | exact rfl | k_is | k_exc | decide +kernel)
    (case xq3_0 => first | exact rfl | k_is | k_exc | decide +kernel)
    (case xq3_1 => first | exact rfl | k_is | k_exc | decide +kernel)
    (case xq3_2 => first | exact rfl | k_is | k_exc | decide +kernel)
    (case xq3_3 => first | exact rfl | k_is | k_exc | decide +kernel)
    (case xq3_4 => first | exact rfl | k_is | k_exc | decide +kernel)
    (case xq3_5 => first | exact rfl | k_is | k_exc | decide +kernel)
    (case xv3 => first | exact rfl | k_is | k_exc | decide +kernel)
    (case xi3 => first | exact rfl | k_is | k_exc | decide +kernel)
    (case xt3 => first | exact rfl | k_is | k_exc | decide +kernel)
    (case xp3 => first | exact rfl | k_is | k_exc | decide +kernel)
