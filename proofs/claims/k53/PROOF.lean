import PyProof.Rows.All
import Wide.All
import OpenK.AllK
import Wide.FinOn
import HandS.ExcInit
import HandS.ClsMeth
import HandS.FStr
import PyProof.EqAt
import PyProof.EqKinds
import PyProof.TupleCall
import HandS.ForMost
import HandS.Walk
import HandS.Property
import HandS.Star
import HandS.IsInst
import HandS.Gcd
import HandS.Flow
import KE.KTupSum
import KE.GoesEnum
import HandS.More
import HandS.Strs
import HandS.Conv
import HandS.Sort
import HandS.TupAny
import KE.KEqDeep
import HandS.Style
import HandS.NoneIn
import HandS.CallLocal
import KE.KUnpackStar
import HandS.WordsExc
import HandS.Nested
import HandS.Lambda
import KE.KDflt
import HandS.DictComp
import KE.KOpsOwn
import HandS.OwnEq
import OpenK.KMeth
import HandS.ExcIs
import KE.KExcIs
import HandS.ExcField
import HandS.WordsDict
import PyProof.Rows.RegStrFacts
import HandS.SetFor
import HandS.EndOwn
import HandS.List
import HandS.Words
import HandS.ExcCtx
import KE.KWithOwn
import HandS.HeadHook3
import PySem.Challenge.RW_readingring_k53_whole_all_undone_and_don
set_option Elab.async false
set_option linter.all false
set_option maxRecDepth 100000
set_option maxHeartbeats 8000000
/-! An own exception class with its own __init__, which calls its own base's. -/
namespace Rp
open PySem PySem.Spec PyProof.Rows L2
/-- the slots that a class over ValueError has -/
def oxS : List (Option Value) → Bool
  | [_, _, _, _, some (.builtin n), _] => n == "ValueError.__new__"
  | _ => false
/-- the record of such a class -/
def oxO (C : Addr) : Obj → Bool
  | ⟨.type t, _, .cls cd, sl⟩ => t == "type" && cd.hasDict && !cd.hasDel && oxS sl.toList && (match cd.mro with
    | .ref c :: r => c == C && PySem.HandSPX.refsVE r
    | _ => false)
  | _ => false
def oxB (K : PySem.W.Frag) (C : Addr) : Bool := (K.lookup C).any (oxO C) && (decide (PySem.W.findIn K (.ref C) "__setattr__" = some (some (.builtin "object.__setattr__"))) && (decide (PySem.W.subIn K (.ref C) (.type "BaseException") = some true) && (decide (PySem.W.typeIn K (.ref C) = some (.type "type")) && PySem.W.keepIn K (.ref C))))
theorem oxB_ok {K : PySem.W.Frag} {C : Addr} (h : oxB K C = true) : OexC K C := by
  unfold oxB at h
  simp only [Bool.and_eq_true, decide_eq_true_eq] at h
  obtain ⟨h0, h1, h2, h3, h4⟩ := h
  refine ⟨?_, h1, h2, h3, h4⟩
  cases e : K.lookup C with
  | none => rw [e] at h0; cases h0
  | some o =>
    rw [e] at h0
    have h0 : oxO C o = true := h0
    unfold oxO at h0
    split at h0
    · rename_i t dd cd sl q0
      simp only [Bool.and_eq_true, beq_iff_eq, Bool.not_eq_true'] at h0
      obtain ⟨⟨⟨⟨rfl, hd⟩, hl⟩, hs⟩, hm⟩ := h0
      unfold oxS at hs
      split at hs
      · rename_i k0 k1 k2 k3 n k5 es
        have hn : n = "ValueError.__new__" := beq_iff_eq.mp hs
        subst hn
        split at hm
        · rename_i c r em
          simp only [Bool.and_eq_true, beq_iff_eq] at hm
          obtain ⟨rfl, hr⟩ := hm
          obtain ⟨nm, bs, mro, ns, qn, hdct, sn, sub, ab, col, del⟩ := cd
          have hd : hdct = true := hd
          have hl : del = false := hl
          have em : mro = _ := em
          subst hd hl em
          have esl : sl = #[k0, k1, k2, k3, some (.builtin "ValueError.__new__"), k5] := by
            obtain ⟨l⟩ := sl
            simp only at es
            rw [es]
          subst esl
          exact ⟨nm, qn, ns, bs, r, sn, sub, ab, col, dd, k0, k1, k2, k3, k5, rfl, hr⟩
        · cases hm
      · cases hs
    · cases h0
section
variable {X : Cx} {e : Expr} {es : List Expr} {ta : TA} {p1 p2 pos : Pos}
/-- Base.__init__(self, ..), Base an own class over ValueError -/
theorem pe_reinit {pl : Sem Bool} {x : Str} {B : Addr} {mc : Value} (hg : Gl X x) (hm : X.mg x = some (.ref B)) (r : ClX.CRead X.K B mc) (vV : PySem.W.findCls X.K (.ref B) mc "__init__" = some (.val (.builtin "ValueError.__init__"))) (ha : PA X (e :: es) ta)
    (hc : eval (.Call (.Attribute (.Name x p1) "__init__" p2) (e :: es) [] pos) X.env = (do
      let ov ← eval (.Name x p1) X.env
      standAt p2.atName
      let (f, first) ← holding [ov] (getMethod ov "__init__" pl)
      callWith pos f first (backTo pos (starEach (e :: es) X.env)) (backToKw pos (keywordEach [] X.env))) := by rfl)
    (hdb : (x == ("__debug__" : Str)) = false := by decide) (he : starEach (e :: es) X.env = (false, eval e X.env) :: starEach es X.env := by rfl) (hpl : (backTo pos (starEach es X.env)).any (·.1) = false := by rfl) :
    PE X (.Call (.Attribute (.Name x p1) "__init__" p2) (e :: es) [] pos) (tVeI X.K ta) := by
  refine ⟨fun pins s σ H Q I h => ?_⟩
  refine PySem.W.methodCall_KW (ld_glob I hg hm ?_ hdb) hc
  refine PySem.W.method_cls I.kIn r.ga (PySem.W.cls_value I.kIn r.rd vV (by decide +kernel) ?_)
  show wpAny _ _ (callWith pos (Value.builtin "ValueError.__init__") [] (backTo pos (starEach (e :: es) X.env)) []) _ _ _
  refine PyProof.Rows.callWith_method1 (thn (ha.run pos pins _ σ H _ (I.tok _) h) fun us s1 ⟨vs, H1, I1, r1, a, C, ws, ev, hl, T, ea, q⟩ => ?_) he hpl
  subst ev
  cases r1 with
  | @cons _ u0 _ ur ra rw' =>
    obtain rfl : u0 = Value.ref a := ra
    exact oinit_ok T I1 ea (by rw [← Paired.length rw', sizeLine_eq]; omega) fun s' J => ⟨.non, H1, J, rfl, q⟩
end
end Rp
/-! Rules beside the layer's: len of an own instance, enumerate over a tuple, sum and max of a tuple. -/
namespace Rz
open PySem PySem.Spec PyProof.Rows L2

section
variable {X : Cx}
/-! ### len(o), o an instance whose class defines it -/
def rLenI (C : Addr) (sp : Sp) (E : XK) : List V → Hp → VK → Prop := fun xs H Q => ∃ a dx fs, xs = [.ref a] ∧ H a = some (.ins C dx fs) ∧
  sp [.ref a] H (fun v H' => ∃ n : Int, v = .int n ∧ 0 ≤ n ∧ n < 2 ^ 63 ∧ Q (.int n) H') E
theorem call_lenI {CX : CXT} {k : Nat} {f C : Addr} {sp : Sp} {E : XK} (hs : PySem.W.findIn X.K (.ref C) "__len__" = some (some (.ref f))) (hf : PySem.W.isFn X.K (.ref f) = true)
    (F : FnR X.prog X.w X.K X.mg X.base CX k f sp) (hr : Room (k + 1) X.A) (hx : Passes CX X E) : CallR X (.builtin "len") (rLenI C sp E) := by
  intro pins s σ H xs us Q I r h
  obtain ⟨a, dx, fs, rfl, ea, q⟩ := h
  rw [Vals.ref1 r]
  obtain ⟨mA, O, _⟩ := ins_get I.hok ea
  obtain ⟨od, J, _⟩ := O.look
  have hc : wpAny (model X.prog X.w) X.A.in1 (call (.ref f) [.ref a]) (EP X pins σ (fun v H' => ∃ n : Int, v = .int n ∧ 0 ≤ n ∧ n < 2 ^ 63 ∧ Q (.int n) H')) X.xe s := by
    refine wpAny_call (codeAny_mono (F X.A.in1 X.stack s H [.ref a] [.ref a] _ E hr.in1 I.env0.in1 (.cons rfl .nil) q) fun r s' hq => ?_)
    cases r with
    | error e => exact hx pins σ H s e s' I hq
    | ok fl =>
      cases fl with
      | ret u => exact I.after hq
      | next => exact False.elim hq
      | brk => exact False.elim hq
      | cont => exact False.elim hq
  refine Calls.call_function_entry kind_len plain_len entry_len (args_len1 _) ?_
  unfold Builtin.«len»
  refine wpAny_bind (m := oneArg "len" _) (wpAny_pure ?_)
  refine wpAny_bind (m := callSpecial? (.ref a) (Str.ofString "__len__")) (PySem.W.special_fn I.kIn J hs (beq_iff_eq.mp hf) (wpAny_mono hc (fun r s' hr => ?_) fun _ _ y => y))
  obtain ⟨v, H', I', rv, n, rfl, h0, h1, hq⟩ := hr
  obtain ⟨t, rfl⟩ := rv
  refine wpAny_bind (wpAny_holding (wpAny_pure ?_))
  refine wpAny_bind (wpAny_letGo ?_)
  show wpAny _ _ (if n < 0 then _ else _) _ _ _
  rw [if_neg (by omega)]
  show wpAny _ _ (if n ≥ 2 ^ 63 then _ else _) _ _ _
  rw [if_neg (by omega)]
  exact wpAny_bind (wpAny_mkInt (wpAny_pure ⟨_, rfl, ⟨.int n, H', I'.tok _, ⟨_, rfl⟩, hq⟩⟩))

/-! ### sum, max of a tuple of ints -/
def rSumT (K : PySem.W.Frag) : List V → Hp → VK → Prop := fun vs H Q => ∃ (a : Addr) (ns : List Int), vs = [V.ref a] ∧ SqT K H a (ns.map V.int) ∧ Q (.int ns.sum) H
def rMaxT (K : PySem.W.Frag) : List V → Hp → VK → Prop := fun vs H Q => ∃ (a : Addr) (ns : List Int), vs = [V.ref a] ∧ SqT K H a (ns.map V.int) ∧ 0 < ns.length ∧
  ∀ m, m ∈ ns → (∀ y, y ∈ ns → y ≤ m) → Q (.int m) H
theorem cr_sumT (hc : X.calm = true) : CallR X (.builtin "sum") (rSumT X.K) := by
  intro pins s σ H vs us Q I r h
  obtain ⟨a, ns, rfl, hs, q⟩ := h
  obtain ⟨its, rv, hl, _⟩ := I.tuple hs
  rw [Vals.ref1 r]
  have hi := rv.ints
  have hl' : s.heap.IsTuple a its.toArray := hl
  obtain ⟨xs, e⟩ := hi.allInts.items
  have hn : numsOf (intItems xs).toList = ns := by rw [← e]; exact hi.numsOf
  rw [nums_intItems] at hn
  rw [e] at hl'
  refine PySem.W.ktm_sumG (I.ok.hd hc) hl' fun h' tk t' hk => ?_
  have J : Inv X pins σ H { s with heap := h', toks := tk } := I.kept hk
  refine ⟨.int ns.sum, H, J, ⟨t', ?_⟩, q⟩
  rw [preSum_eq, List.take_of_length_le (by simp), hn]
theorem max_tup {prog : Program} {w : World} {A : Around} {E : Value → Shared → Prop} {s : Shared} {l : Addr} {xs : Array (Int × Tok)} {Q : Value → Shared → Prop} (hh : A.handled = none) (ht : s.heap.IsTuple l (intItems xs)) (hne : 0 < xs.size)
    (h : ∀ v h' tk, (intItems xs)[argBest (fun i j => decide (numAt xs i > numAt xs j)) (xs.size - 1)]? = some v → (∀ b o, s.heap.get? b = some o → h'.get? b = some o) → Q v { s with heap := h', toks := tk }) :
    wpAny (model prog w) A (call (.builtin "max") [.ref l]) Q E s := by
  obtain ⟨o, ho, hc, n, hd⟩ := id ht
  have hlt : l < s.heap.objs.size := Heap.lt_size ho
  refine call_max_walk (wpAny_pyIter_tuple ht ?_)
  refine ⟨s.heap.objs.size, _, _, _, _, _, _, rfl, Walks.tuple (A := A.in1) hh _ l (Nat.ne_of_lt hlt) (intItems xs), ⟨⟨_, Heap.get?_push_size _ rfl, rfl, rfl⟩, ht.at fun o e => Heap.get?_push_of_some _ e⟩, fun b hb => ?_, by simpa [intItems] using hne,
    CmpOf.ints_gt (numAt xs) (fun _ _ => intItems_at), fun v h' tk hP hk => ?_⟩
  · rcases List.mem_cons.mp hb with rfl | hb
    · exact Heap.lt_size (Heap.get?_push_size _ rfl)
    · obtain rfl := List.mem_singleton.mp hb
      exact Heap.lt_size (Heap.get?_push_of_some _ ho)
  · refine h v h' tk (by simpa [intItems] using hP) fun b o e => ?_
    refine hk b o (fun hm => ?_) (Heap.get?_push_of_some _ e)
    have := List.mem_singleton.mp hm
    exact absurd (this ▸ Heap.lt_size e) (Nat.lt_irrefl _)
theorem cr_maxT (hc : X.calm = true) : CallR X (.builtin "max") (rMaxT X.K) := by
  intro pins s σ H vs us Q I r h
  obtain ⟨a, ns, rfl, hs, hne, q⟩ := h
  obtain ⟨its, rv, hl, _⟩ := I.tuple hs
  rw [Vals.ref1 r]
  have hi := rv.ints
  have hl' : s.heap.IsTuple a its.toArray := hl
  obtain ⟨xs, e⟩ := hi.allInts.items
  have hn : numsOf (intItems xs).toList = ns := by rw [← e]; exact hi.numsOf
  rw [nums_intItems] at hn
  subst hn
  rw [e] at hl'
  have hsz : 0 < xs.size := by simpa using hne
  refine max_tup (I.ok.hd hc) hl' hsz fun v h' tk hv hk => ?_
  obtain ⟨t, rfl⟩ := intItems_at hv
  obtain ⟨h1, h2⟩ := argBest_gt (numAt xs) (xs.size - 1)
  refine ⟨.int _, H, I.kept hk, ⟨t, rfl⟩, q _ ?_ fun a ha => ?_⟩
  · rw [numAt_eq]; exact PySem.getD_mem (by rw [List.length_map, Array.length_toList]; omega)
  · obtain ⟨j, hj, rfl⟩ := mem_getD ha
    rw [List.length_map, Array.length_toList] at hj
    rw [← numAt_eq]; exact h2 j (by omega)
end

/-! ### enumerate(t), t a tuple -/
theorem meets_enumerate_newT (l : Addr) (items : Array Value) (n : Nat) (dct : Option Addr) (sl : Array (Option Value)) :
    Meets (Builtin.«enumerate.__new__» ⟨[.type "enumerate", .ref l], []⟩) (fun _ R s => s.heap.get? l = some { cls := .type "tuple", dict := dct, data := .seq items n, slots := sl } ∧
      R (.ok (.ret (.ref (s.heap.push { cls := .type "tuple_iterator", data := .fields #[.ref l, .int 0 0] }).objs.size)))
        { s with heap := (s.heap.push { cls := .type "tuple_iterator", data := .fields #[.ref l, .int 0 0] }).push { cls := .type "enumerate", data := .fields #[.none, .bool false, .ref s.heap.objs.size, rawInt 0, .none, .none] } }) :=
  .of_wp fun prog w A R s h => by
    obtain ⟨hp, g, d, tk, os⟩ := s; obtain ⟨hl, h⟩ := h
    have hsub := sub_enumerate
    have hL : Heap.IsTuple (Shared.heap ⟨hp, g, d, tk, os⟩) l items := ⟨_, hl, rfl, n, rfl⟩
    wp_walk using AutoSeq1.wpAny_loadPart' hl
    refine wpAny_stack_any fun st => wpAny_pure ?_
    split
    · rename_i c _ _ _ _ _
      cases (c == Value.type "enumerate")
      · wp_walk using AutoSeq1.wpAny_loadPart' hl, wpAny_pyIter_tuple hL
        exact ⟨_, rfl, h⟩
      · wp_walk using AutoSeq1.wpAny_loadPart' hl, wpAny_pyIter_tuple hL
        exact ⟨_, rfl, h⟩
    · wp_walk using AutoSeq1.wpAny_loadPart' hl, wpAny_pyIter_tuple hL
      exact ⟨_, rfl, h⟩
theorem call_enumerate_tuple {prog : Program} {w : World} {A : Around} {E : Value → Shared → Prop} {s : Shared} {l : Addr} {items : Array Value} {Q : Value → Shared → Prop} (hL : s.heap.IsTuple l items)
    (h : ∀ h', IsEnum h' (s.heap.objs.size + 1) s.heap.objs.size 0 .none → h'.IsTupleIter s.heap.objs.size l 0 → h'.objs.size = s.heap.objs.size + 2 →
      (∀ b o, s.heap.get? b = some o → h'.get? b = some o) → Q (.ref (s.heap.objs.size + 1)) { s with heap := h' }) :
    wpAny (model prog w) A (call (.type "enumerate") [.ref l]) Q E s := by
  obtain ⟨⟨c, dct, dt, sl⟩, hl, hc, n, hd⟩ := hL
  replace hc : c = .type "tuple" := hc
  replace hd : dt = .seq items n := hd
  subst hc hd
  refine callType_new F.called_enumerate (by decide) (F.typeCall_enumerate_1 _) (F.newCall_enumerate_1 _) (fun obj => F.args_object_init_2 obj _) F.entry_enumerate_new
    (meets_enumerate_newT l items n dct sl) ⟨hl, ?_⟩
  have hz : (s.heap.push { cls := .type "tuple_iterator", data := .fields #[.ref l, .int 0 0] }).objs.size = s.heap.objs.size + 1 := Heap.size_push ..
  show _ ∧ _
  rw [hz]
  have he : IsEnum ((s.heap.push { cls := .type "tuple_iterator", data := .fields #[.ref l, .int 0 0] }).push
      { cls := .type "enumerate", data := .fields #[.none, .bool false, .ref s.heap.objs.size, rawInt 0, .none, .none] }) (s.heap.objs.size + 1) s.heap.objs.size 0 .none := by
    have := Heap.get?_push_size (s.heap.push { cls := .type "tuple_iterator", data := .fields #[.ref l, .int 0 0] })
      (o := { cls := .type "enumerate", data := .fields #[.none, .bool false, .ref s.heap.objs.size, rawInt 0, .none, .none] }) rfl
    rw [hz] at this; exact this
  refine ⟨⟨_, he, rfl⟩, h _ he ⟨_, Heap.get?_push_of_some _ (Heap.get?_push_size _ rfl), rfl, rfl⟩ (by rw [Heap.size_push, hz]) fun b o x => Heap.get?_push_of_some _ (Heap.get?_push_of_some _ x)⟩

/-- the tuple at a, each item in a new pair with its number -/
def IteT (K : PySem.W.Frag) (a : Addr) : It :=
  ⟨fun i H => ∃ (xs : List V) (x : V), SqT K H a xs ∧ xs[i]? = some x, fun i H v H' => ∃ T x, v = .ref T ∧ H T = none ∧ H' = upd H T (.tup [.int (i : Nat), x]) ∧ ∀ xs, SqT K H a xs → xs[i]? = some x, fun i H => ∃ xs : List V, SqT K H a xs ∧ xs.length = i⟩
theorem turn_enumT {P : Program} {w : World} {K : PySem.W.Frag} {elts : List Expr} {kk : Nat} {tpos : Pos} (a e it : Addr) :
    Turn P w K (.Tuple elts kk tpos) (IteT K a) [e, it] e (fun i h => (∃ old, IsEnum h e it ((i : Nat) : Int) old) ∧ h.IsTupleIter it a i ∧ e ≠ it ∧ e ≠ a ∧ it ≠ a) where
  mem := by simp
  obj := fun i h st b hb => by
    obtain ⟨⟨old, he⟩, ⟨o, ho, hc, hd⟩, _⟩ := st
    have e' : b = e ∨ b = it := by simpa using hb
    rcases e' with z | z
    · rw [z]; exact ⟨_, he, fun v q => nomatch q⟩
    · rw [z]; exact ⟨o, ho, fun v q => by rw [hd] at q; cases q⟩
  keep := fun i h h' st k => let ⟨⟨old, he⟩, hi, hne⟩ := st; ⟨⟨old, k e (by simp) _ he⟩, hi.at fun o q => k it (by simp) o q, hne⟩
  item := by
    intro X hP hw hK hc i pins s σ H E I hf st hg
    subst hP hw hK
    obtain ⟨⟨old, he⟩, hit, hne, hea, hia⟩ := st
    obtain ⟨xs, x, hq, hx⟩ := hg
    obtain ⟨its, rv, p, hz⟩ := I.tuple hq
    obtain ⟨u, hu, ru⟩ := rv.get hx
    have hel : e < s.heap.objs.size := Heap.lt_size he
    have hil : it < s.heap.objs.size := by obtain ⟨_, q, _⟩ := hit; exact Heap.lt_size q
    have hlt : i < its.toArray.size := by
      have := (List.getElem?_eq_some_iff.mp hu).1
      simpa using this
    refine wpAny_pyNext_enum_itemC (Draws.tuple (prog := X.prog) (w := X.w) (A := X.A.in1) (I.ok.hd hc) it a (Ne.symm hia) its.toArray) he ⟨hit, p⟩ hlt hne (by simp [hne, hea]) fun x' h' tk hPx ho hst' hT hsz hk => ?_
    have ex : x' = u := by
      have h1 : its.toArray[i]? = some u := by simpa using hu
      exact Option.some.inj (hPx.symm.trans h1)
    subst ex
    obtain ⟨hit', _⟩ := hst'
    refine ⟨_, rfl, wpAny_letOwnedTupleGo_enum (s := { s with heap := h', toks := tk + 1 }) ho fun h'' he' sb => ?_⟩
    have hT2 : h''.get? s.heap.objs.size = some { cls := .type "tuple", data := .seq #[.int i tk, x'] } := (sb.2 _ (Nat.ne_of_gt hel)).trans hT
    have new : ObjOk X.prog X.w (upd H s.heap.objs.size (.tup [.int (i : Nat), x])) h'' s.heap.objs.size (.tup [.int (i : Nat), x]) :=
      ⟨by show 2 ≤ sizeLine; decide, [.int i tk, x'], .cons ⟨_, rfl⟩ (.cons ru .nil), ⟨_, hT2, rfl, _, rfl⟩⟩
    have I1 : Inv X pins σ (upd H s.heap.objs.size (.tup [.int (i : Nat), x])) { s with heap := h'', toks := tk + 1 } :=
      I.turnedNew (ch := [e, it]) (fun b ob hb q => (sb.2 b (fun z => hb (by simp [z]))).trans (hk b ob (fun z => hb (by simp [z])) (fun z => hb (by simp [z])) q)) hf (Nat.le_refl _) new
    refine ⟨.ref s.heap.objs.size, _, I1, rfl, ⟨_, x, rfl, I.hok.fresh (Nat.le_refl _), rfl, fun ys hy => by rw [I.tuple_inj hy hq]; exact hx⟩, ⟨⟨x', ?_⟩, hit'.at fun o q => (sb.2 it (Ne.symm hne)).trans q, hne, hea, hia⟩, fun b hb => ?_⟩
    · have e1 : ((i + 1 : Nat) : Int) = (i : Int) + 1 := by omega
      rw [e1]; exact he'
    · have hb' : b < s.heap.objs.size := by
        have e' : b = e ∨ b = it := by simpa using hb
        rcases e' with z | z
        · rw [z]; exact hel
        · rw [z]; exact hil
      rw [upd_ne (Nat.ne_of_lt hb')]
      exact (hf b hb).1
  done := by
    intro X hP hw hK hc i pins s σ H E I hf st hg
    subst hP hw hK
    obtain ⟨⟨old, he⟩, hit, hne, hea, hia⟩ := st
    obtain ⟨xs, hq, hx⟩ := hg
    obtain ⟨its, rv, p, hz⟩ := I.tuple hq
    obtain ⟨f0, f1, f2, f3, f4, f5⟩ := hf it (by simp)
    have hl := rv.length
    have hn : i = its.toArray.size := by simp; omega
    subst hn
    exact wpAny_pyNext_enum_endD (Draws.tuple (prog := X.prog) (w := X.w) (A := X.A.in1) (I.ok.hd hc) it a (Ne.symm hia) its.toArray) he ⟨hit, p⟩ fun h' eb => ⟨rfl, I.turned (t' := s.toks) (fun b o hb q => eb b o hb q) f0 f1 f3 f4 f5⟩
  self := fun A i s Q E st h => let ⟨⟨_, he⟩, _⟩ := st; wpAny_pyIter_enum he h
def iEnumT (K : PySem.W.Frag) (ta : TA) : TI := fun σ H R => ta σ H fun vs H1 => ∃ a xs, vs = [.ref a] ∧ SqT K H1 a xs ∧ R (IteT K a) H1
theorem pi_enumT {X : Cx} {e : Expr} {ta : TA} {p pos tpos : Pos} {elts : List Expr} {kk : Nat} (hg : Gl X "enumerate") (hm : X.mg "enumerate" = none) (ha : PA X [e] ta) (hs : starEach [e] X.env = [(false, eval e X.env)] := by rfl) :
    PI X (.Tuple elts kk tpos) (.Call (.Name "enumerate" p) [e] [] pos) (iEnumT X.K ta) := by
  refine ⟨fun pins s σ H R I h => ?_⟩
  refine Call_ (ld_blt I hg hm boot_enumerate (PyProof.Rows.callWith_type1 (thn (ha.run pos pins s σ H _ I h) fun us s1 ⟨vs, H1, I1, r1, q1⟩ => ?_) hs rfl))
  obtain ⟨a, xs, ex, hq, q⟩ := q1
  subst ex
  cases r1 with
  | cons r rr =>
    cases rr
    cases r
    obtain ⟨its, rv, p', hz⟩ := I1.tuple hq
    have la : a < s1.heap.objs.size := by obtain ⟨_, y, _⟩ := p'; exact Heap.lt_size y
    refine call_enumerate_tuple (show s1.heap.IsTuple a its.toArray from p') fun h' he hit hsz hk => wpAny_pyIter_enum he ?_
    have I2 : Inv X pins σ H1 { s1 with heap := h' } := I1.kept (t' := s1.toks) hk
    refine ⟨s1.heap.objs.size + 1, [s1.heap.objs.size + 1, s1.heap.objs.size], _, _, H1, rfl, I2, turn_enumT a (s1.heap.objs.size + 1) s1.heap.objs.size, ⟨⟨.none, he⟩, hit, Nat.succ_ne_self _, Nat.ne_of_gt (Nat.lt_succ_of_lt la), Nat.ne_of_gt la⟩, fun b hb => ?_, q⟩
    have e' : b = s1.heap.objs.size + 1 ∨ b = s1.heap.objs.size := by simpa using hb
    have hle : s1.heap.objs.size ≤ b := by
      rcases e' with z | z
      · rw [z]; exact Nat.le_add_right _ _
      · rw [z]; exact Nat.le_refl _
    exact I1.fpOk hle (I1.hok.fresh hle)
theorem walk_enumT {K : PySem.W.Frag} {a : Addr} {xs : List V} : Walk (IteT K a) xs.length (fun H => SqT K H a xs) (YPair (fun i => some (.int (i : Nat))) (fun i => xs[i]?)) := by
  refine ⟨fun i _ hi q => ⟨xs, xs[i], q, by simp [hi]⟩, fun _ q => ⟨xs, q, rfl⟩, fun i H v H' _ q y => ?_⟩
  obtain ⟨T, x, h1, h2, h3, h4⟩ := y
  exact ⟨T, .int (i : Nat), x, h1, h2, h3, rfl, h4 xs q⟩
/-! ### f(e, ..), f an instance: a reading that speaks of no context -/
def tCallI (C : Addr) (sp : Sp) (E : XK) (tf : TE) (t : TA) : TE := fun σ H Q => tf σ H fun y H1 => ∃ a, y = V.ref a ∧ t σ H1 fun vs H2 => (∃ dx fs, H2 a = some (.ins C dx fs)) ∧ sp (V.ref a :: vs) H2 Q E
theorem pe_callI {X : Cx} {CX : CXT} {k : Nat} {C g : Addr} {sp : Sp} {E : XK} {fe e : Expr} {es : List Expr} {tf : TE} {t : TA} {pos : Pos} (hf : PE X fe tf) (c : StX.CallO X.K C g) (F : FnR X.prog X.w X.K X.mg X.base CX k g sp) (hr : Room k X.A) (hx : Passes CX X E) (ha : PA X (e :: es) t)
    (ht : eval (.Call fe (e :: es) [] pos) X.env = (do callWith pos (← eval fe X.env) [] (backTo pos (starEach (e :: es) X.env)) (backToKw pos (keywordEach [] X.env))) := by rfl)
    (he : starEach (e :: es) X.env = (false, eval e X.env) :: starEach es X.env := by rfl) (hpl : (backTo pos (starEach es X.env)).any (·.1) = false := by rfl) : PE X (.Call fe (e :: es) [] pos) (tCallI C sp E tf t) := by
  refine ⟨fun pins s σ H Q I h => ?_⟩
  refine Call_ (thn (hf.run pins s σ H _ I h) fun u s1 ⟨y, H1, I1, ry, a, ey, q⟩ => ?_) ht
  subst ey
  obtain rfl : u = Value.ref a := ry
  refine StX.callO_with (thn (ha.run pos pins s1 σ H1 _ I1 q) fun us s2 ⟨vs, H2, I2, r, hi, q2⟩ => ?_) he hpl
  have hi' : StX.InsC X H2 a C := .inr hi
  obtain ⟨ox, od, J, hd⟩ := StX.insC_at I2 hi'
  exact ⟨⟨C, ox, od, J, hd⟩, StX.run_callO c F hr hx I2 hi' r q2⟩
end Rz
/-! The mathematics of a ring: the ends as the greatest sum over chains, Bellman's equation, where ends repeat. -/
namespace Rm
/-- f r + f (r - 1) + .. , k terms -/
def sumBack (f : Int → Int) (r : Int) : Nat → Int
  | 0 => 0
  | k + 1 => sumBack f r k + f (r - k)
/-- the greatest of f r .. f (r - k) -/
def maxBack (f : Int → Int) (r : Int) : Nat → Int
  | 0 => f r
  | k + 1 => max (maxBack f r k) (f (r - (k + 1 : Nat)))
theorem sum_front (f : Int → Int) : ∀ (k : Nat) (r : Int), sumBack f r (k + 1) = f r + sumBack f (r - 1) k
  | 0, r => by simp [sumBack]
  | k + 1, r => by
    show sumBack f r (k + 1) + f (r - (k + 1 : Nat)) = f r + (sumBack f (r - 1) k + f (r - 1 - k))
    rw [sum_front f k r, show r - ((k + 1 : Nat) : Int) = r - 1 - k by omega]
    omega
theorem max_front (f : Int → Int) : ∀ (k : Nat) (r : Int), maxBack f r (k + 1) = max (f r) (maxBack f (r - 1) k)
  | 0, r => by simp [maxBack]
  | k + 1, r => by
    show max (maxBack f r (k + 1)) (f (r - (k + 1 + 1 : Nat))) = max (f r) (max (maxBack f (r - 1) k) (f (r - 1 - (k + 1 : Nat))))
    rw [max_front f k r, show r - ((k + 1 + 1 : Nat) : Int) = r - 1 - (k + 1 : Nat) by omega]
    omega
theorem sum_add (f : Int → Int) (r : Int) (k : Nat) : ∀ n : Nat, sumBack f r (k + n) = sumBack f r k + sumBack f (r - k) n
  | 0 => by simp [sumBack]
  | n + 1 => by
    show sumBack f r (k + n) + f (r - (k + n : Nat)) = sumBack f r k + (sumBack f (r - k) n + f (r - k - n))
    rw [sum_add f r k n, show r - ((k + n : Nat) : Int) = r - k - n by omega]
    omega
theorem sum_mono {f : Int → Int} (h : ∀ i, 0 ≤ f i) (r : Int) {j k : Nat} (hjk : j ≤ k) : sumBack f r j ≤ sumBack f r k := by
  induction k with
  | zero =>
    have : j = 0 := by omega
    subst this
    exact Int.le_refl _
  | succ k ih =>
    by_cases e : j = k + 1
    · subst e
      exact Int.le_refl _
    · have := ih (by omega)
      have h2 := h (r - k)
      show sumBack f r j ≤ sumBack f r k + f (r - k)
      omega
theorem sum_nn {f : Int → Int} (h : ∀ i, 0 ≤ f i) (r : Int) (k : Nat) : 0 ≤ sumBack f r k := sum_mono h r (Nat.zero_le k)
theorem max_ge {f : Int → Int} (r : Int) : ∀ {j k : Nat}, j ≤ k → f (r - j) ≤ maxBack f r k
  | j, 0, h => by
    have : j = 0 := by omega
    subst this
    simp [maxBack]
  | j, k + 1, h => by
    show f (r - j) ≤ max (maxBack f r k) (f (r - (k + 1 : Nat)))
    by_cases e : j = k + 1
    · subst e
      omega
    · have := max_ge (f := f) r (j := j) (k := k) (by omega)
      omega
theorem max_le {f : Int → Int} {M : Int} (h : ∀ i, f i ≤ M) (r : Int) : ∀ k : Nat, maxBack f r k ≤ M
  | 0 => h r
  | k + 1 => by
    have h1 := max_le h r k
    have h2 := h (r - (k + 1 : Nat))
    show max (maxBack f r k) (f (r - (k + 1 : Nat))) ≤ M
    omega
theorem max_mono {f : Int → Int} (r : Int) {j k : Nat} (h : j ≤ k) : maxBack f r j ≤ maxBack f r k := by
  induction k with
  | zero =>
    have : j = 0 := by omega
    subst this
    exact Int.le_refl _
  | succ k ih =>
    by_cases e : j = k + 1
    · subst e
      exact Int.le_refl _
    · have := ih (by omega)
      show maxBack f r j ≤ max (maxBack f r k) (f (r - (k + 1 : Nat)))
      omega

/-- readers in a ring: days, books at first, all books, all days, the slowest -/
structure Ring (N : Nat) (d s : Int → Int) (B T M : Int) : Prop where
  pos : 0 < N
  dper : ∀ i t : Int, d (i + N * t) = d i
  sper : ∀ i t : Int, s (i + N * t) = s i
  d1 : ∀ i, 1 ≤ d i
  s0 : ∀ i, 0 ≤ s i
  b : ∀ r, sumBack s r N = B
  b1 : 1 ≤ B
  t : ∀ r, sumBack d r N = T
  mu : ∀ i, d i ≤ M
  ma : ∃ i, d i = M

/-- the sum of the chain from reading x of reader r that goes k readers back -/
def ch (d s : Int → Int) (r : Int) (k : Nat) (x : Int) : Int := sumBack d r (k + 1) + (x - sumBack s r k) * maxBack d r k
/-- e is the greatest of them -/
def IsEnd (d s : Int → Int) (r x e : Int) : Prop := (∀ k, sumBack s r k ≤ x → ch d s r k x ≤ e) ∧ ∃ k, sumBack s r k ≤ x ∧ ch d s r k x = e
theorem IsEnd.inj {d s : Int → Int} {r x e e' : Int} (h : IsEnd d s r x e) (h' : IsEnd d s r x e') : e = e' := by
  obtain ⟨k, h1, h2⟩ := h.2
  obtain ⟨k', h1', h2'⟩ := h'.2
  have := h.1 k' h1'
  have := h'.1 k h1
  omega

section
variable {N : Nat} {d s : Int → Int} {B T M : Int} (R : Ring N d s B T M)
include R
theorem Ring.sumS (r : Int) (k : Nat) : ∀ m : Nat, sumBack s r (k + m * N) = sumBack s r k + m * B
  | 0 => by simp
  | m + 1 => by
    rw [show k + (m + 1) * N = k + m * N + N by rw [Nat.add_mul, Nat.one_mul, Nat.add_assoc], sum_add, Ring.sumS r k m, R.b, show ((m + 1 : Nat) : Int) = (m : Int) + 1 by omega, Int.add_mul]
    omega
theorem Ring.sumD (r : Int) (k : Nat) : ∀ m : Nat, sumBack d r (k + m * N) = sumBack d r k + m * T
  | 0 => by simp
  | m + 1 => by
    rw [show k + (m + 1) * N = k + m * N + N by rw [Nat.add_mul, Nat.one_mul, Nat.add_assoc], sum_add, Ring.sumD r k m, R.t, show ((m + 1 : Nat) : Int) = (m : Int) + 1 by omega, Int.add_mul]
    omega
theorem Ring.maxM (r : Int) {k : Nat} (h : N ≤ k + 1) : maxBack d r k = M := by
  obtain ⟨i, hi⟩ := R.ma
  have hN := R.pos
  have h0 : 0 ≤ (r - i) % (N : Int) := Int.emod_nonneg _ (by omega)
  have h1 : (r - i) % (N : Int) < N := Int.emod_lt_of_pos _ (by omega)
  have e : r - (((r - i) % (N : Int)).toNat : Nat) = i + N * ((r - i) / (N : Int)) := by
    have := Int.emod_add_mul_ediv (r - i) (N : Int)
    omega
  have h2 := max_ge (f := d) r (j := ((r - i) % (N : Int)).toNat) (k := k) (by omega)
  rw [e, R.dper, hi] at h2
  have h3 := max_le R.mu r k
  omega
theorem Ring.M1 : 1 ≤ M := by
  obtain ⟨i, hi⟩ := R.ma
  have := R.d1 i
  omega
theorem Ring.round (r x : Int) (k : Nat) {m : Nat} (hm : 1 ≤ m) : ch d s r (k + m * N) x = sumBack d r (k + 1) + (x - sumBack s r k) * M + m * (T - B * M) := by
  unfold ch
  have e1 : sumBack d r (k + m * N + 1) = sumBack d r (k + 1) + m * T := by
    rw [show k + m * N + 1 = k + 1 + m * N by omega, R.sumD]
  have e2 : N ≤ k + m * N + 1 := by
    have : 1 * N ≤ m * N := Nat.mul_le_mul_right N hm
    omega
  rw [e1, R.sumS, R.maxM r e2]
  have e3 : (x - (sumBack s r k + m * B)) * M = (x - sumBack s r k) * M - m * (B * M) := by
    rw [show x - (sumBack s r k + m * B) = (x - sumBack s r k) - m * B by omega, Int.sub_mul, Int.mul_assoc]
  rw [e3, Int.mul_sub]
  omega
end

/-- what the loop over the first i readers back has found -/
def Sofar (N : Nat) (d s : Int → Int) (r x : Int) (i : Nat) (L : Int) : Prop :=
  (∀ j m : Nat, j < i → sumBack s r (j + m * N) ≤ x → ch d s r (j + m * N) x ≤ L) ∧ ((i = 0 ∧ L = 0) ∨ ∃ k, sumBack s r k ≤ x ∧ ch d s r k x = L)
section
variable {N : Nat} {d s : Int → Int} {B T M : Int} (R : Ring N d s B T M)
include R
theorem Ring.ch_pos (r x : Int) (k : Nat) (h : sumBack s r k ≤ x) : 1 ≤ ch d s r k x := by
  unfold ch
  have h1 : d (r - k) ≤ sumBack d r (k + 1) := by
    have := sum_nn (f := d) (fun i => by have := R.d1 i; omega) r k
    show d (r - k) ≤ sumBack d r k + d (r - k)
    omega
  have h2 := R.d1 (r - k)
  have h3 : 0 ≤ maxBack d r k := by
    have := max_ge (f := d) r (j := 0) (k := k) (Nat.zero_le _)
    have := R.d1 (r - (0 : Nat))
    omega
  have h4 := Int.mul_nonneg (show 0 ≤ x - sumBack s r k by omega) h3
  omega
theorem Ring.step {r x L : Int} {i : Nat} (P : Sofar N d s r x i L) (hl : sumBack s r i ≤ x) {L2 : Int}
    (h2 : L2 = if B ≤ x - sumBack s r i then max (max L (ch d s r i x)) (sumBack d r (i + 1) + (x - sumBack s r i) * M + (if 0 < T - B * M then (x - sumBack s r i) / B else 1) * (T - B * M)) else max L (ch d s r i x)) :
    Sofar N d s r x (i + 1) L2 := by
  have P1 := P.1
  have hB := R.b1
  have hge : max L (ch d s r i x) ≤ L2 := by
    rw [h2]
    split <;> omega
  have key : ∀ m : Nat, 1 ≤ m → sumBack s r (i + m * N) ≤ x → ch d s r (i + m * N) x ≤ L2 := by
    intro m hm hv
    rw [R.round r x i hm]
    rw [R.sumS] at hv
    have hmB : (1 : Int) * B ≤ m * B := Int.mul_le_mul_of_nonneg_right (by omega) (by omega)
    have hBl : B ≤ x - sumBack s r i := by omega
    rw [if_pos hBl] at h2
    have hc : (m : Int) * (T - B * M) ≤ (if 0 < T - B * M then (x - sumBack s r i) / B else 1) * (T - B * M) := by
      split
      · rename_i hg
        refine Int.mul_le_mul_of_nonneg_right ?_ (by omega)
        exact (Int.le_ediv_iff_mul_le (by omega)).mpr (by omega)
      · rename_i hg
        have h5 : (0 : Int) ≤ ((m : Int) - 1) * (-(T - B * M)) := Int.mul_nonneg (by omega) (by omega)
        rw [Int.sub_mul, Int.mul_neg] at h5
        omega
    omega
  refine ⟨fun j m hj hv => ?_, ?_⟩
  · by_cases e : j = i
    · subst e
      cases m with
      | zero =>
        have e0 : j + 0 * N = j := by omega
        rw [e0]
        omega
      | succ m => exact key (m + 1) (by omega) hv
    · have := P1 j m (by omega) hv
      omega
  · right
    have hcp := R.ch_pos r x i hl
    have hL : ∃ k, sumBack s r k ≤ x ∧ ch d s r k x = max L (ch d s r i x) := by
      rcases P.2 with ⟨h0, hL0⟩ | ⟨k, hk, hk2⟩
      · exact ⟨i, hl, by omega⟩
      · by_cases hh : ch d s r i x ≤ L
        · exact ⟨k, hk, by omega⟩
        · exact ⟨i, hl, by omega⟩
    by_cases hBl : B ≤ x - sumBack s r i
    · rw [if_pos hBl] at h2
      -- the candidate of whole rounds is a chain too
      have hcand : ∃ k, sumBack s r k ≤ x ∧ ch d s r k x = sumBack d r (i + 1) + (x - sumBack s r i) * M + (if 0 < T - B * M then (x - sumBack s r i) / B else 1) * (T - B * M) := by
        by_cases hg : 0 < T - B * M
        · rw [if_pos hg]
          have hq1 : 1 ≤ (x - sumBack s r i) / B := (Int.le_ediv_iff_mul_le (by omega)).mpr (by omega)
          have hq2 : (x - sumBack s r i) / B * B ≤ x - sumBack s r i := Int.ediv_mul_le _ (by omega)
          have hqn : ((((x - sumBack s r i) / B).toNat : Nat) : Int) = (x - sumBack s r i) / B := by omega
          refine ⟨i + ((x - sumBack s r i) / B).toNat * N, ?_, ?_⟩
          · rw [R.sumS, hqn]
            omega
          · rw [R.round r x i (by omega), hqn]
        · rw [if_neg hg]
          refine ⟨i + 1 * N, ?_, ?_⟩
          · rw [R.sumS]
            omega
          · rw [R.round r x i (by omega)]
            simp
      obtain ⟨k1, a1, a2⟩ := hL
      obtain ⟨k2, c1, c2⟩ := hcand
      by_cases hh : max L (ch d s r i x) ≤ sumBack d r (i + 1) + (x - sumBack s r i) * M + (if 0 < T - B * M then (x - sumBack s r i) / B else 1) * (T - B * M)
      · exact ⟨k2, c1, by rw [c2, h2]; omega⟩
      · exact ⟨k1, a1, by rw [a2, h2]; omega⟩
    · rw [if_neg hBl] at h2
      rw [h2]
      exact hL
theorem Ring.fin {r x L : Int} {i : Nat} (P : Sofar N d s r x i L) (hi : i = N ∨ (0 < i ∧ x < sumBack s r i)) : IsEnd d s r x L := by
  have P1 := P.1
  have hN := R.pos
  refine ⟨fun k hk => ?_, ?_⟩
  · have ek : k = k % N + k / N * N := by
      have := Nat.mod_add_div k N
      rw [Nat.mul_comm] at this
      exact this.symm
    rw [ek] at hk ⊢
    refine P1 _ _ ?_ hk
    rcases hi with hi | ⟨_, hi⟩
    · rw [hi]
      exact Nat.mod_lt _ hN
    · rcases Nat.lt_or_ge (k % N) i with h | h
      · exact h
      · have := sum_mono R.s0 r h
        have h2 := R.sumS r (k % N) (k / N)
        have h3 : (0 : Int) ≤ ((k / N : Nat) : Int) * B := Int.mul_nonneg (Int.natCast_nonneg _) (by have := R.b1; omega)
        omega
  · rcases P.2 with ⟨h0, _⟩ | h
    · rcases hi with hi | ⟨hi, _⟩ <;> omega
    · exact h
theorem Ring.sofar0 (r x : Int) : Sofar N d s r x 0 0 := ⟨fun _ _ h => absurd h (Nat.not_lt_zero _), .inl ⟨rfl, rfl⟩⟩
theorem Ring.ends (r : Int) {x : Int} (hx : 0 ≤ x) : ∃ e, IsEnd d s r x e := by
  have go : ∀ n i L, i + n = N → sumBack s r i ≤ x → Sofar N d s r x i L → ∃ e, IsEnd d s r x e := by
    intro n
    induction n with
    | zero =>
      intro i L hi _ P
      exact ⟨L, R.fin P (.inl (by omega))⟩
    | succ n ih =>
      intro i L hi hl P
      have P' := R.step P hl rfl
      by_cases h : sumBack s r (i + 1) ≤ x
      · exact ih (i + 1) _ (by omega) h P'
      · exact ⟨_, R.fin P' (.inr ⟨by omega, by omega⟩)⟩
  exact go N 0 0 (by omega) (by show (0 : Int) ≤ x; exact hx) (R.sofar0 r x)
end
/-- the day on which reading x of reader r ends -/
noncomputable def E (d s : Int → Int) (r x : Int) : Int := open Classical in if h : ∃ e, IsEnd d s r x e then Classical.choose h else 0
section
variable {N : Nat} {d s : Int → Int} {B T M : Int} (R : Ring N d s B T M)
include R
theorem Ring.isE (r : Int) {x : Int} (hx : 0 ≤ x) : IsEnd d s r x (E d s r x) := by
  have h := R.ends r hx
  unfold E
  rw [dif_pos h]
  exact Classical.choose_spec h
theorem Ring.E_of {r x e : Int} (h : IsEnd d s r x e) : E d s r x = e := by
  have h' : ∃ e, IsEnd d s r x e := ⟨e, h⟩
  unfold E
  rw [dif_pos h']
  exact (Classical.choose_spec h').inj h
theorem Ring.E_per (r x t : Int) : E d s (r + N * t) x = E d s r x := by
  have hs : ∀ k, sumBack s (r + N * t) k = sumBack s r k := by
    intro k
    induction k with
    | zero => rfl
    | succ k ih =>
      show sumBack s (r + N * t) k + s (r + N * t - k) = sumBack s r k + s (r - k)
      rw [ih, show r + N * t - k = (r - k) + N * t by omega, R.sper]
  have hd : ∀ k, sumBack d (r + N * t) k = sumBack d r k := by
    intro k
    induction k with
    | zero => rfl
    | succ k ih =>
      show sumBack d (r + N * t) k + d (r + N * t - k) = sumBack d r k + d (r - k)
      rw [ih, show r + N * t - k = (r - k) + N * t by omega, R.dper]
  have hm : ∀ k, maxBack d (r + N * t) k = maxBack d r k := by
    intro k
    induction k with
    | zero => exact R.dper r t
    | succ k ih =>
      show max (maxBack d (r + N * t) k) (d (r + N * t - (k + 1 : Nat))) = max (maxBack d r k) (d (r - (k + 1 : Nat)))
      rw [ih, show r + N * t - ((k + 1 : Nat) : Int) = (r - (k + 1 : Nat)) + N * t by omega, R.dper]
  have he : IsEnd d s (r + N * t) x = IsEnd d s r x := by
    funext e
    unfold IsEnd ch
    simp only [hs, hd, hm]
  unfold E
  rw [he]
theorem Ring.E_mod (r x : Int) : E d s (r % N) x = E d s r x := by
  have h := R.E_per (r % N) x (r / N)
  rw [Int.emod_add_mul_ediv] at h
  exact h.symm
theorem Ring.ub (r : Int) {x : Int} (hx : 0 ≤ x) (k : Nat) (h : sumBack s r k ≤ x) : ch d s r k x ≤ E d s r x := (R.isE r hx).1 k h
theorem Ring.att (r : Int) {x : Int} (hx : 0 ≤ x) : ∃ k, sumBack s r k ≤ x ∧ ch d s r k x = E d s r x := (R.isE r hx).2
theorem Ring.low (r : Int) {x : Int} (hx : 0 ≤ x) : (x + 1) * d r ≤ E d s r x := by
  have h := R.ub r hx 0 hx
  have e : ch d s r 0 x = (x + 1) * d r := by
    unfold ch
    show 0 + d (r - (0 : Nat)) + (x - 0) * d r = _
    rw [show r - ((0 : Nat) : Int) = r by omega, Int.add_mul]
    simp
    omega
  omega
theorem Ring.E1 (r : Int) {x : Int} (hx : 0 ≤ x) : d r ≤ E d s r x := by
  have h := R.low r hx
  have h2 : (0 : Int) ≤ x * d r := Int.mul_nonneg hx (by have := R.d1 r; omega)
  rw [Int.add_mul] at h
  omega
/-- Bellman, from below -/
theorem Ring.next (r : Int) {x : Int} (hx : 0 ≤ x) : E d s r x + d r ≤ E d s r (x + 1) := by
  obtain ⟨k, hk, e⟩ := R.att r hx
  have h := R.ub r (x := x + 1) (by omega) k (by omega)
  have h2 := max_ge (f := d) r (j := 0) (k := k) (Nat.zero_le _)
  rw [show r - ((0 : Nat) : Int) = r by omega] at h2
  unfold ch at h e
  have e3 : (x + 1 - sumBack s r k) * maxBack d r k = (x - sumBack s r k) * maxBack d r k + maxBack d r k := by
    rw [show x + 1 - sumBack s r k = (x - sumBack s r k) + 1 by omega, Int.add_mul]
    omega
  omega
theorem Ring.from (r : Int) {x : Int} (hs : s r ≤ x) : E d s (r - 1) (x - s r) + d r ≤ E d s r x := by
  have hx : 0 ≤ x - s r := by omega
  have hx0 : 0 ≤ x := by have := R.s0 r; omega
  obtain ⟨k, hk, e⟩ := R.att (r - 1) hx
  have hS : sumBack s r (k + 1) = s r + sumBack s (r - 1) k := sum_front s k r
  have h := R.ub r hx0 (k + 1) (by omega)
  unfold ch at h e
  rw [sum_front d (k + 1) r, hS, max_front d k r] at h
  have e2 : x - (s r + sumBack s (r - 1) k) = x - s r - sumBack s (r - 1) k := by omega
  rw [e2] at h
  have h4 : (x - s r - sumBack s (r - 1) k) * maxBack d (r - 1) k ≤ (x - s r - sumBack s (r - 1) k) * max (d r) (maxBack d (r - 1) k) :=
    Int.mul_le_mul_of_nonneg_left (by omega) (by omega)
  omega
/-- .. from above -/
theorem Ring.bell (r : Int) {x : Int} (hx : 0 ≤ x) : E d s r x = d r ∨ (1 ≤ x ∧ E d s r x = E d s r (x - 1) + d r) ∨ (s r ≤ x ∧ E d s r x = E d s (r - 1) (x - s r) + d r) := by
  obtain ⟨k, hk, e⟩ := R.att r hx
  cases k with
  | zero =>
    have e0 : ch d s r 0 x = d r + x * d r := by
      unfold ch
      show 0 + d (r - (0 : Nat)) + (x - 0) * d r = _
      rw [show r - ((0 : Nat) : Int) = r by omega]
      simp
    by_cases h0 : x = 0
    · left
      subst h0
      simp at e0
      omega
    · right; left
      refine ⟨by omega, ?_⟩
      have h1 := R.ub r (x := x - 1) (by omega) 0 (by show (0 : Int) ≤ x - 1; omega)
      have e1 : ch d s r 0 (x - 1) = x * d r := by
        unfold ch
        show 0 + d (r - (0 : Nat)) + (x - 1 - 0) * d r = _
        rw [show r - ((0 : Nat) : Int) = r by omega, show x - 1 - 0 = x - 1 by omega, Int.sub_mul]
        omega
      have h2 := R.next r (x := x - 1) (by omega)
      rw [show x - 1 + 1 = x by omega] at h2
      omega
  | succ k =>
    have hS : sumBack s r (k + 1) = s r + sumBack s (r - 1) k := sum_front s k r
    have hnn := sum_nn R.s0 (r - 1) k
    have hsr : s r ≤ x := by omega
    have h1 := R.ub (r - 1) (x := x - s r) (by omega) k (by omega)
    have h3 := R.from r hsr
    have e' := e
    unfold ch at e' h1
    rw [sum_front d (k + 1) r, hS, max_front d k r, show x - (s r + sumBack s (r - 1) k) = x - s r - sumBack s (r - 1) k by omega] at e'
    by_cases hm : d r ≤ maxBack d (r - 1) k
    · right; right
      refine ⟨hsr, ?_⟩
      rw [show max (d r) (maxBack d (r - 1) k) = maxBack d (r - 1) k by omega] at e'
      omega
    · rw [show max (d r) (maxBack d (r - 1) k) = d r by omega] at e'
      by_cases hl : x - s r - sumBack s (r - 1) k = 0
      · right; right
        refine ⟨hsr, ?_⟩
        rw [hl] at e' h1
        simp at e' h1
        omega
      · right; left
        have hx1 : 1 ≤ x := by have := R.s0 r; omega
        refine ⟨hx1, ?_⟩
        have h5 := R.ub r (x := x - 1) (by omega) (k + 1) (by omega)
        unfold ch at h5
        rw [sum_front d (k + 1) r, hS, max_front d k r, show max (d r) (maxBack d (r - 1) k) = d r by omega,
          show x - 1 - (s r + sumBack s (r - 1) k) = (x - s r - sumBack s (r - 1) k) - 1 by omega, Int.sub_mul] at h5
        have h2 := R.next r (x := x - 1) (by omega)
        rw [show x - 1 + 1 = x by omega] at h2
        omega
end
end Rm
/-! Where ends repeat; counts by a day; heaps. -/
namespace Rm
def Rep (d s : Int → Int) (p q x : Int) : Prop := ∀ r, E d s r (x + p) = E d s r x + q
section
variable {N : Nat} {d s : Int → Int} {B T M : Int} (R : Ring N d s B T M)
include R
theorem Ring.T0 : 0 ≤ T := by
  have h := sum_nn (f := d) (fun i => by have := R.d1 i; omega) 0 N
  rw [R.t] at h
  exact h
theorem Ring.BM0 : 0 ≤ B * M := Int.mul_nonneg (by have := R.b1; omega) (by have := R.M1; omega)
theorem Ring.S_le (r : Int) {k m : Nat} (h : k ≤ m * N) : sumBack s r k ≤ m * B := by
  have h1 := sum_mono R.s0 r h
  have h2 := R.sumS r 0 m
  rw [Nat.zero_add] at h2
  rw [h2] at h1
  show sumBack s r k ≤ m * B
  have : sumBack s r 0 = 0 := rfl
  omega
/-- one more unit of x -/
theorem ch_succ (d s : Int → Int) (r : Int) (k : Nat) (x y : Int) : ch d s r k (x + y) = ch d s r k x + y * maxBack d r k := by
  unfold ch
  rw [show x + y - sumBack s r k = (x - sumBack s r k) + y by omega, Int.add_mul]
  omega
theorem Ring.rep_slow (hg : T ≤ B * M) {x : Int} (hx : 4 * B + B * M ≤ x) : Rep d s 1 M x := by
  intro r
  have hB := R.b1
  have hT := R.T0
  have hBM := R.BM0
  have hM := R.M1
  have hx0 : 0 ≤ x := by omega
  apply Int.le_antisymm
  · obtain ⟨k, hk, e⟩ := R.att r (x := x + 1) (by omega)
    by_cases hv : sumBack s r k ≤ x
    · have h1 := R.ub r hx0 k hv
      rw [ch_succ R d s r k x 1] at e
      have h2 := max_le R.mu r k
      omega
    · have hkN : 2 * N ≤ k := by
        rcases Nat.lt_or_ge k (2 * N) with h | h
        · have := R.S_le r (k := k) (m := 2) (by omega)
          omega
        · exact h
      obtain ⟨k', rfl⟩ : ∃ k', k = k' + 1 * N := ⟨k - 1 * N, by omega⟩
      rw [R.round r (x + 1) k' (by omega)] at e
      rw [R.sumS] at hk hv
      have h1 := R.ub r hx0 k' (by omega)
      unfold ch at h1
      rw [R.maxM r (k := k') (by omega)] at h1
      rw [show x + 1 - sumBack s r k' = (x - sumBack s r k') + 1 by omega, Int.add_mul] at e
      omega
  · obtain ⟨k, hk, e⟩ := R.att r hx0
    by_cases hm : maxBack d r k = M
    · have h1 := R.ub r (x := x + 1) (by omega) k (by omega)
      rw [ch_succ R d s r k x 1, hm] at h1
      omega
    · have hkN : k + 1 < N := by
        rcases Nat.lt_or_ge (k + 1) N with h | h
        · exact h
        · exact absurd (R.maxM r h) hm
      have hS := R.S_le r (k := k) (m := 1) (by omega)
      have h1 := R.ub r (x := x + 1) (by omega) (k + 1 * N) (by rw [R.sumS]; omega)
      rw [R.round r (x + 1) k (by omega)] at h1
      have h2 := max_le R.mu r k
      unfold ch at e
      have h3 : (x - sumBack s r k) * (maxBack d r k + 1) ≤ (x - sumBack s r k) * M := Int.mul_le_mul_of_nonneg_left (by omega) (by omega)
      rw [Int.mul_add] at h3
      rw [show x + 1 - sumBack s r k = (x - sumBack s r k) + 1 by omega, Int.add_mul] at h1
      omega
theorem Ring.rep_fast (hg : B * M < T) {x : Int} (hx : 4 * B + B * M ≤ x) : Rep d s B T x := by
  intro r
  have hB := R.b1
  have hBM := R.BM0
  have hx0 : 0 ≤ x := by omega
  apply Int.le_antisymm
  · obtain ⟨k, hk, e⟩ := R.att r (x := x + B) (by omega)
    by_cases hkN : 2 * N ≤ k + 1
    · obtain ⟨k', rfl⟩ : ∃ k', k = k' + 1 * N := ⟨k - 1 * N, by have := R.pos; omega⟩
      rw [R.round r (x + B) k' (by omega)] at e
      rw [R.sumS] at hk
      have h1 := R.ub r hx0 k' (by omega)
      unfold ch at h1
      rw [R.maxM r (k := k') (by omega)] at h1
      rw [show x + B - sumBack s r k' = (x - sumBack s r k') + B by omega, Int.add_mul] at e
      omega
    · have hS := R.S_le r (k := k) (m := 2) (by omega)
      have h1 := R.ub r hx0 (k + 1 * N) (by rw [R.sumS]; omega)
      rw [R.round r x k (by omega)] at h1
      unfold ch at e
      have h2 := max_le R.mu r k
      have h3 : (x + B - sumBack s r k) * maxBack d r k ≤ (x + B - sumBack s r k) * M := Int.mul_le_mul_of_nonneg_left h2 (by omega)
      rw [show x + B - sumBack s r k = (x - sumBack s r k) + B by omega, Int.add_mul, Int.add_mul] at h3
      rw [show x + B - sumBack s r k = (x - sumBack s r k) + B by omega, Int.add_mul] at e
      omega
  · obtain ⟨k, hk, e⟩ := R.att r hx0
    have h1 := R.ub r (x := x + B) (by omega) (k + 1 * N) (by rw [R.sumS]; omega)
    rw [R.round r (x + B) k (by omega)] at h1
    have h2 := max_le R.mu r k
    unfold ch at e
    have h3 : (x - sumBack s r k) * maxBack d r k ≤ (x - sumBack s r k) * M := Int.mul_le_mul_of_nonneg_left h2 (by omega)
    rw [show x + B - sumBack s r k = (x - sumBack s r k) + B by omega, Int.add_mul] at h1
    omega
theorem Ring.claim {p q m r : Int} (hp : 1 ≤ p) (hm : 1 ≤ m) (hsm : s r ≤ m) (h1 : E d s r (m - 1 + p) = E d s r (m - 1) + q) (h2 : E d s (r - 1) (m - s r + p) = E d s (r - 1) (m - s r) + q) : E d s r (m + p) = E d s r m + q := by
  have n1 := R.next r (x := m - 1) (by omega)
  have n2 := R.next r (x := m - 1 + p) (by omega)
  have f1 := R.from r (x := m) hsm
  have f2 := R.from r (x := m + p) (by omega)
  have b1 := R.bell r (x := m) (by omega)
  have b2 := R.bell r (x := m + p) (by omega)
  have e1 := R.E1 r (x := m - 1) (by omega)
  have e2 := R.E1 r (x := m - 1 + p) (by omega)
  have d1 := R.d1 r
  rw [show m - 1 + 1 = m by omega] at n1
  rw [show m - 1 + p + 1 = m + p by omega] at n2
  rw [show m + p - s r = m - s r + p by omega] at f2 b2
  rw [show m + p - 1 = m - 1 + p by omega] at b2
  rcases b1 with b1 | ⟨_, b1⟩ | ⟨_, b1⟩ <;> rcases b2 with b2 | ⟨_, b2⟩ | ⟨_, b2⟩ <;> omega
/-- as many in a row as the greatest number of books at first: then all later ones -/
theorem Ring.later {w p q n : Int} (hw : ∀ i, s i ≤ w) (hw1 : ∃ i, s i = w) (w1 : 1 ≤ w) (hp : 1 ≤ p) (hn : 0 ≤ n) (h : ∀ j, 0 ≤ j → j < w → Rep d s p q (n + j)) : ∀ m, n ≤ m → Rep d s p q m := by
  have go : ∀ k : Nat, ∀ m, n ≤ m → m - n < k → Rep d s p q m := by
    intro k
    induction k with
    | zero => intro m h1 h2; omega
    | succ k ih =>
      intro m h1 h2
      by_cases hmw : m < n + w
      · have := h (m - n) (by omega) (by omega)
        rw [show n + (m - n) = m by omega] at this
        exact this
      · obtain ⟨r0, hr0⟩ := hw1
        -- around the ring from r0
        have around : ∀ j : Nat, E d s (r0 + j) (m + p) = E d s (r0 + j) m + q := by
          intro j
          induction j with
          | zero =>
            have hs := hw r0
            refine R.claim hp (by omega) (by rw [show r0 + ((0 : Nat) : Int) = r0 by omega]; omega) (ih (m - 1) (by omega) (by omega) _) ?_
            rw [show r0 + ((0 : Nat) : Int) = r0 by omega]
            exact ih (m - s r0) (by omega) (by omega) _
          | succ j ihj =>
            have hs := hw (r0 + (j + 1 : Nat))
            have hs0 := R.s0 (r0 + (j + 1 : Nat))
            refine R.claim hp (by omega) (by omega) (ih (m - 1) (by omega) (by omega) _) ?_
            rw [show r0 + ((j + 1 : Nat) : Int) - 1 = r0 + j by omega]
            by_cases hz : s (r0 + (j + 1 : Nat)) = 0
            · rw [hz, show m - 0 = m by omega]
              exact ihj
            · exact ih (m - s (r0 + (j + 1 : Nat))) (by omega) (by omega) _
        intro r
        have hN := R.pos
        have a0 : 0 ≤ (r - r0) % (N : Int) := Int.emod_nonneg _ (by omega)
        have h3 := around ((r - r0) % (N : Int)).toNat
        have e3 : r0 + ((((r - r0) % (N : Int)).toNat : Nat) : Int) = r + N * (-((r - r0) / (N : Int))) := by
          have := Int.emod_add_mul_ediv (r - r0) (N : Int)
          rw [Int.mul_neg]
          omega
        rw [e3, R.E_per, R.E_per] at h3
        exact h3
  intro m hm
  exact go ((m - n).toNat + 1) m hm (by omega)
theorem Ring.rounds {p q n : Int} (hp : 1 ≤ p) (h : ∀ m, n ≤ m → Rep d s p q m) (r : Int) {x : Int} (hx : n ≤ x) : ∀ k : Nat, E d s r (x + k * p) = E d s r x + k * q
  | 0 => by simp
  | k + 1 => by
    have ih := Ring.rounds hp h r hx k
    have h0 : (0 : Int) ≤ (k : Int) * p := Int.mul_nonneg (Int.natCast_nonneg _) (by omega)
    have h1 := h (x + k * p) (by omega) r
    rw [show ((k + 1 : Nat) : Int) = (k : Int) + 1 by omega, Int.add_mul, Int.add_mul, Int.one_mul, Int.one_mul, ← Int.add_assoc, h1, ih]
    omega
theorem Ring.mono (r : Int) {x : Int} (hx : 0 ≤ x) : ∀ k : Nat, E d s r x + (k + 1) * d r ≤ E d s r (x + (k + 1))
  | 0 => by
    have := R.next r hx
    simpa using this
  | k + 1 => by
    have ih := Ring.mono r hx k
    have h1 := R.next r (x := x + (k + 1)) (by omega)
    rw [show ((k + 1 : Nat) : Int) = (k : Int) + 1 by omega, show x + ((k : Int) + 1 + 1) = x + ((k : Int) + 1) + 1 by omega, Int.add_mul ((k : Int) + 1) 1]
    omega
theorem Ring.lt (r : Int) {x y : Int} (hx : 0 ≤ x) (h : x < y) : E d s r x + d r ≤ E d s r y := by
  have h1 := R.mono r hx (y - x - 1).toNat
  rw [show ((((y - x - 1).toNat : Nat) : Int) + 1) = y - x by omega, show x + (y - x) = y by omega] at h1
  have h2 : (1 : Int) * d r ≤ (y - x) * d r := Int.mul_le_mul_of_nonneg_right (by omega) (by have := R.d1 r; omega)
  omega
theorem Ring.le (r : Int) {x y : Int} (hx : 0 ≤ x) (h : x ≤ y) : E d s r x ≤ E d s r y := by
  by_cases e : x = y
  · subst e
    exact Int.le_refl _
  · have := R.lt r hx (show x < y by omega)
    have := R.d1 r
    omega
end

/-- c readings of reader r have ended by day D -/
def Cnt (d s : Int → Int) (r D c : Int) : Prop := 0 ≤ c ∧ (c = 0 ∨ E d s r (c - 1) ≤ D) ∧ D < E d s r c
noncomputable def Cn (d s : Int → Int) (r D : Int) : Int := open Classical in if h : ∃ c, Cnt d s r D c then Classical.choose h else 0
section
variable {N : Nat} {d s : Int → Int} {B T M : Int} (R : Ring N d s B T M)
include R
theorem Ring.cnt_inj {r D c c' : Int} (h : Cnt d s r D c) (h' : Cnt d s r D c') : c = c' := by
  obtain ⟨a0, a1, a2⟩ := h
  obtain ⟨b0, b1, b2⟩ := h'
  rcases Int.lt_trichotomy c c' with z | z | z
  · have := R.le r (x := c) (y := c' - 1) a0 (by omega)
    omega
  · exact z
  · have := R.le r (x := c') (y := c - 1) b0 (by omega)
    omega
theorem Ring.cnt_ex (r D : Int) : ∃ c, Cnt d s r D c := by
  have go : ∀ n : Nat, D < E d s r n → ∃ c, Cnt d s r D c := by
    intro n
    induction n with
    | zero => intro h; exact ⟨0, by omega, .inl rfl, h⟩
    | succ n ih =>
      intro h
      by_cases hh : E d s r n ≤ D
      · exact ⟨((n + 1 : Nat) : Int), by omega, .inr (by rw [show ((n + 1 : Nat) : Int) - 1 = n by omega]; exact hh), h⟩
      · exact ih (by omega)
  refine go D.toNat ?_
  have h := R.low r (x := (D.toNat : Nat)) (by omega)
  have h2 : (((D.toNat : Nat) : Int) + 1) * 1 ≤ (((D.toNat : Nat) : Int) + 1) * d r := Int.mul_le_mul_of_nonneg_left (R.d1 r) (by omega)
  omega
theorem Ring.cn (r D : Int) : Cnt d s r D (Cn d s r D) := by
  have h := R.cnt_ex r D
  unfold Cn
  rw [dif_pos h]
  exact Classical.choose_spec h
theorem Ring.cn_of {r D c : Int} (h : Cnt d s r D c) : Cn d s r D = c := R.cnt_inj (R.cn r D) h
theorem Ring.cn_per (r D t : Int) : Cn d s (r + N * t) D = Cn d s r D := by
  refine R.cn_of ?_
  have h := R.cn r D
  unfold Cnt at h ⊢
  rw [R.E_per, R.E_per]
  exact h
theorem Ring.cn_mod (r D : Int) : Cn d s (r % N) D = Cn d s r D := by
  have h := R.cn_per (r % N) D (r / N)
  rw [Int.emod_add_mul_ediv] at h
  exact h.symm
theorem Ring.cn_end (r : Int) {x : Int} (hx : 0 ≤ x) : Cn d s r (E d s r x) = x + 1 := by
  refine R.cn_of ⟨by omega, .inr (by rw [show x + 1 - 1 = x by omega]; exact Int.le_refl _), ?_⟩
  have := R.lt r hx (show x < x + 1 by omega)
  have := R.d1 r
  omega
theorem Ring.cn_before (r : Int) {x : Int} (hx : 0 ≤ x) : Cn d s r (E d s r x - 1) = x := by
  refine R.cn_of ⟨hx, ?_, by omega⟩
  by_cases h : x = 0
  · exact .inl h
  · right
    have := R.lt r (x := x - 1) (y := x) (by omega) (by omega)
    have := R.d1 r
    omega
theorem Ring.cn_next (r D : Int) : Cn d s r D ≤ Cn d s r (D + d r) ∧ Cn d s r (D + d r) ≤ Cn d s r D + 1 := by
  obtain ⟨a0, a1, a2⟩ := R.cn r D
  obtain ⟨b0, b1, b2⟩ := R.cn r (D + d r)
  have d1 := R.d1 r
  constructor
  · rcases Int.lt_or_le (Cn d s r (D + d r)) (Cn d s r D) with z | z
    · rcases a1 with a1 | a1
      · omega
      · have := R.le r (x := Cn d s r (D + d r)) (y := Cn d s r D - 1) b0 (by omega)
        omega
    · exact z
  · rcases Int.lt_or_le (Cn d s r D + 1) (Cn d s r (D + d r)) with z | z
    · rcases b1 with b1 | b1
      · omega
      · have := R.lt r (x := Cn d s r D) (y := Cn d s r (D + d r) - 1) a0 (by omega)
        omega
    · exact z
/-- a reader who has a book and is not reading begins -/
theorem Ring.cn_reads {r D : Int} (hD : 0 ≤ D) (h : Cn d s r D < s r + Cn d s (r - 1) D) : Cn d s r D + 1 ≤ Cn d s r (D + d r) := by
  obtain ⟨a0, a1, a2⟩ := R.cn r D
  obtain ⟨b0, b1, b2⟩ := R.cn r (D + d r)
  obtain ⟨c0, c1, c2⟩ := R.cn (r - 1) D
  have hs := R.s0 r
  rcases Int.lt_or_le (Cn d s r (D + d r)) (Cn d s r D + 1) with z | z
  · have h1 := R.le r (x := Cn d s r (D + d r)) (y := Cn d s r D) b0 (by omega)
    have b := R.bell r (x := Cn d s r D) a0
    rcases b with b | ⟨h2, b⟩ | ⟨h2, b⟩
    · omega
    · rcases a1 with a1 | a1 <;> omega
    · rcases c1 with c1 | c1
      · omega
      · have h3 := R.le (r - 1) (x := Cn d s r D - s r) (y := Cn d s (r - 1) D - 1) (by omega) (by omega)
        omega
  · exact z
end
theorem sum_lin (f g h : Int → Int) (r : Int) : ∀ n : Nat, sumBack (fun j => f j + g (j - 1) - h j) r n = sumBack f r n + sumBack g (r - 1) n - sumBack h r n
  | 0 => by simp [sumBack]
  | n + 1 => by
    show sumBack (fun j => f j + g (j - 1) - h j) r n + (f (r - n) + g (r - n - 1) - h (r - n)) = sumBack f r n + f (r - n) + (sumBack g (r - 1) n + g (r - 1 - n)) - (sumBack h r n + h (r - n))
    rw [sum_lin f g h r n, show r - 1 - (n : Int) = r - n - 1 by omega]
    omega
theorem sum_win {f : Int → Int} {N : Nat} (hp : ∀ i t : Int, f (i + N * t) = f i) (r : Int) : sumBack f (r - 1) N = sumBack f r N := by
  have h1 := sum_front f N r
  have h2 : sumBack f r (N + 1) = sumBack f r N + f (r - N) := rfl
  have h3 := hp (r - N) 1
  rw [show r - (N : Int) + N * 1 = r by omega] at h3
  omega
theorem sum_le {f g : Int → Int} (h : ∀ i, f i ≤ g i) (r : Int) : ∀ n : Nat, sumBack f r n ≤ sumBack g r n
  | 0 => Int.le_refl _
  | n + 1 => by
    have h1 := sum_le h r n
    have h2 := h (r - n)
    show sumBack f r n + f (r - n) ≤ sumBack g r n + g (r - n)
    omega
theorem sum_lt {f g : Int → Int} (h : ∀ i, f i ≤ g i) (r : Int) : ∀ {n j : Nat}, j < n → f (r - j) < g (r - j) → sumBack f r n < sumBack g r n
  | 0, j, hj, _ => absurd hj (Nat.not_lt_zero _)
  | n + 1, j, hj, hh => by
    show sumBack f r n + f (r - n) < sumBack g r n + g (r - n)
    by_cases e : j = n
    · subst e
      have := sum_le h r j
      omega
    · have h1 := sum_lt h r (n := n) (j := j) (by omega) hh
      have h2 := h (r - n)
      omega
theorem sum_shift (f : Int → Int) (r c : Int) : ∀ n : Nat, sumBack (fun i => f i + c) r n = sumBack f r n + n * c
  | 0 => by simp [sumBack]
  | n + 1 => by
    show sumBack (fun i => f i + c) r n + (f (r - n) + c) = sumBack f r n + f (r - n) + ((n + 1 : Nat) : Int) * c
    rw [sum_shift f r c n, show ((n + 1 : Nat) : Int) = (n : Int) + 1 by omega, Int.add_mul]
    omega
section
variable {N : Nat} {d s : Int → Int} {B T M : Int} (R : Ring N d s B T M)
include R
/-- the heaps of a day, all together: fewer than all books, as at least one is being read; at most one a reader is -/
theorem Ring.heaps {D : Int} (hD : 0 ≤ D) (r : Int) : B - N ≤ sumBack (fun j => s j + Cn d s (j - 1) D - Cn d s j (D + d j)) r N ∧ sumBack (fun j => s j + Cn d s (j - 1) D - Cn d s j (D + d j)) r N < B := by
  rw [sum_lin s (fun j => Cn d s j D) (fun j => Cn d s j (D + d j)) r N, R.b, sum_win (f := fun j => Cn d s j D) (N := N) (fun i t => R.cn_per i D t)]
  have h1 := sum_le (f := fun j => Cn d s j D) (g := fun j => Cn d s j (D + d j)) (fun i => (R.cn_next i D).1) r N
  have h2 := sum_le (f := fun j => Cn d s j (D + d j)) (g := fun j => Cn d s j D + 1) (fun i => (R.cn_next i D).2) r N
  rw [sum_shift (fun j => Cn d s j D) r 1 N] at h2
  refine ⟨by omega, ?_⟩
  -- someone reads
  have some_reads : ∃ j : Nat, j < N ∧ Cn d s (r - j) D < Cn d s (r - j) (D + d (r - j)) := by
    apply Classical.byContradiction
    intro hno
    have hall : ∀ j : Nat, j < N → s (r - j) + Cn d s (r - j - 1) D ≤ Cn d s (r - j) D := by
      intro j hj
      apply Classical.byContradiction
      intro hh
      have := R.cn_reads (r := r - j) hD (by omega)
      exact hno ⟨j, hj, by omega⟩
    have go : ∀ n : Nat, n ≤ N → sumBack s r n + sumBack (fun j => Cn d s j D) (r - 1) n ≤ sumBack (fun j => Cn d s j D) r n := by
      intro n
      induction n with
      | zero => intro _; show (0 : Int) + 0 ≤ 0; omega
      | succ n ih =>
        intro hn
        have h3 := ih (by omega)
        have h4 := hall n (by omega)
        show sumBack s r n + s (r - n) + (sumBack (fun j => Cn d s j D) (r - 1) n + Cn d s (r - 1 - n) D) ≤ sumBack (fun j => Cn d s j D) r n + Cn d s (r - n) D
        rw [show r - 1 - (n : Int) = r - n - 1 by omega]
        omega
    have h5 := go N (Nat.le_refl _)
    rw [R.b, sum_win (f := fun j => Cn d s j D) (N := N) (fun i t => R.cn_per i D t)] at h5
    have := R.b1
    omega
  obtain ⟨j, hj, hjr⟩ := some_reads
  have h6 := sum_lt (f := fun j => Cn d s j D) (g := fun j => Cn d s j (D + d j)) (fun i => (R.cn_next i D).1) r hj hjr
  omega
end

/-! ### from lists -/
/-- round the list, from any index -/
def at' (l : List Int) (i : Int) : Int := l.getD (i % (l.length : Int)).toNat 0
theorem at_per (l : List Int) (i t : Int) : at' l (i + (l.length : Int) * t) = at' l i := by
  unfold at'
  rw [Int.add_mul_emod_self_left]
theorem at_nat {l : List Int} {j : Nat} {v : Int} (h : l[j]? = some v) : at' l (j : Int) = v := by
  have hj := (List.getElem?_eq_some_iff.mp h).1
  unfold at'
  rw [Int.emod_eq_of_lt (by omega) (by omega), List.getD_eq_getElem?_getD, Int.toNat_natCast, h]
  rfl
theorem at_mem {l : List Int} (hl : 0 < l.length) (i : Int) : at' l i ∈ l := by
  unfold at'
  have h0 : 0 ≤ i % (l.length : Int) := Int.emod_nonneg _ (by omega)
  have h1 : i % (l.length : Int) < l.length := Int.emod_lt_of_pos _ (by omega)
  rw [List.getD_eq_getElem?_getD, List.getElem?_eq_getElem (show (i % (l.length : Int)).toNat < l.length by omega)]
  exact List.getElem_mem _
theorem mem_at {l : List Int} {v : Int} (h : v ∈ l) : ∃ i, at' l i = v := by
  obtain ⟨j, hj, e⟩ := List.getElem_of_mem h
  exact ⟨j, at_nat (by rw [List.getElem?_eq_getElem hj, e])⟩
theorem sum_list (l : List Int) : sumBack (at' l) ((l.length : Int) - 1) l.length = l.sum := by
  have go : ∀ n : Nat, n ≤ l.length → sumBack (at' l) ((n : Int) - 1) n = (l.take n).sum := by
    intro n
    induction n with
    | zero => intro _; simp [sumBack]
    | succ n ih =>
      intro hn
      rw [show ((n + 1 : Nat) : Int) - 1 = n by omega, sum_front, ih (by omega), List.take_add_one, List.sum_append, at_nat (List.getElem?_eq_getElem (show n < l.length by omega)), List.getElem?_eq_getElem (show n < l.length by omega)]
      simp
      omega
  have h := go l.length (Nat.le_refl _)
  rw [List.take_length] at h
  exact h
theorem sum_any {f : Int → Int} {N : Nat} (hp : ∀ i t : Int, f (i + N * t) = f i) (p q : Int) : sumBack f p N = sumBack f q N := by
  have go : ∀ (n : Nat) (r : Int), sumBack f (r - n) N = sumBack f r N := by
    intro n
    induction n with
    | zero => intro r; rw [show r - ((0 : Nat) : Int) = r by omega]
    | succ n ih =>
      intro r
      rw [show r - ((n + 1 : Nat) : Int) = r - n - 1 by omega, sum_win hp, ih]
  rcases Int.le_total p q with h | h
  · have := go (q - p).toNat q
    rw [show q - ((q - p).toNat : Int) = p by omega] at this
    exact this
  · have := go (p - q).toNat p
    rw [show p - ((p - q).toNat : Int) = q by omega] at this
    exact this.symm
theorem ring_of {ds ss : List Int} {M : Int} (hl : 0 < ds.length) (hls : ss.length = ds.length) (h1 : ∀ y ∈ ds, 1 ≤ y) (h2 : ∀ y ∈ ss, 0 ≤ y) (hB : 1 ≤ ss.sum) (hM : M ∈ ds) (hMu : ∀ y ∈ ds, y ≤ M) :
    Ring ds.length (at' ds) (at' ss) ss.sum ds.sum M where
  pos := hl
  dper := at_per ds
  sper := by rw [← hls]; exact at_per ss
  d1 := fun i => h1 _ (at_mem hl i)
  s0 := fun i => h2 _ (at_mem (by omega) i)
  b := fun r => by
    rw [sum_any (f := at' ss) (N := ds.length) (by rw [← hls]; exact at_per ss) r ((ss.length : Int) - 1), ← hls]
    exact sum_list ss
  b1 := hB
  t := fun r => by
    rw [sum_any (f := at' ds) (N := ds.length) (at_per ds) r ((ds.length : Int) - 1)]
    exact sum_list ds
  mu := fun i => hMu _ (at_mem hl i)
  ma := mem_at hM
end Rm
namespace Rp
open PySem PySem.Spec PyProof.Rows L2
def topS (i : Nat) : Stmt := PySem.Challenge.pw_readingring_k53_whole_all_undone_and_don.main.body.getD i (.Pass ⟨0, 0, 0, 0⟩)
abbrev s_iBeingRead : Stmt := inClass (topS 7) 0
abbrev s_iInvalidOperation : Stmt := inClass (topS 9) 0
abbrev s_is_number : Stmt := topS 14
abbrev s_lies_between : Stmt := topS 15
abbrev s_check_number : Stmt := topS 16
abbrev s_check_reader : Stmt := topS 17
abbrev s_rinit : Stmt := inClass (topS 23) 0
abbrev s_rdays : Stmt := inClass (topS 23) 2
abbrev s_rstarts : Stmt := inClass (topS 23) 3
abbrev s_rbooks : Stmt := inClass (topS 23) 4
abbrev s_rpace : Stmt := inClass (topS 23) 5
abbrev s_rwith_days : Stmt := inClass (topS 23) 6
abbrev s_rlen : Stmt := inClass (topS 23) 7
abbrev s_rcall : Stmt := inClass (topS 23) 10
abbrev s_check_part : Stmt := topS 24
abbrev s_end_day : Stmt := topS 25
abbrev s_reader_after : Stmt := topS 27
abbrev s_tinit : Stmt := inClass (topS 30) 0
abbrev s_first_table : Stmt := topS 31
abbrev s_copied_table : Stmt := topS 32
abbrev s_books_at : Stmt := topS 33
abbrev s_places_of : Stmt := topS 34
abbrev s_has_book : Stmt := topS 35
abbrev s_place_of : Stmt := topS 36
abbrev s_begin_readings : Stmt := topS 37
abbrev s_end_readings : Stmt := topS 38
abbrev s_put_book : Stmt := topS 39
abbrev s_let_pass : Stmt := topS 40
abbrev s_add_book : Stmt := topS 41
abbrev s_change_days : Stmt := topS 42
abbrev s_take_book : Stmt := topS 43
abbrev s_is_operation : Stmt := topS 46
abbrev s_carry_out : Stmt := topS 47
abbrev s_cinit : Stmt := inClass (topS 49) 0
abbrev s_vinit : Stmt := inClass (topS 50) 0
abbrev s_vreplay : Stmt := inClass (topS 50) 1
abbrev s_vtoday : Stmt := inClass (topS 50) 2
abbrev s_vwaiting_books : Stmt := inClass (topS 50) 3
abbrev s_vbeing_read : Stmt := inClass (topS 50) 4
abbrev s_vhistory : Stmt := inClass (topS 50) 5
abbrev s_vpass_days : Stmt := inClass (topS 50) 6
abbrev s_vadd : Stmt := inClass (topS 50) 7
abbrev s_vset_days : Stmt := inClass (topS 50) 8
abbrev s_vtake : Stmt := inClass (topS 50) 9
abbrev s_vundo : Stmt := inClass (topS 50) 10
abbrev s_vredo : Stmt := inClass (topS 50) 11
abbrev s_vapply : Stmt := inClass (topS 50) 12
abbrev s_vwaiting_after : Stmt := inClass (topS 50) 13
abbrev s_venter : Stmt := inClass (topS 50) 14
abbrev s_vexit : Stmt := inClass (topS 50) 15
abbrev s_vlen : Stmt := inClass (topS 50) 17
abbrev s_vcontains : Stmt := inClass (topS 50) 18
abbrev s_executed : Stmt := topS 51
abbrev s_ltaken : Stmt := topS 53
abbrev s_lparts : Stmt := topS 54
abbrev s_lbegin : Stmt := topS 55
abbrev s_lfirst : Stmt := topS 56
abbrev s_lday : Stmt := topS 57
abbrev s_lcopied : Stmt := topS 58
abbrev s_lraised : Stmt := topS 59
abbrev s_lbooks : Stmt := topS 60
abbrev s_ldeed : Stmt := topS 61
abbrev s_ldoes : Stmt := topS 62
abbrev s_lasked : Stmt := topS 63
abbrev s_ltold : Stmt := topS 64
abbrev s_law : Stmt := topS 65
abbrev N_iBeingRead : List Str := ["self", "book"]
abbrev P_iBeingRead : List Str := ["self", "book"]
theorem sc_iBeingRead : FnScope N_iBeingRead P_iBeingRead (defScope s_iBeingRead) := ⟨rfl, rfl, rfl, by decide +kernel, rfl, by decide +kernel, by decide +kernel⟩
abbrev N_iInvalidOperation : List Str := ["self", "index"]
abbrev P_iInvalidOperation : List Str := ["self", "index"]
theorem sc_iInvalidOperation : FnScope N_iInvalidOperation P_iInvalidOperation (defScope s_iInvalidOperation) := ⟨rfl, rfl, rfl, by decide +kernel, rfl, by decide +kernel, by decide +kernel⟩
abbrev N_is_number : List Str := ["value"]
abbrev P_is_number : List Str := ["value"]
theorem sc_is_number : FnScope N_is_number P_is_number (defScope s_is_number) := ⟨rfl, rfl, rfl, by decide +kernel, rfl, by decide +kernel, by decide +kernel⟩
abbrev N_lies_between : List Str := ["value", "low", "high"]
abbrev P_lies_between : List Str := ["value", "low", "high"]
theorem sc_lies_between : FnScope N_lies_between P_lies_between (defScope s_lies_between) := ⟨rfl, rfl, rfl, by decide +kernel, rfl, by decide +kernel, by decide +kernel⟩
abbrev N_check_number : List Str := ["value", "low", "high"]
abbrev P_check_number : List Str := ["value", "low", "high"]
theorem sc_check_number : FnScope N_check_number P_check_number (defScope s_check_number) := ⟨rfl, rfl, rfl, by decide +kernel, rfl, by decide +kernel, by decide +kernel⟩
abbrev N_check_reader : List Str := ["ring", "reader"]
abbrev P_check_reader : List Str := ["ring", "reader"]
theorem sc_check_reader : FnScope N_check_reader P_check_reader (defScope s_check_reader) := ⟨rfl, rfl, rfl, by decide +kernel, rfl, by decide +kernel, by decide +kernel⟩
abbrev N_rinit : List Str := ["self", "days", "starts"]
abbrev P_rinit : List Str := ["self", "days", "starts"]
theorem sc_rinit : FnScope N_rinit P_rinit (defScope s_rinit) := ⟨rfl, rfl, rfl, by decide +kernel, rfl, by decide +kernel, by decide +kernel⟩
abbrev N_rdays : List Str := ["self"]
abbrev P_rdays : List Str := ["self"]
theorem sc_rdays : FnScope N_rdays P_rdays (defScope s_rdays) := ⟨rfl, rfl, rfl, by decide +kernel, rfl, by decide +kernel, by decide +kernel⟩
abbrev N_rstarts : List Str := ["self"]
abbrev P_rstarts : List Str := ["self"]
theorem sc_rstarts : FnScope N_rstarts P_rstarts (defScope s_rstarts) := ⟨rfl, rfl, rfl, by decide +kernel, rfl, by decide +kernel, by decide +kernel⟩
abbrev N_rbooks : List Str := ["self"]
abbrev P_rbooks : List Str := ["self"]
theorem sc_rbooks : FnScope N_rbooks P_rbooks (defScope s_rbooks) := ⟨rfl, rfl, rfl, by decide +kernel, rfl, by decide +kernel, by decide +kernel⟩
abbrev N_rpace : List Str := ["self"]
abbrev P_rpace : List Str := ["self"]
theorem sc_rpace : FnScope N_rpace P_rpace (defScope s_rpace) := ⟨rfl, rfl, rfl, by decide +kernel, rfl, by decide +kernel, by decide +kernel⟩
abbrev N_rwith_days : List Str := ["self", "reader", "days", "changed"]
abbrev P_rwith_days : List Str := ["self", "reader", "days"]
theorem sc_rwith_days : FnScope N_rwith_days P_rwith_days (defScope s_rwith_days) := ⟨rfl, rfl, rfl, by decide +kernel, rfl, by decide +kernel, by decide +kernel⟩
abbrev N_rlen : List Str := ["self"]
abbrev P_rlen : List Str := ["self"]
theorem sc_rlen : FnScope N_rlen P_rlen (defScope s_rlen) := ⟨rfl, rfl, rfl, by decide +kernel, rfl, by decide +kernel, by decide +kernel⟩
abbrev N_rcall : List Str := ["self", "reader", "number"]
abbrev P_rcall : List Str := ["self", "reader", "number"]
theorem sc_rcall : FnScope N_rcall P_rcall (defScope s_rcall) := ⟨rfl, rfl, rfl, by decide +kernel, rfl, by decide +kernel, by decide +kernel⟩
abbrev N_check_part : List Str := ["part", "values", "limits", "lengths", "low", "high", "fewest", "most", "index", "value"]
abbrev P_check_part : List Str := ["part", "values", "limits", "lengths"]
theorem sc_check_part : FnScope N_check_part P_check_part (defScope s_check_part) := ⟨rfl, rfl, rfl, by decide +kernel, rfl, by decide +kernel, by decide +kernel⟩
abbrev N_end_day : List Str := ["ring", "reader", "number", "books", "slowest", "gain", "latest", "total", "slowest_met", "left", "step", "rounds"]
abbrev P_end_day : List Str := ["ring", "reader", "number"]
theorem sc_end_day : FnScope N_end_day P_end_day (defScope s_end_day) := ⟨rfl, rfl, rfl, by decide +kernel, rfl, by decide +kernel, by decide +kernel⟩
abbrev N_reader_after : List Str := ["ring", "reader"]
abbrev P_reader_after : List Str := ["ring", "reader"]
theorem sc_reader_after : FnScope N_reader_after P_reader_after (defScope s_reader_after) := ⟨rfl, rfl, rfl, by decide +kernel, rfl, by decide +kernel, by decide +kernel⟩
abbrev N_tinit : List Str := ["self", "ring", "day", "heaps", "current", "coming"]
abbrev P_tinit : List Str := ["self", "ring", "day", "heaps", "current", "coming"]
theorem sc_tinit : FnScope N_tinit P_tinit (defScope s_tinit) := ⟨rfl, rfl, rfl, by decide +kernel, rfl, by decide +kernel, by decide +kernel⟩
abbrev N_first_table : List Str := ["ring", "heaps", "coming", "many", "table"]
abbrev P_first_table : List Str := ["ring"]
theorem sc_first_table : FnScope N_first_table P_first_table (defScope s_first_table) := ⟨rfl, rfl, rfl, by decide +kernel, rfl, by decide +kernel, by decide +kernel⟩
abbrev N_copied_table : List Str := ["table"]
abbrev P_copied_table : List Str := ["table"]
theorem sc_copied_table : FnScope N_copied_table P_copied_table (defScope s_copied_table) := ⟨rfl, rfl, rfl, by decide +kernel, rfl, by decide +kernel, by decide +kernel⟩
abbrev N_books_at : List Str := ["table", "reader"]
abbrev P_books_at : List Str := ["table", "reader"]
theorem sc_books_at : FnScope N_books_at P_books_at (defScope s_books_at) := ⟨rfl, rfl, rfl, by decide +kernel, rfl, by decide +kernel, by decide +kernel⟩
abbrev N_places_of : List Str := ["table", "reader", "book"]
abbrev P_places_of : List Str := ["table"]
theorem sc_places_of : FnScope N_places_of P_places_of (defScope s_places_of) := ⟨rfl, rfl, rfl, by decide +kernel, rfl, by decide +kernel, by decide +kernel⟩
abbrev N_has_book : List Str := ["table", "book"]
abbrev P_has_book : List Str := ["table", "book"]
theorem sc_has_book : FnScope N_has_book P_has_book (defScope s_has_book) := ⟨rfl, rfl, rfl, by decide +kernel, rfl, by decide +kernel, by decide +kernel⟩
abbrev N_place_of : List Str := ["table", "book"]
abbrev P_place_of : List Str := ["table", "book"]
theorem sc_place_of : FnScope N_place_of P_place_of (defScope s_place_of) := ⟨rfl, rfl, rfl, by decide +kernel, rfl, by decide +kernel, by decide +kernel⟩
abbrev N_begin_readings : List Str := ["table", "reader", "needed", "heap"]
abbrev P_begin_readings : List Str := ["table"]
theorem sc_begin_readings : FnScope N_begin_readings P_begin_readings (defScope s_begin_readings) := ⟨rfl, rfl, rfl, by decide +kernel, rfl, by decide +kernel, by decide +kernel⟩
abbrev N_end_readings : List Str := ["table", "ended", "reader", "reading"]
abbrev P_end_readings : List Str := ["table"]
theorem sc_end_readings : FnScope N_end_readings P_end_readings (defScope s_end_readings) := ⟨rfl, rfl, rfl, by decide +kernel, rfl, by decide +kernel, by decide +kernel⟩
abbrev N_put_book : List Str := ["table", "reader", "book"]
abbrev P_put_book : List Str := ["table", "reader", "book"]
theorem sc_put_book : FnScope N_put_book P_put_book (defScope s_put_book) := ⟨rfl, rfl, rfl, by decide +kernel, rfl, by decide +kernel, by decide +kernel⟩
abbrev N_let_pass : List Str := ["table", "count", "ended", "_"]
abbrev P_let_pass : List Str := ["table", "count"]
theorem sc_let_pass : FnScope N_let_pass P_let_pass (defScope s_let_pass) := ⟨rfl, rfl, rfl, by decide +kernel, rfl, by decide +kernel, by decide +kernel⟩
abbrev N_add_book : List Str := ["table", "reader", "book"]
abbrev P_add_book : List Str := ["table", "reader"]
theorem sc_add_book : FnScope N_add_book P_add_book (defScope s_add_book) := ⟨rfl, rfl, rfl, by decide +kernel, rfl, by decide +kernel, by decide +kernel⟩
abbrev N_change_days : List Str := ["table", "reader", "days", "former"]
abbrev P_change_days : List Str := ["table", "reader", "days"]
theorem sc_change_days : FnScope N_change_days P_change_days (defScope s_change_days) := ⟨rfl, rfl, rfl, by decide +kernel, rfl, by decide +kernel, by decide +kernel⟩
abbrev N_take_book : List Str := ["table", "book", "reader", "other"]
abbrev P_take_book : List Str := ["table", "book"]
theorem sc_take_book : FnScope N_take_book P_take_book (defScope s_take_book) := ⟨rfl, rfl, rfl, by decide +kernel, rfl, by decide +kernel, by decide +kernel⟩
abbrev N_is_operation : List Str := ["value"]
abbrev P_is_operation : List Str := ["value"]
theorem sc_is_operation : FnScope N_is_operation P_is_operation (defScope s_is_operation) := ⟨rfl, rfl, rfl, by decide +kernel, rfl, by decide +kernel, by decide +kernel⟩
abbrev N_carry_out : List Str := ["table", "operation", "name", "arguments", "action"]
abbrev P_carry_out : List Str := ["table", "operation"]
theorem sc_carry_out : FnScope N_carry_out P_carry_out (defScope s_carry_out) := ⟨rfl, rfl, rfl, by decide +kernel, rfl, by decide +kernel, by decide +kernel⟩
abbrev N_cinit : List Str := ["self", "tables", "operations", "undone"]
abbrev P_cinit : List Str := ["self", "tables", "operations", "undone"]
theorem sc_cinit : FnScope N_cinit P_cinit (defScope s_cinit) := ⟨rfl, rfl, rfl, by decide +kernel, rfl, by decide +kernel, by decide +kernel⟩
abbrev N_vinit : List Str := ["self", "ring"]
abbrev P_vinit : List Str := ["self", "ring"]
theorem sc_vinit : FnScope N_vinit P_vinit (defScope s_vinit) := ⟨rfl, rfl, rfl, by decide +kernel, rfl, by decide +kernel, by decide +kernel⟩
abbrev N_vreplay : List Str := ["cls", "ring", "operations", "live"]
abbrev P_vreplay : List Str := ["cls", "ring", "operations"]
theorem sc_vreplay : FnScope N_vreplay P_vreplay (defScope s_vreplay) := ⟨rfl, rfl, rfl, by decide +kernel, rfl, by decide +kernel, by decide +kernel⟩
abbrev N_vtoday : List Str := ["self"]
abbrev P_vtoday : List Str := ["self"]
theorem sc_vtoday : FnScope N_vtoday P_vtoday (defScope s_vtoday) := ⟨rfl, rfl, rfl, by decide +kernel, rfl, by decide +kernel, by decide +kernel⟩
abbrev N_vwaiting_books : List Str := ["self"]
abbrev P_vwaiting_books : List Str := ["self"]
theorem sc_vwaiting_books : FnScope N_vwaiting_books P_vwaiting_books (defScope s_vwaiting_books) := ⟨rfl, rfl, rfl, by decide +kernel, rfl, by decide +kernel, by decide +kernel⟩
abbrev N_vbeing_read : List Str := ["self"]
abbrev P_vbeing_read : List Str := ["self"]
theorem sc_vbeing_read : FnScope N_vbeing_read P_vbeing_read (defScope s_vbeing_read) := ⟨rfl, rfl, rfl, by decide +kernel, rfl, by decide +kernel, by decide +kernel⟩
abbrev N_vhistory : List Str := ["self"]
abbrev P_vhistory : List Str := ["self"]
theorem sc_vhistory : FnScope N_vhistory P_vhistory (defScope s_vhistory) := ⟨rfl, rfl, rfl, by decide +kernel, rfl, by decide +kernel, by decide +kernel⟩
abbrev N_vpass_days : List Str := ["self", "count"]
abbrev P_vpass_days : List Str := ["self", "count"]
theorem sc_vpass_days : FnScope N_vpass_days P_vpass_days (defScope s_vpass_days) := ⟨rfl, rfl, rfl, by decide +kernel, rfl, by decide +kernel, by decide +kernel⟩
abbrev N_vadd : List Str := ["self", "reader"]
abbrev P_vadd : List Str := ["self", "reader"]
theorem sc_vadd : FnScope N_vadd P_vadd (defScope s_vadd) := ⟨rfl, rfl, rfl, by decide +kernel, rfl, by decide +kernel, by decide +kernel⟩
abbrev N_vset_days : List Str := ["self", "reader", "days"]
abbrev P_vset_days : List Str := ["self", "reader", "days"]
theorem sc_vset_days : FnScope N_vset_days P_vset_days (defScope s_vset_days) := ⟨rfl, rfl, rfl, by decide +kernel, rfl, by decide +kernel, by decide +kernel⟩
abbrev N_vtake : List Str := ["self", "book"]
abbrev P_vtake : List Str := ["self", "book"]
theorem sc_vtake : FnScope N_vtake P_vtake (defScope s_vtake) := ⟨rfl, rfl, rfl, by decide +kernel, rfl, by decide +kernel, by decide +kernel⟩
abbrev N_vundo : List Str := ["self", "course", "undone"]
abbrev P_vundo : List Str := ["self"]
theorem sc_vundo : FnScope N_vundo P_vundo (defScope s_vundo) := ⟨rfl, rfl, rfl, by decide +kernel, rfl, by decide +kernel, by decide +kernel⟩
abbrev N_vredo : List Str := ["self", "undone", "_", "course"]
abbrev P_vredo : List Str := ["self"]
theorem sc_vredo : FnScope N_vredo P_vredo (defScope s_vredo) := ⟨rfl, rfl, rfl, by decide +kernel, rfl, by decide +kernel, by decide +kernel⟩
abbrev N_vapply : List Str := ["self", "operations", "index", "operation", "course", "results", "result"]
abbrev P_vapply : List Str := ["self", "operations"]
theorem sc_vapply : FnScope N_vapply P_vapply (defScope s_vapply) := ⟨rfl, rfl, rfl, by decide +kernel, rfl, by decide +kernel, by decide +kernel⟩
abbrev N_vwaiting_after : List Str := ["self", "operations"]
abbrev P_vwaiting_after : List Str := ["self", "operations"]
theorem sc_vwaiting_after : FnScope N_vwaiting_after P_vwaiting_after (defScope s_vwaiting_after) := ⟨rfl, rfl, rfl, by decide +kernel, rfl, by decide +kernel, by decide +kernel⟩
abbrev N_venter : List Str := ["self"]
abbrev P_venter : List Str := ["self"]
theorem sc_venter : FnScope N_venter P_venter (defScope s_venter) := ⟨rfl, rfl, rfl, by decide +kernel, rfl, by decide +kernel, by decide +kernel⟩
abbrev N_vexit : List Str := ["self", "kind", "value", "trace"]
abbrev P_vexit : List Str := ["self", "kind", "value", "trace"]
theorem sc_vexit : FnScope N_vexit P_vexit (defScope s_vexit) := ⟨rfl, rfl, rfl, by decide +kernel, rfl, by decide +kernel, by decide +kernel⟩
abbrev N_vlen : List Str := ["self"]
abbrev P_vlen : List Str := ["self"]
theorem sc_vlen : FnScope N_vlen P_vlen (defScope s_vlen) := ⟨rfl, rfl, rfl, by decide +kernel, rfl, by decide +kernel, by decide +kernel⟩
abbrev N_vcontains : List Str := ["self", "book"]
abbrev P_vcontains : List Str := ["self", "book"]
theorem sc_vcontains : FnScope N_vcontains P_vcontains (defScope s_vcontains) := ⟨rfl, rfl, rfl, by decide +kernel, rfl, by decide +kernel, by decide +kernel⟩
abbrev N_executed : List Str := ["course", "operation", "table", "result"]
abbrev P_executed : List Str := ["course", "operation"]
theorem sc_executed : FnScope N_executed P_executed (defScope s_executed) := ⟨rfl, rfl, rfl, by decide +kernel, rfl, by decide +kernel, by decide +kernel⟩
abbrev N_ltaken : List Str := ["_law_row", "_law_many", "_law_found", "_law_cell"]
abbrev P_ltaken : List Str := ["_law_row", "_law_many"]
theorem sc_ltaken : FnScope N_ltaken P_ltaken (defScope s_ltaken) := ⟨rfl, rfl, rfl, by decide +kernel, rfl, by decide +kernel, by decide +kernel⟩
abbrev N_lparts : List Str := ["_law_row", "_law_most", "_law_size", "_law_far", "_law_days", "_law_starts", "_law_k"]
abbrev P_lparts : List Str := ["_law_row", "_law_most"]
theorem sc_lparts : FnScope N_lparts P_lparts (defScope s_lparts) := ⟨rfl, rfl, rfl, by decide +kernel, rfl, by decide +kernel, by decide +kernel⟩
abbrev N_lbegin : List Str := ["_law_h", "_law_k"]
abbrev P_lbegin : List Str := ["_law_h"]
theorem sc_lbegin : FnScope N_lbegin P_lbegin (defScope s_lbegin) := ⟨rfl, rfl, rfl, by decide +kernel, rfl, by decide +kernel, by decide +kernel⟩
abbrev N_lfirst : List Str := ["_law_parts_here", "_law_days", "_law_starts", "_law_h", "_law_number", "_law_many"]
abbrev P_lfirst : List Str := ["_law_parts_here"]
theorem sc_lfirst : FnScope N_lfirst P_lfirst (defScope s_lfirst) := ⟨rfl, rfl, rfl, by decide +kernel, rfl, by decide +kernel, by decide +kernel⟩
abbrev N_lday : List Str := ["_law_h", "_law_ended", "_law_size", "_law_k", "_law_day_here", "_law_book"]
abbrev P_lday : List Str := ["_law_h"]
theorem sc_lday : FnScope N_lday P_lday (defScope s_lday) := ⟨rfl, rfl, rfl, by decide +kernel, rfl, by decide +kernel, by decide +kernel⟩
abbrev N_lcopied : List Str := ["_law_h", "_law_new", "_law_heap"]
abbrev P_lcopied : List Str := ["_law_h"]
theorem sc_lcopied : FnScope N_lcopied P_lcopied (defScope s_lcopied) := ⟨rfl, rfl, rfl, by decide +kernel, rfl, by decide +kernel, by decide +kernel⟩
abbrev N_lraised : List Str := ["_law_work", "e", "_law_kinds"]
abbrev P_lraised : List Str := ["_law_work"]
theorem sc_lraised : FnScope N_lraised P_lraised (defScope s_lraised) := ⟨rfl, rfl, rfl, by decide +kernel, rfl, by decide +kernel, by decide +kernel⟩
abbrev N_lbooks : List Str := ["_law_h", "_law_found", "_law_heap", "_law_one"]
abbrev P_lbooks : List Str := ["_law_h"]
theorem sc_lbooks : FnScope N_lbooks P_lbooks (defScope s_lbooks) := ⟨rfl, rfl, rfl, by decide +kernel, rfl, by decide +kernel, by decide +kernel⟩
abbrev N_ldeed : List Str := ["_law_row", "_law_h", "_law_way", "_law_size"]
abbrev P_ldeed : List Str := ["_law_row", "_law_h"]
theorem sc_ldeed : FnScope N_ldeed P_ldeed (defScope s_ldeed) := ⟨rfl, rfl, rfl, by decide +kernel, rfl, by decide +kernel, by decide +kernel⟩
abbrev N_ldoes : List Str := ["_law_h", "_law_deed_here", "_law_new", "_law_found", "_law_day_here", "_law_k", "_law_one"]
abbrev P_ldoes : List Str := ["_law_h", "_law_deed_here"]
theorem sc_ldoes : FnScope N_ldoes P_ldoes (defScope s_ldoes) := ⟨rfl, rfl, rfl, by decide +kernel, rfl, by decide +kernel, by decide +kernel⟩
abbrev N_lasked : List Str := ["_law_live", "_law_deed_here"]
abbrev P_lasked : List Str := ["_law_live", "_law_deed_here"]
theorem sc_lasked : FnScope N_lasked P_lasked (defScope s_lasked) := ⟨rfl, rfl, rfl, by decide +kernel, rfl, by decide +kernel, by decide +kernel⟩
abbrev N_ltold : List Str := ["_law_live", "_law_heap"]
abbrev P_ltold : List Str := ["_law_live"]
theorem sc_ltold : FnScope N_ltold P_ltold (defScope s_ltold) := ⟨rfl, rfl, rfl, by decide +kernel, rfl, by decide +kernel, by decide +kernel⟩
abbrev N_law : List Str := ["_law_script", "_law_row", "_law_parts_here", "_law_ring", "_law_live", "_law_h", "_law_deeds", "_law_states", "_law_turn", "_law_deed_here", "_law_new", "_law_due", "_law_word", "_law_last", "_law_other", "_law_k"]
abbrev P_law : List Str := ["_law_script"]
theorem sc_law : FnScope N_law P_law (defScope s_law) := ⟨rfl, rfl, rfl, by decide +kernel, rfl, by decide +kernel, by decide +kernel⟩
/-- what the top has written: the defs where they stand, the class, constants, built-ins that are still so -/
structure Tx (K : PySem.W.Frag) (mg : Str → Option Value) where
  C : Addr
  a_iBeingRead : Addr
  d_iBeingRead : FuncData
  F_iBeingRead : Fun K "__init__" "BeingRead.__init__" s_iBeingRead a_iBeingRead d_iBeingRead
  b_iBeingRead : Binds K d_iBeingRead P_iBeingRead []
  c_iBeingRead : Addr
  gc_iBeingRead : mg "BeingRead" = some (.ref c_iBeingRead)
  ic_iBeingRead : PySem.W.findIn K (.ref c_iBeingRead) "__init__" = some (some (.ref a_iBeingRead))
  it_iBeingRead : PySem.W.typeIn K (.ref a_iBeingRead) = some (.type "function")
  io_iBeingRead : oxB K c_iBeingRead = true
  a_iInvalidOperation : Addr
  d_iInvalidOperation : FuncData
  F_iInvalidOperation : Fun K "__init__" "InvalidOperation.__init__" s_iInvalidOperation a_iInvalidOperation d_iInvalidOperation
  b_iInvalidOperation : Binds K d_iInvalidOperation P_iInvalidOperation []
  c_iInvalidOperation : Addr
  gc_iInvalidOperation : mg "InvalidOperation" = some (.ref c_iInvalidOperation)
  ic_iInvalidOperation : PySem.W.findIn K (.ref c_iInvalidOperation) "__init__" = some (some (.ref a_iInvalidOperation))
  it_iInvalidOperation : PySem.W.typeIn K (.ref a_iInvalidOperation) = some (.type "function")
  io_iInvalidOperation : oxB K c_iInvalidOperation = true
  a_is_number : Addr
  d_is_number : FuncData
  F_is_number : Fun K "is_number" "is_number" s_is_number a_is_number d_is_number
  b_is_number : Binds K d_is_number P_is_number []
  g_is_number : mg "is_number" = some (.ref a_is_number)
  a_lies_between : Addr
  d_lies_between : FuncData
  F_lies_between : Fun K "lies_between" "lies_between" s_lies_between a_lies_between d_lies_between
  b_lies_between : Binds K d_lies_between P_lies_between []
  g_lies_between : mg "lies_between" = some (.ref a_lies_between)
  a_check_number : Addr
  d_check_number : FuncData
  F_check_number : Fun K "check_number" "check_number" s_check_number a_check_number d_check_number
  b_check_number : Binds K d_check_number P_check_number []
  g_check_number : mg "check_number" = some (.ref a_check_number)
  a_check_reader : Addr
  d_check_reader : FuncData
  F_check_reader : Fun K "check_reader" "check_reader" s_check_reader a_check_reader d_check_reader
  b_check_reader : Binds K d_check_reader P_check_reader []
  g_check_reader : mg "check_reader" = some (.ref a_check_reader)
  a_rinit : Addr
  d_rinit : FuncData
  F_rinit : Fun K "__init__" "Ring.__init__" s_rinit a_rinit d_rinit
  b_rinit : Binds K d_rinit P_rinit []
  a_rdays : Addr
  d_rdays : FuncData
  F_rdays : Fun K "days" "Ring.days" s_rdays a_rdays d_rdays
  b_rdays : Binds K d_rdays P_rdays []
  a_rstarts : Addr
  d_rstarts : FuncData
  F_rstarts : Fun K "starts" "Ring.starts" s_rstarts a_rstarts d_rstarts
  b_rstarts : Binds K d_rstarts P_rstarts []
  a_rbooks : Addr
  d_rbooks : FuncData
  F_rbooks : Fun K "books" "Ring.books" s_rbooks a_rbooks d_rbooks
  b_rbooks : Binds K d_rbooks P_rbooks []
  a_rpace : Addr
  d_rpace : FuncData
  F_rpace : Fun K "pace" "Ring.pace" s_rpace a_rpace d_rpace
  b_rpace : Binds K d_rpace P_rpace []
  a_rwith_days : Addr
  d_rwith_days : FuncData
  F_rwith_days : Fun K "with_days" "Ring.with_days" s_rwith_days a_rwith_days d_rwith_days
  b_rwith_days : Binds K d_rwith_days P_rwith_days []
  a_rlen : Addr
  d_rlen : FuncData
  F_rlen : Fun K "__len__" "Ring.__len__" s_rlen a_rlen d_rlen
  b_rlen : Binds K d_rlen P_rlen []
  a_rcall : Addr
  d_rcall : FuncData
  F_rcall : Fun K "__call__" "Ring.__call__" s_rcall a_rcall d_rcall
  b_rcall : Binds K d_rcall P_rcall []
  a_check_part : Addr
  d_check_part : FuncData
  F_check_part : Fun K "check_part" "check_part" s_check_part a_check_part d_check_part
  b_check_part : Binds K d_check_part P_check_part []
  g_check_part : mg "check_part" = some (.ref a_check_part)
  a_end_day : Addr
  d_end_day : FuncData
  F_end_day : Fun K "end_day" "end_day" s_end_day a_end_day d_end_day
  b_end_day : Binds K d_end_day P_end_day []
  g_end_day : mg "end_day" = some (.ref a_end_day)
  a_reader_after : Addr
  d_reader_after : FuncData
  F_reader_after : Fun K "reader_after" "reader_after" s_reader_after a_reader_after d_reader_after
  b_reader_after : Binds K d_reader_after P_reader_after []
  g_reader_after : mg "reader_after" = some (.ref a_reader_after)
  a_tinit : Addr
  d_tinit : FuncData
  F_tinit : Fun K "__init__" "Table.__init__" s_tinit a_tinit d_tinit
  b_tinit : Binds K d_tinit P_tinit []
  a_first_table : Addr
  d_first_table : FuncData
  F_first_table : Fun K "first_table" "first_table" s_first_table a_first_table d_first_table
  b_first_table : Binds K d_first_table P_first_table []
  g_first_table : mg "first_table" = some (.ref a_first_table)
  a_copied_table : Addr
  d_copied_table : FuncData
  F_copied_table : Fun K "copied_table" "copied_table" s_copied_table a_copied_table d_copied_table
  b_copied_table : Binds K d_copied_table P_copied_table []
  g_copied_table : mg "copied_table" = some (.ref a_copied_table)
  a_books_at : Addr
  d_books_at : FuncData
  F_books_at : Fun K "books_at" "books_at" s_books_at a_books_at d_books_at
  b_books_at : Binds K d_books_at P_books_at []
  g_books_at : mg "books_at" = some (.ref a_books_at)
  a_places_of : Addr
  d_places_of : FuncData
  F_places_of : Fun K "places_of" "places_of" s_places_of a_places_of d_places_of
  b_places_of : Binds K d_places_of P_places_of []
  g_places_of : mg "places_of" = some (.ref a_places_of)
  a_has_book : Addr
  d_has_book : FuncData
  F_has_book : Fun K "has_book" "has_book" s_has_book a_has_book d_has_book
  b_has_book : Binds K d_has_book P_has_book []
  g_has_book : mg "has_book" = some (.ref a_has_book)
  a_place_of : Addr
  d_place_of : FuncData
  F_place_of : Fun K "place_of" "place_of" s_place_of a_place_of d_place_of
  b_place_of : Binds K d_place_of P_place_of []
  g_place_of : mg "place_of" = some (.ref a_place_of)
  a_begin_readings : Addr
  d_begin_readings : FuncData
  F_begin_readings : Fun K "begin_readings" "begin_readings" s_begin_readings a_begin_readings d_begin_readings
  b_begin_readings : Binds K d_begin_readings P_begin_readings []
  g_begin_readings : mg "begin_readings" = some (.ref a_begin_readings)
  a_end_readings : Addr
  d_end_readings : FuncData
  F_end_readings : Fun K "end_readings" "end_readings" s_end_readings a_end_readings d_end_readings
  b_end_readings : Binds K d_end_readings P_end_readings []
  g_end_readings : mg "end_readings" = some (.ref a_end_readings)
  a_put_book : Addr
  d_put_book : FuncData
  F_put_book : Fun K "put_book" "put_book" s_put_book a_put_book d_put_book
  b_put_book : Binds K d_put_book P_put_book []
  g_put_book : mg "put_book" = some (.ref a_put_book)
  a_let_pass : Addr
  d_let_pass : FuncData
  F_let_pass : Fun K "let_pass" "let_pass" s_let_pass a_let_pass d_let_pass
  b_let_pass : Binds K d_let_pass P_let_pass []
  g_let_pass : mg "let_pass" = some (.ref a_let_pass)
  a_add_book : Addr
  d_add_book : FuncData
  F_add_book : Fun K "add_book" "add_book" s_add_book a_add_book d_add_book
  b_add_book : Binds K d_add_book P_add_book []
  g_add_book : mg "add_book" = some (.ref a_add_book)
  a_change_days : Addr
  d_change_days : FuncData
  F_change_days : Fun K "change_days" "change_days" s_change_days a_change_days d_change_days
  b_change_days : Binds K d_change_days P_change_days []
  g_change_days : mg "change_days" = some (.ref a_change_days)
  a_take_book : Addr
  d_take_book : FuncData
  F_take_book : Fun K "take_book" "take_book" s_take_book a_take_book d_take_book
  b_take_book : Binds K d_take_book P_take_book []
  g_take_book : mg "take_book" = some (.ref a_take_book)
  a_is_operation : Addr
  d_is_operation : FuncData
  F_is_operation : Fun K "is_operation" "is_operation" s_is_operation a_is_operation d_is_operation
  b_is_operation : Binds K d_is_operation P_is_operation []
  g_is_operation : mg "is_operation" = some (.ref a_is_operation)
  a_carry_out : Addr
  d_carry_out : FuncData
  F_carry_out : Fun K "carry_out" "carry_out" s_carry_out a_carry_out d_carry_out
  b_carry_out : Binds K d_carry_out P_carry_out []
  g_carry_out : mg "carry_out" = some (.ref a_carry_out)
  a_cinit : Addr
  d_cinit : FuncData
  F_cinit : Fun K "__init__" "Course.__init__" s_cinit a_cinit d_cinit
  b_cinit : Binds K d_cinit P_cinit []
  a_vinit : Addr
  d_vinit : FuncData
  F_vinit : Fun K "__init__" "LiveRing.__init__" s_vinit a_vinit d_vinit
  b_vinit : Binds K d_vinit P_vinit []
  a_vreplay : Addr
  d_vreplay : FuncData
  F_vreplay : Fun K "replay" "LiveRing.replay" s_vreplay a_vreplay d_vreplay
  b_vreplay : Binds K d_vreplay P_vreplay []
  a_vtoday : Addr
  d_vtoday : FuncData
  F_vtoday : Fun K "today" "LiveRing.today" s_vtoday a_vtoday d_vtoday
  b_vtoday : Binds K d_vtoday P_vtoday []
  a_vwaiting_books : Addr
  d_vwaiting_books : FuncData
  F_vwaiting_books : Fun K "waiting_books" "LiveRing.waiting_books" s_vwaiting_books a_vwaiting_books d_vwaiting_books
  b_vwaiting_books : Binds K d_vwaiting_books P_vwaiting_books []
  a_vbeing_read : Addr
  d_vbeing_read : FuncData
  F_vbeing_read : Fun K "being_read" "LiveRing.being_read" s_vbeing_read a_vbeing_read d_vbeing_read
  b_vbeing_read : Binds K d_vbeing_read P_vbeing_read []
  a_vhistory : Addr
  d_vhistory : FuncData
  F_vhistory : Fun K "history" "LiveRing.history" s_vhistory a_vhistory d_vhistory
  b_vhistory : Binds K d_vhistory P_vhistory []
  a_vpass_days : Addr
  d_vpass_days : FuncData
  F_vpass_days : Fun K "pass_days" "LiveRing.pass_days" s_vpass_days a_vpass_days d_vpass_days
  b_vpass_days : Binds K d_vpass_days P_vpass_days []
  a_vadd : Addr
  d_vadd : FuncData
  F_vadd : Fun K "add" "LiveRing.add" s_vadd a_vadd d_vadd
  b_vadd : Binds K d_vadd P_vadd []
  a_vset_days : Addr
  d_vset_days : FuncData
  F_vset_days : Fun K "set_days" "LiveRing.set_days" s_vset_days a_vset_days d_vset_days
  b_vset_days : Binds K d_vset_days P_vset_days []
  a_vtake : Addr
  d_vtake : FuncData
  F_vtake : Fun K "take" "LiveRing.take" s_vtake a_vtake d_vtake
  b_vtake : Binds K d_vtake P_vtake []
  a_vundo : Addr
  d_vundo : FuncData
  F_vundo : Fun K "undo" "LiveRing.undo" s_vundo a_vundo d_vundo
  b_vundo : Binds K d_vundo P_vundo []
  a_vredo : Addr
  d_vredo : FuncData
  F_vredo : Fun K "redo" "LiveRing.redo" s_vredo a_vredo d_vredo
  b_vredo : Binds K d_vredo P_vredo []
  a_vapply : Addr
  d_vapply : FuncData
  F_vapply : Fun K "apply" "LiveRing.apply" s_vapply a_vapply d_vapply
  a_vwaiting_after : Addr
  d_vwaiting_after : FuncData
  F_vwaiting_after : Fun K "waiting_after" "LiveRing.waiting_after" s_vwaiting_after a_vwaiting_after d_vwaiting_after
  a_venter : Addr
  d_venter : FuncData
  F_venter : Fun K "__enter__" "LiveRing.__enter__" s_venter a_venter d_venter
  b_venter : Binds K d_venter P_venter []
  a_vexit : Addr
  d_vexit : FuncData
  F_vexit : Fun K "__exit__" "LiveRing.__exit__" s_vexit a_vexit d_vexit
  b_vexit : Binds K d_vexit P_vexit []
  a_vlen : Addr
  d_vlen : FuncData
  F_vlen : Fun K "__len__" "LiveRing.__len__" s_vlen a_vlen d_vlen
  b_vlen : Binds K d_vlen P_vlen []
  a_vcontains : Addr
  d_vcontains : FuncData
  F_vcontains : Fun K "__contains__" "LiveRing.__contains__" s_vcontains a_vcontains d_vcontains
  b_vcontains : Binds K d_vcontains P_vcontains []
  a_executed : Addr
  d_executed : FuncData
  F_executed : Fun K "executed" "executed" s_executed a_executed d_executed
  b_executed : Binds K d_executed P_executed []
  g_executed : mg "executed" = some (.ref a_executed)
  a_ltaken : Addr
  d_ltaken : FuncData
  F_ltaken : Fun K "_law_taken" "_law_taken" s_ltaken a_ltaken d_ltaken
  b_ltaken : Binds K d_ltaken P_ltaken []
  g_ltaken : mg "_law_taken" = some (.ref a_ltaken)
  a_lparts : Addr
  d_lparts : FuncData
  F_lparts : Fun K "_law_parts" "_law_parts" s_lparts a_lparts d_lparts
  b_lparts : Binds K d_lparts P_lparts []
  g_lparts : mg "_law_parts" = some (.ref a_lparts)
  a_lbegin : Addr
  d_lbegin : FuncData
  F_lbegin : Fun K "_law_begin" "_law_begin" s_lbegin a_lbegin d_lbegin
  b_lbegin : Binds K d_lbegin P_lbegin []
  g_lbegin : mg "_law_begin" = some (.ref a_lbegin)
  a_lfirst : Addr
  d_lfirst : FuncData
  F_lfirst : Fun K "_law_first" "_law_first" s_lfirst a_lfirst d_lfirst
  b_lfirst : Binds K d_lfirst P_lfirst []
  g_lfirst : mg "_law_first" = some (.ref a_lfirst)
  a_lday : Addr
  d_lday : FuncData
  F_lday : Fun K "_law_day" "_law_day" s_lday a_lday d_lday
  b_lday : Binds K d_lday P_lday []
  g_lday : mg "_law_day" = some (.ref a_lday)
  a_lcopied : Addr
  d_lcopied : FuncData
  F_lcopied : Fun K "_law_copied" "_law_copied" s_lcopied a_lcopied d_lcopied
  b_lcopied : Binds K d_lcopied P_lcopied []
  g_lcopied : mg "_law_copied" = some (.ref a_lcopied)
  a_lraised : Addr
  d_lraised : FuncData
  F_lraised : Fun K "_law_raised" "_law_raised" s_lraised a_lraised d_lraised
  b_lraised : Binds K d_lraised P_lraised []
  g_lraised : mg "_law_raised" = some (.ref a_lraised)
  a_lbooks : Addr
  d_lbooks : FuncData
  F_lbooks : Fun K "_law_books" "_law_books" s_lbooks a_lbooks d_lbooks
  b_lbooks : Binds K d_lbooks P_lbooks []
  g_lbooks : mg "_law_books" = some (.ref a_lbooks)
  a_ldeed : Addr
  d_ldeed : FuncData
  F_ldeed : Fun K "_law_deed" "_law_deed" s_ldeed a_ldeed d_ldeed
  b_ldeed : Binds K d_ldeed P_ldeed []
  g_ldeed : mg "_law_deed" = some (.ref a_ldeed)
  a_ldoes : Addr
  d_ldoes : FuncData
  F_ldoes : Fun K "_law_does" "_law_does" s_ldoes a_ldoes d_ldoes
  b_ldoes : Binds K d_ldoes P_ldoes []
  g_ldoes : mg "_law_does" = some (.ref a_ldoes)
  a_lasked : Addr
  d_lasked : FuncData
  F_lasked : Fun K "_law_asked" "_law_asked" s_lasked a_lasked d_lasked
  b_lasked : Binds K d_lasked P_lasked []
  g_lasked : mg "_law_asked" = some (.ref a_lasked)
  a_ltold : Addr
  d_ltold : FuncData
  F_ltold : Fun K "_law_told" "_law_told" s_ltold a_ltold d_ltold
  b_ltold : Binds K d_ltold P_ltold []
  g_ltold : mg "_law_told" = some (.ref a_ltold)
  a_law : Addr
  d_law : FuncData
  F_law : Fun K "law" "law" s_law a_law d_law
  b_law : Binds K d_law P_law []
  g_law : mg "law" = some (.ref a_law)
  cl : Cls K C
  nD : NoAttr K C "_days"
  nS : NoAttr K C "_starts"
  mkR : Mk K C a_rinit
  gC : mg "Ring" = some (.ref C)
  tC : Addr
  clt : Cls K tC
  nt_ring : NoAttr K tC "ring"
  nt_day : NoAttr K tC "day"
  nt_heaps : NoAttr K tC "heaps"
  nt_current : NoAttr K tC "current"
  nt_coming : NoAttr K tC "coming"
  mkt : Mk K tC a_tinit
  gtC : mg "Table" = some (.ref tC)
  cC : Addr
  clc : Cls K cC
  nc_tables : NoAttr K cC "tables"
  nc_operations : NoAttr K cC "operations"
  nc_undone : NoAttr K cC "undone"
  mkc : Mk K cC a_cinit
  gcC : mg "Course" = some (.ref cC)
  vC : Addr
  clv : Cls K vC
  nv__course : NoAttr K vC "_course"
  nv__kept : NoAttr K vC "_kept"
  mkv : Mk K vC a_vinit
  gvC : mg "LiveRing" = some (.ref vC)
  mv_pass_days : Meth K vC "pass_days" a_vpass_days
  mv_add : Meth K vC "add" a_vadd
  mv_set_days : Meth K vC "set_days" a_vset_days
  mv_take : Meth K vC "take" a_vtake
  mv_undo : Meth K vC "undo" a_vundo
  mv_redo : Meth K vC "redo" a_vredo
  mv_apply : Meth K vC "apply" a_vapply
  mv_waiting_after : Meth K vC "waiting_after" a_vwaiting_after
  lenV : PySem.W.findIn K (.ref vC) "__len__" = some (some (.ref a_vlen))
  lenVF : PySem.W.isFn K (.ref a_vlen) = true
  crdV : ClX.CRead K vC (.type "type")
  p_vreplay : Addr
  cmV : ClX.CMet K vC (.type "type") "replay" p_vreplay a_vreplay
  bvA : BMeth K vC "apply" a_vapply
  enV : PySem.W.findIn K (.ref vC) "__enter__" = some (some (.ref a_venter))
  enVF : PySem.W.isFn K (.ref a_venter) = true
  exV : PySem.W.findIn K (.ref vC) "__exit__" = some (some (.ref a_vexit))
  exVF : PySem.W.isFn K (.ref a_vexit) = true
  inV : PySem.W.findIn K (.ref vC) "__contains__" = some (some (.ref a_vcontains))
  inVF : PySem.W.isFn K (.ref a_vcontains) = true
  p_rdays : Addr
  q_rdays : PropOf K C "days" p_rdays a_rdays
  p_rstarts : Addr
  q_rstarts : PropOf K C "starts" p_rstarts a_rstarts
  p_rbooks : Addr
  q_rbooks : PropOf K C "books" p_rbooks a_rbooks
  p_rpace : Addr
  q_rpace : PropOf K C "pace" p_rpace a_rpace
  p_vtoday : Addr
  q_vtoday : PropOf K vC "today" p_vtoday a_vtoday
  p_vwaiting_books : Addr
  q_vwaiting_books : PropOf K vC "waiting_books" p_vwaiting_books a_vwaiting_books
  p_vbeing_read : Addr
  q_vbeing_read : PropOf K vC "being_read" p_vbeing_read a_vbeing_read
  p_vhistory : Addr
  q_vhistory : PropOf K vC "history" p_vhistory a_vhistory
  lenC : PySem.W.findIn K (.ref C) "__len__" = some (some (.ref a_rlen))
  lenF : PySem.W.isFn K (.ref a_rlen) = true
  callC : StX.CallO K C a_rcall
  mW : Meth K C "with_days" a_rwith_days
  c_LATEST : ∃ t, mg "LATEST" = some (.int 1000000000000000000 t)
  c_MOST_PASSED : ∃ t, mg "MOST_PASSED" = some (.int 400 t)
  c_FEWEST_READERS : ∃ t, mg "FEWEST_READERS" = some (.int 2 t)
  c_MOST_READERS : ∃ t, mg "MOST_READERS" = some (.int 8 t)
  c_MOST_DAYS : ∃ t, mg "MOST_DAYS" = some (.int 30 t)
  c_MOST_BOOKS : ∃ t, mg "MOST_BOOKS" = some (.int 12 t)
  z_len : mg "len" = none
  z_sum : mg "sum" = none
  z_max : mg "max" = none
  z_min : mg "min" = none
  z_range : mg "range" = none
  z_int : mg "int" = none
  z_bool : mg "bool" = none
  z_isinstance : mg "isinstance" = none
  z_tuple : mg "tuple" = none
  z_enumerate : mg "enumerate" = none
  z_list : mg "list" = none
  z_str : mg "str" = none
  z_sorted : mg "sorted" = none
end Rp
namespace Rp
open PySem PySem.Spec PyProof.Rows L2 Rz Rm
/-! ### a ring as it stands -/
theorem ds_ne : ¬ (("_days" : Str) = "_starts") := by decide +kernel
def flds (td ts : Addr) : List (Str × V) := putF "_starts" (.ref ts) (putF "_days" (.ref td) [])
theorem flds_days (td ts : Addr) : (flds td ts).lookup ("_days" : Str) = some (.ref td) := by
  unfold flds
  rw [lookup_putF, if_neg ds_ne, lookup_putF, if_pos rfl]
theorem flds_starts (td ts : Addr) : (flds td ts).lookup ("_starts" : Str) = some (.ref ts) := by
  unfold flds
  rw [lookup_putF, if_pos rfl]
/-- days and books at first that make a ring -/
structure Good (ds ss : List Int) : Prop where
  l2 : 2 ≤ ds.length
  l8 : ds.length ≤ 8
  ls : ss.length = ds.length
  d1 : ∀ y ∈ ds, 1 ≤ y ∧ y ≤ 30
  s0 : ∀ y ∈ ss, 0 ≤ y ∧ y ≤ 12
  b1 : 1 ≤ ss.sum
  b12 : ss.sum ≤ 12
structure RingAt (C : Addr) (H : Hp) (p dx td ts : Addr) (ds ss : List Int) : Prop where
  ob : H p = some (.ins C dx (flds td ts))
  td : H td = some (.tup (ds.map V.int))
  ts : H ts = some (.tup (ss.map V.int))
  ok : Good ds ss
theorem RingAt.same {C : Addr} {H H' : Hp} {p dx td ts : Addr} {ds ss : List Int} (R : RingAt C H p dx td ts ds ss) (s : Same H H') : RingAt C H' p dx td ts ds ss :=
  ⟨s _ _ R.ob, s _ _ R.td, s _ _ R.ts, R.ok⟩
theorem sq_same {K : PySem.W.Frag} {H H' : Hp} {a : Addr} {xs : List V} (e : Same H H') (h : H a = some (.tup xs)) : SqT K H' a xs := .of (e _ _ h)
theorem same_upd {H : Hp} {p : Addr} {o : HO} (h : H p = none) : Same H (upd H p o) := fun b x e => by
  rw [upd_ne (ne_of_none e h)]
  exact e
section
variable {P : Program} {w : World} {K : PySem.W.Frag} {mg : Str → Option Value} {base : Heap}
/-! ### checks -/
/-- a number is one -/
def spIsNum : Sp := fun vs H Q _ => ∃ i : Int, vs = [.int i] ∧ Q (.bl true) H
theorem ok_is_number (T : Tx K mg) : FnOk P w K mg base CX0 1 T.a_is_number T.d_is_number P_is_number spIsNum := by
  refine T.F_is_number.ok sc_is_number (fun vs H Q E h => ?_) (fun cdv A outer s H vs Q E hr h => ?_)
  · obtain ⟨i, rfl, _⟩ := h
    rfl
  · obtain ⟨i, rfl, q⟩ := h
    refine ⟨_, pss_one (ps_ret (pe_and (pe_callB call_isi (by rfl) T.z_isinstance (by decide +kernel) (pa_cons (pv 0) (pa_cons (pe_bltn (v := .ty "int") (u := .type "int") (by rfl) T.z_int (by decide +kernel) rfl) pa_nil)))
      (pe_one (pe_not (pe_callB call_isi (by rfl) T.z_isinstance (by decide +kernel) (pa_cons (pv 0) (pa_cons (pe_bltn (v := .ty "bool") (u := .type "bool") (by rfl) T.z_bool (by decide +kernel) rfl) pa_nil))))))), ?_⟩
    refine ⟨.int i, rfl, .int i, .ty "int", .type "int", .type "int", true, rfl, .ty _, .base (.int i), kit_ty (by decide +kernel), true, rfl, iteT ?_⟩
    exact ⟨.int i, rfl, .int i, .ty "bool", .type "int", .type "bool", false, rfl, .ty _, .base (.int i), kit_ty (by decide +kernel), false, rfl, q⟩
def spLies : Sp := fun vs H Q _ => ∃ v lo hi : Int, vs = [.int v, .int lo, .int hi] ∧ Q (.bl (decide (lo ≤ v) && decide (v ≤ hi))) H
theorem ok_lies (T : Tx K mg) : FnOk P w K mg base CX0 2 T.a_lies_between T.d_lies_between P_lies_between spLies := by
  refine T.F_lies_between.ok sc_lies_between (fun vs H Q E h => ?_) (fun cdv A outer s H vs Q E hr h => ?_)
  · obtain ⟨v, lo, hi, rfl, _⟩ := h
    rfl
  · obtain ⟨v, lo, hi, rfl, q⟩ := h
    refine ⟨_, pss_one (ps_ret (pe_and (pe_call (ok_is_number T) hr (by rfl) T.g_is_number T.F_is_number.kp T.b_is_number .nil pass0 (pa_cons (pv 0) pa_nil)) (pe_one (pe_chain op_le op_le (pv 1) (pv 0) (pv 2))))), ?_⟩
    refine ⟨.int v, rfl, v, rfl, true, rfl, iteT ?_⟩
    refine ⟨.int lo, rfl, .int v, rfl, lo, v, rfl, rfl, decide (lo ≤ v), rfl, ?_⟩
    by_cases h : lo ≤ v
    · rw [decide_eq_true h] at q ⊢
      exact iteT ⟨.int hi, rfl, v, hi, rfl, rfl, q⟩
    · rw [decide_eq_false h] at q ⊢
      exact iteF q
theorem in_lim {v lo hi : Int} (h1 : lo ≤ v) (h2 : v ≤ hi) : (decide (lo ≤ v) && decide (v ≤ hi)) = true := by
  rw [decide_eq_true h1, decide_eq_true h2] <;> rfl
def spChk : Sp := fun vs H Q _ => ∃ v lo hi : Int, vs = [.int v, .int lo, .int hi] ∧ lo ≤ v ∧ v ≤ hi ∧ Q .non H
theorem ok_chk (T : Tx K mg) : FnOk P w K mg base CX0 3 T.a_check_number T.d_check_number P_check_number spChk := by
  refine T.F_check_number.ok sc_check_number (fun vs H Q E h => ?_) (fun cdv A outer s H vs Q E hr h => ?_)
  · obtain ⟨v, lo, hi, rfl, _⟩ := h
    rfl
  · obtain ⟨v, lo, hi, rfl, h1, h2, q⟩ := h
    refine ⟨_, pss_one (ps_if (pt_not (pt_val (pe_call (ok_lies T) hr (by rfl) T.g_lies_between T.F_lies_between.kp T.b_lies_between .nil pass0 (pa_cons (pv 0) (pa_cons (pv 1) (pa_cons (pv 2) pa_nil)))))) (pss_one ps_never) pss_nil), ?_⟩
    refine ⟨.int v, rfl, .int lo, rfl, .int hi, rfl, v, lo, hi, rfl, _, rfl, ?_⟩
    rw [in_lim h1 h2]
    exact iteF q
/-! ### the ring's own -/
def spLen (C : Addr) : Sp := fun vs H Q _ => ∃ p dx td ts ds ss, vs = [.ref p] ∧ RingAt C H p dx td ts ds ss ∧ Q (.int ds.length) H
theorem ok_len (T : Tx K mg) : FnOk P w K mg base CX0 1 T.a_rlen T.d_rlen P_rlen (spLen T.C) := by
  refine T.F_rlen.ok sc_rlen (fun vs H Q E h => ?_) (fun cdv A outer s H vs Q E hr h => ?_)
  · obtain ⟨p, dx, td, ts, ds, ss, rfl, _⟩ := h
    rfl
  · obtain ⟨p, dx, td, ts, ds, ss, rfl, R, q⟩ := h
    refine ⟨_, pss_one (ps_ret (pe_callB call_len_seq (by rfl) T.z_len PySem.boot_len (pa_cons (pe_fld (pv 0) rfl) pa_nil))), ?_⟩
    refine ⟨_, rfl, p, _, dx, _, _, rfl, R.ob, T.cl, T.nD, flds_days _ _, td, _, rfl, .inr (.of R.td), ?_⟩
    rw [List.length_map]
    exact q
def spDays (C : Addr) : Sp := fun vs H Q _ => ∃ p dx td ts ds ss, vs = [.ref p] ∧ RingAt C H p dx td ts ds ss ∧ Q (.ref td) H
def spStarts (C : Addr) : Sp := fun vs H Q _ => ∃ p dx td ts ds ss, vs = [.ref p] ∧ RingAt C H p dx td ts ds ss ∧ Q (.ref ts) H
def spBooks (C : Addr) : Sp := fun vs H Q _ => ∃ p dx td ts ds ss, vs = [.ref p] ∧ RingAt C H p dx td ts ds ss ∧ Q (.int ss.sum) H
theorem ok_days (T : Tx K mg) : FnOk P w K mg base CX0 1 T.a_rdays T.d_rdays P_rdays (spDays T.C) := by
  refine T.F_rdays.ok sc_rdays (fun vs H Q E h => ?_) (fun cdv A outer s H vs Q E hr h => ?_)
  · obtain ⟨p, dx, td, ts, ds, ss, rfl, _⟩ := h
    rfl
  · obtain ⟨p, dx, td, ts, ds, ss, rfl, R, q⟩ := h
    refine ⟨_, pss_one (ps_ret (pe_fld (pv 0) rfl)), ?_⟩
    exact ⟨_, rfl, p, _, dx, _, _, rfl, R.ob, T.cl, T.nD, flds_days _ _, q⟩
theorem ok_starts (T : Tx K mg) : FnOk P w K mg base CX0 1 T.a_rstarts T.d_rstarts P_rstarts (spStarts T.C) := by
  refine T.F_rstarts.ok sc_rstarts (fun vs H Q E h => ?_) (fun cdv A outer s H vs Q E hr h => ?_)
  · obtain ⟨p, dx, td, ts, ds, ss, rfl, _⟩ := h
    rfl
  · obtain ⟨p, dx, td, ts, ds, ss, rfl, R, q⟩ := h
    refine ⟨_, pss_one (ps_ret (pe_fld (pv 0) rfl)), ?_⟩
    exact ⟨_, rfl, p, _, dx, _, _, rfl, R.ob, T.cl, T.nS, flds_starts _ _, q⟩
theorem ok_books (T : Tx K mg) : FnOk P w K mg base CX0 1 T.a_rbooks T.d_rbooks P_rbooks (spBooks T.C) := by
  refine T.F_rbooks.ok sc_rbooks (fun vs H Q E h => ?_) (fun cdv A outer s H vs Q E hr h => ?_)
  · obtain ⟨p, dx, td, ts, ds, ss, rfl, _⟩ := h
    rfl
  · obtain ⟨p, dx, td, ts, ds, ss, rfl, R, q⟩ := h
    refine ⟨_, pss_one (ps_ret (pe_callB (cr_sumT rfl) (by rfl) T.z_sum (by decide +kernel) (pa_cons (pe_fld (pv 0) rfl) pa_nil))), ?_⟩
    exact ⟨_, rfl, p, _, dx, _, _, rfl, R.ob, T.cl, T.nS, flds_starts _ _, ts, ss, rfl, .of R.ts, q⟩
/-! ### check_reader -/
def spReader (C : Addr) : Sp := fun vs H Q _ => ∃ p dx td ts ds ss, ∃ r : Int, vs = [.ref p, .int r] ∧ RingAt C H p dx td ts ds ss ∧ 0 ≤ r ∧ r < ds.length ∧ Q .non H
theorem ok_reader (T : Tx K mg) : FnOk P w K mg base CX0 3 T.a_check_reader T.d_check_reader P_check_reader (spReader T.C) := by
  refine T.F_check_reader.ok sc_check_reader (fun vs H Q E h => ?_) (fun cdv A outer s H vs Q E hr h => ?_)
  · obtain ⟨p, dx, td, ts, ds, ss, r, rfl, _⟩ := h
    rfl
  · obtain ⟨p, dx, td, ts, ds, ss, r, rfl, R, h1, h2, q⟩ := h
    refine ⟨_, pss_one (ps_if (pt_not (pt_val (pe_call (ok_lies T) hr (by rfl) T.g_lies_between T.F_lies_between.kp T.b_lies_between .nil pass0
      (pa_cons (pv 1) (pa_cons pe_int (pa_cons (pe_op op_sub (pe_callB (call_lenI T.lenC T.lenF ((ok_len T).raw T.b_rlen .nil) hr pass0) (by rfl) T.z_len PySem.boot_len (pa_cons (pv 0) pa_nil)) pe_int) pa_nil)))))) (pss_one ps_never) pss_nil), ?_⟩
    have hl := R.ok.l8
    refine ⟨.int r, rfl, .ref p, rfl, p, dx, _, rfl, R.ob, p, dx, td, ts, ds, ss, rfl, R, (ds.length : Int), rfl, by omega, by omega, _, _, rfl, rfl, ?_⟩
    refine ⟨r, 0, (ds.length : Int) - 1, rfl, _, rfl, ?_⟩
    rw [in_lim h1 (show r ≤ (ds.length : Int) - 1 by omega)]
    exact iteF q
end
end Rp
namespace Rp
open PySem PySem.Spec PyProof.Rows L2 Rz Rm
/-! ### the pace -/
/-- days that readers need -/
structure Dys (ds : List Int) : Prop where
  ne : 0 < ds.length
  d1 : ∀ y ∈ ds, 1 ≤ y
theorem Good.dys {ds ss : List Int} (G : Good ds ss) : Dys ds := ⟨by have := G.l2; omega, fun y h => (G.d1 y h).1⟩
def mx (ds : List Int) : Int := ds.foldr max 0
theorem mx_nn : ∀ ds : List Int, 0 ≤ mx ds
  | [] => Int.le_refl _
  | a :: r => by
    have := mx_nn r
    show 0 ≤ max a (mx r)
    omega
theorem le_mx : ∀ {ds : List Int} {y : Int}, y ∈ ds → y ≤ mx ds
  | a :: r, y, h => by
    show y ≤ max a (mx r)
    rcases List.mem_cons.mp h with e | e
    · omega
    · have := le_mx e
      omega
theorem mx_le : ∀ {ds : List Int} {M : Int}, 0 ≤ M → (∀ y ∈ ds, y ≤ M) → mx ds ≤ M
  | [], _, h, _ => h
  | a :: r, M, h, hu => by
    have h1 := hu a List.mem_cons_self
    have h2 := mx_le (ds := r) h fun y hy => hu y (List.mem_cons_of_mem _ hy)
    show max a (mx r) ≤ M
    omega
theorem mx_eq {ds : List Int} {M : Int} (D : Dys ds) (hM : M ∈ ds) (hMu : ∀ y ∈ ds, y ≤ M) : mx ds = M :=
  Int.le_antisymm (mx_le (by have := D.d1 M hM; omega) hMu) (le_mx hM)
theorem mx_mem : ∀ {ds : List Int}, ds ≠ [] → (∀ y ∈ ds, 0 ≤ y) → mx ds ∈ ds
  | [], h, _ => absurd rfl h
  | [a], _, h => by
    have h1 := h a (by simp)
    show max a 0 ∈ [a]
    rw [show max a 0 = a by omega]
    simp
  | a :: b :: r, _, h => by
    have ih := mx_mem (ds := b :: r) (by simp) fun y hy => h y (List.mem_cons_of_mem _ hy)
    show max a (mx (b :: r)) ∈ a :: b :: r
    by_cases c : a ≤ mx (b :: r)
    · rw [show max a (mx (b :: r)) = mx (b :: r) by omega]
      exact List.mem_cons_of_mem _ ih
    · rw [show max a (mx (b :: r)) = a by omega]
      exact List.mem_cons_self
theorem Dys.mem {ds : List Int} (D : Dys ds) : mx ds ∈ ds := mx_mem (fun e => by
  have := D.ne
  rw [e] at this
  exact absurd this (Nat.lt_irrefl _)) fun y h => by have := D.d1 y h; omega
def gq (ds : List Int) (b : Int) : Int := ((Nat.gcd ds.sum.natAbs b.natAbs : Nat) : Int)
/-- the pace's two numbers -/
def pX (ds : List Int) (b : Int) : Int := if ds.sum ≤ mx ds * b then mx ds else ds.sum / gq ds b
def pY (ds : List Int) (b : Int) : Int := if ds.sum ≤ mx ds * b then 1 else b / gq ds b
theorem gq_facts {ds : List Int} {b : Int} (h : 1 ≤ b) : 1 ≤ gq ds b ∧ gq ds b ≤ b ∧ gq ds b ∣ ds.sum ∧ gq ds b ∣ b := by
  have g0 : 0 < Nat.gcd ds.sum.natAbs b.natAbs := Nat.gcd_pos_of_pos_right _ (by omega)
  have gle : Nat.gcd ds.sum.natAbs b.natAbs ≤ b.natAbs := Nat.le_of_dvd (by omega) (Nat.gcd_dvd_right _ _)
  unfold gq
  exact ⟨by omega, by omega, Int.ofNat_dvd_left.mpr (Nat.gcd_dvd_left _ _), Int.ofNat_dvd_left.mpr (Nat.gcd_dvd_right _ _)⟩
section
variable {P : Program} {w : World} {K : PySem.W.Frag} {mg : Str → Option Value} {base : Heap}
/-! ### check_part -/
def spPart : Sp := fun vs H Q _ => ∃ (part : Str) (v l n : Addr) (ns : List Int) (lo hi f m : Int), vs = [.str part, .ref v, .ref l, .ref n] ∧ H v = some (.tup (ns.map V.int)) ∧ H l = some (.tup [.int lo, .int hi]) ∧ H n = some (.tup [.int f, .int m]) ∧
  (∀ y ∈ ns, lo ≤ y ∧ y ≤ hi) ∧ f ≤ ns.length ∧ (ns.length : Int) ≤ m ∧ ∀ H', Same H H' → Q .non H'
theorem get_int {ns : List Int} {i : Nat} {y : V} (h : (ns.map V.int)[i]? = some y) : ∃ z, ns[i]? = some z ∧ y = .int z := by
  rw [List.getElem?_map] at h
  cases e : ns[i]? with
  | none =>
    rw [e] at h
    cases h
  | some z =>
    rw [e] at h
    exact ⟨z, rfl, (Option.some.inj h).symm⟩
theorem ok_part (T : Tx K mg) : FnOk P w K mg base CX0 3 T.a_check_part T.d_check_part P_check_part spPart := by
  refine T.F_check_part.ok sc_check_part (fun vs H Q E h => ?_) (fun cdv A outer s H vs Q E hr h => ?_)
  · obtain ⟨part, v, l, n, ns, lo, hi, f, m, rfl, _⟩ := h
    rfl
  · obtain ⟨part, v, l, n, ns, lo, hi, f, m, rfl, hv, hl, hn, hall, hf, hm, q⟩ := h
    have nd := sc_check_part.nd
    refine ⟨_, pss_cons (ps_if (pt_not (pt_val (pe_callB call_isi (by rfl) T.z_isinstance (by decide +kernel) (pa_cons (pv 1) (pa_cons (pe_bltn (v := .ty "tuple") (u := .type "tuple") (by rfl) T.z_tuple (by decide +kernel) rfl) pa_nil))))) (pss_one ps_never) pss_nil)
      (pss_cons (ps_asg (pv 2) (pg_tup rfl (pgs_cons (pg_name (i := 4) nd rfl (.inl rfl)) (pgs_cons (pg_name (i := 5) nd rfl (.inl rfl)) pgs_nil))))
      (pss_cons (ps_asg (pv 3) (pg_tup rfl (pgs_cons (pg_name (i := 6) nd rfl (.inl rfl)) (pgs_cons (pg_name (i := 7) nd rfl (.inl rfl)) pgs_nil))))
      (pss_cons (ps_for PassesOwn.never rfl (pi_enumT (by rfl) T.z_enumerate (pa_cons (pv 1) pa_nil)) (pg_tup rfl (pgs_cons (pg_name (i := 8) nd rfl (.inl rfl)) (pgs_cons (pg_name (i := 9) nd rfl (.inl rfl)) pgs_nil)))
        (pss_one (ps_if (PW.pt (pw_or (pt_cmpR op_ge (pv 8) (pv 7) (nomark _)) (pw_or1 (pt_not (pt_val (pe_call (ok_lies T) hr (by rfl) T.g_lies_between T.F_lies_between.kp T.b_lies_between .nil pass0 (pa_cons (pv 9) (pa_cons (pv 4) (pa_cons (pv 5) pa_nil)))))))))
          (pss_one ps_never) pss_nil)))
      (pss_one (ps_if (pt_cmpR op_lt (pe_callB call_len_seq (by rfl) T.z_len PySem.boot_len (pa_cons (pv 1) pa_nil)) (pv 6) (nomark _)) (pss_one ps_never) pss_nil))))), ?_⟩
    -- isinstance(values, tuple)
    refine ⟨.ref v, rfl, .ref v, .ty "tuple", .type "tuple", .type "tuple", true, rfl, .ty _, .base (.tup hv), kit_ty (by decide +kernel), true, rfl, iteF ?_⟩
    -- low, high = limits; fewest, most = lengths
    refine ⟨.ref l, rfl, l, _, rfl, .of hl, rfl, _, _, rfl, _, _, rfl, rfl, ?_⟩
    refine ⟨.ref n, rfl, n, _, rfl, .of hn, rfl, _, _, rfl, _, _, rfl, rfl, ?_⟩
    -- for index, value in enumerate(values)
    refine ⟨.ref v, rfl, v, _, rfl, .of hv, for_it walk_enumT (fun i σ H' => ∃ y8 y9, σ = [some (.str part), some (.ref v), some (.ref l), some (.ref n), some (.int lo), some (.int hi), some (.int f), some (.int m), y8, y9] ∧ Same H H')
      ⟨none, none, rfl, Same.refl H⟩ (fun i σ H' _ ⟨_, _, _, sm⟩ => sq_same sm hv) ?_ ?_⟩
    · rintro i x σ H1 H2 hi1 ⟨y8, y9, rfl, sm⟩ ⟨t, a, b, rfl, nt, rfl, ha, hb⟩
      have ha' : a = .int (i : Nat) := (Option.some.inj ha).symm
      subst ha'
      obtain ⟨z, hz, rfl⟩ := get_int hb
      rw [List.length_map] at hi1
      have hz2 := hall z (List.mem_of_getElem? hz)
      refine ⟨t, _, rfl, .of upd_same, rfl, _, _, rfl, _, _, rfl, rfl, ?_⟩
      refine ⟨.int (i : Nat), rfl, .int m, rfl, _, _, rfl, rfl, _, rfl, ?_⟩
      rw [decide_eq_false (show ¬ m ≤ ((i : Nat) : Int) by omega)]
      refine iteF ?_
      refine ⟨.int z, rfl, .int lo, rfl, .int hi, rfl, z, lo, hi, rfl, _, rfl, ?_⟩
      rw [in_lim hz2.1 hz2.2]
      exact iteF ⟨_, _, rfl, sm.trans (same_upd nt)⟩
    · rintro σ H1 ⟨y8, y9, rfl, sm⟩
      refine ⟨.ref v, rfl, v, _, rfl, .inr (sq_same sm hv), .int f, rfl, _, _, rfl, rfl, _, rfl, ?_⟩
      rw [List.length_map, decide_eq_false (show ¬ (ns.length : Int) < f by omega)]
      exact iteF (q H1 sm)
/-! ### Ring.__init__ -/
def spInit (C : Addr) : Sp := fun vs H Q _ => ∃ (p dx td ts : Addr) (ds ss : List Int), vs = [.ref p, .ref td, .ref ts] ∧ H p = some (.ins C dx []) ∧ H td = some (.tup (ds.map V.int)) ∧ H ts = some (.tup (ss.map V.int)) ∧ Good ds ss ∧
  ∀ H', RingAt C H' p dx td ts ds ss → (∀ b o, H b = some o → b ≠ p → H' b = some o) → Q .non H'
theorem ok_init (T : Tx K mg) : FnOk P w K mg base CX0 4 T.a_rinit T.d_rinit P_rinit (spInit T.C) := by
  refine T.F_rinit.ok sc_rinit (fun vs H Q E h => ?_) (fun cdv A outer s H vs Q E hr h => ?_)
  · obtain ⟨p, dx, td, ts, ds, ss, rfl, _⟩ := h
    rfl
  · obtain ⟨p, dx, td, ts, ds, ss, rfl, hp, hd, hs, G, q⟩ := h
    obtain ⟨u1, c1⟩ := T.c_MOST_DAYS
    obtain ⟨u2, c2⟩ := T.c_FEWEST_READERS
    obtain ⟨u3, c3⟩ := T.c_MOST_READERS
    obtain ⟨u4, c4⟩ := T.c_MOST_BOOKS
    have l2 := G.l2
    have l8 := G.l8
    have ls := G.ls
    refine ⟨_, pss_cons (ps_expr (pe_call (ok_part T) hr (by rfl) T.g_check_part T.F_check_part.kp T.b_check_part .nil pass0 (pa_cons pe_str (pa_cons (pv 1) (pa_cons (pe_tup (pa_cons pe_int (pa_cons (pe_glob (v := .int 30) (by rfl) c1 ⟨_, rfl⟩) pa_nil))) (pa_cons (pe_tup (pa_cons (pe_glob (v := .int 2) (by rfl) c2 ⟨_, rfl⟩) (pa_cons (pe_glob (v := .int 8) (by rfl) c3 ⟨_, rfl⟩) pa_nil))) pa_nil))))))
      (pss_cons (ps_expr (pe_call (ok_part T) hr (by rfl) T.g_check_part T.F_check_part.kp T.b_check_part .nil pass0 (pa_cons pe_str (pa_cons (pv 2) (pa_cons (pe_tup (pa_cons pe_int (pa_cons (pe_glob (v := .int 12) (by rfl) c4 ⟨_, rfl⟩) pa_nil)))
        (pa_cons (pe_tup (pa_cons (pe_callB call_len_seq (by rfl) T.z_len PySem.boot_len (pa_cons (pv 1) pa_nil)) (pa_cons (pe_callB call_len_seq (by rfl) T.z_len PySem.boot_len (pa_cons (pv 1) pa_nil)) pa_nil))) pa_nil))))))
      (pss_cons (ps_if (pt_not (pt_chain op_le op_le pe_int (pe_callB (cr_sumT rfl) (by rfl) T.z_sum (by decide +kernel) (pa_cons (pv 2) pa_nil)) (pe_glob (v := .int 12) (by rfl) c4 ⟨_, rfl⟩))) (pss_one ps_never) pss_nil)
      (pss_cons (ps_fld (pv 0) (pe_callTy call_tupleT (by rfl) T.z_tuple (by decide +kernel) (pa_cons (pv 1) pa_nil)) rfl)
      (pss_one (ps_fld (pv 0) (pe_callTy call_tupleT (by rfl) T.z_tuple (by decide +kernel) (pa_cons (pv 2) pa_nil)) rfl))))), ?_⟩
    -- check_part("days", ..)
    refine ⟨.ref td, rfl, (by show 2 ≤ sizeLine; decide), fun a1 h1 => ⟨(by show 2 ≤ sizeLine; decide), fun a2 h2 => ?_⟩⟩
    have s1 := same_upd (o := .tup [.int 1, .int 30]) h1
    have s2 := same_upd (o := .tup [.int 2, .int 8]) h2
    refine ⟨_, td, a1, a2, ds, 1, 30, 2, 8, rfl, s2 _ _ (s1 _ _ hd), s2 _ _ upd_same, upd_same, G.d1, by omega, by omega, fun H1 s3 => ?_⟩
    have t1 : Same H H1 := (s1.trans s2).trans s3
    -- check_part("starts", ..)
    refine ⟨.ref ts, rfl, (by show 2 ≤ sizeLine; decide), fun a3 h3 => ?_⟩
    have s4 := same_upd (o := .tup [.int 0, .int 12]) h3
    refine ⟨.ref td, rfl, td, _, rfl, .inr (sq_same (t1.trans s4) hd), .ref td, rfl, td, _, rfl, .inr (sq_same (t1.trans s4) hd), (by show 2 ≤ sizeLine; decide), fun a4 h4 => ?_⟩
    have s5 := same_upd (o := .tup [.int ((ds.map V.int).length : Nat), .int ((ds.map V.int).length : Nat)]) h4
    refine ⟨_, ts, a3, a4, ss, 0, 12, ((ds.map V.int).length : Nat), ((ds.map V.int).length : Nat), rfl, s5 _ _ (s4 _ _ (t1 _ _ hs)), s5 _ _ upd_same, upd_same, G.s0, by rw [List.length_map]; omega, by rw [List.length_map]; omega, fun H2 s6 => ?_⟩
    have t2 : Same H H2 := ((t1.trans s4).trans s5).trans s6
    -- not 1 <= sum(starts) <= MOST_BOOKS
    refine ⟨.ref ts, rfl, ts, ss, rfl, sq_same t2 hs, _, _, rfl, rfl, _, rfl, ?_⟩
    rw [decide_eq_true G.b1]
    refine iteT ⟨_, _, rfl, rfl, _, rfl, ?_⟩
    rw [decide_eq_true G.b12]
    refine iteF ?_
    -- the two attributes
    refine ⟨.ref td, rfl, td, _, rfl, sq_same t2 hd, _, rfl, p, T.C, dx, [], rfl, t2 _ _ hp, T.cl, T.nD, (by show 0 < 1000; decide), ?_⟩
    have npt : ts ≠ p := ne_of hs hp (by intro z; cases z)
    have npd : td ≠ p := ne_of hd hp (by intro z; cases z)
    refine ⟨.ref ts, rfl, ts, ss.map V.int, rfl, .of (by rw [upd_ne npt]; exact t2 _ _ hs), _, rfl, p, T.C, dx, _, rfl, upd_same, T.cl, T.nS, (by show 1 < 1000; decide), ?_⟩
    refine q _ ⟨upd_same, by rw [upd_ne npd, upd_ne npd]; exact t2 _ _ hd, by rw [upd_ne npt, upd_ne npt]; exact t2 _ _ hs, G⟩ fun b o e hb => ?_
    rw [upd_ne hb, upd_ne hb]
    exact t2 _ _ e
end
end Rp
namespace Rp
open PySem PySem.Spec PyProof.Rows L2 Rz Rm
theorem at_ix {ds : List Int} {z : Int} (h1 : -(ds.length : Int) ≤ z) (h2 : z < ds.length) : atI (ds.map V.int) z = some (.int (at' ds z)) := by
  have hl : 0 < ds.length := by omega
  have h0 := Int.emod_nonneg z (show (ds.length : Int) ≠ 0 by omega)
  have hlt := Int.emod_lt_of_pos z (show (0 : Int) < ds.length by omega)
  have e : ixN (ds.map V.int).length z = some (z % (ds.length : Int)).toNat := by
    unfold ixN
    rw [List.length_map]
    by_cases h : 0 ≤ z
    · rw [if_pos h, if_pos h2, Int.emod_eq_of_lt h h2]
    · rw [if_neg h, if_pos h1]
      have e2 := Int.add_mul_emod_self_left z (ds.length : Int) 1
      rw [Int.mul_one, Int.emod_eq_of_lt (a := z + ds.length) (by omega) (by omega)] at e2
      rw [e2]
  unfold atI
  rw [e]
  show (ds.map V.int)[(z % (ds.length : Int)).toNat]? = _
  rw [List.getElem?_map]
  unfold at'
  rw [List.getD_eq_getElem?_getD, List.getElem?_eq_getElem (show (z % (ds.length : Int)).toNat < ds.length by omega)]
  rfl
theorem Good.ring {ds ss : List Int} (G : Good ds ss) {M : Int} (hM : M ∈ ds) (hMu : ∀ y ∈ ds, y ≤ M) : Rm.Ring ds.length (at' ds) (at' ss) ss.sum ds.sum M :=
  ring_of (by have := G.l2; omega) G.ls (fun y h => (G.d1 y h).1) (fun y h => (G.s0 y h).1) G.b1 hM hMu
theorem exists_max : ∀ {ds : List Int}, ds ≠ [] → ∃ M, M ∈ ds ∧ ∀ y ∈ ds, y ≤ M
  | [], h => absurd rfl h
  | [a], _ => ⟨a, by simp, by simp⟩
  | a :: b :: r, _ => by
    obtain ⟨M, h1, h2⟩ := exists_max (ds := b :: r) (by simp)
    by_cases h : a ≤ M
    · exact ⟨M, List.mem_cons_of_mem _ h1, fun y hy => by
        rcases List.mem_cons.mp hy with e | e
        · omega
        · exact h2 y e⟩
    · exact ⟨a, List.mem_cons_self, fun y hy => by
        rcases List.mem_cons.mp hy with e | e
        · omega
        · have := h2 y e; omega⟩
theorem Good.max {ds ss : List Int} (G : Good ds ss) : ∃ M, M ∈ ds ∧ ∀ y ∈ ds, y ≤ M := exists_max (by
  intro e
  have := G.l2
  rw [e] at this
  simp at this)
theorem sum_bounds : ∀ {ds : List Int}, (∀ y ∈ ds, 1 ≤ y ∧ y ≤ 30) → (ds.length : Int) ≤ ds.sum ∧ ds.sum ≤ 30 * ds.length
  | [], _ => by simp
  | a :: r, h => by
    have h1 := h a List.mem_cons_self
    have ih := sum_bounds (ds := r) fun y hy => h y (List.mem_cons_of_mem _ hy)
    rw [List.sum_cons, List.length_cons]
    omega
theorem max_if (i j : Int) : (if j > i then j else i) = max i j := by
  by_cases h : j > i
  · rw [if_pos h]
    omega
  · rw [if_neg h]
    omega
section
variable {P : Program} {w : World} {K : PySem.W.Frag} {mg : Str → Option Value} {base : Heap}
/-! ### end_day -/
def spEnd (C : Addr) : Sp := fun vs H Q _ => ∃ p dx td ts ds ss, ∃ r x : Int, vs = [.ref p, .int r, .int x] ∧ RingAt C H p dx td ts ds ss ∧ 0 ≤ r ∧ r < ds.length ∧ 0 ≤ x ∧ Q (.int (Rm.E (at' ds) (at' ss) r x)) H
/-- the loop's slots ahead of step i -/
def edS (p : Addr) (r x B M g L : Int) (ds ss : List Int) (i : Nat) (y10 y11 : Option V) : L2.St :=
  [some (.ref p), some (.int r), some (.int x), some (.int B), some (.int M), some (.int g), some (.int L), some (.int (sumBack (at' ds) r i)), some (.int (if i = 0 then 0 else maxBack (at' ds) r (i - 1))), some (.int (x - sumBack (at' ss) r i)), y10, y11]
theorem met_next {ds : List Int} (h1 : ∀ i, 1 ≤ at' ds i) (r : Int) (i : Nat) : (if at' ds (r - i) > (if i = 0 then 0 else maxBack (at' ds) r (i - 1)) then at' ds (r - i) else (if i = 0 then 0 else maxBack (at' ds) r (i - 1))) = maxBack (at' ds) r i := by
  rw [max_if]
  cases i with
  | zero =>
    have := h1 (r - (0 : Nat))
    show max 0 (at' ds (r - (0 : Nat))) = at' ds r
    rw [show r - ((0 : Nat) : Int) = r by omega] at this ⊢
    omega
  | succ i =>
    rw [if_neg (Nat.succ_ne_zero i)]
    show max (maxBack (at' ds) r i) (at' ds (r - (i + 1 : Nat))) = max (maxBack (at' ds) r i) (at' ds (r - (i + 1 : Nat)))
    rfl
theorem ok_end (T : Tx K mg) : FnOk P w K mg base CX0 3 T.a_end_day T.d_end_day P_end_day (spEnd T.C) := by
  refine T.F_end_day.ok sc_end_day (fun vs H Q E h => ?_) (fun cdv A outer s H vs Q E hr h => ?_)
  · obtain ⟨p, dx, td, ts, ds, ss, r, x, rfl, _⟩ := h
    rfl
  · obtain ⟨p, dx, td, ts, ds, ss, r, x, rfl, R, r0, r1, x0, q⟩ := h
    have nd := sc_end_day.nd
    have G := R.ok
    have l2 := G.l2
    have l8 := G.l8
    have ls := G.ls
    have rdD : ∀ {Q' : VK} {E' : XK}, Q' (.ref td) H → spDays T.C [.ref p] H Q' E' := fun z => ⟨p, dx, td, ts, ds, ss, rfl, R, z⟩
    have rdS : ∀ {Q' : VK} {E' : XK}, Q' (.ref ts) H → spStarts T.C [.ref p] H Q' E' := fun z => ⟨p, dx, td, ts, ds, ss, rfl, R, z⟩
    refine ⟨_, pss_cons (ps_set (i := 3) nd rfl (.inl rfl) (pe_prop (pv 0) T.cl T.q_rbooks (ok_books T) hr T.b_rbooks .nil pass0 rfl))
      (pss_cons (ps_set (i := 4) nd rfl (.inl rfl) (pe_callB (cr_maxT rfl) (by rfl) T.z_max (by decide +kernel) (pa_cons (pe_prop (pv 0) T.cl T.q_rdays (ok_days T) hr T.b_rdays .nil pass0 rfl) pa_nil)))
      (pss_cons (ps_set (i := 5) nd rfl (.inl rfl) (pe_op op_sub (pe_callB (cr_sumT rfl) (by rfl) T.z_sum (by decide +kernel) (pa_cons (pe_prop (pv 0) T.cl T.q_rdays (ok_days T) hr T.b_rdays .nil pass0 rfl) pa_nil)) (pe_op op_mul (pv 3) (pv 4))))
      (pss_cons (ps_asg3 pe_int (pg_name (i := 6) nd rfl (.inl rfl)) (pg_name (i := 7) nd rfl (.inl rfl)) (pg_name (i := 8) nd rfl (.inl rfl)))
      (pss_cons (ps_set (i := 9) nd rfl (.inl rfl) (pv 2))
      (pss_cons (ps_for PassesOwn.never rfl (pi_range1 (by rfl) T.z_range (pa_cons (pe_callB (call_lenI T.lenC T.lenF ((ok_len T).raw T.b_rlen .nil) hr pass0) (by rfl) T.z_len PySem.boot_len (pa_cons (pv 0) pa_nil)) pa_nil)) (pg_name (i := 10) nd rfl (.inl rfl))
        (pss_cons (ps_aug (i := 7) nd rfl (.inl rfl) (pe_ix ix_tup (pe_prop (pv 0) T.cl T.q_rdays (ok_days T) hr T.b_rdays .nil pass0 rfl) (pe_op op_sub (pv 1) (pv 10)) (fun _ _ => rfl)) ip_add)
        (pss_cons (ps_set (i := 8) nd rfl (.inl rfl) (pe_callB (call_max2 rfl) (by rfl) T.z_max (by decide +kernel) (pa_cons (pv 8) (pa_cons (pe_ix ix_tup (pe_prop (pv 0) T.cl T.q_rdays (ok_days T) hr T.b_rdays .nil pass0 rfl) (pe_op op_sub (pv 1) (pv 10)) (fun _ _ => rfl)) pa_nil))))
        (pss_cons (ps_set (i := 6) nd rfl (.inl rfl) (pe_callB (call_max2 rfl) (by rfl) T.z_max (by decide +kernel) (pa_cons (pv 6) (pa_cons (pe_op op_add (pv 7) (pe_op op_mul (pv 9) (pv 8))) pa_nil))))
        (pss_cons (ps_if (pt_cmpR op_ge (pv 9) (pv 3) (nomark _))
          (pss_cons (ps_set (i := 11) nd rfl (.inl rfl) (pe_ifExp (pt_cmpR op_gt (pv 5) pe_int (nomark _)) (pe_op op_fdiv (pv 9) (pv 3)) pe_int))
          (pss_one (ps_set (i := 6) nd rfl (.inl rfl) (pe_callB (call_max2 rfl) (by rfl) T.z_max (by decide +kernel) (pa_cons (pv 6) (pa_cons (pe_op op_add (pe_op op_add (pv 7) (pe_op op_mul (pv 9) (pv 4))) (pe_op op_mul (pv 11) (pv 5))) pa_nil)))))) pss_nil)
        (pss_cons (ps_aug (i := 9) nd rfl (.inl rfl) (pe_ix ix_tup (pe_prop (pv 0) T.cl T.q_rstarts (ok_starts T) hr T.b_rstarts .nil pass0 rfl) (pe_op op_sub (pv 1) (pv 10)) (fun _ _ => rfl)) ip_sub)
        (pss_one (ps_if (pt_cmpR op_lt (pv 9) pe_int (nomark _)) (pss_one ps_break) pss_nil))))))))
      (pss_one (ps_ret (pv 6)))))))), ?_⟩
    -- books, slowest, gain
    refine ⟨.ref p, rfl, p, dx, _, rfl, R.ob, p, dx, td, ts, ds, ss, rfl, R, ?_⟩
    refine ⟨.ref p, rfl, p, dx, _, rfl, R.ob, rdD ⟨td, ds, rfl, .of R.td, by omega, fun M hM hMu => ?_⟩⟩
    have RR := G.ring hM hMu
    have b1 := G.b1
    have b12 := G.b12
    have hM30 := G.d1 M hM
    have hT := sum_bounds G.d1
    have hBM : 0 ≤ ss.sum * M ∧ ss.sum * M ≤ 360 := by
      constructor
      · exact Int.mul_nonneg (by omega) (by omega)
      · have := Int.mul_le_mul_of_nonneg_right b12 (show 0 ≤ M by omega)
        omega
    refine ⟨.ref p, rfl, p, dx, _, rfl, R.ob, rdD ⟨td, ds, rfl, .of R.td, .int ss.sum, rfl, .int M, rfl, _, _, rfl, rfl, .inl ⟨by omega, by omega⟩, _, _, rfl, rfl, ?_⟩⟩
    -- latest = total = slowest_met = 0; left = number
    refine ⟨.int x, rfl, ?_⟩
    -- for step in range(len(ring))
    refine ⟨.ref p, rfl, p, dx, _, rfl, R.ob, p, dx, td, ts, ds, ss, rfl, R, (ds.length : Int), rfl, by omega, by omega, (ds.length : Int), rfl, by omega, by omega, for_range (lo := 0) (n := ((ds.length : Int) - 0).toNat)
      (fun i σ H' => H' = H ∧ ∃ L y10 y11, σ = edS p r x ss.sum M (ds.sum - ss.sum * M) L ds ss i y10 y11 ∧ sumBack (at' ss) r i ≤ x ∧ Sofar ds.length (at' ds) (at' ss) r x i L)
      ⟨rfl, 0, none, none, ?_, ?_, RR.sofar0 r x⟩ ?_ ?_⟩
    · show _ = ([some (.ref p), some (.int r), some (.int x), some (.int ss.sum), some (.int M), some (.int (ds.sum - ss.sum * M)), some (.int 0), some (.int 0), some (.int 0), some (.int (x - 0)), none, none] : L2.St)
      rw [show x - 0 = x by omega]
      rfl
    · show (0 : Int) ≤ x
      exact x0
    · rintro i σ H1 hi ⟨rfl, L, y10, y11, rfl, hle, SF⟩
      have hin : i < ds.length := by omega
      have e0 : (0 : Int) + (i : Int) = i := by omega
      have hix : atI (ds.map V.int) (r - (0 + (i : Int))) = some (.int (at' ds (r - i))) := by
        rw [e0]
        exact at_ix (by omega) (by omega)
      have hix2 : atI (ss.map V.int) (r - (0 + (i : Int))) = some (.int (at' ss (r - i))) := by
        rw [e0]
        exact at_ix (by omega) (by omega)
      -- total
      refine ⟨.int (sumBack (at' ds) r i), rfl, .ref p, rfl, p, dx, _, rfl, R.ob, rdD ⟨.int r, rfl, _, rfl, _, _, rfl, rfl, td, _, _, _, rfl, rfl, .of R.td, hix, _, _, rfl, rfl, ?_⟩⟩
      -- slowest_met
      refine ⟨_, rfl, .ref p, rfl, p, dx, _, rfl, R.ob, rdD ⟨.int r, rfl, _, rfl, _, _, rfl, rfl, td, _, _, _, rfl, rfl, .of R.td, hix, _, _, rfl, ?_⟩⟩
      rw [met_next RR.d1 r i]
      have hm1 : maxBack (at' ds) r i ≤ M := max_le RR.mu r i
      have hm0 : 1 ≤ maxBack (at' ds) r i := by
        have h1 := max_ge (f := at' ds) r (j := 0) (k := i) (Nat.zero_le _)
        have h2 := RR.d1 (r - (0 : Nat))
        omega
      -- latest
      refine ⟨.int L, rfl, .int (sumBack (at' ds) r (i + 1)), rfl, .int (x - sumBack (at' ss) r i), rfl, .int (maxBack (at' ds) r i), rfl, _, _, rfl, rfl, .inr ⟨by omega, by omega⟩, _, _, rfl, rfl, _, _, rfl, ?_⟩
      rw [max_if]
      have hch : sumBack (at' ds) r (i + 1) + (x - sumBack (at' ss) r i) * maxBack (at' ds) r i = ch (at' ds) (at' ss) r i x := rfl
      rw [hch]
      have hs : sumBack (at' ss) r (i + 1) = sumBack (at' ss) r i + at' ss (r - i) := rfl
      -- the end of a turn
      have fin : ∀ (L2 : Int) (y11' : Option V), Sofar ds.length (at' ds) (at' ss) r x (i + 1) L2 → tSeq (tAug 9 (tOp (rIxT K) (tProp T.C (spStarts T.C) [] E0 (tVar 0)) (tOp (rI0 fun i j => .int (i - j)) (tVar 1) (tVar 10))) (ipI fun i j => i - j)) (tIfS (tTest (tOp (rI0 fun i j => .bl (decide (i < j))) (tVar 9) (tC (.int 0)))) tBreak tNext)
          { nx := fun σ H' => H' = H1 ∧ ∃ L y10 y11, σ = edS p r x ss.sum M (ds.sum - ss.sum * M) L ds ss (i + 1) y10 y11 ∧ sumBack (at' ss) r (i + 1) ≤ x ∧ Sofar ds.length (at' ds) (at' ss) r x (i + 1) L,
            ct := fun σ H' => H' = H1 ∧ ∃ L y10 y11, σ = edS p r x ss.sum M (ds.sum - ss.sum * M) L ds ss (i + 1) y10 y11 ∧ sumBack (at' ss) r (i + 1) ≤ x ∧ Sofar ds.length (at' ds) (at' ss) r x (i + 1) L,
            rt := Q, bk := fun σ H' => tRet (tVar 6) { nx := fun _ H' => Q .non H', rt := Q } σ H' }
          [some (.ref p), some (.int r), some (.int x), some (.int ss.sum), some (.int M), some (.int (ds.sum - ss.sum * M)), some (.int L2), some (.int (sumBack (at' ds) r (i + 1))), some (.int (maxBack (at' ds) r i)), some (.int (x - sumBack (at' ss) r i)), some (.int (0 + (i : Int))), y11'] H1 := by
        intro L2 y11' SF2
        refine ⟨_, rfl, .ref p, rfl, p, dx, _, rfl, R.ob, rdS ⟨.int r, rfl, _, rfl, _, _, rfl, rfl, ts, _, _, _, rfl, rfl, .of R.ts, hix2, _, _, rfl, rfl, ?_⟩⟩
        have el : x - sumBack (at' ss) r i - at' ss (r - i) = x - sumBack (at' ss) r (i + 1) := by omega
        refine ⟨.int (x - sumBack (at' ss) r i - at' ss (r - i)), rfl, _, _, rfl, rfl, _, rfl, ?_⟩
        by_cases hb : x - sumBack (at' ss) r i - at' ss (r - i) < 0
        · rw [decide_eq_true hb]
          refine iteT ⟨.int L2, rfl, ?_⟩
          have := RR.E_of (RR.fin SF2 (.inr ⟨by omega, by omega⟩))
          rw [this] at q
          exact q
        · rw [decide_eq_false hb]
          refine iteF ⟨rfl, L2, some (.int (0 + (i : Int))), y11', ?_, by omega, SF2⟩
          unfold edS
          rw [← el]
          rfl
      -- if left >= books
      refine ⟨.int (x - sumBack (at' ss) r i), rfl, .int ss.sum, rfl, _, _, rfl, rfl, _, rfl, ?_⟩
      by_cases hb : ss.sum ≤ x - sumBack (at' ss) r i
      · rw [decide_eq_true hb]
        refine iteT ?_
        have go : ∀ rounds : Int, rounds = (if 0 < ds.sum - ss.sum * M then (x - sumBack (at' ss) r i) / ss.sum else 1) → _ := fun rounds hrd =>
          fin (max (max L (ch (at' ds) (at' ss) r i x)) (sumBack (at' ds) r (i + 1) + (x - sumBack (at' ss) r i) * M + rounds * (ds.sum - ss.sum * M))) (some (.int rounds)) (RR.step SF hle (by rw [if_pos hb, hrd]))
        -- rounds
        refine ⟨.int (ds.sum - ss.sum * M), rfl, _, _, rfl, rfl, _, rfl, ?_⟩
        by_cases hg : 0 < ds.sum - ss.sum * M
        · rw [decide_eq_true hg]
          refine iteT ⟨.int (x - sumBack (at' ss) r i), rfl, .int ss.sum, rfl, _, _, rfl, rfl, ⟨by omega, by omega⟩, ?_⟩
          refine ⟨_, rfl, .int (sumBack (at' ds) r (i + 1)), rfl, .int (x - sumBack (at' ss) r i), rfl, .int M, rfl, _, _, rfl, rfl, .inr ⟨by omega, by omega⟩, _, _, rfl, rfl, _, rfl, .int (ds.sum - ss.sum * M), rfl, _, _, rfl, rfl, .inr ⟨by omega, by omega⟩, _, _, rfl, rfl, _, _, rfl, ?_⟩
          rw [max_if]
          exact go _ (by rw [if_pos hg])
        · rw [decide_eq_false hg]
          refine iteF ?_
          refine ⟨_, rfl, .int (sumBack (at' ds) r (i + 1)), rfl, .int (x - sumBack (at' ss) r i), rfl, .int M, rfl, _, _, rfl, rfl, .inr ⟨by omega, by omega⟩, _, _, rfl, rfl, _, rfl, .int (ds.sum - ss.sum * M), rfl, _, _, rfl, rfl, .inr ⟨by omega, by omega⟩, _, _, rfl, rfl, _, _, rfl, ?_⟩
          rw [max_if]
          exact go _ (by rw [if_neg hg])
      · rw [decide_eq_false hb]
        refine iteF ?_
        exact fin _ y11 (RR.step SF hle (by rw [if_neg hb]))
    · rintro σ H1 ⟨rfl, L, y10, y11, rfl, hle, SF⟩
      have := RR.E_of (RR.fin SF (.inl (by omega)))
      rw [this] at q
      exact ⟨.int L, rfl, q⟩
end
end Rp
namespace Rp
open PySem PySem.Spec PyProof.Rows L2 Rz Rm
/-- readings and days of a repetition -/
def RepIs (T B M p q : Int) : Prop := (T ≤ M * B ∧ p = 1 ∧ q = M) ∨ (¬ T ≤ M * B ∧ p = B ∧ q = T)
theorem at_emod {ss : List Int} (i : Int) : at' ss (i % (ss.length : Int)) = at' ss i := by
  unfold at'
  rw [Int.emod_emod_of_dvd _ (Int.dvd_refl _)]
theorem emod_pred (z n : Int) : (z % n - 1) % n = (z - 1) % n := by
  have h := Int.emod_add_mul_ediv z n
  have e : z - 1 = (z % n - 1) + n * (z / n) := by omega
  rw [e, Int.add_mul_emod_self_left]
/-- the book of place q at reader r -/
def Bk (ss : List Int) (r q v : Int) : Prop := ∃ i : Nat, i < ss.length ∧ sumBack (at' ss) r i ≤ q ∧ q < sumBack (at' ss) r (i + 1) ∧ v = (ss.take ((r - i) % (ss.length : Int)).toNat).sum + (q - sumBack (at' ss) r i)
theorem Bk.inj {ss : List Int} (h0 : ∀ i, 0 ≤ at' ss i) {r q v v' : Int} (h : Bk ss r q v) (h' : Bk ss r q v') : v = v' := by
  obtain ⟨i, _, a1, a2, rfl⟩ := h
  obtain ⟨j, _, b1, b2, rfl⟩ := h'
  have e : i = j := by
    rcases Nat.lt_trichotomy i j with z | z | z
    · have := sum_mono h0 r (show i + 1 ≤ j by omega)
      omega
    · exact z
    · have := sum_mono h0 r (show j + 1 ≤ i by omega)
      omega
  rw [e]
section
variable {P : Program} {w : World} {K : PySem.W.Frag} {mg : Str → Option Value} {base : Heap}
/-! ### ring(reader, number) -/
def spCall (C : Addr) : Sp := fun vs H Q _ => ∃ p dx td ts ds ss, ∃ r x : Int, vs = [.ref p, .int r, .int x] ∧ RingAt C H p dx td ts ds ss ∧ 0 ≤ r ∧ r < ds.length ∧ 0 ≤ x ∧ x ≤ 1000000000000000000 ∧ Q (.int (Rm.E (at' ds) (at' ss) r x)) H
theorem ok_call (T : Tx K mg) : FnOk P w K mg base CX0 4 T.a_rcall T.d_rcall P_rcall (spCall T.C) := by
  refine T.F_rcall.ok sc_rcall (fun vs H Q E h => ?_) (fun cdv A outer s H vs Q E hr h => ?_)
  · obtain ⟨p, dx, td, ts, ds, ss, r, x, rfl, _⟩ := h
    rfl
  · obtain ⟨p, dx, td, ts, ds, ss, r, x, rfl, R, r0, r1, x0, x1, q⟩ := h
    obtain ⟨u1, c1⟩ := T.c_LATEST
    refine ⟨_, pss_cons (ps_expr (pe_call (ok_reader T) hr (by rfl) T.g_check_reader T.F_check_reader.kp T.b_check_reader .nil pass0 (pa_cons (pv 0) (pa_cons (pv 1) pa_nil))))
      (pss_cons (ps_expr (pe_call (ok_chk T) hr (by rfl) T.g_check_number T.F_check_number.kp T.b_check_number .nil pass0 (pa_cons (pv 2) (pa_cons pe_int (pa_cons (pe_glob (v := .int 1000000000000000000) (by rfl) c1 ⟨_, rfl⟩) pa_nil)))))
      (pss_one (ps_ret (pe_call (ok_end T) hr (by rfl) T.g_end_day T.F_end_day.kp T.b_end_day .nil pass0 (pa_cons (pv 0) (pa_cons (pv 1) (pa_cons (pv 2) pa_nil))))))), ?_⟩
    refine ⟨_, rfl, _, rfl, p, dx, td, ts, ds, ss, r, rfl, R, r0, r1, ?_⟩
    refine ⟨_, rfl, x, 0, 1000000000000000000, rfl, x0, x1, ?_⟩
    exact ⟨_, rfl, _, rfl, _, rfl, p, dx, td, ts, ds, ss, r, x, rfl, R, r0, r1, x0, q⟩
end
end Rp
namespace Rp
open PySem PySem.Spec PyProof.Rows L2 Rz Rm
theorem cut_front {xs : List V} {r : Int} (h0 : 0 ≤ r) (h1 : r < xs.length) : cutV xs none (some r) = xs.take r.toNat ∧ ¬ (HT.sIx xs.length 0 none = 0 ∧ HT.sIx xs.length xs.length (some r) = xs.length) := by
  have e : r = ((r.toNat : Nat) : Int) := by omega
  have e1 : HT.sIx xs.length xs.length (some r) = r.toNat := by
    rw [e, HT.sIx_nat]
    omega
  constructor
  · unfold cutV
    rw [HT.sIx_none, e1]
    simp
  · rw [e1]
    omega
theorem sum_le_zero : ∀ {l : List Int}, (∀ y ∈ l, y ≤ 0) → l.sum ≤ 0
  | [], _ => by simp
  | a :: r, h => by
    have h1 := h a List.mem_cons_self
    have ih := sum_le_zero (l := r) fun y hy => h y (List.mem_cons_of_mem _ hy)
    rw [List.sum_cons]
    omega
section
variable {N : Nat} {d s : Int → Int} {B T M : Int} (R : Rm.Ring N d s B T M)
include R
theorem _root_.Rm.Ring.rep_big {p q x : Int} (h : RepIs T B M p q) (hx : 4 * B + B * M ≤ x) : Rep d s p q x := by
  rw [RepIs, Int.mul_comm M B] at h
  rcases h with ⟨h1, rfl, rfl⟩ | ⟨h1, rfl, rfl⟩
  · exact R.rep_slow h1 hx
  · exact R.rep_fast (by omega) hx
theorem _root_.Rm.Ring.p1 {p q : Int} (h : RepIs T B M p q) : 1 ≤ p := by
  have := R.b1
  rcases h with ⟨_, rfl, _⟩ | ⟨_, rfl, _⟩ <;> omega
end
section
variable {P : Program} {w : World} {K : PySem.W.Frag} {mg : Str → Option Value} {base : Heap}
end
end Rp
namespace Rp
open PySem PySem.Spec PyProof.Rows L2 Rz Rm
/-! ### the drawn row -/
/-- all that was tracked but the row is as it was -/
def Kp (row : Addr) (H H' : Hp) : Prop := ∀ b o, H b = some o → b ≠ row → H' b = some o
theorem Kp.refl (row : Addr) (H : Hp) : Kp row H H := fun _ _ h _ => h
theorem Kp.trans {row : Addr} {H H1 H2 : Hp} (a : Kp row H H1) (b : Kp row H1 H2) : Kp row H H2 := fun c o h n => b c o (a c o h n) n
theorem Same.kp {row : Addr} {H H' : Hp} (s : Same H H') : Kp row H H' := fun b o h _ => s b o h
/-- the script stands in the written part -/
def Wr (K : PySem.W.Frag) (a : Addr) (xs : List V) : Prop := ∃ (o : Obj) (its : Array Value) (n : Nat), K.lookup a = some o ∧ o.cls = .type "list" ∧ o.dict = none ∧ o.data = .seq its n ∧ its.size ≤ sizeLine ∧ Vals xs its.toList
theorem far_of {K : PySem.W.Frag} {H : Hp} {D a : Addr} {xs : List V} (h : SqL K H a xs) (hD : H D = none) : D ≠ a ∨ Wr K a xs := by
  rcases h with (h | ⟨o, h⟩) | h
  · exact .inl fun e => by rw [e, h] at hD; cases hD
  · exact .inl fun e => by rw [e, h] at hD; cases hD
  · exact .inr h
theorem sq_upd {K : PySem.W.Frag} {H : Hp} {D a : Addr} {xs : List V} {o : HO} (h : SqL K H a xs) (f : D ≠ a ∨ Wr K a xs) : SqL K (upd H D o) a xs := by
  rcases f with f | f
  · rcases h with (h | ⟨u, h⟩) | h
    · exact .inl (.inl (by rw [upd_ne f.symm]; exact h))
    · exact .inl (.inr ⟨u, by rw [upd_ne f.symm]; exact h⟩)
    · exact .inr h
  · exact .inr f
structure RowAt (K : PySem.W.Frag) (H : Hp) (row a : Addr) (ns : List Int) : Prop where
  ob : ∃ i m q : Int, H row = some (.lst [.ref a, .int i, .int m, .int q]) ∧ 0 ≤ i
  sc : SqL K H a (ns.map V.int)
  ne : row ≠ a ∨ Wr K a (ns.map V.int)
theorem RowAt.same {K : PySem.W.Frag} {H H' : Hp} {row a : Addr} {ns : List Int} (R : RowAt K H row a ns) (s : Same H H') : RowAt K H' row a ns := by
  obtain ⟨i, m, q, h, h0⟩ := R.ob
  exact ⟨⟨i, m, q, s _ _ h, h0⟩, s.seq R.sc, R.ne⟩
theorem kp_upd {row : Addr} {H : Hp} {o : HO} : Kp row H (upd H row o) := fun b z h n => by
  rw [upd_ne n]
  exact h
/-- the row is written -/
theorem RowAt.put {K : PySem.W.Frag} {H : Hp} {row a : Addr} {ns : List Int} (R : RowAt K H row a ns) {i m q : Int} (h : 0 ≤ i) : RowAt K (upd H row (.lst [.ref a, .int i, .int m, .int q])) row a ns :=
  ⟨⟨i, m, q, upd_same, h⟩, sq_upd R.sc R.ne, R.ne⟩
theorem first_ix : ∀ {l : List Int} {m : Int}, m ∈ l → ∃ j : Nat, l[j]? = some m ∧ ∀ k z, k < j → l[k]? = some z → z ≠ m
  | a :: r, m, h => by
    by_cases e : a = m
    · exact ⟨0, by simp [e], fun k z hk => absurd hk (Nat.not_lt_zero _)⟩
    · obtain ⟨j, h1, h2⟩ := first_ix (l := r) (m := m) (by
        rcases List.mem_cons.mp h with q | q
        · exact absurd q.symm e
        · exact q)
      refine ⟨j + 1, by simpa using h1, fun k z hk hz => ?_⟩
      cases k with
      | zero =>
        simp at hz
        rw [← hz]
        exact e
      | succ k => exact h2 k z (by omega) (by simpa using hz)
theorem mem_le_sum : ∀ {l : List Int}, (∀ y ∈ l, 0 ≤ y) → ∀ x ∈ l, x ≤ l.sum
  | a :: r, h, x, hx => by
    have ha := h a List.mem_cons_self
    have hr : ∀ y ∈ r, 0 ≤ y := fun y hy => h y (List.mem_cons_of_mem _ hy)
    have hs : 0 ≤ r.sum := sum_nonneg' hr
    rw [List.sum_cons]
    rcases List.mem_cons.mp hx with e | e
    · omega
    · have := mem_le_sum hr x e
      omega
where sum_nonneg' : ∀ {l : List Int}, (∀ y ∈ l, 0 ≤ y) → 0 ≤ l.sum
  | [], _ => by simp
  | a :: r, h => by
    have h1 := h a List.mem_cons_self
    have h2 := sum_nonneg' (l := r) fun y hy => h y (List.mem_cons_of_mem _ hy)
    rw [List.sum_cons]
    omega
theorem mem_set {l : List Int} {j : Nat} {v y : Int} (h : y ∈ l.set j v) : y ∈ l ∨ y = v := List.mem_or_eq_of_mem_set h
theorem flat_ints (l : List Int) : (l.map V.int).all flatV = true := by
  rw [List.all_eq_true]
  intro x hx
  obtain ⟨i, _, rfl⟩ := List.mem_map.mp hx
  rfl
theorem lc_keep {σ : L2.St} {H : Hp} {F G : Hp → Prop} (h : F H) : tYes σ H (fun b H3 => if b = true then F H3 else G H3) := by
  show if true = true then F H else G H
  rw [if_pos rfl]
  exact h
theorem map_snoc (l : List Int) (v : Int) : l.map V.int ++ [V.int v] = (l ++ [v]).map V.int := by
  rw [List.map_append]
  rfl
theorem RowAt.upd' {K : PySem.W.Frag} {H : Hp} {D row a : Addr} {ns : List Int} {o : HO} (R : RowAt K H row a ns) (n : D ≠ row) (f : D ≠ a ∨ Wr K a (ns.map V.int)) : RowAt K (upd H D o) row a ns := by
  obtain ⟨i, m, q, h, h0⟩ := R.ob
  exact ⟨⟨i, m, q, by rw [upd_ne n.symm]; exact h, h0⟩, sq_upd R.sc f, R.ne⟩
theorem RowAt.nn {K : PySem.W.Frag} {H : Hp} {D row a : Addr} {ns : List Int} (R : RowAt K H row a ns) (h : H D = none) : D ≠ row := fun e => by
  obtain ⟨i, m, q, h2, _⟩ := R.ob
  rw [e, h2] at h
  cases h
theorem kp_new {row D : Addr} {H0 H : Hp} {o : HO} (k : Kp row H0 H) (h : H0 D = none) : Kp row H0 (upd H D o) := fun b z e n => by
  rw [upd_ne (ne_of_none e h)]
  exact k b z e n
end Rp
namespace Rp
open PySem PySem.Spec PyProof.Rows L2 Rz Rm
section
variable {P : Program} {w : World} {K : PySem.W.Frag} {mg : Str → Option Value} {base : Heap}
def spTaken (K : PySem.W.Frag) : Sp := fun vs H Q _ => ∃ (row a : Addr) (ns : List Int) (many : Int), vs = [.ref row, .int many] ∧ RowAt K H row a ns ∧ 1 ≤ many ∧ many < 1073741824 ∧
  ∀ v H', 0 ≤ v → v < many → RowAt K H' row a ns → Kp row H H' → Q (.int v) H'
theorem ok_taken (T : Tx K mg) : FnOk P w K mg base CX0 1 T.a_ltaken T.d_ltaken P_ltaken (spTaken K) := by
  refine T.F_ltaken.ok sc_ltaken (fun vs H Q E h => ?_) (fun cdv A outer s H vs Q E hr h => ?_)
  · obtain ⟨row, a, ns, many, rfl, _⟩ := h
    rfl
  · obtain ⟨row, a, ns, many, rfl, RA, m1, m2, q⟩ := h
    obtain ⟨i, m, c, hrow, i0⟩ := RA.ob
    have nd := sc_ltaken.nd
    refine ⟨_, pss_cons (ps_if (pt_cmpR op_gt (pe_ix ix_list (pv 0) pe_int (fun _ _ => rfl)) pe_int (nomark _))
        (pss_cons (ps_set (i := 2) nd rfl (.inl rfl) (pe_op op_mod (pe_callTy call_int1 (by rfl) T.z_int (by decide +kernel) (pa_cons (pe_ix ix_list (pv 0) pe_int (fun _ _ => rfl)) pa_nil)) (pv 1)))
        (pss_cons (ps_asg (pe_op op_fdiv (pe_ix ix_list (pv 0) pe_int (fun _ _ => rfl)) (pv 1)) (pg_sub (pv 0) pe_int set_list))
        (pss_one (ps_ret (pv 2))))) pss_nil)
      (pss_cons (ps_asg (pe_op op_add (pe_ix ix_list (pv 0) pe_int (fun _ _ => rfl)) pe_int) (pg_sub (pv 0) pe_int set_list))
      (pss_cons (ps_if (pt_cmpR op_gt (pe_ix ix_list (pv 0) pe_int (fun _ _ => rfl)) (pe_callB call_len_seq (by rfl) T.z_len PySem.boot_len (pa_cons (pe_ix ix_list (pv 0) pe_int (fun _ _ => rfl)) pa_nil)) (nomark _))
        (pss_cons (ps_asg (pe_op op_mod (pe_callTy call_int1 (by rfl) T.z_int (by decide +kernel) (pa_cons (pe_op op_add (pe_op op_mul (pe_ix ix_list (pv 0) pe_int (fun _ _ => rfl)) pe_int) pe_int) pa_nil)) pe_int) (pg_sub (pv 0) pe_int set_list))
        (pss_one (ps_ret (pe_op op_mod (pe_callTy call_int1 (by rfl) T.z_int (by decide +kernel) (pa_cons (pe_op op_fdiv (pe_ix ix_list (pv 0) pe_int (fun _ _ => rfl)) pe_int) pa_nil)) (pv 1))))) pss_nil)
      (pss_cons (ps_set (i := 3) nd rfl (.inl rfl) (pe_ix ix_list (pe_ix ix_list (pv 0) pe_int (fun _ _ => rfl)) (pe_op op_sub (pe_ix ix_list (pv 0) pe_int (fun _ _ => rfl)) pe_int) (fun _ _ => rfl)))
      (pss_cons (ps_asg (pe_op op_mod (pe_callTy call_int1 (by rfl) T.z_int (by decide +kernel) (pa_cons (pe_op op_add (pe_op op_add (pe_op op_mul (pe_ix ix_list (pv 0) pe_int (fun _ _ => rfl)) pe_int) (pv 3)) pe_int) pa_nil)) pe_int) (pg_sub (pv 0) pe_int set_list))
      (pss_cons (ps_asg (pe_ifExp (pt_cmpR op_ge (pv 3) (pe_op op_pow pe_int pe_int) (nomark _)) (pe_op op_fdiv (pv 3) (pv 1)) pe_int) (pg_sub (pv 0) pe_int set_list))
      (pss_one (ps_ret (pe_op op_mod (pe_callTy call_int1 (by rfl) T.z_int (by decide +kernel) (pa_cons (pv 3) pa_nil)) (pv 1))))))))), ?_⟩
    have mod0 : ∀ z : Int, 0 ≤ z % many := fun z => Int.emod_nonneg _ (by omega)
    have mod1 : ∀ z : Int, z % many < many := fun z => Int.emod_lt_of_pos _ (by omega)
    -- if row[3] > 0
    refine ⟨_, rfl, row, _, 3, _, rfl, rfl, .of hrow, atI_nat (j := 3) rfl, _, _, rfl, rfl, _, rfl, ?_⟩
    by_cases hc : 0 < c
    · rw [decide_eq_true hc]
      refine iteT ?_
      refine ⟨_, rfl, row, _, 3, _, rfl, rfl, .of hrow, atI_nat (j := 3) rfl, .inl ⟨_, rfl, _, rfl, _, _, rfl, rfl, by show (0 : Int) < many; omega, ?_⟩⟩
      refine ⟨_, rfl, row, _, 3, _, rfl, rfl, .of hrow, atI_nat (j := 3) rfl, _, rfl, _, _, rfl, rfl, ⟨by omega, by omega⟩, ?_⟩
      refine ⟨_, rfl, row, _, 3, 3, rfl, rfl, hrow, rfl, ?_⟩
      exact ⟨_, rfl, q _ _ (mod0 c) (mod1 c) (RA.put i0) kp_upd⟩
    · rw [decide_eq_false hc]
      refine iteF ?_
      -- row[1] = row[1] + 1
      refine ⟨_, rfl, row, _, 1, _, rfl, rfl, .of hrow, atI_nat (j := 1) rfl, _, _, rfl, rfl, ?_⟩
      refine ⟨_, rfl, row, _, 1, 1, rfl, rfl, hrow, rfl, ?_⟩
      have RA1 : RowAt K (upd H row (.lst [.ref a, .int (i + 1), .int m, .int c])) row a ns := RA.put (by omega)
      have hrow1 : (upd H row (.lst [.ref a, .int (i + 1), .int m, .int c])) row = some (.lst [.ref a, .int (i + 1), .int m, .int c]) := upd_same
      have kp1 : Kp row H (upd H row (.lst [.ref a, .int (i + 1), .int m, .int c])) := kp_upd
      show tSeq _ _ _ _ (upd H row (.lst [.ref a, .int (i + 1), .int m, .int c]))
      generalize (upd H row (.lst [.ref a, .int (i + 1), .int m, .int c])) = H1 at RA1 hrow1 kp1
      -- if row[1] > len(row[0])
      refine ⟨_, rfl, row, _, 1, _, rfl, rfl, .of hrow1, atI_nat (j := 1) rfl, _, rfl, row, _, 0, _, rfl, rfl, .of hrow1, atI_nat (j := 0) rfl, a, _, rfl, .inl RA1.sc, _, _, rfl, rfl, _, rfl, ?_⟩
      rw [List.length_map]
      by_cases hl : (ns.length : Int) < i + 1
      · rw [decide_eq_true hl]
        refine iteT ?_
        refine ⟨_, rfl, row, _, 2, _, rfl, rfl, .of hrow1, atI_nat (j := 2) rfl, _, _, rfl, rfl, .inr ⟨by decide, by decide⟩, _, _, rfl, rfl, .inl ⟨_, rfl, _, _, rfl, rfl, (by show (0 : Int) < 2147483647; decide), ?_⟩⟩
        refine ⟨_, rfl, row, _, 2, 2, rfl, rfl, hrow1, rfl, ?_⟩
        refine ⟨_, rfl, row, _, 2, _, rfl, rfl, .of upd_same, atI_nat (j := 2) rfl, _, _, rfl, rfl, ⟨by decide, by decide⟩, .inl ⟨_, rfl, _, rfl, _, _, rfl, rfl, by show (0 : Int) < many; omega, ?_⟩⟩
        exact q _ _ (mod0 _) (mod1 _) (RA1.put (by omega)) (kp1.trans kp_upd)
      · rw [decide_eq_false hl]
        refine iteF ?_
        have hi : i.toNat < ns.length := by omega
        have hg : atI (ns.map V.int) (i + 1 - 1) = some (.int ns[i.toNat]) := by
          refine at_of (j := i.toNat) (by omega) ?_
          rw [List.getElem?_map, List.getElem?_eq_getElem hi]
          rfl
        refine ⟨_, rfl, row, _, 0, _, rfl, rfl, .of hrow1, atI_nat (j := 0) rfl, _, rfl, row, _, 1, _, rfl, rfl, .of hrow1, atI_nat (j := 1) rfl, _, _, rfl, rfl, a, _, _, _, rfl, rfl, RA1.sc, hg, ?_⟩
        generalize ns[i.toNat] = cell
        -- row[2] = ..
        refine ⟨_, rfl, row, _, 2, _, rfl, rfl, .of hrow1, atI_nat (j := 2) rfl, _, _, rfl, rfl, .inr ⟨by decide, by decide⟩, _, rfl, _, _, rfl, rfl, _, _, rfl, rfl, .inl ⟨_, rfl, _, _, rfl, rfl, (by show (0 : Int) < 2147483647; decide), ?_⟩⟩
        refine ⟨_, rfl, row, _, 2, 2, rfl, rfl, hrow1, rfl, ?_⟩
        -- row[3] = ..
        refine ⟨_, rfl, _, _, rfl, rfl, ⟨by decide, by decide, by decide⟩, _, _, rfl, rfl, _, rfl, ?_⟩
        refine ite2 (fun _ => ?_) (fun _ => ?_)
        · refine ⟨_, rfl, _, rfl, _, _, rfl, rfl, ⟨by omega, by omega⟩, ?_⟩
          refine ⟨_, rfl, row, _, 3, 3, rfl, rfl, upd_same, rfl, ?_⟩
          refine ⟨_, rfl, .inl ⟨_, rfl, _, rfl, _, _, rfl, rfl, by show (0 : Int) < many; omega, ?_⟩⟩
          rw [upd_upd]
          exact q _ _ (mod0 _) (mod1 _) (RA1.put (by omega)) (kp1.trans kp_upd)
        · refine ⟨_, rfl, row, _, 3, 3, rfl, rfl, upd_same, rfl, ?_⟩
          refine ⟨_, rfl, .inl ⟨_, rfl, _, rfl, _, _, rfl, rfl, by show (0 : Int) < many; omega, ?_⟩⟩
          rw [upd_upd]
          exact q _ _ (mod0 _) (mod1 _) (RA1.put (by omega)) (kp1.trans kp_upd)
end
section
variable {P : Program} {w : World} {K : PySem.W.Frag} {mg : Str → Option Value} {base : Heap}
/-- two new tuples that make a ring -/
def spParts (K : PySem.W.Frag) : Sp := fun vs H Q _ => ∃ (row a : Addr) (ns : List Int) (most : Int), vs = [.ref row, .int most] ∧ RowAt K H row a ns ∧ 2 ≤ most ∧ most ≤ 8 ∧
  ∀ H' t td ts ds ss, Good ds ss → RowAt K H' row a ns → Kp row H H' → H' t = some (.tup [.ref td, .ref ts]) → H' td = some (.tup (ds.map V.int)) → H' ts = some (.tup (ss.map V.int)) → Q (.ref t) H'
/-- what a list being made holds -/
def Acc (K : PySem.W.Frag) (H0 : Hp) (row a D : Addr) (ns : List Int) (lo hi : Int) (i : Nat) (H : Hp) : Prop :=
  ∃ acc : List Int, acc.length = i ∧ (∀ y ∈ acc, lo ≤ y ∧ y ≤ hi) ∧ H D = some (.lst (acc.map V.int)) ∧ RowAt K H row a ns ∧ Kp row H0 H
theorem acc_next {H0 H H' : Hp} {row a D : Addr} {ns : List Int} {lo hi v : Int} {i : Nat} (hD : H0 D = none) (nD : D ≠ row) (f : D ≠ a ∨ Wr K a (ns.map V.int)) {acc : List Int} (hlen : acc.length = i) (hall : ∀ y ∈ acc, lo ≤ y ∧ y ≤ hi)
    (hacc : H D = some (.lst (acc.map V.int))) (k : Kp row H0 H) (RA : RowAt K H' row a ns) (k' : Kp row H H') (v0 : lo ≤ v) (v1 : v ≤ hi) : Acc K H0 row a D ns lo hi (i + 1) (upd H' D (.lst (acc.map V.int ++ [V.int v]))) := by
  refine ⟨acc ++ [v], by rw [List.length_append, hlen]; rfl, fun y hy => ?_, by rw [upd_same, map_snoc], RA.upd' nD f, kp_new (k.trans k') hD⟩
  rcases List.mem_append.mp hy with z | z
  · exact hall y z
  · have := List.mem_singleton.mp z
    omega
theorem ok_parts (T : Tx K mg) : FnOk P w K mg base CX0 2 T.a_lparts T.d_lparts P_lparts (spParts K) := by
  refine T.F_lparts.ok sc_lparts (fun vs H Q E h => ?_) (fun cdv A outer s H vs Q E hr h => ?_)
  · obtain ⟨row, a, ns, most, rfl, _⟩ := h
    rfl
  · obtain ⟨row, a, ns, most, rfl, RA, m2, m8, q⟩ := h
    have nd := sc_lparts.nd
    refine ⟨_, pss_cons (ps_asg (pe_tup (pa_cons (pe_op op_add pe_int (pe_call (ok_taken T) hr (by rfl) T.g_ltaken T.F_ltaken.kp T.b_ltaken .nil pass0 (pa_cons (pv 0) (pa_cons (pe_op op_sub (pv 1) pe_int) pa_nil))))
        (pa_cons (pe_ix ix_list (pe_lst (pa_cons pe_int (pa_cons pe_int (pa_cons pe_int pa_nil)))) (pe_call (ok_taken T) hr (by rfl) T.g_ltaken T.F_ltaken.kp T.b_ltaken .nil pass0 (pa_cons (pv 0) (pa_cons pe_int pa_nil))) (fun _ _ => rfl)) pa_nil)))
        (pg_tup rfl (pgs_cons (pg_name (i := 2) nd rfl (.inl rfl)) (pgs_cons (pg_name (i := 3) nd rfl (.inr rfl)) pgs_nil))))
      (pss_cons (ps_setLc (i := 4) (own := [("_law_k", 6)]) rfl nd rfl rfl (sw_true rfl rfl rfl (by decide +kernel)) (pi_range1 (by rfl) T.z_range (pa_cons (pv 2) pa_nil)) (blkOk_by (N := N_lparts) (sc := defScope s_lparts) (by decide +kernel))
        (fun _ _ _ _ _ => pg_name (i := 6) nd rfl (.inl rfl)) (fun _ _ _ _ _ => pts_nil)
        (fun _ _ _ _ _ => pe_op op_add pe_int (pe_call (ok_taken T) hr (by rfl) T.g_ltaken T.F_ltaken.kp T.b_ltaken .nil pass0 (pa_cons (pv 0) (pa_cons (pv 3) pa_nil)))))
      (pss_cons (ps_setLc (i := 5) (own := [("_law_k", 6)]) rfl nd rfl rfl (sw_true rfl rfl rfl (by decide +kernel)) (pi_range1 (by rfl) T.z_range (pa_cons (pv 2) pa_nil)) (blkOk_by (N := N_lparts) (sc := defScope s_lparts) (by decide +kernel))
        (fun _ _ _ _ _ => pg_name (i := 6) nd rfl (.inl rfl)) (fun _ _ _ _ _ => pts_nil)
        (fun _ _ _ _ _ => pe_call (ok_taken T) hr (by rfl) T.g_ltaken T.F_ltaken.kp T.b_ltaken .nil pass0 (pa_cons (pv 0) (pa_cons pe_int pa_nil))))
      (pss_cons (ps_if (pt_cmpR op_eq (pe_callB (cr_sum rfl) (by rfl) T.z_sum (by decide +kernel) (pa_cons (pv 5) pa_nil)) pe_int (nomark _))
        (pss_one (ps_asg (pe_op op_add pe_int (pe_call (ok_taken T) hr (by rfl) T.g_ltaken T.F_ltaken.kp T.b_ltaken .nil pass0 (pa_cons (pv 0) (pa_cons pe_int pa_nil))))
          (pg_sub (pv 5) (pe_call (ok_taken T) hr (by rfl) T.g_ltaken T.F_ltaken.kp T.b_ltaken .nil pass0 (pa_cons (pv 0) (pa_cons (pv 2) pa_nil))) set_list))) pss_nil)
      (pss_cons (ps_while PassesOwn.never (pt_cmpR op_gt (pe_callB (cr_sum rfl) (by rfl) T.z_sum (by decide +kernel) (pa_cons (pv 5) pa_nil)) pe_int (nomark _))
        (pss_one (ps_asg (pe_op op_sub (pe_callB (cr_max rfl) (by rfl) T.z_max (by decide +kernel) (pa_cons (pv 5) pa_nil)) pe_int)
          (pg_sub (pv 5) (pe_bm PySem.F.plainAttrs_list PySem.F.slot_list_index PySem.F.type_list_index mt_index (pv 5) (pa_cons (pe_callB (cr_max rfl) (by rfl) T.z_max (by decide +kernel) (pa_cons (pv 5) pa_nil)) pa_nil)) set_list))))
      (pss_one (ps_ret (pe_tup (pa_cons (pe_callTy call_tuple_of (by rfl) T.z_tuple (by decide +kernel) (pa_cons (pv 4) pa_nil)) (pa_cons (pe_callTy call_tuple_of (by rfl) T.z_tuple (by decide +kernel) (pa_cons (pv 5) pa_nil)) pa_nil))))))))), ?_⟩
    -- size, far
    refine ⟨_, rfl, _, rfl, _, _, rfl, rfl, row, a, ns, _, rfl, RA, by omega, by omega, fun v1 H1 v10 v11 RA1 k1 => ?_⟩
    refine ⟨_, _, rfl, rfl, (by show 3 ≤ sizeLine; decide), fun l3 hl3 => ?_⟩
    have s1 : Same H1 (upd H1 l3 (.lst [.int 3, .int 9, .int 30])) := same_upd hl3
    have RA1' := RA1.same s1
    obtain ⟨_, _, _, hrw1, _⟩ := RA1.ob
    have nl3 : l3 ≠ row := fun e => by rw [e, hrw1] at hl3; cases hl3
    refine ⟨_, rfl, row, a, ns, _, rfl, RA1', by decide, by decide, fun v2 H2 v20 v21 RA2 k2 => ?_⟩
    have hl3' : H2 l3 = some (.lst [.int 3, .int 9, .int 30]) := k2 _ _ upd_same nl3
    obtain ⟨far, hfar, f1, f30⟩ : ∃ far : Int, atI [V.int 3, V.int 9, V.int 30] v2 = some (.int far) ∧ 1 ≤ far ∧ far ≤ 30 := by
      have : v2 = 0 ∨ v2 = 1 ∨ v2 = 2 := by omega
      rcases this with rfl | rfl | rfl
      · exact ⟨3, rfl, by omega, by omega⟩
      · exact ⟨9, rfl, by omega, by omega⟩
      · exact ⟨30, rfl, by omega, by omega⟩
    refine ⟨l3, _, v2, _, rfl, rfl, .of hl3', hfar, (by show 2 ≤ sizeLine; decide), fun t0 ht0 => ?_⟩
    have s2 : Same H2 (upd H2 t0 (.tup [.int (2 + v1), .int far])) := same_upd ht0
    refine ⟨t0, _, rfl, .of upd_same, rfl, _, _, rfl, _, _, rfl, rfl, ?_⟩
    have RA3 := RA2.same s2
    have k3 : Kp row H (upd H2 t0 (.tup [.int (2 + v1), .int far])) := ((k1.trans (Same.kp s1)).trans k2).trans (Same.kp s2)
    show tSeq _ _ _ _ (upd H2 t0 (.tup [.int (2 + v1), .int far]))
    generalize (upd H2 t0 (.tup [.int (2 + v1), .int far])) = H3 at RA3 k3
    -- days
    refine ⟨_, rfl, _, rfl, by omega, by omega, fun D hD => lc_range (lo := 0) (n := (2 + v1).toNat) (Acc K H3 row a D ns 1 30) ?_ ?_ ?_⟩
    · exact ⟨[], rfl, fun y hy => absurd hy (by simp), upd_same, RA3.same (same_upd hD), Same.kp (same_upd hD)⟩
    · rintro i H4 hi ⟨acc, hlen, hall, hacc, RA4, k4⟩
      have nD := RA3.nn hD
      refine ⟨rfl, lc_keep ?_⟩
      refine ⟨_, rfl, _, rfl, row, a, ns, _, rfl, RA4, f1, by omega, fun v H5 v0 v1' RA5 k5 => ?_⟩
      exact ⟨_, _, rfl, rfl, acc.map V.int, k5 _ _ hacc nD, by rw [List.length_map]; exact small1000 (by omega), acc_next hD nD (far_of RA3.sc hD) hlen hall hacc k4 RA5 k5 (by omega) (by omega)⟩
    rintro H4 ⟨ds, dlen, dall, hds, RA4, k4⟩
    have nD := RA3.nn hD
    have k04 := k3.trans k4
    -- starts
    refine ⟨_, rfl, _, rfl, by omega, by omega, fun D2 hD2 => lc_range (lo := 0) (n := (2 + v1).toNat) (Acc K H4 row a D2 ns 0 2) ?_ ?_ ?_⟩
    · exact ⟨[], rfl, fun y hy => absurd hy (by simp), upd_same, RA4.same (same_upd hD2), Same.kp (same_upd hD2)⟩
    · rintro i H5 hi ⟨acc, hlen, hall, hacc, RA5, k5⟩
      have nD2 := RA4.nn hD2
      refine ⟨rfl, lc_keep ?_⟩
      refine ⟨_, rfl, row, a, ns, _, rfl, RA5, by decide, by decide, fun v H6 v0 v1' RA6 k6 => ?_⟩
      exact ⟨acc.map V.int, k6 _ _ hacc nD2, by rw [List.length_map]; exact small1000 (by omega), acc_next hD2 nD2 (far_of RA4.sc hD2) hlen hall hacc k5 RA6 k6 (by omega) (by omega)⟩
    rintro H5 ⟨ss0, slen0, sall0, hss0, RA5, k5⟩
    have nD2 := RA4.nn hD2
    have nDD : D ≠ D2 := ne_of_none hds hD2
    have fD2 := far_of RA4.sc hD2
    have hds5 : H5 D = some (.lst (ds.map V.int)) := k5 _ _ hds nD
    have k05 := k04.trans k5
    have hD20 : ∀ b o, H b = some o → b ≠ row → b ≠ D2 := fun b o e n => ne_of_none (k04 b o e n) hD2
    -- the loop that makes the books few
    have loop : ∀ (ss : List Int) (H6 : Hp), ss.length = (2 + v1).toNat → (∀ y ∈ ss, 0 ≤ y ∧ y ≤ 12) → 1 ≤ ss.sum → H6 D2 = some (.lst (ss.map V.int)) → H6 D = some (.lst (ds.map V.int)) → RowAt K H6 row a ns → Kp row H H6 →
        tSeq (tWhile (tTest (tOp (rI0 fun i j => .bl (decide (j < i))) (tCB (rSum K) (tCons (tVar 5) tNil)) (tC (.int 12))))
          (tAsg (tOp (rI0 fun i j => .int (i - j)) (tCB (rMax K) (tCons (tVar 5) tNil)) (tC (.int 1))) (gSub (tVar 5) (tBM K "list" (rIndex K) (tVar 5) (tCons (tCB (rMax K) (tCons (tVar 5) tNil)) tNil)) rSetL)))
          (tRet (tTup (tCons (tCB (fun xs H Q => ∃ p ys, xs = [.ref p] ∧ ((SqL K H p ys ∧ ∀ l, H l = none → Q (.ref l) (upd H l (.tup ys))) ∨ (SqT K H p ys ∧ Q (.ref p) H))) (tCons (tVar 4) tNil)) (tCons (tCB (fun xs H Q => ∃ p ys, xs = [.ref p] ∧ ((SqL K H p ys ∧ ∀ l, H l = none → Q (.ref l) (upd H l (.tup ys))) ∨ (SqT K H p ys ∧ Q (.ref p) H))) (tCons (tVar 5) tNil)) tNil))))
          { nx := fun _ H' => Q .non H', rt := Q } [some (.ref row), some (.int most), some (.int (2 + v1)), some (.int far), some (.ref D), some (.ref D2), none] H6 := by
      intro ss H6 slen sall ssum hss hdd RA6 k6
      refine ⟨fun m σ H' => σ = [some (.ref row), some (.int most), some (.int (2 + v1)), some (.int far), some (.ref D), some (.ref D2), none] ∧ ∃ ss : List Int, m = ss.sum.toNat ∧ ss.length = (2 + v1).toNat ∧ (∀ y ∈ ss, 0 ≤ y ∧ y ≤ 12) ∧ 1 ≤ ss.sum ∧ H' D2 = some (.lst (ss.map V.int)) ∧ H' D = some (.lst (ds.map V.int)) ∧ RowAt K H' row a ns ∧ Kp row H H',
        ⟨ss.sum.toNat, rfl, ss, rfl, slen, sall, ssum, hss, hdd, RA6, k6⟩, ?_⟩
      rintro m σ H7 ⟨rfl, ss, rfl, slen, sall, ssum, hss, hdd, RA7, k7⟩
      refine ⟨_, rfl, D2, ss, rfl, .of hss, _, _, rfl, rfl, _, rfl, ?_⟩
      by_cases hc : 12 < ss.sum
      · rw [decide_eq_true hc]
        refine iteT ⟨fun σ' H' => σ' = [some (.ref row), some (.int most), some (.int (2 + v1)), some (.int far), some (.ref D), some (.ref D2), none] ∧ ∃ ss' : List Int, ss'.sum = ss.sum - 1 ∧ ss'.length = (2 + v1).toNat ∧ (∀ y ∈ ss', 0 ≤ y ∧ y ≤ 12) ∧ H' D2 = some (.lst (ss'.map V.int)) ∧ H' D = some (.lst (ds.map V.int)) ∧ RowAt K H' row a ns ∧ Kp row H H',
          fun σ' H' ⟨e1, ss', e2, e3, e4, e5, e6, e7, e8⟩ => ⟨ss'.sum.toNat, by omega, e1, ss', rfl, e3, e4, by omega, e5, e6, e7, e8⟩, ?_⟩
        refine ⟨_, rfl, D2, ss, rfl, .of hss, by omega, fun mm hm hmu => ⟨_, _, rfl, rfl, ?_⟩⟩
        refine ⟨_, rfl, _, rfl, .inl ⟨rfl, _, .of hss⟩, _, rfl, D2, ss, rfl, .of hss, by omega, fun mm2 hm2 hmu2 => ?_⟩
        obtain ⟨j, hj, hno⟩ := first_ix hm2
        have emm : mm2 = mm := Int.le_antisymm (hmu _ hm2) (hmu2 _ hm)
        subst emm
        have hjl : j < ss.length := (List.getElem?_eq_some_iff.mp hj).1
        refine ⟨D2, ss.map V.int, .int mm2, j, .int mm2, rfl, rfl, .of hss, rfl, flat_ints ss, by rw [List.getElem?_map, hj]; rfl, beq_self_eq_true mm2, fun k z' hk hz => ?_, ?_⟩
        · obtain ⟨z, hz2, rfl⟩ := get_int hz
          exact beq_eq_false_iff_ne.mpr (hno k z hk hz2)
        · have hixn : ixN (ss.map V.int).length ((j : Nat) : Int) = some j := by
            unfold ixN
            rw [List.length_map, if_pos (by omega), if_pos (by omega), Int.toNat_natCast]
          refine ⟨D2, _, ((j : Nat) : Int), j, rfl, rfl, hss, hixn, rfl, ss.set j (mm2 - 1), ?_, by rw [List.length_set]; exact slen, fun y hy => ?_, by rw [upd_same, List.map_set], by rw [upd_ne nDD]; exact hdd, RA7.upd' nD2 fD2, fun b o e n => by rw [upd_ne (hD20 b o e n)]; exact k7 b o e n⟩
          · rw [sum_set hj]
            omega
          · have hm12 := sall _ hm2
            have hm1 : 1 ≤ mm2 := by
              rcases Int.lt_or_le mm2 1 with z | z
              · have := sum_le_zero (l := ss) fun y hy => by have := hmu _ hy; omega
                omega
              · exact z
            rcases mem_set hy with z | z
            · exact sall y z
            · omega
      · rw [decide_eq_false hc]
        refine iteF ?_
        refine ⟨_, rfl, D, _, rfl, .inl ⟨.of hdd, fun l1 hl1 => ?_⟩⟩
        have u1 := same_upd (o := .tup (ds.map V.int)) hl1
        refine ⟨_, rfl, D2, _, rfl, .inl ⟨.of (u1 _ _ hss), fun l2 hl2 => ⟨(by show 2 ≤ sizeLine; decide), fun t ht => ?_⟩⟩⟩
        have u2 := same_upd (o := .tup (ss.map V.int)) hl2
        have u3 := same_upd (o := .tup [.ref l1, .ref l2]) ht
        exact q _ t l1 l2 ds ss ⟨by omega, by omega, by omega, dall, sall, ssum, by omega⟩ (((RA7.same u1).same u2).same u3) (((k7.trans (Same.kp u1)).trans (Same.kp u2)).trans (Same.kp u3)) upd_same (u3 _ _ (u2 _ _ upd_same)) (u3 _ _ upd_same)
    -- if sum(starts) == 0
    refine ⟨_, rfl, D2, ss0, rfl, .of hss0, rfl, _, rfl, ?_⟩
    have nn0 : ∀ y ∈ ss0, 0 ≤ y := fun y hy => (sall0 y hy).1
    by_cases hz : ss0.sum = 0
    · rw [decide_eq_true (show V.int ss0.sum = V.int 0 by rw [hz])]
      refine iteT ?_
      refine ⟨_, rfl, row, a, ns, _, rfl, RA5, by decide, by decide, fun v H6 v0 v1' RA6 k6 => ⟨_, _, rfl, rfl, ?_⟩⟩
      refine ⟨_, rfl, _, rfl, _, rfl, row, a, ns, _, rfl, RA6, by omega, by omega, fun j H7 j0 j1 RA7 k7 => ?_⟩
      have k57 := k6.trans k7
      have hss7 : H7 D2 = some (.lst (ss0.map V.int)) := k57 _ _ hss0 nD2
      have hj : j.toNat < ss0.length := by omega
      have hixn : ixN (ss0.map V.int).length j = some j.toNat := by
        unfold ixN
        rw [List.length_map, if_pos (by omega), if_pos (by omega)]
      refine ⟨D2, _, j, j.toNat, rfl, rfl, hss7, hixn, ?_⟩
      have hmem : (1 + v) ∈ ss0.set j.toNat (1 + v) := List.mem_set hj (1 + v)
      have hall' : ∀ y ∈ ss0.set j.toNat (1 + v), 0 ≤ y ∧ y ≤ 12 := fun y hy => by
        rcases mem_set hy with z | z
        · have := sall0 y z; omega
        · omega
      refine loop (ss0.set j.toNat (1 + v)) _ (by rw [List.length_set]; exact slen0) hall' ?_ (by rw [upd_same, List.map_set]) (by rw [upd_ne nDD]; exact k57 _ _ hds5 nD) (RA7.upd' nD2 fD2) (fun b o e n => by rw [upd_ne (hD20 b o e n)]; exact (k05.trans k57) b o e n)
      have := mem_le_sum (fun y hy => (hall' y hy).1) _ hmem
      omega
    · rw [decide_eq_false (show ¬ V.int ss0.sum = V.int 0 from fun z => hz (V.int.inj z))]
      refine iteF ?_
      have := mem_le_sum.sum_nonneg' nn0
      exact loop ss0 H5 slen0 (fun y hy => by have := sall0 y hy; omega) (by omega) hss0 hds5 RA5 k05
end
end Rp
/-! More rules beside the layer's: a range that stands in a slot, walked; a tuple's index of an int. -/
namespace Rz
open PySem PySem.Spec PyProof.Rows L2
section
variable {X : Cx}
def iRngV (te : TE) : TI := fun σ H R => te σ H fun x H1 => ∃ a lo hi, x = .ref a ∧ H1 a = some (.rng lo hi) ∧ (-(2 ^ 62) ≤ lo ∧ lo < 2 ^ 62 ∧ -(2 ^ 62) ≤ hi ∧ hi < 2 ^ 62) ∧ R (Itr lo (hi - lo).toNat) H1
theorem pi_rngV {tg e : Expr} {te : TE} (he : PE X e te) : PI X tg e (iRngV te) := by
  refine ⟨fun pins s σ H R I h => ?_⟩
  refine thn (he.run pins s σ H _ I h) fun v s1 ⟨x, H1, I1, r1, q1⟩ => ?_
  obtain ⟨a, lo, hi, ex, ha, ⟨h1, h2, h3, h4⟩, q⟩ := q1
  subst ex
  cases r1
  obtain ⟨t, u, v, ho⟩ := (show ObjOk X.prog X.w H1 s1.heap a (.rng lo hi) from I1.hok a _ ha)
  refine wpAny_pyIter_range (show IsRange s1.heap a lo hi 1 t u v from ho) (small_one h1 h2 h3 h4) ?_
  refine ⟨s1.heap.objs.size, [s1.heap.objs.size], _, _, H1, rfl, I1.kept (t' := s1.toks) fun b o e => Heap.get?_push_of_some _ e, turn_range _ lo (hi - lo).toNat, ?_, fun b hb => ?_, q⟩
  · have e1 : lo + ((0 : Nat) : Int) * 1 = lo := by simp
    have e2 : (((hi - lo).toNat : Nat) : Int) - ((0 : Nat) : Int) = Builtin.Range.rangeSize lo hi 1 := by rw [rangeSize_one]; split <;> omega
    show IsRangeIter _ _ (lo + ((0 : Nat) : Int) * 1) ((((hi - lo).toNat : Nat) : Int) - ((0 : Nat) : Int)) 1
    rw [e1, e2]
    exact Heap.get?_push_size _ rfl
  · have e : b = s1.heap.objs.size := by simpa using hb
    subst e
    exact I1.fpOk (Nat.le_refl _) (I1.hok.fresh (Nat.le_refl _))
/-- t.index(i), the first place -/
theorem mt_tup_indexI : MtR X "tuple.index" (fun x xs H Q => ∃ p, ∃ ys : List Int, ∃ z j, x = .ref p ∧ xs = [.int z] ∧ SqT X.K H p (ys.map V.int) ∧ ys[j]? = some z ∧ (∀ m y, m < j → ys[m]? = some y → y ≠ z) ∧ Q (.int (j : Nat)) H) := by
  intro pins s σ H x xs v us Q I rx rs h
  obtain ⟨p, ys, z, j, rfl, rfl, hq, hy, hno, q⟩ := h
  cases rx
  obtain ⟨u, rfl, t, rfl⟩ := vals1 rs
  obtain ⟨its, r, pl, hz⟩ := I.tuple hq
  obtain ⟨⟨cls, dd, dt, sl⟩, ho, hc, n, hd⟩ := pl
  simp only at hc hd
  subst hc
  subst hd
  have fl : (ys.map V.int).all flatV = true := by
    rw [List.all_eq_true]
    intro x hx
    obtain ⟨i, _, rfl⟩ := List.mem_map.mp hx
    rfl
  have hl : its.toArray.size = ys.length := by rw [List.size_toArray, ← r.length, List.length_map]
  have hj : j < its.toArray.size := by rw [hl]; exact (List.getElem?_eq_some_iff.mp hy).1
  have at' : ∀ (m : Nat) (hm : m < its.toArray.size), ∃ y t', ys[m]? = some y ∧ its.toArray[m] = Value.int y t' := fun m hm => by
    have hm' : m < ys.length := by rw [← hl]; exact hm
    obtain ⟨w, hw, t', hw'⟩ := r.get (i := m) (x := .int ys[m]) (by simp [hm'])
    refine ⟨ys[m], t', List.getElem?_eq_getElem hm', ?_⟩
    have e := (List.getElem?_eq_some_iff.mp hw).2
    rw [← hw', ← e]
    simp
  refine call_meets PySem.F.slot_tuple_index ⟨_, ho, rfl⟩ PySem.F.entry_tuple_index (PySem.F.args_tuple_index_2 _ _) (TI.tuple_indexAt p its.toArray n dd sl (.int z t) (eqU (.int z)) j hj ?_ ?_)
    ⟨ho, fun w hw => mem_eqAt (x := .int z) ⟨t, rfl⟩ rfl r fl w (by simpa using hw), ⟨.int (j : Nat), H, I.tok _, ⟨_, rfl⟩, q⟩⟩
  · obtain ⟨y, t', h1, h2⟩ := at' j hj
    rw [hy] at h1
    cases h1
    rw [h2]
    show (z == z) = true
    exact beq_self_eq_true z
  · intro m hm hmj
    obtain ⟨y, t', h1, h2⟩ := at' m hm
    rw [h2]
    show (y == z) = false
    exact beq_eq_false_iff_ne.mpr (hno m y hmj h1)
end
end Rz
namespace Rp
open PySem PySem.Spec PyProof.Rows L2 Rz Rm
section
variable {K : PySem.W.Frag} {H : Hp} {Q : VK} {a b : Addr} {xs ys : List V}
theorem sl_from {k : Int} (ha : H a = some (.tup xs)) (k0 : 0 ≤ k) (k1 : k ≤ xs.length) (h : ∀ H' p, Same H H' → H' p = some (.tup (xs.drop k.toNat)) → Q (.ref p) H') : rSlA K (.ref a) (some k) none H Q := by
  have e : k = ((k.toNat : Nat) : Int) := by omega
  have e0 : HT.sIx xs.length 0 (some k) = k.toNat := by
    rw [e, HT.sIx_nat]
    omega
  have e1 : cutV xs (some k) none = xs.drop k.toNat := by
    unfold cutV
    rw [e0, HT.sIx_none, List.take_of_length_le (by rw [List.length_drop]; omega)]
  refine ⟨a, xs, rfl, .of ha, fun z => h H a (fun _ _ q => q) ?_, fun _ p hp => h _ p (same_upd hp) (by rw [upd_same, e1])⟩
  rw [e0] at z
  rw [ha, z.1]
  rfl
theorem sl_to {k : Int} (ha : H a = some (.tup xs)) (k0 : 0 ≤ k) (k1 : k ≤ xs.length) (h : ∀ H' p, Same H H' → H' p = some (.tup (xs.take k.toNat)) → Q (.ref p) H') : rSlA K (.ref a) none (some k) H Q := by
  have e : k = ((k.toNat : Nat) : Int) := by omega
  have e0 : HT.sIx xs.length xs.length (some k) = k.toNat := by
    rw [e, HT.sIx_nat]
    omega
  have e1 : cutV xs none (some k) = xs.take k.toNat := by
    unfold cutV
    rw [e0, HT.sIx_none, List.drop_zero, Nat.sub_zero]
  refine ⟨a, xs, rfl, .of ha, fun z => h H a (fun _ _ q => q) ?_, fun _ p hp => h _ p (same_upd hp) (by rw [upd_same, e1])⟩
  rw [e0] at z
  rw [ha, z.2, List.take_length]
theorem cat_any (ha : H a = some (.tup xs)) (hb : H b = some (.tup ys)) (hl : xs.length + ys.length ≤ sizeLine) (h : ∀ H' p, Same H H' → H' p = some (.tup (xs ++ ys)) → Q (.ref p) H') : rCatA K (.ref a) (.ref b) H Q := by
  refine ⟨a, b, xs, ys, rfl, rfl, .of ha, .of hb, hl, fun z => h H b (fun _ _ q => q) ?_, fun _ z => h H a (fun _ _ q => q) ?_, fun _ _ p hp => h _ p (same_upd hp) upd_same⟩
  · rw [z, hb]
    rfl
  · rw [z, ha, List.append_nil]
end
theorem noPart {σ : L2.St} {H : Hp} {Q : Option Int → Hp → Prop} (h : Q none H) : tNoPart σ H Q := h
end Rp
namespace Rp
open PySem PySem.Spec PyProof.Rows L2 Rz Rm
/-! ### which book, when it came -/
section
variable {ds ss : List Int} {M : Int} (RR : Rm.Ring ds.length (at' ds) (at' ss) ss.sum ds.sum M) (hl : ss.length = ds.length)
include RR hl
theorem bk_ex (k : Int) {q : Int} (q0 : 0 ≤ q) (q1 : q < ss.sum) : ∃ v, Bk ss k q v := by
  have go : ∀ n : Nat, n ≤ ss.length → q < sumBack (at' ss) k n → ∃ v, Bk ss k q v := by
    intro n
    induction n with
    | zero => intro _ h; exact absurd h (by show ¬ q < 0; omega)
    | succ n ih =>
      intro hn h
      by_cases hh : q < sumBack (at' ss) k n
      · exact ih (by omega) hh
      · exact ⟨_, n, by omega, by omega, h, rfl⟩
  refine go ss.length (Nat.le_refl _) ?_
  rw [hl, RR.b]
  exact q1
end
noncomputable def bk (ss : List Int) (k n : Int) : Int := open Classical in if h : ∃ v, Bk ss k (n % ss.sum) v then Classical.choose h else 0
noncomputable def cm (ds ss : List Int) (k n : Int) : Int := if n < at' ss k then 0 else Rm.E (at' ds) (at' ss) (k - 1) (n - at' ss k)
section
variable {ds ss : List Int} {M : Int} (RR : Rm.Ring ds.length (at' ds) (at' ss) ss.sum ds.sum M) (hl : ss.length = ds.length)
include RR hl
theorem bk_is (k n : Int) : Bk ss k (n % ss.sum) (bk ss k n) := by
  have hB := RR.b1
  have h := bk_ex RR hl k (q := n % ss.sum) (Int.emod_nonneg _ (by omega)) (Int.emod_lt_of_pos _ (by omega))
  unfold bk
  rw [dif_pos h]
  exact Classical.choose_spec h
theorem bk_of {k n v : Int} (h : Bk ss k (n % ss.sum) v) : bk ss k n = v := (bk_is RR hl k n).inj RR.s0 h
theorem s_le (k : Int) : at' ss k ≤ ss.sum := by
  have hN := RR.pos
  have h := sum_mono RR.s0 k (show 1 ≤ ds.length by omega)
  rw [RR.b] at h
  have e : sumBack (at' ss) k 1 = at' ss k := by
    show 0 + at' ss (k - (0 : Nat)) = _
    rw [show k - ((0 : Nat) : Int) = k by omega]
    omega
  omega
theorem bk_first {k : Nat} (hk : k < ds.length) {n : Int} (n0 : 0 ≤ n) (n1 : n < at' ss k) : bk ss k n = (ss.take k).sum + n := by
  have h1 := s_le RR hl k
  refine bk_of RR hl ⟨0, by omega, ?_, ?_, ?_⟩
  · show (0 : Int) ≤ _
    exact Int.emod_nonneg _ (by have := RR.b1; omega)
  · rw [Int.emod_eq_of_lt n0 (by omega)]
    show n < 0 + at' ss ((k : Int) - (0 : Nat))
    rw [show (k : Int) - ((0 : Nat) : Int) = k by omega]
    omega
  · rw [Int.emod_eq_of_lt n0 (by omega), show (k : Int) - ((0 : Nat) : Int) = k by omega, Int.emod_eq_of_lt (by omega) (by omega), Int.toNat_natCast]
    show _ = _ + (n - 0)
    omega
theorem bk_rec (k : Int) {n : Int} (h : at' ss k ≤ n) : bk ss k n = bk ss (k - 1) (n - at' ss k) := by
  have hB := RR.b1
  have hs0 := RR.s0 k
  have hsB := s_le RR hl k
  have hN := RR.pos
  symm
  apply bk_of RR hl
  have q0 : 0 ≤ n % ss.sum := Int.emod_nonneg _ (by omega)
  have q1 : n % ss.sum < ss.sum := Int.emod_lt_of_pos _ (by omega)
  have hdm := Int.emod_add_mul_ediv n ss.sum
  obtain ⟨i, hi, a1, a2, a3⟩ := bk_is RR hl k n
  have hf : ∀ j : Nat, sumBack (at' ss) k (j + 1) = at' ss k + sumBack (at' ss) (k - 1) j := fun j => sum_front (at' ss) j k
  by_cases hq : at' ss k ≤ n % ss.sum
  · have hi0 : i ≠ 0 := fun e => by
      subst e
      have := hf 0
      have e0 : sumBack (at' ss) (k - 1) 0 = 0 := rfl
      have : sumBack (at' ss) k (0 + 1) = sumBack (at' ss) k 1 := rfl
      omega
    obtain ⟨i', rfl⟩ : ∃ i', i = i' + 1 := ⟨i - 1, by omega⟩
    have em : (n - at' ss k) % ss.sum = n % ss.sum - at' ss k := by
      have e1 : n - at' ss k = (n % ss.sum - at' ss k) + ss.sum * (n / ss.sum) := by omega
      rw [e1, Int.add_mul_emod_self_left, Int.emod_eq_of_lt (by omega) (by omega)]
    have h1 := hf i'
    have h2 := hf (i' + 1)
    refine ⟨i', by omega, by omega, by omega, ?_⟩
    rw [em, a3, show k - 1 - (i' : Int) = k - ((i' + 1 : Nat) : Int) by omega]
    omega
  · have hi0 : i = 0 := by
      rcases Nat.eq_zero_or_pos i with z | z
      · exact z
      · have := sum_mono RR.s0 k (show 1 ≤ i by omega)
        have h1 := hf 0
        have e0 : sumBack (at' ss) (k - 1) 0 = 0 := rfl
        have : sumBack (at' ss) k (0 + 1) = sumBack (at' ss) k 1 := rfl
        omega
    subst hi0
    have hdiv : 1 ≤ n / ss.sum := by
      rcases Int.lt_or_le (n / ss.sum) 1 with z | z
      · have : ss.sum * (n / ss.sum) ≤ 0 := Int.mul_nonpos_of_nonneg_of_nonpos (by omega) (by omega)
        omega
      · exact z
    have em : (n - at' ss k) % ss.sum = n % ss.sum - at' ss k + ss.sum := by
      have e1 : n - at' ss k = (n % ss.sum - at' ss k + ss.sum) + ss.sum * (n / ss.sum - 1) := by
        rw [Int.mul_sub]
        omega
      rw [e1, Int.add_mul_emod_self_left, Int.emod_eq_of_lt (by omega) (by omega)]
    have hlast : sumBack (at' ss) (k - 1) (ds.length - 1 + 1) = sumBack (at' ss) (k - 1) (ds.length - 1) + at' ss (k - 1 - (ds.length - 1 : Nat)) := rfl
    rw [show ds.length - 1 + 1 = ds.length by omega, RR.b] at hlast
    have hper := RR.sper (k - ds.length) 1
    rw [show k - (ds.length : Int) + ds.length * 1 = k by omega] at hper
    rw [show k - 1 - ((ds.length - 1 : Nat) : Int) = k - ds.length by omega, ← hper] at hlast
    have hfull : sumBack (at' ss) (k - 1) (ds.length - 1 + 1) = ss.sum := by
      rw [show ds.length - 1 + 1 = ds.length by omega, RR.b]
    refine ⟨ds.length - 1, by omega, by omega, by omega, ?_⟩
    have ek : (k - 1 - ((ds.length - 1 : Nat) : Int)) % (ss.length : Int) = (k - (0 : Nat)) % (ss.length : Int) := by
      rw [show k - 1 - ((ds.length - 1 : Nat) : Int) = k + (ss.length : Int) * (-1) by omega, Int.add_mul_emod_self_left, show k - ((0 : Nat) : Int) = k by omega]
    rw [em, ek, a3]
    have e0 : sumBack (at' ss) k 0 = 0 := rfl
    omega
theorem bk_per (k t n : Int) : bk ss (k + ds.length * t) n = bk ss k n := by
  have hS : ∀ i, sumBack (at' ss) (k + ds.length * t) i = sumBack (at' ss) k i := by
    intro i
    induction i with
    | zero => rfl
    | succ i ih =>
      show sumBack (at' ss) (k + ds.length * t) i + at' ss (k + ds.length * t - i) = sumBack (at' ss) k i + at' ss (k - i)
      rw [ih, show k + ds.length * t - (i : Int) = (k - i) + ds.length * t by omega, RR.sper]
  apply bk_of RR hl
  obtain ⟨i, hi, a1, a2, a3⟩ := bk_is RR hl k n
  refine ⟨i, hi, by rw [hS]; exact a1, by rw [hS]; exact a2, ?_⟩
  rw [hS, a3, show k + ds.length * t - (i : Int) = (k - i) + ss.length * t by rw [hl]; omega, Int.add_mul_emod_self_left]
end
/-! ### what lies in heaps, on lists -/
/-- f b, f (b + 1), .. below c -/
def seg (f : Int → List Int) (b c : Int) : List (List Int) := (List.range (c - b).toNat).map fun (i : Nat) => f (b + (i : Int))
theorem seg_nil {f : Int → List Int} {b c : Int} (h : c ≤ b) : seg f b c = [] := by
  unfold seg
  rw [show (c - b).toNat = 0 by omega]
  rfl
theorem seg_snoc {f : Int → List Int} {b c : Int} (h : b ≤ c) : seg f b (c + 1) = seg f b c ++ [f c] := by
  unfold seg
  rw [show (c + 1 - b).toNat = (c - b).toNat + 1 by omega, List.range_succ, List.map_append]
  show _ ++ [f (b + ((c - b).toNat : Int))] = _
  rw [show b + ((c - b).toNat : Int) = c by omega]
theorem seg_cons {f : Int → List Int} {b c : Int} (h : b < c) : seg f b c = f b :: seg f (b + 1) c := by
  unfold seg
  rw [show (c - b).toNat = (c - (b + 1)).toNat + 1 by omega, List.range_succ_eq_map, List.map_cons, List.map_map, show b + ((0 : Nat) : Int) = b by omega]
  congr 1
  apply List.map_congr_left
  intro i _
  show f (b + ((i + 1 : Nat) : Int)) = f (b + 1 + (i : Int))
  rw [show b + ((i + 1 : Nat) : Int) = b + 1 + (i : Int) by omega]
theorem seg_length (f : Int → List Int) (b c : Int) : (seg f b c).length = (c - b).toNat := by
  unfold seg
  rw [List.length_map, List.length_range]
theorem seg_get {f : Int → List Int} {b c : Int} {i : Nat} (h : i < (c - b).toNat) : (seg f b c)[i]? = some (f (b + i)) := by
  unfold seg
  rw [List.getElem?_map, List.getElem?_range h]
  rfl
/-- tuples of ints at addresses -/
def Tups (H : Hp) : List V → List (List Int) → Prop := Paired fun v l => ∃ t, v = V.ref t ∧ H t = some (.tup (l.map V.int))
theorem Tups.snoc {H : Hp} {v : V} {l : List Int} (h2 : ∃ t, v = V.ref t ∧ H t = some (.tup (l.map V.int))) : ∀ {xs : List V} {ls : List (List Int)}, Tups H xs ls → Tups H (xs ++ [v]) (ls ++ [l])
  | _, _, .nil => .cons h2 .nil
  | _, _, .cons r t => .cons r (Tups.snoc h2 t)
theorem Tups.mono {H H' : Hp} (k : ∀ b xs, H b = some (.tup xs) → H' b = some (.tup xs)) : ∀ {xs : List V} {ls : List (List Int)}, Tups H xs ls → Tups H' xs ls
  | _, _, .nil => .nil
  | _, _, .cons ⟨t, e, h⟩ r => .cons ⟨t, e, k _ _ h⟩ (Tups.mono k r)
theorem Tups.length {H : Hp} {xs : List V} {ls : List (List Int)} (h : Tups H xs ls) : xs.length = ls.length := Paired.length h
theorem Tups.get {H : Hp} : ∀ {xs : List V} {ls : List (List Int)} {i : Nat} {l : List Int}, Tups H xs ls → ls[i]? = some l → ∃ t, xs[i]? = some (.ref t) ∧ H t = some (.tup (l.map V.int))
  | _, _, i, l, .nil, h => by simp at h
  | _, _, 0, l, .cons ⟨t, e, h2⟩ r, h => by
    simp at h
    subst h
    exact ⟨t, by rw [e]; rfl, h2⟩
  | _, _, i + 1, l, .cons _ r, h => by
    obtain ⟨t, h1, h2⟩ := Tups.get (i := i) (l := l) r (by simpa using h)
    exact ⟨t, by simpa using h1, h2⟩
/-- as data, for == -/
theorem dp_is {K : PySem.W.Frag} {H : Hp} : ∀ l : List Int, DpAll K H (l.map V.int) (l.map PyData.int)
  | [] => .nil
  | x :: r => .cons (.int x) (dp_is r)
theorem Tups.data {K : PySem.W.Frag} {H : Hp} : ∀ {xs : List V} {ls : List (List Int)}, Tups H xs ls → DpAll K H xs (ls.map fun l => PyData.tuple (l.map PyData.int))
  | _, _, .nil => .nil
  | _, _, .cons ⟨t, e, h⟩ r => .cons (by subst e; exact .tup (.of h) (dp_is _)) (Tups.data r)
theorem lay_tups : ∀ ls : List (List Int), PyData.canLayAll0 (ls.map fun l => PyData.tuple (l.map PyData.int)) = true ∧ PyData.depthAll (ls.map fun l => PyData.tuple (l.map PyData.int)) ≤ 1
  | [] => ⟨rfl, Nat.zero_le _⟩
  | l :: r => by
    obtain ⟨h1, h2⟩ := lay_tups r
    constructor
    · simp [PyData.canLayAll0, PyData.canLay0, PySem.W.ke_canLayAll0 l, h1]
    · simp only [List.map_cons, PyData.depthAll, PyData.depth, PySem.W.ke_depthAll l]
      omega
theorem shaped_tups (ls : List (List Int)) : SeqAt.shaped (.list (ls.map fun l => PyData.tuple (l.map PyData.int))) = true := by
  obtain ⟨h1, h2⟩ := lay_tups ls
  simp only [SeqAt.shaped, PyData.canLay0, PyData.depth, h1, Bool.true_and]
  exact decide_eq_true (by omega)
end Rp
namespace Rp
open PySem PySem.Spec PyProof.Rows L2 Rz Rm
def nx (N j : Nat) : Nat := if j + 1 = N then 0 else j + 1
def prv (N j : Nat) : Nat := if j = 0 then N - 1 else j - 1
theorem nx_lt {N j : Nat} (h : j < N) : nx N j < N := by
  unfold nx
  split <;> omega
theorem prv_lt {N j : Nat} (h : j < N) : prv N j < N := by
  unfold prv
  split <;> omega
theorem prv_nx {N j : Nat} (h : j < N) : prv N (nx N j) = j := by
  unfold prv nx
  split <;> split <;> omega
theorem prv_inj {N i j : Nat} (hi : i < N) (hj : j < N) (h : prv N i = j) : i = nx N j := by
  unfold prv at h
  unfold nx
  split at h <;> split <;> omega
theorem nx_mod {N j : Nat} (h : j < N) : ((j : Int) + 1) % (N : Int) = (nx N j : Int) := by
  unfold nx
  split
  · rename_i e
    rw [show (j : Int) + 1 = N by omega, Int.emod_self]
    rfl
  · rw [Int.emod_eq_of_lt (by omega) (by omega)]
    omega
noncomputable def item (ds ss : List Int) (j n : Int) : List Int := [bk ss j n, cm ds ss j n]
noncomputable def rowOf (ds ss : List Int) (j n : Int) : List Int := [Rm.E (at' ds) (at' ss) j n - at' ds j, Rm.E (at' ds) (at' ss) j n, bk ss j n, cm ds ss j n]
/-- the ends, counts of the reader before, by its index -/
theorem E_prv {ds ss : List Int} {M : Int} (RR : Rm.Ring ds.length (at' ds) (at' ss) ss.sum ds.sum M) {j : Nat} (hj : j < ds.length) (x : Int) : Rm.E (at' ds) (at' ss) (prv ds.length j : Nat) x = Rm.E (at' ds) (at' ss) ((j : Int) - 1) x := by
  unfold prv
  split
  · rename_i e
    have h := RR.E_per ((j : Int) - 1) x 1
    rw [show (j : Int) - 1 + ds.length * 1 = ((ds.length - 1 : Nat) : Int) by omega] at h
    exact h
  · rw [show ((j - 1 : Nat) : Int) = (j : Int) - 1 by omega]
theorem Cn_prv {ds ss : List Int} {M : Int} (RR : Rm.Ring ds.length (at' ds) (at' ss) ss.sum ds.sum M) {j : Nat} (hj : j < ds.length) (x : Int) : Cn (at' ds) (at' ss) (prv ds.length j : Nat) x = Cn (at' ds) (at' ss) ((j : Int) - 1) x := by
  unfold prv
  split
  · rename_i e
    have h := RR.cn_per ((j : Int) - 1) x 1
    rw [show (j : Int) - 1 + ds.length * 1 = ((ds.length - 1 : Nat) : Int) by omega] at h
    exact h
  · rw [show ((j - 1 : Nat) : Int) = (j : Int) - 1 by omega]
theorem item_next {ds ss : List Int} {M : Int} (RR : Rm.Ring ds.length (at' ds) (at' ss) ss.sum ds.sum M) (hl : ss.length = ds.length) {j : Nat} (hj : j < ds.length) {n : Int} (n0 : 0 ≤ n) :
    item ds ss (nx ds.length j : Nat) (at' ss (nx ds.length j : Nat) + n) = [bk ss j n, Rm.E (at' ds) (at' ss) j n] := by
  have hb := bk_rec RR hl (nx ds.length j : Nat) (n := at' ss (nx ds.length j : Nat) + n) (by omega)
  rw [show at' ss (nx ds.length j : Nat) + n - at' ss (nx ds.length j : Nat) = n by omega] at hb
  have hp := E_prv RR (nx_lt hj) n
  rw [prv_nx hj] at hp
  have hbp : bk ss (((nx ds.length j : Nat) : Int) - 1) n = bk ss j n := by
    unfold nx
    split
    · rename_i e
      have h := bk_per RR hl (((0 : Nat) : Int) - 1) 1 n
      rw [show ((0 : Nat) : Int) - 1 + ds.length * 1 = j by omega] at h
      exact h.symm
    · rw [show ((j + 1 : Nat) : Int) - 1 = j by omega]
  unfold item cm
  rw [if_neg (by omega), hb, hbp, show at' ss (nx ds.length j : Nat) + n - at' ss (nx ds.length j : Nat) = n by omega, hp]
/-- where the play's lists stand: apart, and new -/
structure Ad (H0 : Hp) (N : Nat) (hl rd rl sl : Addr) (ha ra : List Addr) : Prop where
  f1 : H0 hl = none
  f2 : H0 rd = none
  f3 : H0 rl = none
  f4 : H0 sl = none
  fh : ∀ a ∈ ha, H0 a = none
  fr : ∀ a ∈ ra, H0 a = none
  n1 : hl ≠ rd
  n2 : hl ≠ rl
  n3 : hl ≠ sl
  n4 : rd ≠ rl
  n5 : rd ≠ sl
  n6 : rl ≠ sl
  nh : ∀ a ∈ ha, a ≠ hl ∧ a ≠ rd ∧ a ≠ rl ∧ a ≠ sl
  nr : ∀ a ∈ ra, a ≠ hl ∧ a ≠ rd ∧ a ≠ rl ∧ a ≠ sl
  nhr : ∀ a ∈ ha, ∀ c ∈ ra, a ≠ c
  dh : ha.Nodup
  dr : ra.Nodup
  lh : ha.length = N
  lr : ra.length = N
/-- what a reader is reading -/
def RdOk (H : Hp) (ds ss : List Int) (v : V) (j : Int) (b e : Int) : Prop := (v = .non ∧ b = e) ∨ (∃ t, v = .ref t ∧ H t = some (.tup [.int (Rm.E (at' ds) (at' ss) j e), .int (bk ss j e)]) ∧ b = e + 1)
/-- the play: so many readings of each reader have begun, so many have ended -/
structure Sim (ds ss : List Int) (H0 H : Hp) (hl rd rl sl : Addr) (ha ra : List Addr) (b e : Nat → Int) : Prop where
  sm : Same H0 H
  ohl : H hl = some (.lst (ha.map V.ref))
  orl : H rl = some (.lst (ra.map V.ref))
  oh : ∀ (j : Nat) (a : Addr), ha[j]? = some a → ∃ xs, H a = some (.lst xs) ∧ Tups H xs (seg (item ds ss j) (b j) (at' ss j + e (prv ds.length j)))
  orr : ∀ (j : Nat) (a : Addr), ra[j]? = some a → ∃ xs, H a = some (.lst xs) ∧ Tups H xs (seg (rowOf ds ss j) 0 (b j))
  ord : ∃ vs, H rd = some (.lst vs) ∧ vs.length = ds.length ∧ ∀ j, j < ds.length → ∃ v, vs[j]? = some v ∧ RdOk H ds ss v j (b j) (e j)
  b0 : ∀ j, j < ds.length → 0 ≤ b j
  e0 : ∀ j, j < ds.length → 0 ≤ e j
  le : ∀ j, j < ds.length → b j ≤ at' ss j + e (prv ds.length j)
theorem RdOk.mono {H H' : Hp} {ds ss : List Int} {v : V} {j b e : Int} (k : ∀ b xs, H b = some (.tup xs) → H' b = some (.tup xs)) (h : RdOk H ds ss v j b e) : RdOk H' ds ss v j b e := by
  rcases h with h | ⟨t, h1, h2, h3⟩
  · exact .inl h
  · exact .inr ⟨t, h1, k _ _ h2, h3⟩
section
variable {ds ss : List Int} {H0 H H' : Hp} {hl rd rl sl : Addr} {ha ra : List Addr} {b e : Nat → Int}
theorem Sim.same (S : Sim ds ss H0 H hl rd rl sl ha ra b e) (s : Same H H') : Sim ds ss H0 H' hl rd rl sl ha ra b e := by
  have k : ∀ b xs, H b = some (.tup xs) → H' b = some (.tup xs) := fun b xs h => s _ _ h
  refine ⟨S.sm.trans s, s _ _ S.ohl, s _ _ S.orl, fun j a h => ?_, fun j a h => ?_, ?_, S.b0, S.e0, S.le⟩
  · obtain ⟨xs, h1, h2⟩ := S.oh j a h
    exact ⟨xs, s _ _ h1, h2.mono k⟩
  · obtain ⟨xs, h1, h2⟩ := S.orr j a h
    exact ⟨xs, s _ _ h1, h2.mono k⟩
  · obtain ⟨vs, h1, h2, h3⟩ := S.ord
    refine ⟨vs, s _ _ h1, h2, fun j hj => ?_⟩
    obtain ⟨v, a1, a2⟩ := h3 j hj
    exact ⟨v, a1, a2.mono k⟩
/-- sights are written -/
theorem Sim.sight (A : Ad H0 ds.length hl rd rl sl ha ra) (S : Sim ds ss H0 H hl rd rl sl ha ra b e) (hs : ∃ ys, H sl = some (.lst ys)) (k : ∀ x o, H x = some o → x ≠ sl → H' x = some o) : Sim ds ss H0 H' hl rd rl sl ha ra b e := by
  obtain ⟨ys, hs⟩ := hs
  have kt : ∀ b xs, H b = some (.tup xs) → H' b = some (.tup xs) := fun b xs h => k _ _ h (ne_of h hs (by intro z; cases z))
  refine ⟨fun x o h => k _ _ (S.sm _ _ h) (ne_of_none h A.f4), k _ _ S.ohl A.n3, k _ _ S.orl A.n6, fun j a h => ?_, fun j a h => ?_, ?_, S.b0, S.e0, S.le⟩
  · obtain ⟨xs, h1, h2⟩ := S.oh j a h
    exact ⟨xs, k _ _ h1 (A.nh a (List.mem_of_getElem? h)).2.2.2, h2.mono kt⟩
  · obtain ⟨xs, h1, h2⟩ := S.orr j a h
    exact ⟨xs, k _ _ h1 (A.nr a (List.mem_of_getElem? h)).2.2.2, h2.mono kt⟩
  · obtain ⟨vs, h1, h2, h3⟩ := S.ord
    refine ⟨vs, k _ _ h1 A.n5, h2, fun j hj => ?_⟩
    obtain ⟨v, a1, a2⟩ := h3 j hj
    exact ⟨v, a1, a2.mono kt⟩
/-- reader j's reading ends; the book comes to the next one -/
theorem Sim.ends {M : Int} (RR : Rm.Ring ds.length (at' ds) (at' ss) ss.sum ds.sum M) (hss : ss.length = ds.length) (A : Ad H0 ds.length hl rd rl sl ha ra) (S : Sim ds ss H0 H hl rd rl sl ha ra b e) {j : Nat} (hj : j < ds.length) (hb : b j = e j + 1)
    {a : Addr} {xs vs : List V} {t : Addr} (ga : ha[nx ds.length j]? = some a) (gx : H a = some (.lst xs)) (gv : H rd = some (.lst vs))
    (k : ∀ x o, H x = some o → x ≠ a → x ≠ rd → H' x = some o) (hx : H' a = some (.lst (xs ++ [.ref t]))) (hv : H' rd = some (.lst (vs.set j .non))) (ht : H' t = some (.tup [.int (bk ss j (e j)), .int (Rm.E (at' ds) (at' ss) j (e j))])) :
    Sim ds ss H0 H' hl rd rl sl ha ra b (fun i => if i = j then e j + 1 else e i) := by
  have kt : ∀ b xs, H b = some (.tup xs) → H' b = some (.tup xs) := fun b xs h => k _ _ h (ne_of h gx (by intro z; cases z)) (ne_of h gv (by intro z; cases z))
  have ama := List.mem_of_getElem? ga
  refine ⟨fun x o h => k _ _ (S.sm _ _ h) (ne_of_none h (A.fh a ama)) (ne_of_none h A.f2), k _ _ S.ohl (A.nh a ama).1.symm A.n1, k _ _ S.orl (A.nh a ama).2.2.1.symm A.n4.symm, fun i c h => ?_, fun i c h => ?_, ?_, S.b0, fun i hi => ?_, fun i hi => ?_⟩
  · have hi : i < ds.length := by rw [← A.lh]; exact (List.getElem?_eq_some_iff.mp h).1
    obtain ⟨ys, h1, h2⟩ := S.oh i c h
    by_cases ei : i = nx ds.length j
    · subst ei
      rw [ga] at h
      cases h
      rw [gx] at h1
      cases h1
      refine ⟨_, hx, ?_⟩
      rw [prv_nx hj] at h2 ⊢
      have hle := S.le _ hi
      rw [prv_nx hj] at hle
      show Tups H' _ (seg _ _ (_ + (if j = j then e j + 1 else e j)))
      rw [if_pos rfl, show at' ss (nx ds.length j : Nat) + (e j + 1) = at' ss (nx ds.length j : Nat) + e j + 1 by omega, seg_snoc hle, item_next RR hss hj (S.e0 j hj)]
      exact Tups.snoc ⟨t, rfl, ht⟩ (h2.mono kt)
    · have hc : c ≠ a := fun z => by
        subst z
        exact ei (nd_ix A.dh h ga)
      have hp : prv ds.length i ≠ j := fun z => ei (prv_inj hi hj z)
      refine ⟨ys, k _ _ h1 hc (A.nh c (List.mem_of_getElem? h)).2.1, ?_⟩
      show Tups H' _ (seg _ _ (_ + (if prv ds.length i = j then e j + 1 else e (prv ds.length i))))
      rw [if_neg hp]
      exact h2.mono kt
  · obtain ⟨ys, h1, h2⟩ := S.orr i c h
    have cm := List.mem_of_getElem? h
    exact ⟨ys, k _ _ h1 (A.nhr a ama c cm).symm (A.nr c cm).2.1, h2.mono kt⟩
  · obtain ⟨ws, h1, h2, h3⟩ := S.ord
    rw [gv] at h1
    cases h1
    refine ⟨_, hv, by rw [List.length_set]; exact h2, fun i hi => ?_⟩
    obtain ⟨v, a1, a2⟩ := h3 i hi
    by_cases ei : i = j
    · subst ei
      refine ⟨.non, by rw [List.getElem?_set_self (by omega)], .inl ⟨rfl, ?_⟩⟩
      show b i = if i = i then e i + 1 else e i
      rw [if_pos rfl, hb]
    · refine ⟨v, by rw [List.getElem?_set_ne (Ne.symm ei)]; exact a1, ?_⟩
      show RdOk H' ds ss v i (b i) (if i = j then e j + 1 else e i)
      rw [if_neg ei]
      exact a2.mono kt
  · show 0 ≤ if i = j then e j + 1 else e i
    have h1 := S.e0 i hi
    have h2 := S.e0 j hj
    split <;> omega
  · have h1 := S.le i hi
    show b i ≤ _ + if prv ds.length i = j then e j + 1 else e (prv ds.length i)
    split
    · rename_i z
      rw [z] at h1
      omega
    · exact h1
/-- reader j begins -/
theorem Sim.begins (A : Ad H0 ds.length hl rd rl sl ha ra) (S : Sim ds ss H0 H hl rd rl sl ha ra b e) {j : Nat} (hj : j < ds.length) (hb : b j = e j) (hlt : b j < at' ss j + e (prv ds.length j))
    {a c : Addr} {x : V} {xs vs ys : List V} {t t2 : Addr} (ga : ha[j]? = some a) (gx : H a = some (.lst (x :: xs))) (gv : H rd = some (.lst vs)) (gc : ra[j]? = some c) (gy : H c = some (.lst ys))
    (k : ∀ z o, H z = some o → z ≠ a → z ≠ rd → z ≠ c → H' z = some o) (hx : H' a = some (.lst xs)) (hv : H' rd = some (.lst (vs.set j (.ref t)))) (hy : H' c = some (.lst (ys ++ [.ref t2])))
    (ht : H' t = some (.tup [.int (Rm.E (at' ds) (at' ss) j (e j)), .int (bk ss j (e j))])) (ht2 : H' t2 = some (.tup ((rowOf ds ss j (b j)).map V.int))) :
    Sim ds ss H0 H' hl rd rl sl ha ra (fun i => if i = j then b j + 1 else b i) e := by
  have ama := List.mem_of_getElem? ga
  have cmm := List.mem_of_getElem? gc
  have kt : ∀ b xs, H b = some (.tup xs) → H' b = some (.tup xs) := fun b xs h => k _ _ h (ne_of h gx (by intro z; cases z)) (ne_of h gv (by intro z; cases z)) (ne_of h gy (by intro z; cases z))
  refine ⟨fun x o h => k _ _ (S.sm _ _ h) (ne_of_none h (A.fh a ama)) (ne_of_none h A.f2) (ne_of_none h (A.fr c cmm)), k _ _ S.ohl (A.nh a ama).1.symm A.n1 (A.nr c cmm).1.symm, k _ _ S.orl (A.nh a ama).2.2.1.symm A.n4.symm (A.nr c cmm).2.2.1.symm, fun i c' h => ?_, fun i c' h => ?_, ?_, fun i hi => ?_, S.e0, fun i hi => ?_⟩
  · have hi : i < ds.length := by rw [← A.lh]; exact (List.getElem?_eq_some_iff.mp h).1
    obtain ⟨zs, h1, h2⟩ := S.oh i c' h
    by_cases ei : i = j
    · subst ei
      rw [ga] at h
      cases h
      rw [gx] at h1
      cases h1
      refine ⟨_, hx, ?_⟩
      rw [seg_cons hlt] at h2
      show Tups H' _ (seg _ (if i = i then b i + 1 else b i) _)
      rw [if_pos rfl]
      cases h2 with
      | cons _ r => exact Tups.mono kt r
    · have hc : c' ≠ a := fun z => by
        subst z
        exact ei (nd_ix A.dh h ga)
      have m := List.mem_of_getElem? h
      refine ⟨zs, k _ _ h1 hc (A.nh c' m).2.1 (A.nhr c' m c cmm), ?_⟩
      show Tups H' _ (seg _ (if i = j then b j + 1 else b i) _)
      rw [if_neg ei]
      exact h2.mono kt
  · have hi : i < ds.length := by rw [← A.lr]; exact (List.getElem?_eq_some_iff.mp h).1
    obtain ⟨zs, h1, h2⟩ := S.orr i c' h
    by_cases ei : i = j
    · subst ei
      rw [gc] at h
      cases h
      rw [gy] at h1
      cases h1
      refine ⟨_, hy, ?_⟩
      show Tups H' _ (seg _ 0 (if i = i then b i + 1 else b i))
      rw [if_pos rfl, seg_snoc (S.b0 i hi)]
      exact Tups.snoc ⟨t2, rfl, ht2⟩ (h2.mono kt)
    · have hc : c' ≠ c := fun z => by
        subst z
        exact ei (nd_ix A.dr h gc)
      have m := List.mem_of_getElem? h
      refine ⟨zs, k _ _ h1 (A.nhr a ama c' m).symm (A.nr c' m).2.1 hc, ?_⟩
      show Tups H' _ (seg _ 0 (if i = j then b j + 1 else b i))
      rw [if_neg ei]
      exact h2.mono kt
  · obtain ⟨ws, h1, h2, h3⟩ := S.ord
    rw [gv] at h1
    cases h1
    refine ⟨_, hv, by rw [List.length_set]; exact h2, fun i hi => ?_⟩
    obtain ⟨v, a1, a2⟩ := h3 i hi
    by_cases ei : i = j
    · subst ei
      refine ⟨.ref t, by rw [List.getElem?_set_self (by omega)], .inr ⟨t, rfl, ht, ?_⟩⟩
      show (if i = i then b i + 1 else b i) = e i + 1
      rw [if_pos rfl, hb]
    · refine ⟨v, by rw [List.getElem?_set_ne (Ne.symm ei)]; exact a1, ?_⟩
      show RdOk H' ds ss v i (if i = j then b j + 1 else b i) (e i)
      rw [if_neg ei]
      exact a2.mono kt
  · show 0 ≤ if i = j then b j + 1 else b i
    have h1 := S.b0 i hi
    have h2 := S.b0 j hj
    split <;> omega
  · have h1 := S.le i hi
    show (if i = j then b j + 1 else b i) ≤ _
    split
    · rename_i z
      subst z
      omega
    · exact h1
theorem Sim.congr (S : Sim ds ss H0 H hl rd rl sl ha ra b e) {b' e' : Nat → Int} (hss : ha.length = ds.length) (hr : ra.length = ds.length) (hb : ∀ j, j < ds.length → b' j = b j) (he : ∀ j, j < ds.length → e' j = e j) : Sim ds ss H0 H hl rd rl sl ha ra b' e' := by
  have hp : ∀ j, j < ds.length → e' (prv ds.length j) = e (prv ds.length j) := fun j hj => he _ (prv_lt hj)
  refine ⟨S.sm, S.ohl, S.orl, fun j a h => ?_, fun j a h => ?_, ?_, fun j hj => by rw [hb j hj]; exact S.b0 j hj, fun j hj => by rw [he j hj]; exact S.e0 j hj, fun j hj => by rw [hb j hj, hp j hj]; exact S.le j hj⟩
  · have hj : j < ds.length := by rw [← hss]; exact (List.getElem?_eq_some_iff.mp h).1
    rw [hb j hj, hp j hj]
    exact S.oh j a h
  · have hj : j < ds.length := by rw [← hr]; exact (List.getElem?_eq_some_iff.mp h).1
    rw [hb j hj]
    exact S.orr j a h
  · obtain ⟨vs, h1, h2, h3⟩ := S.ord
    refine ⟨vs, h1, h2, fun j hj => ?_⟩
    rw [hb j hj, he j hj]
    exact h3 j hj
end
/-! ### days -/
section
variable {ds ss : List Int} {M : Int} (RR : Rm.Ring ds.length (at' ds) (at' ss) ss.sum ds.sum M)
include RR
/-- ended by D - 1; a reading ends on D or none does -/
theorem cn_day (j D : Int) : (Rm.E (at' ds) (at' ss) j (Cn (at' ds) (at' ss) j (D - 1)) = D ∧ Cn (at' ds) (at' ss) j D = Cn (at' ds) (at' ss) j (D - 1) + 1) ∨ (Rm.E (at' ds) (at' ss) j (Cn (at' ds) (at' ss) j (D - 1)) ≠ D ∧ Cn (at' ds) (at' ss) j D = Cn (at' ds) (at' ss) j (D - 1)) := by
  obtain ⟨a0, a1, a2⟩ := RR.cn j (D - 1)
  by_cases h : Rm.E (at' ds) (at' ss) j (Cn (at' ds) (at' ss) j (D - 1)) = D
  · refine .inl ⟨h, RR.cn_of ⟨by omega, .inr ?_, ?_⟩⟩
    · rw [show Cn (at' ds) (at' ss) j (D - 1) + 1 - 1 = Cn (at' ds) (at' ss) j (D - 1) by omega]
      omega
    · have := RR.next j a0
      have := RR.d1 j
      omega
  · refine .inr ⟨h, RR.cn_of ⟨a0, ?_, by omega⟩⟩
    rcases a1 with a1 | a1
    · exact .inl a1
    · exact .inr (by omega)
/-- who isn't reading and has a book begins, nobody else does -/
theorem cn_begin {j D : Int} (hD : 0 ≤ D) (h : Cn (at' ds) (at' ss) j (D - 1 + at' ds j) = Cn (at' ds) (at' ss) j D) (hlt : Cn (at' ds) (at' ss) j D < at' ss j + Cn (at' ds) (at' ss) (j - 1) D) :
    Rm.E (at' ds) (at' ss) j (Cn (at' ds) (at' ss) j D) = D + at' ds j ∧ Cn (at' ds) (at' ss) j (D + at' ds j) = Cn (at' ds) (at' ss) j D + 1 := by
  have h1 := RR.cn_reads (r := j) hD hlt
  have h2 := (RR.cn_next j D).2
  obtain ⟨a0, a1, a2⟩ := RR.cn j (D - 1 + at' ds j)
  obtain ⟨b0, b1, b2⟩ := RR.cn j (D + at' ds j)
  rw [h] at a2
  have e : Cn (at' ds) (at' ss) j (D + at' ds j) = Cn (at' ds) (at' ss) j D + 1 := by omega
  rw [e] at b1
  rcases b1 with b1 | b1
  · have := (RR.cn j D).1
    omega
  · rw [show Cn (at' ds) (at' ss) j D + 1 - 1 = Cn (at' ds) (at' ss) j D by omega] at b1
    exact ⟨by omega, e⟩
theorem cn_waits {j D : Int} (h : Cn (at' ds) (at' ss) j D = at' ss j + Cn (at' ds) (at' ss) (j - 1) D) : Cn (at' ds) (at' ss) j (D + at' ds j) = Cn (at' ds) (at' ss) j D := by
  have h1 := RR.cn_next j D
  obtain ⟨b0, b1, b2⟩ := RR.cn j (D + at' ds j)
  obtain ⟨c0, c1, c2⟩ := RR.cn (j - 1) D
  rcases b1 with b1 | b1
  · have := (RR.cn j D).1
    omega
  · rcases Int.lt_or_le (Cn (at' ds) (at' ss) j D) (Cn (at' ds) (at' ss) j (D + at' ds j)) with z | z
    · have e : Cn (at' ds) (at' ss) j (D + at' ds j) - 1 = Cn (at' ds) (at' ss) j D := by omega
      rw [e] at b1
      have h2 := RR.from j (x := Cn (at' ds) (at' ss) j D) (by omega)
      rw [show Cn (at' ds) (at' ss) j D - at' ss j = Cn (at' ds) (at' ss) (j - 1) D by omega] at h2
      omega
    · omega
/-- begun by D - 1: as many as have ended by D, or one more -/
theorem cn_busy (j D : Int) : Cn (at' ds) (at' ss) j (D - 1) ≤ Cn (at' ds) (at' ss) j (D - 1 + at' ds j) ∧ Cn (at' ds) (at' ss) j (D - 1 + at' ds j) ≤ Cn (at' ds) (at' ss) j (D - 1) + 1 := RR.cn_next j (D - 1)
end
end Rp
namespace Rp
open PySem PySem.Spec PyProof.Rows L2 Rz Rm
/-- as data, for == -/
theorem RingAt.kp {C : Addr} {K : PySem.W.Frag} {H H' : Hp} {p dx td ts row a : Addr} {ds ss ns : List Int} (R : RingAt C H p dx td ts ds ss) (RA : RowAt K H row a ns) (k : Kp row H H') : RingAt C H' p dx td ts ds ss := by
  obtain ⟨i, m, q, h, _⟩ := RA.ob
  exact ⟨k _ _ R.ob (ne_of R.ob h (by intro z; cases z)), k _ _ R.td (ne_of R.td h (by intro z; cases z)), k _ _ R.ts (ne_of R.ts h (by intro z; cases z)), R.ok⟩
theorem tup_kp {K : PySem.W.Frag} {H H' : Hp} {t row a : Addr} {xs : List V} {ns : List Int} (ht : H t = some (.tup xs)) (RA : RowAt K H row a ns) (k : Kp row H H') : H' t = some (.tup xs) := by
  obtain ⟨i, m, q, h, _⟩ := RA.ob
  exact k _ _ ht (ne_of ht h (by intro z; cases z))
theorem up {N : Nat} {d s : Int → Int} {B T M : Int} (R : Rm.Ring N d s B T M) (r : Int) {x : Int} (hx : 0 ≤ x) : Rm.E d s r x ≤ (x + 1) * T + x * M := by
  obtain ⟨k, hk, e⟩ := R.att r hx
  have hN := R.pos
  have hB := R.b1
  have hT := R.T0
  have ek : k = k % N + k / N * N := by
    have := Nat.mod_add_div k N
    rw [Nat.mul_comm] at this
    exact this.symm
  have hj := Nat.mod_lt k hN
  have hS := R.sumS r (k % N) (k / N)
  have hD := R.sumD r (k % N + 1) (k / N)
  rw [← ek] at hS
  rw [show k % N + 1 + k / N * N = k + 1 by omega] at hD
  have hm : ((k / N : Nat) : Int) ≤ x := by
    have h1 := sum_nn R.s0 r (k % N)
    have h2 : ((k / N : Nat) : Int) * 1 ≤ ((k / N : Nat) : Int) * B := Int.mul_le_mul_of_nonneg_left hB (Int.natCast_nonneg _)
    omega
  have hd0 : sumBack d r (k % N + 1) ≤ T := by
    have := sum_mono (f := d) (fun i => by have := R.d1 i; omega) r (show k % N + 1 ≤ N by omega)
    rw [R.t] at this
    exact this
  have h3 : ((k / N : Nat) : Int) * T ≤ x * T := Int.mul_le_mul_of_nonneg_right hm hT
  have h4 := max_le R.mu r k
  have h40 : 0 ≤ maxBack d r k := by
    have h1 := max_ge (f := d) r (j := 0) (k := k) (Nat.zero_le _)
    have h2 := R.d1 (r - (0 : Nat))
    omega
  have h5 : (x - sumBack s r k) * maxBack d r k ≤ x * M := by
    have a1 : (x - sumBack s r k) * maxBack d r k ≤ x * maxBack d r k := Int.mul_le_mul_of_nonneg_right (by have := sum_nn R.s0 r k; omega) h40
    have a2 : x * maxBack d r k ≤ x * M := Int.mul_le_mul_of_nonneg_left h4 hx
    omega
  unfold ch at e
  rw [Int.add_mul]
  omega
theorem and_go {c : Bool} {u : TT} {σ : L2.St} {H : Hp} {F : Bool → Hp → Prop} (G : Hp → Prop) (next : ∀ H9, G H9 → F false H9) (hH : G H) (h1 : c = true → (∀ H9, G H9 → F false H9) → u σ H F) : if c = true then u σ H F else F false H := by
  cases c with
  | true => exact iteT (h1 rfl next)
  | false => exact iteF (next H hH)
theorem dp_ints {K : PySem.W.Frag} {H : Hp} : ∀ l : List Int, DpAll K H (l.map V.int) (l.map PyData.int)
  | [] => .nil
  | x :: r => .cons (.int x) (dp_ints r)
theorem Tups.rev {H : Hp} : ∀ {xs : List V} {ls : List (List Int)}, Tups H xs ls → Tups H xs.reverse ls.reverse
  | _, _, .nil => .nil
  | _, _, .cons r t => by
    rw [List.reverse_cons, List.reverse_cons]
    exact Tups.snoc r (Tups.rev t)
theorem Tups.drop {H : Hp} : ∀ {xs : List V} {ls : List (List Int)} (k : Nat), Tups H xs ls → Tups H (xs.drop k) (ls.drop k)
  | _, _, 0, h => h
  | _, _, k + 1, .nil => .nil
  | _, _, k + 1, .cons _ t => Tups.drop k t
theorem Tups.same {H H' : Hp} (s : Same H H') {xs : List V} {ls : List (List Int)} (h : Tups H xs ls) : Tups H' xs ls := h.mono fun b xs e => s _ _ e
/-- two tuples of ints are compared -/
theorem eqv_tup (as bs : List Int) : PyData.eqv (.tuple (as.map PyData.int)) (.tuple (bs.map PyData.int)) = decide (as = bs) := PySem.W.ked_eqvAll _ _
theorem eqv_lst (as bs : List Int) : PyData.eqv (.list (as.map PyData.int)) (.list (bs.map PyData.int)) = decide (as = bs) := PySem.W.ked_eqvAll _ _
theorem shaped_tup (as : List Int) : SeqAt.shaped (.tuple (as.map PyData.int)) = true := by
  simp only [SeqAt.shaped, PyData.canLay0, PyData.depth, PySem.W.ke_canLayAll0 as, PySem.W.ke_depthAll as, Bool.true_and]
  exact decide_eq_true (by omega)
theorem shaped_lst (as : List Int) : SeqAt.shaped (.list (as.map PyData.int)) = true := by
  simp only [SeqAt.shaped, PyData.canLay0, PyData.depth, PySem.W.ke_canLayAll0 as, PySem.W.ke_depthAll as, Bool.true_and]
  exact decide_eq_true (by omega)
section
variable {K : PySem.W.Frag} {H : Hp} {a b : Addr} {as bs : List Int} {Q : VK}
theorem tup_eq (ha : H a = some (.tup (as.map V.int))) (hb : H b = some (.tup (bs.map V.int))) (q : Q (.bl (decide (as = bs))) H) : rEqD K (.ref a) (.ref b) H Q :=
  ⟨_, _, .tup (.of ha) (dp_is as), .tup (.of hb) (dp_is bs), shaped_tup as, shaped_tup bs, by rw [eqv_tup]; exact q⟩
theorem tup_ne (ha : H a = some (.tup (as.map V.int))) (hb : H b = some (.tup (bs.map V.int))) (q : Q (.bl (!decide (as = bs))) H) : rNeD K (.ref a) (.ref b) H Q :=
  ⟨_, _, .tup (.of ha) (dp_is as), .tup (.of hb) (dp_is bs), shaped_tup as, shaped_tup bs, by rw [eqv_tup]; exact q⟩
theorem lst_ne (ha : SqL K H a (as.map V.int)) (hb : SqL K H b (bs.map V.int)) (q : Q (.bl (!decide (as = bs))) H) : rNeD K (.ref a) (.ref b) H Q :=
  ⟨_, _, .lst ha (dp_is as), .lst hb (dp_is bs), shaped_lst as, shaped_lst bs, by rw [eqv_lst]; exact q⟩
theorem lst_eq (ha : SqL K H a (as.map V.int)) (hb : SqL K H b (bs.map V.int)) (q : Q (.bl (decide (as = bs))) H) : rEqD K (.ref a) (.ref b) H Q :=
  ⟨_, _, .lst ha (dp_is as), .lst hb (dp_is bs), shaped_lst as, shaped_lst bs, by rw [eqv_lst]; exact q⟩
end
end Rp
namespace Rp
open PySem PySem.Spec PyProof.Rows L2 Rz Rm
theorem set_map {ds : List Int} {r d : Int} (h0 : 0 ≤ r) (h1 : r < ds.length) : ((ds.map V.int).take r.toNat ++ [V.int d]) ++ (ds.map V.int).drop (r + 1).toNat = (ds.set r.toNat d).map V.int := by
  have e : (r + 1).toNat = r.toNat + 1 := by omega
  rw [List.map_set, List.set_eq_take_append_cons_drop, if_pos (by rw [List.length_map]; omega), e]
  simp
theorem Good.set {ds ss : List Int} (G : Good ds ss) (i : Nat) {d : Int} (h : 1 ≤ d ∧ d ≤ 30) : Good (ds.set i d) ss :=
  ⟨by rw [List.length_set]; exact G.l2, by rw [List.length_set]; exact G.l8, by rw [List.length_set]; exact G.ls, fun y hy => (mem_set hy).elim (G.d1 y) (fun e => by rw [e]; exact h), G.s0, G.b1, G.b12⟩
/-! ### numbers from 0 on -/
def iot (n : Nat) : List Int := (List.range n).map fun i => ((i : Nat) : Int)
theorem rgV_iot (n : Nat) : rgV 0 (n : Int) = (iot n).map V.int := by
  unfold rgV iot
  rw [List.map_map, show ((n : Int) - 0).toNat = n by omega]
  refine List.map_congr_left fun i _ => ?_
  show V.int (0 + (i : Int)) = V.int (i : Int)
  rw [Int.zero_add]
theorem iot_len (n : Nat) : (iot n).length = n := by unfold iot; rw [List.length_map, List.length_range]
section
variable {P : Program} {w : World} {K : PySem.W.Frag} {mg : Str → Option Value} {base : Heap}
/-! ### Ring.with_days -/
def spWith (C : Addr) : Sp := fun vs H Q _ => ∃ p dx td ts ds ss, ∃ r d : Int, vs = [.ref p, .int r, .int d] ∧ RingAt C H p dx td ts ds ss ∧ 0 ≤ r ∧ r < ds.length ∧ 1 ≤ d ∧ d ≤ 30 ∧
  ∀ H' p' dx' td' ts', Same H H' → RingAt C H' p' dx' td' ts' (ds.set r.toNat d) ss → Q (.ref p') H'
theorem ok_with (T : Tx K mg) : FnOk P w K mg base CX0 6 T.a_rwith_days T.d_rwith_days P_rwith_days (spWith T.C) := by
  refine T.F_rwith_days.ok sc_rwith_days (fun vs H Q E h => ?_) (fun cdv A outer s H vs Q E hr h => ?_)
  · obtain ⟨p, dx, td, ts, ds, ss, r, d, rfl, _⟩ := h
    rfl
  · obtain ⟨p, dx, td, ts, ds, ss, r, d, rfl, R, r0, r1, d1, d2, q⟩ := h
    have hr3 : Room 3 _ := hr.mono (by decide)
    have nd := sc_rwith_days.nd
    have l8 := R.ok.l8
    have ls := R.ok.ls
    refine ⟨_, pss_cons (ps_expr (pe_call (ok_reader T) hr3 (by rfl) T.g_check_reader T.F_check_reader.kp T.b_check_reader .nil pass0 (pa_cons (pv 0) (pa_cons (pv 1) pa_nil))))
      (pss_cons (ps_set (i := 3) nd rfl (.inl rfl) (pe_op op_catA (pe_op op_catA (pe_slice sl_tupA (pe_fld (pv 0) rfl) po_none (po_some (pv 1))) (pe_tup (pa_cons (pv 2) pa_nil))) (pe_slice sl_tupA (pe_fld (pv 0) rfl) (po_some (pe_op op_add (pv 1) pe_int)) po_none)))
      (pss_one (ps_ret (pe_make T.mkR (ok_init T) hr (by rfl) T.gC T.b_rinit .nil pass0 (pa_cons (pv 3) (pa_cons (pe_fld (pv 0) rfl) pa_nil)))))), ?_⟩
    refine ⟨_, rfl, _, rfl, p, dx, td, ts, ds, ss, r, rfl, R, r0, r1, ?_⟩
    refine ⟨_, rfl, p, _, dx, _, _, rfl, R.ob, T.cl, T.nD, flds_days _ _, _, rfl, _, rfl, ?_⟩
    refine sl_to R.td r0 (by rw [List.length_map]; omega) fun H1 p1 s1 h1 => ?_
    refine ⟨_, rfl, (by show 1 ≤ sizeLine; decide), fun p2 hp2 => ?_⟩
    have s2 := same_upd (o := .tup [.int d]) hp2
    refine cat_any (s2 _ _ h1) upd_same (by rw [List.length_take, List.length_map]; have := small1000 (n := ds.length) (by omega); simp only [List.length_cons, List.length_nil]; have := small1000 (n := ds.length + 1) (by omega); omega) fun H3 p3 s3 h3 => ?_
    have R3 := ((R.same s1).same s2).same s3
    refine ⟨_, rfl, p, _, dx, _, _, rfl, R3.ob, T.cl, T.nD, flds_days _ _, _, rfl, _, _, rfl, rfl, _, rfl, ?_⟩
    refine noPart ?_
    refine sl_from R3.td (k := r + 1) (by omega) (by rw [List.length_map]; omega) fun H4 p4 s4 h4 => ?_
    refine cat_any (s4 _ _ h3) h4 (by rw [List.length_append, List.length_drop, List.length_take, List.length_map]; simp only [List.length_cons, List.length_nil]; have := small1000 (n := ds.length + ds.length + 1) (by omega); omega) fun H5 td' s5 h5 => ?_
    rw [set_map r0 r1] at h5
    have R5 := (R3.same s4).same s5
    refine ⟨_, rfl, _, rfl, p, _, dx, _, _, rfl, R5.ob, T.cl, T.nS, flds_starts _ _, fun x y nx ny ne => ?_⟩
    have s0 : Same H5 (upd (upd H5 y (.own x)) x (.ins T.C y [])) := fun b o e => by
      rw [upd_ne (ne_of_none e nx), upd_ne (ne_of_none e ny)]
      exact e
    refine ⟨x, y, td', ts, ds.set r.toNat d, ss, rfl, upd_same, s0 _ _ h5, s0 _ _ R5.ts, R.ok.set _ ⟨d1, d2⟩, fun H7 R7 k7 => ⟨rfl, ?_⟩⟩
    exact q H7 x y td' ts (((((s1.trans s2).trans s3).trans s4).trans s5).trans (Same.made nx ny k7)) R7
end
end Rp
/-! Books at the readers, day by day: mathematics. -/
namespace Rp
open PySem PySem.Spec PyProof.Rows L2 Rz Rm
theorem ixN_nat {n j : Nat} (h : j < n) : ixN n (j : Int) = some j := by
  unfold ixN
  rw [if_pos (by omega), if_pos (by omega), Int.toNat_natCast]
/-- books of a heap, by the numbers of their readings -/
noncomputable def bseg (ss : List Int) (j : Nat) (b c : Int) : List Int := (List.range (c - b).toNat).map fun (i : Nat) => bk ss j (b + (i : Int))
theorem bseg_nil {ss : List Int} {j : Nat} {b c : Int} (h : c ≤ b) : bseg ss j b c = [] := by
  unfold bseg
  rw [show (c - b).toNat = 0 by omega]
  rfl
theorem bseg_snoc {ss : List Int} {j : Nat} {b c : Int} (h : b ≤ c) : bseg ss j b (c + 1) = bseg ss j b c ++ [bk ss j c] := by
  unfold bseg
  rw [show (c + 1 - b).toNat = (c - b).toNat + 1 by omega, List.range_succ, List.map_append]
  show _ ++ [bk ss j (b + ((c - b).toNat : Int))] = _
  rw [show b + ((c - b).toNat : Int) = c by omega]
theorem bseg_cons {ss : List Int} {j : Nat} {b c : Int} (h : b < c) : bseg ss j b c = bk ss j b :: bseg ss j (b + 1) c := by
  unfold bseg
  rw [show (c - b).toNat = (c - (b + 1)).toNat + 1 by omega, List.range_succ_eq_map, List.map_cons, List.map_map, show b + ((0 : Nat) : Int) = b by omega]
  congr 1
  apply List.map_congr_left
  intro i _
  show bk ss j (b + ((i + 1 : Nat) : Int)) = bk ss j (b + 1 + (i : Int))
  rw [show b + ((i + 1 : Nat) : Int) = b + 1 + (i : Int) by omega]
theorem bseg_length (ss : List Int) (j : Nat) (b c : Int) : (bseg ss j b c).length = (c - b).toNat := by
  unfold bseg
  rw [List.length_map, List.length_range]
theorem nodup_snocN {l : List Nat} {a : Nat} (h : l.Nodup) (n : a ∉ l) : (l ++ [a]).Nodup := by
  rw [List.nodup_append]
  refine ⟨h, List.nodup_cons.mpr ⟨List.not_mem_nil, List.nodup_nil⟩, fun x hx y hy e => ?_⟩
  have := List.mem_singleton.mp hy
  subst this
  subst e
  exact n hx
theorem get_snoc {α : Type} {l : List α} {x y : α} {j : Nat} (h : (l ++ [x])[j]? = some y) : l[j]? = some y ∨ (j = l.length ∧ x = y) := by
  by_cases c : j < l.length
  · rw [List.getElem?_append_left c] at h
    exact .inl h
  · rw [List.getElem?_append_right (by omega)] at h
    obtain ⟨h1, h2⟩ := List.getElem?_eq_some_iff.mp h
    rw [List.length_singleton] at h1
    refine .inr ⟨by omega, ?_⟩
    simpa [show j - l.length = 0 by omega] using h2
theorem take_mem {ks : List Nat} (nd : ks.Nodup) {n k : Nat} (h : ks[n]? = some k) : k ∉ ks.take n := fun m => by
  obtain ⟨j, hj⟩ := List.getElem?_of_mem m
  rw [List.getElem?_take] at hj
  split at hj
  · rename_i hlt
    have := nd_ix nd hj h
    omega
  · cases hj
theorem take_suc {ks : List Nat} {n k j : Nat} (h : ks[n]? = some k) : j ∈ ks.take (n + 1) ↔ j ∈ ks.take n ∨ j = k := by
  rw [List.take_add_one, h, List.mem_append]
  simp
theorem nodup_snoc {l : List Addr} {a : Addr} (h : l.Nodup) (n : a ∉ l) : (l ++ [a]).Nodup := by
  rw [List.nodup_append]
  refine ⟨h, List.nodup_cons.mpr ⟨List.not_mem_nil, List.nodup_nil⟩, fun x hx y hy e => ?_⟩
  have := List.mem_singleton.mp hy
  subst this
  subst e
  exact n hx
theorem rep_one (n : Nat) : (List.replicate n [V.non]).flatten = List.replicate n V.non := by
  induction n with
  | zero => rfl
  | succ n ih =>
    rw [List.replicate_succ, List.flatten_cons, ih, List.replicate_succ]
    rfl
theorem take_succ {l : List Int} {i : Nat} (h : i < l.length) : (l.take (i + 1)).sum = (l.take i).sum + at' l i := by
  rw [List.take_add_one, List.getElem?_eq_getElem h, List.sum_append]
  have : at' l i = l[i] := at_nat (List.getElem?_eq_getElem h)
  rw [this]
  simp
theorem take_le {l : List Int} (h0 : ∀ y ∈ l, 0 ≤ y) (i : Nat) : 0 ≤ (l.take i).sum ∧ (l.take i).sum ≤ l.sum := by
  induction l generalizing i with
  | nil => simp
  | cons a r ih =>
    have ha := h0 a List.mem_cons_self
    have hr : ∀ y ∈ r, 0 ≤ y := fun y hy => h0 y (List.mem_cons_of_mem _ hy)
    cases i with
    | zero =>
      have := (ih hr r.length).2
      have := (ih hr r.length).1
      have := mem_le_sum.sum_nonneg' hr
      simp
      omega
    | succ i =>
      have := ih hr i
      rw [List.take_succ_cons, List.sum_cons, List.sum_cons]
      omega
section
variable {ds ss : List Int} {M : Int} (RR : Rm.Ring ds.length (at' ds) (at' ss) ss.sum ds.sum M)
include RR
theorem cn_le {j D : Int} (h : 0 ≤ D) : Cn (at' ds) (at' ss) j D ≤ D := by
  obtain ⟨a0, a1, a2⟩ := RR.cn j D
  rcases a1 with a1 | a1
  · omega
  · rcases Int.lt_or_le (Cn (at' ds) (at' ss) j D) 1 with z | z
    · omega
    · have h1 := RR.low j (x := Cn (at' ds) (at' ss) j D - 1) (by omega)
      have h2 := RR.d1 j
      have h3 : (Cn (at' ds) (at' ss) j D - 1 + 1) * 1 ≤ (Cn (at' ds) (at' ss) j D - 1 + 1) * at' ds j := Int.mul_le_mul_of_nonneg_left h2 (by omega)
      omega
theorem cn_mono (j : Int) {D D' : Int} (h : D ≤ D') : Cn (at' ds) (at' ss) j D ≤ Cn (at' ds) (at' ss) j D' := by
  obtain ⟨a0, a1, a2⟩ := RR.cn j D
  obtain ⟨b0, b1, b2⟩ := RR.cn j D'
  rcases Int.lt_or_le (Cn (at' ds) (at' ss) j D') (Cn (at' ds) (at' ss) j D) with z | z
  · rcases a1 with a1 | a1
    · omega
    · have := RR.le j b0 (show Cn (at' ds) (at' ss) j D' ≤ Cn (at' ds) (at' ss) j D - 1 by omega)
      omega
  · exact z
theorem cn_zero {j D : Int} (h : D < at' ds j) : Cn (at' ds) (at' ss) j D = 0 := by
  refine RR.cn_of ⟨Int.le_refl _, .inl rfl, ?_⟩
  have := RR.E1 j (x := 0) (Int.le_refl _)
  omega
theorem cn_cap (r D : Int) : Cn (at' ds) (at' ss) r (D + at' ds r) ≤ at' ss r + Cn (at' ds) (at' ss) (r - 1) D := by
  obtain ⟨a0, a1, a2⟩ := RR.cn r (D + at' ds r)
  obtain ⟨b0, b1, b2⟩ := RR.cn (r - 1) D
  have hs := RR.s0 r
  rcases Int.lt_or_le (at' ss r + Cn (at' ds) (at' ss) (r - 1) D) (Cn (at' ds) (at' ss) r (D + at' ds r)) with z | z
  · rcases a1 with a1 | a1
    · omega
    · have h1 := RR.from r (x := Cn (at' ds) (at' ss) r (D + at' ds r) - 1) (by omega)
      have h2 := RR.le (r - 1) b0 (show Cn (at' ds) (at' ss) (r - 1) D ≤ Cn (at' ds) (at' ss) r (D + at' ds r) - 1 - at' ss r by omega)
      omega
  · exact z
/-- all that the beginning of a day needs of one reader -/
theorem at_begin {j : Nat} (hj : j < ds.length) {D : Int} (hD : 0 ≤ D) (h : Cn (at' ds) (at' ss) j (D - 1 + at' ds j) = Cn (at' ds) (at' ss) j D) :
    (Cn (at' ds) (at' ss) j D < at' ss j + Cn (at' ds) (at' ss) (prv ds.length j : Nat) D ∧ Rm.E (at' ds) (at' ss) j (Cn (at' ds) (at' ss) j D) = D + at' ds j ∧ Cn (at' ds) (at' ss) j (D + at' ds j) = Cn (at' ds) (at' ss) j D + 1) ∨
    (Cn (at' ds) (at' ss) j D = at' ss j + Cn (at' ds) (at' ss) (prv ds.length j : Nat) D ∧ Cn (at' ds) (at' ss) j (D + at' ds j) = Cn (at' ds) (at' ss) j D) := by
  rw [Cn_prv RR hj]
  have h1 := cn_cap RR j D
  have h2 := (RR.cn_next j D).1
  rcases Int.lt_or_le (Cn (at' ds) (at' ss) j D) (at' ss j + Cn (at' ds) (at' ss) (j - 1) D) with c | c
  · exact .inl ⟨c, cn_begin RR hD h c⟩
  · exact .inr ⟨by omega, cn_waits RR (by omega)⟩
end
/-- the books at a reader on a day, the one that is read first -/
noncomputable def Sv (ds ss : List Int) (D : Int) (j : Nat) : List Int := bseg ss j (Cn (at' ds) (at' ss) j D) (at' ss j + Cn (at' ds) (at' ss) (prv ds.length j : Nat) D)
/-- the day on which a reading ends, all begun -/
noncomputable def Ev (ds ss : List Int) (D : Int) (j : Nat) : V := if Cn (at' ds) (at' ss) j (D + at' ds j) = Cn (at' ds) (at' ss) j D then .non else .int (Rm.E (at' ds) (at' ss) j (Cn (at' ds) (at' ss) j D))
/-- the same, none begun that day -/
noncomputable def Fv (ds ss : List Int) (D : Int) (j : Nat) : V := if Cn (at' ds) (at' ss) j (D - 1 + at' ds j) = Cn (at' ds) (at' ss) j D then .non else .int (Rm.E (at' ds) (at' ss) j (Cn (at' ds) (at' ss) j D))
/-- a reading ends on the next day -/
noncomputable def Kd (ds ss : List Int) (D : Int) (j : Nat) : Bool := decide (Rm.E (at' ds) (at' ss) j (Cn (at' ds) (at' ss) j D) = D + 1)
/-- who ends on the next day -/
noncomputable def Kx (ds ss : List Int) (D : Int) (n : Nat) : List Nat := (List.range n).filter (Kd ds ss D)
/-- what is told of it -/
noncomputable def rec (ds ss : List Int) (D : Int) (k : Nat) : List Int := [D + 1, (k : Int), bk ss k (Cn (at' ds) (at' ss) k D)]
noncomputable def Ke (ds ss : List Int) (D : Int) : List (List Int) := (Kx ds ss D ds.length).map (rec ds ss D)
theorem kx_mem {ds ss : List Int} {D : Int} {n j : Nat} : j ∈ Kx ds ss D n ↔ j < n ∧ Kd ds ss D j = true := by
  unfold Kx
  rw [List.mem_filter, List.mem_range]
theorem kx_nodup {ds ss : List Int} {D : Int} {n : Nat} : (Kx ds ss D n).Nodup := List.Pairwise.filter _ List.nodup_range
theorem kx_succ (ds ss : List Int) (D : Int) (n : Nat) : Kx ds ss D (n + 1) = if Kd ds ss D n = true then Kx ds ss D n ++ [n] else Kx ds ss D n := by
  unfold Kx
  rw [List.range_succ, List.filter_append]
  by_cases h : Kd ds ss D n = true
  · rw [if_pos h, List.filter_cons_of_pos h]
    rfl
  · rw [if_neg h, List.filter_cons_of_neg h, List.filter_nil, List.append_nil]
section
variable {ds ss : List Int} {M : Int} (RR : Rm.Ring ds.length (at' ds) (at' ss) ss.sum ds.sum M)
include RR
theorem fv_cases {j : Nat} (hj : j < ds.length) {D : Int} (hD : 0 ≤ D) :
    (Fv ds ss D j = .non ∧ (∃ b l, Sv ds ss D j = b :: l) ∧ Ev ds ss D j = .int (D + at' ds j)) ∨ (Fv ds ss D j = .non ∧ Sv ds ss D j = [] ∧ Ev ds ss D j = .non) ∨ (∃ z, Fv ds ss D j = .int z ∧ Ev ds ss D j = .int z) := by
  unfold Fv Ev Sv
  by_cases h : Cn (at' ds) (at' ss) j (D - 1 + at' ds j) = Cn (at' ds) (at' ss) j D
  · rw [if_pos h]
    rcases at_begin RR hj hD h with ⟨h1, h2, h3⟩ | ⟨h1, h2⟩
    · rw [if_neg (by omega), h2, bseg_cons h1]
      exact .inl ⟨rfl, ⟨_, _, rfl⟩, rfl⟩
    · rw [if_pos h2, bseg_nil (by omega)]
      exact .inr (.inl ⟨rfl, rfl, rfl⟩)
  · rw [if_neg h]
    have d1 := RR.d1 j
    have h1 := cn_mono RR (j : Int) (show D ≤ D - 1 + at' ds j by omega)
    have h2 := cn_mono RR (j : Int) (show D - 1 + at' ds j ≤ D + at' ds j by omega)
    rw [if_neg (by omega)]
    exact .inr (.inr ⟨_, rfl, rfl⟩)
theorem ends_now {j : Nat} (hj : j < ds.length) {D : Int} (hD : 0 ≤ D) (h : Kd ds ss D j = true) :
    Cn (at' ds) (at' ss) j (D + 1) = Cn (at' ds) (at' ss) j D + 1 ∧ Ev ds ss D j = .int (D + 1) ∧ Sv ds ss D j = bk ss j (Cn (at' ds) (at' ss) j D) :: bseg ss j (Cn (at' ds) (at' ss) j D + 1) (at' ss j + Cn (at' ds) (at' ss) (prv ds.length j : Nat) D) ∧ Fv ds ss (D + 1) j = .non := by
  have h := of_decide_eq_true h
  have d1 := RR.d1 j
  have c1 := cn_day RR (j : Int) (D + 1)
  rw [show D + 1 - 1 = D by omega] at c1
  have c2 := RR.cn_next j D
  obtain ⟨p0, p1, p2⟩ := RR.cn j (D + at' ds j)
  have hb : Cn (at' ds) (at' ss) j (D + at' ds j) = Cn (at' ds) (at' ss) j D + 1 := by
    rcases Int.lt_or_le (Cn (at' ds) (at' ss) j D) (Cn (at' ds) (at' ss) j (D + at' ds j)) with z | z
    · omega
    · have e : Cn (at' ds) (at' ss) j (D + at' ds j) = Cn (at' ds) (at' ss) j D := by omega
      rw [e, h] at p2
      omega
  have cap := cn_cap RR j D
  rw [← Cn_prv RR hj] at cap
  rcases c1 with ⟨_, c1⟩ | ⟨c1, _⟩
  · unfold Ev Sv Fv
    refine ⟨c1, by rw [if_neg (by omega), h], bseg_cons (by omega), ?_⟩
    rw [show D + 1 - 1 = D by omega, if_pos (by omega)]
  · exact absurd h c1
theorem ends_not {j : Nat} {D : Int} (hD : 0 ≤ D) (h : ¬ Kd ds ss D j = true) :
    Cn (at' ds) (at' ss) j (D + 1) = Cn (at' ds) (at' ss) j D ∧ ¬ Ev ds ss D j = .int (D + 1) ∧ Fv ds ss (D + 1) j = Ev ds ss D j := by
  have h : ¬ Rm.E (at' ds) (at' ss) j (Cn (at' ds) (at' ss) j D) = D + 1 := fun z => h (decide_eq_true z)
  have c1 := cn_day RR (j : Int) (D + 1)
  rw [show D + 1 - 1 = D by omega] at c1
  rcases c1 with ⟨c1, _⟩ | ⟨_, c1⟩
  · exact absurd c1 h
  · unfold Ev Fv
    refine ⟨c1, ?_, by rw [show D + 1 - 1 = D by omega, c1]⟩
    split
    · intro z
      cases z
    · intro z
      exact h (V.int.inj z)
/-- a book comes to the next reader -/
theorem bk_comes (hss : ss.length = ds.length) {j : Nat} (hj : j < ds.length) {n : Int} (n0 : 0 ≤ n) : bk ss (nx ds.length j : Nat) (at' ss (nx ds.length j : Nat) + n) = bk ss j n := by
  have h := item_next RR hss hj n0
  unfold item at h
  exact (List.cons.inj h).1
theorem z_first (j : Nat) : Cn (at' ds) (at' ss) j 0 = 0 := by
  have := RR.d1 j
  exact cn_zero RR (by omega)
theorem fv_first (j : Nat) : Fv ds ss 0 j = .non := by
  unfold Fv
  rw [z_first RR, if_pos (cn_zero RR (by omega))]
theorem sv_first (hss : ss.length = ds.length) {j : Nat} (hj : j < ds.length) {b z : Int} (hb : (ss.take j).sum = b) (hz : at' ss j = z) : rgV b (b + z) = (Sv ds ss 0 j).map V.int := by
  unfold rgV Sv bseg
  rw [z_first RR, z_first RR, List.map_map, hz, show (b + z - b).toNat = (z + 0 - 0).toNat by omega]
  apply List.map_congr_left
  intro n hn
  have hn' := List.mem_range.mp hn
  show V.int (b + (n : Int)) = V.int (bk ss j (0 + (n : Int)))
  rw [bk_first RR hss hj (n := 0 + (n : Int)) (by omega) (by omega), hb, show (0 : Int) + (n : Int) = n by omega]
theorem sv_len (j : Nat) {D : Int} (hD : 0 ≤ D) (h12 : at' ss j ≤ 12) : (Sv ds ss D j).length ≤ 12 + D.toNat := by
  unfold Sv
  rw [bseg_length]
  have h1 := cn_le RR (j := (prv ds.length j : Nat)) hD
  have h2 := (RR.cn j D).1
  omega
/-- how many readings have ended, from whom they are told -/
theorem cn_ge (j : Nat) {x D : Int} (hx : 0 ≤ x) (h : Rm.E (at' ds) (at' ss) j x ≤ D) : x + 1 ≤ Cn (at' ds) (at' ss) j D := by
  have h1 := RR.cn_end j hx
  have h2 := cn_mono RR (j : Int) h
  omega
theorem E_cn (j : Nat) {x D : Int} (h0 : 0 ≤ x) (h : x < Cn (at' ds) (at' ss) j D) : Rm.E (at' ds) (at' ss) j x ≤ D := by
  obtain ⟨a0, a1, a2⟩ := RR.cn j D
  rcases a1 with a1 | a1
  · omega
  · have := RR.le j h0 (show x ≤ Cn (at' ds) (at' ss) j D - 1 by omega)
    omega
end
end Rp
/-! Tables of live rings: put_book, begin_readings, end_readings. -/
namespace Rp
open PySem PySem.Spec PyProof.Rows L2 Rz Rm
/-- a table's attributes -/
def tbF (p : Addr) (day : Int) (hl cl : Addr) (coming : Int) : List (Str × V) := [("ring", .ref p), ("day", .int day), ("heaps", .ref hl), ("current", .ref cl), ("coming", .int coming)]
section
variable (p hl cl : Addr) (day coming : Int)
theorem tbF_r : (tbF p day hl cl coming).lookup ("ring" : Str) = some (.ref p) := by rfl
theorem tbF_d : (tbF p day hl cl coming).lookup ("day" : Str) = some (.int day) := by rfl
theorem tbF_h : (tbF p day hl cl coming).lookup ("heaps" : Str) = some (.ref hl) := by rfl
theorem tbF_c : (tbF p day hl cl coming).lookup ("current" : Str) = some (.ref cl) := by rfl
theorem tbF_n : (tbF p day hl cl coming).lookup ("coming" : Str) = some (.int coming) := by rfl
theorem tbF_pd (d : Int) : putF "day" (.int d) (tbF p day hl cl coming) = tbF p d hl cl coming := by rfl
end
/-- what is read, and when it ends -/
def CuV (H : Hp) (v : V) : Option (Int × Int) → Prop
  | none => v = .non
  | some (b, e) => ∃ t, v = .ref t ∧ H t = some (.tup [.int b, .int e])
theorem CuV.tups {H H' : Hp} (k : ∀ b ys, H b = some (.tup ys) → H' b = some (.tup ys)) {v : V} : ∀ {o : Option (Int × Int)}, CuV H v o → CuV H' v o
  | none, h => h
  | some _, ⟨t, e, h⟩ => ⟨t, e, k _ _ h⟩
structure LvT (C tC : Addr) (H : Hp) (tb dxt p dx td ts hl cl : Addr) (ha : List Addr) (cs : List V) (ds ss : List Int) (day coming : Int) (hp : Nat → List Int) (cu : Nat → Option (Int × Int)) : Prop where
  ob : H tb = some (.ins tC dxt (tbF p day hl cl coming))
  R : RingAt C H p dx td ts ds ss
  fh : H hl = some (.lst (ha.map V.ref))
  lh : ha.length = ds.length
  hv : ∀ (j : Nat) (a : Addr), ha[j]? = some a → H a = some (.tup ((hp j).map V.int))
  fc : H cl = some (.lst cs)
  lc : cs.length = ds.length
  cv : ∀ (j : Nat) (v : V), cs[j]? = some v → CuV H v (cu j)
  ne : hl ≠ cl
  sm : ∀ j, j < ds.length → (hp j).length ≤ 900
/-- all but the table and its two lists stays -/
def KT (tb hl cl : Addr) (H H' : Hp) : Prop := ∀ b o, H b = some o → b ≠ tb → b ≠ hl → b ≠ cl → H' b = some o
theorem KT.refl (tb hl cl : Addr) (H : Hp) : KT tb hl cl H H := fun _ _ h _ _ _ => h
theorem KT.trans {tb hl cl : Addr} {H H1 H2 : Hp} (a : KT tb hl cl H H1) (b : KT tb hl cl H1 H2) : KT tb hl cl H H2 := fun c o h n1 n2 n3 => b c o (a c o h n1 n2 n3) n1 n2 n3
theorem Same.kt {tb hl cl : Addr} {H H' : Hp} (s : Same H H') : KT tb hl cl H H' := fun b o h _ _ _ => s b o h
section
variable {C tC : Addr} {H H' : Hp} {tb dxt p dx td ts hl cl : Addr} {ha : List Addr} {cs : List V} {ds ss : List Int} {day coming : Int} {hp : Nat → List Int} {cu : Nat → Option (Int × Int)}
theorem LvT.same (b : LvT C tC H tb dxt p dx td ts hl cl ha cs ds ss day coming hp cu) (s : Same H H') : LvT C tC H' tb dxt p dx td ts hl cl ha cs ds ss day coming hp cu :=
  ⟨s _ _ b.ob, b.R.same s, s _ _ b.fh, b.lh, fun j a h => s _ _ (b.hv j a h), s _ _ b.fc, b.lc, fun j v h => (b.cv j v h).tups fun _ _ e => s _ _ e, b.ne, b.sm⟩
theorem LvT.ext (b : LvT C tC H tb dxt p dx td ts hl cl ha cs ds ss day coming hp cu) {hp' : Nat → List Int} {cu' : Nat → Option (Int × Int)} (e1 : ∀ j, j < ds.length → hp' j = hp j) (e2 : ∀ j, j < ds.length → cu' j = cu j) : LvT C tC H tb dxt p dx td ts hl cl ha cs ds ss day coming hp' cu' :=
  ⟨b.ob, b.R, b.fh, b.lh, fun j a h => by rw [e1 j (by rw [← b.lh]; exact (List.getElem?_eq_some_iff.mp h).1)]; exact b.hv j a h, b.fc, b.lc, fun j v h => by rw [e2 j (by rw [← b.lc]; exact (List.getElem?_eq_some_iff.mp h).1)]; exact b.cv j v h, b.ne, fun j hj => by rw [e1 j hj]; exact b.sm j hj⟩
/-- one heap is put anew -/
theorem LvT.putH (b : LvT C tC H tb dxt p dx td ts hl cl ha cs ds ss day coming hp cu) {k : Nat} {t : Addr} {ws : List Int} (ht : H t = some (.tup (ws.map V.int))) (hw : ws.length ≤ 900) :
    LvT C tC (upd H hl (.lst ((ha.map V.ref).set k (.ref t)))) tb dxt p dx td ts hl cl (ha.set k t) cs ds ss day coming (fun j => if j = k then ws else hp j) cu := by
  have kx : ∀ {x o}, H x = some o → (∀ l, o ≠ .lst l) → (upd H hl (.lst ((ha.map V.ref).set k (.ref t)))) x = some o := fun {x o} e n => (upd_ne fun z => by
    rw [z, b.fh] at e
    exact n _ (Option.some.inj e).symm).trans e
  refine ⟨kx b.ob (fun _ z => by cases z), ⟨kx b.R.ob (fun _ z => by cases z), kx b.R.td (fun _ z => by cases z), kx b.R.ts (fun _ z => by cases z), b.R.ok⟩, by rw [upd_same, List.map_set], by rw [List.length_set]; exact b.lh, fun j a h => ?_, (upd_ne b.ne.symm).trans b.fc, b.lc, fun j v h => (b.cv j v h).tups fun _ _ e => kx e (fun _ z => by cases z), b.ne, fun j hj => ?_⟩
  · by_cases e : j = k
    · subst e
      rw [if_pos rfl]
      have hj : j < ha.length := by
        have := (List.getElem?_eq_some_iff.mp h).1
        rw [List.length_set] at this
        exact this
      rw [List.getElem?_set_self hj] at h
      cases h
      exact kx ht (fun _ z => by cases z)
    · rw [if_neg e]
      rw [List.getElem?_set_ne (Ne.symm e)] at h
      exact kx (b.hv j a h) (fun _ z => by cases z)
  · show (if j = k then ws else hp j).length ≤ 900
    split
    · exact hw
    · exact b.sm j hj
/-- one reading is put anew -/
theorem LvT.putC (b : LvT C tC H tb dxt p dx td ts hl cl ha cs ds ss day coming hp cu) {k : Nat} {v : V} {o : Option (Int × Int)} (hv : CuV H v o) :
    LvT C tC (upd H cl (.lst (cs.set k v))) tb dxt p dx td ts hl cl ha (cs.set k v) ds ss day coming hp (fun j => if j = k then o else cu j) := by
  have kx : ∀ {x o}, H x = some o → (∀ l, o ≠ .lst l) → (upd H cl (.lst (cs.set k v))) x = some o := fun {x o} e n => (upd_ne fun z => by
    rw [z, b.fc] at e
    exact n _ (Option.some.inj e).symm).trans e
  have tk : ∀ c ys, H c = some (.tup ys) → (upd H cl (.lst (cs.set k v))) c = some (.tup ys) := fun c ys e => kx e (fun _ z => by cases z)
  refine ⟨kx b.ob (fun _ z => by cases z), ⟨kx b.R.ob (fun _ z => by cases z), tk _ _ b.R.td, tk _ _ b.R.ts, b.R.ok⟩, (upd_ne b.ne).trans b.fh, b.lh, fun j a h => tk _ _ (b.hv j a h), upd_same, by rw [List.length_set]; exact b.lc, fun j w h => ?_, b.ne, b.sm⟩
  by_cases e : j = k
  · subst e
    rw [if_pos rfl]
    have hj : j < cs.length := by
      have := (List.getElem?_eq_some_iff.mp h).1
      rw [List.length_set] at this
      exact this
    rw [List.getElem?_set_self hj] at h
    cases h
    exact hv.tups tk
  · rw [if_neg e]
    rw [List.getElem?_set_ne (Ne.symm e)] at h
    exact (b.cv j w h).tups tk
end
/-- the heaps, all readings begun that can -/
def bgH (hp : Nat → List Int) (cu : Nat → Option (Int × Int)) (j : Nat) : List Int := match cu j, hp j with
  | none, _ :: r => r
  | _, h => h
/-- the readings, all begun that can -/
def bgC (ds : List Int) (day : Int) (hp : Nat → List Int) (cu : Nat → Option (Int × Int)) (j : Nat) : Option (Int × Int) := match cu j, hp j with
  | none, b :: _ => some (b, day + at' ds j)
  | c, _ => c
theorem ixN_natT {n j : Nat} (h : j < n) : ixN n (j : Int) = some j := by
  unfold ixN
  rw [if_pos (by omega), if_pos (by omega), Int.toNat_natCast]
theorem same_noneT {H H' : Hp} {x : Addr} (s : Same H H') (h : H' x = none) : H x = none := by
  cases e : H x with
  | none => rfl
  | some o =>
    have := s _ _ e
    rw [h] at this
    cases this
section
variable {P : Program} {w : World} {K : PySem.W.Frag} {mg : Str → Option Value} {base : Heap}
def spPut (C tC : Addr) : Sp := fun vs H Q _ => ∃ (tb dxt p dx td ts hl cl : Addr) (ha : List Addr) (cs : List V) (ds ss : List Int) (day coming : Int) (hp : Nat → List Int) (cu : Nat → Option (Int × Int)) (k : Nat) (b : Int), vs = [.ref tb, .int (k : Int), .int b] ∧
  LvT C tC H tb dxt p dx td ts hl cl ha cs ds ss day coming hp cu ∧ k < ds.length ∧ (hp k).length < 900 ∧
  ∀ H' ha', KT tb hl cl H H' → LvT C tC H' tb dxt p dx td ts hl cl ha' cs ds ss day coming (fun j => if j = k then hp k ++ [b] else hp j) cu → Q .non H'
theorem ok_put (T : Tx K mg) : FnOk P w K mg base CX0 1 T.a_put_book T.d_put_book P_put_book (spPut T.C T.tC) := by
  refine T.F_put_book.ok sc_put_book (fun vs H Q E h => ?_) (fun cdv A outer s H vs Q E hr h => ?_)
  · obtain ⟨tb, dxt, p, dx, td, ts, hl, cl, ha, cs, ds, ss, day, coming, hp, cu, k, b, rfl, _⟩ := h
    rfl
  · obtain ⟨tb, dxt, p, dx, td, ts, hl, cl, ha, cs, ds, ss, day, coming, hp, cu, k, b, rfl, M, hk, h9, q⟩ := h
    refine ⟨_, pss_one (ps_asg (pe_op op_catA (pe_ix ix_list (pe_fld (pv 0) rfl) (pv 1) (fun _ _ => rfl)) (pe_tup (pa_cons (pv 2) pa_nil))) (pg_sub (pe_fld (pv 0) rfl) (pv 1) set_list)), ?_⟩
    obtain ⟨a, ga⟩ : ∃ a, ha[k]? = some a := ⟨_, List.getElem?_eq_getElem (by rw [M.lh]; exact hk)⟩
    refine ⟨_, rfl, tb, _, dxt, _, _, rfl, M.ob, T.clt, T.nt_heaps, tbF_h _ _ _ _ _, _, rfl, hl, _, _, _, rfl, rfl, .of M.fh, atI_nat (by rw [List.getElem?_map, ga]; rfl), _, rfl, (by show 1 ≤ sizeLine; decide), fun t1 ht1 => ?_⟩
    have s1 := same_upd (o := .tup [.int b]) ht1
    have M1 := M.same s1
    refine cat_any (M1.hv k a ga) upd_same (by rw [List.length_map]; exact Nat.le_of_lt (small1000 (by show _ + 1 ≤ 1000; omega))) fun H2 t2 s2 h2 => ?_
    have M2 := M1.same s2
    refine ⟨_, rfl, tb, _, dxt, _, _, rfl, M2.ob, T.clt, T.nt_heaps, tbF_h _ _ _ _ _, _, rfl, hl, _, _, k, rfl, rfl, M2.fh, ixN_natT (by rw [List.length_map, M.lh]; exact hk), ?_⟩
    have h2' : H2 t2 = some (.tup ((hp k ++ [b]).map V.int)) := by rw [h2, List.map_append]; rfl
    exact q _ _ (fun c o e n1 n2 n3 => by rw [upd_ne n2]; exact s2 _ _ (s1 _ _ e)) (M2.putH h2' (by rw [List.length_append]; show _ + 1 ≤ 900; omega))
def spBegT (C tC : Addr) : Sp := fun vs H Q _ => ∃ (tb dxt p dx td ts hl cl : Addr) (ha : List Addr) (cs : List V) (ds ss : List Int) (day coming : Int) (hp : Nat → List Int) (cu : Nat → Option (Int × Int)), vs = [.ref tb] ∧
  LvT C tC H tb dxt p dx td ts hl cl ha cs ds ss day coming hp cu ∧
  ∀ H' ha' cs', KT tb hl cl H H' → LvT C tC H' tb dxt p dx td ts hl cl ha' cs' ds ss day coming (bgH hp cu) (bgC ds day hp cu) → Q .non H'
theorem ok_begT (T : Tx K mg) : FnOk P w K mg base CX0 3 T.a_begin_readings T.d_begin_readings P_begin_readings (spBegT T.C T.tC) := by
  refine T.F_begin_readings.ok sc_begin_readings (fun vs H Q E h => ?_) (fun cdv A outer s H vs Q E hr h => ?_)
  · obtain ⟨tb, dxt, p, dx, td, ts, hl, cl, ha, cs, ds, ss, day, coming, hp, cu, rfl, _⟩ := h
    rfl
  · obtain ⟨tb, dxt, p, dx, td, ts, hl, cl, ha, cs, ds, ss, day, coming, hp, cu, rfl, M, q⟩ := h
    have nd := sc_begin_readings.nd
    refine ⟨_, pss_one (ps_for PassesOwn.never rfl (pi_enumT (by rfl) T.z_enumerate (pa_cons (pe_prop (pe_fld (pv 0) rfl) T.cl T.q_rdays (ok_days T) hr T.b_rdays .nil pass0 rfl) pa_nil)) (pg_tup rfl (pgs_cons (pg_name (i := 1) nd rfl (.inl rfl)) (pgs_cons (pg_name (i := 2) nd rfl (.inl rfl)) pgs_nil)))
      (pss_cons (ps_set (i := 3) nd rfl (.inl rfl) (pe_ix ix_list (pe_fld (pv 0) rfl) (pv 1) (fun _ _ => rfl)))
      (pss_one (ps_if (PW.pt (pw_and (pt_cmpR op_isN (pe_ix ix_list (pe_fld (pv 0) rfl) (pv 1) (fun _ _ => rfl)) pe_non (nomark _)) (pw_and1 (pt_cmpR (op_neD hr.units) (pv 3) (pe_tup pa_nil) (nomark _)))))
        (pss_cons (ps_asg (pe_tup (pa_cons (pe_ix ix_tup (pv 3) pe_int (fun _ _ => rfl)) (pa_cons (pe_op op_add (pe_fld (pv 0) rfl) (pv 2)) pa_nil))) (pg_sub (pe_fld (pv 0) rfl) (pv 1) set_list))
        (pss_one (ps_asg (pe_slice sl_tupA (pv 3) (po_some pe_int) po_none) (pg_sub (pe_fld (pv 0) rfl) (pv 1) set_list)))) pss_nil)))), ?_⟩
    refine ⟨_, rfl, tb, _, dxt, _, _, rfl, M.ob, T.clt, T.nt_ring, tbF_r _ _ _ _ _, p, dx, _, rfl, M.R.ob, p, dx, td, ts, ds, ss, rfl, M.R, td, _, rfl, .of M.R.td, ?_⟩
    have l8 := M.R.ok.l8
    refine for_it walk_enumT (fun i σ H' => (∃ y1 y2 y3, σ = [some (.ref tb), y1, y2, y3]) ∧ KT tb hl cl H H' ∧ ∃ ha' cs', LvT T.C T.tC H' tb dxt p dx td ts hl cl ha' cs' ds ss day coming (fun j => if j < i then bgH hp cu j else hp j) (fun j => if j < i then bgC ds day hp cu j else cu j))
      ⟨⟨_, _, _, rfl⟩, KT.refl _ _ _ _, ha, cs, M.ext (fun j _ => if_neg (Nat.not_lt_zero j)) (fun j _ => if_neg (Nat.not_lt_zero j))⟩ (fun i σ H' _ z => by
        obtain ⟨_, _, _, _, M'⟩ := z
        exact .of M'.R.td) ?_ ?_
    · rintro i x σ H1 H2 hi1 ⟨⟨y1, y2, y3, rfl⟩, kt, ha1, cs1, M1⟩ ⟨t, a, b, rfl, nt, rfl, ha0, hb⟩
      have ha' : a = .int (i : Nat) := (Option.some.inj ha0).symm
      subst ha'
      obtain ⟨z, hz, rfl⟩ := get_int hb
      rw [List.length_map] at hi1
      have ez : at' ds i = z := at_nat hz
      have s2 := same_upd (o := .tup [.int (i : Nat), .int z]) nt
      have ht2 : (upd H1 t (.tup [.int (i : Nat), .int z])) t = some (.tup [.int (i : Nat), .int z]) := upd_same
      have M2 := M1.same s2
      have kt2 : KT tb hl cl H (upd H1 t (.tup [.int (i : Nat), .int z])) := kt.trans (Same.kt s2)
      refine ⟨t, _, rfl, .of ht2, rfl, _, _, rfl, _, _, rfl, rfl, ?_⟩
      show tSeq _ _ _ [some (.ref tb), some (.int (i : Nat)), some (.int z), y3] (upd H1 t (.tup [.int (i : Nat), .int z]))
      generalize (upd H1 t (.tup [.int (i : Nat), .int z])) = H3 at M2 kt2 ⊢
      obtain ⟨av, ga⟩ : ∃ a, ha1[i]? = some a := ⟨_, List.getElem?_eq_getElem (by rw [M1.lh]; exact hi1)⟩
      obtain ⟨cv, gc⟩ : ∃ v, cs1[i]? = some v := ⟨_, List.getElem?_eq_getElem (by rw [M1.lc]; exact hi1)⟩
      have hva := M2.hv i av ga
      have hcv := M2.cv i cv gc
      simp only [Nat.lt_irrefl, if_false] at hva hcv
      have sm := M.sm i hi1
      refine ⟨_, rfl, tb, _, dxt, _, _, rfl, M2.ob, T.clt, T.nt_heaps, tbF_h _ _ _ _ _, _, rfl, hl, _, _, _, rfl, rfl, .of M2.fh, atI_nat (by rw [List.getElem?_map, ga]; rfl), ?_⟩
      show tSeq _ _ _ [some (.ref tb), some (.int (i : Nat)), some (.int z), some (.ref av)] H3
      -- nothing to begin
      have stay : ∀ H4, Same H3 H4 → bgH hp cu i = hp i → bgC ds day hp cu i = cu i → (∃ y1 y2 y3, ([some (.ref tb), some (.int (i : Nat)), some (.int z), some (.ref av)] : L2.St) = [some (.ref tb), y1, y2, y3]) ∧ KT tb hl cl H H4 ∧ ∃ ha' cs', LvT T.C T.tC H4 tb dxt p dx td ts hl cl ha' cs' ds ss day coming (fun j => if j < i + 1 then bgH hp cu j else hp j) (fun j => if j < i + 1 then bgC ds day hp cu j else cu j) := fun H4 s4 e1 e2 => by
        refine ⟨⟨_, _, _, rfl⟩, kt2.trans (Same.kt s4), ha1, cs1, (M2.same s4).ext (fun j _ => ?_) (fun j _ => ?_)⟩
        · by_cases h1 : j < i
          · rw [if_pos h1, if_pos (by omega)]
          · by_cases h2 : j = i
            · rw [h2, if_pos (by omega), if_neg (by omega), e1]
            · rw [if_neg (by omega), if_neg h1]
        · by_cases h1 : j < i
          · rw [if_pos h1, if_pos (by omega)]
          · by_cases h2 : j = i
            · rw [h2, if_pos (by omega), if_neg (by omega), e2]
            · rw [if_neg (by omega), if_neg h1]
      refine ⟨_, rfl, tb, _, dxt, _, _, rfl, M2.ob, T.clt, T.nt_current, tbF_c _ _ _ _ _, _, rfl, cl, _, _, cv, rfl, rfl, .of M2.fc, atI_nat gc, rfl, _, rfl, ?_⟩
      cases ecu : cu i with
      | some be =>
        rw [ecu] at hcv
        obtain ⟨tc, rfl, htc⟩ := hcv
        refine iteF (iteF ?_)
        exact stay H3 (Same.refl _) (by unfold bgH; rw [ecu]) (by unfold bgC; rw [ecu])
      | none =>
        rw [ecu] at hcv
        have hcv : cv = .non := hcv
        subst hcv
        refine iteT ?_
        refine ⟨_, rfl, Nat.zero_le _, fun te hte => ?_⟩
        have s4 := same_upd (o := .tup []) hte
        have ge : (upd H3 te (.tup [])) te = some (.tup []) := upd_same
        have M4 := M2.same s4
        generalize (upd H3 te (.tup [])) = H4 at s4 ge M4 ⊢
        refine ⟨.tuple ((hp i).map PyData.int), .tuple [], .tup (.of (s4 _ _ hva)) (dp_is _), .tup (.of ge) .nil, shaped_tup _, shaped_tup [], _, rfl, ?_⟩
        cases ehp : hp i with
        | nil => exact iteF (stay H4 s4 (by unfold bgH; rw [ecu, ehp]) (by unfold bgC; rw [ecu, ehp]))
        | cons b r =>
          rw [ehp] at hva sm
          have hv4 := s4 _ _ hva
          refine iteT ?_
          refine ⟨_, rfl, av, _, 0, _, rfl, rfl, .of hv4, atI_nat (j := 0) rfl, _, rfl, tb, _, dxt, _, _, rfl, M4.ob, T.clt, T.nt_day, tbF_d _ _ _ _ _, _, rfl, _, _, rfl, rfl, (by show 2 ≤ sizeLine; decide), fun t1 ht1 => ?_⟩
          have s5 := same_upd (o := .tup [.int b, .int (day + z)]) ht1
          have g5 : (upd H4 t1 (.tup [.int b, .int (day + z)])) t1 = some (.tup [.int b, .int (day + z)]) := upd_same
          have M5 := M4.same s5
          have hv5 := s5 _ _ hv4
          have s35 := s4.trans s5
          generalize (upd H4 t1 (.tup [.int b, .int (day + z)])) = H5 at s5 g5 M5 hv5 s35 ⊢
          refine ⟨_, rfl, tb, _, dxt, _, _, rfl, M5.ob, T.clt, T.nt_current, tbF_c _ _ _ _ _, _, rfl, cl, _, _, i, rfl, rfl, M5.fc, ixN_natT (by rw [M5.lc]; exact hi1), ?_⟩
          have M6 := M5.putC (k := i) (v := .ref t1) (o := some (b, day + z)) ⟨t1, rfl, g5⟩
          have k6 : KT tb hl cl H (upd H5 cl (.lst (cs1.set i (.ref t1)))) := fun x o e n1 n2 n3 => (upd_ne n3).trans (s35 _ _ (kt2 x o e n1 n2 n3))
          have hv6 : (upd H5 cl (.lst (cs1.set i (.ref t1)))) av = some (.tup ((b :: r).map V.int)) := (upd_ne (ne_of hv5 M5.fc (by intro z; cases z))).trans hv5
          generalize (upd H5 cl (.lst (cs1.set i (.ref t1)))) = H6 at M6 k6 hv6 ⊢
          refine ⟨_, rfl, _, rfl, noPart (sl_from (k := 1) hv6 (by decide) (by rw [List.length_map, List.length_cons]; omega) fun H7 t2 s7 h7 => ?_)⟩
          have M7 := M6.same s7
          refine ⟨_, rfl, tb, _, dxt, _, _, rfl, M7.ob, T.clt, T.nt_heaps, tbF_h _ _ _ _ _, _, rfl, hl, _, _, i, rfl, rfl, M7.fh, ixN_natT (by rw [List.length_map, M7.lh]; exact hi1), ?_⟩
          have h7' : H7 t2 = some (.tup (r.map V.int)) := h7
          refine ⟨⟨_, _, _, rfl⟩, (k6.trans (Same.kt s7)).trans fun x o e n1 n2 n3 => (upd_ne n2).trans e, _, _, (M7.putH h7' (by rw [List.length_cons] at sm; omega)).ext (fun j _ => ?_) (fun j _ => ?_)⟩
          · by_cases h1 : j < i
            · rw [if_pos (by omega), if_neg (by omega), if_pos h1]
            · by_cases h2 : j = i
              · rw [h2, if_pos (by omega), if_pos rfl]
                unfold bgH
                rw [ecu, ehp]
              · rw [if_neg (by omega), if_neg h2, if_neg h1]
          · by_cases h1 : j < i
            · rw [if_pos (by omega), if_neg (by omega), if_pos h1]
            · by_cases h2 : j = i
              · rw [h2, if_pos (by omega), if_pos rfl]
                unfold bgC
                rw [ecu, ehp, ez]
              · rw [if_neg (by omega), if_neg h2, if_neg h1]
    · rintro σ H1 ⟨⟨y1, y2, y3, rfl⟩, kt, ha1, cs1, M1⟩
      rw [List.length_map] at M1
      exact q H1 ha1 cs1 kt (M1.ext (fun j hj => (if_pos hj).symm) (fun j hj => (if_pos hj).symm))
end
end Rp
/-! Tables of live rings: reader_after, end_readings, let_pass. -/
namespace Rp
open PySem PySem.Spec PyProof.Rows L2 Rz Rm
/-- the book whose reading ends on the table's day -/
def enB (day : Int) (cu : Nat → Option (Int × Int)) (j : Nat) : Option Int := match cu j with
  | some (b, e) => if e = day then some b else none
  | none => none
def enC (day : Int) (cu : Nat → Option (Int × Int)) (j : Nat) : Option (Int × Int) := if (enB day cu j).isSome = true then none else cu j
def enH (N : Nat) (day : Int) (hp : Nat → List Int) (cu : Nat → Option (Int × Int)) (j : Nat) : List Int := hp j ++ (enB day cu (prv N j)).toList
/-- what is told of it -/
def enL (day : Int) (cu : Nat → Option (Int × Int)) (n : Nat) : List (List Int) := (List.range n).filterMap fun j => (enB day cu j).map fun b => [day, (j : Int), b]
theorem enL_suc (day : Int) (cu : Nat → Option (Int × Int)) (n : Nat) : enL day cu (n + 1) = enL day cu n ++ ((enB day cu n).map fun b => [day, (n : Int), b]).toList := by
  unfold enL
  rw [List.range_succ, List.filterMap_append]
  refine congrArg (_ ++ ·) ?_
  cases h : enB day cu n with
  | none => simp [h]
  | some b => simp [h]
theorem enL_len (day : Int) (cu : Nat → Option (Int × Int)) (n : Nat) : (enL day cu n).length ≤ n := by
  unfold enL
  exact Nat.le_trans (List.length_filterMap_le _ _) (by rw [List.length_range]; exact Nat.le_refl _)
section
variable {C tC : Addr} {H H' : Hp} {tb dxt p dx td ts hl cl : Addr} {ha : List Addr} {cs : List V} {ds ss : List Int} {day coming : Int} {hp : Nat → List Int} {cu : Nat → Option (Int × Int)}
/-- another list is written -/
theorem LvT.oth (b : LvT C tC H tb dxt p dx td ts hl cl ha cs ds ss day coming hp cu) {L : Addr} {l l' : List V} (h : H L = some (.lst l)) (n1 : L ≠ hl) (n2 : L ≠ cl) : LvT C tC (upd H L (.lst l')) tb dxt p dx td ts hl cl ha cs ds ss day coming hp cu := by
  have kx : ∀ {x o}, H x = some o → (∀ l, o ≠ .lst l) → (upd H L (.lst l')) x = some o := fun {x o} e n => (upd_ne fun z => by
    rw [z, h] at e
    exact n _ (Option.some.inj e).symm).trans e
  exact ⟨kx b.ob (fun _ z => by cases z), ⟨kx b.R.ob (fun _ z => by cases z), kx b.R.td (fun _ z => by cases z), kx b.R.ts (fun _ z => by cases z), b.R.ok⟩, (upd_ne n1.symm).trans b.fh, b.lh, fun j a e => kx (b.hv j a e) (fun _ z => by cases z), (upd_ne n2.symm).trans b.fc, b.lc, fun j v e => (b.cv j v e).tups fun _ _ e => kx e (fun _ z => by cases z), b.ne, b.sm⟩
theorem tups_kt {tb hl cl dxt : Addr} {H H' : Hp} {fs : List (Str × V)} {C : Addr} {l1 l2 : List V} (k : KT tb hl cl H H') (h1 : H tb = some (.ins C dxt fs)) (h2 : H hl = some (.lst l1)) (h3 : H cl = some (.lst l2)) : ∀ b ys, H b = some (.tup ys) → H' b = some (.tup ys) := fun b ys h =>
  k _ _ h (ne_of h h1 (by intro z; cases z)) (ne_of h h2 (by intro z; cases z)) (ne_of h h3 (by intro z; cases z))
end
section
variable {P : Program} {w : World} {K : PySem.W.Frag} {mg : Str → Option Value} {base : Heap}
def spAfter (C : Addr) : Sp := fun vs H Q _ => ∃ p dx td ts ds ss, ∃ r : Int, vs = [.ref p, .int r] ∧ RingAt C H p dx td ts ds ss ∧ Q (.int ((r + 1) % (ds.length : Int))) H
theorem ok_after (T : Tx K mg) : FnOk P w K mg base CX0 3 T.a_reader_after T.d_reader_after P_reader_after (spAfter T.C) := by
  refine T.F_reader_after.ok sc_reader_after (fun vs H Q E h => ?_) (fun cdv A outer s H vs Q E hr h => ?_)
  · obtain ⟨p, dx, td, ts, ds, ss, r, rfl, _⟩ := h
    rfl
  · obtain ⟨p, dx, td, ts, ds, ss, r, rfl, R, q⟩ := h
    have l2 := R.ok.l2
    have l8 := R.ok.l8
    refine ⟨_, pss_one (ps_ret (pe_op op_mod (pe_callTy call_int1 (by rfl) T.z_int (by decide +kernel) (pa_cons (pe_op op_add (pv 1) pe_int) pa_nil))
      (pe_callB (call_lenI T.lenC T.lenF ((ok_len T).raw T.b_rlen .nil) hr pass0) (by rfl) T.z_len PySem.boot_len (pa_cons (pv 0) pa_nil)))), ?_⟩
    exact ⟨_, rfl, _, _, rfl, rfl, .inl ⟨_, rfl, _, rfl, p, dx, _, rfl, R.ob, p, dx, td, ts, ds, ss, rfl, R, _, rfl, by omega, by omega, _, _, rfl, rfl, by show (0 : Int) < ds.length; omega, q⟩⟩
def spEndT (C tC : Addr) : Sp := fun vs H Q _ => ∃ (tb dxt p dx td ts hl cl : Addr) (ha : List Addr) (cs : List V) (ds ss : List Int) (day coming : Int) (hp : Nat → List Int) (cu : Nat → Option (Int × Int)), vs = [.ref tb] ∧
  LvT C tC H tb dxt p dx td ts hl cl ha cs ds ss day coming hp cu ∧ (∀ j, j < ds.length → (hp j).length < 900) ∧
  ∀ H' ha' cs' L xs, KT tb hl cl H H' → LvT C tC H' tb dxt p dx td ts hl cl ha' cs' ds ss day coming (enH ds.length day hp cu) (enC day cu) → H L = none → H' L = some (.lst xs) → Tups H' xs (enL day cu ds.length) → Q (.ref L) H'
theorem ok_endT (T : Tx K mg) : FnOk P w K mg base CX0 4 T.a_end_readings T.d_end_readings P_end_readings (spEndT T.C T.tC) := by
  refine T.F_end_readings.ok sc_end_readings (fun vs H Q E h => ?_) (fun cdv A outer s H vs Q E hr h => ?_)
  · obtain ⟨tb, dxt, p, dx, td, ts, hl, cl, ha, cs, ds, ss, day, coming, hp, cu, rfl, _⟩ := h
    rfl
  · obtain ⟨tb, dxt, p, dx, td, ts, hl, cl, ha, cs, ds, ss, day, coming, hp, cu, rfl, M, h9, q⟩ := h
    have nd := sc_end_readings.nd
    have hr2 := hr.mono (by decide : 2 ≤ 3)
    refine ⟨_, pss_cons (ps_set (i := 1) nd rfl (.inl rfl) (pe_lst pa_nil))
      (pss_cons (ps_for PassesOwn.never rfl (pi_range1 (by rfl) T.z_range (pa_cons (pe_callB (call_lenI T.lenC T.lenF ((ok_len T).raw T.b_rlen .nil) hr2 pass0) (by rfl) T.z_len PySem.boot_len (pa_cons (pe_fld (pv 0) rfl) pa_nil)) pa_nil)) (pg_name (i := 2) nd rfl (.inl rfl))
        (pss_cons (ps_set (i := 3) nd rfl (.inl rfl) (pe_ix ix_list (pe_fld (pv 0) rfl) (pv 2) (fun _ _ => rfl)))
        (pss_one (ps_if (PW.pt (pw_and (pt_cmpR op_notN (pv 3) pe_non (nomark _)) (pw_and1 (pt_cmpR op_eq (pe_ix ix_tup (pv 3) pe_int (fun _ _ => rfl)) (pe_fld (pv 0) rfl) (nomark _)))))
          (pss_cons (ps_expr (pe_bm PySem.F.plainAttrs_list PySem.F.slot_list_append PySem.F.type_list_append mt_append (pv 1) (pa_cons (pe_tup (pa_cons (pe_fld (pv 0) rfl) (pa_cons (pv 2) (pa_cons (pe_ix ix_tup (pv 3) pe_int (fun _ _ => rfl)) pa_nil)))) pa_nil)))
          (pss_cons (ps_asg pe_non (pg_sub (pe_fld (pv 0) rfl) (pv 2) set_list))
          (pss_one (ps_expr (pe_call (ok_put T) (hr.mono (by decide : 1 ≤ 3)) (by rfl) T.g_put_book T.F_put_book.kp T.b_put_book .nil pass0 (pa_cons (pv 0) (pa_cons (pe_call (ok_after T) hr (by rfl) T.g_reader_after T.F_reader_after.kp T.b_reader_after .nil pass0 (pa_cons (pe_fld (pv 0) rfl) (pa_cons (pv 2) pa_nil))) (pa_cons (pe_ix ix_tup (pv 3) pe_int (fun _ _ => rfl)) pa_nil)))))))) pss_nil))))
      (pss_one (ps_ret (pv 1)))), ?_⟩
    have l8 := M.R.ok.l8
    have l2 := M.R.ok.l2
    refine ⟨Nat.zero_le _, fun L hL => ?_⟩
    have s0 := same_upd (o := .lst []) hL
    have g0 : (upd H L (.lst [])) L = some (.lst []) := upd_same
    have M0 := M.same s0
    have nh : L ≠ hl := (ne_of_none M.fh hL).symm
    have nc : L ≠ cl := (ne_of_none M.fc hL).symm
    have nt : L ≠ tb := (ne_of_none M.ob hL).symm
    have k0 : KT tb hl cl H (upd H L (.lst [])) := Same.kt s0
    show tSeq _ _ _ [some (.ref tb), some (.ref L), none, none] (upd H L (.lst []))
    generalize (upd H L (.lst [])) = H1 at g0 M0 k0 ⊢
    refine ⟨_, rfl, tb, _, dxt, _, _, rfl, M0.ob, T.clt, T.nt_ring, tbF_r _ _ _ _ _, p, dx, _, rfl, M0.R.ob, p, dx, td, ts, ds, ss, rfl, M0.R, (ds.length : Int), rfl, by omega, by omega, _, rfl, by omega, by omega, ?_⟩
    refine for_range (lo := 0) (n := ((ds.length : Nat) : Int).toNat) (fun i σ H' => (∃ y2 y3, σ = [some (.ref tb), some (.ref L), y2, y3]) ∧ KT tb hl cl H H' ∧ ∃ ha' cs' xs, LvT T.C T.tC H' tb dxt p dx td ts hl cl ha' cs' ds ss day coming (fun j => hp j ++ (if prv ds.length j < i then (enB day cu (prv ds.length j)).toList else [])) (fun j => if j < i then enC day cu j else cu j) ∧ H' L = some (.lst xs) ∧ Tups H' xs (enL day cu i))
      ⟨⟨_, _, rfl⟩, k0, ha, cs, [], M0.ext (fun j _ => by rw [if_neg (Nat.not_lt_zero _), List.append_nil]) (fun j _ => if_neg (Nat.not_lt_zero j)), g0, .nil⟩ ?_ ?_
    · rintro i σ H2 hi ⟨⟨y2, y3, rfl⟩, kt, ha1, cs1, xs, M2, gL, TT⟩
      have hi' : i < ds.length := by omega
      obtain ⟨cv, gc⟩ : ∃ v, cs1[i]? = some v := ⟨_, List.getElem?_eq_getElem (by rw [M2.lc]; exact hi')⟩
      have hcv := M2.cv i cv gc
      simp only [Nat.lt_irrefl, if_false] at hcv
      have lx : xs.length ≤ i := by rw [TT.length]; exact enL_len _ _ _
      have e0 : (0 : Int) + (i : Int) = (i : Int) := by omega
      show tSeq _ _ _ [some (.ref tb), some (.ref L), some (.int (0 + (i : Int))), y3] H2
      rw [e0]
      refine ⟨_, rfl, tb, _, dxt, _, _, rfl, M2.ob, T.clt, T.nt_current, tbF_c _ _ _ _ _, _, rfl, cl, _, _, cv, rfl, rfl, .of M2.fc, atI_nat gc, ?_⟩
      -- no reading ends
      have stay : enB day cu i = none → (∃ y2 y3, ([some (.ref tb), some (.ref L), some (.int (i : Int)), some cv] : L2.St) = [some (.ref tb), some (.ref L), y2, y3]) ∧ KT tb hl cl H H2 ∧ ∃ ha' cs' xs, LvT T.C T.tC H2 tb dxt p dx td ts hl cl ha' cs' ds ss day coming (fun j => hp j ++ (if prv ds.length j < i + 1 then (enB day cu (prv ds.length j)).toList else [])) (fun j => if j < i + 1 then enC day cu j else cu j) ∧ H2 L = some (.lst xs) ∧ Tups H2 xs (enL day cu (i + 1)) := fun e1 => by
        refine ⟨⟨_, _, rfl⟩, kt, ha1, cs1, xs, M2.ext (fun j _ => ?_) (fun j _ => ?_), gL, by rw [enL_suc, e1]; show Tups H2 xs (_ ++ []); rw [List.append_nil]; exact TT⟩
        · by_cases h1 : prv ds.length j < i
          · rw [if_pos h1, if_pos (by omega)]
          · by_cases h2 : prv ds.length j = i
            · rw [h2, if_pos (by omega), if_neg (by omega), e1]
              rfl
            · rw [if_neg (by omega), if_neg h1]
        · by_cases h1 : j < i
          · rw [if_pos h1, if_pos (by omega)]
          · by_cases h2 : j = i
            · rw [h2, if_pos (by omega), if_neg (by omega)]
              unfold enC
              rw [e1]
              rfl
            · rw [if_neg (by omega), if_neg h1]
      cases ecu : cu i with
      | none =>
        rw [ecu] at hcv
        have hcv : cv = .non := hcv
        subst hcv
        exact ⟨_, rfl, rfl, _, rfl, iteF (iteF (stay (by unfold enB; rw [ecu])))⟩
      | some be =>
        obtain ⟨b, e⟩ := be
        rw [ecu] at hcv
        obtain ⟨tc, rfl, htc⟩ := hcv
        refine ⟨_, rfl, rfl, _, rfl, iteT ?_⟩
        refine ⟨_, rfl, tc, _, 1, _, rfl, rfl, .of htc, atI_nat (j := 1) rfl, _, rfl, tb, _, dxt, _, _, rfl, M2.ob, T.clt, T.nt_day, tbF_d _ _ _ _ _, rfl, _, rfl, ?_⟩
        by_cases ed : e = day
        · subst ed
          rw [decide_eq_true rfl]
          have eb : enB e cu i = some b := by unfold enB; rw [ecu]; exact if_pos rfl
          refine iteT ?_
          refine ⟨.ref L, rfl, .inl ⟨rfl, _, SqL.of gL⟩, _, rfl, tb, _, dxt, _, _, rfl, M2.ob, T.clt, T.nt_day, tbF_d _ _ _ _ _, _, rfl, _, rfl, tc, _, 0, _, rfl, rfl, .of htc, atI_nat (j := 0) rfl, (by show 3 ≤ sizeLine; decide), fun t1 ht1 => ?_⟩
          have s3 := same_upd (o := .tup [.int e, .int (i : Int), .int b]) ht1
          have g3 : (upd H2 t1 (.tup [.int e, .int (i : Int), .int b])) t1 = some (.tup [.int e, .int (i : Int), .int b]) := upd_same
          have M3 := M2.same s3
          have gL3 := s3 _ _ gL
          have htc3 := s3 _ _ htc
          have k3 := kt.trans (Same.kt s3)
          have T3 : Tups (upd H2 t1 (.tup [.int e, .int (i : Int), .int b])) xs (enL e cu i) := TT.mono fun _ _ h => s3 _ _ h
          generalize (upd H2 t1 (.tup [.int e, .int (i : Int), .int b])) = H3 at g3 M3 gL3 htc3 k3 T3 ⊢
          refine ⟨L, _, _, rfl, rfl, gL3, small1000 (by omega), ?_⟩
          have M4 := M3.oth (l' := xs ++ [V.ref t1]) gL3 nh nc
          have gL4 : (upd H3 L (.lst (xs ++ [V.ref t1]))) L = some (.lst (xs ++ [V.ref t1])) := upd_same
          have tk4 : ∀ c ys, H3 c = some (.tup ys) → (upd H3 L (.lst (xs ++ [V.ref t1]))) c = some (.tup ys) := fun c ys h => (upd_ne (ne_of h gL3 (by intro z; cases z))).trans h
          have T4 : Tups (upd H3 L (.lst (xs ++ [V.ref t1]))) (xs ++ [V.ref t1]) (enL e cu (i + 1)) := by
            rw [enL_suc, eb]
            exact Tups.snoc (l := [e, (i : Int), b]) ⟨t1, rfl, tk4 _ _ g3⟩ (T3.mono tk4)
          have htc4 := tk4 _ _ htc3
          have k4 : KT tb hl cl H (upd H3 L (.lst (xs ++ [V.ref t1]))) := fun x o h n1 n2 n3 => (upd_ne (ne_of_none h hL)).trans (k3 x o h n1 n2 n3)
          generalize (upd H3 L (.lst (xs ++ [V.ref t1]))) = H4 at M4 gL4 T4 htc4 k4 ⊢
          refine ⟨_, rfl, tb, _, dxt, _, _, rfl, M4.ob, T.clt, T.nt_current, tbF_c _ _ _ _ _, _, rfl, cl, _, _, i, rfl, rfl, M4.fc, ixN_natT (by rw [M4.lc]; exact hi'), ?_⟩
          have M5 := M4.putC (k := i) (v := .non) (o := none) rfl
          have tk5 : ∀ c ys, H4 c = some (.tup ys) → (upd H4 cl (.lst (cs1.set i .non))) c = some (.tup ys) := fun c ys h => (upd_ne (ne_of h M4.fc (by intro z; cases z))).trans h
          have gL5 : (upd H4 cl (.lst (cs1.set i .non))) L = some (.lst (xs ++ [V.ref t1])) := (upd_ne nc).trans gL4
          have T5 := T4.mono tk5
          have htc5 := tk5 _ _ htc4
          have k5 : KT tb hl cl H (upd H4 cl (.lst (cs1.set i .non))) := fun x o h n1 n2 n3 => (upd_ne n3).trans (k4 x o h n1 n2 n3)
          generalize (upd H4 cl (.lst (cs1.set i .non))) = H5 at M5 gL5 T5 htc5 k5 ⊢
          have xN := nx_lt hi'
          refine ⟨_, rfl, _, rfl, tb, _, dxt, _, _, rfl, M5.ob, T.clt, T.nt_ring, tbF_r _ _ _ _ _, _, rfl, p, dx, td, ts, ds, ss, (i : Int), rfl, M5.R, _, rfl, tc, _, 0, _, rfl, rfl, .of htc5, atI_nat (j := 0) rfl, tb, dxt, p, dx, td, ts, hl, cl, ha1, _, ds, ss, e, coming, _, _, Rp.nx ds.length i, b, by rw [nx_mod hi']; rfl, M5, xN, ?_, fun H6 ha6 k6 M6 => ?_⟩
          · rw [prv_nx hi', if_neg (Nat.lt_irrefl _), List.append_nil]
            exact h9 _ xN
          · refine ⟨⟨_, _, rfl⟩, k5.trans k6, ha6, _, _, M6.ext (fun j hj => ?_) (fun j _ => ?_), k6 _ _ gL5 nt nh nc, T5.mono (tups_kt k6 M5.ob M5.fh M5.fc)⟩
            · by_cases h1 : j = Rp.nx ds.length i
              · rw [if_pos h1, h1, prv_nx hi', if_pos (Nat.lt_succ_self _), if_neg (Nat.lt_irrefl _), List.append_nil, eb]
                rfl
              · rw [if_neg h1]
                have h2 : prv ds.length j ≠ i := fun z => h1 (prv_inj hj hi' z)
                by_cases h3 : prv ds.length j < i
                · rw [if_pos h3, if_pos (by omega)]
                · rw [if_neg h3, if_neg (by omega)]
            · by_cases h1 : j = i
              · rw [if_pos h1, h1, if_pos (Nat.lt_succ_self _)]
                unfold enC
                rw [eb]
                rfl
              · rw [if_neg h1]
                by_cases h2 : j < i
                · rw [if_pos h2, if_pos (by omega)]
                · rw [if_neg h2, if_neg (by omega)]
        · rw [decide_eq_false (fun z => ed (V.int.inj z))]
          exact iteF (stay (by unfold enB; rw [ecu]; exact if_neg ed))
    · rintro σ H2 ⟨⟨y2, y3, rfl⟩, kt, ha1, cs1, xs, M2, gL, TT⟩
      rw [show ((ds.length : Nat) : Int).toNat = ds.length by omega] at M2 TT
      exact ⟨_, rfl, q H2 ha1 cs1 L xs kt (M2.ext (fun j hj => by unfold enH; rw [if_pos (prv_lt hj)]) (fun j hj => (if_pos hj).symm)) hL gL TT⟩
end
end Rp
/-! Tables of live rings: let_pass. -/
namespace Rp
open PySem PySem.Spec PyProof.Rows L2 Rz Rm
/-- a table's day, heaps and readings -/
structure TSt where
  day : Int
  hp : Nat → List Int
  cu : Nat → Option (Int × Int)
/-- the next day -/
def dyS (ds : List Int) (s : TSt) : TSt := ⟨s.day + 1, bgH (enH ds.length (s.day + 1) s.hp s.cu) (enC (s.day + 1) s.cu), bgC ds (s.day + 1) (enH ds.length (s.day + 1) s.hp s.cu) (enC (s.day + 1) s.cu)⟩
def dyN (ds : List Int) (s : TSt) : Nat → TSt
  | 0 => s
  | n + 1 => dyS ds (dyN ds s n)
/-- what ends on these days -/
def dyL (ds : List Int) (s : TSt) : Nat → List (List Int)
  | 0 => []
  | n + 1 => dyL ds s n ++ enL ((dyN ds s n).day + 1) (dyN ds s n).cu ds.length
theorem enH_len (N : Nat) (day : Int) (hp : Nat → List Int) (cu : Nat → Option (Int × Int)) (j : Nat) : (enH N day hp cu j).length ≤ (hp j).length + 1 := by
  unfold enH
  rw [List.length_append]
  cases enB day cu (prv N j) <;> simp
theorem bgH_len (hp : Nat → List Int) (cu : Nat → Option (Int × Int)) (j : Nat) : (bgH hp cu j).length ≤ (hp j).length := by
  unfold bgH
  split
  · rename_i h
    rw [h, List.length_cons]
    omega
  · exact Nat.le_refl _
theorem dyN_len (ds : List Int) (s : TSt) (j : Nat) : ∀ n, ((dyN ds s n).hp j).length ≤ (s.hp j).length + n
  | 0 => Nat.le_refl _
  | n + 1 => by
    have h1 := dyN_len ds s j n
    have h2 := enH_len ds.length ((dyN ds s n).day + 1) (dyN ds s n).hp (dyN ds s n).cu j
    have h3 := bgH_len (enH ds.length ((dyN ds s n).day + 1) (dyN ds s n).hp (dyN ds s n).cu) (enC ((dyN ds s n).day + 1) (dyN ds s n).cu) j
    show (bgH _ _ j).length ≤ _
    omega
theorem dyL_len (ds : List Int) (s : TSt) : ∀ n, (dyL ds s n).length ≤ n * ds.length
  | 0 => Nat.zero_le _
  | n + 1 => by
    have h1 := dyL_len ds s n
    have h2 := enL_len ((dyN ds s n).day + 1) (dyN ds s n).cu ds.length
    show (dyL ds s n ++ _).length ≤ _
    rw [List.length_append, Nat.succ_mul]
    omega
theorem tups_cat {H : Hp} : ∀ {xs ys : List V} {ls ms : List (List Int)}, Tups H xs ls → Tups H ys ms → Tups H (xs ++ ys) (ls ++ ms)
  | _, _, _, _, .nil, t => t
  | _, _, _, _, .cons r t, u => .cons r (tups_cat t u)
section
variable {C tC : Addr} {H H' : Hp} {tb dxt p dx td ts hl cl : Addr} {ha : List Addr} {cs : List V} {ds ss : List Int} {day coming : Int} {hp : Nat → List Int} {cu : Nat → Option (Int × Int)}
/-- the day is put anew -/
theorem LvT.putD (b : LvT C tC H tb dxt p dx td ts hl cl ha cs ds ss day coming hp cu) (d : Int) : LvT C tC (upd H tb (.ins tC dxt (tbF p d hl cl coming))) tb dxt p dx td ts hl cl ha cs ds ss d coming hp cu := by
  have kx : ∀ {x o}, H x = some o → (∀ fs, o ≠ .ins tC dxt fs) → (upd H tb (.ins tC dxt (tbF p d hl cl coming))) x = some o := fun {x o} e n => (upd_ne fun z => by
    rw [z, b.ob] at e
    exact n _ (Option.some.inj e).symm).trans e
  have np : p ≠ tb := fun z => by
    have h1 := b.R.ob
    rw [z, b.ob] at h1
    have h2 := Option.some.inj h1
    injection h2 with _ _ h3
    have h5 := flds_days td ts
    rw [← h3, show (tbF p day hl cl coming).lookup ("_days" : Str) = none from rfl] at h5
    cases h5
  exact ⟨upd_same, ⟨(upd_ne np).trans b.R.ob, kx b.R.td (fun _ z => by cases z), kx b.R.ts (fun _ z => by cases z), b.R.ok⟩, kx b.fh (fun _ z => by cases z), b.lh, fun j a e => kx (b.hv j a e) (fun _ z => by cases z), kx b.fc (fun _ z => by cases z), b.lc, fun j v e => (b.cv j v e).tups fun _ _ e => kx e (fun _ z => by cases z), b.ne, b.sm⟩
end
section
variable {P : Program} {w : World} {K : PySem.W.Frag} {mg : Str → Option Value} {base : Heap}
def spLet (C tC : Addr) : Sp := fun vs H Q _ => ∃ (tb dxt p dx td ts hl cl : Addr) (ha : List Addr) (cs : List V) (ds ss : List Int) (coming : Int) (s : TSt) (n : Nat), vs = [.ref tb, .int (n : Int)] ∧
  LvT C tC H tb dxt p dx td ts hl cl ha cs ds ss s.day coming s.hp s.cu ∧ (∀ j, j < ds.length → (s.hp j).length ≤ 400) ∧ n ≤ 400 ∧
  ∀ H' ha' cs' L xs, KT tb hl cl H H' → LvT C tC H' tb dxt p dx td ts hl cl ha' cs' ds ss (dyN ds s n).day coming (dyN ds s n).hp (dyN ds s n).cu → H L = none → H' L = some (.lst xs) → Tups H' xs (dyL ds s n) → Q (.ref L) H'
theorem ok_let (T : Tx K mg) : FnOk P w K mg base CX0 5 T.a_let_pass T.d_let_pass P_let_pass (spLet T.C T.tC) := by
  refine T.F_let_pass.ok sc_let_pass (fun vs H Q E h => ?_) (fun cdv A outer s0 H vs Q E hr h => ?_)
  · obtain ⟨tb, dxt, p, dx, td, ts, hl, cl, ha, cs, ds, ss, coming, s, n, rfl, _⟩ := h
    rfl
  · obtain ⟨tb, dxt, p, dx, td, ts, hl, cl, ha, cs, ds, ss, coming, s, n, rfl, M, h4, hn, q⟩ := h
    have nd := sc_let_pass.nd
    obtain ⟨u1, c1⟩ := T.c_MOST_PASSED
    refine ⟨_, pss_cons (ps_expr (pe_call (ok_chk T) (hr.mono (by decide : 3 ≤ 4)) (by rfl) T.g_check_number T.F_check_number.kp T.b_check_number .nil pass0 (pa_cons (pv 1) (pa_cons pe_int (pa_cons (pe_glob (v := .int 400) (by rfl) c1 ⟨_, rfl⟩) pa_nil)))))
      (pss_cons (ps_set (i := 2) nd rfl (.inl rfl) (pe_lst pa_nil))
      (pss_cons (ps_for PassesOwn.never rfl (pi_range1 (by rfl) T.z_range (pa_cons (pv 1) pa_nil)) (pg_name (i := 3) nd rfl (.inl rfl))
        (pss_cons (ps_fldaug (pv 0) pe_int (fun pins s σ H x y u v Q => ip_add pins s σ H x y u v Q))
        (pss_cons (ps_expr (pe_bm PySem.F.plainAttrs_list PySem.F.slot_list_extend PySem.F.type_list_extend mt_extend (pv 2) (pa_cons (pe_call (ok_endT T) hr (by rfl) T.g_end_readings T.F_end_readings.kp T.b_end_readings .nil pass0 (pa_cons (pv 0) pa_nil)) pa_nil)))
        (pss_one (ps_expr (pe_call (ok_begT T) (hr.mono (by decide : 3 ≤ 4)) (by rfl) T.g_begin_readings T.F_begin_readings.kp T.b_begin_readings .nil pass0 (pa_cons (pv 0) pa_nil)))))))
      (pss_one (ps_ret (pv 2))))), ?_⟩
    have l8 := M.R.ok.l8
    refine ⟨_, rfl, (n : Int), 0, 400, rfl, by omega, by omega, ?_⟩
    refine ⟨Nat.zero_le _, fun L hL => ?_⟩
    have s1 := same_upd (o := .lst []) hL
    have g0 : (upd H L (.lst [])) L = some (.lst []) := upd_same
    have M0 := M.same s1
    have nh : L ≠ hl := (ne_of_none M.fh hL).symm
    have nc : L ≠ cl := (ne_of_none M.fc hL).symm
    have nt : L ≠ tb := (ne_of_none M.ob hL).symm
    have k0 : KT tb hl cl H (upd H L (.lst [])) := Same.kt s1
    show tSeq _ _ _ [some (.ref tb), some (.int (n : Int)), some (.ref L), none] (upd H L (.lst []))
    generalize (upd H L (.lst [])) = H1 at g0 M0 k0 ⊢
    refine ⟨_, rfl, _, rfl, by omega, by omega, ?_⟩
    refine for_range (lo := 0) (n := ((n : Nat) : Int).toNat) (fun i σ H' => (∃ y3, σ = [some (.ref tb), some (.int (n : Int)), some (.ref L), y3]) ∧ KT tb hl cl H H' ∧ ∃ ha' cs' xs, LvT T.C T.tC H' tb dxt p dx td ts hl cl ha' cs' ds ss (dyN ds s i).day coming (dyN ds s i).hp (dyN ds s i).cu ∧ H' L = some (.lst xs) ∧ Tups H' xs (dyL ds s i))
      ⟨⟨_, rfl⟩, k0, ha, cs, [], M0, g0, .nil⟩ ?_ ?_
    · rintro i σ H2 hi ⟨⟨y3, rfl⟩, kt, ha1, cs1, xs, M2, gL, TT⟩
      have hi' : i < 400 := by omega
      show tSeq _ _ _ [some (.ref tb), some (.int (n : Int)), some (.ref L), some (.int (0 + (i : Int)))] H2
      refine ⟨_, rfl, tb, T.tC, dxt, _, _, rfl, M2.ob, T.clt, T.nt_day, tbF_d _ _ _ _ _, _, _, rfl, rfl, dxt, _, M2.ob, (by show 5 < 1000; decide), ?_⟩
      rw [tbF_pd]
      have M3 := M2.putD ((dyN ds s i).day + 1)
      have tk3 : ∀ c ys, H2 c = some (.tup ys) → (upd H2 tb (.ins T.tC dxt (tbF p ((dyN ds s i).day + 1) hl cl coming))) c = some (.tup ys) := fun c ys h => (upd_ne (ne_of h M2.ob (by intro z; cases z))).trans h
      have gL3 : (upd H2 tb (.ins T.tC dxt (tbF p ((dyN ds s i).day + 1) hl cl coming))) L = some (.lst xs) := (upd_ne nt).trans gL
      have T3 := TT.mono tk3
      have k3 : KT tb hl cl H (upd H2 tb (.ins T.tC dxt (tbF p ((dyN ds s i).day + 1) hl cl coming))) := fun x o h n1 n2 n3 => (upd_ne n1).trans (kt x o h n1 n2 n3)
      generalize (upd H2 tb (.ins T.tC dxt (tbF p ((dyN ds s i).day + 1) hl cl coming))) = H3 at M3 gL3 T3 k3 ⊢
      refine ⟨_, rfl, .inl ⟨rfl, _, SqL.of gL3⟩, _, rfl, tb, dxt, p, dx, td, ts, hl, cl, ha1, cs1, ds, ss, _, coming, _, _, rfl, M3, fun j hj => ?_, fun H4 ha4 cs4 L2 ys k4 M4 hL2 gL2 T4 => ?_⟩
      · have h1 := dyN_len ds s j i
        have h2 := h4 j hj
        omega
      have gL4 := k4 _ _ gL3 nt nh nc
      have T34 := T3.mono (tups_kt k4 M3.ob M3.fh M3.fc)
      have lx : xs.length ≤ i * ds.length := by rw [TT.length]; exact dyL_len ds s i
      have ly : ys.length ≤ ds.length := by rw [T4.length]; exact enL_len _ _ _
      have lm : i * ds.length ≤ 400 * 8 := Nat.mul_le_mul (by omega) l8
      refine ⟨L, L2, xs, ys, rfl, rfl, gL4, gL2, by rw [sizeLine_eq]; omega, ?_⟩
      have M5 := M4.oth (l' := xs ++ ys) gL4 nh nc
      have tk5 : ∀ c zs, H4 c = some (.tup zs) → (upd H4 L (.lst (xs ++ ys))) c = some (.tup zs) := fun c zs h => (upd_ne (ne_of h gL4 (by intro z; cases z))).trans h
      have g5 : (upd H4 L (.lst (xs ++ ys))) L = some (.lst (xs ++ ys)) := upd_same
      have T5 := (tups_cat T34 T4).mono tk5
      have k5 : KT tb hl cl H (upd H4 L (.lst (xs ++ ys))) := fun x o h n1 n2 n3 => (upd_ne (ne_of_none h hL)).trans (k4 _ _ (k3 x o h n1 n2 n3) n1 n2 n3)
      generalize (upd H4 L (.lst (xs ++ ys))) = H5 at M5 g5 T5 k5 ⊢
      refine ⟨_, rfl, tb, dxt, p, dx, td, ts, hl, cl, ha4, cs4, ds, ss, _, coming, _, _, rfl, M5, fun H6 ha6 cs6 k6 M6 => ?_⟩
      exact ⟨⟨_, rfl⟩, k5.trans k6, ha6, cs6, xs ++ ys, M6, k6 _ _ g5 nt nh nc, T5.mono (tups_kt k6 M5.ob M5.fh M5.fc)⟩
    · rintro σ H2 ⟨⟨y3, rfl⟩, kt, ha1, cs1, xs, M2, gL, TT⟩
      rw [show ((n : Nat) : Int).toNat = n by omega] at M2 TT
      exact ⟨_, rfl, q H2 ha1 cs1 L xs kt M2 hL gL TT⟩
end
end Rp
/-! Tables of live rings: made, copied. -/
namespace Rp
open PySem PySem.Spec PyProof.Rows L2 Rz Rm
/-- what a table is made of -/
structure LvI (C : Addr) (H : Hp) (p dx td ts h0 c0 : Addr) (ha : List Addr) (cs : List V) (ds ss : List Int) (hp : Nat → List Int) (cu : Nat → Option (Int × Int)) : Prop where
  R : RingAt C H p dx td ts ds ss
  fh : H h0 = some (.lst (ha.map V.ref))
  lh : ha.length = ds.length
  hv : ∀ (j : Nat) (a : Addr), ha[j]? = some a → H a = some (.tup ((hp j).map V.int))
  fc : H c0 = some (.lst cs)
  lc : cs.length = ds.length
  cv : ∀ (j : Nat) (v : V), cs[j]? = some v → CuV H v (cu j)
  sm : ∀ j, j < ds.length → (hp j).length ≤ 900
theorem LvI.same {C : Addr} {H H' : Hp} {p dx td ts h0 c0 : Addr} {ha : List Addr} {cs : List V} {ds ss : List Int} {hp : Nat → List Int} {cu : Nat → Option (Int × Int)} (b : LvI C H p dx td ts h0 c0 ha cs ds ss hp cu) (s : Same H H') : LvI C H' p dx td ts h0 c0 ha cs ds ss hp cu :=
  ⟨b.R.same s, s _ _ b.fh, b.lh, fun j a h => s _ _ (b.hv j a h), s _ _ b.fc, b.lc, fun j v h => (b.cv j v h).tups fun _ _ e => s _ _ e, b.sm⟩
theorem LvT.inp {C tC : Addr} {H : Hp} {tb dxt p dx td ts hl cl : Addr} {ha : List Addr} {cs : List V} {ds ss : List Int} {day coming : Int} {hp : Nat → List Int} {cu : Nat → Option (Int × Int)} (b : LvT C tC H tb dxt p dx td ts hl cl ha cs ds ss day coming hp cu) : LvI C H p dx td ts hl cl ha cs ds ss hp cu := ⟨b.R, b.fh, b.lh, b.hv, b.fc, b.lc, b.cv, b.sm⟩
section
variable {P : Program} {w : World} {K : PySem.W.Frag} {mg : Str → Option Value} {base : Heap}
def spTi (C tC : Addr) : Sp := fun vs H Q _ => ∃ (tb dxt p dx td ts h0 c0 : Addr) (ha : List Addr) (cs : List V) (ds ss : List Int) (day coming : Int) (hp : Nat → List Int) (cu : Nat → Option (Int × Int)), vs = [.ref tb, .ref p, .int day, .ref h0, .ref c0, .int coming] ∧
  H tb = some (.ins tC dxt []) ∧ LvI C H p dx td ts h0 c0 ha cs ds ss hp cu ∧
  ∀ H' hl cl, (∀ b o, H b = some o → b ≠ tb → H' b = some o) → H hl = none → H cl = none → LvT C tC H' tb dxt p dx td ts hl cl ha cs ds ss day coming hp cu → Q .non H'
theorem ok_ti (T : Tx K mg) : FnOk P w K mg base CX0 1 T.a_tinit T.d_tinit P_tinit (spTi T.C T.tC) := by
  refine T.F_tinit.ok sc_tinit (fun vs H Q E h => ?_) (fun cdv A outer s0 H vs Q E hr h => ?_)
  · obtain ⟨tb, dxt, p, dx, td, ts, h0, c0, ha, cs, ds, ss, day, coming, hp, cu, rfl, _⟩ := h
    rfl
  · obtain ⟨tb, dxt, p, dx, td, ts, h0, c0, ha, cs, ds, ss, day, coming, hp, cu, rfl, ht, I, q⟩ := h
    refine ⟨_, pss_cons (ps_fld (pv 0) (pv 1) rfl) (pss_cons (ps_fld (pv 0) (pv 2) rfl)
      (pss_cons (ps_fld (pv 0) (pe_callTy (T := "list") call_list_of (by rfl) T.z_list (by decide +kernel) (pa_cons (pv 3) pa_nil)) rfl)
      (pss_cons (ps_fld (pv 0) (pe_callTy (T := "list") call_list_of (by rfl) T.z_list (by decide +kernel) (pa_cons (pv 4) pa_nil)) rfl)
      (pss_one (ps_fld (pv 0) (pv 5) rfl))))), ?_⟩
    have hne : ∀ {x o}, H x = some o → (∀ fs, o ≠ .ins T.tC dxt fs) → x ≠ tb := fun e n z => by
      rw [z, ht] at e
      exact n _ (Option.some.inj e).symm
    have nh0 := hne I.fh (fun _ z => by cases z)
    have nc0 := hne I.fc (fun _ z => by cases z)
    refine ⟨_, rfl, _, rfl, tb, T.tC, dxt, _, rfl, ht, T.clt, T.nt_ring, (by show 0 < 1000; decide), ?_⟩
    refine ⟨_, rfl, _, rfl, tb, T.tC, dxt, _, rfl, upd_same, T.clt, T.nt_day, (by show 1 < 1000; decide), ?_⟩
    rw [upd_upd]
    have k1 : ∀ x, x ≠ tb → (upd H tb (.ins T.tC dxt (putF "day" (.int day) (putF "ring" (.ref p) [])))) x = H x := fun x n => upd_ne n
    have t1 : (upd H tb (.ins T.tC dxt (putF "day" (.int day) (putF "ring" (.ref p) [])))) tb = some (.ins T.tC dxt [("ring", .ref p), ("day", .int day)]) := upd_same
    generalize (upd H tb (.ins T.tC dxt (putF "day" (.int day) (putF "ring" (.ref p) [])))) = H1 at k1 t1 ⊢
    refine ⟨_, rfl, h0, _, rfl, .inl (.of ((k1 _ nh0).trans I.fh)), fun hl hhl => ?_⟩
    have nlt : hl ≠ tb := fun z => by
      rw [z, t1] at hhl
      cases hhl
    have hl0 : H hl = none := (k1 _ nlt).symm.trans hhl
    refine ⟨_, rfl, tb, T.tC, dxt, [("ring", .ref p), ("day", .int day)], rfl, (upd_ne nlt.symm).trans t1, T.clt, T.nt_heaps, (by show 2 < 1000; decide), ?_⟩
    have k2 : ∀ x, x ≠ tb → x ≠ hl → (upd (upd H1 hl (.lst (ha.map V.ref))) tb (.ins T.tC dxt (putF "heaps" (.ref hl) [("ring", .ref p), ("day", .int day)]))) x = H x := fun x n1 n2 => (upd_ne n1).trans ((upd_ne n2).trans (k1 x n1))
    have t2 : (upd (upd H1 hl (.lst (ha.map V.ref))) tb (.ins T.tC dxt (putF "heaps" (.ref hl) [("ring", .ref p), ("day", .int day)]))) tb = some (.ins T.tC dxt [("ring", .ref p), ("day", .int day), ("heaps", .ref hl)]) := upd_same
    have g2 : (upd (upd H1 hl (.lst (ha.map V.ref))) tb (.ins T.tC dxt (putF "heaps" (.ref hl) [("ring", .ref p), ("day", .int day)]))) hl = some (.lst (ha.map V.ref)) := (upd_ne nlt).trans upd_same
    generalize (upd (upd H1 hl (.lst (ha.map V.ref))) tb (.ins T.tC dxt (putF "heaps" (.ref hl) [("ring", .ref p), ("day", .int day)]))) = H2 at k2 t2 g2 ⊢
    have nchl : c0 ≠ hl := ne_of_none I.fc hl0
    refine ⟨_, rfl, c0, _, rfl, .inl (.of ((k2 _ nc0 nchl).trans I.fc)), fun cl hcl => ?_⟩
    have nct : cl ≠ tb := fun z => by
      rw [z, t2] at hcl
      cases hcl
    have nch : hl ≠ cl := ne_of_none g2 hcl
    have cl0 : H cl = none := (k2 _ nct nch.symm).symm.trans hcl
    refine ⟨_, rfl, tb, T.tC, dxt, [("ring", .ref p), ("day", .int day), ("heaps", .ref hl)], rfl, (upd_ne nct.symm).trans t2, T.clt, T.nt_current, (by show 3 < 1000; decide), ?_⟩
    refine ⟨_, rfl, _, rfl, tb, T.tC, dxt, putF "current" (.ref cl) [("ring", .ref p), ("day", .int day), ("heaps", .ref hl)], rfl, upd_same, T.clt, T.nt_coming, (by show 4 < 1000; decide), ?_⟩
    rw [upd_upd]
    have k3 : ∀ x, x ≠ tb → x ≠ hl → x ≠ cl → (upd (upd H2 cl (.lst cs)) tb (.ins T.tC dxt (putF "coming" (.int coming) (putF "current" (.ref cl) [("ring", .ref p), ("day", .int day), ("heaps", .ref hl)])))) x = H x := fun x n1 n2 n3 => (upd_ne n1).trans ((upd_ne n3).trans (k2 x n1 n2))
    have kk : ∀ x o, H x = some o → x ≠ tb → (upd (upd H2 cl (.lst cs)) tb (.ins T.tC dxt (putF "coming" (.int coming) (putF "current" (.ref cl) [("ring", .ref p), ("day", .int day), ("heaps", .ref hl)])))) x = some o := fun x o e n => (k3 x n (ne_of_none e hl0) (ne_of_none e cl0)).trans e
    have np : p ≠ tb := fun z => by
      have h1 := I.R.ob
      rw [z, ht] at h1
      have h2 := Option.some.inj h1
      injection h2 with _ _ h3
      have h5 := flds_days td ts
      rw [← h3] at h5
      cases h5
    exact q _ hl cl kk hl0 cl0 ⟨upd_same, ⟨kk _ _ I.R.ob np, kk _ _ I.R.td (hne I.R.td fun _ z => by cases z), kk _ _ I.R.ts (hne I.R.ts fun _ z => by cases z), I.R.ok⟩, (upd_ne nlt).trans ((upd_ne nch).trans g2), I.lh, fun j a h => kk _ _ (I.hv j a h) (hne (I.hv j a h) fun _ z => by cases z), (upd_ne nct).trans upd_same, I.lc,
      fun j v h => (I.cv j v h).tups fun c ys e => kk _ _ e (hne e fun _ z => by cases z), nch, I.sm⟩
def spCp (C tC : Addr) : Sp := fun vs H Q _ => ∃ (tb dxt p dx td ts hl cl : Addr) (ha : List Addr) (cs : List V) (ds ss : List Int) (day coming : Int) (hp : Nat → List Int) (cu : Nat → Option (Int × Int)), vs = [.ref tb] ∧ LvT C tC H tb dxt p dx td ts hl cl ha cs ds ss day coming hp cu ∧
  ∀ H' t2 dxt2 hl2 cl2, Same H H' → H t2 = none → H hl2 = none → H cl2 = none → LvT C tC H' t2 dxt2 p dx td ts hl2 cl2 ha cs ds ss day coming hp cu → Q (.ref t2) H'
theorem ok_cp (T : Tx K mg) : FnOk P w K mg base CX0 3 T.a_copied_table T.d_copied_table P_copied_table (spCp T.C T.tC) := by
  refine T.F_copied_table.ok sc_copied_table (fun vs H Q E h => ?_) (fun cdv A outer s0 H vs Q E hr h => ?_)
  · obtain ⟨tb, dxt, p, dx, td, ts, hl, cl, ha, cs, ds, ss, day, coming, hp, cu, rfl, _⟩ := h
    rfl
  · obtain ⟨tb, dxt, p, dx, td, ts, hl, cl, ha, cs, ds, ss, day, coming, hp, cu, rfl, M, q⟩ := h
    refine ⟨_, pss_one (ps_ret (pe_make T.mkt (ok_ti T) hr (by rfl) T.gtC T.b_tinit .nil pass0 (pa_cons (pe_fld (pv 0) rfl) (pa_cons (pe_fld (pv 0) rfl) (pa_cons (pe_fld (pv 0) rfl) (pa_cons (pe_fld (pv 0) rfl) (pa_cons (pe_fld (pv 0) rfl) pa_nil))))))), ?_⟩
    refine ⟨_, rfl, tb, _, dxt, _, _, rfl, M.ob, T.clt, T.nt_ring, tbF_r _ _ _ _ _, _, rfl, tb, _, dxt, _, _, rfl, M.ob, T.clt, T.nt_day, tbF_d _ _ _ _ _, _, rfl, tb, _, dxt, _, _, rfl, M.ob, T.clt, T.nt_heaps, tbF_h _ _ _ _ _, _, rfl, tb, _, dxt, _, _, rfl, M.ob, T.clt, T.nt_current, tbF_c _ _ _ _ _, _, rfl, tb, _, dxt, _, _, rfl, M.ob, T.clt, T.nt_coming, tbF_n _ _ _ _ _, fun t2 d2 nt2 nd2 ne2 => ?_⟩
    have s1 : Same H (upd (upd H d2 (.own t2)) t2 (.ins T.tC d2 [])) := fun b o e => by
      rw [upd_ne (ne_of_none e nt2), upd_ne (ne_of_none e nd2)]
      exact e
    refine ⟨t2, d2, p, dx, td, ts, hl, cl, ha, cs, ds, ss, day, coming, hp, cu, rfl, upd_same, M.inp.same s1, fun H2 hl2 cl2 k2 e1 e2 M2 => ⟨rfl, ?_⟩⟩
    exact q H2 t2 d2 hl2 cl2 (fun b o e => k2 b o (s1 b o e) (ne_of_none e nt2)) nt2 (same_noneT s1 e1) (same_noneT s1 e2) M2
end
end Rp
/-! Tables of live rings: the first one. -/
namespace Rp
open PySem PySem.Spec PyProof.Rows L2 Rz Rm
/-- the books at first -/
def h0F (ss : List Int) (j : Nat) : List Int := (List.range (at' ss j).toNat).map fun (i : Nat) => (ss.take j).sum + (i : Int)
theorem h0_rg {ss : List Int} {j : Nat} {b z : Int} (hb : (ss.take j).sum = b) (hz : at' ss j = z) : rgV b (b + z) = (h0F ss j).map V.int := by
  unfold rgV h0F
  rw [List.map_map, hb, hz, show (b + z - b).toNat = z.toNat by omega]
  rfl
section
variable {P : Program} {w : World} {K : PySem.W.Frag} {mg : Str → Option Value} {base : Heap}
def spFt (C tC : Addr) : Sp := fun vs H Q _ => ∃ (p dx td ts : Addr) (ds ss : List Int), vs = [.ref p] ∧ RingAt C H p dx td ts ds ss ∧
  ∀ H' tb dxt hl cl ha cs, Same H H' → H tb = none → H hl = none → H cl = none → LvT C tC H' tb dxt p dx td ts hl cl ha cs ds ss 0 ss.sum (bgH (h0F ss) (fun _ => none)) (bgC ds 0 (h0F ss) (fun _ => none)) → Q (.ref tb) H'
theorem ok_ft (T : Tx K mg) : FnOk P w K mg base CX0 4 T.a_first_table T.d_first_table P_first_table (spFt T.C T.tC) := by
  refine T.F_first_table.ok sc_first_table (fun vs H Q E h => ?_) (fun cdv A outer s0 H vs Q E hr h => ?_)
  · obtain ⟨p, dx, td, ts, ds, ss, rfl, _⟩ := h
    rfl
  · obtain ⟨p, dx, td, ts, ds, ss, rfl, R, q⟩ := h
    have nd := sc_first_table.nd
    have hr2 := hr.mono (by decide : 2 ≤ 3)
    refine ⟨_, pss_cons (ps_set (i := 1) nd rfl (.inl rfl) (pe_lst pa_nil)) (pss_cons (ps_set (i := 2) nd rfl (.inl rfl) pe_int)
      (pss_cons (ps_for PassesOwn.never rfl (pi_tup (pe_prop (pv 0) T.cl T.q_rstarts (ok_starts T) hr2 T.b_rstarts .nil pass0 rfl)) (pg_name (i := 3) nd rfl (.inl rfl))
        (pss_cons (ps_expr (pe_bm PySem.F.plainAttrs_list PySem.F.slot_list_append PySem.F.type_list_append mt_append (pv 1) (pa_cons (pe_tupRg rfl (by rfl) T.z_tuple (prg_2 (by rfl) T.z_range (pv 2) (pe_op op_add (pv 2) (pv 3)))) pa_nil)))
        (pss_one (ps_aug (i := 2) nd rfl (.inl rfl) (pv 3) ip_add))))
      (pss_cons (ps_set (i := 4) nd rfl (.inl rfl) (pe_make T.mkt (ok_ti T) hr2 (by rfl) T.gtC T.b_tinit .nil pass0 (pa_cons (pv 0) (pa_cons pe_int (pa_cons (pv 1) (pa_cons (pe_op op_rep (pe_lst (pa_cons pe_non pa_nil)) (pe_callB (call_lenI T.lenC T.lenF ((ok_len T).raw T.b_rlen .nil) hr2 pass0) (by rfl) T.z_len PySem.boot_len (pa_cons (pv 0) pa_nil))) (pa_cons (pv 2) pa_nil)))))))
      (pss_cons (ps_expr (pe_call (ok_begT T) hr (by rfl) T.g_begin_readings T.F_begin_readings.kp T.b_begin_readings .nil pass0 (pa_cons (pv 4) pa_nil)))
      (pss_one (ps_ret (pv 4))))))), ?_⟩
    have G := R.ok
    have l2 := G.l2
    have l8 := G.l8
    have ls := G.ls
    have b12 := G.b12
    refine ⟨Nat.zero_le _, fun h0 hh0 => ?_⟩
    have s1 := same_upd (o := .lst []) hh0
    have g1 : (upd H h0 (.lst [])) h0 = some (.lst []) := upd_same
    have R1 := R.same s1
    show tSeq _ _ _ [some (.ref p), some (.ref h0), none, none, none] (upd H h0 (.lst []))
    generalize (upd H h0 (.lst [])) = H1 at s1 g1 R1 ⊢
    refine ⟨_, rfl, p, dx, _, rfl, R1.ob, p, dx, td, ts, ds, ss, rfl, R1, ts, rfl, ⟨_, .of R1.ts⟩, for_tup (K := K) (a := ts) (xs := ss.map V.int) (fun i σ H' => (∃ z3, σ = [some (.ref p), some (.ref h0), some (.int (ss.take i).sum), z3, none]) ∧ Same H H' ∧ ∃ ha : List Addr, H' h0 = some (.lst (ha.map V.ref)) ∧ ha.length = i ∧ ∀ (j : Nat) (a : Addr), ha[j]? = some a → a ≠ h0 ∧ H' a = some (.tup ((h0F ss j).map V.int)))
      ⟨⟨none, rfl⟩, s1, [], g1, rfl, fun j a h => by simp at h⟩ (fun i σ H' _ z => .of (z.2.1 _ _ R.ts)) ?_ ?_⟩
    · rintro i x σ H7 hx ⟨⟨z3, rfl⟩, kp, ha, hha, lha, oha⟩
      obtain ⟨z, hz, rfl⟩ := get_int hx
      have hi : i < ss.length := (List.getElem?_eq_some_iff.mp hz).1
      have ez : at' ss i = z := at_nat hz
      have hz12 := G.s0 z (List.mem_of_getElem? hz)
      have hb := take_le (l := ss) (fun y hy => (G.s0 y hy).1) i
      obtain ⟨b0, hb0⟩ : ∃ b, b = (ss.take i).sum := ⟨_, rfl⟩
      show tSeq _ _ _ [some (.ref p), some (.ref h0), some (.int (ss.take i).sum), some (.int z), none] H7
      rw [← hb0] at hb ⊢
      refine ⟨_, rfl, .inl ⟨rfl, _, SqL.of hha⟩, _, rfl, _, rfl, _, rfl, _, _, rfl, rfl, _, _, rfl, rfl, ⟨by omega, by omega, by omega, by omega, by omega⟩, fun L hL => ?_⟩
      have s8 := same_upd (o := .tup (rgV b0 (b0 + z))) hL
      have eL : rgV b0 (b0 + z) = (h0F ss i).map V.int := h0_rg hb0.symm ez
      have nL : L ≠ h0 := (ne_of_none hha hL).symm
      refine ⟨h0, _, _, rfl, rfl, s8 _ _ hha, by rw [List.length_map]; exact small1000 (by omega), ?_⟩
      refine ⟨_, rfl, _, rfl, _, _, rfl, rfl, ?_⟩
      refine ⟨⟨_, by rw [take_succ hi, ← hb0, ez]; rfl⟩, fun x o h => ?_, ha ++ [L], by rw [upd_same, List.map_append]; rfl, by rw [List.length_append, lha]; rfl, fun j a h => ?_⟩
      · rw [upd_ne (ne_of_none h hh0)]
        exact s8 _ _ (kp _ _ h)
      · rcases get_snoc h with h | ⟨h1, rfl⟩
        · obtain ⟨n1, h1⟩ := oha j a h
          rw [upd_ne n1]
          exact ⟨n1, s8 _ _ h1⟩
        · rw [upd_ne nL, upd_same, h1, lha, eL]
          exact ⟨nL, rfl⟩
    · rintro σ H7 ⟨⟨z3, rfl⟩, kp, ha, hha, lha, oha⟩
      rw [List.length_map] at lha ⊢
      rw [List.take_length]
      have R7 := R.same kp
      refine ⟨_, rfl, _, rfl, (by show 1 ≤ sizeLine; decide), fun l0 hl0 => ?_⟩
      have s4 := same_upd (o := .lst [.non]) hl0
      have g4 : (upd H7 l0 (.lst [.non])) l0 = some (.lst [.non]) := upd_same
      have R8 := R7.same s4
      generalize (upd H7 l0 (.lst [.non])) = H4 at s4 g4 R8 ⊢
      refine ⟨_, rfl, p, dx, _, rfl, R8.ob, p, dx, td, ts, ds, ss, rfl, R8, (ds.length : Int), rfl, by omega, by omega, l0, _, _, rfl, rfl, g4, by omega, by omega, ?_, fun rd hrd => ?_⟩
      · show 1 * _ ≤ sizeLine
        have := small1000 (n := 1 * ((ds.length : Nat) : Int).toNat) (by omega)
        omega
      rw [rep_one, show ((ds.length : Nat) : Int).toNat = ds.length by omega]
      have s5 := same_upd (o := .lst (List.replicate ds.length V.non)) hrd
      have g5 : (upd H4 rd (.lst (List.replicate ds.length V.non))) rd = some (.lst (List.replicate ds.length V.non)) := upd_same
      have R9 := R8.same s5
      have s75 := s4.trans s5
      generalize (upd H4 rd (.lst (List.replicate ds.length V.non))) = H5 at s5 g5 R9 s75 ⊢
      refine ⟨_, rfl, fun t2 d2 nt2 nd2 ne2 => ?_⟩
      have s6 : Same H5 (upd (upd H5 d2 (.own t2)) t2 (.ins T.tC d2 [])) := fun b o e => by
        rw [upd_ne (ne_of_none e nt2), upd_ne (ne_of_none e nd2)]
        exact e
      have I : LvI T.C H5 p dx td ts h0 rd ha (List.replicate ds.length V.non) ds ss (h0F ss) (fun _ => none) :=
        ⟨R9, s75 _ _ hha, by omega, fun j a h => s75 _ _ (oha j a h).2, g5, List.length_replicate, (fun j v h => by
          rw [List.getElem?_replicate] at h
          split at h
          · cases h
            rfl
          · cases h), fun j hj => by
          unfold h0F
          rw [List.length_map, List.length_range]
          have := (G.s0 _ (at_mem (by omega) (j : Int))).2
          omega⟩
      refine ⟨t2, d2, p, dx, td, ts, h0, rd, ha, _, ds, ss, 0, ss.sum, _, _, rfl, upd_same, I.same s6, fun H8 hl cl k8 e1 e2 M8 => ⟨rfl, ?_⟩⟩
      have S8 : Same H H8 := fun b o e => k8 b o (s6 _ _ (s75 _ _ (kp _ _ e))) (ne_of_none (s75 _ _ (kp _ _ e)) nt2)
      have S58 := (kp.trans s75).trans s6
      have t0 : H t2 = none := same_noneT (kp.trans s75) nt2
      refine ⟨_, rfl, t2, d2, p, dx, td, ts, hl, cl, ha, _, ds, ss, 0, ss.sum, _, _, rfl, M8, fun H9 ha9 cs9 k9 M9 => ?_⟩
      have hl0 := same_noneT S58 e1
      have cl0 := same_noneT S58 e2
      exact ⟨_, rfl, q H9 t2 d2 hl cl ha9 cs9 (fun b o e => k9 b o (S8 _ _ e) (ne_of_none e t0) (ne_of_none e hl0) (ne_of_none e cl0)) t0 hl0 cl0 M9⟩
end
end Rp
/-! The law's own ring in a dict, its heaps and readings as functions: _law_begin. -/
namespace Rp
open PySem PySem.Spec PyProof.Rows L2 Rz Rm
abbrev kD : Key := .inr (Str.ofString "days")
abbrev kH : Key := .inr (Str.ofString "heaps")
abbrev kR : Key := .inr (Str.ofString "reading")
abbrev kT : Key := .inr (Str.ofString "today")
abbrev kN : Key := .inr (Str.ofString "next")
theorem kT_D : ¬ kD = kT := by decide +kernel
theorem kT_H : ¬ kH = kT := by decide +kernel
theorem kT_R : ¬ kR = kT := by decide +kernel
theorem kT_N : ¬ kN = kT := by decide +kernel
theorem put_len (kvs : List (Key × V)) (k : Key) (v : V) : (putK kvs k v).length ≤ kvs.length + 1 := by
  unfold putK
  split
  · rw [List.length_map]
    omega
  · rw [List.length_append]
    exact Nat.le_refl _
theorem put_has {kvs : List (Key × V)} {k : Key} {v0 v : V} (h : valV kvs k = some v0) : (putK kvs k v).length = kvs.length := by
  unfold putK
  rw [if_pos (by rw [valV_any, h]; rfl), List.length_map]
theorem get_of {H : Hp} {hd : Addr} {kvs : List (Key × V)} {k : Key} {v : V} {y : V} (h : H hd = some (.dK kvs)) (hv : valV kvs k = some v) (e : y = kV k) : DGet H hd y (some v) := .inl ⟨kvs, k, .inl h, e, hv.symm⟩
/-- the dict ring: its readers' days, heaps and readings -/
structure DcT (H : Hp) (hd ld hl rd : Addr) (ha : List Addr) (cs : List V) (ds : List Int) (day coming : Int) (hp : Nat → List Int) (cu : Nat → Option (Int × Int)) : Prop where
  dic : ∃ kvs, H hd = some (.dK kvs) ∧ kvs.length ≤ 5 ∧ valV kvs kD = some (.ref ld) ∧ valV kvs kH = some (.ref hl) ∧ valV kvs kR = some (.ref rd) ∧ valV kvs kT = some (.int day) ∧ valV kvs kN = some (.int coming)
  old : H ld = some (.lst (ds.map V.int))
  ohl : H hl = some (.lst (ha.map V.ref))
  lh : ha.length = ds.length
  hv : ∀ (j : Nat) (a : Addr), ha[j]? = some a → H a = some (.lst ((hp j).map V.int))
  ord : H rd = some (.lst cs)
  lc : cs.length = ds.length
  cv : ∀ (j : Nat) (v : V), cs[j]? = some v → CuV H v (cu j)
  n1 : ld ≠ hl
  n2 : ld ≠ rd
  n3 : hl ≠ rd
  nh : ∀ a ∈ ha, a ≠ ld ∧ a ≠ hl ∧ a ≠ rd
  dh : ha.Nodup
  l2 : 2 ≤ ds.length
  l8 : ds.length ≤ 8
  sm : ∀ j, j < ds.length → (hp j).length ≤ 900
/-- all but the dict ring's heaps and readings stays -/
def KpO (rd : Addr) (ha : List Addr) (H H' : Hp) : Prop := ∀ x o, H x = some o → x ≠ rd → x ∉ ha → H' x = some o
theorem KpO.trans {rd : Addr} {ha : List Addr} {H H1 H2 : Hp} (a : KpO rd ha H H1) (b : KpO rd ha H1 H2) : KpO rd ha H H2 := fun x o h n m => b x o (a x o h n m) n m
theorem Same.kpo {rd : Addr} {ha : List Addr} {H H' : Hp} (s : Same H H') : KpO rd ha H H' := fun x o h _ _ => s x o h
/-- all but the dict ring stays -/
def KpD (hd rd : Addr) (ha : List Addr) (H H' : Hp) : Prop := ∀ x o, H x = some o → x ≠ hd → x ≠ rd → x ∉ ha → H' x = some o
theorem KpD.trans {hd rd : Addr} {ha : List Addr} {H H1 H2 : Hp} (a : KpD hd rd ha H H1) (b : KpD hd rd ha H1 H2) : KpD hd rd ha H H2 := fun x o h l n m => b x o (a x o h l n m) l n m
theorem KpO.kpd {hd rd : Addr} {ha : List Addr} {H H' : Hp} (s : KpO rd ha H H') : KpD hd rd ha H H' := fun x o h _ n m => s x o h n m
theorem Same.kpd {hd rd : Addr} {ha : List Addr} {H H' : Hp} (s : Same H H') : KpD hd rd ha H H' := fun x o h _ _ _ => s x o h
section
variable {H H' : Hp} {hd ld hl rd : Addr} {ha : List Addr} {cs : List V} {ds : List Int} {day coming : Int} {hp : Nat → List Int} {cu : Nat → Option (Int × Int)}
theorem DcT.same (b : DcT H hd ld hl rd ha cs ds day coming hp cu) (s : Same H H') : DcT H' hd ld hl rd ha cs ds day coming hp cu := by
  obtain ⟨kvs, k1, k2⟩ := b.dic
  exact ⟨⟨kvs, s _ _ k1, k2⟩, s _ _ b.old, s _ _ b.ohl, b.lh, fun j a h => s _ _ (b.hv j a h), s _ _ b.ord, b.lc, fun j v h => (b.cv j v h).tups fun _ _ e => s _ _ e, b.n1, b.n2, b.n3, b.nh, b.dh, b.l2, b.l8, b.sm⟩
theorem DcT.ext (b : DcT H hd ld hl rd ha cs ds day coming hp cu) {hp' : Nat → List Int} {cu' : Nat → Option (Int × Int)} (e1 : ∀ j, j < ds.length → hp' j = hp j) (e2 : ∀ j, j < ds.length → cu' j = cu j) : DcT H hd ld hl rd ha cs ds day coming hp' cu' :=
  ⟨b.dic, b.old, b.ohl, b.lh, fun j a h => by rw [e1 j (by rw [← b.lh]; exact (List.getElem?_eq_some_iff.mp h).1)]; exact b.hv j a h, b.ord, b.lc, fun j v h => by rw [e2 j (by rw [← b.lc]; exact (List.getElem?_eq_some_iff.mp h).1)]; exact b.cv j v h, b.n1, b.n2, b.n3, b.nh, b.dh, b.l2, b.l8, fun j hj => by rw [e1 j hj]; exact b.sm j hj⟩
/-- another list is written -/
theorem DcT.oth (b : DcT H hd ld hl rd ha cs ds day coming hp cu) {L : Addr} {l l' : List V} (h : H L = some (.lst l)) (n1 : L ≠ ld) (n2 : L ≠ hl) (n3 : L ≠ rd) (n4 : L ∉ ha) : DcT (upd H L (.lst l')) hd ld hl rd ha cs ds day coming hp cu := by
  have kx : ∀ {x o}, H x = some o → x ≠ L → (upd H L (.lst l')) x = some o := fun {x o} e n => (upd_ne n).trans e
  have tk : ∀ c ys, H c = some (.tup ys) → (upd H L (.lst l')) c = some (.tup ys) := fun c ys e => kx e (ne_of e h (by intro z; cases z))
  obtain ⟨kvs, k1, k2⟩ := b.dic
  exact ⟨⟨kvs, kx k1 (ne_of k1 h (by intro z; cases z)), k2⟩, kx b.old n1.symm, kx b.ohl n2.symm, b.lh, fun j a e => kx (b.hv j a e) (fun z => n4 (z ▸ List.mem_of_getElem? e)), kx b.ord n3.symm, b.lc, fun j v e => (b.cv j v e).tups tk, b.n1, b.n2, b.n3, b.nh, b.dh, b.l2, b.l8, b.sm⟩
/-- the day is put anew -/
theorem DcT.tick (b : DcT H hd ld hl rd ha cs ds day coming hp cu) {kvs : List (Key × V)} (h : H hd = some (.dK kvs)) (d : Int) : DcT (upd H hd (.dK (putK kvs kT (.int d)))) hd ld hl rd ha cs ds d coming hp cu := by
  have kl : ∀ {y xs}, H y = some (.lst xs) → (upd H hd (.dK (putK kvs kT (.int d)))) y = some (.lst xs) := fun {y xs} e => (upd_ne (ne_of e h (by intro z; cases z))).trans e
  obtain ⟨kvs', h1, h2, h3, h4, h5, h6, h7⟩ := b.dic
  rw [h] at h1
  cases h1
  exact ⟨⟨_, upd_same, by rw [put_has h6]; exact h2, by rw [valV_put, if_neg kT_D]; exact h3, by rw [valV_put, if_neg kT_H]; exact h4, by rw [valV_put, if_neg kT_R]; exact h5, by rw [valV_put, if_pos rfl], by rw [valV_put, if_neg kT_N]; exact h7⟩, kl b.old, kl b.ohl, b.lh, fun j a e => kl (b.hv j a e), kl b.ord, b.lc, fun j v e => (b.cv j v e).tups fun c ys e => (upd_ne (ne_of e h (by intro z; cases z))).trans e, b.n1, b.n2, b.n3, b.nh, b.dh, b.l2, b.l8, b.sm⟩
/-- one reading is put anew -/
theorem DcT.putC (b : DcT H hd ld hl rd ha cs ds day coming hp cu) {k : Nat} {v : V} {o : Option (Int × Int)} (hv : CuV H v o) : DcT (upd H rd (.lst (cs.set k v))) hd ld hl rd ha (cs.set k v) ds day coming hp (fun j => if j = k then o else cu j) := by
  have kx : ∀ {x o}, H x = some o → x ≠ rd → (upd H rd (.lst (cs.set k v))) x = some o := fun {x o} e n => (upd_ne n).trans e
  have tk : ∀ c ys, H c = some (.tup ys) → (upd H rd (.lst (cs.set k v))) c = some (.tup ys) := fun c ys e => kx e (ne_of e b.ord (by intro z; cases z))
  obtain ⟨kvs, k1, k2⟩ := b.dic
  refine ⟨⟨kvs, kx k1 (ne_of k1 b.ord (by intro z; cases z)), k2⟩, kx b.old b.n2, kx b.ohl b.n3, b.lh, fun j a e => kx (b.hv j a e) (b.nh a (List.mem_of_getElem? e)).2.2, upd_same, by rw [List.length_set]; exact b.lc, fun j w h => ?_, b.n1, b.n2, b.n3, b.nh, b.dh, b.l2, b.l8, b.sm⟩
  by_cases e : j = k
  · subst e
    rw [if_pos rfl]
    have hj : j < cs.length := by
      have := (List.getElem?_eq_some_iff.mp h).1
      rw [List.length_set] at this
      exact this
    rw [List.getElem?_set_self hj] at h
    cases h
    exact hv.tups tk
  · rw [if_neg e]
    rw [List.getElem?_set_ne (Ne.symm e)] at h
    exact (b.cv j w h).tups tk
/-- one heap is written -/
theorem DcT.putH (b : DcT H hd ld hl rd ha cs ds day coming hp cu) {k : Nat} {a : Addr} {l : List V} {ws : List Int} (ga : ha[k]? = some a) (hl' : l = ws.map V.int) (hw : ws.length ≤ 900) : DcT (upd H a (.lst l)) hd ld hl rd ha cs ds day coming (fun j => if j = k then ws else hp j) cu := by
  subst hl'
  have am := List.mem_of_getElem? ga
  have gx := b.hv k a ga
  have kx : ∀ {x o}, H x = some o → x ≠ a → (upd H a (.lst (ws.map V.int))) x = some o := fun {x o} e n => (upd_ne n).trans e
  have tk : ∀ c ys, H c = some (.tup ys) → (upd H a (.lst (ws.map V.int))) c = some (.tup ys) := fun c ys e => kx e (ne_of e gx (by intro z; cases z))
  obtain ⟨kvs, k1, k2⟩ := b.dic
  obtain ⟨m1, m2, m3⟩ := b.nh a am
  refine ⟨⟨kvs, kx k1 (ne_of k1 gx (by intro z; cases z)), k2⟩, kx b.old m1.symm, kx b.ohl m2.symm, b.lh, fun j c h => ?_, kx b.ord m3.symm, b.lc, fun j v e => (b.cv j v e).tups tk, b.n1, b.n2, b.n3, b.nh, b.dh, b.l2, b.l8, fun j hj => ?_⟩
  · by_cases e : j = k
    · subst e
      rw [ga] at h
      cases h
      rw [if_pos rfl]
      exact upd_same
    · rw [if_neg e]
      exact kx (b.hv j c h) fun z => by
        subst z
        exact e (nd_ix b.dh h ga)
  · show (if j = k then ws else hp j).length ≤ 900
    split
    · exact hw
    · exact b.sm j hj
end
section
variable {P : Program} {w : World} {K : PySem.W.Frag} {mg : Str → Option Value} {base : Heap}
def spBegD : Sp := fun vs H Q _ => ∃ (hd ld hl rd : Addr) (ha : List Addr) (cs : List V) (ds : List Int) (day coming : Int) (hp : Nat → List Int) (cu : Nat → Option (Int × Int)), vs = [.ref hd] ∧
  DcT H hd ld hl rd ha cs ds day coming hp cu ∧
  ∀ H' cs', KpO rd ha H H' → DcT H' hd ld hl rd ha cs' ds day coming (bgH hp cu) (bgC ds day hp cu) → Q .non H'
theorem ok_begD (T : Tx K mg) : FnOk P w K mg base CX0 2 T.a_lbegin T.d_lbegin P_lbegin spBegD := by
  refine T.F_lbegin.ok sc_lbegin (fun vs H Q E h => ?_) (fun cdv A outer s H vs Q E hr h => ?_)
  · obtain ⟨hd, ld, hl, rd, ha, cs, ds, day, coming, hp, cu, rfl, _⟩ := h
    rfl
  · obtain ⟨hd, ld, hl, rd, ha, cs, ds, day, coming, hp, cu, rfl, S, q⟩ := h
    have nd := sc_lbegin.nd
    have hu1 : (cxOf CX0 P w K mg base N_lbegin "_law_begin" (defScope s_lbegin) T.a_lbegin cdv A outer s H E).nox.A.units + 1 < cLine := Nat.lt_of_le_of_lt (Nat.add_le_add_left (by decide : 1 ≤ 64) _) hr.units
    refine ⟨_, pss_one (ps_for PassesOwn.never rfl (pi_range1 (by rfl) T.z_range (pa_cons (pe_callB call_len_seq (by rfl) T.z_len PySem.boot_len (pa_cons (pe_dget hu1 (pv 0) pe_str (fun _ _ => rfl)) pa_nil)) pa_nil)) (pg_name (i := 1) nd rfl (.inl rfl))
      (pss_one (ps_if (PW.pt (pw_and (pt_cmpR op_isN (pe_ix ix_list (pe_dget hu1 (pv 0) pe_str (fun _ _ => rfl)) (pv 1) (fun _ _ => rfl)) pe_non (nomark _)) (pw_and1 (pt_cmpR (op_neD hr.units) (pe_ix ix_list (pe_dget hu1 (pv 0) pe_str (fun _ _ => rfl)) (pv 1) (fun _ _ => rfl)) (pe_lst pa_nil) (nomark _)))))
        (pss_one (ps_asg (pe_tup (pa_cons (pe_bm PySem.F.plainAttrs_list PySem.F.slot_list_pop PySem.F.type_list_pop mt_popAt (pe_ix ix_list (pe_dget hu1 (pv 0) pe_str (fun _ _ => rfl)) (pv 1) (fun _ _ => rfl)) (pa_cons pe_int pa_nil))
            (pa_cons (pe_op op_add (pe_dget hu1 (pv 0) pe_str (fun _ _ => rfl)) (pe_ix ix_list (pe_dget hu1 (pv 0) pe_str (fun _ _ => rfl)) (pv 1) (fun _ _ => rfl))) pa_nil)))
          (pg_sub (pe_dget hu1 (pv 0) pe_str (fun _ _ => rfl)) (pv 1) set_list))) pss_nil))), ?_⟩
    have l2 := S.l2
    have l8 := S.l8
    obtain ⟨kvs, k1, k2, k3, k4, k5, k6, k7⟩ := S.dic
    refine ⟨_, rfl, hd, _, rfl, get_of k1 k3 rfl, ld, _, rfl, .inl (.of S.old), _, rfl, ?_, ?_, ?_⟩
    · rw [List.length_map]
      omega
    · rw [List.length_map]
      omega
    rw [List.length_map]
    refine for_range (lo := 0) (n := ((ds.length : Nat) : Int).toNat) (fun i σ H' => (∃ z1, σ = [some (.ref hd), z1]) ∧ KpO rd ha H H' ∧ ∃ cs', DcT H' hd ld hl rd ha cs' ds day coming (fun j => if j < i then bgH hp cu j else hp j) (fun j => if j < i then bgC ds day hp cu j else cu j))
      ⟨⟨_, rfl⟩, fun x o h _ _ => h, cs, S.ext (fun j _ => if_neg (Nat.not_lt_zero _)) (fun j _ => if_neg (Nat.not_lt_zero _))⟩ ?_ ?_
    · rintro i σ H1 hi ⟨⟨z1, rfl⟩, kp, cs1, S1⟩
      have hi' : i < ds.length := by omega
      have ei : (0 : Int) + (i : Int) = i := by omega
      show tIfS _ _ _ _ [some (.ref hd), some (.int (0 + (i : Int)))] H1
      rw [ei]
      obtain ⟨kvs, k1, k2, k3, k4, k5, k6, k7⟩ := S1.dic
      obtain ⟨cv, gc⟩ : ∃ v, cs1[i]? = some v := ⟨_, List.getElem?_eq_getElem (by rw [S1.lc]; exact hi')⟩
      have hcv := S1.cv i cv gc
      simp only [Nat.lt_irrefl, if_false] at hcv
      have hat : atI cs1 (i : Int) = some cv := atI_nat gc
      have gv := S1.ord
      have sm := S.sm i hi'
      have stay : ∀ Hx, Same H1 Hx → bgH hp cu i = hp i → bgC ds day hp cu i = cu i → ∃ cs', DcT Hx hd ld hl rd ha cs' ds day coming (fun j => if j < i + 1 then bgH hp cu j else hp j) (fun j => if j < i + 1 then bgC ds day hp cu j else cu j) := fun Hx sx e1 e2 => by
        refine ⟨cs1, (S1.same sx).ext (fun j _ => ?_) (fun j _ => ?_)⟩
        · by_cases h1 : j < i
          · rw [if_pos h1, if_pos (by omega)]
          · by_cases h2 : j = i
            · rw [h2, if_pos (by omega), if_neg (by omega), e1]
            · rw [if_neg (by omega), if_neg h1]
        · by_cases h1 : j < i
          · rw [if_pos h1, if_pos (by omega)]
          · by_cases h2 : j = i
            · rw [h2, if_pos (by omega), if_neg (by omega), e2]
            · rw [if_neg (by omega), if_neg h1]
      refine ⟨_, rfl, hd, _, rfl, get_of k1 k5 rfl, _, rfl, rd, cs1, _, cv, rfl, rfl, .of gv, hat, rfl, _, rfl, ?_⟩
      cases ecu : cu i with
      | some be =>
        obtain ⟨b, e⟩ := be
        rw [ecu] at hcv
        obtain ⟨tc, rfl, htc⟩ := hcv
        exact iteF (iteF ⟨⟨_, rfl⟩, kp, stay H1 (Same.refl H1) (by unfold bgH; rw [ecu]) (by unfold bgC; rw [ecu])⟩)
      | none =>
        rw [ecu] at hcv
        have hcv : cv = .non := hcv
        subst hcv
        refine iteT ?_
        obtain ⟨a, ga⟩ : ∃ a, ha[i]? = some a := ⟨_, List.getElem?_eq_getElem (by rw [S1.lh]; exact hi')⟩
        have am := List.mem_of_getElem? ga
        have gx := S1.hv _ a ga
        simp only [Nat.lt_irrefl, if_false] at gx
        have hatA : atI (ha.map V.ref) (i : Int) = some (.ref a) := atI_nat (by rw [List.getElem?_map, ga]; rfl)
        refine ⟨_, rfl, hd, _, rfl, get_of k1 k4 rfl, _, rfl, hl, _, _, _, rfl, rfl, .of S1.ohl, hatA, Nat.zero_le _, fun e he => ?_⟩
        have s1 := same_upd (o := .lst []) he
        refine ⟨.list _, .list [], .lst (.of (s1 _ _ gx)) (dp_is _), .lst (.of upd_same) .nil, PySem.W.ke_shaped_ints _, PySem.W.ke_shaped_ints [], _, rfl, ?_⟩
        cases ehp : hp i with
        | nil => exact iteF ⟨⟨_, rfl⟩, kp.trans (Same.kpo s1), stay _ s1 (by unfold bgH; rw [ecu, ehp]) (by unfold bgC; rw [ecu, ehp])⟩
        | cons b0 r =>
          rw [ehp] at gx sm
          refine iteT ?_
          have S2 := S1.same s1
          have gx2 := s1 _ _ gx
          have gv2 := s1 _ _ gv
          have g12 := s1 _ _ k1
          have kp2 : KpO rd ha H (upd H1 e (.lst [])) := kp.trans (Same.kpo s1)
          generalize (upd H1 e (.lst [])) = H2 at S2 gx2 gv2 g12 kp2 ⊢
          refine ⟨_, rfl, hd, _, rfl, get_of g12 k4 rfl, _, rfl, hl, _, _, _, rfl, rfl, .of S2.ohl, hatA, .inl ⟨rfl, _, SqL.of gx2⟩, a, _, 0, 0, _, rfl, rfl, gx2, by decide, by decide, ?_, rfl, ?_⟩
          · show (if (0 ≤ (0 : Int)) && ((0 : Int) < ((V.int _ :: List.map V.int _).length : Nat)) then some (0 : Int).toNat else none) = some 0
            rw [if_pos (by rw [List.length_cons]; simp)]
            rfl
          have S3 := S2.putH (l := List.eraseIdx (V.int b0 :: List.map V.int r) 0) (ws := r) ga rfl (by rw [List.length_cons] at sm; omega)
          have kp3 : KpO rd ha H (upd H2 a (.lst (List.eraseIdx (V.int b0 :: List.map V.int r) 0))) := fun x o h n m => by
            have nx : x ≠ a := fun z => by
              subst z
              exact m am
            rw [upd_ne nx]
            exact kp2 x o h n m
          obtain ⟨kvs3, g1, g2, g3, g4, g5, g6, g7⟩ := S3.dic
          have hatD : atI (ds.map V.int) (i : Int) = some (.int (at' ds i)) := at_ix (by omega) (by omega)
          refine ⟨_, rfl, hd, _, rfl, get_of g1 g6 rfl, _, rfl, hd, _, rfl, get_of g1 g3 rfl, _, rfl, ld, _, _, _, rfl, rfl, .of S3.old, hatD, _, _, rfl, rfl, (by show 2 ≤ sizeLine; decide), fun t hT => ?_⟩
          have s3 := same_upd (o := .tup [.int b0, .int (day + at' ds i)]) hT
          have S4 := S3.same s3
          have gt : (upd (upd H2 a (.lst (List.eraseIdx (V.int b0 :: List.map V.int r) 0))) t (.tup [.int b0, .int (day + at' ds i)])) t = some (.tup [.int b0, .int (day + at' ds i)]) := upd_same
          refine ⟨_, rfl, hd, _, rfl, get_of (s3 _ _ g1) g5 rfl, _, rfl, rd, cs1, _, i, rfl, rfl, S4.ord, ixN_nat (by rw [S1.lc]; exact hi'), ?_⟩
          have S5 := S4.putC (k := i) (v := .ref t) (o := some (b0, day + at' ds i)) ⟨t, rfl, gt⟩
          refine ⟨⟨_, rfl⟩, fun x o h n m => (upd_ne n).trans (s3 _ _ (kp3 x o h n m)), _, S5.ext (fun j hj => ?_) (fun j hj => ?_)⟩
          · by_cases h1 : j = i
            · rw [h1, if_pos (by omega), if_pos rfl]
              unfold bgH
              rw [ecu, ehp]
            · rw [if_neg h1]
              by_cases h2 : j < i
              · rw [if_pos h2, if_pos (by omega)]
              · rw [if_neg h2, if_neg (by omega)]
          · by_cases h1 : j = i
            · rw [h1, if_pos (by omega), if_pos rfl]
              unfold bgC
              rw [ecu, ehp]
            · rw [if_neg h1]
              by_cases h2 : j < i
              · rw [if_pos h2, if_pos (by omega)]
              · rw [if_neg h2, if_neg (by omega)]
    · rintro σ H1 ⟨⟨z1, rfl⟩, kp, cs1, S1⟩
      exact q H1 cs1 kp (S1.ext (fun j hj => by rw [if_pos (by omega)]) (fun j hj => by rw [if_pos (by omega)]))
end
end Rp
/-! The law's own ring in a dict: _law_day. -/
namespace Rp
open PySem PySem.Spec PyProof.Rows L2 Rz Rm
/-- whose reading ends -/
def enK (day : Int) (cu : Nat → Option (Int × Int)) (n : Nat) : List Nat := (List.range n).filter fun j => (enB day cu j).isSome
theorem enK_suc (day : Int) (cu : Nat → Option (Int × Int)) (n : Nat) : enK day cu (n + 1) = if (enB day cu n).isSome = true then enK day cu n ++ [n] else enK day cu n := by
  unfold enK
  rw [List.range_succ, List.filter_append]
  cases h : (enB day cu n).isSome with
  | true => simp [h]
  | false => simp [h]
theorem enK_mem {day : Int} {cu : Nat → Option (Int × Int)} {n j : Nat} : j ∈ enK day cu n ↔ j < n ∧ (enB day cu j).isSome = true := by
  unfold enK
  rw [List.mem_filter, List.mem_range]
theorem enK_nodup {day : Int} {cu : Nat → Option (Int × Int)} {n : Nat} : (enK day cu n).Nodup := List.Pairwise.filter _ List.nodup_range
theorem enL_map (day : Int) (cu : Nat → Option (Int × Int)) (n : Nat) : enL day cu n = (enK day cu n).map fun (j : Nat) => [day, (j : Int), (enB day cu j).getD 0] := by
  induction n with
  | zero => rfl
  | succ n ih =>
    rw [enL_suc, enK_suc, ih]
    cases h : enB day cu n with
    | none => rw [if_neg (by simp)]; simp
    | some b => simp [h]
section
variable {P : Program} {w : World} {K : PySem.W.Frag} {mg : Str → Option Value} {base : Heap}
def spDyD : Sp := fun vs H Q _ => ∃ (hd ld hl rd : Addr) (ha : List Addr) (cs : List V) (ds : List Int) (coming : Int) (s : TSt), vs = [.ref hd] ∧
  DcT H hd ld hl rd ha cs ds s.day coming s.hp s.cu ∧ (∀ j, j < ds.length → (s.hp j).length < 900) ∧
  ∀ (H' : Hp) (cs' : List V) (le : Addr) (xs : List V), KpD hd rd ha H H' → DcT H' hd ld hl rd ha cs' ds (dyS ds s).day coming (dyS ds s).hp (dyS ds s).cu → H le = none → H' le = some (.lst xs) → Tups H' xs (enL (s.day + 1) s.cu ds.length) → Q (.ref le) H'
theorem ok_dyD (T : Tx K mg) : FnOk P w K mg base CX0 3 T.a_lday T.d_lday P_lday spDyD := by
  refine T.F_lday.ok sc_lday (fun vs H Q E h => ?_) (fun cdv A outer s0 H vs Q E hr h => ?_)
  · obtain ⟨hd, ld, hl, rd, ha, cs, ds, coming, s, rfl, _⟩ := h
    rfl
  · obtain ⟨hd, ld, hl, rd, ha, cs, ds, coming, s, rfl, S, h9, q⟩ := h
    have nd := sc_lday.nd
    have hu1 : (cxOf CX0 P w K mg base N_lday "_law_day" (defScope s_lday) T.a_lday cdv A outer s0 H E).nox.A.units + 1 < cLine := Nat.lt_of_le_of_lt (Nat.add_le_add_left (by decide : 1 ≤ 64) _) hr.units
    refine ⟨_, pss_cons (ps_dput hu1 (pv 0) pe_str (pe_op op_add (pe_dget hu1 (pv 0) pe_str (fun _ _ => rfl)) pe_int) rfl)
      (pss_cons (ps_par (i := 1) (j := 2) rfl nd rfl rfl (by decide) rfl rfl (pa_cons (pe_lst pa_nil) (pa_cons (pe_callB call_len_seq (by rfl) T.z_len PySem.boot_len (pa_cons (pe_dget hu1 (pv 0) pe_str (fun _ _ => rfl)) pa_nil)) pa_nil)) rfl)
      (pss_cons (ps_for PassesOwn.never rfl (pi_range1 (by rfl) T.z_range (pa_cons (pv 2) pa_nil)) (pg_name (i := 3) nd rfl (.inl rfl))
        (pss_one (ps_if (PW.pt (pw_and (pt_cmpR op_notN (pe_ix ix_list (pe_dget hu1 (pv 0) pe_str (fun _ _ => rfl)) (pv 3) (fun _ _ => rfl)) pe_non (nomark _)) (pw_and1 (pt_cmpR op_eq (pe_ix ix_tup (pe_ix ix_list (pe_dget hu1 (pv 0) pe_str (fun _ _ => rfl)) (pv 3) (fun _ _ => rfl)) pe_int (fun _ _ => rfl)) (pe_dget hu1 (pv 0) pe_str (fun _ _ => rfl)) (nomark _)))))
          (pss_cons (ps_expr (pe_bm PySem.F.plainAttrs_list PySem.F.slot_list_append PySem.F.type_list_append mt_append (pv 1) (pa_cons (pe_tup (pa_cons (pe_dget hu1 (pv 0) pe_str (fun _ _ => rfl)) (pa_cons (pv 3) (pa_cons (pe_ix ix_tup (pe_ix ix_list (pe_dget hu1 (pv 0) pe_str (fun _ _ => rfl)) (pv 3) (fun _ _ => rfl)) pe_int (fun _ _ => rfl)) pa_nil)))) pa_nil)))
          (pss_one (ps_asg pe_non (pg_sub (pe_dget hu1 (pv 0) pe_str (fun _ _ => rfl)) (pv 3) set_list)))) pss_nil)))
      (pss_cons (ps_for PassesOwn.never rfl (pi_list (pv 1)) (pg_tup rfl (pgs_cons (pg_name (i := 4) nd rfl (.inl rfl)) (pgs_cons (pg_name (i := 3) nd rfl (.inl rfl)) (pgs_cons (pg_name (i := 5) nd rfl (.inl rfl)) pgs_nil))))
        (pss_one (ps_expr (pe_bm PySem.F.plainAttrs_list PySem.F.slot_list_append PySem.F.type_list_append mt_append (pe_ix ix_list (pe_dget hu1 (pv 0) pe_str (fun _ _ => rfl)) (pe_op op_mod (pe_callTy call_int1 (by rfl) T.z_int (by decide +kernel) (pa_cons (pe_op op_add (pv 3) pe_int) pa_nil)) (pv 2)) (fun _ _ => rfl)) (pa_cons (pv 5) pa_nil)))))
      (pss_cons (ps_expr (pe_call (ok_begD T) hr (by rfl) T.g_lbegin T.F_lbegin.kp T.b_lbegin .nil pass0 (pa_cons (pv 0) pa_nil)))
      (pss_one (ps_ret (pv 1))))))), ?_⟩
    have l2 := S.l2
    have l8 := S.l8
    obtain ⟨kvs, k1, k2, k3, k4, k5, k6, k7⟩ := S.dic
    refine ⟨_, rfl, hd, _, rfl, get_of k1 k6 rfl, _, _, rfl, rfl, _, rfl, hd, _, rfl, .inl ⟨kvs, kT, k1, rfl, small1000 (by omega), rfl⟩, ?_⟩
    have eS : dyS ds s = ⟨s.day + 1, bgH (enH ds.length (s.day + 1) s.hp s.cu) (enC (s.day + 1) s.cu), bgC ds (s.day + 1) (enH ds.length (s.day + 1) s.hp s.cu) (enC (s.day + 1) s.cu)⟩ := rfl
    rw [eS] at q
    have S1 := S.tick k1 (s.day + 1)
    show tSeq _ _ _ [some (.ref hd), none, none, none, none, none] (upd H hd (.dK (putK kvs kT (.int (s.day + 1)))))
    generalize s.day + 1 = day at S1 q ⊢
    have kp1 : KpD hd rd ha H (upd H hd (.dK (putK kvs kT (.int day)))) := fun x o h n _ _ => by rw [upd_ne n]; exact h
    have fr1 : ∀ x, (upd H hd (.dK (putK kvs kT (.int day)))) x = none → H x = none := fun x h => by
      cases e : H x with
      | none => rfl
      | some o =>
        by_cases z : x = hd
        · subst z
          rw [upd_same] at h
          cases h
        · rw [upd_ne z, e] at h
          cases h
    generalize (upd H hd (.dK (putK kvs kT (.int day)))) = H1 at S1 kp1 fr1 ⊢
    obtain ⟨kvs1, k11, k12, k13, k14, k15, k16, k17⟩ := S1.dic
    refine ⟨Nat.zero_le _, fun le hle => ?_⟩
    have hleH := fr1 le hle
    have s2 := same_upd (o := .lst []) hle
    have nle : le ≠ ld ∧ le ≠ hl ∧ le ≠ rd ∧ le ∉ ha := ⟨(ne_of_none S1.old hle).symm, (ne_of_none S1.ohl hle).symm, (ne_of_none S1.ord hle).symm, fun m => by
      obtain ⟨j, hj⟩ := List.getElem?_of_mem m
      exact ne_of_none (S1.hv j le hj) hle rfl⟩
    have nled : le ≠ hd := (ne_of_none k11 hle).symm
    have S2 := S1.same s2
    have kp2 : KpD hd rd ha H (upd H1 le (.lst [])) := kp1.trans (Same.kpd s2)
    have hle2 : (upd H1 le (.lst [])) le = some (.lst []) := upd_same
    generalize (upd H1 le (.lst [])) = H2 at S2 kp2 hle2 ⊢
    obtain ⟨kvs2, k21, k22, k23, k24, k25, k26, k27⟩ := S2.dic
    refine ⟨_, rfl, hd, _, rfl, get_of k21 k23 rfl, ld, _, rfl, .inl (.of S2.old), _, _, rfl, ?_⟩
    rw [List.length_map]
    refine ⟨_, rfl, _, rfl, by omega, by omega, ?_⟩
    refine for_range (lo := 0) (n := ((ds.length : Nat) : Int).toNat) (fun i σ H' => (∃ z3, σ = [some (.ref hd), some (.ref le), some (.int ds.length), z3, none, none]) ∧ KpD hd rd ha H H' ∧
      ∃ cs' xs, DcT H' hd ld hl rd ha cs' ds day coming s.hp (fun j => if j < i then enC day s.cu j else s.cu j) ∧ H' le = some (.lst xs) ∧ Tups H' xs (enL day s.cu i))
      ⟨⟨_, rfl⟩, kp2, cs, [], S2.ext (fun _ _ => rfl) (fun j _ => if_neg (Nat.not_lt_zero _)), hle2, .nil⟩ ?_ ?_
    · rintro i σ H3 hi ⟨⟨z3, rfl⟩, kp, cs1, xs, S3, hxs, TT⟩
      have hi' : i < ds.length := by omega
      have ei : (0 : Int) + (i : Int) = i := by omega
      show tIfS _ _ _ _ [some (.ref hd), some (.ref le), some (.int ds.length), some (.int (0 + (i : Int))), none, none] H3
      rw [ei]
      obtain ⟨kvs3, k31, k32, k33, k34, k35, k36, k37⟩ := S3.dic
      obtain ⟨cv, gc⟩ : ∃ v, cs1[i]? = some v := ⟨_, List.getElem?_eq_getElem (by rw [S3.lc]; exact hi')⟩
      have hcv := S3.cv i cv gc
      simp only [Nat.lt_irrefl, if_false] at hcv
      have gv := S3.ord
      have hat : atI cs1 (i : Int) = some cv := atI_nat gc
      have lx : xs.length ≤ i := by rw [TT.length]; exact enL_len _ _ _
      have stay : enB day s.cu i = none → (∃ z3, ([some (.ref hd), some (.ref le), some (.int ds.length), some (.int (i : Int)), none, none] : L2.St) = [some (.ref hd), some (.ref le), some (.int ds.length), z3, none, none]) ∧ KpD hd rd ha H H3 ∧ ∃ cs' xs, DcT H3 hd ld hl rd ha cs' ds day coming s.hp (fun j => if j < i + 1 then enC day s.cu j else s.cu j) ∧ H3 le = some (.lst xs) ∧ Tups H3 xs (enL day s.cu (i + 1)) := fun e1 => by
        refine ⟨⟨_, rfl⟩, kp, cs1, xs, S3.ext (fun _ _ => rfl) (fun j _ => ?_), hxs, by rw [enL_suc, e1]; show Tups H3 xs (_ ++ []); rw [List.append_nil]; exact TT⟩
        by_cases h1 : j < i
        · rw [if_pos h1, if_pos (by omega)]
        · by_cases h2 : j = i
          · rw [h2, if_pos (by omega), if_neg (by omega)]
            unfold enC
            rw [e1]
            rfl
          · rw [if_neg (by omega), if_neg h1]
      refine ⟨_, rfl, hd, _, rfl, get_of k31 k35 rfl, _, rfl, rd, cs1, _, cv, rfl, rfl, .of gv, hat, rfl, _, rfl, ?_⟩
      cases ecu : s.cu i with
      | none =>
        rw [ecu] at hcv
        have hcv : cv = .non := hcv
        subst hcv
        exact iteF (iteF (stay (by unfold enB; rw [ecu])))
      | some be =>
        obtain ⟨b, e⟩ := be
        rw [ecu] at hcv
        obtain ⟨tc, rfl, htc⟩ := hcv
        refine iteT ?_
        refine ⟨_, rfl, hd, _, rfl, get_of k31 k35 rfl, _, rfl, rd, cs1, _, _, rfl, rfl, .of gv, hat, tc, _, 1, _, rfl, rfl, .of htc, atI_nat (j := 1) rfl, _, rfl, hd, _, rfl, get_of k31 k36 rfl, rfl, _, rfl, ?_⟩
        by_cases ed : e = day
        · subst ed
          rw [decide_eq_true rfl]
          have eb : enB e s.cu i = some b := by unfold enB; rw [ecu]; exact if_pos rfl
          refine iteT ?_
          refine ⟨_, rfl, .inl ⟨rfl, _, SqL.of hxs⟩, _, rfl, hd, _, rfl, get_of k31 k36 rfl, _, rfl, _, rfl, hd, _, rfl, get_of k31 k35 rfl, _, rfl, rd, cs1, _, _, rfl, rfl, .of gv, hat, tc, _, 0, _, rfl, rfl, .of htc, atI_nat (j := 0) rfl, (by show 3 ≤ sizeLine; decide), fun t2 ht2 => ?_⟩
          have s4 := same_upd (o := .tup [.int e, .int (i : Int), .int b]) ht2
          have g2 : (upd H3 t2 (.tup [.int e, .int (i : Int), .int b])) t2 = some (.tup [.int e, .int (i : Int), .int b]) := upd_same
          have S4 := S3.same s4
          have T4 : Tups (upd H3 t2 (.tup [.int e, .int (i : Int), .int b])) xs (enL e s.cu i) := TT.mono fun _ _ h => s4 _ _ h
          have hxs4 := s4 _ _ hxs
          have kp4 : KpD hd rd ha H (upd H3 t2 (.tup [.int e, .int (i : Int), .int b])) := kp.trans (Same.kpd s4)
          generalize (upd H3 t2 (.tup [.int e, .int (i : Int), .int b])) = H4 at g2 S4 T4 hxs4 kp4 ⊢
          refine ⟨le, xs, _, rfl, rfl, hxs4, small1000 (by omega), ?_⟩
          have S5 := S4.oth (l' := xs ++ [V.ref t2]) hxs4 nle.1 nle.2.1 nle.2.2.1 nle.2.2.2
          have tk5 : ∀ c ys, H4 c = some (.tup ys) → (upd H4 le (.lst (xs ++ [V.ref t2]))) c = some (.tup ys) := fun c ys h => (upd_ne (ne_of h hxs4 (by intro z; cases z))).trans h
          have T5 : Tups (upd H4 le (.lst (xs ++ [V.ref t2]))) (xs ++ [V.ref t2]) (enL e s.cu (i + 1)) := by
            rw [enL_suc, eb]
            exact Tups.snoc (l := [e, (i : Int), b]) ⟨t2, rfl, tk5 _ _ g2⟩ (T4.mono tk5)
          have gle : (upd H4 le (.lst (xs ++ [V.ref t2]))) le = some (.lst (xs ++ [V.ref t2])) := upd_same
          have kp5 : KpD hd rd ha H (upd H4 le (.lst (xs ++ [V.ref t2]))) := fun x o h n1 n2 n3 => (upd_ne (ne_of_none h hleH)).trans (kp4 x o h n1 n2 n3)
          generalize (upd H4 le (.lst (xs ++ [V.ref t2]))) = H5 at S5 T5 gle kp5 ⊢
          obtain ⟨kvs5, k51, k52, k53, k54, k55, k56, k57⟩ := S5.dic
          refine ⟨_, rfl, hd, _, rfl, get_of k51 k55 rfl, _, rfl, rd, cs1, _, i, rfl, rfl, S5.ord, ixN_nat (by rw [S3.lc]; exact hi'), ?_⟩
          have S6 := S5.putC (k := i) (v := .non) (o := none) rfl
          refine ⟨⟨_, rfl⟩, fun x o h n1 n2 n3 => (upd_ne n2).trans (kp5 x o h n1 n2 n3), _, _, S6.ext (fun _ _ => rfl) (fun j _ => ?_), (upd_ne nle.2.2.1).trans gle, T5.mono fun c ys h => (upd_ne (ne_of h S5.ord (by intro z; cases z))).trans h⟩
          by_cases h1 : j = i
          · rw [if_pos h1, h1, if_pos (Nat.lt_succ_self _)]
            unfold enC
            rw [eb]
            rfl
          · rw [if_neg h1]
            by_cases h2 : j < i
            · rw [if_pos h2, if_pos (by omega)]
            · rw [if_neg h2, if_neg (by omega)]
        · rw [decide_eq_false (fun z => ed (V.int.inj z))]
          exact iteF (stay (by unfold enB; rw [ecu]; exact if_neg ed))
    · rintro σ H3 ⟨⟨z3, rfl⟩, kp, cs1, xs, S3, hxs, TT⟩
      rw [show ((ds.length : Nat) : Int).toNat = ds.length by omega] at S3 TT
      have lx := TT.length
      have em := enL_map day s.cu ds.length
      have lk : xs.length = (enK day s.cu ds.length).length := by rw [lx, em, List.length_map]
      refine ⟨_, rfl, le, rfl, ⟨_, .of hxs⟩, for_list (K := K) (a := le) (xs := xs) (fun n σ H' => (∃ z3 z4 z5, σ = [some (.ref hd), some (.ref le), some (.int ds.length), z3, z4, z5]) ∧ KpD hd rd ha H H' ∧
        DcT H' hd ld hl rd ha cs1 ds day coming (fun j => s.hp j ++ (if prv ds.length j ∈ (enK day s.cu ds.length).take n then (enB day s.cu (prv ds.length j)).toList else [])) (enC day s.cu) ∧ H' le = some (.lst xs) ∧ Tups H' xs (enL day s.cu ds.length))
        ⟨⟨_, _, _, rfl⟩, kp, S3.ext (fun j _ => ?_) (fun j hj => (if_pos hj).symm), hxs, TT⟩ (fun i σ H' _ p => .of p.2.2.2.1) ?_ ?_⟩
      · rw [if_neg (by simp), List.append_nil]
      · rintro n x σ H4 hx ⟨⟨z3, z4, z5, rfl⟩, kp4, S4, hxs4, T4⟩
        have hn : n < xs.length := (List.getElem?_eq_some_iff.mp hx).1
        obtain ⟨k, hk⟩ : ∃ k, (enK day s.cu ds.length)[n]? = some k := ⟨_, List.getElem?_eq_getElem (by omega)⟩
        have hl4 : (enL day s.cu ds.length)[n]? = some [day, (k : Int), (enB day s.cu k).getD 0] := by rw [em, List.getElem?_map, hk]; rfl
        obtain ⟨t, a1, a2⟩ := T4.get hl4
        rw [a1] at hx
        cases hx
        obtain ⟨kNl, kE⟩ := enK_mem.mp (List.mem_of_getElem? hk)
        obtain ⟨bk0, hbk⟩ := Option.isSome_iff_exists.mp kE
        rw [hbk] at a2
        have a2 : H4 t = some (.tup [.int day, .int (k : Int), .int bk0]) := a2
        have hnot := take_mem enK_nodup hk
        obtain ⟨kvs4, k41, k42, k43, k44, k45, k46, k47⟩ := S4.dic
        have xN := nx_lt kNl
        obtain ⟨a, ga⟩ : ∃ a, ha[Rp.nx ds.length k]? = some a := ⟨_, List.getElem?_eq_getElem (by rw [S4.lh]; exact xN)⟩
        have am := List.mem_of_getElem? ga
        have gx := S4.hv _ a ga
        simp only [prv_nx kNl, if_neg hnot, List.append_nil] at gx
        have hatA : atI (ha.map V.ref) (((k : Int) + 1) % (ds.length : Int)) = some (.ref a) := by
          rw [nx_mod kNl]
          exact atI_nat (by rw [List.getElem?_map, ga]; rfl)
        refine ⟨t, _, rfl, .of a2, rfl, _, _, rfl, _, _, rfl, _, _, rfl, rfl, ?_⟩
        refine ⟨_, rfl, hd, _, rfl, get_of k41 k44 rfl, _, rfl, _, _, rfl, rfl, .inl ⟨_, rfl, _, rfl, _, _, rfl, rfl, by show (0 : Int) < ((ds.length : Nat) : Int); omega, hl, _, _, _, rfl, rfl, .of S4.ohl, hatA, .inl ⟨rfl, _, SqL.of gx⟩, _, rfl, a, _, _, rfl, rfl, gx, ?_, ?_⟩⟩
        · rw [List.length_map]
          have := h9 _ xN
          exact small1000 (by omega)
        · have S5 := S4.putH (k := Rp.nx ds.length k) (l := (s.hp (Rp.nx ds.length k)).map V.int ++ [V.int bk0]) (ws := s.hp (Rp.nx ds.length k) ++ [bk0]) ga (by rw [List.map_append]; rfl) (by have := h9 _ xN; rw [List.length_append]; show _ + 1 ≤ 900; omega)
          have nin : ∀ {x : Addr}, x ∉ ha → x ≠ a := fun n z => by
            subst z
            exact n am
          refine ⟨⟨_, _, _, rfl⟩, fun x o h n1 n2 n3 => (upd_ne (nin n3)).trans (kp4 x o h n1 n2 n3), S5.ext (fun j hj => ?_) (fun _ _ => rfl), (upd_ne (nin nle.2.2.2)).trans hxs4, T4.mono fun b ys h => (upd_ne (ne_of h gx (by intro z; cases z))).trans h⟩
          by_cases h1 : j = Rp.nx ds.length k
          · rw [if_pos h1, h1, prv_nx kNl, if_pos ((take_suc hk).mpr (.inr rfl)), hbk]
            rfl
          · rw [if_neg h1]
            have hp : prv ds.length j ≠ k := fun z => h1 (prv_inj hj kNl z)
            by_cases h2 : prv ds.length j ∈ (enK day s.cu ds.length).take n
            · rw [if_pos h2, if_pos ((take_suc hk).mpr (.inl h2))]
            · rw [if_neg h2, if_neg fun z => ((take_suc hk).mp z).elim h2 hp]
      · rintro σ H4 ⟨⟨z3, z4, z5, rfl⟩, kp4, S4, hxs4, T4⟩
        rw [lk, List.take_length] at S4
        have S5 := S4.ext (hp' := enH ds.length day s.hp s.cu) (cu' := enC day s.cu) (fun j hj => by
          unfold enH
          by_cases m : prv ds.length j ∈ enK day s.cu ds.length
          · rw [if_pos m]
          · rw [if_neg m]
            cases e : enB day s.cu (prv ds.length j) with
            | none => rfl
            | some b => exact absurd (enK_mem.mpr ⟨prv_lt hj, by rw [e]; rfl⟩) m) (fun _ _ => rfl)
        refine ⟨_, rfl, hd, ld, hl, rd, ha, cs1, ds, day, coming, _, _, rfl, S5, fun H5 cs5 kp5 S6 => ?_⟩
        exact ⟨_, rfl, q H5 cs5 le xs (kp4.trans (KpO.kpd kp5)) S6 hleH (kp5 _ _ hxs4 nle.2.2.1 nle.2.2.2) (T4.mono fun b ys h => kp5 _ _ h (ne_of h S5.ord (by intro z; cases z)) fun m => by
          obtain ⟨j, hj⟩ := List.getElem?_of_mem m
          exact ne_of h (S5.hv j b hj) (by intro z; cases z) rfl)⟩
end
end Rp
/-! The law's own ring in a dict: _law_first. -/
namespace Rp
open PySem PySem.Spec PyProof.Rows L2 Rz Rm
section
variable {P : Program} {w : World} {K : PySem.W.Frag} {mg : Str → Option Value} {base : Heap}
def spFirstD : Sp := fun vs H Q _ => ∃ (t td ts : Addr) (ds ss : List Int), vs = [.ref t] ∧ H t = some (.tup [.ref td, .ref ts]) ∧ H td = some (.tup (ds.map V.int)) ∧ H ts = some (.tup (ss.map V.int)) ∧ Good ds ss ∧
  ∀ (H' : Hp) (hd ld hl rd : Addr) (ha : List Addr) (cs : List V), Same H H' → (H hd = none ∧ H ld = none ∧ H hl = none ∧ H rd = none ∧ ∀ a ∈ ha, H a = none) →
    DcT H' hd ld hl rd ha cs ds 0 ss.sum (bgH (h0F ss) (fun _ => none)) (bgC ds 0 (h0F ss) (fun _ => none)) → Q (.ref hd) H'
theorem ok_firstD (T : Tx K mg) : FnOk P w K mg base CX0 3 T.a_lfirst T.d_lfirst P_lfirst spFirstD := by
  refine T.F_lfirst.ok sc_lfirst (fun vs H Q E h => ?_) (fun cdv A outer s H vs Q E hr h => ?_)
  · obtain ⟨t, td, ts, ds, ss, rfl, _⟩ := h
    rfl
  · obtain ⟨t, td, ts, ds, ss, rfl, ht, htd, hts, G, q⟩ := h
    have nd := sc_lfirst.nd
    have hu1 : (cxOf CX0 P w K mg base N_lfirst "_law_first" (defScope s_lfirst) T.a_lfirst cdv A outer s H E).nox.A.units + 1 < cLine := Nat.lt_of_le_of_lt (Nat.add_le_add_left (by decide : 1 ≤ 64) _) hr.units
    refine ⟨_, pss_cons (ps_asg (pv 0) (pg_tup rfl (pgs_cons (pg_name (i := 1) nd rfl (.inl rfl)) (pgs_cons (pg_name (i := 2) nd rfl (.inl rfl)) pgs_nil))))
      (pss_cons (ps_set (i := 3) nd rfl (.inl rfl) (pe_disp (pps_cons pe_str (pe_callTy call_list_of (by rfl) T.z_list (by decide +kernel) (pa_cons (pv 1) pa_nil)) (pps_cons pe_str (pe_lst pa_nil)
          (pps_cons pe_str (pe_op op_rep (pe_lst (pa_cons pe_non pa_nil)) (pe_callB call_len_seq (by rfl) T.z_len PySem.boot_len (pa_cons (pv 1) pa_nil))) (pps_cons pe_str pe_int
          (pps_cons pe_str (pe_callB (cr_sumT rfl) (by rfl) T.z_sum (by decide +kernel) (pa_cons (pv 2) pa_nil)) pps_nil))))) (by rfl) (by rfl) (fun z => by cases z) (by decide)))
      (pss_cons (ps_set (i := 4) nd rfl (.inl rfl) pe_int)
      (pss_cons (ps_for PassesOwn.never rfl (pi_tup (pv 2)) (pg_name (i := 5) nd rfl (.inl rfl))
        (pss_cons (ps_expr (pe_bm PySem.F.plainAttrs_list PySem.F.slot_list_append PySem.F.type_list_append mt_append (pe_dget hu1 (pv 3) pe_str (fun _ _ => rfl)) (pa_cons (pe_listRg rfl (by rfl) T.z_list (prg_2 (by rfl) T.z_range (pv 4) (pe_op op_add (pv 4) (pv 5)))) pa_nil)))
        (pss_one (ps_set (i := 4) nd rfl (.inl rfl) (pe_op op_add (pv 4) (pv 5))))))
      (pss_cons (ps_expr (pe_call (ok_begD T) hr (by rfl) T.g_lbegin T.F_lbegin.kp T.b_lbegin .nil pass0 (pa_cons (pv 3) pa_nil)))
      (pss_one (ps_ret (pv 3))))))), ?_⟩
    have l2 := G.l2
    have l8 := G.l8
    have ls := G.ls
    have b12 := G.b12
    refine ⟨_, rfl, t, _, rfl, .of ht, rfl, _, _, rfl, _, _, rfl, rfl, ?_⟩
    refine fun hd hhd => ?_
    have s1 := same_upd (o := .dK []) hhd
    have g1 : (upd H hd (.dK [])) hd = some (.dK []) := upd_same
    show tPairs _ _ (upd H hd (.dK [])) _
    generalize (upd H hd (.dK [])) = H1 at s1 g1
    refine ⟨_, rfl, td, _, rfl, .inr (.of (s1 _ _ htd)), fun ld hld => ?_⟩
    have s2 := same_upd (o := .lst (ds.map V.int)) hld
    have g2 : (upd H1 ld (.lst (ds.map V.int))) ld = some (.lst (ds.map V.int)) := upd_same
    generalize (upd H1 ld (.lst (ds.map V.int))) = H2 at s2 g2
    refine ⟨Nat.zero_le _, fun hl hhl => ?_⟩
    have s3 := same_upd (o := .lst []) hhl
    have g3 : (upd H2 hl (.lst [])) hl = some (.lst []) := upd_same
    generalize (upd H2 hl (.lst [])) = H3 at s3 g3
    refine ⟨(by show 1 ≤ sizeLine; decide), fun l0 hl0 => ?_⟩
    have s4 := same_upd (o := .lst [.non]) hl0
    have g4 : (upd H3 l0 (.lst [.non])) l0 = some (.lst [.non]) := upd_same
    generalize (upd H3 l0 (.lst [.non])) = H4 at s4 g4
    have s04 : Same H H4 := ((s1.trans s2).trans s3).trans s4
    refine ⟨_, rfl, td, _, rfl, .inr (.of (s04 _ _ htd)), l0, _, _, rfl, rfl, g4, ?_, ?_, ?_, fun rd hrd => ?_⟩
    · omega
    · rw [List.length_map]
      omega
    · rw [List.length_map]
      show 1 * _ ≤ sizeLine
      have := small1000 (n := 1 * ((ds.length : Nat) : Int).toNat) (by omega)
      omega
    rw [rep_one, List.length_map, show ((ds.length : Nat) : Int).toNat = ds.length by omega]
    have s5 := same_upd (o := .lst (List.replicate ds.length V.non)) hrd
    have g5 : (upd H4 rd (.lst (List.replicate ds.length V.non))) rd = some (.lst (List.replicate ds.length V.non)) := upd_same
    generalize (upd H4 rd (.lst (List.replicate ds.length V.non))) = H5 at s5 g5
    have s05 := s04.trans s5
    have k5 : H5 hd = some (.dK []) := s5 _ _ (s4 _ _ (s3 _ _ (s2 _ _ g1)))
    refine ⟨_, rfl, ts, ss, rfl, .of (s05 _ _ hts), k5, [(kD, .ref ld), (kH, .ref hl), (kR, .ref rd), (kT, .int 0), (kN, .int ss.sum)], rfl, (by show 5 ≤ 15; decide), ?_⟩
    obtain ⟨kvs, hk⟩ : ∃ kvs, kvs = mergeK [] [(kD, V.ref ld), (kH, .ref hl), (kR, .ref rd), (kT, .int 0), (kN, .int ss.sum)] := ⟨_, rfl⟩
    have hk' : kvs = putK (putK (putK (putK (putK [] kD (V.ref ld)) kH (.ref hl)) kR (.ref rd)) kT (.int 0)) kN (.int ss.sum) := hk
    have vD : valV kvs kD = some (.ref ld) := by
      rw [hk', valV_put, if_neg (by decide +kernel), valV_put, if_neg (by decide +kernel), valV_put, if_neg (by decide +kernel), valV_put, if_neg (by decide +kernel), valV_put, if_pos rfl]
    have vH : valV kvs kH = some (.ref hl) := by
      rw [hk', valV_put, if_neg (by decide +kernel), valV_put, if_neg (by decide +kernel), valV_put, if_neg (by decide +kernel), valV_put, if_pos rfl]
    have vR : valV kvs kR = some (.ref rd) := by
      rw [hk', valV_put, if_neg (by decide +kernel), valV_put, if_neg (by decide +kernel), valV_put, if_pos rfl]
    have vT : valV kvs kT = some (.int 0) := by
      rw [hk', valV_put, if_neg (by decide +kernel), valV_put, if_pos rfl]
    have vN : valV kvs kN = some (.int ss.sum) := by
      rw [hk', valV_put, if_pos rfl]
    have lk : kvs.length ≤ 5 := by
      rw [hk']
      have a1 := put_len ([] : List (Key × V)) kD (V.ref ld)
      have a2 := put_len (putK [] kD (V.ref ld)) kH (.ref hl)
      have a3 := put_len (putK (putK [] kD (V.ref ld)) kH (.ref hl)) kR (.ref rd)
      have a4 := put_len (putK (putK (putK [] kD (V.ref ld)) kH (.ref hl)) kR (.ref rd)) kT (.int 0)
      have a5 := put_len (putK (putK (putK (putK [] kD (V.ref ld)) kH (.ref hl)) kR (.ref rd)) kT (.int 0)) kN (.int ss.sum)
      have a0 : ([] : List (Key × V)).length = 0 := rfl
      omega
    rw [← hk]
    have k6 : ∀ {x o}, H5 x = some o → x ≠ hd → (upd H5 hd (.dK kvs)) x = some o := fun h n => by rw [upd_ne n]; exact h
    have n1 : ld ≠ hd := (ne_of_none g1 hld).symm
    have n2 : hl ≠ hd := (ne_of_none (s2 _ _ g1) hhl).symm
    have n3 : rd ≠ hd := (ne_of_none (s4 _ _ (s3 _ _ (s2 _ _ g1))) hrd).symm
    have gld := k6 (s5 _ _ (s4 _ _ (s3 _ _ g2))) n1
    have ghl := k6 (s5 _ _ (s4 _ _ g3)) n2
    have grd := k6 g5 n3
    have ghd : (upd H5 hd (.dK kvs)) hd = some (.dK kvs) := upd_same
    have s06 : Same H (upd H5 hd (.dK kvs)) := fun x o h => k6 (s05 _ _ h) (ne_of_none h hhd)
    have nlh : ld ≠ hl := ne_of_none g2 hhl
    have nlr : ld ≠ rd := ne_of_none (s4 _ _ (s3 _ _ g2)) hrd
    have nhr : hl ≠ rd := ne_of_none (s4 _ _ g3) hrd
    have dn : ∀ {H' : Hp} {x : Addr}, Same H H' → H' x = none → H x = none := fun {H' x} s h => by
      cases e : H x with
      | none => rfl
      | some o =>
        have := s _ _ e
        rw [h] at this
        cases this
    have f1 := dn s1 hld
    have f2 := dn (s1.trans s2) hhl
    have f3 := dn s04 hrd
    show tSeq _ _ _ [some (.ref t), some (.ref td), some (.ref ts), some (.ref hd), none, none] (upd H5 hd (.dK kvs))
    generalize (upd H5 hd (.dK kvs)) = H6 at gld ghl grd ghd s06
    have hts6 := s06 _ _ hts
    refine ⟨_, rfl, ts, rfl, ⟨_, .of hts6⟩, for_tup (K := K) (a := ts) (xs := ss.map V.int) (fun i σ H' => (∃ z5, σ = [some (.ref t), some (.ref td), some (.ref ts), some (.ref hd), some (.int (ss.take i).sum), z5]) ∧ (∀ x o, H6 x = some o → x ≠ hl → H' x = some o) ∧
      ∃ ha : List Addr, H' hl = some (.lst (ha.map V.ref)) ∧ ha.length = i ∧ ha.Nodup ∧ (∀ a ∈ ha, H6 a = none) ∧ ∀ (j : Nat) (a : Addr), ha[j]? = some a → H' a = some (.lst ((h0F ss j).map V.int)))
      ⟨⟨none, rfl⟩, fun x o h _ => h, [], ghl, rfl, List.nodup_nil, fun a m => absurd m List.not_mem_nil, fun j a h => by simp at h⟩ (fun i σ H' _ p => .of (p.2.1 _ _ hts6 (ne_of hts6 ghl (by intro z; cases z)))) ?_ ?_⟩
    · rintro i x σ H7 hx ⟨⟨z5, rfl⟩, kp, ha, hha, lha, dha, fha, oha⟩
      obtain ⟨z, hz, rfl⟩ := get_int hx
      have hi : i < ss.length := (List.getElem?_eq_some_iff.mp hz).1
      have ez : at' ss i = z := at_nat hz
      have hz12 := G.s0 z (List.mem_of_getElem? hz)
      have hb := take_le (l := ss) (fun y hy => (G.s0 y hy).1) i
      have g7 := kp _ _ ghd n2.symm
      obtain ⟨bk0, hbk⟩ : ∃ b, b = (ss.take i).sum := ⟨_, rfl⟩
      show tSeq _ _ _ [some (.ref t), some (.ref td), some (.ref ts), some (.ref hd), some (.int (ss.take i).sum), some (.int z)] H7
      rw [← hbk] at hb ⊢
      refine ⟨_, rfl, hd, _, rfl, get_of g7 vH rfl, .inl ⟨rfl, _, SqL.of hha⟩, _, rfl, _, rfl, _, rfl, _, _, rfl, rfl, _, _, rfl, rfl, ⟨by omega, by omega, by omega, by omega, by omega⟩, fun L hL => ?_⟩
      have s8 := same_upd (o := .lst (rgV bk0 (bk0 + z))) hL
      have eL : rgV bk0 (bk0 + z) = (h0F ss i).map V.int := h0_rg hbk.symm ez
      have nL : L ≠ hl := (ne_of_none hha hL).symm
      refine ⟨hl, _, _, rfl, rfl, s8 _ _ hha, by rw [List.length_map]; exact small1000 (by omega), ?_⟩
      refine ⟨_, rfl, _, rfl, _, _, rfl, rfl, ?_⟩
      refine ⟨⟨_, by rw [take_succ hi, ← hbk, ez]; rfl⟩, fun x o h n => ?_, ha ++ [L], by rw [upd_same, List.map_append]; rfl, by rw [List.length_append, lha]; rfl, nodup_snoc dha fun m => ?_, fun a m => ?_, fun j a h => ?_⟩
      · rw [upd_ne n]
        exact s8 _ _ (kp _ _ h n)
      · obtain ⟨j, hj⟩ := List.getElem?_of_mem m
        have h1 := oha j L hj
        rw [h1] at hL
        cases hL
      · rcases List.mem_append.mp m with m | m
        · exact fha a m
        · have := List.mem_singleton.mp m
          subst this
          cases e : H6 a with
          | none => rfl
          | some o =>
            by_cases c : a = hl
            · exact absurd c nL
            · have := kp _ _ e c
              rw [hL] at this
              cases this
      · rcases get_snoc h with h | ⟨h1, rfl⟩
        · have h1 := oha j a h
          have : a ≠ hl := fun z => by
            have h3 := fha a (List.mem_of_getElem? h)
            rw [z, ghl] at h3
            cases h3
          rw [upd_ne this]
          exact s8 _ _ h1
        · rw [upd_ne nL, upd_same, h1, lha, eL]
    · rintro σ H7 ⟨⟨z5, rfl⟩, kp, ha, hha, lha, dha, fha, oha⟩
      rw [List.length_map] at lha
      have nn : ∀ {a x o}, a ∈ ha → H6 x = some o → a ≠ x := fun {a x o} m h z => by
        have := fha a m
        rw [z, h] at this
        cases this
      have S0 : DcT H7 hd ld hl rd ha (List.replicate ds.length V.non) ds 0 ss.sum (h0F ss) (fun _ => none) :=
        ⟨⟨kvs, kp _ _ ghd n2.symm, lk, vD, vH, vR, vT, vN⟩, kp _ _ gld nlh, hha, by omega, oha, kp _ _ grd nhr.symm, List.length_replicate, (fun j v h => by
          rw [List.getElem?_replicate] at h
          split at h
          · cases h
            rfl
          · cases h), nlh, nlr, nhr, fun a m => ⟨nn m gld, nn m ghl, nn m grd⟩, dha, l2, l8, fun j hj => by
          unfold h0F
          rw [List.length_map, List.length_range]
          have := (G.s0 _ (at_mem (by omega) (j : Int))).2
          omega⟩
      refine ⟨_, rfl, hd, ld, hl, rd, ha, _, ds, 0, ss.sum, _, _, rfl, S0, fun H8 cs8 kp8 S2 => ?_⟩
      refine ⟨_, rfl, q H8 hd ld hl rd ha cs8 (fun x o h => ?_) ⟨hhd, f1, f2, f3, fun a m => dn s06 (fha a m)⟩ S2⟩
      exact kp8 _ _ (kp _ _ (s06 _ _ h) (ne_of_none h f2)) (ne_of_none h f3) (fun m => by
        have := dn s06 (fha x m)
        rw [h] at this
        cases this)
end
end Rp
/-! x(e, *y), x a local name that holds one of several defs. -/
namespace Rz
open PySem PySem.Spec PyProof.Rows L2 StX
section
variable {X : Cx} {CX : CXT} {k i : Nat} {E : XK} {x : Str} {e : Expr} {es : List Expr} {t : TA} {p pos : Pos}
def tCallAS (i : Nat) (S : Addr → Option Sp) (E : XK) (t : TA) : TE := fun σ H Q => ∃ f sp, σ[i]? = some (some (.ref f)) ∧ S f = some sp ∧ t σ H fun vs H1 => sp vs H1 Q E
theorem pe_callAS {S : Addr → Option Sp} (A : ∀ f sp, S f = some sp → FnR X.prog X.w X.K X.mg X.base CX k f sp ∧ PySem.W.keepIn X.K (.ref f) = true) (hr : Room k X.A) (hN : X.N[i]? = some x) (hv : Vis X.env.scope x) (hx : Passes CX X E) (ha : PA X (e :: es) t)
    (hdb : (x == ("__debug__" : Str)) = false := by decide) (hcd : (x == ("__classdict__" : Str)) = false := by decide)
    (he : starEach (e :: es) X.env = (false, eval e X.env) :: starEach es X.env := by rfl) (hst : (backTo pos (starEach es X.env)).any (·.1) = true := by rfl) : PE X (.Call (.Name x p) (e :: es) [] pos) (tCallAS i S E t) := by
  refine ⟨fun pins s σ H Q I h => ?_⟩
  obtain ⟨f, sp, hs, hS, ht⟩ := h
  obtain ⟨F, hk⟩ := A f sp hS
  refine wpAny_Call_Name_kw (thn ((pe_var (pos := p) hN hv hdb hcd).run pins s σ H (fun v H1 => v = .ref f ∧ H1 = H) I ⟨.ref f, hs, rfl, rfl⟩) fun u s1 ⟨v, H1, I1, r1, q1⟩ => ?_)
  obtain ⟨rfl, rfl⟩ := q1
  cases r1
  refine PySem.W.callWith_S2 (h₀ := X.base) I.ok.mod.kin hk (thn (ha.run pos pins s1 σ _ _ I1 ht) fun us s2 ⟨vs, H2, I2, r, q⟩ => ⟨I2.kIn, ?_⟩) he hst
  exact wpAny_call (run_fnR F hr hx I2 r q)
end
end Rz
/-! Live rings: is_operation. -/
namespace Rp
open PySem PySem.Spec PyProof.Rows L2 Rz Rm
/-- a value is an operation, or not; dB: the number of arguments by name -/
def OpV (K : PySem.W.Frag) (dB : Addr) (H : Hp) (v : V) (b : Bool) : Prop :=
  (∃ (t : Addr) (nm : Str) (args : List V) (ds : List PyData) (r : Option Value), v = .ref t ∧ H t = some (.tup (.str nm :: args)) ∧ Dp K H v (.tuple (.str nm :: ds)) ∧ SeqAt.shaped (.tuple (.str nm :: ds)) = true ∧ PySem.W.nsIn K dB nm = some r ∧
    (r = none → b = false) ∧ ∀ u, r = some u → ∃ (c : Int) (tk : Tok), u = .int c tk ∧ b = decide (((args.length + 1 : Nat) : Int) = 1 + c)) ∨
  (b = false ∧ ((∃ t : String, TyX K H v (.type t) ∧ kitB t "tuple" = some false) ∨ (∃ t, v = .ref t ∧ H t = some (.tup [])) ∨
    ∃ (t : Addr) (x : V) (xs : List V) (d : PyData) (ds : List PyData) (ty : String), v = .ref t ∧ H t = some (.tup (x :: xs)) ∧ Dp K H v (.tuple (d :: ds)) ∧ SeqAt.shaped (.tuple (d :: ds)) = true ∧ (∀ H', Same H H' → TyX K H' x (.type ty)) ∧ kitB ty "str" = some false))
theorem sh_unit : SeqAt.shaped (.tuple []) = true := by decide +kernel
section
variable {P : Program} {w : World} {K : PySem.W.Frag} {mg : Str → Option Value} {base : Heap}
def spIsOp (K : PySem.W.Frag) (dB : Addr) : Sp := fun vs H Q _ => ∃ (v : V) (b : Bool), vs = [v] ∧ OpV K dB H v b ∧ (∀ H', Same H H' → ∀ d, Dp K H v d → Dp K H' v d) ∧ ∀ H', Same H H' → Q (.bl b) H'
theorem ok_isop {dB : Addr} {es : Array DictEntry} {n : Nat} (T : Tx K mg) (gB : mg "ARGUMENTS" = some (.ref dB)) (DB : KDict K w dB es n) : FnOk P w K mg base CX0 1 T.a_is_operation T.d_is_operation P_is_operation (spIsOp K dB) := by
  refine T.F_is_operation.ok sc_is_operation (fun vs H Q E h => ?_) (fun cdv A outer s0 H vs Q E hr h => ?_)
  · obtain ⟨v, b, rfl, _⟩ := h
    rfl
  · obtain ⟨v, b, rfl, hv, dk, q⟩ := h
    refine ⟨_, pss_cons (ps_if (PW.pt (pw_or (pt_not (pt_val (pe_callB call_isi (by rfl) T.z_isinstance (by decide +kernel) (pa_cons (pv 0) (pa_cons (pe_bltn (v := .ty "tuple") (u := .type "tuple") (by rfl) T.z_tuple (by decide +kernel) rfl) pa_nil)))))
        (pw_or (pt_cmpR (op_eqD hr.units) (pv 0) (pe_tup pa_nil) (nomark _))
        (pw_or1 (pt_not (pt_val (pe_callB call_isi (by rfl) T.z_isinstance (by decide +kernel) (pa_cons (pe_ix ix_tup (pv 0) pe_int (fun _ _ => rfl)) (pa_cons (pe_bltn (v := .ty "str") (u := .type "str") (by rfl) T.z_str (by decide +kernel) rfl) pa_nil))))))))) (pss_one (ps_ret pe_bl)) pss_nil)
      (pss_one (ps_ret (pe_and (pe_cmpR (op_in_kd DB) (pe_ix ix_tup (pv 0) pe_int (fun _ _ => rfl)) (pe_glob (v := .ref dB) (by rfl) gB rfl) (by rfl))
        (pe_one (pe_cmpR op_eq (pe_callB call_len_seq (by rfl) T.z_len PySem.boot_len (pa_cons (pv 0) pa_nil)) (pe_op op_add pe_int (pe_ix ix_kdict (pe_glob (v := .ref dB) (by rfl) gB rfl) (pe_ix ix_tup (pv 0) pe_int (fun _ _ => rfl)) (fun _ _ => rfl))) (nomark _)))))), ?_⟩
    rcases hv with ⟨t, nm, args, ds, r, rfl, ht, hd, hs, hr2, h1, h2⟩ | ⟨rfl, ⟨ty, hty, hk⟩ | ⟨t, rfl, ht⟩ | ⟨t, x, xs, d, ds, ty, rfl, ht, hd, hs, hx, hk⟩⟩
    · refine ⟨_, rfl, _, .ty "tuple", .type "tuple", .type "tuple", true, rfl, .ty _, .base (.tup ht), kit_ty (by decide +kernel), true, rfl, iteF ?_⟩
      refine ⟨_, rfl, Nat.zero_le _, fun e he => ?_⟩
      have s1 := same_upd (o := .tup []) he
      refine ⟨_, _, dk _ s1 _ hd, .tup (.of upd_same) .nil, hs, sh_unit, _, rfl, iteF ?_⟩
      have ht1 := s1 _ _ ht
      refine ⟨_, rfl, t, _, 0, _, rfl, rfl, .of ht1, atI_nat (j := 0) rfl, _, .ty "str", .type "str", .type "str", true, rfl, .ty _, .base (.str nm), kit_ty (by decide +kernel), true, rfl, iteF ?_⟩
      refine ⟨_, rfl, t, _, 0, _, rfl, rfl, .of ht1, atI_nat (j := 0) rfl, nm, r, rfl, rfl, hr2, ?_⟩
      cases r with
      | none =>
        rw [h1 rfl] at q
        exact ⟨false, rfl, iteF (q _ s1)⟩
      | some u =>
        obtain ⟨c, tk, rfl, rfl⟩ := h2 u rfl
        refine ⟨true, rfl, iteT ?_⟩
        refine ⟨_, rfl, t, _, rfl, .inr (.of ht1), _, rfl, t, _, 0, _, rfl, rfl, .of ht1, atI_nat (j := 0) rfl, dB, nm, .int c, rfl, rfl, ⟨es, n, _, DB.at_, DB.lit, hr2, ⟨tk, rfl⟩⟩, _, _, rfl, rfl, rfl, ?_⟩
        have e : decide (V.int (((V.str nm :: args).length : Nat) : Int) = V.int (1 + c)) = decide (((args.length + 1 : Nat) : Int) = 1 + c) := by
          rw [List.length_cons]
          by_cases z : ((args.length + 1 : Nat) : Int) = 1 + c
          · rw [decide_eq_true z, decide_eq_true (congrArg V.int z)]
          · rw [decide_eq_false z, decide_eq_false fun y => z (V.int.inj y)]
        rw [e]
        exact q _ s1
    · exact ⟨_, rfl, _, .ty "tuple", .type ty, .type "tuple", false, rfl, .ty _, hty, kit_ty hk, false, rfl, iteT (q H (Same.refl H))⟩
    · refine ⟨_, rfl, _, .ty "tuple", .type "tuple", .type "tuple", true, rfl, .ty _, .base (.tup ht), kit_ty (by decide +kernel), true, rfl, iteF ?_⟩
      refine ⟨_, rfl, Nat.zero_le _, fun e he => ?_⟩
      have s1 := same_upd (o := .tup []) he
      exact ⟨_, _, .tup (.of (s1 _ _ ht)) .nil, .tup (.of upd_same) .nil, sh_unit, sh_unit, _, rfl, iteT (q _ s1)⟩
    · refine ⟨_, rfl, _, .ty "tuple", .type "tuple", .type "tuple", true, rfl, .ty _, .base (.tup ht), kit_ty (by decide +kernel), true, rfl, iteF ?_⟩
      refine ⟨_, rfl, Nat.zero_le _, fun e he => ?_⟩
      have s1 := same_upd (o := .tup []) he
      refine ⟨_, _, dk _ s1 _ hd, .tup (.of upd_same) .nil, hs, sh_unit, _, rfl, iteF ?_⟩
      exact ⟨_, rfl, t, _, 0, _, rfl, rfl, .of (s1 _ _ ht), atI_nat (j := 0) rfl, _, .ty "str", .type ty, .type "str", false, rfl, .ty _, hx _ s1, kit_ty hk, false, rfl, iteT (q _ s1)⟩
end
end Rp
/-! x, *y = a tuple; o.m( *e), e a list. -/
namespace Rz
open PySem PySem.Spec PyProof.Rows L2
section
variable {P : Program} {w : World} {A : Around} {E : Value → Shared → Prop} {s : Shared}
theorem first_rest {l : Addr} {xs : Array Value} {u : Value} {us : List Value} {Q : List Value → Shared → Prop} (quiet : A.handled = none) (isT : IsTup s.heap l xs) (exs : xs.toList = u :: us) (few : xs.size ≤ 1000)
    (fin : ∀ (h2 : Heap) (tk : Nat), (∀ b o, s.heap.get? b = some o → h2.get? b = some o) → Q [u, .ref h2.objs.size] { s with heap := h2.push { cls := .type "list", data := .seq us.toArray }, toks := tk }) :
    wpAny (model P w) A (unpackItems (.ref l) 2 (some 1)) Q E s := by
  have lt : l < s.heap.objs.size := by
    obtain ⟨o, ho, _⟩ := isT
    exact Heap.lt_size ho
  have ne : l ≠ s.heap.objs.size := Nat.ne_of_lt lt
  have size : xs.size = us.length + 1 := by rw [← Array.length_toList, exs, List.length_cons]
  unfold unpackItems
  refine wpAny_bind ?_
  unfold notIterableAtAll
  refine wpAny_bind (wpAny_specialOf isT.typeIs PyProof.Rows.slot_tuple_iter.lookup (wpAny_pure ?_))
  simp only [Bool.false_eq_true, if_false]
  refine wpAny_bind (wpAny_holding (iter_tuple isT ?_))
  refine wpAny_bind (wpAny_holding (draw_tuple ne 1 0 _ _ ⟨_, Heap.get?_push_size _ rfl, rfl, rfl⟩ (isT.push _) (by omega) fun h1 it1 but => ?_))
  have isT1 : IsTup h1 l xs := (isT.push _).extBut but.extBut ne
  rw [Nat.zero_add] at it1
  obtain ⟨oi, hoi, _⟩ := id it1
  obtain ⟨ol, hol, _⟩ := id isT1
  rw [List.drop_zero]
  have one : (xs.toList.take 1).length = 1 := by rw [exs]; rfl
  rw [if_neg (show ¬ ((xs.toList.take 1).length < 1) by rw [one]; decide)]
  refine wpAny_bind (wpAny_holding (PySem.W.kun_collect (s := { s with heap := h1 }) (T := "tuple_iterator") (.inr (.inr (.inr rfl))) (Walks.tuple (A := A.in1) quiet s.heap.objs.size l ne xs) (fun j v st => st.1.typeIs) (k := 1) (by omega) ⟨it1, isT1⟩ (Heap.lt_size hoi) (Heap.lt_size hol) (fun h2 tk keep => ?_) (by rw [sizeLine_eq]; omega)))
  have tl : xs.toList.drop 1 = us := by rw [exs]; rfl
  have hd : xs.toList.take 1 = [u] := by rw [exs]; rfl
  rw [tl, hd]
  have e2 : us.length - (2 - 1 - 1) = us.length := by omega
  show wpAny _ _ (if us.length < 2 - 1 - 1 then _ else _) _ _ _
  rw [if_neg (by omega)]
  show wpAny _ _ (newList (us.take (us.length - (2 - 1 - 1))) >>= fun d => pure ([u] ++ [d] ++ us.drop (us.length - (2 - 1 - 1)))) _ _ _
  rw [e2, List.take_length, List.drop_length]
  have k1 : ∀ b o, s.heap.get? b = some o → h2.get? b = some o := fun b o hb => keep b o (Nat.ne_of_lt (Heap.lt_size hb)) (but.extBut b o (Nat.ne_of_lt (Heap.lt_size hb)) (Heap.get?_push_of_some _ hb))
  refine wpAny_bind (wpAny_newObj_type (wpAny_pure (fin h2 tk k1)) ?_)
  show us.length ≤ sizeLine
  rw [sizeLine_eq]
  omega
end
section
variable {X : Cx}
/-- x, *y = a tuple of at least one item -/
def gStar1 (K : PySem.W.Frag) (t1 t2 : TG) : TG := fun v σ H Q => ∃ (a : Addr) (x : V) (xs : List V), v = .ref a ∧ SqT K H a (x :: xs) ∧ xs.length < 900 ∧ ∀ D, H D = none → t1 x σ (upd H D (.lst xs)) fun σ2 H2 => t2 (.ref D) σ2 H2 Q
theorem pg_star1 {e1 e2 : Expr} {k : Nat} {pos : Pos} {t1 t2 : TG} (hc : X.calm = true) (h1 : PG X e1 t1) (h2 : PG X e2 t2) {q : Pos}
    (hn : (assignEach [e1, .Starred e2 q] X.env).length = 2 := by rfl) (hst : (assignEach [e1, .Starred e2 q] X.env).findIdx? (·.1) = some 1 := by rfl)
    (ha : (assignEach [e1, .Starred e2 q] X.env).map (·.2) = [assign e1 X.env, assign e2 X.env] := by rfl) : PG X (.Tuple [e1, .Starred e2 q] k pos) (gStar1 X.K t1 t2) := by
  refine ⟨fun pins s σ H v u Q I r hw => ?_⟩
  obtain ⟨a, x, xs, rfl, hq, few, hw⟩ := hw
  cases r
  obtain ⟨its, rv, isT, hz⟩ := I.tuple hq
  cases rv with
  | cons rx rr =>
    rename_i ux us
    rw [arm_assign_Tuple]
    refine wpAny_bind (wpAny_standAt ?_)
    unfold unpack
    rw [hn, hst, ha]
    have lenr := rr.length
    refine wpAny_bind (wpAny_holding (first_rest (u := ux) (us := us) (I.ok.hd hc) isT (by simp) (by simp; omega) fun h' tk keep => ?_))
    have I0 : Inv X pins σ H { s with heap := h', toks := tk } := I.kept (t' := tk) keep
    have I1 : Inv X pins σ (upd H h'.objs.size (.lst xs)) { s with heap := h'.push { cls := .type "list", data := .seq us.toArray }, toks := tk } := I0.laid (t' := tk) (fun b o z => Heap.get?_push_of_some _ z) (Nat.le_refl _) ⟨by rw [sizeLine_eq]; omega, us, 0, rr, Heap.get?_push_size _ rfl⟩
    refine assignInOrder_cons (thn (h1.run pins _ σ _ x ux _ I1 rx (hw _ (I0.hok.fresh (Nat.le_refl _)))) fun _ s2 ⟨σ2, H2, I2, q2⟩ => ?_)
    exact assignInOrder_cons (thn (h2.run pins s2 σ2 H2 (.ref h'.objs.size) (.ref h'.objs.size) _ I2 rfl q2) fun _ s3 q3 => assignInOrder_nil q3)
/-- o.m( *e), e a list -/
def tMethSL (K : PySem.W.Frag) (C : Addr) (m : Str) (g : Addr) (sp : Sp) (E : XK) (ta te : TE) : TE := fun σ H Q => ta σ H fun x H1 => ∃ a dx fs, x = .ref a ∧ H1 a = some (.ins C dx fs) ∧ fs.lookup m = none ∧
  ∀ q, H1 q = none → te σ (upd H1 q (.met g a)) fun y H2 => ∃ b vs, y = .ref b ∧ SqL K H2 b vs ∧ H2 q = some (.met g a) ∧ sp (.ref a :: vs) H2 Q E
theorem pe_methSL {CX : CXT} {k : Nat} {C g : Addr} {m : Str} {sp : Sp} {E : XK} {o e : Expr} {ta te : TE} {p apos pos : Pos} (ho : PE X o ta) (c : Cls X.K C) (b : BMeth X.K C m g) (F : FnR X.prog X.w X.K X.mg X.base CX k g sp) (hr : Room k X.A)
    (hx : Passes CX X E) (he : PE X e te) (hb : attributeBase o m X.env (eval o X.env) = eval o X.env := by rfl) : PE X (.Call (.Attribute o m apos) [.Starred e p] [] pos) (tMethSL X.K C m g sp E ta te) := by
  refine ⟨fun pins s σ H Q I h => starcall_of hb (thn (ho.run pins s σ H _ I h) fun u s1 hu => ?_)⟩
  obtain ⟨x, H1, I1, rx, a, dx, fs, rfl, at1, l, q⟩ := hu
  obtain rfl : u = Value.ref a := rx
  refine getbound_ok I1 at1 c b l fun mt s2 fresh I2 => ?_
  refine PySem.W.ks_call (P := PySem.W.MethP X.K mt g (.ref a)) rfl (PySem.W.keeps_M b.fi) (PySem.W.ks_lone ?_)
  refine thn (he.run pins s2 σ _ _ I2 (q mt fresh)) fun v s3 hv => ?_
  obtain ⟨y, H2, I3, ry, t, vs, rfl, ht, hm, call⟩ := hv
  obtain rfl : v = Value.ref t := ry
  refine StX.star_lst I3 ht fun us s4 I4 rv => ⟨met_P I4 hm, ?_⟩
  refine wpAny_call (PySem.W.method_call (met_P I4 hm).1 ?_)
  exact run_fnR (us := Value.ref a :: us) (vs := V.ref a :: vs) F hr hx I4 (.cons rfl rv) call
end
end Rz
/-! Live rings: carry_out. -/
namespace Rp
open PySem PySem.Spec PyProof.Rows L2 Rz Rm
section
variable {P : Program} {w : World} {K : PySem.W.Frag} {mg : Str → Option Value} {base : Heap}
/-- dA: the actions by name; S: what they promise -/
def spCarry (K : PySem.W.Frag) (dA : Addr) (S : Addr → Option Sp) : Sp := fun vs H Q E => ∃ (tb : V) (op f : Addr) (nm : Str) (args : List V) (sp : Sp), vs = [tb, .ref op] ∧ H op = some (.tup (.str nm :: args)) ∧ args.length < 900 ∧ PySem.W.nsIn K dA nm = some (some (.ref f)) ∧ S f = some sp ∧
  ∀ H', Same H H' → sp (tb :: args) H' Q E
theorem ok_carry {dA : Addr} {es : Array DictEntry} {n k : Nat} {S : Addr → Option Sp} (T : Tx K mg) (gA : mg "ACTIONS" = some (.ref dA)) (DA : KDict K w dA es n)
    (A0 : ∀ f sp, S f = some sp → FnR P w K mg base (L2.CX P w) k f sp ∧ PySem.W.keepIn K (.ref f) = true) : FnOk P w K mg base (L2.CX P w) (k + 1) T.a_carry_out T.d_carry_out P_carry_out (spCarry K dA S) := by
  refine T.F_carry_out.okX sc_carry_out (fun vs H Q E h => ?_) (fun cdv A outer s0 H vs Q E hr h => ?_)
  · obtain ⟨tb, op, f, nm, args, sp, rfl, _⟩ := h
    rfl
  · obtain ⟨tb, op, f, nm, args, sp, rfl, ho, l9, hf, hS, q⟩ := h
    have nd := sc_carry_out.nd
    refine ⟨_, pss_cons (ps_asg (pv 1) (pg_star1 rfl (pg_name (i := 2) nd rfl (.inl rfl)) (pg_name (i := 3) nd rfl (.inl rfl))))
      (pss_cons (ps_set (i := 4) nd rfl (.inl rfl) (pe_ix ix_kdict (pe_glob (v := .ref dA) (by rfl) gA rfl) (pv 2) (fun _ _ => rfl)))
      (pss_one (ps_ret (pe_callAS (i := 4) (E := E) A0 hr rfl (.inl rfl) (passes_call (takes_of rfl rfl rfl rfl) (fun _ _ _ _ z => z)) (pa_cons (pv 0) (StX.pa_star (pv 3) pa_nil)))))), ?_⟩
    refine ⟨_, rfl, op, _, args, rfl, .of ho, l9, fun D hD => ?_⟩
    have s1 := same_upd (o := .lst args) hD
    refine ⟨_, rfl, dA, nm, .ref f, rfl, rfl, ⟨es, n, _, DA.at_, DA.lit, hf, rfl⟩, ?_⟩
    refine ⟨f, sp, rfl, hS, _, rfl, _, rfl, D, args, rfl, .inr (.of upd_same), ?_⟩
    have e := q _ s1
    show sp (tb :: (args ++ [])) _ Q E
    rw [List.append_nil]
    exact e
end
end Rp
/-! Live rings: courses, executed. -/
namespace Rp
open PySem PySem.Spec PyProof.Rows L2 Rz Rm
/-- a course's attributes -/
def coF (tt ot ut : Addr) : List (Str × V) := [("tables", .ref tt), ("operations", .ref ot), ("undone", .ref ut)]
structure Co (cC : Addr) (H : Hp) (co dxc tt ot ut : Addr) (tabs : List Addr) (ops und : List V) : Prop where
  ob : H co = some (.ins cC dxc (coF tt ot ut))
  ht : H tt = some (.tup (tabs.map V.ref))
  hop : H ot = some (.tup ops)
  hu : H ut = some (.tup und)
theorem Co.same {cC : Addr} {H H' : Hp} {co dxc tt ot ut : Addr} {tabs : List Addr} {ops und : List V} (c : Co cC H co dxc tt ot ut tabs ops und) (s : Same H H') : Co cC H' co dxc tt ot ut tabs ops und := ⟨s _ _ c.ob, s _ _ c.ht, s _ _ c.hop, s _ _ c.hu⟩
section
variable {P : Program} {w : World} {K : PySem.W.Frag} {mg : Str → Option Value} {base : Heap}
def spCi (cC : Addr) : Sp := fun vs H Q _ => ∃ (co dxc tt ot ut : Addr) (t1 t2 t3 : List V), vs = [.ref co, .ref tt, .ref ot, .ref ut] ∧ H co = some (.ins cC dxc []) ∧ H tt = some (.tup t1) ∧ H ot = some (.tup t2) ∧ H ut = some (.tup t3) ∧
  ∀ H', H' co = some (.ins cC dxc (coF tt ot ut)) → (∀ b, b ≠ co → H' b = H b) → Q .non H'
theorem ok_ci (T : Tx K mg) : FnOk P w K mg base CX0 1 T.a_cinit T.d_cinit P_cinit (spCi T.cC) := by
  refine T.F_cinit.ok sc_cinit (fun vs H Q E h => ?_) (fun cdv A outer s0 H vs Q E hr h => ?_)
  · obtain ⟨co, dxc, tt, ot, ut, t1, t2, t3, rfl, _⟩ := h
    rfl
  · obtain ⟨co, dxc, tt, ot, ut, t1, t2, t3, rfl, hc, h1, h2, h3, q⟩ := h
    refine ⟨_, pss_cons (ps_fld (pv 0) (pv 1) rfl) (pss_cons (ps_fld (pv 0) (pv 2) rfl) (pss_one (ps_fld (pv 0) (pv 3) rfl))), ?_⟩
    refine ⟨_, rfl, _, rfl, co, T.cC, dxc, _, rfl, hc, T.clc, T.nc_tables, (by show 0 < 1000; decide), ?_⟩
    refine ⟨_, rfl, _, rfl, co, T.cC, dxc, _, rfl, upd_same, T.clc, T.nc_operations, (by show 1 < 1000; decide), ?_⟩
    refine ⟨_, rfl, _, rfl, co, T.cC, dxc, _, rfl, upd_same, T.clc, T.nc_undone, (by show 2 < 1000; decide), ?_⟩
    rw [upd_upd, upd_upd]
    exact q _ upd_same fun b n => upd_ne n
/-- a table's last copy is carried on; what the action gives and the new course come back -/
def spEx (K : PySem.W.Frag) (C tC cC dA : Addr) (S : Addr → Option Sp) : Sp := fun vs H Q E => ∃ (co dxc tt ot ut op tb dxt p dx td ts hl cl : Addr) (tabs : List Addr) (ops und os : List V) (ha : List Addr) (cs : List V) (ds ss : List Int) (day coming : Int) (hp : Nat → List Int) (cu : Nat → Option (Int × Int)),
  vs = [.ref co, .ref op] ∧ Co cC H co dxc tt ot ut (tabs ++ [tb]) ops und ∧ tabs.length ≤ 800 ∧ ops.length ≤ 800 ∧ H op = some (.tup os) ∧ LvT C tC H tb dxt p dx td ts hl cl ha cs ds ss day coming hp cu ∧
  ∀ H1 t2 dxt2 hl2 cl2, Same H H1 → H t2 = none → H hl2 = none → H cl2 = none → LvT C tC H1 t2 dxt2 p dx td ts hl2 cl2 ha cs ds ss day coming hp cu →
    ∃ R : V → Hp → Prop, (∀ Q2 : VK, (∀ v H2, R v H2 → Q2 v H2) → spCarry K dA S [.ref t2, .ref op] H1 Q2 E) ∧ ∀ v H2, R v H2 → KT t2 hl2 cl2 H1 H2 ∧ ∀ H3 r c2 dx2 tt2 ot2 ut2, Same H2 H3 → H2 c2 = none → Co cC H3 c2 dx2 tt2 ot2 ut2 (tabs ++ [tb] ++ [t2]) (ops ++ [.ref op]) [] → H3 r = some (.tup [v, .ref c2]) → Q (.ref r) H3
theorem ok_ex {dA : Addr} {es : Array DictEntry} {n k : Nat} {S : Addr → Option Sp} (T : Tx K mg) (gA : mg "ACTIONS" = some (.ref dA)) (DA : KDict K w dA es n) (hk : 3 ≤ k + 1)
    (A0 : ∀ f sp, S f = some sp → FnR P w K mg base (L2.CX P w) k f sp ∧ PySem.W.keepIn K (.ref f) = true) : FnOk P w K mg base (L2.CX P w) (k + 2) T.a_executed T.d_executed P_executed (spEx K T.C T.tC T.cC dA S) := by
  refine T.F_executed.okX sc_executed (fun vs H Q E h => ?_) (fun cdv A outer s0 H vs Q E hr h => ?_)
  · obtain ⟨co, dxc, tt, ot, ut, op, tb, dxt, p, dx, td, ts, hl, cl, tabs, ops, und, os, ha, cs, ds, ss, day, coming, hp, cu, rfl, _⟩ := h
    rfl
  · obtain ⟨co, dxc, tt, ot, ut, op, tb, dxt, p, dx, td, ts, hl, cl, tabs, ops, und, os, ha, cs, ds, ss, day, coming, hp, cu, rfl, O, l1, l2, ho, M, q⟩ := h
    have nd := sc_executed.nd
    refine ⟨_, pss_cons (ps_set (i := 2) nd rfl (.inl rfl) (pe_call (ok_cp T) (hr.mono hk) (by rfl) T.g_copied_table T.F_copied_table.kp T.b_copied_table .nil pass0 (pa_cons (pe_ix ix_tup (pe_fld (pv 0) rfl) (pe_un un_neg pe_int) (fun _ _ => rfl)) pa_nil)))
      (pss_cons (ps_set (i := 3) nd rfl (.inl rfl) (pe_call (E := E) (ok_carry T gA DA A0) hr (by rfl) T.g_carry_out T.F_carry_out.kp T.b_carry_out .nil (passes_call (takes_of rfl rfl rfl rfl) (fun _ _ _ _ z => z)) (pa_cons (pv 2) (pa_cons (pv 1) pa_nil))))
      (pss_one (ps_ret (pe_tup (pa_cons (pv 3) (pa_cons (pe_make T.mkc (ok_ci T) (hr.mono (by omega)) (by rfl) T.gcC T.b_cinit .nil pass0 (pa_cons (pe_op op_catA (pe_fld (pv 0) rfl) (pe_tup (pa_cons (pv 2) pa_nil))) (pa_cons (pe_op op_catA (pe_fld (pv 0) rfl) (pe_tup (pa_cons (pv 1) pa_nil))) (pa_cons (pe_tup pa_nil) pa_nil)))) pa_nil)))))), ?_⟩
    refine ⟨_, rfl, co, _, dxc, _, _, rfl, O.ob, T.clc, T.nc_tables, rfl, _, rfl, tt, _, _, .ref tb, rfl, rfl, .of O.ht, by rw [List.map_append]; exact atI_last _ _, tb, dxt, p, dx, td, ts, hl, cl, ha, cs, ds, ss, day, coming, hp, cu, rfl, M, fun H1 t2 dxt2 hl2 cl2 s1 n1 n2 n3 M2 => ?_⟩
    obtain ⟨R, hq, hR⟩ := q H1 t2 dxt2 hl2 cl2 s1 n1 n2 n3 M2
    refine ⟨_, rfl, _, rfl, hq _ fun v H2 hv => ?_⟩
    obtain ⟨k2, hQ⟩ := hR v H2 hv
    have s2 : Same H H2 := fun b o e => k2 b o (s1 _ _ e) (ne_of_none e n1) (ne_of_none e n2) (ne_of_none e n3)
    have O2 := O.same s2
    refine ⟨_, rfl, _, rfl, co, _, dxc, _, _, rfl, O2.ob, T.clc, T.nc_tables, rfl, _, rfl, (by show 1 ≤ sizeLine; decide), fun ta hta => ?_⟩
    have u1 := same_upd (o := .tup [.ref t2]) hta
    have O3 := O2.same u1
    refine cat_any O3.ht upd_same (by rw [List.length_map, List.length_append]; exact Nat.le_of_lt (small1000 (by show _ + 1 + 1 ≤ 1000; omega))) fun Ha tt2 sa hta2 => ?_
    have O4 := O3.same sa
    refine ⟨_, rfl, co, _, dxc, _, _, rfl, O4.ob, T.clc, T.nc_operations, rfl, _, rfl, (by show 1 ≤ sizeLine; decide), fun tb2 htb2 => ?_⟩
    have u2 := same_upd (o := .tup [.ref op]) htb2
    have O5 := O4.same u2
    refine cat_any O5.hop upd_same (Nat.le_of_lt (small1000 (by show _ + 1 ≤ 1000; omega))) fun Hb ot2 sb hob2 => ?_
    refine ⟨Nat.zero_le _, fun tu htu => fun c2 d2 nc2 nd2 ne2 => ?_⟩
    have u3 := same_upd (o := .tup []) htu
    have hTT := u3 _ _ (sb _ _ (u2 _ _ hta2))
    have hOT := u3 _ _ hob2
    have hUT : (upd Hb tu (.tup [])) tu = some (.tup []) := upd_same
    have sall : Same H2 (upd Hb tu (.tup [])) := (((u1.trans sa).trans u2).trans sb).trans u3
    have c0 : H2 c2 = none := same_noneT sall nc2
    have sn : Same (upd Hb tu (.tup [])) (upd (upd (upd Hb tu (.tup [])) d2 (.own c2)) c2 (.ins T.cC d2 [])) := fun b o e => by
      rw [upd_ne (ne_of_none e nc2), upd_ne (ne_of_none e nd2)]
      exact e
    refine ⟨c2, d2, tt2, ot2, tu, _, _, _, rfl, upd_same, sn _ _ hTT, sn _ _ hOT, sn _ _ hUT, fun H' ob' kp' => ⟨rfl, (by show 2 ≤ sizeLine; decide), fun r hr => ?_⟩⟩
    have s' : Same (upd Hb tu (.tup [])) H' := fun b o e => by
      rw [kp' b (ne_of_none e nc2)]
      exact sn _ _ e
    have sr := same_upd (o := .tup [v, .ref c2]) hr
    refine hQ _ r c2 d2 tt2 ot2 tu ((sall.trans s').trans sr) c0 ⟨sr _ _ ob', ?_, sr _ _ (s' _ _ hOT), sr _ _ (s' _ _ hUT)⟩ upd_same
    rw [sr _ _ (s' _ _ hTT), List.map_append (l₁ := tabs ++ [tb])]
    rfl
end
end Rp
/-! Live rings: made. -/
namespace Rp
open PySem PySem.Spec PyProof.Rows L2 Rz Rm
/-- a live ring's attributes -/
def liF (co : Addr) (kept : V) : List (Str × V) := [("_course", .ref co), ("_kept", kept)]
section
variable {P : Program} {w : World} {K : PySem.W.Frag} {mg : Str → Option Value} {base : Heap}
def spLi (C tC cC vC : Addr) : Sp := fun vs H Q _ => ∃ (lr dxl p dx td ts : Addr) (ds ss : List Int), vs = [.ref lr, .ref p] ∧ H lr = some (.ins vC dxl []) ∧ RingAt C H p dx td ts ds ss ∧
  ∀ H' co dxc tt ot ut tb dxt hl cl ha cs, (∀ b o, H b = some o → b ≠ lr → H' b = some o) → H co = none → H tb = none → H hl = none → H cl = none → H' lr = some (.ins vC dxl (liF co .non)) → Co cC H' co dxc tt ot ut [tb] [] [] →
    LvT C tC H' tb dxt p dx td ts hl cl ha cs ds ss 0 ss.sum (bgH (h0F ss) (fun _ => none)) (bgC ds 0 (h0F ss) (fun _ => none)) → Q .non H'
theorem ok_li (T : Tx K mg) : FnOk P w K mg base CX0 5 T.a_vinit T.d_vinit P_vinit (spLi T.C T.tC T.cC T.vC) := by
  refine T.F_vinit.ok sc_vinit (fun vs H Q E h => ?_) (fun cdv A outer s0 H vs Q E hr h => ?_)
  · obtain ⟨lr, dxl, p, dx, td, ts, ds, ss, rfl, _⟩ := h
    rfl
  · obtain ⟨lr, dxl, p, dx, td, ts, ds, ss, rfl, hlr, R, q⟩ := h
    refine ⟨_, pss_cons (ps_fld (pv 0) (pe_make T.mkc (ok_ci T) (hr.mono (by decide : 2 ≤ 4)) (by rfl) T.gcC T.b_cinit .nil pass0 (pa_cons (pe_tup (pa_cons (pe_call (ok_ft T) hr (by rfl) T.g_first_table T.F_first_table.kp T.b_first_table .nil pass0 (pa_cons (pv 1) pa_nil)) pa_nil)) (pa_cons (pe_tup pa_nil) (pa_cons (pe_tup pa_nil) pa_nil)))) rfl)
      (pss_one (ps_fld (pv 0) pe_non rfl)), ?_⟩
    refine ⟨_, rfl, p, dx, td, ts, ds, ss, rfl, R, fun H1 tb dxt hl cl ha cs s1 n1 n2 n3 M => ⟨(by show 1 ≤ sizeLine; decide), fun tt htt => ⟨Nat.zero_le _, fun ot hot => ⟨Nat.zero_le _, fun ut hut => fun co dxc nco ndxc ne => ?_⟩⟩⟩⟩
    have u1 := same_upd (o := .tup [.ref tb]) htt
    have u2 := same_upd (o := .tup []) hot
    have u3 := same_upd (o := .tup []) hut
    have sn : Same (upd (upd (upd H1 tt (.tup [.ref tb])) ot (.tup [])) ut (.tup [])) (upd (upd (upd (upd (upd H1 tt (.tup [.ref tb])) ot (.tup [])) ut (.tup [])) dxc (.own co)) co (.ins T.cC dxc [])) := fun b o e => by
      rw [upd_ne (ne_of_none e nco), upd_ne (ne_of_none e ndxc)]
      exact e
    have g1 : (upd (upd (upd H1 tt (.tup [.ref tb])) ot (.tup [])) ut (.tup [])) tt = some (.tup [.ref tb]) := u3 _ _ (u2 _ _ upd_same)
    have g2 : (upd (upd (upd H1 tt (.tup [.ref tb])) ot (.tup [])) ut (.tup [])) ot = some (.tup []) := u3 _ _ upd_same
    have g3 : (upd (upd (upd H1 tt (.tup [.ref tb])) ot (.tup [])) ut (.tup [])) ut = some (.tup []) := upd_same
    have s13 := (u1.trans u2).trans u3
    generalize (upd (upd (upd H1 tt (.tup [.ref tb])) ot (.tup [])) ut (.tup [])) = H4 at nco ndxc sn g1 g2 g3 s13 ⊢
    refine ⟨co, dxc, tt, ot, ut, _, _, _, rfl, upd_same, sn _ _ g1, sn _ _ g2, sn _ _ g3, fun H5 ob' kp' => ⟨rfl, ?_⟩⟩
    have s5 : Same H4 H5 := fun b o e => by
      rw [kp' b (ne_of_none e nco)]
      exact sn _ _ e
    have S5 : Same H H5 := (s1.trans s13).trans s5
    have c0 : H co = none := same_noneT (s1.trans s13) nco
    refine ⟨_, rfl, lr, T.vC, dxl, _, rfl, S5 _ _ hlr, T.clv, T.nv__course, (by show 0 < 1000; decide), ?_⟩
    refine ⟨_, rfl, lr, T.vC, dxl, _, rfl, upd_same, T.clv, T.nv__kept, (by show 1 < 1000; decide), ?_⟩
    rw [upd_upd]
    have ke : ∀ {x o}, H5 x = some o → x ≠ lr → ∀ {o2 : HO}, (upd H5 lr o2) x = some o := fun {x o} h n {o2} => (upd_ne n).trans h
    have nl : ∀ {x o}, H5 x = some o → (∀ fs, o ≠ .ins T.vC dxl fs) → x ≠ lr := fun {x o} e n z => by
      rw [z, S5 _ _ hlr] at e
      exact n _ (Option.some.inj e).symm
    have M5 := (M.same s13).same s5
    have tl : tb ≠ lr := (ne_of_none hlr n1).symm
    have pl : p ≠ lr := fun z => by
      have h1 := R.ob
      rw [z, hlr] at h1
      have h2 := Option.some.inj h1
      injection h2 with _ _ h3
      have h5 := flds_days td ts
      rw [← h3] at h5
      cases h5
    refine q _ co dxc tt ot ut tb dxt hl cl ha cs (fun b o e n => ke (S5 _ _ e) n) c0 n1 n2 n3 upd_same ⟨ke ob' (ne_of_none hlr c0).symm, ke (s5 _ _ g1) (nl (s5 _ _ g1) fun _ z => by cases z), ke (s5 _ _ g2) (nl (s5 _ _ g2) fun _ z => by cases z), ke (s5 _ _ g3) (nl (s5 _ _ g3) fun _ z => by cases z)⟩ ?_
    exact ⟨ke M5.ob tl, ⟨ke M5.R.ob pl, ke M5.R.td (nl M5.R.td fun _ z => by cases z), ke M5.R.ts (nl M5.R.ts fun _ z => by cases z), M5.R.ok⟩, ke M5.fh (nl M5.fh fun _ z => by cases z), M5.lh, fun j a h => ke (M5.hv j a h) (nl (M5.hv j a h) fun _ z => by cases z), ke M5.fc (nl M5.fc fun _ z => by cases z), M5.lc, fun j v h => (M5.cv j v h).tups fun c ys e => ke e (nl e fun _ z => by cases z), M5.ne, M5.sm⟩
end
end Rp
/-! Live rings: apply of one operation. -/
namespace Rp
open PySem PySem.Spec PyProof.Rows L2 Rz Rm
section
variable {P : Program} {w : World} {K : PySem.W.Frag} {mg : Str → Option Value} {base : Heap}
/-- apply with its arguments in a tuple, one valid operation -/
def spAp1 (K : PySem.W.Frag) (C tC cC vC dA dB : Addr) (S : Addr → Option Sp) : Sp := fun vs H Q E => ∃ (lr dxl ot0 co dxc tt ot ut op tb dxt p dx td ts hl cl : Addr) (kept : V) (tabs : List Addr) (opl und os : List V) (ha : List Addr) (cs : List V) (ds ss : List Int) (day coming : Int) (hp : Nat → List Int) (cu : Nat → Option (Int × Int)),
  vs = [.ref lr, .ref ot0] ∧ H lr = some (.ins vC dxl (liF co kept)) ∧ H ot0 = some (.tup [.ref op]) ∧ Co cC H co dxc tt ot ut (tabs ++ [tb]) opl und ∧ tabs.length ≤ 800 ∧ opl.length ≤ 800 ∧ H op = some (.tup os) ∧ (∀ H', Same H H' → OpV K dB H' (.ref op) true ∧ ∀ H2, Same H' H2 → ∀ d, Dp K H' (.ref op) d → Dp K H2 (.ref op) d) ∧ LvT C tC H tb dxt p dx td ts hl cl ha cs ds ss day coming hp cu ∧
  ∀ H1 t2 dxt2 hl2 cl2, Same H H1 → H t2 = none → H hl2 = none → H cl2 = none → LvT C tC H1 t2 dxt2 p dx td ts hl2 cl2 ha cs ds ss day coming hp cu →
    ∃ R : V → Hp → Prop, (∀ Q2 : VK, (∀ v H2, R v H2 → Q2 v H2) → spCarry K dA S [.ref t2, .ref op] H1 Q2 E) ∧ ∀ v H2, R v H2 → KT t2 hl2 cl2 H1 H2 ∧ ∀ H3 L c2 dx2 tt2 ot2 ut2, (∀ b o, H2 b = some o → b ≠ lr → b ≠ L → H3 b = some o) → H3 lr = some (.ins vC dxl (liF c2 kept)) → H3 L = some (.lst [v]) → H L = none → H1 L = some (.lst []) → L ≠ t2 → L ≠ hl2 → L ≠ cl2 →
      Co cC H3 c2 dx2 tt2 ot2 ut2 (tabs ++ [tb] ++ [t2]) (opl ++ [.ref op]) [] → Q (.ref L) H3
def spApR (K : PySem.W.Frag) (C tC cC vC dA dB : Addr) (S : Addr → Option Sp) : Sp := fun vs H Q E => ∃ ws rest, vs = ws ++ rest ∧ ws.length = (["self"] : List Str).length ∧ rest.length ≤ sizeLine ∧ ∀ p, H p = Option.none → spAp1 K C tC cC vC dA dB S (ws ++ [V.ref p]) (upd H p (.tup rest)) Q E
theorem ok_ap {dA dB : Addr} {es eb : Array DictEntry} {n m k : Nat} {S : Addr → Option Sp} (T : Tx K mg) (gA : mg "ACTIONS" = some (.ref dA)) (DA : KDict K w dA es n) (gB : mg "ARGUMENTS" = some (.ref dB)) (DB : KDict K w dB eb m) (hk : 3 ≤ k + 1)
    (A0 : ∀ f sp, S f = some sp → FnR P w K mg base (L2.CX P w) k f sp ∧ PySem.W.keepIn K (.ref f) = true) : FnR P w K mg base (L2.CX P w) (k + 3) T.a_vapply (spApR K T.C T.tC T.cC T.vC dA dB S) := by
  obtain ⟨oc, od, kV, doc, pm, an, cdv, ct, osl, e, lk, hcd⟩ := T.F_vapply.ex
  rw [e] at lk
  refine StX.fn_star (ps := ["self"]) (pv := "operations") lk hcd sc_vapply ?_ ?_ ?_
  · exact StX.cxUp
  · exact StX.bind_star1 (B := fun us => bindArgs (PySem.W.fnOf "apply" "LiveRing.apply" (defArgs s_vapply) (defBody s_vapply) (defScope s_vapply) .none kV doc pm an cdv ct) ⟨us, []⟩) (fun a => rfl) (fun a r rs => rfl)
  · intro A outer s H vs Q E hr h
    obtain ⟨lr, dxl, ot0, co, dxc, tt, ot, ut, op, tb, dxt, p, dx, td, ts, hl, cl, kept, tabs, opl, und, os, ha, cs, ds, ss, day, coming, hp, cu, rfl, hlr, ho0, O, l1, l2, hop, hov, M, q⟩ := h
    have nd := sc_vapply.nd
    refine ⟨_, pss_cons (ps_for (passes_of rfl) rfl (pi_enumT (by rfl) T.z_enumerate (pa_cons (pv 1) pa_nil)) (pg_tup rfl (pgs_cons (pg_name (i := 2) nd rfl (.inl rfl)) (pgs_cons (pg_name (i := 3) nd rfl (.inl rfl)) pgs_nil)))
        (pss_one (ps_if (pt_not (pt_val (pe_call (ok_isop T gB DB) (hr.mono (by omega)) (by rfl) T.g_is_operation T.F_is_operation.kp T.b_is_operation .nil pass0 (pa_cons (pv 3) pa_nil)))) (pss_one ps_never) pss_nil)))
      (pss_cons (ps_set (i := 4) nd rfl (.inl rfl) (pe_fld (pv 0) rfl))
      (pss_cons (ps_set (i := 5) nd rfl (.inl rfl) (pe_lst pa_nil))
      (pss_cons (ps_for (passes_of rfl) rfl (pi_tup (pv 1)) (pg_name (i := 3) nd rfl (.inl rfl))
        (pss_cons (ps_asg (pe_call (E := E) (ok_ex T gA DA hk A0) hr (by rfl) T.g_executed T.F_executed.kp T.b_executed .nil (passes_call (takes_of rfl rfl rfl rfl) (fun _ _ _ _ z => z)) (pa_cons (pv 4) (pa_cons (pv 3) pa_nil))) (pg_tup rfl (pgs_cons (pg_name (i := 6) nd rfl (.inl rfl)) (pgs_cons (pg_name (i := 4) nd rfl (.inl rfl)) pgs_nil))))
        (pss_one (ps_expr (pe_bm PySem.F.plainAttrs_list PySem.F.slot_list_append PySem.F.type_list_append mt_append (pv 5) (pa_cons (pv 6) pa_nil))))))
      (pss_cons (ps_fld (pv 0) (pv 4) rfl) (pss_one (ps_ret (pv 5))))))), ?_⟩
    refine ⟨_, rfl, ot0, _, rfl, .of ho0, for_it walk_enumT (fun i σ H' => (∃ y2 y3, σ = [some (.ref lr), some (.ref ot0), y2, y3, none, none, none]) ∧ Same H H') ⟨⟨none, none, rfl⟩, Same.refl H⟩ (fun i σ H' _ z => .of (z.2 _ _ ho0)) ?_ ?_⟩
    · rintro i x σ H1 H2 hi1 ⟨⟨y2, y3, rfl⟩, s1⟩ ⟨t, a, b, rfl, nt, rfl, ha0, hb⟩
      have hi0 : i = 0 := by
        have : i < 1 := hi1
        omega
      subst hi0
      have hb : some (V.ref op) = some b := hb
      cases hb
      have s2 := same_upd (o := .tup [a, .ref op]) nt
      refine ⟨t, _, rfl, .of upd_same, rfl, _, _, rfl, _, _, rfl, rfl, ?_⟩
      obtain ⟨v1, dk⟩ := hov _ (s1.trans s2)
      exact ⟨_, rfl, _, true, rfl, v1, dk, fun H3 s3 => ⟨_, rfl, iteF ⟨⟨_, _, rfl⟩, (s1.trans s2).trans s3⟩⟩⟩
    rintro σ H1 ⟨⟨y2, y3, rfl⟩, s1⟩
    refine ⟨_, rfl, lr, _, dxl, _, _, rfl, s1 _ _ hlr, T.clv, T.nv__course, rfl, ?_⟩
    refine ⟨Nat.zero_le _, fun L hL => ?_⟩
    have u1 := same_upd (o := .lst []) hL
    have gL : (upd H1 L (.lst [])) L = some (.lst []) := upd_same
    have s12 := s1.trans u1
    have L0 : H L = none := same_noneT s1 hL
    show tSeq _ _ _ [some (.ref lr), some (.ref ot0), y2, y3, some (.ref co), some (.ref L), none] (upd H1 L (.lst []))
    generalize (upd H1 L (.lst [])) = H2 at gL s12 ⊢
    have nLr : L ≠ lr := (ne_of_none hlr L0).symm
    have nLo : L ≠ ot0 := (ne_of_none ho0 L0).symm
    refine ⟨_, rfl, ot0, rfl, ⟨_, .of (s12 _ _ ho0)⟩, for_tup (K := K) (a := ot0) (xs := [.ref op]) (fun i σ H' => (i = 0 ∧ H' = H2 ∧ ∃ y3, σ = [some (.ref lr), some (.ref ot0), y2, y3, some (.ref co), some (.ref L), none]) ∨
        (i = 1 ∧ ∃ c2 y3 y6, σ = [some (.ref lr), some (.ref ot0), y2, y3, some (.ref c2), some (.ref L), y6] ∧ H' lr = some (.ins T.vC dxl (liF co kept)) ∧ H' ot0 = some (.tup [.ref op]) ∧ ∀ H4, (∀ b o, H' b = some o → b ≠ lr → H4 b = some o) → H4 lr = some (.ins T.vC dxl (liF c2 kept)) → Q (.ref L) H4))
      (.inl ⟨rfl, rfl, _, rfl⟩) (fun i σ H' _ z => ?_) ?_ ?_⟩
    · rcases z with ⟨_, rfl, _⟩ | ⟨_, _, _, _, _, _, z, _⟩
      · exact .of (s12 _ _ ho0)
      · exact .of z
    · rintro i x σ H3 hx (⟨rfl, rfl, y3, rfl⟩ | ⟨rfl, _⟩)
      · cases hx
        refine ⟨_, rfl, _, rfl, co, dxc, tt, ot, ut, op, tb, dxt, p, dx, td, ts, hl, cl, tabs, opl, und, os, ha, cs, ds, ss, day, coming, hp, cu, rfl, O.same s12, l1, l2, s12 _ _ hop, M.same s12, fun H5 t2 dxt2 hl2 cl2 s5 n1 n2 n3 M5 => ?_⟩
        obtain ⟨R, hq, hR⟩ := q H5 t2 dxt2 hl2 cl2 (s12.trans s5) (same_noneT s12 n1) (same_noneT s12 n2) (same_noneT s12 n3) M5
        refine ⟨R, hq, fun v H6 hv => ?_⟩
        obtain ⟨k6, fin⟩ := hR v H6 hv
        refine ⟨k6, fun H7 r c2 dx2 tt2 ot2 ut2 s7 nc2 O7 hr7 => ?_⟩
        have up : ∀ {b o}, H3 b = some o → H6 b = some o := fun {b o} e => k6 b o (s5 _ _ e) (ne_of_none e n1) (ne_of_none e n2) (ne_of_none e n3)
        have gL7 := s7 _ _ (up gL)
        have hlr7 := s7 _ _ (up (s12 _ _ hlr))
        have ho7 := s7 _ _ (up (s12 _ _ ho0))
        refine ⟨r, _, rfl, .of hr7, rfl, _, _, rfl, _, _, rfl, rfl, ?_⟩
        refine ⟨_, rfl, .inl ⟨rfl, _, SqL.of gL7⟩, _, rfl, L, _, _, rfl, rfl, gL7, (by show 0 < sizeLine; decide), .inr ⟨rfl, c2, _, _, rfl, (upd_ne nLr.symm).trans hlr7, (upd_ne nLo.symm).trans ho7, fun H4 kp h4 => ?_⟩⟩
        have nl7 : ∀ {b o}, H7 b = some o → (∀ l, o ≠ .lst l) → b ≠ L := fun {b o} e n z => by
          rw [z, gL7] at e
          exact n _ (Option.some.inj e).symm
        have nr7 : ∀ {b o}, H7 b = some o → (∀ fs, o ≠ .ins T.vC dxl fs) → b ≠ lr := fun {b o} e n z => by
          rw [z, hlr7] at e
          exact n _ (Option.some.inj e).symm
        have ke : ∀ {b o}, H7 b = some o → b ≠ L → b ≠ lr → H4 b = some o := fun {b o} e n1 n2 => kp b o ((upd_ne n1).trans e) n2
        have c2r : c2 ≠ lr := (ne_of_none (up (s12 _ _ hlr)) nc2).symm
        refine fin H4 L c2 dx2 tt2 ot2 ut2 (fun b o e n1 n2 => ke (s7 _ _ e) n2 n1) h4 (kp _ _ upd_same nLr) L0 (s5 _ _ gL) (ne_of_none gL n1) (ne_of_none gL n2) (ne_of_none gL n3) ⟨ke O7.ob (nl7 O7.ob fun _ z => by cases z) c2r, ke O7.ht (nl7 O7.ht fun _ z => by cases z) (nr7 O7.ht fun _ z => by cases z), ke O7.hop (nl7 O7.hop fun _ z => by cases z) (nr7 O7.hop fun _ z => by cases z), ke O7.hu (nl7 O7.hu fun _ z => by cases z) (nr7 O7.hu fun _ z => by cases z)⟩
      · cases hx
    · rintro σ H3 (⟨h0, _⟩ | ⟨_, c2, y3, y6, rfl, hlr3, _, fin⟩)
      · cases h0
      · refine ⟨_, rfl, _, rfl, lr, T.vC, dxl, _, rfl, hlr3, T.clv, T.nv__course, (by show 2 < 1000; decide), ?_⟩
        exact ⟨_, rfl, fin _ (fun b o e n => (upd_ne n).trans e) upd_same⟩
end
end Rp
/-! Lambdas as values: made and kept (in lists, in slots), with or without a default value. -/
namespace Rl
open PySem PySem.Spec PyProof.Rows L2 LamX
/-- what a lambda is -/
structure LF where
  q : Str
  params : Arguments
  body : Expr
  scope : Scope
  cl : List (Str × Addr)
  dV : Value
  c : Addr
def LamO (f : Addr) (F : LF) : HO := .ext fun h => ∃ (doc pm ctv : Value), h.get? f = some (PySem.W.kdv_obj "<lambda>" F.q F.params (.expr F.body) F.scope F.cl F.dV doc pm F.c ctv)
theorem lamO_ne {f : Addr} {F : LF} (ps : Array Value) : LamO f F ≠ .tbl ps := fun z => by
  unfold LamO at z
  cases z
section
variable {X : Cx} {pins : List (Addr × Obj)} {σ : L2.St} {H : Hp} {s : Shared}
theorem inv_lam {F : LF} {o : Obj} {t' : Nat} {doc pm ctv : Value} (I : Inv X pins σ H s) (ho : o = PySem.W.kdv_obj "<lambda>" F.q F.params (.expr F.body) F.scope F.cl F.dV doc pm F.c ctv) :
    Inv X pins σ (upd H s.heap.objs.size (LamO s.heap.objs.size F)) { s with heap := s.heap.push o, toks := t' } := by
  subst ho
  have e : (s.heap.push (PySem.W.kdv_obj "<lambda>" F.q F.params (.expr F.body) F.scope F.cl F.dV doc pm F.c ctv)).get? s.heap.objs.size = some (PySem.W.kdv_obj "<lambda>" F.q F.params (.expr F.body) F.scope F.cl F.dV doc pm F.c ctv) := Heap.get?_push_size _ rfl
  exact I.laid (a := s.heap.objs.size) (fun b u g => Heap.get?_push_of_some _ g) (Nat.le_refl _) ⟨⟨doc, pm, ctv, e⟩, ⟨_, e⟩, fun h1 h2 ⟨d1, p1, v1, z⟩ st => ⟨d1, p1, v1, st _ z⟩⟩
/-- the rest of the making, the default values evaluated -/
theorem lam_tail {T : List (Addr × Str)} {c P : Addr} {params : Arguments} {body : Expr} {scope : Scope} {pos : Pos} {dV : Value} {E : Value → Shared → Prop} {Q : Value → Shared → Prop} (I : Inv X pins σ H s) (TB : TabB X.base X.mg c P) (hcode : X.env.code = .ref c)
    (hm : (P, X.env.qual ++ "<lambda>") ∈ T) (hu : ∀ p ∈ T, p.1 = P → p.2 = X.env.qual ++ "<lambda>") (hT : Tabs T H) (hfree : ∀ y ∈ scope.names, y.2 = .free → ∃ c, X.env.cells.lookup y.1 = some c)
    (h : ∀ (f c' : Addr) (H1 : Hp) (s' : Shared), Inv X pins σ H1 s' → ExtN H H1 → Tabs T H1 → H f = none → H1 f = some (LamO f ⟨X.env.qual ++ "<lambda>", params, body, scope, cloFrom X.env.cells scope.names [], dV, c'⟩) → H1 c' = some (CodeO c' (X.env.qual ++ "<lambda>")) → Q (.ref f) s') :
    wpAny (model X.prog X.w) X.A (makeTail "<lambda>" (X.env.qual ++ "<lambda>") params (.expr body) scope X.env dV .none none pos pos.line) Q E s := by
  obtain ⟨ps, hP, ht, ha⟩ := hT _ hm
  have bP : s.heap.BuiltinsAt X.mg P := TB.bm.keeps I.bk
  have gP : s.heap.get? P = some { cls := .none, data := .fields ps } := I.hok P _ hP
  cases hc : codeAmong pos ps.toList with
  | none =>
    refine PySem.W.kdv_makeTail (mg := X.mg) (c := c) (P := P) (ps := ps) (closure_ok hfree) I.ok.glob (I.mod.glob.keeps I.bk) hcode (TB.code.keeps I.bk) gP ht hc TB.gP bP fun c' ctv doc h' tk hx hge hlt hrec htb => ?_
    obtain ⟨c2, oc, vs, t, e2, r1, r2, r3⟩ := hrec
    cases e2
    have nC := I.hok.fresh hge
    have J := inv_table (t' := tk) (more := #[rawInt pos.line, rawInt pos.col, .ref c']) (h' := h') I hP (fun b o n e => hx b o n e) htb hge ⟨oc, vs, t, r1, r2, r3⟩
    obtain ⟨H1, hH1⟩ : ∃ H1, H1 = upd (upd H P (.tbl (ps ++ #[rawInt pos.line, rawInt pos.col, .ref c']))) c' (CodeO c' (X.env.qual ++ "<lambda>")) := ⟨_, rfl⟩
    have ext1 : ExtN H H1 := fun b o e n => by
      rw [hH1, upd_ne (ne_of_none e nC), upd_ne (fun z => by subst z; rw [hP] at e; exact n ps (Option.some.inj e).symm)]
      exact e
    have atC : H1 c' = some (CodeO c' (X.env.qual ++ "<lambda>")) := by rw [hH1, upd_same]
    have tabs1 : Tabs T H1 := fun p hp => by
      by_cases hb : p.1 = P
      · rw [hu p hp hb, hb]
        refine ⟨ps ++ #[rawInt pos.line, rawInt pos.col, .ref c'], by rw [hH1, upd_ne (ne_of_none hP nC), upd_same], ?_, fun p' cv hcv => ?_⟩
        · rw [Array.toList_append]
          exact PySem.TriplesOk_snoc _ _ _ _ ht
        · rw [Array.toList_append] at hcv
          rcases among_app _ ht hcv with z | z
          · obtain ⟨c0, e1, e2⟩ := ha p' cv z
            exact ⟨c0, e1, ext1 _ _ e2 codeO_ne⟩
          · exact ⟨c', z, atC⟩
      · obtain ⟨ps', a1, a2, a3⟩ := hT p hp
        refine ⟨ps', by rw [hH1, upd_ne (ne_of_none a1 nC), upd_ne hb]; exact a1, a2, fun p' cv hcv => ?_⟩
        obtain ⟨c0, e1, e2⟩ := a3 p' cv hcv
        exact ⟨c0, e1, ext1 _ _ e2 codeO_ne⟩
    rw [← hH1] at J
    have nF := J.hok.fresh (Nat.le_refl _)
    have J2 := inv_lam (F := ⟨X.env.qual ++ "<lambda>", params, body, scope, cloFrom X.env.cells scope.names [], dV, c'⟩) (t' := tk) (doc := doc) (pm := (X.mg "__name__").getD .none) (ctv := ctv) J rfl
    have kp : ∀ {b o}, H1 b = some o → (upd H1 h'.objs.size (LamO h'.objs.size ⟨X.env.qual ++ "<lambda>", params, body, scope, cloFrom X.env.cells scope.names [], dV, c'⟩)) b = some o := fun e => (upd_ne (ne_of_none e nF)).trans e
    exact h h'.objs.size c' _ _ J2 (fun b o e n => kp (ext1 b o e n)) (tabs1.ext fun b o e => kp e) (I.hok.fresh (Nat.le_trans hge (Nat.le_of_lt hlt))) upd_same (kp atC)
  | some cv =>
    obtain ⟨c', e, hco⟩ := ha pos cv hc
    subst e
    refine PySem.W.kdv_makeTailHit (mg := X.mg) (c := c) (P := P) (ps := ps) (closure_ok hfree) I.ok.glob (I.mod.glob.keeps I.bk) hcode (TB.code.keeps I.bk) gP ht hc bP fun ctv doc h' tk hx hsz => ?_
    have J : Inv X pins σ H { s with heap := h', toks := tk } := I.kept hx
    have nF : H h'.objs.size = none := J.hok.fresh (Nat.le_refl _)
    have J2 := inv_lam (F := ⟨X.env.qual ++ "<lambda>", params, body, scope, cloFrom X.env.cells scope.names [], dV, c'⟩) (t' := tk) (doc := doc) (pm := (X.mg "__name__").getD .none) (ctv := ctv) J rfl
    have kp : ∀ {b o}, H b = some o → (upd H h'.objs.size (LamO h'.objs.size ⟨X.env.qual ++ "<lambda>", params, body, scope, cloFrom X.env.cells scope.names [], dV, c'⟩)) b = some o := fun e => (upd_ne (ne_of_none e nF)).trans e
    exact h h'.objs.size c' _ _ J2 (fun b o e n => kp e) (hT.ext fun b o e => kp e) nF upd_same (kp hco)
end
/-- the value of a lambda -/
def tLamV (T : List (Addr × Str)) (mk : Addr → LF) : TE := fun _ H Q => Tabs T H ∧ ∀ (f c' : Addr) (H1 : Hp), ExtN H H1 → Tabs T H1 → H f = none → H1 f = some (LamO f (mk c')) → H1 c' = some (CodeO c' (mk c').q) → Q (.ref f) H1
/-- the same, one int by default: the tuple of the values is told, too -/
def tLamD (T : List (Addr × Str)) (d : Int) (mk : Addr → Addr → LF) : TE := fun _ H Q => Tabs T H ∧ ∀ (f c' t : Addr) (H1 : Hp), ExtN H H1 → Tabs T H1 → H f = none → H1 t = some (.tup [.int d]) → H1 f = some (LamO f (mk t c')) → H1 c' = some (CodeO c' (mk t c').q) → Q (.ref f) H1
section
variable {X : Cx} {T : List (Addr × Str)} {c P : Addr} {params : Arguments} {body : Expr} {scope : Scope} {pos : Pos}
theorem pe_lam0 (TB : TabB X.base X.mg c P) (hcode : X.env.code = .ref c) (hm : (P, X.env.qual ++ "<lambda>") ∈ T) (hu : ∀ p ∈ T, p.1 = P → p.2 = X.env.qual ++ "<lambda>")
    (hF : ∀ y ∈ scope.names, y.2 = .free → X.env.scope.names.lookup y.1 = some .cell ∨ X.env.scope.names.lookup y.1 = some .free) (hdef : defaultsOf params X.env = ([], [])) :
    PE X (.Lambda params body scope pos) (tLamV T fun c' => ⟨X.env.qual ++ "<lambda>", params, body, scope, cloFrom X.env.cells scope.names [], .none, c'⟩) := by
  refine ⟨fun pins s σ H Q I h => ?_⟩
  obtain ⟨hT, h⟩ := h
  have hfree : ∀ y ∈ scope.names, y.2 = .free → ∃ c, X.env.cells.lookup y.1 = some c := fun y hy e => (hF y hy e).elim (fun z => I.ok.has _ (.inl z)) fun z => I.ok.has _ (.inr z)
  refine PySem.W.kla_eval hdef ?_
  simp only [makeFunction_eq, List.isEmpty_nil, List.filterMap_nil, List.zip_nil_right, pure_bind, if_true]
  exact lam_tail I TB hcode hm hu hT hfree fun f c' H1 s' I1 x1 t1 hf e1 e2 => ⟨.ref f, H1, I1, rfl, h f c' H1 x1 t1 hf e1 e2⟩
theorem pe_lam1 {d : Int} {j : Nat} {dp : Pos} (TB : TabB X.base X.mg c P) (hcode : X.env.code = .ref c) (hm : (P, X.env.qual ++ "<lambda>") ∈ T) (hu : ∀ p ∈ T, p.1 = P → p.2 = X.env.qual ++ "<lambda>")
    (hF : ∀ y ∈ scope.names, y.2 = .free → X.env.scope.names.lookup y.1 = some .cell ∨ X.env.scope.names.lookup y.1 = some .free) (hd : params.defaults = [.Constant (.int d) j dp]) (hk : params.kw_defaults = []) :
    PE X (.Lambda params body scope pos) (tLamD T d fun t c' => ⟨X.env.qual ++ "<lambda>", params, body, scope, cloFrom X.env.cells scope.names [], .ref t, c'⟩) := by
  refine ⟨fun pins s σ H Q I h => ?_⟩
  obtain ⟨hT, h⟩ := h
  have hfree : ∀ y ∈ scope.names, y.2 = .free → ∃ c, X.env.cells.lookup y.1 = some c := fun y hy e => (hF y hy e).elim (fun z => I.ok.has _ (.inl z)) fun z => I.ok.has _ (.inr z)
  refine PySem.W.kdv_lam (by rw [hd]; rfl) hk ?_
  rw [hd]
  refine PySem.W.kdv_all1 (thn ((pe_int (X := X) (i := d) (j := j) (pos := dp)).run pins s σ H (fun v H1 => v = .int d ∧ H1 = H) I ⟨rfl, rfl⟩) fun u s1 ⟨v, H1, I1, rv, e1, e2⟩ => PySem.W.kdv_all0 ?_)
  subst e1
  subst e2
  obtain ⟨tk, rfl⟩ := rv
  simp only [makeFunction_eq, List.isEmpty_nil, List.isEmpty_cons, List.filterMap_nil, List.zip_nil_right, pure_bind, if_true, Bool.false_eq_true, if_false]
  refine wpAny_bind (wpAny_newTextTuple ?_)
  have nt := I1.hok.fresh (Nat.le_refl _)
  have I2 : Inv X pins σ (upd H1 s1.heap.objs.size (.tup [.int d])) { s1 with heap := s1.heap.push { cls := .type "tuple", data := .seq [Value.int d tk].toArray } } :=
    I1.laid (t' := s1.toks) (fun b u e => Heap.get?_push_of_some _ e) (Nat.le_refl _) ⟨by show 1 ≤ sizeLine; decide, [.int d tk], .cons ⟨_, rfl⟩ .nil, ⟨_, Heap.get?_push_size _ rfl, rfl, _, rfl⟩⟩
  have kp : ∀ {b o}, H1 b = some o → (upd H1 s1.heap.objs.size (.tup [.int d])) b = some o := fun e => (upd_ne (ne_of_none e nt)).trans e
  refine lam_tail I2 TB hcode hm hu (hT.ext fun b o e => kp e) hfree fun f c' H3 s' I3 x1 t1 hf e1 e2 => ⟨.ref f, H3, I3, rfl, h f c' s1.heap.objs.size H3 (fun b o e n => x1 b o (kp e) n) t1 ?_ (x1 _ _ upd_same (by intro ps z; cases z)) e1 e2⟩
  unfold upd at hf
  split at hf
  · cases hf
  · exact hf
end
end Rl
/-! A kept lambda is called, in a def that the maker calls. -/
namespace Rl
open PySem PySem.Spec PyProof.Rows L2 LamX
/-- its names: captured ones, globals, parameters that the maker's slots don't name -/
structure LamP (N : List Str) (sc scope : Scope) : Prop where
  kind : scope.kind = .function
  co : scope.isCoroutine = false
  gen : scope.isGenerator = false
  nocell : ∀ y ∈ scope.names, y.2 ≠ .cell
  own : ∀ y ∈ scope.names, y.2 = .local → y.1 ∉ N
  free : ∀ y ∈ scope.names, y.2 = .free → sc.names.lookup y.1 = some .cell ∨ sc.names.lookup y.1 = some .free
def lamPB (N : List Str) (sc scope : Scope) : Bool :=
  decide (scope.kind = .function) && !scope.isCoroutine && !scope.isGenerator && scope.names.all fun y => !decide (y.2 = .cell) && (!decide (y.2 = .local) || !decide (y.1 ∈ N)) && (!decide (y.2 = .free) || (decide (sc.names.lookup y.1 = some .cell) || decide (sc.names.lookup y.1 = some .free)))
theorem lamP_by {N : List Str} {sc scope : Scope} (h : lamPB N sc scope = true) : LamP N sc scope := by
  unfold lamPB at h
  simp only [Bool.and_eq_true, List.all_eq_true, Bool.not_eq_true', Bool.or_eq_true, decide_eq_false_iff_not, decide_eq_true_eq] at h
  obtain ⟨⟨⟨k1, k2⟩, k3⟩, k4⟩ := h
  refine ⟨k1, k2, k3, fun y hy => (k4 y hy).1.1, fun y hy e => ?_, fun y hy e => ?_⟩
  · rcases (k4 y hy).1.2 with z | z
    · exact absurd e z
    · exact z
  · rcases (k4 y hy).2 with z | z
    · exact absurd e z
    · exact z
section
variable {X : Cx} {pins : List (Addr × Obj)} {σ : L2.St} {H HZ : Hp} {s s1 : Shared}
theorem LamP.has {scope : Scope} (L : LamP X.N X.env.scope scope) (ok : X.Ok) : ∀ y ∈ scope.names, y.2 = .free → ∃ c, X.env.cells.lookup y.1 = some c := fun y hy e => (L.free y hy e).elim (fun z => ok.has _ (.inl z)) fun z => ok.has _ (.inr z)
theorem lam_enter {ex : List Addr} {A : Around} {outer : List Env} {E : XK} {scope : Scope} {f c' : Addr} {g : Heap} {tk : Nat} {m1 : Str → Option Value} (I : Inv X pins σ H s) (L : LamP X.N X.env.scope scope) (e0 : Env0 X.prog X.w X.K X.mg X.base A outer s1 HZ) (hd : A.handled = none) (hex : ∀ y d, X.env.cells.lookup y = some d → d ∉ ex)
    (un : Un (frs X.stack) ex H HZ s.heap s1.heap) (hns : g.Ns s1.heap.objs.size m1) (kp : ∀ b o, s1.heap.get? b = some o → g.get? b = some o) :
    Inv (lamCx X A outer s1 HZ E scope f c') [] σ HZ { s1 with heap := g, toks := tk } := by
  have hfree := L.has I.ok
  have back : ∀ {y d}, (cloFrom X.env.cells scope.names []).lookup y = some d → X.env.cells.lookup y = some d := fun {y d} e => NdefX.clo_cm hfree e
  have there : ∀ {y}, scope.names.lookup y = some .free → ∃ d, (cloFrom X.env.cells scope.names []).lookup y = some d := fun {y} hl => mem_lookup (cloFrom_has (cells := X.env.cells) (acc := []) (PySem.mem_of_lookup hl))
  have cellK : ∀ {d : Addr} {v : Option Value}, H d = none → d ∉ ex → s.heap.IsCell d v → g.IsCell d v := fun {d v} n nx z => by
    obtain ⟨o, ho, hv⟩ := z
    obtain ⟨sl, q⟩ := un.any ho n nx
    exact ⟨_, kp _ _ q, hv⟩
  have none1 : ∀ b : Addr, b ∉ (lamCx X A outer s1 HZ E scope f c').ex := fun b z => absurd (show b ∈ ([] : List Addr) from z) (by simp)
  refine ⟨⟨e0.mod, L.kind, rfl, rfl, Nat.le_refl _, fun y z d e1 e2 => I.ok.inj y z d (back e1) (back e2), fun y hy => ?_, fun y d z _ => ?_, fun _ => hd, Around.frames_deeper e0.frames, .inr ⟨rfl, rfl⟩, fun b z => absurd z (none1 b), e0.bs, e0.bsz, fun b _ _ => none1 b, fun b z => absurd z (none1 b), e0.funs, e0.frf⟩,
    rfl, e0.bare, Un.kept kp, ⟨_, hns, fun i y v e1 e2 e3 => ?_⟩, fun y d e => ?_, e0.hok.fresh (Nat.le_refl _), fun y d e => ?_, fun q hq => absurd (show q ∈ ([] : List (Addr × Obj)) ++ [] from hq) (by simp), e0.hok.kept kp, I.len⟩
  · have hy : scope.names.lookup y = some .cell ∨ scope.names.lookup y = some .free := hy
    rcases hy with hy | hy
    · exact absurd rfl (L.nocell _ (PySem.mem_of_lookup hy))
    · exact there hy
  · have z : false = true := z
    cases z
  · have e3 : Vis scope y := e3
    have e1 : X.N[i]? = some y := e1
    rcases e3 with k | k | k
    · exact absurd (List.mem_of_getElem? e1) (L.own _ (PySem.mem_of_lookup k) rfl)
    · exact absurd rfl (L.nocell _ (PySem.mem_of_lookup k))
    · obtain ⟨m, hn, hl⟩ := I.loc
      have vis : Vis X.env.scope y := (L.free _ (PySem.mem_of_lookup k) rfl).elim (fun z => .inr (.inl z)) fun z => .inr (.inr z)
      obtain ⟨w', r, q⟩ := hl i y v e1 e2 vis
      obtain ⟨d, h2⟩ := there k
      refine ⟨w', r, .inr ⟨.inr k, d, h2, ?_⟩⟩
      have h3 := back h2
      rcases q with ⟨k', _⟩ | ⟨_, d3, e', z⟩
      · have k' : X.env.scope.names.lookup y = some .local := k'
        rcases L.free _ (PySem.mem_of_lookup k) rfl with k2 | k2
        · rw [show X.env.scope.names.lookup y = _ from k2] at k'
          cases k'
        · rw [show X.env.scope.names.lookup y = _ from k2] at k'
          cases k'
      · rw [h3] at e'
        cases e'
        exact cellK (I.freeC y _ h3) (hex y _ h3) z
  · obtain ⟨w', z⟩ := I.cell y d (back e)
    exact ⟨w', cellK (I.freeC y d (back e)) (hex y d (back e)) z⟩
  · obtain ⟨v, o, ho, hv⟩ := I.cell y d (back e)
    exact un.free d o ho (I.freeC y d (back e)) (hex y d (back e))
/-- a(), in the def that the maker calls and that got the lambda -/
theorem un_more {fs ex : List Addr} {H H' : Hp} {h h' : Heap} (u : Un fs [] H H' h h') : Un fs ex H H' h h' :=
  ⟨fun b o e n k _ => u.keep b o e n k (by simp), fun b o e n k _ => u.slot b o e n k (by simp), fun b o e n _ => u.free b o e n (by simp), fun b o e _ => u.there b o e (by simp), u.tups, u.frzs, u.tbls⟩
theorem pe_actVB {ex : List Addr} {sC : Shared} {HC : Hp} {CXg : CXT} {Eg : XK} {Ng : List Str} {qg : Str} {sg : Scope} {g f : Addr} {cdg : Value} {k i : Nat} {a : Str} {pn : List (Addr × Obj)} {xe : Value → Shared → Prop} {W : WX} {E : L2.St → XK} {tb : XK → TE} {p1 p2 : Pos} {F : LF} {G : Hp → Prop}
    (I : Inv X pins σ H s) (hex : ∀ y d, X.env.cells.lookup y = some d → d ∉ ex) (unB : Un (frs X.stack) ex H HC s.heap sC.heap) (L : LamP X.N X.env.scope F.scope) (hcl : F.cl = cloFrom X.env.cells F.scope.names []) (hq : F.q = X.env.qual ++ "<lambda>")
    (hbind : ∀ (doc pm ctv : Value) (sZ : Shared) (HZ : Hp), HOk X.prog X.w HZ sZ.heap → G HZ → ∃ binds, BindsTo sZ (PySem.W.kdv_fn "<lambda>" F.q F.params (.expr F.body) F.scope F.cl F.dV doc pm (.ref F.c) ctv) ⟨[], []⟩ binds ∧ ∀ y ∈ binds, F.scope.names.lookup y.1 = some .local)
    (tk : Takes ((cxOf CXg X.prog X.w X.K X.mg X.base Ng qg sg g cdg X.A X.stack sC HC Eg).tr pn xe) W) (hW : ∀ cls d σ' H', E σ' cls d H' → W cls d σ' H') (hr : Room (k + 1) (X.A.deeper (envOfC qg sg sC.heap.objs.size g cdg)))
    (hbody : ∀ (E' : XK) (A : Around) (outer : List Env) (s : Shared) (H : Hp), Room k (A.deeper (lamEnv X F.scope s.heap.objs.size f F.c)) → PE (lamCx X A outer s H E' F.scope f F.c) F.body (tb E'))
    (hN : Ng[i]? = some a) (hv : Vis sg a) (hd : (a == ("__debug__" : Str)) = false := by decide) (hcd : (a == ("__classdict__" : Str)) = false := by decide) :
    PE ((cxOf CXg X.prog X.w X.K X.mg X.base Ng qg sg g cdg X.A X.stack sC HC Eg).tr pn xe) (.Call (.Name a p1) [] [] p2)
      (fun σZ HZ Q => σZ[i]? = some (some (.ref f)) ∧ HZ f = some (LamO f F) ∧ HZ F.c = some (CodeO F.c F.q) ∧ G HZ ∧ tb (E σZ) σ HZ Q) := by
  refine ⟨fun pinsZ sZ σZ HZ Q IZ h => ?_⟩
  obtain ⟨hs, hf, hc, hg, ht⟩ := h
  refine wpAny_Call_Name_kw (thn ((pe_var (pos := p1) (i := i) hN hv hd hcd).run pinsZ sZ σZ HZ (fun v H1 => v = .ref f ∧ H1 = HZ) IZ ⟨.ref f, hs, rfl, rfl⟩) fun u s2 ⟨v, H2, I2, rv, e1, e2⟩ => ?_)
  subst e1
  rw [e2] at I2
  obtain rfl : u = Value.ref f := rv
  obtain ⟨⟨doc, pm, ctv, of1⟩, _, _⟩ := I2.hok f _ hf
  obtain ⟨⟨oc, vs, t, c1, c2, c3⟩, _, _⟩ := I2.hok F.c _ hc
  refine PySem.W.callWith_F0 ⟨_, _, _, _, of1⟩ ?_
  have un : Un (frs X.stack) ex H HZ s.heap s2.heap := unB.trans (un_more I2.base)
  obtain ⟨binds, hbi, hloc⟩ := hbind doc pm ctv s2 HZ I2.hok hg
  have rc : codeAny (model X.prog X.w) (X.A.deeper (envOfC qg sg sC.heap.objs.size g cdg)) (.call (.ref f) ⟨[], []⟩) (CR (L2.CX X.prog X.w) (envOfC qg sg sC.heap.objs.size g cdg :: X.stack) X.prog X.w HZ s2 Q (E σZ)) s2 := by
    refine PySem.W.kla_callFunE hr.depth of1 rfl L.co L.gen rfl ⟨F.c, oc, vs, t, rfl, c1, c2, c3⟩ (hbi _ _ _ _ ?_)
    refine wpAny_newFunctionEnv L.nocell hloc (fun h1 hns hsb => ⟨I2.nolimit.fresh _ hsb, ?_⟩) L.kind
    have ee : PySem.W.envX F.q F.scope s2.heap.objs.size f (.ref F.c) F.cl = lamEnv X F.scope s2.heap.objs.size f F.c := by rw [hq, hcl]
    show codeAny _ _ (.expr F.body (PySem.W.envX F.q F.scope s2.heap.objs.size f (.ref F.c) F.cl)) _ _
    rw [ee]
    have kp : ∀ b o, s2.heap.get? b = some o → h1.get? b = some o := fun b o e => hsb.extBut b o (Nat.ne_of_lt (Heap.lt_size e)) (Heap.get?_push_of_some _ e)
    have J := lam_enter (E := E σZ) (scope := F.scope) (f := f) (c' := F.c) (tk := s2.toks + binds.length) I L I2.env0 hr.hd hex un hns kp
    refine PySem.W.kla_codeExpr (wpAny_mono ((hbody (E σZ) _ _ s2 HZ (hr.deeper _)).run [] _ _ HZ Q J ht) (fun v s' hh => ?_) fun e s' hh => hh)
    obtain ⟨w', H', J', r', q'⟩ := hh
    exact ⟨w', H', J'.os, J'.bare, J'.base, J'.hok, r', q'⟩
  refine wpAny_call (codeAny_mono rc fun r s' hh => ?_)
  cases r with
  | error e => exact tk e s' (XE.of_call I2 (fun cls d H' z => hW cls d σZ H' z) hh)
  | ok fl =>
    cases fl with
    | ret u => exact I2.after hh
    | next => exact hh.elim
    | brk => exact hh.elim
    | cont => exact hh.elim
/-- a(), in the def that the maker calls and that got the lambda -/
theorem pe_actV {CXg : CXT} {Eg : XK} {Ng : List Str} {qg : Str} {sg : Scope} {g f : Addr} {cdg : Value} {k i : Nat} {a : Str} {pn : List (Addr × Obj)} {xe : Value → Shared → Prop} {W : WX} {E : L2.St → XK} {tb : XK → TE} {p1 p2 : Pos} {F : LF} {G : Hp → Prop}
    (I : Inv X pins σ H s) (L : LamP X.N X.env.scope F.scope) (hcl : F.cl = cloFrom X.env.cells F.scope.names []) (hq : F.q = X.env.qual ++ "<lambda>")
    (hbind : ∀ (doc pm ctv : Value) (sZ : Shared) (HZ : Hp), HOk X.prog X.w HZ sZ.heap → G HZ → ∃ binds, BindsTo sZ (PySem.W.kdv_fn "<lambda>" F.q F.params (.expr F.body) F.scope F.cl F.dV doc pm (.ref F.c) ctv) ⟨[], []⟩ binds ∧ ∀ y ∈ binds, F.scope.names.lookup y.1 = some .local)
    (tk : Takes ((cxOf CXg X.prog X.w X.K X.mg X.base Ng qg sg g cdg X.A X.stack s H Eg).tr pn xe) W) (hW : ∀ cls d σ' H', E σ' cls d H' → W cls d σ' H') (hr : Room (k + 1) (X.A.deeper (envOfC qg sg s.heap.objs.size g cdg)))
    (hbody : ∀ (E' : XK) (A : Around) (outer : List Env) (s : Shared) (H : Hp), Room k (A.deeper (lamEnv X F.scope s.heap.objs.size f F.c)) → PE (lamCx X A outer s H E' F.scope f F.c) F.body (tb E'))
    (hN : Ng[i]? = some a) (hv : Vis sg a) (hd : (a == ("__debug__" : Str)) = false := by decide) (hcd : (a == ("__classdict__" : Str)) = false := by decide) :
    PE ((cxOf CXg X.prog X.w X.K X.mg X.base Ng qg sg g cdg X.A X.stack s H Eg).tr pn xe) (.Call (.Name a p1) [] [] p2)
      (fun σZ HZ Q => σZ[i]? = some (some (.ref f)) ∧ HZ f = some (LamO f F) ∧ HZ F.c = some (CodeO F.c F.q) ∧ G HZ ∧ tb (E σZ) σ HZ Q) :=
  pe_actVB (ex := []) I (fun _ _ _ => by simp) Un.refl L hcl hq hbind tk hW hr hbody hN hv hd hcd
end
end Rl
/-! x(e), e a kept lambda, x a def that calls what it gets. -/
namespace Rl
open PySem PySem.Spec PyProof.Rows L2 LamX
/-- the def that calls what it got: a calls it; R: what must be true of the abstract heap at the call; TT: what the def makes of the lambda's reading -/
def GivesV (X : Cx) (Ng : List Str) (x : Str) (sg : Scope) (g : Addr) (cdg : Value) (bg : List Stmt) (a : Str) (TT : (XK → Hp → VK → Prop) → Hp → VK → Prop) : Prop :=
  ∀ (f : Addr) (R : Hp → Prop) (s : Shared) (H : Hp) (Q : VK) (tl : XK → Hp → VK → Prop),
    (∀ (W : WX) (pn : List (Addr × Obj)) (xe : Value → Shared → Prop) (p1 p2 : Pos), Takes ((cxOf C8.CX0 X.prog X.w X.K X.mg X.base Ng x sg g cdg X.A X.stack s H C8.E0).tr pn xe) W →
      PE ((cxOf C8.CX0 X.prog X.w X.K X.mg X.base Ng x sg g cdg X.A X.stack s H C8.E0).tr pn xe) (.Call (.Name a p1) [] [] p2) (fun σZ HZ Q => σZ[0]? = some (some (.ref f)) ∧ R HZ ∧ tl (fun cls d H' => W cls d σZ H') HZ Q)) →
    R H → TT tl H Q →
    ∃ t, PSs (cxOf C8.CX0 X.prog X.w X.K X.mg X.base Ng x sg g cdg X.A X.stack s H C8.E0).nox bg t ∧ t { nx := fun _ H' => Q .non H', rt := Q } (L2.start Ng [.ref f]) H
/-- one of a family of lambdas, all made where X stands -/
structure Fam (X : Cx) (ι : Type) (F : ι → LF) (G : ι → Hp → Prop) : Prop where
  nm : ∀ i, LamP X.N X.env.scope (F i).scope
  cl : ∀ i, (F i).cl = cloFrom X.env.cells (F i).scope.names []
  q : ∀ i, (F i).q = X.env.qual ++ "<lambda>"
  bind : ∀ i (doc pm ctv : Value) (sZ : Shared) (HZ : Hp), HOk X.prog X.w HZ sZ.heap → G i HZ → ∃ binds, BindsTo sZ (PySem.W.kdv_fn "<lambda>" (F i).q (F i).params (.expr (F i).body) (F i).scope (F i).cl (F i).dV doc pm (.ref (F i).c) ctv) ⟨[], []⟩ binds ∧ ∀ y ∈ binds, (F i).scope.names.lookup y.1 = some .local
def tLamC {ι : Type} (F : ι → LF) (G : ι → Hp → Prop) (TT : (XK → Hp → VK → Prop) → Hp → VK → Prop) (ta : TA) (t : ι → XK → TE) : TE := fun σ H Q => ta σ H fun vs H1 => ∃ (f : Addr) (i : ι), vs = [.ref f] ∧ H1 f = some (LamO f (F i)) ∧ H1 (F i).c = some (CodeO (F i).c (F i).q) ∧ G i H1 ∧ TT (fun E H' Q' => t i E σ H' Q') H1 Q
section
variable {X : Cx}
theorem pe_lamcallV {ι : Type} {F : ι → LF} {G : ι → Hp → Prop} {TT : (XK → Hp → VK → Prop) → Hp → VK → Prop} {x a : Str} {g : Addr} {k : Nat} {pg : Arguments} {bg : List Stmt} {sg : Scope} {dV kV doc pm cdv ct oc : Value} {an od : Option Addr} {osl : Array (Option Value)} {Ng : List Str}
    {e : Expr} {ta : TA} {t : ι → XK → TE} {p pos : Pos} (hg : Gl X x) (hm : X.mg x = some (.ref g)) (hk : PySem.W.keepIn X.K (.ref g) = true)
    (lk : X.K.lookup g = some ⟨oc, od, .func (PySem.W.fnOf x x pg bg sg dV kV doc pm an cdv ct), osl⟩) (hcg : PySem.W.codeIn X.K cdv x = true) (hb : L2.Binds X.K (PySem.W.fnOf x x pg bg sg dV kV doc pm an cdv ct) [a] []) (Sg : FnScope Ng [a] sg) (hNg : Ng[0]? = some a) (hva : Vis sg a)
    (hG : GivesV X Ng x sg g cdv bg a TT) (fam : Fam X ι F G) (ha : PA X [e] ta) (hr : Room (k + 2) X.A)
    (hbody : ∀ (i : ι) (A : Around) (outer : List Env) (s : Shared) (H : Hp) (E : XK) (f : Addr), Room k (A.deeper (lamEnv X (F i).scope s.heap.objs.size f (F i).c)) → PE (lamCx X A outer s H E (F i).scope f (F i).c) (F i).body (t i E))
    (hst : starEach [e] X.env = (false, eval e X.env) :: starEach [] X.env := by rfl) (hpl : (backTo pos (starEach ([] : List Expr) X.env)).any (·.1) = false := by rfl)
    (hdb : (x == ("__debug__" : Str)) = false := by decide) (hd : (a == ("__debug__" : Str)) = false := by decide) (hcd : (a == ("__classdict__" : Str)) = false := by decide) :
    PE X (.Call (.Name x p) [e] [] pos) (tLamC F G TT ta t) := by
  refine ⟨fun pins s σ H Q I h => ?_⟩
  refine wpAny_Call_Name_kw (ld_glob I hg hm ?_ hdb)
  refine PySem.W.callWith_K (h₀ := X.base) I.ok.mod.kin hk (thn (ha.run pos pins s σ H _ I h) fun us s1 ⟨vs, H1, I1, r, q⟩ => ⟨I1.kIn, ?_⟩) hst hpl
  obtain ⟨f, i, rfl, e1, e2, e3, q⟩ := q
  rw [Vals.ref1 r]
  have rc : codeAny (model X.prog X.w) X.A (.call (.ref g) ⟨[.ref f], []⟩) (CR C8.CX0 X.stack X.prog X.w H1 s1 Q C8.E0) s1 := by
    refine run_ofS (N := Ng) (ps := [a]) (us := [.ref f]) (vs := [.ref f]) lk hcg Sg hr I1.env0 (hb s1 [.ref f] I1.kIn rfl) (.cons rfl .nil) rfl fun hr2 => ?_
    have go := hG f (fun HZ => HZ f = some (LamO f (F i)) ∧ HZ (F i).c = some (CodeO (F i).c (F i).q) ∧ G i HZ) s1 H1 Q (fun E H' Q' => t i E σ H' Q') (fun W pn xe p1 p2 tk => by
      have act := pe_actV (i := 0) (p1 := p1) (p2 := p2) (E := fun σ' cls d H' => W cls d σ' H') (tb := t i) I1 (fam.nm i) (fam.cl i) (fam.q i) (fam.bind i) tk (fun _ _ _ _ z => z) hr2 (fun E' A outer s H hr3 => hbody i A outer s H E' f hr3) hNg hva hd hcd
      exact ⟨fun pins2 s2 σ2 H2 Q2 I2 ⟨a1, ⟨a2, a3, a4⟩, a5⟩ => act.run pins2 s2 σ2 H2 Q2 I2 ⟨a1, a2, a3, a4, a5⟩⟩) ⟨e1, e2, e3⟩ q
    obtain ⟨t', ht', hq'⟩ := go
    exact ⟨t', ht'.nox, hq'⟩
  refine wpAny_call (codeAny_mono rc fun r s2 hh => ?_)
  cases r with
  | error e => exact (show False from hh).elim
  | ok fl =>
    cases fl with
    | ret u => exact I1.after hh
    | next => exact hh.elim
    | brk => exact hh.elim
    | cont => exact hh.elim
end
end Rl
/-! A comprehension whose element may use what the def's slots held when the block began: kept lambdas are called in it. -/
namespace Rl
open PySem PySem.Spec PyProof.Rows L2 LamX
section
variable {X : Cx}
/-- the block of a comprehension that begins at z -/
abbrev bCx (X : Cx) (z : Shared) (Z : Hp) (sc : Scope) (L : Addr) (cl : List (Str × Addr)) (fp : List Addr) : Cx := X.blk z Z sc (compEnvC sc cl L X.env) fp
/-- the element is read in a block that began where the def's slots are τ -/
def ElB (X : Cx) (τ : L2.St) (sc : Scope) (e : Expr) (te : TE) : Prop :=
  ∀ (pins : List (Addr × Obj)) (z : Shared) (Z : Hp) (L : Addr) (cl : List (Str × Addr)) (fp : List Addr), Inv X pins τ Z z → (∀ b ∈ fp, FpOk X pins Z b) → PE (bCx X z Z sc L cl fp) e te
theorem lcB_loop {pins : List (Addr × Obj)} {τ : L2.St} {Q : VK} {e tg it0 : Expr} {sc : Scope} {own : List (Str × Nat)} {pos : Pos} {g : TG} {te : TE} {R : Result → Shared → Prop} {it D L : Addr} {cl : List (Str × Addr)} {fp : List Addr} {tn : Nat → Heap → Prop} {J : It} {z zs : Shared} {Z : Hp}
    (hc : X.calm = true) (T : Turn X.prog X.w X.K tg J fp it tn) (IZ : Inv X pins τ Z z) (fZ : ∀ b ∈ fp, FpOk X pins Z b) (hL : (compEnvC sc cl L X.env).locals = L) (hLz : z.heap.objs.size ≤ L)
    (pg : PG (bCx X z Z sc L cl fp) tg g) (pe : PE (bCx X z Z sc L cl fp) e te)
    (IS : Inv (bCx X z Z sc L cl fp) [] (wipe τ (own.map (·.2))) Z zs) (tS : tn 0 zs.heap)
    {W : Nat → Nat → Hp → Prop} {m₀ : Nat} (w₀ : W 0 m₀ Z)
    (turn : ∀ i m H, W i m H → (J.stop i H ∧ Q (.ref D) H) ∨ (J.go i H ∧ ∃ Nx : Hp → Prop, (∀ H', Nx H' → ∃ m', m' < m ∧ W (i + 1) m' H') ∧ ∀ x H', J.yld i H x H' → g x (wipe τ (own.map (·.2))) H' fun σ2 H2 => wipe σ2 (own.map (·.2)) = wipe τ (own.map (·.2)) ∧ tYes σ2 H2 fun b H3 =>
      if b = true then te σ2 H3 fun y H4 => ∃ acc, H4 D = some (.lst acc) ∧ acc.length < sizeLine ∧ Nx (upd H4 D (.lst (acc ++ [y]))) else Nx H3))
    (fin : ∀ s' m H', Inv X pins τ H' s' → Q (.ref D) H' → s'.heap.Ns L m → FpOk X pins H' L → R (.ok .next) s') :
    codeAny (model X.prog X.w) X.A (.compLoop (.ListComp e [⟨tg, it0, [], 0⟩] sc pos) 0 (.ref it) (.ref D) (compEnvC sc cl L X.env)) R zs := by
  have ofB : ∀ {σ' : L2.St} {H' : Hp} {s' : Shared}, Inv (bCx X z Z sc L cl fp) [] σ' H' s' → (∀ b ∈ fp, H' b = none) → ∀ b ∈ fp, FpOk (bCx X z Z sc L cl fp) [] H' b := fun {σ' H' s'} J0 nn b hb =>
    ⟨nn b hb, (J0.ok.exf b hb).1, J0.ok.exfs b hb, .inl hb, fun y d k => (J0.ok.exf b hb).2 y d k, fun p hp => by
      have hp : p ∈ ([] : List (Addr × Obj)) ++ [] := hp
      simp at hp⟩
  refine compLoop_any (fun m s' => ∃ i H', Inv (bCx X z Z sc L cl fp) [] (wipe τ (own.map (·.2))) H' s' ∧ tn i s'.heap ∧ (∀ b ∈ fp, H' b = none) ∧ W i m H') ?_ m₀ ⟨0, Z, IS, tS, fun b hb => (fZ b hb).1, w₀⟩
  intro m s1 ⟨i, H1, I1, t1, n1, w1⟩
  cases turn i m H1 w1 with
  | inl hs =>
    refine thnF (T.done (bCx X z Z sc L cl fp) rfl rfl rfl hc i [] s1 _ H1 (fun _ _ => False) I1 (ofB I1 n1) t1 hs.1) fun r s2 hr => ?_
    rw [hr.1]
    have IX : Inv X pins τ H1 s2 := IZ.call' (ch := fp) hr.2.os hr.2.base hr.2.hok hr.2.bare fun b hb => by
      obtain ⟨_, q1, _, q3, q4, q5⟩ := fZ b hb
      exact ⟨q3, q1, q4, q5⟩
    have nL : H1 L = none := by
      have q := hr.2.free
      rw [show (bCx X z Z sc L cl fp).env.locals = L from hL] at q
      exact q
    obtain ⟨mm, hmm, _⟩ := hr.2.loc
    rw [show (bCx X z Z sc L cl fp).env.locals = L from hL] at hmm
    exact fin s2 mm H1 IX hs.2 hmm (IZ.fpOk hLz nL)
  | inr hg =>
    obtain ⟨hgo, Nx, hNx, hstep⟩ := hg
    refine thnF (T.item (bCx X z Z sc L cl fp) rfl rfl rfl hc i [] s1 _ H1 (fun _ _ => False) I1 (ofB I1 n1) t1 hgo) fun r s2 ⟨u, hr, q2⟩ => ?_
    rw [hr]
    refine thnF q2 fun _ s3 ⟨x, H3, I3, r3, y3, t3, n3⟩ => ?_
    refine thnF (pg.run _ s3 _ H3 x u _ (I3.pinned (ofB I3 n3) (T.obj _ _ t3)) r3 (hstep x H3 y3)) fun _ s4 ⟨σ4, H4, I4, hw, q4⟩ => ?_
    refine thnF ((pts_nil (X := bCx X z Z sc L cl fp)).run _ s4 σ4 H4 _ I4 q4) fun b s5 ⟨H5, I5, q5⟩ => ?_
    have back : ∀ {s' : Shared} {H' : Hp}, Inv (bCx X z Z sc L cl fp) ([] ++ pinsAt fp s3.heap) σ4 H' s' → Nx H' → ∃ k, k < m ∧ ∃ i H', Inv (bCx X z Z sc L cl fp) [] (wipe τ (own.map (·.2))) H' s' ∧ tn i s'.heap ∧ (∀ b ∈ fp, H' b = none) ∧ W i k H' := fun {s' H'} JJ nx => by
      obtain ⟨k, hk, wk⟩ := hNx H' nx
      have pn : ∀ b ∈ fp, ∀ o, s3.heap.get? b = some o → s'.heap.get? b = some o ∧ H' b = none := fun b hb o ho => by
        obtain ⟨p1, p2, _⟩ := JJ.pin (b, o) (List.mem_append_right _ (List.mem_append_right _ (mem_pinsAt hb ho)))
        exact ⟨p1, p2⟩
      refine ⟨k, hk, i + 1, H', (JJ.unpinned (pins := [])).weak (by rw [← hw, wipe_length]) (fun j v hj => ?_), T.keep _ _ _ t3 fun b hb o ho => (pn b hb o ho).1, fun b hb => ?_, wk⟩
      · rw [← hw] at hj
        exact (wipe_some hj).1
      · obtain ⟨o, ho, _⟩ := T.obj _ _ t3 b hb
        exact (pn b hb o ho).2
    cases b with
    | false =>
      rw [if_neg Bool.false_ne_true] at q5
      rw [if_neg Bool.false_ne_true]
      exact back I5 q5
    | true =>
      rw [if_pos rfl] at q5
      rw [if_pos rfl]
      refine thnF (pe.run _ s5 σ4 H5 _ I5 q5) fun v s6 ⟨y, H6, I6, r6, acc, hD, hz, nx⟩ => ?_
      exact app_ok (X := bCx X z Z sc L cl fp) I6 hD hz r6 fun s7 I7 => back I7 nx
theorem lcB_core {pins : List (Addr × Obj)} {s : Shared} {τ : L2.St} {H : Hp} {Q : VK} {e tg iter : Expr} {sc : Scope} {own : List (Str × Nat)} {pos pos' : Pos} {wi : TI} {g : TG} {te : TE} {use : Option (Value → Sem Unit)} {Qf : Value → Shared → Prop}
    (hc : X.calm = true) (hN : X.N.Nodup) (I : Inv X pins τ H s) (hi : PI X tg iter wi) (ok : BlkOk X.N X.env.scope sc own)
    (hg : ∀ (z : Shared) (Z : Hp) (L : Addr) (cl : List (Str × Addr)) (fp : List Addr), PG (bCx X z Z sc L cl fp) tg g) (he : ElB X τ sc e te) (hs : ∀ x, foldedSetIterable iter X.env x = pure x)
    (h : tLc wi g tYes te (own.map (·.2)) τ H Q)
    (hR : ∀ D L s' m H', Inv X pins τ H' s' → Q (.ref D) H' → s'.heap.Ns L m → FpOk X pins H' L → compPost (model X.prog X.w) X.A X.xe use Qf (.ref D) L (.ok .next) s') :
    wpAny (model X.prog X.w) X.A (comprehension (.ListComp e [⟨tg, iter, [], 0⟩] sc pos) sc X.env pos' (newList []) false (eval iter X.env) use) Qf X.xe s := by
  have hf : ∀ y ∈ sc.names, y.2 = .free → ∃ d, X.env.cells.lookup y.1 = some d := fun y hy k => (ok.free y hy k).elim (fun q => I.ok.has _ (.inl q)) fun q => I.ok.has _ (.inr q)
  refine wpAny_comprehension_free (use := use) rfl hs (closure_ok hf) ok.kind (fun y hy k => by rw [ok.uniq y hy, k]) ?_
  refine thn (hi.run pins s τ H _ I h) fun _ s1 h1 => thn h1 fun itv s2 h2 => ?_
  obtain ⟨it, fp, tn, J, H2, rfl, I2, T, t2, f2, q⟩ := h2
  refine wpAny_newObj_type (newEnv_comp ?_) (by show 0 ≤ sizeLine; decide)
  have nD : H2 s2.heap.objs.size = none := I2.hok.fresh (Nat.le_refl _)
  obtain ⟨W, ⟨m₀, w₀⟩, turn⟩ := q _ nD
  obtain ⟨D, eD⟩ : ∃ D, D = s2.heap.objs.size := ⟨_, rfl⟩
  have push : ∀ b o, s2.heap.get? b = some o → (s2.heap.push { cls := .type "list", data := .seq ([] : List Value).toArray }).get? b = some o := fun b o k => Heap.get?_push_of_some _ k
  have I3 : Inv X pins τ (upd H2 s2.heap.objs.size (.lst [])) { s2 with heap := s2.heap.push { cls := .type "list", data := .seq ([] : List Value).toArray } } :=
    I2.laid (t' := s2.toks) push (Nat.le_refl _) ⟨Nat.zero_le _, [], 0, .nil, Heap.get?_push_size _ rfl⟩
  have f3 : ∀ b ∈ fp, FpOk X pins (upd H2 s2.heap.objs.size (.lst [])) b ∧ b < (s2.heap.push { cls := .type "list", data := .seq ([] : List Value).toArray }).objs.size := fun b hb => by
    obtain ⟨o, ho, _⟩ := T.obj _ _ t2 b hb
    have lt := Heap.lt_size ho
    refine ⟨⟨?_, (f2 b hb).2⟩, ?_⟩
    · rw [upd_ne (Nat.ne_of_lt lt)]
      exact (f2 b hb).1
    · rw [Heap.size_push]
      exact Nat.lt_succ_of_lt lt
  have IS := block_start I3 ok hN f3
  have t3 := T.keep _ _ (pushCells ((s2.heap.push { cls := .type "list", data := .seq ([] : List Value).toArray }).push { cls := .type "dict", data := .dict #[] }) sc.names) t2 fun b _ o ho => pushCells_keeps _ _ _ _ (Heap.get?_push_of_some _ (push b o ho))
  have go := lcB_loop (own := own) (e := e) (it0 := iter) (pos := pos) (Q := Q) (D := s2.heap.objs.size) (R := compPost (model X.prog X.w) X.A X.xe use Qf (.ref s2.heap.objs.size) (s2.heap.push { cls := .type "list", data := .seq ([] : List Value).toArray }).objs.size) hc T I3 (fun b hb => (f3 b hb).1) rfl (Nat.le_refl _) (hg _ _ _ _ _) (he pins _ _ _ _ _ I3 fun b hb => (f3 b hb).1) IS t3 w₀ turn
    (fun s' m H' I' q' hm hl => hR _ _ s' m H' I' q' hm hl)
  exact codeAny_compStart_list go (T.self X.A 0 _ _ _ t3 go)
/-- as a value -/
theorem pe_lcB {e tg iter : Expr} {sc : Scope} {own : List (Str × Nat)} {pos : Pos} {wi : TI} {g : TG} {te : L2.St → TE} (hc : X.calm = true) (hN : X.N.Nodup) (hi : PI X tg iter wi) (ok : BlkOk X.N X.env.scope sc own)
    (hg : ∀ (z : Shared) (Z : Hp) (L : Addr) (cl : List (Str × Addr)) (fp : List Addr), PG (bCx X z Z sc L cl fp) tg g) (he : ∀ τ, ElB X τ sc e (te τ)) (hs : ∀ x, foldedSetIterable iter X.env x = pure x := by intro _; rfl) :
    PE X (.ListComp e [⟨tg, iter, [], 0⟩] sc pos) (fun σ H Q => tLc wi g tYes (te σ) (own.map (·.2)) σ H Q) := by
  refine ⟨fun pins s σ H Q I h => ?_⟩
  rw [eval_ListComp]
  refine lcB_core hc hN I hi ok hg (he σ) hs h fun D L s' m H' I' q hn f => ⟨m, hn, fun h'' sb => ?_⟩
  obtain ⟨f0, f1, _, f3, f4, f5⟩ := f
  exact ⟨.ref D, H', I'.turned (t' := s'.toks) (fun b o hb k => (sb.2 b hb).trans k) f0 f1 f3 f4 f5, rfl, q⟩
end
end Rl
/-! {k: v for x in xs for y in ys}. -/
namespace Rl
open PySem PySem.Spec PyProof.Rows L2 LamX
abbrev dcE (kx vx t0 i0 t1 i1 : Expr) (sc : Scope) (pos : Pos) : Expr := .DictComp kx vx [⟨t0, i0, [], 0⟩, ⟨t1, i1, [], 0⟩] sc pos
theorem dTurn0 (kx vx t0 i0 t1 i1 : Expr) (sc : Scope) (pos : Pos) (j d : Value) (env : Env) :
    compTurn (dcE kx vx t0 i0 t1 i1 sc pos) 0 j d env = (do
      standAt i0.pos
      match ← pyNext j with
      | none => pure (.done .next)
      | some u =>
        letOwnedTupleGo t0 j u
        assign t0 env u
        let mut go := true
        for z in ([] : List Expr) do
          if go then go ← isTrue z env (eval z env)
        if go then
          let y ← eval i1 env
          standAt i1.pos
          let y ← foldedSetIterable i1 env y
          let _ ← runOwn (.compStart (dcE kx vx t0 i0 t1 i1 sc pos) 1 (← holding [y] (pyIter y)) d env) env
        again (.compLoop (dcE kx vx t0 i0 t1 i1 sc pos) 0 j d env)) := by rfl
theorem dTurn1 (kx vx t0 i0 t1 i1 : Expr) (sc : Scope) (pos : Pos) (j : Value) (D : Addr) (env : Env) :
    compTurn (dcE kx vx t0 i0 t1 i1 sc pos) 1 j (.ref D) env = (do
      standAt i1.pos
      match ← pyNext j with
      | none => pure (.done .next)
      | some u =>
        letOwnedTupleGo t1 j u
        assign t1 env u
        let mut go := true
        for z in ([] : List Expr) do
          if go then go ← isTrue z env (eval z env)
        if go then
          (do
            let ku ← eval kx env
            let vu ← holding [ku] (eval vx env)
            standAt { kx.pos with endLine := vx.pos.endLine, endCol := vx.pos.endCol }
            holding [ku, vu] (dictSet D ku vu))
        again (.compLoop (dcE kx vx t0 i0 t1 i1 sc pos) 1 j (.ref D) env)) := by rfl
section
variable {P : Program} {w : World} {A : Around} {R : Result → Shared → Prop} {s : Shared} {kx vx t0 i0 t1 i1 : Expr} {sc : Scope} {pos : Pos} {j d : Value} {D : Addr} {env : Env}
abbrev ntB (P : Program) (w : World) (A : Around) (env : Env) (R : Result → Shared → Prop) := notedBy (model P w) A env fun e s' => R (.error e) s'
abbrev noT (env : Env) : Sem Bool := forIn ([] : List Expr) true fun z r => if r = true then do let go ← isTrue z env (eval z env); pure (ForInStep.yield go) else pure (ForInStep.yield r)
/-- the loop of the first clause -/
theorem dLoop0 (fs : ∀ y, foldedSetIterable i1 env y = pure y) (J : Nat → Shared → Prop)
    (step : ∀ n s, J n s → wpAny (model P w) A (pyNext j) (fun r sa => match r with
      | none => R (.ok .next) sa
      | some u => wpAny (model P w) A (letOwnedTupleGo t0 j u) (fun _ sb => wpAny (model P w) A (assign t0 env u) (fun _ sc' =>
          wpAny (model P w) A (noT env) (fun go sd =>
            if go = true then wpAny (model P w) A (eval i1 env) (fun y se => wpAny (model P w) A (pyIter y) (fun j1 sf =>
              codeAny (model P w) A (.compStart (dcE kx vx t0 i0 t1 i1 sc pos) 1 j1 d env) (fun r s' => match r with
                | .ok _ => ∃ m, m < n ∧ J m s'
                | .error _ => False) sf) (ntB P w A env R) se) (ntB P w A env R) sd
            else ∃ m, m < n ∧ J m sd) (ntB P w A env R) sc') (ntB P w A env R) sb) (ntB P w A env R) sa) (ntB P w A env R) s)
    (n : Nat) (hJ : J n s) : codeAny (model P w) A (.compLoop (dcE kx vx t0 i0 t1 i1 sc pos) 0 j d env) R s := by
  refine codeAny_loop rfl J (fun n s k => ?_) n hJ
  show wpAny _ A ((compTurn (dcE kx vx t0 i0 t1 i1 sc pos) 0 j d env).onRaise (fun x => do noteFrame x env; theTreesLotGoes x)) _ _ s
  refine wpAny_noted ?_
  rw [dTurn0]
  refine wpAny_bind (wpAny_standAt (wpAny_bind (wpAny_mono (step n s k) (fun r sa ka => ?_) fun _ _ q => q)))
  cases r with
  | none => exact wpAny_pure ka
  | some u =>
    refine wpAny_bind (wpAny_mono ka (fun _ sb kb => ?_) fun _ _ q => q)
    refine wpAny_bind (wpAny_mono kb (fun _ sc' kc => ?_) fun _ _ q => q)
    refine wpAny_bind (wpAny_mono kc (fun go sd kd => ?_) fun _ _ q => q)
    cases go with
    | false => exact wpAny_pure ⟨rfl, kd⟩
    | true =>
      refine wpAny_bind (wpAny_mono kd (fun y se ke => ?_) fun _ _ q => q)
      refine wpAny_bind (wpAny_standAt (wpAny_bind (wpAny_of_eq (fs y) (wpAny_bind (wpAny_holding (wpAny_mono ke (fun j1 sf kf => ?_) fun _ _ q => q))))))
      refine wpAny_bind (wpAny_runOwn ?_)
      rw [Around.mark_none]
      refine codeAny_mono kf fun r s' kr => ?_
      cases r with
      | error e => exact kr.elim
      | ok f =>
        first
          | exact wpAny_pure ⟨rfl, kr⟩
          | exact wpAny_bind (wpAny_pure (wpAny_pure ⟨rfl, kr⟩))
/-- the loop of the second -/
theorem dLoop1 (J : Nat → Shared → Prop)
    (step : ∀ n s, J n s → wpAny (model P w) A (pyNext j) (fun r sa => match r with
      | none => R (.ok .next) sa
      | some u => wpAny (model P w) A (letOwnedTupleGo t1 j u) (fun _ sb => wpAny (model P w) A (assign t1 env u) (fun _ sc' =>
          wpAny (model P w) A (noT env) (fun go sd =>
            if go = true then wpAny (model P w) A (eval kx env) (fun ku se => wpAny (model P w) A (eval vx env) (fun vu sf =>
              wpAny (model P w) A (dictSet D ku vu) (fun _ sg => ∃ m, m < n ∧ J m sg) (ntB P w A env R) sf) (ntB P w A env R) se) (ntB P w A env R) sd
            else ∃ m, m < n ∧ J m sd) (ntB P w A env R) sc') (ntB P w A env R) sb) (ntB P w A env R) sa) (ntB P w A env R) s)
    (n : Nat) (hJ : J n s) : codeAny (model P w) A (.compLoop (dcE kx vx t0 i0 t1 i1 sc pos) 1 j (.ref D) env) R s := by
  refine codeAny_loop rfl J (fun n s k => ?_) n hJ
  show wpAny _ A ((compTurn (dcE kx vx t0 i0 t1 i1 sc pos) 1 j (.ref D) env).onRaise (fun x => do noteFrame x env; theTreesLotGoes x)) _ _ s
  refine wpAny_noted ?_
  rw [dTurn1]
  refine wpAny_bind (wpAny_standAt (wpAny_bind (wpAny_mono (step n s k) (fun r sa ka => ?_) fun _ _ q => q)))
  cases r with
  | none => exact wpAny_pure ka
  | some u =>
    refine wpAny_bind (wpAny_mono ka (fun _ sb kb => ?_) fun _ _ q => q)
    refine wpAny_bind (wpAny_mono kb (fun _ sc' kc => ?_) fun _ _ q => q)
    refine wpAny_bind (wpAny_mono kc (fun go sd kd => ?_) fun _ _ q => q)
    cases go with
    | false => exact wpAny_pure ⟨rfl, kd⟩
    | true =>
      refine wpAny_bind (wpAny_bind (wpAny_mono kd (fun ku se ke => ?_) fun _ _ q => q))
      refine wpAny_bind (wpAny_holding (wpAny_mono ke (fun vu sf kf => ?_) fun _ _ q => q))
      exact wpAny_bind (wpAny_standAt (wpAny_holding (wpAny_mono kf (fun _ sg kg => wpAny_pure ⟨rfl, kg⟩) fun _ _ q => q)))
/-- the second clause's start -/
theorem dStart1 (k0 : codeAny (model P w) A (.compLoop (dcE kx vx t0 i0 t1 i1 sc pos) 1 j d env) R s)
    (k1 : wpAny (model P w) A (pyIter j) (fun j' s' => codeAny (model P w) A (.compLoop (dcE kx vx t0 i0 t1 i1 sc pos) 1 j' d env) R s') (ntB P w A env R) s) :
    codeAny (model P w) A (.compStart (dcE kx vx t0 i0 t1 i1 sc pos) 1 j d env) R s := by
  refine codeAny_of_tree ?_
  show wpAny _ _ ((compStart (dcE kx vx t0 i0 t1 i1 sc pos) 1 j d env).onRaise (fun x => do noteFrame x env; standAt theWindowsPlace)) _ _ s
  refine wpAny_notedAt ?_
  unfold compStart
  show wpAny _ _ (ask >>= _) _ _ s
  refine wpAny_bind (wpAny_askSetting (wpAny_ite ?_))
  split
  · first
      | exact wpAny_bind (wpAny_pure (wpAny_pure ⟨rfl, k0⟩))
      | exact wpAny_pure ⟨rfl, k0⟩
  · first
      | exact wpAny_bind (wpAny_rule (wpAny_bind (wpAny_standAt (wpAny_bind (wpAny_mono k1 (fun j' s' q => wpAny_pure ⟨rfl, q⟩) fun _ _ q => q)))))
      | (refine wpAny_bind (wpAny_rule ?_); show wpAny _ _ (standAt i1.pos >>= _) _ _ s; exact wpAny_bind (wpAny_standAt (wpAny_bind (wpAny_mono k1 (fun j' s' q => wpAny_pure ⟨rfl, q⟩) fun _ _ q => q))))
end
section
variable {X : Cx}
/-- {k: v for x in xs for y in ys}: D the new dict; behind the first clause's store the second source's own loop, from which Nx is reached -/
def tDc2 (wi : TI) (g : TG) (wi1 : TI) (g1 : TG) (tk tv : TE) (vs vs1 : List Nat) : TE := fun σ H Q => wi σ H fun J H1 => ∀ D, H1 D = none → ∃ W : Nat → Nat → Hp → Prop, (∃ m, W 0 m (upd H1 D (.dK []))) ∧ ∀ i m H, W i m H →
  (J.stop i H ∧ Q (.ref D) H) ∨ (J.go i H ∧ ∃ Nx : Hp → Prop, (∀ H', Nx H' → ∃ m', m' < m ∧ W (i + 1) m' H') ∧ ∀ x H', J.yld i H x H' → g x (wipe σ vs) H' fun σ2 H2 => wipe σ2 vs = wipe σ vs ∧
    wi1 σ2 H2 fun J1 H4 => ∃ W1 : Nat → Nat → Hp → Prop, (∃ m, W1 0 m H4) ∧ ∀ j k H, W1 j k H →
      (J1.stop j H ∧ Nx H) ∨ (J1.go j H ∧ ∃ N1 : Hp → Prop, (∀ H', N1 H' → ∃ k', k' < k ∧ W1 (j + 1) k' H') ∧ ∀ x H', J1.yld j H x H' → g1 x (wipe σ2 vs1) H' fun σ3 H5 => wipe σ3 vs1 = wipe σ2 vs1 ∧
        tk σ3 H5 fun y H7 => tv σ3 H7 fun z H8 => ∃ kvs k, y = kV k ∧ H8 D = some (.dK kvs) ∧ kvs.length < sizeLine ∧ N1 (upd H8 D (.dK (putK kvs k z)))))
theorem noT_ok {Y : Cx} {pins : List (Addr × Obj)} {σ : L2.St} {H : Hp} {s : Shared} {Q : Bool → Shared → Prop} {E : Value → Shared → Prop} (I : Inv Y pins σ H s) (q : ∀ s', Inv Y pins σ H s' → Q true s') : wpAny (model Y.prog Y.w) Y.A (noT Y.env) Q E s := by
  have h := (pts_nil (X := Y)).run pins s σ H (fun b H' => b = true ∧ H' = H) I ⟨rfl, rfl⟩
  refine thnF h fun b s' hb => ?_
  obtain ⟨H', I', e1, e2⟩ := hb
  subst e1 e2
  exact q s' I'
theorem dc2_loop {pins : List (Addr × Obj)} {τ : L2.St} {Q : VK} {kx vx tg i0 tg1 i1 : Expr} {sc : Scope} {own : List (Str × Nat)} {vs1 : List Nat} {pos : Pos} {g g1 : TG} {wi1 : TI} {tk tv : TE} {R : Result → Shared → Prop} {it D L : Addr} {cl : List (Str × Addr)} {fp : List Addr} {tn : Nat → Heap → Prop} {J : It} {z zs : Shared} {Z : Hp}
    (hc : X.calm = true) (T : Turn X.prog X.w X.K tg J fp it tn) (IZ : Inv X pins τ Z z) (fZ : ∀ b ∈ fp, FpOk X pins Z b) (hL : (compEnvC sc cl L X.env).locals = L) (hLz : z.heap.objs.size ≤ L) (hv : ∀ i ∈ vs1, i ∈ own.map (·.2))
    (pg : PG (bCx X z Z sc L cl fp) tg g) (pi1 : PI (bCx X z Z sc L cl fp) tg1 i1 wi1) (pg1 : PG (bCx X z Z sc L cl fp) tg1 g1) (pk : PE (bCx X z Z sc L cl fp) kx tk) (pw : PE (bCx X z Z sc L cl fp) vx tv) (fs : ∀ env x, foldedSetIterable i1 env x = pure x)
    (IS : Inv (bCx X z Z sc L cl fp) [] (wipe τ (own.map (·.2))) Z zs) (tS : tn 0 zs.heap)
    {W : Nat → Nat → Hp → Prop} {m₀ : Nat} (w₀ : W 0 m₀ Z)
    (turn : ∀ i m H, W i m H → (J.stop i H ∧ Q (.ref D) H) ∨ (J.go i H ∧ ∃ Nx : Hp → Prop, (∀ H', Nx H' → ∃ m', m' < m ∧ W (i + 1) m' H') ∧ ∀ x H', J.yld i H x H' → g x (wipe τ (own.map (·.2))) H' fun σ2 H2 => wipe σ2 (own.map (·.2)) = wipe τ (own.map (·.2)) ∧
      wi1 σ2 H2 fun J1 H4 => ∃ W1 : Nat → Nat → Hp → Prop, (∃ m, W1 0 m H4) ∧ ∀ j k H, W1 j k H →
        (J1.stop j H ∧ Nx H) ∨ (J1.go j H ∧ ∃ N1 : Hp → Prop, (∀ H', N1 H' → ∃ k', k' < k ∧ W1 (j + 1) k' H') ∧ ∀ x H', J1.yld j H x H' → g1 x (wipe σ2 vs1) H' fun σ3 H5 => wipe σ3 vs1 = wipe σ2 vs1 ∧
          tk σ3 H5 fun y H7 => tv σ3 H7 fun z H8 => ∃ kvs k, y = kV k ∧ H8 D = some (.dK kvs) ∧ kvs.length < sizeLine ∧ N1 (upd H8 D (.dK (putK kvs k z))))))
    (fin : ∀ s' m H', Inv X pins τ H' s' → Q (.ref D) H' → s'.heap.Ns L m → FpOk X pins H' L → R (.ok .next) s') :
    codeAny (model X.prog X.w) X.A (.compLoop (dcE kx vx tg i0 tg1 i1 sc pos) 0 (.ref it) (.ref D) (compEnvC sc cl L X.env)) R zs := by
  have keepB : ∀ {σ' : L2.St} {H' : Hp} {s' : Shared}, Inv (bCx X z Z sc L cl fp) [] σ' H' s' → (∀ b ∈ fp, H' b = none) → ∀ b ∈ fp, FpOk (bCx X z Z sc L cl fp) [] H' b := fun {σ' H' s'} J0 nn b hb =>
    ⟨nn b hb, (J0.ok.exf b hb).1, J0.ok.exfs b hb, .inl hb, fun y d k => (J0.ok.exf b hb).2 y d k, fun p hp => by
      have hp : p ∈ ([] : List (Addr × Obj)) ++ [] := hp
      simp at hp⟩
  refine dLoop0 (fs _) (fun m s' => ∃ i H', Inv (bCx X z Z sc L cl fp) [] (wipe τ (own.map (·.2))) H' s' ∧ tn i s'.heap ∧ (∀ b ∈ fp, H' b = none) ∧ W i m H') ?_ m₀ ⟨0, Z, IS, tS, fun b hb => (fZ b hb).1, w₀⟩
  intro m s1 ⟨i, H1, I1, t1, n1, w1⟩
  cases turn i m H1 w1 with
  | inl hs =>
    refine thnF (T.done (bCx X z Z sc L cl fp) rfl rfl rfl hc i [] s1 _ H1 (fun _ _ => False) I1 (keepB I1 n1) t1 hs.1) fun r s2 hr => ?_
    rw [hr.1]
    have IX : Inv X pins τ H1 s2 := IZ.call' (ch := fp) hr.2.os hr.2.base hr.2.hok hr.2.bare fun b hb => by
      obtain ⟨_, q1, _, q3, q4, q5⟩ := fZ b hb
      exact ⟨q3, q1, q4, q5⟩
    have nL : H1 L = none := by
      have q := hr.2.free
      rw [show (bCx X z Z sc L cl fp).env.locals = L from hL] at q
      exact q
    obtain ⟨mm, hmm, _⟩ := hr.2.loc
    rw [show (bCx X z Z sc L cl fp).env.locals = L from hL] at hmm
    exact fin s2 mm H1 IX hs.2 hmm (IZ.fpOk hLz nL)
  | inr hg =>
    obtain ⟨hgo, Nx, hNx, hstep⟩ := hg
    refine thnF (T.item (bCx X z Z sc L cl fp) rfl rfl rfl hc i [] s1 _ H1 (fun _ _ => False) I1 (keepB I1 n1) t1 hgo) fun r s2 ⟨u, hr, q2⟩ => ?_
    rw [hr]
    refine thnF q2 fun _ s3 ⟨x, H3, I3, r3, y3, t3, n3⟩ => ?_
    refine thnF (pg.run _ s3 _ H3 x u _ (I3.pinned (keepB I3 n3) (T.obj _ _ t3)) r3 (hstep x H3 y3)) fun _ s4 ⟨σ4, H4, I4, hw, q4⟩ => ?_
    refine noT_ok (Y := bCx X z Z sc L cl fp) I4 fun s5 I5 => ?_
    -- back at the first clause, from slots that know what the block knew
    have back : ∀ {σ' : L2.St} {s' : Shared} {H' : Hp}, Inv (bCx X z Z sc L cl fp) ([] ++ pinsAt fp s3.heap) σ' H' s' → (wipe τ (own.map (·.2))).length = σ'.length → (∀ (j : Nat) v, (wipe τ (own.map (·.2)))[j]? = some (some v) → σ'[j]? = some (some v)) → Nx H' →
        ∃ k, k < m ∧ ∃ i H', Inv (bCx X z Z sc L cl fp) [] (wipe τ (own.map (·.2))) H' s' ∧ tn i s'.heap ∧ (∀ b ∈ fp, H' b = none) ∧ W i k H' := fun {σ' s' H'} JJ ll kn nx => by
      obtain ⟨k, hk, wk⟩ := hNx H' nx
      have pn : ∀ b ∈ fp, ∀ o, s3.heap.get? b = some o → s'.heap.get? b = some o ∧ H' b = none := fun b hb o ho => by
        obtain ⟨p1, p2, _⟩ := JJ.pin (b, o) (List.mem_append_right _ (List.mem_append_right _ (mem_pinsAt hb ho)))
        exact ⟨p1, p2⟩
      refine ⟨k, hk, i + 1, H', (JJ.unpinned (pins := [])).weak ll kn, T.keep _ _ _ t3 fun b hb o ho => (pn b hb o ho).1, fun b hb => ?_, wk⟩
      obtain ⟨o, ho, _⟩ := T.obj _ _ t3 b hb
      exact (pn b hb o ho).2
    have k4 : ∀ (j : Nat) v, (wipe τ (own.map (·.2)))[j]? = some (some v) → (wipe σ4 vs1)[j]? = some (some v) := fun j v k => by
      rw [← hw] at k
      obtain ⟨a1, a2⟩ := wipe_some k
      rw [wipe_out fun h => a2 (hv j h)]
      exact a1
    rw [if_pos rfl]
    refine thnF (pi1.run _ s5 σ4 H4 _ I5 q4) fun xv s6 hx => thnF hx fun iv s7 q7 => ?_
    obtain ⟨it1, fp1, tn1, J1, H7, rfl, I7, T1, t7, f7, W1, ⟨m1, w1'⟩, turn1⟩ := q7
    have keep1 : ∀ {H' : Hp}, (∀ b ∈ fp1, H' b = none) → ∀ b ∈ fp1, FpOk (bCx X z Z sc L cl fp) ([] ++ pinsAt fp s3.heap) H' b := fun nn b hb => ⟨nn b hb, (f7 b hb).2⟩
    have go1 : codeAny (model X.prog X.w) X.A (.compLoop (dcE kx vx tg i0 tg1 i1 sc pos) 1 (.ref it1) (.ref D) (compEnvC sc cl L X.env))
        (fun r s' => match r with
          | .ok _ => ∃ k, k < m ∧ ∃ i H', Inv (bCx X z Z sc L cl fp) [] (wipe τ (own.map (·.2))) H' s' ∧ tn i s'.heap ∧ (∀ b ∈ fp, H' b = none) ∧ W i k H'
          | .error _ => False) s7 := by
      refine dLoop1 (fun k s' => ∃ j H', Inv (bCx X z Z sc L cl fp) ([] ++ pinsAt fp s3.heap) (wipe σ4 vs1) H' s' ∧ tn1 j s'.heap ∧ (∀ b ∈ fp1, H' b = none) ∧ W1 j k H') ?_ m1 ⟨0, H7, I7.weak (wipe_length _ _) (fun j v k => (wipe_some k).1), t7, fun b hb => (f7 b hb).1, w1'⟩
      intro k s8 ⟨j, H8, I8, t8, n8, w8⟩
      cases turn1 j k H8 w8 with
      | inl hs =>
        refine thnF (T1.done (bCx X z Z sc L cl fp) rfl rfl rfl hc j _ s8 (wipe σ4 vs1) H8 (fun _ _ => False) I8 (keep1 n8) t8 hs.1) fun r s9 ⟨hr9, I9⟩ => ?_
        rw [hr9]
        exact back I9 (by rw [← hw, wipe_length, wipe_length]) k4 hs.2
      | inr hg1 =>
        obtain ⟨hgo1, N1, hN1, step1⟩ := hg1
        refine thnF (T1.item (bCx X z Z sc L cl fp) rfl rfl rfl hc j _ s8 (wipe σ4 vs1) H8 (fun _ _ => False) I8 (keep1 n8) t8 hgo1) fun r s9 ⟨u1, hr9, q9⟩ => ?_
        rw [hr9]
        refine thnF q9 fun _ sA ⟨xA, HA, IA, rA, yA, tA, nA⟩ => ?_
        refine thnF (pg1.run _ sA (wipe σ4 vs1) HA xA u1 _ (IA.pinned (keep1 nA) (T1.obj _ _ tA)) rA (step1 xA HA yA)) fun _ sB ⟨σB, HB, IB, hwB, qB⟩ => ?_
        refine noT_ok (Y := bCx X z Z sc L cl fp) IB fun sC IC => ?_
        have back1 : ∀ {s' : Shared} {H' : Hp}, Inv (bCx X z Z sc L cl fp) (([] ++ pinsAt fp s3.heap) ++ pinsAt fp1 sA.heap) σB H' s' → N1 H' → ∃ k', k' < k ∧ ∃ j H', Inv (bCx X z Z sc L cl fp) ([] ++ pinsAt fp s3.heap) (wipe σ4 vs1) H' s' ∧ tn1 j s'.heap ∧ (∀ b ∈ fp1, H' b = none) ∧ W1 j k' H' := fun {s' H'} JJ nx => by
          obtain ⟨k', hk', wk⟩ := hN1 H' nx
          have pn : ∀ b ∈ fp1, ∀ o, sA.heap.get? b = some o → s'.heap.get? b = some o ∧ H' b = none := fun b hb o ho => by
            obtain ⟨p1, p2, _⟩ := JJ.pin (b, o) (List.mem_append_right _ (List.mem_append_right _ (mem_pinsAt hb ho)))
            exact ⟨p1, p2⟩
          refine ⟨k', hk', j + 1, H', JJ.unpinned.weak (by rw [← hwB, wipe_length]) (fun j v h => by rw [← hwB] at h; exact (wipe_some h).1), T1.keep _ _ _ tA fun b hb o ho => (pn b hb o ho).1, fun b hb => ?_, wk⟩
          obtain ⟨o, ho, _⟩ := T1.obj _ _ tA b hb
          exact (pn b hb o ho).2
        rw [if_pos rfl]
        refine thnF (pk.run _ sC σB HB _ IC qB) fun ku sD ⟨yk, HD, ID, rD, qD⟩ => ?_
        refine thnF (pw.run _ sD σB HD _ ID qD) fun vu sE ⟨yv, HE, IE, rE, kvs, kk, ek, isD, room, nx⟩ => ?_
        subst ek
        exact d_dictSet (X := bCx X z Z sc L cl fp) IE isD room rD rE fun sF IF => back1 IF nx
    exact dStart1 go1 (T1.self X.A 0 _ _ _ t7 go1)
abbrev nD : Obj := { cls := .type "dict", data := .dict #[] }
theorem dc2_core {pins : List (Addr × Obj)} {s : Shared} {τ : L2.St} {H : Hp} {Q : VK} {kx vx tg i0 tg1 i1 : Expr} {sc : Scope} {own : List (Str × Nat)} {vs1 : List Nat} {pos pos' : Pos} {wi wi1 : TI} {g g1 : TG} {tk tv : TE} {use : Option (Value → Sem Unit)} {Qf : Value → Shared → Prop}
    (hc : X.calm = true) (hN : X.N.Nodup) (I : Inv X pins τ H s) (hi : PI X tg i0 wi) (ok : BlkOk X.N X.env.scope sc own) (hv : ∀ i ∈ vs1, i ∈ own.map (·.2))
    (hg : ∀ (z : Shared) (Z : Hp) (L : Addr) (cl : List (Str × Addr)) (fp : List Addr), PG (bCx X z Z sc L cl fp) tg g) (hi1 : ∀ (z : Shared) (Z : Hp) (L : Addr) (cl : List (Str × Addr)) (fp : List Addr), PI (bCx X z Z sc L cl fp) tg1 i1 wi1)
    (hg1 : ∀ (z : Shared) (Z : Hp) (L : Addr) (cl : List (Str × Addr)) (fp : List Addr), PG (bCx X z Z sc L cl fp) tg1 g1) (hk : ∀ (z : Shared) (Z : Hp) (L : Addr) (cl : List (Str × Addr)) (fp : List Addr), PE (bCx X z Z sc L cl fp) kx tk)
    (hw : ∀ (z : Shared) (Z : Hp) (L : Addr) (cl : List (Str × Addr)) (fp : List Addr), PE (bCx X z Z sc L cl fp) vx tv) (hs : ∀ x, foldedSetIterable i0 X.env x = pure x) (fs : ∀ env x, foldedSetIterable i1 env x = pure x)
    (h : tDc2 wi g wi1 g1 tk tv (own.map (·.2)) vs1 τ H Q)
    (hR : ∀ D L s' m H', Inv X pins τ H' s' → Q (.ref D) H' → s'.heap.Ns L m → FpOk X pins H' L → compPost (model X.prog X.w) X.A X.xe use Qf (.ref D) L (.ok .next) s') :
    wpAny (model X.prog X.w) X.A (comprehension (dcE kx vx tg i0 tg1 i1 sc pos) sc X.env pos' newDict false (eval i0 X.env) use) Qf X.xe s := by
  have hf : ∀ y ∈ sc.names, y.2 = .free → ∃ d, X.env.cells.lookup y.1 = some d := fun y hy k => (ok.free y hy k).elim (fun q => I.ok.has _ (.inl q)) fun q => I.ok.has _ (.inr q)
  refine wpAny_comprehension_free (use := use) rfl hs (closure_ok hf) ok.kind (fun y hy k => by rw [ok.uniq y hy, k]) ?_
  refine thn (hi.run pins s τ H _ I h) fun _ s1 h1 => thn h1 fun itv s2 h2 => ?_
  obtain ⟨it, fp, tn, J, H2, rfl, I2, T, t2, f2, q⟩ := h2
  refine wpAny_newObj_type (newEnv_comp ?_)
  have nn : H2 s2.heap.objs.size = none := I2.hok.fresh (Nat.le_refl _)
  obtain ⟨W, ⟨m₀, w₀⟩, turn⟩ := q _ nn
  have push : ∀ b o, s2.heap.get? b = some o → (s2.heap.push nD).get? b = some o := fun b o k => Heap.get?_push_of_some _ k
  have I3 : Inv X pins τ (upd H2 s2.heap.objs.size (.dK [])) { s2 with heap := s2.heap.push nD } :=
    I2.laid (t' := s2.toks) push (Nat.le_refl _) (dk_empty s2.heap I2.big)
  have f3 : ∀ b ∈ fp, FpOk X pins (upd H2 s2.heap.objs.size (.dK [])) b ∧ b < (s2.heap.push nD).objs.size := fun b hb => by
    obtain ⟨o, ho, _⟩ := T.obj _ _ t2 b hb
    have lt := Heap.lt_size ho
    refine ⟨⟨?_, (f2 b hb).2⟩, ?_⟩
    · rw [upd_ne (Nat.ne_of_lt lt)]
      exact (f2 b hb).1
    · rw [Heap.size_push]
      exact Nat.lt_succ_of_lt lt
  have IS := block_start I3 ok hN f3
  have t3 := T.keep _ _ (pushCells ((s2.heap.push nD).push { cls := .type "dict", data := .dict #[] }) sc.names) t2 fun b _ o ho => pushCells_keeps _ _ _ _ (Heap.get?_push_of_some _ (push b o ho))
  have go := dc2_loop (own := own) (kx := kx) (vx := vx) (i0 := i0) (pos := pos) (Q := Q) (D := s2.heap.objs.size) (R := compPost (model X.prog X.w) X.A X.xe use Qf (.ref s2.heap.objs.size) (s2.heap.push nD).objs.size) hc T I3 (fun b hb => (f3 b hb).1) rfl (Nat.le_refl _) hv (hg _ _ _ _ _) (hi1 _ _ _ _ _) (hg1 _ _ _ _ _) (hk _ _ _ _ _) (hw _ _ _ _ _) fs IS t3 w₀ turn
    (fun s' m H' I' q' hm hl => hR _ _ s' m H' I' q' hm hl)
  exact codeAny_compStart_dict go (T.self X.A 0 _ _ _ t3 go)
/-- as a value -/
theorem pe_dc2 {kx vx tg i0 tg1 i1 : Expr} {sc : Scope} {own : List (Str × Nat)} {vs1 : List Nat} {pos : Pos} {wi wi1 : TI} {g g1 : TG} {tk tv : TE} (hc : X.calm = true) (hN : X.N.Nodup) (hi : PI X tg i0 wi) (ok : BlkOk X.N X.env.scope sc own) (hv : ∀ i ∈ vs1, i ∈ own.map (·.2))
    (hg : ∀ (z : Shared) (Z : Hp) (L : Addr) (cl : List (Str × Addr)) (fp : List Addr), PG (bCx X z Z sc L cl fp) tg g) (hi1 : ∀ (z : Shared) (Z : Hp) (L : Addr) (cl : List (Str × Addr)) (fp : List Addr), PI (bCx X z Z sc L cl fp) tg1 i1 wi1)
    (hg1 : ∀ (z : Shared) (Z : Hp) (L : Addr) (cl : List (Str × Addr)) (fp : List Addr), PG (bCx X z Z sc L cl fp) tg1 g1) (hk : ∀ (z : Shared) (Z : Hp) (L : Addr) (cl : List (Str × Addr)) (fp : List Addr), PE (bCx X z Z sc L cl fp) kx tk)
    (hw : ∀ (z : Shared) (Z : Hp) (L : Addr) (cl : List (Str × Addr)) (fp : List Addr), PE (bCx X z Z sc L cl fp) vx tv) (hs : ∀ x, foldedSetIterable i0 X.env x = pure x := by intro _; rfl) (fs : ∀ env x, foldedSetIterable i1 env x = pure x := by intro _ _; rfl) :
    PE X (.DictComp kx vx [⟨tg, i0, [], 0⟩, ⟨tg1, i1, [], 0⟩] sc pos) (tDc2 wi g wi1 g1 tk tv (own.map (·.2)) vs1) := by
  refine ⟨fun pins s σ H Q I h => ?_⟩
  rw [arm_eval_DictComp]
  refine dc2_core hc hN I hi ok hv hg hi1 hg1 hk hw hs fs h fun D L s' m H' I' q hn f => ⟨m, hn, fun h'' sb => ?_⟩
  obtain ⟨f0, f1, _, f3, f4, f5⟩ := f
  exact ⟨.ref D, H', I'.turned (t' := s'.toks) (fun b o hb k => (sb.2 b hb).trans k) f0 f1 f3 f4 f5, rfl, q⟩
/-- the second source a list that stays -/
theorem dc2_in {K : PySem.W.Frag} {a D : Addr} {xs : List V} {g1 : TG} {tk tv : TE} {vs1 : List Nat} {σ2 : L2.St} {H4 : Hp} {Nx : Hp → Prop} (Pw : Nat → Hp → Prop) (start : Pw 0 H4) (isl : ∀ j H, j ≤ xs.length → Pw j H → SqL K H a xs)
    (step : ∀ j x H, xs[j]? = some x → Pw j H → g1 x (wipe σ2 vs1) H fun σ3 H5 => wipe σ3 vs1 = wipe σ2 vs1 ∧
      tk σ3 H5 fun y H7 => tv σ3 H7 fun z H8 => ∃ kvs k, y = kV k ∧ H8 D = some (.dK kvs) ∧ kvs.length < sizeLine ∧ Pw (j + 1) (upd H8 D (.dK (putK kvs k z)))) (done : ∀ H, Pw xs.length H → Nx H) :
    ∃ W1 : Nat → Nat → Hp → Prop, (∃ m, W1 0 m H4) ∧ ∀ j k H, W1 j k H →
      ((Itl K a).stop j H ∧ Nx H) ∨ ((Itl K a).go j H ∧ ∃ N1 : Hp → Prop, (∀ H', N1 H' → ∃ k', k' < k ∧ W1 (j + 1) k' H') ∧ ∀ x H', (Itl K a).yld j H x H' → g1 x (wipe σ2 vs1) H' fun σ3 H5 => wipe σ3 vs1 = wipe σ2 vs1 ∧
        tk σ3 H5 fun y H7 => tv σ3 H7 fun z H8 => ∃ kvs k, y = kV k ∧ H8 D = some (.dK kvs) ∧ kvs.length < sizeLine ∧ N1 (upd H8 D (.dK (putK kvs k z)))) := by
  refine ⟨fun j k H => k = xs.length - j ∧ j ≤ xs.length ∧ Pw j H, ⟨_, rfl, Nat.zero_le _, start⟩, fun j k H ⟨ek, le, p⟩ => ?_⟩
  subst ek
  have q := isl j H le p
  rcases Nat.lt_or_ge j xs.length with lt | ge
  · refine .inr ⟨⟨xs, xs[j], q, List.getElem?_eq_getElem lt⟩, Pw (j + 1), fun H' p' => ⟨_, by omega, rfl, lt, p'⟩, fun x H' y => ?_⟩
    obtain ⟨ex, y⟩ := y
    subst ex
    exact step j x _ (y xs q) p
  · obtain rfl : j = xs.length := by omega
    exact .inl ⟨⟨xs, q, Nat.le_refl _⟩, done H p⟩
/-- the first source a range -/
theorem dc2_out {lo : Int} {n : Nat} {g g1 : TG} {wi1 : TI} {tk tv : TE} {vs vs1 : List Nat} {σ : L2.St} {H1 : Hp} {D : Addr} {Qd : Hp → Prop} (Pv : Nat → Hp → Prop) (start : Pv 0 (upd H1 D (.dK [])))
    (step : ∀ i H, i < n → Pv i H → g (.int (lo + i)) (wipe σ vs) H fun σ2 H2 => wipe σ2 vs = wipe σ vs ∧
      wi1 σ2 H2 fun J1 H4 => ∃ W1 : Nat → Nat → Hp → Prop, (∃ m, W1 0 m H4) ∧ ∀ j k H, W1 j k H →
        (J1.stop j H ∧ Pv (i + 1) H) ∨ (J1.go j H ∧ ∃ N1 : Hp → Prop, (∀ H', N1 H' → ∃ k', k' < k ∧ W1 (j + 1) k' H') ∧ ∀ x H', J1.yld j H x H' → g1 x (wipe σ2 vs1) H' fun σ3 H5 => wipe σ3 vs1 = wipe σ2 vs1 ∧
          tk σ3 H5 fun y H7 => tv σ3 H7 fun z H8 => ∃ kvs k, y = kV k ∧ H8 D = some (.dK kvs) ∧ kvs.length < sizeLine ∧ N1 (upd H8 D (.dK (putK kvs k z)))))
    (done : ∀ H, Pv n H → Qd H) :
    ∃ W : Nat → Nat → Hp → Prop, (∃ m, W 0 m (upd H1 D (.dK []))) ∧ ∀ i m H, W i m H →
      ((Itr lo n).stop i H ∧ Qd H) ∨ ((Itr lo n).go i H ∧ ∃ Nx : Hp → Prop, (∀ H', Nx H' → ∃ m', m' < m ∧ W (i + 1) m' H') ∧ ∀ x H', (Itr lo n).yld i H x H' → g x (wipe σ vs) H' fun σ2 H2 => wipe σ2 vs = wipe σ vs ∧
        wi1 σ2 H2 fun J1 H4 => ∃ W1 : Nat → Nat → Hp → Prop, (∃ m, W1 0 m H4) ∧ ∀ j k H, W1 j k H →
          (J1.stop j H ∧ Nx H) ∨ (J1.go j H ∧ ∃ N1 : Hp → Prop, (∀ H', N1 H' → ∃ k', k' < k ∧ W1 (j + 1) k' H') ∧ ∀ x H', J1.yld j H x H' → g1 x (wipe σ2 vs1) H' fun σ3 H5 => wipe σ3 vs1 = wipe σ2 vs1 ∧
            tk σ3 H5 fun y H7 => tv σ3 H7 fun z H8 => ∃ kvs k, y = kV k ∧ H8 D = some (.dK kvs) ∧ kvs.length < sizeLine ∧ N1 (upd H8 D (.dK (putK kvs k z))))) := by
  refine ⟨fun i m H => m = n - i ∧ i ≤ n ∧ Pv i H, ⟨_, rfl, Nat.zero_le _, start⟩, fun i m H ⟨em, le, p⟩ => ?_⟩
  subst em
  rcases Nat.lt_or_ge i n with lt | ge
  · refine .inr ⟨lt, Pv (i + 1), fun H' p' => ⟨_, by omega, rfl, lt, p'⟩, fun x H' y => ?_⟩
    obtain ⟨ex, ey⟩ := y
    subst ex ey
    exact step i _ lt p
  · obtain rfl : i = n := by omega
    exact .inl ⟨Nat.le_refl _, done H p⟩
end
end Rl
/-! Kept lambdas are called in a comprehension's block: x(e) with x a def that calls what it gets, and a(). -/
namespace Rl
open PySem PySem.Spec PyProof.Rows L2 LamX
def tLamB {ι : Type} (F : ι → LF) (G : ι → Hp → Prop) (TT : (XK → Hp → VK → Prop) → Hp → VK → Prop) (ta : TA) (t : ι → XK → TE) (τ : L2.St) : TE := fun σ H Q => ta σ H fun vs H1 => ∃ (f : Addr) (i : ι), vs = [.ref f] ∧ H1 f = some (LamO f (F i)) ∧ H1 (F i).c = some (CodeO (F i).c (F i).q) ∧ G i H1 ∧ TT (fun E H' Q' => t i E τ H' Q') H1 Q
section
variable {X : Cx}
theorem el_lamB {ι : Type} {F : ι → LF} {G : ι → Hp → Prop} {TT : (XK → Hp → VK → Prop) → Hp → VK → Prop} {x a : Str} {g : Addr} {k : Nat} {pg : Arguments} {bg : List Stmt} {sg : Scope} {dV kV doc pm cdv ct oc : Value} {an od : Option Addr} {osl : Array (Option Value)} {Ng : List Str}
    {sc : Scope} {e : Expr} {ta : TA} {t : ι → XK → TE} {p pos : Pos} (hg : ∀ (z : Shared) (Z : Hp) (L : Addr) (cl : List (Str × Addr)) (fp : List Addr), Gl (bCx X z Z sc L cl fp) x) (hm : X.mg x = some (.ref g)) (hk : PySem.W.keepIn X.K (.ref g) = true)
    (lk : X.K.lookup g = some ⟨oc, od, .func (PySem.W.fnOf x x pg bg sg dV kV doc pm an cdv ct), osl⟩) (hcg : PySem.W.codeIn X.K cdv x = true) (hb : L2.Binds X.K (PySem.W.fnOf x x pg bg sg dV kV doc pm an cdv ct) [a] []) (Sg : FnScope Ng [a] sg) (hNg : Ng[0]? = some a) (hva : Vis sg a)
    (hG : GivesV X Ng x sg g cdv bg a TT) (fam : Fam X ι F G) (ha : ∀ (z : Shared) (Z : Hp) (L : Addr) (cl : List (Str × Addr)) (fp : List Addr), PA (bCx X z Z sc L cl fp) [e] ta) (hr : Room (k + 2) X.A)
    (hbody : ∀ (i : ι) (A : Around) (outer : List Env) (s : Shared) (H : Hp) (E : XK) (f : Addr), Room k (A.deeper (lamEnv X (F i).scope s.heap.objs.size f (F i).c)) → PE (lamCx X A outer s H E (F i).scope f (F i).c) (F i).body (t i E))
    (hst : ∀ (L : Addr) (cl : List (Str × Addr)), starEach [e] (compEnvC sc cl L X.env) = (false, eval e (compEnvC sc cl L X.env)) :: starEach [] (compEnvC sc cl L X.env) := by intros; rfl)
    (hpl : ∀ (L : Addr) (cl : List (Str × Addr)), (backTo pos (starEach ([] : List Expr) (compEnvC sc cl L X.env))).any (·.1) = false := by intros; rfl)
    (hdb : (x == ("__debug__" : Str)) = false := by decide) (hd : (a == ("__debug__" : Str)) = false := by decide) (hcd : (a == ("__classdict__" : Str)) = false := by decide) (τ : L2.St) :
    ElB X τ sc (.Call (.Name x p) [e] [] pos) (tLamB F G TT ta t τ) := by
  intro pinsX z Z L cl fp IX fpo
  refine ⟨fun pins s σ H Q I h => ?_⟩
  have hex : ∀ y d, X.env.cells.lookup y = some d → d ∉ fp := fun y d hy hd => (fpo d hd).2.2.2.2.1 y d hy rfl
  refine wpAny_Call_Name_kw (ld_glob I (hg z Z L cl fp) hm ?_ hdb)
  refine PySem.W.callWith_K (h₀ := X.base) I.ok.mod.kin hk (thn ((ha z Z L cl fp).run pos pins s σ H _ I h) fun us s1 ⟨vs, H1, I1, r, q⟩ => ⟨I1.kIn, ?_⟩) (hst L cl) (hpl L cl)
  obtain ⟨f, i, rfl, e1, e2, e3, q⟩ := q
  rw [Vals.ref1 r]
  have rc : codeAny (model X.prog X.w) X.A (.call (.ref g) ⟨[.ref f], []⟩) (CR C8.CX0 X.stack X.prog X.w H1 s1 Q C8.E0) s1 := by
    refine run_ofS (N := Ng) (ps := [a]) (us := [.ref f]) (vs := [.ref f]) lk hcg Sg hr I1.env0 (hb s1 [.ref f] I1.kIn rfl) (.cons rfl .nil) rfl fun hr2 => ?_
    have go := hG f (fun HZ => HZ f = some (LamO f (F i)) ∧ HZ (F i).c = some (CodeO (F i).c (F i).q) ∧ G i HZ) s1 H1 Q (fun E H' Q' => t i E τ H' Q') (fun W pn xe p1 p2 tk => by
      have act := pe_actVB (i := 0) (p1 := p1) (p2 := p2) (E := fun σ' cls d H' => W cls d σ' H') (tb := t i) IX hex I1.base (fam.nm i) (fam.cl i) (fam.q i) (fam.bind i) tk (fun _ _ _ _ z => z) hr2 (fun E' A outer s H hr3 => hbody i A outer s H E' f hr3) hNg hva hd hcd
      exact ⟨fun pins2 s2 σ2 H2 Q2 I2 ⟨a1, ⟨a2, a3, a4⟩, a5⟩ => act.run pins2 s2 σ2 H2 Q2 I2 ⟨a1, a2, a3, a4, a5⟩⟩) ⟨e1, e2, e3⟩ q
    obtain ⟨t', ht', hq'⟩ := go
    exact ⟨t', ht'.nox, hq'⟩
  refine wpAny_call (codeAny_mono rc fun r s2 hh => ?_)
  cases r with
  | error e => exact (show False from hh).elim
  | ok fl =>
    cases fl with
    | ret u => exact I1.after hh
    | next => exact hh.elim
    | brk => exact hh.elim
    | cont => exact hh.elim
/-- a() in the block, a its own name -/
theorem el_actB {ι : Type} {F : ι → LF} {G : ι → Hp → Prop} {sc : Scope} {j k : Nat} {a : Str} {t : ι → TE} {p1 p2 : Pos} (fam : Fam X ι F G) (hr : Room (k + 1) X.A)
    (hbody : ∀ (i : ι) (A : Around) (outer : List Env) (s : Shared) (H : Hp) (f : Addr), Room k (A.deeper (lamEnv X (F i).scope s.heap.objs.size f (F i).c)) → PE (lamCx X A outer s H C8.E0 (F i).scope f (F i).c) (F i).body (t i))
    (hN : X.N[j]? = some a) (hv : ∀ (L : Addr) (cl : List (Str × Addr)), Vis (compEnvC sc cl L X.env).scope a) (hd : (a == ("__debug__" : Str)) = false := by decide) (hcd : (a == ("__classdict__" : Str)) = false := by decide) (τ : L2.St) :
    ElB X τ sc (.Call (.Name a p1) [] [] p2) (fun σ H Q => ∃ (f : Addr) (i : ι), σ[j]? = some (some (.ref f)) ∧ H f = some (LamO f (F i)) ∧ H (F i).c = some (CodeO (F i).c (F i).q) ∧ G i H ∧ t i τ H Q) := by
  intro pinsX z Z L cl fp IX fpo
  refine ⟨fun pins s σ H Q I h => ?_⟩
  have hex : ∀ y d, X.env.cells.lookup y = some d → d ∉ fp := fun y d hy hd => (fpo d hd).2.2.2.2.1 y d hy rfl
  obtain ⟨f, i, hs, hf, hc, hg, ht⟩ := h
  refine wpAny_Call_Name_kw (thn ((pe_var (X := bCx X z Z sc L cl fp) (pos := p1) (i := j) hN (hv L cl) hd hcd).run pins s σ H (fun v H1 => v = .ref f ∧ H1 = H) I ⟨.ref f, hs, rfl, rfl⟩) fun u s2 ⟨v, H2, I2, rv, e1, e2⟩ => ?_)
  subst e1
  rw [e2] at I2
  obtain rfl : u = Value.ref f := rv
  obtain ⟨⟨doc, pm, ctv, of1⟩, _, _⟩ := I2.hok f _ hf
  obtain ⟨⟨oc, vs, tt, c1, c2, c3⟩, _, _⟩ := I2.hok (F i).c _ hc
  refine PySem.W.callWith_F0 ⟨_, _, _, _, of1⟩ ?_
  have un : Un (frs X.stack) fp Z H z.heap s2.heap := I2.base
  obtain ⟨binds, hbi, hloc⟩ := fam.bind i doc pm ctv s2 H I2.hok hg
  have rc : codeAny (model X.prog X.w) X.A (.call (.ref f) ⟨[], []⟩) (CR (L2.CX X.prog X.w) X.stack X.prog X.w H s2 Q C8.E0) s2 := by
    refine PySem.W.kla_callFunE hr.depth of1 rfl (fam.nm i).co (fam.nm i).gen rfl ⟨(F i).c, oc, vs, tt, rfl, c1, c2, c3⟩ (hbi _ _ _ _ ?_)
    refine wpAny_newFunctionEnv (fam.nm i).nocell hloc (fun h1 hns hsb => ⟨I2.nolimit.fresh _ hsb, ?_⟩) (fam.nm i).kind
    have ee : PySem.W.envX (F i).q (F i).scope s2.heap.objs.size f (.ref (F i).c) (F i).cl = lamEnv X (F i).scope s2.heap.objs.size f (F i).c := by rw [fam.q i, fam.cl i]
    show codeAny _ _ (.expr (F i).body (PySem.W.envX (F i).q (F i).scope s2.heap.objs.size f (.ref (F i).c) (F i).cl)) _ _
    rw [ee]
    have kp : ∀ b o, s2.heap.get? b = some o → h1.get? b = some o := fun b o q => hsb.extBut b o (Nat.ne_of_lt (Heap.lt_size q)) (Heap.get?_push_of_some _ q)
    have J := lam_enter (E := C8.E0) (scope := (F i).scope) (f := f) (c' := (F i).c) (tk := s2.toks + binds.length) IX (fam.nm i) I2.env0 hr.hd hex un hns kp
    refine PySem.W.kla_codeExpr (wpAny_mono ((hbody i _ _ s2 H f (hr.deeper _)).run [] _ _ H Q J ht) (fun v s' hh => ?_) fun q s' hh => hh)
    obtain ⟨w', H', J', r', q'⟩ := hh
    exact ⟨w', H', J'.os, J'.bare, J'.base, J'.hok, r', q'⟩
  refine wpAny_call (codeAny_mono rc fun r s3 hh => ?_)
  cases r with
  | error q =>
    obtain ⟨_, _, _, _, _, _, _, _, _, _, _, _, z⟩ := (show L2.CX X.prog X.w X.stack H s2 C8.E0 q s3 from hh)
    exact (show False from z).elim
  | ok fl =>
    cases fl with
    | ret u => exact I2.after hh
    | next => exact hh.elim
    | brk => exact hh.elim
    | cont => exact hh.elim
end
end Rl
/-! One more rule beside the layer's: ring >> int, the class's own sign. -/
namespace Rz
open PySem PySem.Spec PyProof.Rows L2
section
variable {X : Cx}
def rShO (C : Addr) (sp : Sp) (E : XK) : R2 := fun x y H Q => ∃ (a dx : Addr) (fs : List (Str × V)) (i : Int), x = .ref a ∧ y = .int i ∧ H a = some (.ins C dx fs) ∧ sp [.ref a, .int i] H (fun v H' => (∃ b : Addr, v = .ref b) ∧ Q v H') E
theorem op_shO {CX : CXT} {k : Nat} {f C : Addr} {sp : Sp} {E : XK} {fo ro : Option Value} (hc : PySem.W.selfFirst X.K C = true) (hs : PySem.W.findIn X.K (.ref C) "__rshift__" = some (some (.ref f))) (hf : PySem.W.isFn X.K (.ref f) = true)
    (hn : PySem.W.findIn X.K (.ref C) "__rrshift__" = some none) (h1 : PySem.W.findIn X.K (.type "int") "__rshift__" = some fo) (h2 : PySem.W.findIn X.K (.type "int") "__rrshift__" = some ro) (hsub : PySem.W.subIn X.K (.type "int") (.ref C) = some false)
    (F : FnR X.prog X.w X.K X.mg X.base CX k f sp) (hr : Room k X.A) (hx : Passes CX X E) : OpR X (binaryOp .RShift) (rShO C sp E) := by
  intro pins s σ H x y v u Q I rx ry h
  obtain ⟨a, dx, fs, i, rfl, rfl, ea, q⟩ := h
  obtain rfl : v = Value.ref a := rx
  obtain ⟨t, rfl⟩ := ry
  obtain ⟨mA, O, _⟩ := ins_get I.hok ea
  obtain ⟨od, J, _⟩ := O.look
  obtain ⟨m, hns, _⟩ := I.loc
  refine PySem.W.ksp_binT (op := .RShift) (T := "int") ⟨hns, I.bk, Nat.le_trans I.ok.bsz I.ok.above⟩ I.ok.mod.kin J rfl hc hs hf hn (.inl rfl) h1 h2 hsub ?_
  refine wpAny_call (codeAny_mono (F X.A X.stack s H [.ref a, .int i t] [.ref a, .int i] _ E hr I.env0 (.cons rfl (.cons ⟨_, rfl⟩ .nil)) q) fun r s' hq => ?_)
  cases r with
  | error e => exact hx pins σ H s e s' I hq
  | ok fl =>
    cases fl with
    | ret u =>
      obtain ⟨v, H', J', rv, ⟨b, rfl⟩, q'⟩ := I.after hq
      obtain rfl : u = Value.ref b := rv
      exact ⟨.ref b, H', J', rfl, q'⟩
    | next => exact False.elim hq
    | brk => exact False.elim hq
    | cont => exact False.elim hq
end
end Rz
/-! Own signs: o[i], o == x, o >> x; a class held by a local name is called. -/
namespace Rz
open PySem PySem.Spec PyProof.Rows L2
section
variable {X : Cx} {CX : CXT} {k : Nat} {f C : Addr} {sp : Sp} {E : XK} {pins : List (Addr × Obj)} {s : Shared} {σ : L2.St} {H : Hp} {Q : VK}
/-- an own def is called within one more step -/
theorem run_in1 {us : List Value} {vs : List V} (F : FnR X.prog X.w X.K X.mg X.base CX k f sp) (hr : Room (k + 1) X.A) (hx : Passes CX X E) (I : Inv X pins σ H s) (r : Vals vs us) (q : sp vs H Q E) :
    wpAny (model X.prog X.w) X.A.in1 (call (.ref f) us) (EP X pins σ Q) X.xe s := by
  have e := I.env0
  have e0 : Env0 X.prog X.w X.K X.mg X.base X.A.in1 X.stack s H := ⟨e.frames, e.mod, e.bs, e.bsz, e.funs, e.frf, e.hok, e.bare⟩
  refine wpAny_call (codeAny_mono (F X.A.in1 X.stack s H us vs _ E hr.in1 e0 r q) fun r s' hq => ?_)
  cases r with
  | error e => exact hx pins σ H s e s' I hq
  | ok fl =>
    cases fl with
    | ret u => exact I.after hq
    | next => exact False.elim hq
    | brk => exact False.elim hq
    | cont => exact False.elim hq
theorem run_here {us : List Value} {vs : List V} (F : FnR X.prog X.w X.K X.mg X.base CX k f sp) (hr : Room k X.A) (hx : Passes CX X E) (I : Inv X pins σ H s) (r : Vals vs us) (q : sp vs H Q E) :
    wpAny (model X.prog X.w) X.A (call (.ref f) us) (EP X pins σ Q) X.xe s := by
  refine wpAny_call (codeAny_mono (F X.A X.stack s H us vs _ E hr I.env0 r q) fun r s' hq => ?_)
  cases r with
  | error e => exact hx pins σ H s e s' I hq
  | ok fl =>
    cases fl with
    | ret u => exact I.after hq
    | next => exact False.elim hq
    | brk => exact False.elim hq
    | cont => exact False.elim hq
/-- o[y], o of the class at C -/
def rIxO (C : Addr) (sp : Sp) (E : XK) : R2 := fun x y H Q => ∃ (p dx : Addr) (fs : List (Str × V)), x = .ref p ∧ H p = some (.ins C dx fs) ∧ sp [.ref p, y] H Q E
theorem pe_ixO {a b : Expr} {ta tb : TE} {pos : Pos} (hs : PySem.W.findIn X.K (.ref C) "__getitem__" = some (some (.ref f))) (hf : PySem.W.fnIn X.K f = true) (hfn : PySem.W.isFn X.K (.ref f) = true)
    (F : FnR X.prog X.w X.K X.mg X.base CX k f sp) (hr : Room (k + 1) X.A) (hx : Passes CX X E) (ha : PE X a ta) (hb : PE X b tb)
    (hsl : ∀ (o : Addr) (i : Value), subscripted b true (.ref o) i = runValue (.builtin "lifetime.subscript" ⟨[.ref o, i], []⟩) := by intro _ _; with_unfolding_all rfl) : PE X (.Subscript a b pos) (tOp (rIxO C sp E) ta tb) := by
  refine ⟨fun pins s σ H Q I h => Subscript_ (binT ha hb I h fun v u s2 x y H2 I2 rx ry q => ?_)⟩
  obtain ⟨p, dx, fs, rfl, hp, q⟩ := q
  obtain rfl : v = Value.ref p := rx
  obtain ⟨mA, O, _⟩ := ins_get I2.hok hp
  obtain ⟨od, J, _⟩ := O.look
  obtain ⟨m, hns, _⟩ := I2.loc
  exact PySem.W.sub_K ⟨hns, I2.bk, Nat.le_trans I2.ok.bsz I2.ok.above⟩ I2.ok.mod.kin J hs hf hfn (run_in1 F hr hx I2 (vs := [.ref p, y]) (.cons rfl (.cons ry .nil)) q) (hsl p u)
/-- the other side of an own sign: of the same class, or of a built-in kind -/
def Oth (C : Addr) (H : Hp) (y : V) : Prop := (∃ (b dy : Addr) (gs : List (Str × V)), y = .ref b ∧ H b = some (.ins C dy gs)) ∨ ∃ (b : Addr) (xs : List V), y = .ref b ∧ H b = some (.tup xs)
def rEqO (C : Addr) (sp : Sp) (E : XK) : R2 := fun x y H Q => ∃ (a dx : Addr) (fs : List (Str × V)), x = .ref a ∧ H a = some (.ins C dx fs) ∧ Oth C H y ∧ sp [.ref a, y] H (fun v H' => (∃ k, v = .bl k) ∧ Q v H') E
theorem op_eqO (hs : PySem.W.findIn X.K (.ref C) "__eq__" = some (some (.ref f))) (hf : PySem.W.isFn X.K (.ref f) = true) (ht : PySem.W.subIn X.K (.type "tuple") (.ref C) = some false)
    (F : FnR X.prog X.w X.K X.mg X.base CX k f sp) (hr : Room k X.A) (hx : Passes CX X E) : OpR X (compareOp .Eq) (rEqO C sp E) := by
  intro pins s σ H x y v u Q I rx ry h
  obtain ⟨a, dx, fs, rfl, ha, ho, q⟩ := h
  obtain rfl : v = Value.ref a := rx
  obtain ⟨mA, O, _⟩ := ins_get I.hok ha
  obtain ⟨od, J, _⟩ := O.look
  obtain ⟨m, hF⟩ := I.fr
  have back : ∀ (w : Value) (s' : Shared), EP X pins σ (fun v H' => (∃ k, v = V.bl k) ∧ Q v H') w s' → PySem.W.CmpBack (EP X pins σ Q) w s' := fun w s' h => by
    obtain ⟨z, H', I', rz, ⟨k, rfl⟩, q'⟩ := h
    cases rz
    exact ⟨.bl k, H', I', rfl, q'⟩
  show wpAny (model X.prog X.w) X.A (richCompare .Eq (.ref a) u) (EP X pins σ Q) X.xe s
  have hu : X.A.units < cLine := hr.units0
  rcases ho with ⟨b, dy, gs, rfl, hb⟩ | ⟨b, xs, rfl, hb⟩
  · obtain rfl : u = Value.ref b := ry
    obtain ⟨mB, O', _⟩ := ins_get I.hok hb
    obtain ⟨od', J', _⟩ := O'.look
    exact PySem.W.cmp_K (op := .Eq) (tb := .ref C) hu hF I.ok.mod.kin J J'.type (by simp [PySem.W.notFirst]) hs hf (wpAny_mono (run_here F hr hx I (vs := [.ref a, .ref b]) (.cons rfl (.cons rfl .nil)) q) back fun _ _ e => e)
  · obtain rfl : u = Value.ref b := ry
    obtain ⟨its, _, p1, _⟩ := I.tuple (SqT.of (K := X.K) hb)
    have L : PySem.W.Looks (model X.prog X.w) s.heap (typeOf (.ref b)) (.type "tuple") := by
      obtain ⟨o, ho, hc, _⟩ := p1
      exact fun A Q E s k q => wpAny_typeOf_ref (k _ _ ho) (by rw [hc]; exact q)
    exact PySem.W.cmp_K (op := .Eq) (tb := .type "tuple") hu hF I.ok.mod.kin J L (by simp [PySem.W.notFirst, ht]) hs hf (wpAny_mono (run_here F hr hx I (vs := [.ref a, .ref b]) (.cons rfl (.cons rfl .nil)) q) back fun _ _ e => e)
/-- o >> y, y of the built-in kind T -/
def rShV (C : Addr) (T : String) (sp : Sp) (E : XK) : R2 := fun x y H Q => ∃ (a dx : Addr) (fs : List (Str × V)), x = .ref a ∧ H a = some (.ins C dx fs) ∧ (∀ u, RelV y u → typeOf u = pure (.type T)) ∧ sp [.ref a, y] H (fun v H' => (∃ b : Addr, v = .ref b) ∧ Q v H') E
theorem op_shV {T : String} {fo ro : Option Value} (hc : PySem.W.selfFirst X.K C = true) (hs : PySem.W.findIn X.K (.ref C) "__rshift__" = some (some (.ref f))) (hf : PySem.W.isFn X.K (.ref f) = true)
    (hn : PySem.W.findIn X.K (.ref C) "__rrshift__" = some none) (h1 : PySem.W.findIn X.K (.type T) "__rshift__" = some fo) (h2 : PySem.W.findIn X.K (.type T) "__rrshift__" = some ro) (hsub : PySem.W.subIn X.K (.type T) (.ref C) = some false)
    (F : FnR X.prog X.w X.K X.mg X.base CX k f sp) (hr : Room k X.A) (hx : Passes CX X E) : OpR X (binaryOp .RShift) (rShV C T sp E) := by
  intro pins s σ H x y v u Q I rx ry h
  obtain ⟨a, dx, fs, rfl, ea, hT, q⟩ := h
  obtain rfl : v = Value.ref a := rx
  obtain ⟨mA, O, _⟩ := ins_get I.hok ea
  obtain ⟨od, J, _⟩ := O.look
  obtain ⟨m, hns, _⟩ := I.loc
  refine PySem.W.ksp_binT (op := .RShift) (T := T) ⟨hns, I.bk, Nat.le_trans I.ok.bsz I.ok.above⟩ I.ok.mod.kin J (hT u ry) hc hs hf hn (.inl rfl) h1 h2 hsub ?_
  refine wpAny_mono (run_here F hr hx I (vs := [.ref a, y]) (.cons rfl (.cons ry .nil)) q) (fun w s' z => ?_) fun _ _ e => e
  obtain ⟨z, H', I', rz, ⟨b, rfl⟩, q'⟩ := z
  obtain rfl : w = Value.ref b := rz
  exact ⟨.ref b, H', I', rfl, q'⟩
/-- x(..), x a local name that holds the class at C -/
def tMakeL (i : Nat) (C : Addr) (sp : Sp) (E : XK) (t : TA) : TE := fun σ H Q => σ[i]? = some (some (.ref C)) ∧ StX.tMakeR C sp E t σ H Q
theorem pe_makeL {i : Nat} {x : Str} {e : Expr} {es : List Expr} {t : TA} {p pos : Pos} (M : Mk X.K C f) (F : FnR X.prog X.w X.K X.mg X.base CX k f sp) (hr : Room (k + 1) X.A) (hN : X.N[i]? = some x) (hv : Vis X.env.scope x) (hx : Passes CX X E) (ha : PA X (e :: es) t)
    (hdb : (x == ("__debug__" : Str)) = false := by decide) (hcd : (x == ("__classdict__" : Str)) = false := by decide)
    (he : starEach (e :: es) X.env = (false, eval e X.env) :: starEach es X.env := by rfl) (hpl : (backTo pos (starEach es X.env)).any (·.1) = false := by rfl) : PE X (.Call (.Name x p) (e :: es) [] pos) (tMakeL i C sp E t) := by
  refine ⟨fun pins s σ H Q I h => ?_⟩
  obtain ⟨hs, ht⟩ := h
  have look := (pe_var (pos := p) hN hv hdb hcd).run pins s σ H (fun v H1 => v = .ref C ∧ H1 = H) I ⟨.ref C, hs, rfl, rfl⟩
  refine wpAny_Call_Name_kw (thn look fun u s1 hq => ?_)
  obtain ⟨v, H1, I1, r1, rfl, rfl⟩ := hq
  cases r1
  have args := ha.run pos pins s1 σ _ _ I1 ht
  exact PySem.W.callWith_K (h₀ := X.base) I.ok.mod.kin M.kp (thn args fun us s2 hq2 => by
    obtain ⟨vs, H2, I2, r, q⟩ := hq2
    exact ⟨I2.kIn, StX.run_makeR M F hr hx I2 r q⟩) he hpl
end
end Rz
/-! isinstance of a caught error of an own class that has a dict of its own. -/
namespace Rp
open PySem PySem.Spec PySem.Calls PyProof.Rows PySem.W
theorem kit_exc {K : Frag} {e D : Addr} {oe : Obj} {od : Option Obj} (C : L2.ExcC K D) : KitX K (.ref e) (.ref D) (fun h => InstAt h e oe D od) :=
  kitx_exc (by obtain ⟨cd, hcd, _⟩ := any_some C.hd; exact Option.isSome_iff_exists.mpr ⟨cd, hcd⟩) C.hg C.hk C.hs C.ha C.hn C.ht C.hm
end Rp
namespace Rp
open PySem PySem.Spec PyProof.Rows L2
/-- isinstance(e, c), e the exception that the suite holds, its dict at dd -/
theorem call_isF {X : Cx} {a D dd : Addr} {oe : Obj} {pn : List (Addr × Obj)} (C : ExcC X.K D) (hz : Zc (.ref D) (some dd) oe) (hf : ∃ vs, oe.data = .fields vs) :
    CallR (X.suite a ((a, oe) :: pn)) (.builtin "isinstance") (fun xs H Q => (∃ fs, H dd = some (.xd fs)) ∧ rIsE X.K D a xs H Q) := by
  intro pins s σ H xs us Q I r h
  obtain ⟨⟨fs, hd⟩, c, cv, b, rfl, hcv, e, q⟩ := h
  match us, r with
  | [_, _], .cons rx (.cons rt .nil) =>
    cases rx
    have ec := hcv _ rt
    subst ec
    obtain ⟨at0, _⟩ := I.pin (a, oe) (List.mem_append.mpr (.inl List.mem_cons_self))
    obtain ⟨mA, hns, _⟩ := (show ObjOk X.prog X.w H s.heap dd (.xd fs) from I.hok dd _ hd)
    obtain ⟨o2, ho2, _⟩ := lookIn_ns hns
    obtain ⟨vs, hv⟩ := hf
    have J : PySem.W.InstAt s.heap a oe D (some o2) := ⟨at0, hz.1, by unfold PySem.W.notCls; rw [hv] <;> rfl, by rw [hz.2]; exact ho2⟩
    exact PySem.W.kia_one (kit_exc C) I.kIn J e (fun z => nomatch z) fun tk => ⟨.bl b, H, I.kept (t' := tk) fun _ _ z => z, rfl, q⟩
end Rp
/-! Checks that raise, the raised class known by RxE. -/
namespace Rp
open PySem PySem.Spec PyProof.Rows L2 Rz Rm Rl
/-- the class of an error without fields, as the program raises it -/
structure RxE (K : PySem.W.Frag) (mg : Str → Option Value) (x : Str) (D : Addr) : Prop where
  g : mg x = some (.ref D)
  xF : PySem.W.excIn K D [.type "ValueError", .type "Exception", .type "BaseException", .type "object"] "ValueError.__new__" = true
  bF : PySem.W.subIn K (.ref D) (.type "BaseException") = some true
  tF : PySem.W.typeIn K (.ref D) = some (.type "type")
  kF : PySem.W.keepIn K (.ref D) = true
/-- v is a number or not -/
def NumV (K : PySem.W.Frag) (H : Hp) (v : V) (b : Bool) : Prop := (∃ i, v = .int i ∧ b = true) ∨ (∃ y, v = .bl y ∧ b = false) ∨ (∃ t : String, TyX K H v (.type t) ∧ kitB t "int" = some false ∧ b = false)
/-- v lies between lo and hi, or not -/
def LieV (K : PySem.W.Frag) (H : Hp) (v : V) (lo hi : Int) (b : Bool) : Prop := (∃ i, v = .int i ∧ b = (decide (lo ≤ i) && decide (i ≤ hi))) ∨ (NumV K H v false ∧ b = false)
section
variable {P : Program} {w : World} {K : PySem.W.Frag} {mg : Str → Option Value} {base : Heap}
def spIsNumV (K : PySem.W.Frag) : Sp := fun vs H Q _ => ∃ (v : V) (b : Bool), vs = [v] ∧ NumV K H v b ∧ Q (.bl b) H
theorem ok_is_numberV (T : Tx K mg) : FnOk P w K mg base CX0 1 T.a_is_number T.d_is_number P_is_number (spIsNumV K) := by
  refine T.F_is_number.ok sc_is_number (fun vs H Q E h => ?_) (fun cdv A outer s H vs Q E hr h => ?_)
  · obtain ⟨i, b, rfl, _⟩ := h
    rfl
  · obtain ⟨v, b, rfl, hv, q⟩ := h
    refine ⟨_, pss_one (ps_ret (pe_and (pe_callB call_isi (by rfl) T.z_isinstance (by decide +kernel) (pa_cons (pv 0) (pa_cons (pe_bltn (v := .ty "int") (u := .type "int") (by rfl) T.z_int (by decide +kernel) rfl) pa_nil)))
      (pe_one (pe_not (pe_callB call_isi (by rfl) T.z_isinstance (by decide +kernel) (pa_cons (pv 0) (pa_cons (pe_bltn (v := .ty "bool") (u := .type "bool") (by rfl) T.z_bool (by decide +kernel) rfl) pa_nil))))))), ?_⟩
    rcases hv with ⟨i, rfl, rfl⟩ | ⟨y, rfl, rfl⟩ | ⟨t, ht, hk, rfl⟩
    · refine ⟨.int i, rfl, .int i, .ty "int", .type "int", .type "int", true, rfl, .ty _, .base (.int i), kit_ty (by decide +kernel), true, rfl, iteT ?_⟩
      exact ⟨.int i, rfl, .int i, .ty "bool", .type "int", .type "bool", false, rfl, .ty _, .base (.int i), kit_ty (by decide +kernel), false, rfl, q⟩
    · refine ⟨.bl y, rfl, .bl y, .ty "int", .type "bool", .type "int", true, rfl, .ty _, .base (.bl y), kit_ty (by decide +kernel), true, rfl, iteT ?_⟩
      exact ⟨.bl y, rfl, .bl y, .ty "bool", .type "bool", .type "bool", true, rfl, .ty _, .base (.bl y), kit_ty (by decide +kernel), true, rfl, q⟩
    · exact ⟨v, rfl, v, .ty "int", .type t, .type "int", false, rfl, .ty _, ht, kit_ty hk, false, rfl, iteF q⟩
def spLiesV (K : PySem.W.Frag) : Sp := fun vs H Q _ => ∃ (v : V) (lo hi : Int) (b : Bool), vs = [v, .int lo, .int hi] ∧ LieV K H v lo hi b ∧ Q (.bl b) H
theorem ok_liesV (T : Tx K mg) : FnOk P w K mg base CX0 2 T.a_lies_between T.d_lies_between P_lies_between (spLiesV K) := by
  refine T.F_lies_between.ok sc_lies_between (fun vs H Q E h => ?_) (fun cdv A outer s H vs Q E hr h => ?_)
  · obtain ⟨v, lo, hi, b, rfl, _⟩ := h
    rfl
  · obtain ⟨v, lo, hi, b, rfl, hv, q⟩ := h
    refine ⟨_, pss_one (ps_ret (pe_and (pe_call (ok_is_numberV T) hr (by rfl) T.g_is_number T.F_is_number.kp T.b_is_number .nil pass0 (pa_cons (pv 0) pa_nil)) (pe_one (pe_chain op_le op_le (pv 1) (pv 0) (pv 2))))), ?_⟩
    rcases hv with ⟨i, rfl, rfl⟩ | ⟨hn, rfl⟩
    · refine ⟨.int i, rfl, .int i, true, rfl, .inl ⟨i, rfl, rfl⟩, true, rfl, iteT ?_⟩
      refine ⟨.int lo, rfl, .int i, rfl, lo, i, rfl, rfl, decide (lo ≤ i), rfl, ?_⟩
      by_cases h : lo ≤ i
      · rw [decide_eq_true h] at q ⊢
        exact iteT ⟨.int hi, rfl, i, hi, rfl, rfl, q⟩
      · rw [decide_eq_false h] at q ⊢
        exact iteF q
    · exact ⟨v, rfl, v, false, rfl, hn, false, rfl, iteF q⟩
/-- check_number: passes, or raises InvalidNumber -/
def spChkX (K : PySem.W.Frag) (CN : Addr) : Sp := fun vs H Q E => ∃ (v : V) (lo hi : Int) (b : Bool), vs = [v, .int lo, .int hi] ∧ LieV K H v lo hi b ∧ (b = true → Q .non H) ∧ (b = false → E (.ref CN) none H)
theorem ok_chkX {CN : Addr} (T : Tx K mg) (E4 : RxE K mg "InvalidNumber" CN) : FnOk P w K mg base (L2.CX P w) 3 T.a_check_number T.d_check_number P_check_number (spChkX K CN) := by
  refine T.F_check_number.okX sc_check_number (fun vs H Q E h => ?_) (fun cdv A outer s H vs Q E hr h => ?_)
  · obtain ⟨v, lo, hi, b, rfl, _⟩ := h
    rfl
  · obtain ⟨v, lo, hi, b, rfl, hv, q1, q2⟩ := h
    refine ⟨_, pss_one (ps_if (pt_not (pt_val (pe_call (ok_liesV T) hr (by rfl) T.g_lies_between T.F_lies_between.kp T.b_lies_between .nil pass0 (pa_cons (pv 0) (pa_cons (pv 1) (pa_cons (pv 2) pa_nil))))))
      (pss_one (ps_raise rfl (takes_of rfl rfl rfl rfl) (pmk_own PySem.F.excBase_ValueError E4.xF E4.g E4.kF (raises_own E4.bF E4.tF) (by exact rfl)))) pss_nil), ?_⟩
    refine ⟨v, rfl, .int lo, rfl, .int hi, rfl, v, lo, hi, b, rfl, hv, b, rfl, ?_⟩
    cases b with
    | true => exact iteF (q1 rfl)
    | false => exact iteT (q2 rfl)
theorem lie_int {K : PySem.W.Frag} {H : Hp} {r lo hi : Int} (h0 : lo ≤ r) (h1 : r ≤ hi) : LieV K H (.int r) lo hi true := .inl ⟨r, rfl, by rw [decide_eq_true h0, decide_eq_true h1]; rfl⟩
theorem lie_no {K : PySem.W.Frag} {H : Hp} {v : V} {lo hi : Int} (h : (∃ r, v = .int r ∧ (r < lo ∨ hi < r)) ∨ v = .non ∨ v = .bl true) : LieV K H v lo hi false := by
  rcases h with ⟨r, rfl, h⟩ | rfl | rfl
  · refine .inl ⟨r, rfl, ?_⟩
    rcases h with h | h
    · rw [decide_eq_false (by omega)]; rfl
    · rw [decide_eq_false (show ¬ r ≤ hi by omega), Bool.and_false]
  · exact .inr ⟨.inr (.inr ⟨"NoneType", .base .non, by decide +kernel, rfl⟩), rfl⟩
  · exact .inr ⟨.inr (.inl ⟨true, rfl, rfl⟩), rfl⟩
end
end Rp
/-! Tables of live rings: where the books are. -/
namespace Rp
open PySem PySem.Spec PyProof.Rows L2 Rz Rm Rl
theorem pi_listK {X : Cx} {tg l : Expr} {tl : TE} {K : PySem.W.Frag} (hK : X.K = K) (hl : PE X l tl) : PI X tg l (iList K tl) := by
  subst hK
  exact pi_list hl
/-- the books at a reader, the one that is read first -/
def bkA (hp : Nat → List Int) (cu : Nat → Option (Int × Int)) (j : Nat) : List Int := match cu j with
  | none => []
  | some (b, _) => b :: hp j
/-- all books -/
def bks (hp : Nat → List Int) (cu : Nat → Option (Int × Int)) (n : Nat) : List Int := ((List.range n).map (bkA hp cu)).flatten
/-- by book where it is -/
def plK (hp : Nat → List Int) (cu : Nat → Option (Int × Int)) (n : Nat) : List (Key × V) := ((List.range n).map fun j => (bkA hp cu j).map fun b => ((.inl b : Key), V.int (j : Nat))).flatten
theorem bks_suc (hp : Nat → List Int) (cu : Nat → Option (Int × Int)) (n : Nat) : bks hp cu (n + 1) = bks hp cu n ++ bkA hp cu n := by
  unfold bks
  rw [List.range_succ, List.map_append, List.flatten_append]
  simp
theorem bks_pre (hp : Nat → List Int) (cu : Nat → Option (Int × Int)) {i : Nat} : ∀ {n : Nat}, i ≤ n → ∃ B, bks hp cu n = bks hp cu i ++ B
  | 0, h => ⟨[], by rw [show i = 0 by omega, List.append_nil]⟩
  | n + 1, h => by
    by_cases e : i = n + 1
    · exact ⟨[], by rw [e, List.append_nil]⟩
    · obtain ⟨B, hB⟩ := bks_pre hp cu (i := i) (n := n) (by omega)
      exact ⟨B ++ bkA hp cu n, by rw [bks_suc, hB, List.append_assoc]⟩
theorem plK_suc (hp : Nat → List Int) (cu : Nat → Option (Int × Int)) (n : Nat) : plK hp cu (n + 1) = plK hp cu n ++ (bkA hp cu n).map fun b => ((.inl b : Key), V.int (n : Nat)) := by
  unfold plK
  rw [List.range_succ, List.map_append, List.flatten_append]
  simp
theorem plK_keys (hp : Nat → List Int) (cu : Nat → Option (Int × Int)) : ∀ n, (plK hp cu n).map (·.1) = (bks hp cu n).map Sum.inl
  | 0 => rfl
  | n + 1 => by
    rw [plK_suc, bks_suc, List.map_append, List.map_append, plK_keys hp cu n, List.map_map]
    rfl
theorem plK_len (hp : Nat → List Int) (cu : Nat → Option (Int × Int)) (n : Nat) : (plK hp cu n).length = (bks hp cu n).length := by
  have := congrArg List.length (plK_keys hp cu n)
  rwa [List.length_map, List.length_map] at this
theorem bkA_sub {hp : Nat → List Int} {cu : Nat → Option (Int × Int)} {n j : Nat} (h : j < n) : ∀ b ∈ bkA hp cu j, b ∈ bks hp cu n := fun b hb => by
  unfold bks
  exact List.mem_flatten.mpr ⟨_, List.mem_map.mpr ⟨j, List.mem_range.mpr h, rfl⟩, hb⟩
theorem bks_mem {hp : Nat → List Int} {cu : Nat → Option (Int × Int)} {n : Nat} {b : Int} : b ∈ bks hp cu n ↔ ∃ j, j < n ∧ b ∈ bkA hp cu j := by
  unfold bks
  rw [List.mem_flatten]
  constructor
  · rintro ⟨l, hl, hb⟩
    obtain ⟨j, hj, rfl⟩ := List.mem_map.mp hl
    exact ⟨j, List.mem_range.mp hj, hb⟩
  · rintro ⟨j, hj, hb⟩
    exact ⟨_, List.mem_map.mpr ⟨j, List.mem_range.mpr hj, rfl⟩, hb⟩
theorem put_new {kvs : List (Key × V)} {k : Key} {v : V} (h : k ∉ kvs.map (·.1)) : putK kvs k v = kvs ++ [(k, v)] := by
  unfold putK
  rw [if_neg]
  intro z
  obtain ⟨p, hp, e⟩ := List.any_eq_true.mp z
  exact h (List.mem_map.mpr ⟨p, hp, of_decide_eq_true e⟩)
theorem valV_not {kvs : List (Key × V)} {k : Key} (h : k ∉ kvs.map (·.1)) : valV kvs k = none := by
  cases e : valV kvs k with
  | none => rfl
  | some v =>
    have := valV_any k kvs
    rw [e] at this
    obtain ⟨p, hp, e⟩ := List.any_eq_true.mp this
    exact absurd (List.mem_map.mpr ⟨p, hp, of_decide_eq_true e⟩) h
theorem valV_app {a b : List (Key × V)} {k : Key} : valV (a ++ b) k = match valV a k with | some v => some v | none => valV b k := by
  induction a with
  | nil => rfl
  | cons p r ih =>
    by_cases e : p.1 = k
    · rw [List.cons_append, valV_pos e, valV_pos e]
    · rw [List.cons_append, valV_neg e, valV_neg e, ih]
theorem valV_row {l : List Int} {b : Int} {v : V} (h : b ∈ l) : valV (l.map fun b => ((.inl b : Key), v)) (.inl b) = some v := by
  induction l with
  | nil => cases h
  | cons x r ih =>
    by_cases e : x = b
    · subst e
      exact valV_pos (p := ((.inl x : Key), v)) rfl
    · rw [List.map_cons, valV_neg (p := ((.inl x : Key), v)) (fun z => e (Sum.inl.inj z))]
      exact ih ((List.mem_cons.mp h).resolve_left fun z => e z.symm)
/-- where a book is -/
theorem plK_at {hp : Nat → List Int} {cu : Nat → Option (Int × Int)} : ∀ {n k : Nat} {b : Int}, (bks hp cu n).Nodup → k < n → b ∈ bkA hp cu k → valV (plK hp cu n) (.inl b) = some (.int (k : Nat))
  | n + 1, k, b, nd, hk, hb => by
    rw [plK_suc, valV_app]
    rw [bks_suc, List.nodup_append] at nd
    obtain ⟨n1, n2, n3⟩ := nd
    by_cases e : k = n
    · subst e
      rw [valV_not (fun z => by
        rw [plK_keys] at z
        obtain ⟨x, hx, ex⟩ := List.mem_map.mp z
        cases ex
        exact n3 _ hx _ hb rfl)]
      exact valV_row hb
    · rw [plK_at n1 (by omega) hb]
theorem plK_no {hp : Nat → List Int} {cu : Nat → Option (Int × Int)} {n : Nat} {b : Int} (h : b ∉ bks hp cu n) : valV (plK hp cu n) (.inl b) = none := valV_not fun z => by
  rw [plK_keys] at z
  obtain ⟨x, hx, ex⟩ := List.mem_map.mp z
  cases ex
  exact h hx
section
variable {P : Program} {w : World} {K : PySem.W.Frag} {mg : Str → Option Value} {base : Heap}
def spBat (C tC : Addr) : Sp := fun vs H Q _ => ∃ (tb dxt p dx td ts hl cl : Addr) (ha : List Addr) (cs : List V) (ds ss : List Int) (day coming : Int) (hp : Nat → List Int) (cu : Nat → Option (Int × Int)) (k : Nat), vs = [.ref tb, .int (k : Int)] ∧
  LvT C tC H tb dxt p dx td ts hl cl ha cs ds ss day coming hp cu ∧ k < ds.length ∧ ∀ H' L, Same H H' → H L = none → H' L = some (.lst ((bkA hp cu k).map V.int)) → Q (.ref L) H'
theorem ok_bat (T : Tx K mg) : FnOk P w K mg base CX0 1 T.a_books_at T.d_books_at P_books_at (spBat T.C T.tC) := by
  refine T.F_books_at.ok sc_books_at (fun vs H Q E h => ?_) (fun cdv A outer s H vs Q E hr h => ?_)
  · obtain ⟨tb, dxt, p, dx, td, ts, hl, cl, ha, cs, ds, ss, day, coming, hp, cu, k, rfl, _⟩ := h
    rfl
  · obtain ⟨tb, dxt, p, dx, td, ts, hl, cl, ha, cs, ds, ss, day, coming, hp, cu, k, rfl, M, hk, q⟩ := h
    refine ⟨_, pss_cons (ps_if (pt_cmpR op_isN (pe_ix ix_list (pe_fld (pv 0) rfl) (pv 1) (fun _ _ => rfl)) pe_non (nomark _)) (pss_one (ps_ret (pe_lst pa_nil))) pss_nil)
      (pss_one (ps_ret (pe_lst (pa_cons (pe_ix ix_tup (pe_ix ix_list (pe_fld (pv 0) rfl) (pv 1) (fun _ _ => rfl)) pe_int (fun _ _ => rfl)) (StX.pa_star (pe_ix ix_list (pe_fld (pv 0) rfl) (pv 1) (fun _ _ => rfl)) pa_nil))))), ?_⟩
    obtain ⟨cv, gc⟩ : ∃ v, cs[k]? = some v := ⟨_, List.getElem?_eq_getElem (by rw [M.lc]; exact hk)⟩
    obtain ⟨av, ga⟩ : ∃ a, ha[k]? = some a := ⟨_, List.getElem?_eq_getElem (by rw [M.lh]; exact hk)⟩
    have hcv := M.cv k cv gc
    have hva := M.hv k av ga
    have sm := M.sm k hk
    refine ⟨_, rfl, tb, _, dxt, _, _, rfl, M.ob, T.clt, T.nt_current, tbF_c _ _ _ _ _, _, rfl, cl, _, _, cv, rfl, rfl, .of M.fc, atI_nat gc, rfl, _, rfl, ?_⟩
    cases ecu : cu k with
    | none =>
      rw [ecu] at hcv
      have hcv : cv = .non := hcv
      subst hcv
      refine iteT ⟨Nat.zero_le _, fun L hL => q _ L (same_upd hL) hL ?_⟩
      unfold bkA
      rw [ecu]
      exact upd_same
    | some be =>
      obtain ⟨b, e⟩ := be
      rw [ecu] at hcv
      obtain ⟨tc, rfl, htc⟩ := hcv
      refine iteF ?_
      refine ⟨_, rfl, tb, _, dxt, _, _, rfl, M.ob, T.clt, T.nt_current, tbF_c _ _ _ _ _, _, rfl, cl, _, _, _, rfl, rfl, .of M.fc, atI_nat gc, tc, _, 0, _, rfl, rfl, .of htc, atI_nat (j := 0) rfl, ?_⟩
      refine ⟨_, rfl, tb, _, dxt, _, _, rfl, M.ob, T.clt, T.nt_heaps, tbF_h _ _ _ _ _, _, rfl, hl, _, _, _, rfl, rfl, .of M.fh, atI_nat (by rw [List.getElem?_map, ga]; rfl), av, _, rfl, .inl (.of hva), ?_⟩
      refine ⟨?_, fun L hL => q _ L (same_upd hL) hL ?_⟩
      · show (V.int b :: ((hp k).map V.int ++ [])).length ≤ sizeLine
        rw [List.append_nil, List.length_cons, List.length_map]
        exact Nat.le_of_lt (small1000 (by omega))
      · unfold bkA
        rw [ecu, upd_same]
        show some (HO.lst (V.int b :: ((hp k).map V.int ++ []))) = some (HO.lst (V.int b :: (hp k).map V.int))
        rw [List.append_nil]
def spPlc (C tC : Addr) : Sp := fun vs H Q _ => ∃ (tb dxt p dx td ts hl cl : Addr) (ha : List Addr) (cs : List V) (ds ss : List Int) (day coming : Int) (hp : Nat → List Int) (cu : Nat → Option (Int × Int)), vs = [.ref tb] ∧
  LvT C tC H tb dxt p dx td ts hl cl ha cs ds ss day coming hp cu ∧ (bks hp cu ds.length).Nodup ∧ (bks hp cu ds.length).length ≤ 900 ∧ ∀ H' D, Same H H' → H D = none → H' D = some (.dK (plK hp cu ds.length)) → Q (.ref D) H'
theorem ok_plc (T : Tx K mg) : FnOk P w K mg base CX0 3 T.a_places_of T.d_places_of P_places_of (spPlc T.C T.tC) := by
  refine T.F_places_of.ok sc_places_of (fun vs H Q E h => ?_) (fun cdv A outer s H vs Q E hr h => ?_)
  · obtain ⟨tb, dxt, p, dx, td, ts, hl, cl, ha, cs, ds, ss, day, coming, hp, cu, rfl, _⟩ := h
    rfl
  · obtain ⟨tb, dxt, p, dx, td, ts, hl, cl, ha, cs, ds, ss, day, coming, hp, cu, rfl, M, nd, l9, q⟩ := h
    have nn := sc_places_of.nd
    refine ⟨_, pss_one (ps_ret (pe_dc2 (own := [("reader", 1), ("book", 2)]) (vs1 := [2]) rfl nn (pi_range1 (by rfl) T.z_range (pa_cons (pe_callB (call_lenI T.lenC T.lenF ((ok_len T).raw T.b_rlen .nil) hr pass0) (by rfl) T.z_len PySem.boot_len (pa_cons (pe_fld (pv 0) rfl) pa_nil)) pa_nil))
      (blkOk_by (N := N_places_of) (sc := defScope s_places_of) (by decide +kernel)) (by decide) (fun _ _ _ _ _ => pg_name (i := 1) nn rfl (.inl rfl)) (fun _ _ _ _ _ => pi_listK (K := K) rfl (pe_call (ok_bat T) (hr.mono (by decide : 1 ≤ 2)) (by rfl) T.g_books_at T.F_books_at.kp T.b_books_at .nil pass0 (pa_cons (pv 0) (pa_cons (pv 1) pa_nil))))
      (fun _ _ _ _ _ => pg_name (i := 2) nn rfl (.inl rfl)) (fun _ _ _ _ _ => pv 2) (fun _ _ _ _ _ => pv 1))), ?_⟩
    have l8 := M.R.ok.l8
    refine ⟨_, rfl, tb, _, dxt, _, _, rfl, M.ob, T.clt, T.nt_ring, tbF_r _ _ _ _ _, p, dx, _, rfl, M.R.ob, p, dx, td, ts, ds, ss, rfl, M.R, (ds.length : Int), rfl, by omega, by omega, _, rfl, by omega, by omega, fun D hD => ?_⟩
    refine dc2_out (lo := 0) (n := ((ds.length : Nat) : Int).toNat) (fun i H' => Same H H' ∧ H' D = some (.dK (plK hp cu i))) ⟨same_upd hD, upd_same⟩ ?_ ?_
    · rintro i H1 hi ⟨s1, g1⟩
      have hi' : i < ds.length := by omega
      have e0 : (0 : Int) + (i : Int) = (i : Int) := by omega
      rw [e0]
      refine ⟨rfl, _, rfl, _, rfl, tb, dxt, p, dx, td, ts, hl, cl, ha, cs, ds, ss, day, coming, hp, cu, i, rfl, M.same s1, hi', fun H2 L s2 nL gL => ⟨L, rfl, ⟨_, .of gL⟩, ?_⟩⟩
      have g2 := s2 _ _ g1
      have nDL : L ≠ D := (ne_of_none g1 nL).symm
      have s12 := s1.trans s2
      refine dc2_in (K := K) (a := L) (xs := (bkA hp cu i).map V.int) (fun j H' => Same H H' ∧ H' L = some (.lst ((bkA hp cu i).map V.int)) ∧ H' D = some (.dK (plK hp cu i ++ ((bkA hp cu i).take j).map fun b => ((.inl b : Key), V.int (i : Nat)))))
        ⟨s12, gL, by rw [g2, List.take_zero, List.map_nil, List.append_nil]⟩ (fun j H' _ z => .of z.2.1) ?_ ?_
      · rintro j x H3 hx ⟨s3, gL3, g3⟩
        obtain ⟨b, hb, rfl⟩ := get_int hx
        obtain ⟨B, eB⟩ := bks_pre hp cu (i := i + 1) (n := ds.length) hi'
        have nds : (bks hp cu (i + 1)).Nodup := by
          rw [eB, List.nodup_append] at nd
          exact nd.1
        rw [bks_suc, List.nodup_append] at nds
        obtain ⟨n1, n2, n3⟩ := nds
        have fresh : (.inl b : Key) ∉ (plK hp cu i ++ ((bkA hp cu i).take j).map fun b => ((.inl b : Key), V.int (i : Nat))).map (·.1) := fun z => by
          rw [List.map_append, plK_keys, List.mem_append] at z
          rcases z with z | z
          · obtain ⟨y, hy, ey⟩ := List.mem_map.mp z
            cases ey
            exact n3 _ hy _ (List.mem_of_getElem? hb) rfl
          · rw [List.map_map] at z
            obtain ⟨y, hy, ey⟩ := List.mem_map.mp z
            have ey : y = b := Sum.inl.inj ey
            subst ey
            obtain ⟨m, hm⟩ := List.getElem?_of_mem hy
            rw [List.getElem?_take] at hm
            split at hm
            · rename_i hlt
              have hml : m < (bkA hp cu i).length := (List.getElem?_eq_some_iff.mp hm).1
              have hjl : j < (bkA hp cu i).length := (List.getElem?_eq_some_iff.mp hb).1
              have := (List.getElem?_inj hml n2).mp (hm.trans hb.symm)
              omega
            · cases hm
        refine ⟨rfl, _, rfl, _, rfl, _, (.inl b : Key), rfl, g3, ?_, fun x o h => (upd_ne (ne_of_none h hD)).trans (s3 _ _ h), (upd_ne nDL).trans gL3, ?_⟩
        · have hj : ((bkA hp cu i).take j).length ≤ (bkA hp cu i).length := by rw [List.length_take]; omega
          have hle : (bks hp cu i).length + (bkA hp cu i).length ≤ 900 := by
            have h1 : (bks hp cu (i + 1)).length ≤ (bks hp cu ds.length).length := by
              rw [eB, List.length_append]
              omega
            rw [bks_suc, List.length_append] at h1
            omega
          rw [List.length_append, plK_len, List.length_map]
          exact small1000 (by omega)
        · rw [upd_same, put_new fresh, List.append_assoc, List.take_add_one, hb, List.map_append]
          rfl
      · rintro H3 ⟨s3, gL3, g3⟩
        refine ⟨s3, ?_⟩
        rw [g3, List.length_map, List.take_length, plK_suc]
    · rintro H1 ⟨s1, g1⟩
      rw [show ((ds.length : Nat) : Int).toNat = ds.length by omega] at g1
      exact q H1 D s1 hD g1
end
end Rp
/-! Tables of live rings: a book is looked for, put in, taken out; a reader's days are changed. -/
namespace Rp
open PySem PySem.Spec PyProof.Rows L2 Rz Rm Rl
theorem inV_int {b : Int} : ∀ {l : List Int}, inV (.int b) (l.map V.int) = decide (b ∈ l)
  | [] => rfl
  | x :: r => by
    have ih := inV_int (b := b) (l := r)
    unfold inV at ih ⊢
    rw [List.map_cons, List.any_cons, ih]
    by_cases h : x = b
    · subst h
      simp [eqV]
    · have h' : ¬ b = x := fun z => h z.symm
      simp [eqV, h, h']
section
variable {C tC : Addr} {H H' : Hp} {tb dxt p dx td ts hl cl : Addr} {ha : List Addr} {cs : List V} {ds ss : List Int} {day coming : Int} {hp : Nat → List Int} {cu : Nat → Option (Int × Int)}
theorem LvT.npt (b : LvT C tC H tb dxt p dx td ts hl cl ha cs ds ss day coming hp cu) : p ≠ tb := fun z => by
  have h1 := b.R.ob
  rw [z, b.ob] at h1
  have h2 := Option.some.inj h1
  injection h2 with _ _ h3
  have h5 := flds_days td ts
  rw [← h3, show (tbF p day hl cl coming).lookup ("_days" : Str) = none from rfl] at h5
  cases h5
/-- the next book's number is put anew -/
theorem LvT.putN (b : LvT C tC H tb dxt p dx td ts hl cl ha cs ds ss day coming hp cu) (n : Int) : LvT C tC (upd H tb (.ins tC dxt (tbF p day hl cl n))) tb dxt p dx td ts hl cl ha cs ds ss day n hp cu := by
  have kx : ∀ {x o}, H x = some o → (∀ fs, o ≠ .ins tC dxt fs) → (upd H tb (.ins tC dxt (tbF p day hl cl n))) x = some o := fun {x o} e n => (upd_ne fun z => by
    rw [z, b.ob] at e
    exact n _ (Option.some.inj e).symm).trans e
  exact ⟨upd_same, ⟨(upd_ne b.npt).trans b.R.ob, kx b.R.td (fun _ z => by cases z), kx b.R.ts (fun _ z => by cases z), b.R.ok⟩, kx b.fh (fun _ z => by cases z), b.lh, fun j a e => kx (b.hv j a e) (fun _ z => by cases z), kx b.fc (fun _ z => by cases z), b.lc, fun j v e => (b.cv j v e).tups fun _ _ e => kx e (fun _ z => by cases z), b.ne, b.sm⟩
/-- its ring is put anew -/
theorem LvT.putR (b : LvT C tC H tb dxt p dx td ts hl cl ha cs ds ss day coming hp cu) {p2 dx2 td2 ts2 : Addr} {ds2 : List Int} (R : RingAt C H p2 dx2 td2 ts2 ds2 ss) (hl2 : ds2.length = ds.length) :
    LvT C tC (upd H tb (.ins tC dxt (tbF p2 day hl cl coming))) tb dxt p2 dx2 td2 ts2 hl cl ha cs ds2 ss day coming hp cu := by
  have kx : ∀ {x o}, H x = some o → (∀ fs, o ≠ .ins tC dxt fs) → (upd H tb (.ins tC dxt (tbF p2 day hl cl coming))) x = some o := fun {x o} e n => (upd_ne fun z => by
    rw [z, b.ob] at e
    exact n _ (Option.some.inj e).symm).trans e
  have np : p2 ≠ tb := fun z => by
    have h1 := R.ob
    rw [z, b.ob] at h1
    have h2 := Option.some.inj h1
    injection h2 with _ _ h3
    have h5 := flds_days td2 ts2
    rw [← h3, show (tbF p day hl cl coming).lookup ("_days" : Str) = none from rfl] at h5
    cases h5
  exact ⟨upd_same, ⟨(upd_ne np).trans R.ob, kx R.td (fun _ z => by cases z), kx R.ts (fun _ z => by cases z), R.ok⟩, kx b.fh (fun _ z => by cases z), b.lh.trans hl2.symm, fun j a e => kx (b.hv j a e) (fun _ z => by cases z), kx b.fc (fun _ z => by cases z), b.lc.trans hl2.symm, fun j v e => (b.cv j v e).tups fun _ _ e => kx e (fun _ z => by cases z), b.ne, fun j hj => b.sm j (by omega)⟩
end
section
variable {P : Program} {w : World} {K : PySem.W.Frag} {mg : Str → Option Value} {base : Heap}
/-- no book of these -/
def NoBk (K : PySem.W.Frag) (H : Hp) (v : V) (l : List Int) : Prop := (∃ b, v = .int b ∧ b ∉ l) ∨ NumV K H v false
def spHas (K : PySem.W.Frag) (C tC : Addr) : Sp := fun vs H Q _ => ∃ (tb dxt p dx td ts hl cl : Addr) (ha : List Addr) (cs : List V) (ds ss : List Int) (day coming : Int) (hp : Nat → List Int) (cu : Nat → Option (Int × Int)) (v : V), vs = [.ref tb, v] ∧
  LvT C tC H tb dxt p dx td ts hl cl ha cs ds ss day coming hp cu ∧ (bks hp cu ds.length).Nodup ∧ (bks hp cu ds.length).length ≤ 900 ∧
  ((∃ b, v = .int b ∧ b ∈ bks hp cu ds.length ∧ ∀ H', Same H H' → Q (.bl true) H') ∨ (NoBk K H v (bks hp cu ds.length) ∧ ∀ H', Same H H' → Q (.bl false) H'))
theorem ok_has (T : Tx K mg) : FnOk P w K mg base CX0 4 T.a_has_book T.d_has_book P_has_book (spHas K T.C T.tC) := by
  refine T.F_has_book.ok sc_has_book (fun vs H Q E h => ?_) (fun cdv A outer s H vs Q E hr h => ?_)
  · obtain ⟨tb, dxt, p, dx, td, ts, hl, cl, ha, cs, ds, ss, day, coming, hp, cu, v, rfl, _⟩ := h
    rfl
  · obtain ⟨tb, dxt, p, dx, td, ts, hl, cl, ha, cs, ds, ss, day, coming, hp, cu, v, rfl, M, nd, l9, q⟩ := h
    have hu1 : (cxOf CX0 P w K mg base N_has_book "has_book" (defScope s_has_book) T.a_has_book cdv A outer s H E).nox.A.units + 1 < cLine := Nat.lt_of_le_of_lt (Nat.add_le_add_left (by decide : 1 ≤ 64) _) hr.units
    refine ⟨_, pss_one (ps_ret (pe_and (pe_call (ok_is_numberV T) (hr.mono (by decide : 1 ≤ 3)) (by rfl) T.g_is_number T.F_is_number.kp T.b_is_number .nil pass0 (pa_cons (pv 1) pa_nil))
      (pe_one (pe_cmp (pc_din hu1 (pv 1) (pe_call (ok_plc T) hr (by rfl) T.g_places_of T.F_places_of.kp T.b_places_of .nil pass0 (pa_cons (pv 0) pa_nil))))))), ?_⟩
    have found : ∀ (b : Int) (c : Bool), (valV (plK hp cu ds.length) (.inl b)).isSome = c → (∀ H', Same H H' → Q (.bl c) H') → tDIn (tVar 1) (tCall (spPlc T.C T.tC) [] E (tCons (tVar 0) tNil)) [some (.ref tb), some (.int b)] H Q := fun b c hc hq => by
      refine ⟨_, rfl, _, rfl, tb, dxt, p, dx, td, ts, hl, cl, ha, cs, ds, ss, day, coming, hp, cu, rfl, M, nd, l9, fun H' D s' _ gD => ⟨D, _, rfl, .inl ⟨_, (.inl b : Key), .inl gD, rfl, rfl⟩, ?_⟩⟩
      rw [hc]
      exact hq H' s'
    rcases q with ⟨b, rfl, hb, q⟩ | ⟨⟨b, rfl, hb⟩ | hn, q⟩
    · refine ⟨_, rfl, .int b, true, rfl, .inl ⟨b, rfl, rfl⟩, true, rfl, iteT ?_⟩
      obtain ⟨k, hk, hk2⟩ := bks_mem.mp hb
      exact found b true (by rw [plK_at nd hk hk2]; rfl) q
    · refine ⟨_, rfl, .int b, true, rfl, .inl ⟨b, rfl, rfl⟩, true, rfl, iteT ?_⟩
      exact found b false (by rw [plK_no hb]; rfl) q
    · exact ⟨_, rfl, v, false, rfl, hn, false, rfl, iteF (q H (Same.refl H))⟩
/-- place_of: the reader, or UnknownBook -/
def spPof (K : PySem.W.Frag) (C tC CB : Addr) : Sp := fun vs H Q E => ∃ (tb dxt p dx td ts hl cl : Addr) (ha : List Addr) (cs : List V) (ds ss : List Int) (day coming : Int) (hp : Nat → List Int) (cu : Nat → Option (Int × Int)) (v : V), vs = [.ref tb, v] ∧
  LvT C tC H tb dxt p dx td ts hl cl ha cs ds ss day coming hp cu ∧ (bks hp cu ds.length).Nodup ∧ (bks hp cu ds.length).length ≤ 900 ∧
  ((∃ (b : Int) (k : Nat), v = .int b ∧ k < ds.length ∧ b ∈ bkA hp cu k ∧ ∀ H', Same H H' → Q (.int (k : Int)) H') ∨ (NoBk K H v (bks hp cu ds.length) ∧ ∀ H', Same H H' → E (.ref CB) none H'))
theorem ok_pof {CB : Addr} (T : Tx K mg) (EB : RxE K mg "UnknownBook" CB) : FnOk P w K mg base (L2.CX P w) 5 T.a_place_of T.d_place_of P_place_of (spPof K T.C T.tC CB) := by
  refine T.F_place_of.okX sc_place_of (fun vs H Q E h => ?_) (fun cdv A outer s H vs Q E hr h => ?_)
  · obtain ⟨tb, dxt, p, dx, td, ts, hl, cl, ha, cs, ds, ss, day, coming, hp, cu, v, rfl, _⟩ := h
    rfl
  · obtain ⟨tb, dxt, p, dx, td, ts, hl, cl, ha, cs, ds, ss, day, coming, hp, cu, v, rfl, M, nd, l9, q⟩ := h
    have hu1 : (cxOf (L2.CX P w) P w K mg base N_place_of "place_of" (defScope s_place_of) T.a_place_of cdv A outer s H E).A.units + 1 < cLine := Nat.lt_of_le_of_lt (Nat.add_le_add_left (by decide : 1 ≤ 64) _) hr.units
    refine ⟨_, pss_cons (ps_if (pt_not (pt_val (pe_call (ok_has T) hr (by rfl) T.g_has_book T.F_has_book.kp T.b_has_book .nil pass0 (pa_cons (pv 0) (pa_cons (pv 1) pa_nil)))))
        (pss_one (ps_raise rfl (takes_of rfl rfl rfl rfl) (pmk_own PySem.F.excBase_ValueError EB.xF EB.g EB.kF (raises_own EB.bF EB.tF) (by exact rfl)))) pss_nil)
      (pss_one (ps_ret (pe_dget hu1 (pe_call (ok_plc T) (hr.mono (by decide : 3 ≤ 4)) (by rfl) T.g_places_of T.F_places_of.kp T.b_places_of .nil pass0 (pa_cons (pv 0) pa_nil)) (pv 1) (fun _ _ => rfl)))), ?_⟩
    rcases q with ⟨b, k, rfl, hk, hb, q⟩ | ⟨hn, q⟩
    · refine ⟨_, rfl, _, rfl, tb, dxt, p, dx, td, ts, hl, cl, ha, cs, ds, ss, day, coming, hp, cu, _, rfl, M, nd, l9, .inl ⟨b, rfl, bkA_sub hk b hb, fun H1 s1 => ⟨true, rfl, iteF ?_⟩⟩⟩
      refine ⟨_, rfl, tb, dxt, p, dx, td, ts, hl, cl, ha, cs, ds, ss, day, coming, hp, cu, rfl, M.same s1, nd, l9, fun H2 D s2 _ gD => ⟨_, rfl, D, _, rfl, .inl ⟨_, (.inl b : Key), .inl gD, rfl, (plK_at nd hk hb).symm⟩, q H2 (s1.trans s2)⟩⟩
    · exact ⟨_, rfl, _, rfl, tb, dxt, p, dx, td, ts, hl, cl, ha, cs, ds, ss, day, coming, hp, cu, v, rfl, M, nd, l9, .inr ⟨hn, fun H1 s1 => ⟨false, rfl, iteT (q H1 s1)⟩⟩⟩
/-- check_reader: passes, or raises UnknownReader -/
def spRdrX (K : PySem.W.Frag) (C CR : Addr) : Sp := fun vs H Q E => ∃ (p dx td ts : Addr) (ds ss : List Int) (v : V) (b : Bool), vs = [.ref p, v] ∧ RingAt C H p dx td ts ds ss ∧ LieV K H v 0 ((ds.length : Int) - 1) b ∧ (b = true → Q .non H) ∧ (b = false → E (.ref CR) none H)
theorem ok_rdrX {CR : Addr} (T : Tx K mg) (ER : RxE K mg "UnknownReader" CR) : FnOk P w K mg base (L2.CX P w) 3 T.a_check_reader T.d_check_reader P_check_reader (spRdrX K T.C CR) := by
  refine T.F_check_reader.okX sc_check_reader (fun vs H Q E h => ?_) (fun cdv A outer s H vs Q E hr h => ?_)
  · obtain ⟨p, dx, td, ts, ds, ss, v, b, rfl, _⟩ := h
    rfl
  · obtain ⟨p, dx, td, ts, ds, ss, v, b, rfl, R, hv, q1, q2⟩ := h
    refine ⟨_, pss_one (ps_if (pt_not (pt_val (pe_call (ok_liesV T) hr (by rfl) T.g_lies_between T.F_lies_between.kp T.b_lies_between .nil pass0
      (pa_cons (pv 1) (pa_cons pe_int (pa_cons (pe_op op_sub (pe_callB (call_lenI T.lenC T.lenF ((ok_len T).raw T.b_rlen .nil) hr pass0) (by rfl) T.z_len PySem.boot_len (pa_cons (pv 0) pa_nil)) pe_int) pa_nil))))))
      (pss_one (ps_raise rfl (takes_of rfl rfl rfl rfl) (pmk_own PySem.F.excBase_ValueError ER.xF ER.g ER.kF (raises_own ER.bF ER.tF) (by exact rfl)))) pss_nil), ?_⟩
    have hl := R.ok.l8
    refine ⟨v, rfl, .ref p, rfl, p, dx, _, rfl, R.ob, p, dx, td, ts, ds, ss, rfl, R, (ds.length : Int), rfl, by omega, by omega, _, _, rfl, rfl, ?_⟩
    refine ⟨v, 0, (ds.length : Int) - 1, b, rfl, hv, b, rfl, ?_⟩
    cases b with
    | true => exact iteF (q1 rfl)
    | false => exact iteT (q2 rfl)
end
end Rp
/-! BeingRead(book): made, raised. -/
namespace Rp
open PySem PySem.Spec PyProof.Rows L2 Rz Rm Rl
/-- what ReadingError.__init__ is, and that c has no class field fld -/
structure XcF (K : PySem.W.Frag) (mg : Str → Option Value) (cE c : Addr) (fld : Str) : Prop where
  gE : mg "ReadingError" = some (.ref cE)
  rd : ClX.CRead K cE (.type "type")
  vi : PySem.W.findCls K (.ref cE) (.type "type") "__init__" = some (.val (.builtin "ValueError.__init__"))
  nx : PySem.W.findIn K (.ref c) fld = some none
  xf : XfC K c
  rs : PySem.W.subIn K (.ref c) (.type "BaseException") = some true ∧ PySem.W.typeIn K (.ref c) = some (.type "type")
theorem txt_len (a b : Str) : (a ++ b).length = a.length + b.length := strLen_append a b
section
variable {P : Program} {w : World} {K : PySem.W.Frag} {mg : Str → Option Value} {base : Heap}
def spBr (c : Addr) : Sp := fun vs H Q _ => ∃ (a : Addr) (i : Int), vs = [.ref a, .int i] ∧ H a = some (exo a c none) ∧ 0 ≤ i ∧ i < 1900 ∧ ∀ dx, H dx = none → dx ≠ a → Q .non (upd (upd H dx (exd dx [("book", .int i)])) a (exo a c (some dx)))
theorem ok_br {cE c : Addr} (T : Tx K mg) (B : XcF K mg cE c "book") (eq : T.c_iBeingRead = c) : FnOk P w K mg base CX0 1 T.a_iBeingRead T.d_iBeingRead P_iBeingRead (spBr c) := by
  refine T.F_iBeingRead.ok sc_iBeingRead (fun vs H Q E h => ?_) (fun cdv A outer s H vs Q E hr h => ?_)
  · obtain ⟨a, i, rfl, _⟩ := h
    rfl
  · obtain ⟨a, i, rfl, ha, i0, i1, q⟩ := h
    have OX : OexC K c := by rw [← eq]; exact oxB_ok T.io_iBeingRead
    refine ⟨_, pss_cons (ps_expr (pe_reinit (by rfl) B.gE B.rd B.vi (pa_cons (pv 0) (pa_cons (pe_joined (.cons pe_str (.cons (pe_fmt (pv 1)) (.cons pe_str .nil)))) pa_nil))))
      (pss_one (ps_ost (pv 0) (pv 1))), ?_⟩
    have hl : i.natAbs.log2 < 1920 := Nat.lt_of_le_of_lt (Nat.log2_le_self _) (by omega)
    have ht := PyProof.Rows.int_text_len_1921 hl
    refine ⟨_, rfl, _, rfl, by decide, _, rfl, .inr ⟨i, rfl, hl, _, rfl, ?_, _, rfl, ?_, a, c, _, rfl, by show 1 ≤ 1000; decide, OX, ha, ?_⟩⟩
    · rw [txt_len]
      refine Nat.le_trans (Nat.add_le_add (by decide +kernel : _ ≤ 100) ht) (by rw [sizeLine_eq]; decide)
    · rw [txt_len, txt_len]
      refine Nat.le_trans (Nat.add_le_add (Nat.add_le_add (by decide +kernel : _ ≤ 100) ht) (by decide +kernel : _ ≤ 100)) (by rw [sizeLine_eq]; decide)
    · exact ⟨_, rfl, _, rfl, a, c, rfl, OX, B.nx, .inl ⟨ha, fun dx n ne => q dx n ne⟩⟩
theorem br_go {C : Addr} {H1 : Hp} {Q : XK} {i : Int} (i0 : 0 ≤ i) (i1 : i < 1900) (q : ∀ (dd : Addr) (H2 : Hp), Same H1 H2 → H2 dd = some (.xd [("book", .int i)]) → Q (.ref C) (some dd) H2) :
    ([V.int i] : List V).length ≤ 1000 ∧ ∀ a, H1 a = none → spBr C (.ref a :: ([V.int i] ++ [])) (upd H1 a (exo a C none))
      (fun v H2 => v = .non ∧ ∃ (d : Addr) (fs : List (Str × V)), H2 a = some (exo a C (some d)) ∧ H2 d = some (exd d fs) ∧ H1 d = none ∧ Q (.ref C) (some d) (upd (del H2 a) d (.xd fs))) (fun _ _ _ => False) := by
  refine ⟨by show 1 ≤ 1000; decide, fun a ha => ⟨a, i, rfl, upd_same, i0, i1, fun dx hdx ne => ?_⟩⟩
  rw [upd_ne ne] at hdx
  refine ⟨rfl, dx, _, upd_same, (upd_ne ne).trans upd_same, hdx, q dx _ (fun b o e => ?_) upd_same⟩
  have n1 : b ≠ a := ne_of_none e ha
  have n2 : b ≠ dx := ne_of_none e hdx
  rw [upd_ne n2, del_ne n1, upd_ne n1, upd_ne n2, upd_ne n1]
  exact e
end
end Rp
/-! Tables of live rings: add_book, change_days, take_book, raising too. -/
namespace Rp
open PySem PySem.Spec PyProof.Rows L2 Rz Rm Rl
/-- a book comes to a heap -/
def adH (hp : Nat → List Int) (k : Nat) (c : Int) (j : Nat) : List Int := if j = k then hp k ++ [c] else hp j
/-- a book goes from a heap -/
def tkH (hp : Nat → List Int) (k : Nat) (b : Int) (j : Nat) : List Int := if j = k then (hp k).filter (fun x => decide (x ≠ b)) else hp j
theorem tbF_pn (p : Addr) (day : Int) (hl cl : Addr) (c n : Int) : putF "coming" (.int n) (tbF p day hl cl c) = tbF p day hl cl n := by rfl
theorem tbF_pr (p p2 : Addr) (day : Int) (hl cl : Addr) (c : Int) : putF "ring" (.ref p2) (tbF p day hl cl c) = tbF p2 day hl cl c := by rfl
section
variable {P : Program} {w : World} {K : PySem.W.Frag} {mg : Str → Option Value} {base : Heap}
def spAdd (K : PySem.W.Frag) (C tC CR CN : Addr) : Sp := fun vs H Q E => ∃ (tb dxt p dx td ts hl cl : Addr) (ha : List Addr) (cs : List V) (ds ss : List Int) (day coming : Int) (hp : Nat → List Int) (cu : Nat → Option (Int × Int)) (v : V), vs = [.ref tb, v] ∧
  LvT C tC H tb dxt p dx td ts hl cl ha cs ds ss day coming hp cu ∧ (bks hp cu ds.length).Nodup ∧ (bks hp cu ds.length).length ≤ 900 ∧
  ((LieV K H v 0 ((ds.length : Int) - 1) false ∧ E (.ref CR) none H) ∨ ∃ k : Nat, v = .int (k : Int) ∧ k < ds.length ∧ (12 ≤ (bks hp cu ds.length).length → ∀ H', Same H H' → E (.ref CN) none H') ∧
    ((bks hp cu ds.length).length < 12 → (hp k).length < 900 ∧ ∀ H' ha' cs', KT tb hl cl H H' → LvT C tC H' tb dxt p dx td ts hl cl ha' cs' ds ss day (coming + 1) (bgH (adH hp k coming) cu) (bgC ds day (adH hp k coming) cu) → Q (.int coming) H'))
theorem ok_add {CR CN : Addr} (T : Tx K mg) (ER : RxE K mg "UnknownReader" CR) (E4 : RxE K mg "InvalidNumber" CN) : FnOk P w K mg base (L2.CX P w) 4 T.a_add_book T.d_add_book P_add_book (spAdd K T.C T.tC CR CN) := by
  refine T.F_add_book.okX sc_add_book (fun vs H Q E h => ?_) (fun cdv A outer s0 H vs Q E hr h => ?_)
  · obtain ⟨tb, dxt, p, dx, td, ts, hl, cl, ha, cs, ds, ss, day, coming, hp, cu, v, rfl, _⟩ := h
    rfl
  · obtain ⟨tb, dxt, p, dx, td, ts, hl, cl, ha, cs, ds, ss, day, coming, hp, cu, v, rfl, M, ndp, l9, q⟩ := h
    have nd := sc_add_book.nd
    obtain ⟨u1, c1⟩ := T.c_MOST_BOOKS
    refine ⟨_, pss_cons (ps_expr (pe_call (E := E) (ok_rdrX T ER) hr (by rfl) T.g_check_reader T.F_check_reader.kp T.b_check_reader .nil (passes_call (takes_of rfl rfl rfl rfl) (fun _ _ _ _ z => z)) (pa_cons (pe_fld (pv 0) rfl) (pa_cons (pv 1) pa_nil))))
      (pss_cons (ps_if (pt_cmpR op_ge (pe_callB call_lenD (by rfl) T.z_len PySem.boot_len (pa_cons (pe_call (ok_plc T) hr (by rfl) T.g_places_of T.F_places_of.kp T.b_places_of .nil pass0 (pa_cons (pv 0) pa_nil)) pa_nil)) (pe_glob (v := .int 12) (by rfl) c1 ⟨_, rfl⟩) (nomark _))
        (pss_one (ps_raise rfl (takes_of rfl rfl rfl rfl) (pmk_own PySem.F.excBase_ValueError E4.xF E4.g E4.kF (raises_own E4.bF E4.tF) (by exact rfl)))) pss_nil)
      (pss_cons (ps_set (i := 2) nd rfl (.inl rfl) (pe_fld (pv 0) rfl))
      (pss_cons (ps_fldaug (pv 0) pe_int (fun pins s σ H x y u v Q => ip_add pins s σ H x y u v Q))
      (pss_cons (ps_expr (pe_call (ok_put T) (hr.mono (by decide : 1 ≤ 3)) (by rfl) T.g_put_book T.F_put_book.kp T.b_put_book .nil pass0 (pa_cons (pv 0) (pa_cons (pv 1) (pa_cons (pv 2) pa_nil)))))
      (pss_cons (ps_expr (pe_call (ok_begT T) hr (by rfl) T.g_begin_readings T.F_begin_readings.kp T.b_begin_readings .nil pass0 (pa_cons (pv 0) pa_nil)))
      (pss_one (ps_ret (pv 2)))))))), ?_⟩
    have l8 := M.R.ok.l8
    rcases q with ⟨hv, q⟩ | ⟨k, rfl, hk, q1, q2⟩
    · exact ⟨_, rfl, tb, _, dxt, _, _, rfl, M.ob, T.clt, T.nt_ring, tbF_r _ _ _ _ _, v, rfl, p, dx, td, ts, ds, ss, v, false, rfl, M.R, hv, fun z => Bool.noConfusion z, fun _ => q⟩
    refine ⟨_, rfl, tb, _, dxt, _, _, rfl, M.ob, T.clt, T.nt_ring, tbF_r _ _ _ _ _, _, rfl, p, dx, td, ts, ds, ss, _, true, rfl, M.R, lie_int (by omega) (by omega), fun _ => ?_, fun z => Bool.noConfusion z⟩
    refine ⟨_, rfl, tb, dxt, p, dx, td, ts, hl, cl, ha, cs, ds, ss, day, coming, hp, cu, rfl, M, ndp, l9, fun H1 D s1 _ gD => ⟨D, _, rfl, gD, _, _, rfl, rfl, _, rfl, ?_⟩⟩
    rw [plK_len]
    by_cases h12 : (12 : Int) ≤ (((bks hp cu ds.length).length : Nat) : Int)
    · rw [decide_eq_true h12]
      exact iteT (q1 (by omega) H1 s1)
    · rw [decide_eq_false h12]
      refine iteF ?_
      obtain ⟨h9, q⟩ := q2 (by omega)
      have M1 := M.same s1
      refine ⟨_, rfl, tb, _, dxt, _, _, rfl, M1.ob, T.clt, T.nt_coming, tbF_n _ _ _ _ _, ?_⟩
      show tSeq _ _ _ [some (.ref tb), some (.int (k : Int)), some (.int coming)] H1
      refine ⟨_, rfl, tb, T.tC, dxt, _, _, rfl, M1.ob, T.clt, T.nt_coming, tbF_n _ _ _ _ _, _, _, rfl, rfl, dxt, _, M1.ob, (by show 5 < 1000; decide), ?_⟩
      rw [tbF_pn]
      have M2 := M1.putN (coming + 1)
      have k2 : KT tb hl cl H (upd H1 tb (.ins T.tC dxt (tbF p day hl cl (coming + 1)))) := fun x o h n1 n2 n3 => (upd_ne n1).trans (s1 x o h)
      generalize (upd H1 tb (.ins T.tC dxt (tbF p day hl cl (coming + 1)))) = H2 at M2 k2 ⊢
      refine ⟨_, rfl, _, rfl, _, rfl, tb, dxt, p, dx, td, ts, hl, cl, ha, cs, ds, ss, day, coming + 1, hp, cu, k, coming, rfl, M2, hk, h9, fun H3 ha3 k3 M3 => ?_⟩
      refine ⟨_, rfl, tb, dxt, p, dx, td, ts, hl, cl, ha3, cs, ds, ss, day, coming + 1, _, cu, rfl, M3, fun H4 ha4 cs4 k4 M4 => ?_⟩
      exact ⟨_, rfl, q H4 ha4 cs4 ((k2.trans k3).trans k4) M4⟩
def spChg (K : PySem.W.Frag) (C tC CR CN : Addr) : Sp := fun vs H Q E => ∃ (tb dxt p dx td ts hl cl : Addr) (ha : List Addr) (cs : List V) (ds ss : List Int) (day coming : Int) (hp : Nat → List Int) (cu : Nat → Option (Int × Int)) (v u : V), vs = [.ref tb, v, u] ∧
  LvT C tC H tb dxt p dx td ts hl cl ha cs ds ss day coming hp cu ∧
  ((LieV K H v 0 ((ds.length : Int) - 1) false ∧ E (.ref CR) none H) ∨ ∃ k : Nat, v = .int (k : Int) ∧ k < ds.length ∧ ((LieV K H u 1 30 false ∧ E (.ref CN) none H) ∨ ∃ d : Int, u = .int d ∧ 1 ≤ d ∧ d ≤ 30 ∧
    ∀ H' p' dx' td' ts', KT tb hl cl H H' → LvT C tC H' tb dxt p' dx' td' ts' hl cl ha cs (ds.set k d) ss day coming hp cu → Q (.int (at' ds k)) H'))
theorem ok_chg {CR CN : Addr} (T : Tx K mg) (ER : RxE K mg "UnknownReader" CR) (E4 : RxE K mg "InvalidNumber" CN) : FnOk P w K mg base (L2.CX P w) 7 T.a_change_days T.d_change_days P_change_days (spChg K T.C T.tC CR CN) := by
  refine T.F_change_days.okX sc_change_days (fun vs H Q E h => ?_) (fun cdv A outer s0 H vs Q E hr h => ?_)
  · obtain ⟨tb, dxt, p, dx, td, ts, hl, cl, ha, cs, ds, ss, day, coming, hp, cu, v, u, rfl, _⟩ := h
    rfl
  · obtain ⟨tb, dxt, p, dx, td, ts, hl, cl, ha, cs, ds, ss, day, coming, hp, cu, v, u, rfl, M, q⟩ := h
    have nd := sc_change_days.nd
    obtain ⟨u1, c1⟩ := T.c_MOST_DAYS
    refine ⟨_, pss_cons (ps_expr (pe_call (E := E) (ok_rdrX T ER) (hr.mono (by decide : 3 ≤ 6)) (by rfl) T.g_check_reader T.F_check_reader.kp T.b_check_reader .nil (passes_call (takes_of rfl rfl rfl rfl) (fun _ _ _ _ z => z)) (pa_cons (pe_fld (pv 0) rfl) (pa_cons (pv 1) pa_nil))))
      (pss_cons (ps_expr (pe_call (E := E) (ok_chkX T E4) (hr.mono (by decide : 3 ≤ 6)) (by rfl) T.g_check_number T.F_check_number.kp T.b_check_number .nil (passes_call (takes_of rfl rfl rfl rfl) (fun _ _ _ _ z => z)) (pa_cons (pv 2) (pa_cons pe_int (pa_cons (pe_glob (v := .int 30) (by rfl) c1 ⟨_, rfl⟩) pa_nil)))))
      (pss_cons (ps_set (i := 3) nd rfl (.inl rfl) (pe_ix ix_tup (pe_prop (pe_fld (pv 0) rfl) T.cl T.q_rdays (ok_days T) (hr.mono (by decide : 2 ≤ 6)) T.b_rdays .nil pass0 rfl) (pv 1) (fun _ _ => rfl)))
      (pss_cons (ps_fld (pv 0) (pe_meth (pe_fld (pv 0) rfl) T.cl T.mW (ok_with T) hr T.b_rwith_days .nil pass0 (pa_cons (pv 1) (pa_cons (pv 2) pa_nil))) rfl)
      (pss_one (ps_ret (pv 3)))))), ?_⟩
    have l8 := M.R.ok.l8
    rcases q with ⟨hv, q⟩ | ⟨k, rfl, hk, q⟩
    · exact ⟨_, rfl, tb, _, dxt, _, _, rfl, M.ob, T.clt, T.nt_ring, tbF_r _ _ _ _ _, v, rfl, p, dx, td, ts, ds, ss, v, false, rfl, M.R, hv, fun z => Bool.noConfusion z, fun _ => q⟩
    refine ⟨_, rfl, tb, _, dxt, _, _, rfl, M.ob, T.clt, T.nt_ring, tbF_r _ _ _ _ _, _, rfl, p, dx, td, ts, ds, ss, _, true, rfl, M.R, lie_int (by omega) (by omega), fun _ => ?_, fun z => Bool.noConfusion z⟩
    rcases q with ⟨hu, q⟩ | ⟨d, rfl, d1, d30, q⟩
    · exact ⟨_, rfl, u, 1, 30, false, rfl, hu, fun z => Bool.noConfusion z, fun _ => q⟩
    refine ⟨_, rfl, .int d, 1, 30, true, rfl, lie_int d1 d30, fun _ => ?_, fun z => Bool.noConfusion z⟩
    refine ⟨_, rfl, tb, _, dxt, _, _, rfl, M.ob, T.clt, T.nt_ring, tbF_r _ _ _ _ _, p, dx, _, rfl, M.R.ob, p, dx, td, ts, ds, ss, rfl, M.R, _, rfl, td, _, _, _, rfl, rfl, .of M.R.td, at_ix (by omega) (by omega), ?_⟩
    refine ⟨_, rfl, tb, _, dxt, _, _, rfl, M.ob, T.clt, T.nt_ring, tbF_r _ _ _ _ _, p, dx, _, rfl, M.R.ob, rfl, _, rfl, _, rfl, p, dx, td, ts, ds, ss, _, d, rfl, M.R, by omega, by omega, d1, d30, fun H1 p' dx' td' ts' s1 R1 => ?_⟩
    have M1 := M.same s1
    refine ⟨_, rfl, tb, T.tC, dxt, _, rfl, M1.ob, T.clt, T.nt_ring, (by show 5 < 1000; decide), ?_⟩
    rw [tbF_pr]
    have M2 := M1.putR R1 (List.length_set ..)
    exact ⟨_, rfl, q _ p' dx' td' ts' (fun x o h n1 n2 n3 => (upd_ne n1).trans (s1 x o h)) M2⟩
def spTake (K : PySem.W.Frag) (C tC CB CX : Addr) : Sp := fun vs H Q E => ∃ (tb dxt p dx td ts hl cl : Addr) (ha : List Addr) (cs : List V) (ds ss : List Int) (day coming : Int) (hp : Nat → List Int) (cu : Nat → Option (Int × Int)) (v : V), vs = [.ref tb, v] ∧
  LvT C tC H tb dxt p dx td ts hl cl ha cs ds ss day coming hp cu ∧ (bks hp cu ds.length).Nodup ∧ (bks hp cu ds.length).length ≤ 900 ∧
  ((NoBk K H v (bks hp cu ds.length) ∧ ∀ H', Same H H' → E (.ref CB) none H') ∨ ∃ (b : Int) (k : Nat), v = .int b ∧ k < ds.length ∧ b ∈ bkA hp cu k ∧ 
    ((b ∉ hp k ∧ 0 ≤ b ∧ b < 1900 ∧ ∀ dd H', Same H H' → H' dd = some (.xd [("book", .int b)]) → E (.ref CX) (some dd) H') ∨ (b ∈ hp k ∧ ∀ H' ha', KT tb hl cl H H' → LvT C tC H' tb dxt p dx td ts hl cl ha' cs ds ss day coming (tkH hp k b) cu → Q (.int (k : Int)) H')))
theorem ok_take {CB cE CX : Addr} (T : Tx K mg) (EB : RxE K mg "UnknownBook" CB) (B : XcF K mg cE CX "book") (gX : mg "BeingRead" = some (.ref CX)) : FnOk P w K mg base (L2.CX P w) 6 T.a_take_book T.d_take_book P_take_book (spTake K T.C T.tC CB CX) := by
  refine T.F_take_book.okX sc_take_book (fun vs H Q E h => ?_) (fun cdv A outer s0 H vs Q E hr h => ?_)
  · obtain ⟨tb, dxt, p, dx, td, ts, hl, cl, ha, cs, ds, ss, day, coming, hp, cu, v, rfl, _⟩ := h
    rfl
  · obtain ⟨tb, dxt, p, dx, td, ts, hl, cl, ha, cs, ds, ss, day, coming, hp, cu, v, rfl, M, ndp, l9, q⟩ := h
    have nd := sc_take_book.nd
    have eq : T.c_iBeingRead = CX := by
      have e := T.gc_iBeingRead.symm.trans gX
      injection e with e
      injection e
    have OX : OexC K CX := by rw [← eq]; exact oxB_ok T.io_iBeingRead
    have ic : PySem.W.findIn K (.ref CX) "__init__" = some (some (.ref T.a_iBeingRead)) := by rw [← eq]; exact T.ic_iBeingRead
    refine ⟨_, pss_cons (ps_set (i := 2) nd rfl (.inl rfl) (pe_call (E := E) (ok_pof T EB) hr (by rfl) T.g_place_of T.F_place_of.kp T.b_place_of .nil (passes_call (takes_of rfl rfl rfl rfl) (fun _ _ _ _ z => z)) (pa_cons (pv 0) (pa_cons (pv 1) pa_nil))))
      (pss_cons (ps_if (pt_cmpR op_notIn_seq (pv 1) (pe_ix ix_list (pe_fld (pv 0) rfl) (pv 2) (fun _ _ => rfl)) (by rfl))
        (pss_one (ps_raise rfl (takes_of rfl rfl rfl rfl) (pmk_oex OX ic T.it_iBeingRead (ok_br T B eq) (hr.mono (by decide : 2 ≤ 5)) T.b_iBeingRead .nil pass0 (by rfl) gX (pa_cons (pv 1) pa_nil)))) pss_nil)
      (pss_cons (ps_asg (pe_callTy call_tuple_of (by rfl) T.z_tuple (by decide +kernel) (pa_cons (pe_lc (own := [("other", 3)]) rfl nd (pi_tup (pe_ix ix_list (pe_fld (pv 0) rfl) (pv 2) (fun _ _ => rfl))) (blkOk_by (N := N_take_book) (sc := defScope s_take_book) (by decide +kernel)) (fun _ _ _ _ _ => pg_name (i := 3) nd rfl (.inl rfl)) (fun _ _ _ _ _ => pts_one (pt_cmpR op_ne (pv 3) (pv 1) (nomark _)))
            (fun _ _ _ _ _ => pv 3)) pa_nil)) (pg_sub (pe_fld (pv 0) rfl) (pv 2) set_list))
      (pss_one (ps_ret (pv 2))))), ?_⟩
    rcases q with ⟨hn, q⟩ | ⟨b, k, rfl, hk, hb, q⟩
    · exact ⟨_, rfl, v, rfl, tb, dxt, p, dx, td, ts, hl, cl, ha, cs, ds, ss, day, coming, hp, cu, v, rfl, M, ndp, l9, .inr ⟨hn, q⟩⟩
    refine ⟨_, rfl, _, rfl, tb, dxt, p, dx, td, ts, hl, cl, ha, cs, ds, ss, day, coming, hp, cu, _, rfl, M, ndp, l9, .inl ⟨b, k, rfl, hk, hb, fun H1 s1 => ?_⟩⟩
    have M1 := M.same s1
    show tSeq _ _ _ [some (.ref tb), some (.int b), some (.int (k : Int)), none] H1
    obtain ⟨av, ga⟩ : ∃ a, ha[k]? = some a := ⟨_, List.getElem?_eq_getElem (by rw [M1.lh]; exact hk)⟩
    have hva := M1.hv k av ga
    have sm := M1.sm k hk
    have hat : atI (ha.map V.ref) (k : Int) = some (.ref av) := atI_nat (by rw [List.getElem?_map, ga]; rfl)
    refine ⟨_, rfl, _, rfl, tb, _, dxt, _, _, rfl, M1.ob, T.clt, T.nt_heaps, tbF_h _ _ _ _ _, _, rfl, hl, _, _, _, rfl, rfl, .of M1.fh, hat, av, _, rfl, .inr (.of hva), rfl, List.all_eq_true.mpr fun x hx => by
      obtain ⟨y, _, rfl⟩ := List.mem_map.mp hx
      rfl, _, rfl, ?_⟩
    rw [if_pos rfl, inV_int]
    rcases q with ⟨hb, b0, b1, q⟩ | ⟨hb, q⟩
    · rw [decide_eq_false hb]
      refine iteT ?_
      exact ⟨_, rfl, br_go b0 b1 fun dd H2 s2 hd => q dd H2 (s1.trans s2) hd⟩
    · rw [decide_eq_true hb]
      refine iteF ?_
      refine ⟨_, rfl, tb, _, dxt, _, _, rfl, M1.ob, T.clt, T.nt_heaps, tbF_h _ _ _ _ _, _, rfl, hl, _, _, _, rfl, rfl, .of M1.fh, hat, av, rfl, ⟨_, .of hva⟩, fun D hD => lc_tup (K := K) (a := av) (xs := (hp k).map V.int) (fun i H' => Same H1 H' ∧ H' D = some (.lst ((((hp k).take i).filter fun x => decide (x ≠ b)).map V.int)))
        ⟨same_upd hD, upd_same⟩ (fun i H' _ z => .of (z.1 _ _ hva)) ?_ ?_⟩
      · rintro i x H2 hx ⟨s2, g2⟩
        obtain ⟨z, hz, rfl⟩ := get_int hx
        have li : i < (hp k).length := (List.getElem?_eq_some_iff.mp hz).1
        refine ⟨rfl, _, rfl, _, rfl, rfl, _, rfl, ?_⟩
        have tk : ((hp k).take (i + 1)).filter (fun x => decide (x ≠ b)) = ((hp k).take i).filter (fun x => decide (x ≠ b)) ++ (if z = b then [] else [z]) := by
          rw [List.take_add_one, hz, List.filter_append]
          by_cases h : z = b
          · rw [if_pos h]
            simp [h]
          · rw [if_neg h]
            simp [h]
        by_cases h : z = b
        · rw [show (!decide (V.int z = V.int b)) = false by rw [decide_eq_true (congrArg V.int h)]; rfl]
          refine iteF ⟨s2, ?_⟩
          rw [tk, if_pos h, List.append_nil]
          exact g2
        · rw [show (!decide (V.int z = V.int b)) = true by rw [decide_eq_false (fun y => h (V.int.inj y))]; rfl]
          refine iteT ⟨_, rfl, _, g2, ?_, fun x o e => (upd_ne (ne_of_none e hD)).trans (s2 x o e), ?_⟩
          · rw [List.length_map]
            have := List.length_filter_le (fun x => decide (x ≠ b)) ((hp k).take i)
            rw [List.length_take] at this
            exact small1000 (by omega)
          · rw [upd_same, tk, if_neg h, List.map_append]
            rfl
      · rintro H2 ⟨s2, g2⟩
        rw [List.length_map, List.take_length] at g2
        refine ⟨D, _, rfl, .inl ⟨.of g2, fun t ht => ?_⟩⟩
        have s3 := same_upd (o := .tup (((hp k).filter fun x => decide (x ≠ b)).map V.int)) ht
        have M3 := (M1.same s2).same s3
        refine ⟨_, rfl, tb, _, dxt, _, _, rfl, M3.ob, T.clt, T.nt_heaps, tbF_h _ _ _ _ _, _, rfl, hl, _, _, k, rfl, rfl, M3.fh, ixN_natT (by rw [List.length_map, M.lh]; exact hk), ?_⟩
        refine ⟨_, rfl, q _ _ (fun x o h n1 n2 n3 => (upd_ne n2).trans (s3 _ _ (s2 _ _ (s1 _ _ h)))) (M3.putH (k := k) (ws := (hp k).filter fun x => decide (x ≠ b)) upd_same ?_)⟩
        have := List.length_filter_le (fun x => decide (x ≠ b)) (hp k)
        omega
end
end Rp
/-! Operations on a table: mathematics. -/
namespace Rp
open PySem PySem.Spec PyProof.Rows L2 Rz Rm Rl
/-- the readers' lists, one behind the other -/
def fl {α : Type} (f : Nat → List α) (n : Nat) : List α := ((List.range n).map f).flatten
theorem fl_suc {α : Type} (f : Nat → List α) (n : Nat) : fl f (n + 1) = fl f n ++ f n := by
  unfold fl
  rw [List.range_succ, List.map_append, List.flatten_append]
  simp
theorem fl_congr {α : Type} {f g : Nat → List α} : ∀ {n : Nat}, (∀ j, j < n → f j = g j) → fl f n = fl g n
  | 0, _ => rfl
  | n + 1, h => by rw [fl_suc, fl_suc, fl_congr (n := n) (fun j hj => h j (by omega)), h n (by omega)]
theorem fl_perm {α : Type} {f g : Nat → List α} : ∀ {n : Nat}, (∀ j, j < n → (f j).Perm (g j)) → (fl f n).Perm (fl g n)
  | 0, _ => List.Perm.refl _
  | n + 1, h => by
    rw [fl_suc, fl_suc]
    exact (fl_perm (n := n) (fun j hj => h j (by omega))).append (h n (by omega))
theorem fl_app {α : Type} {f g : Nat → List α} : ∀ (n : Nat), (fl (fun j => f j ++ g j) n).Perm (fl f n ++ fl g n)
  | 0 => List.Perm.refl _
  | n + 1 => by
    rw [fl_suc, fl_suc, fl_suc]
    refine ((fl_app n).append (List.Perm.refl _)).trans ?_
    rw [List.append_assoc, List.append_assoc]
    refine List.Perm.append (List.Perm.refl _) ?_
    rw [← List.append_assoc, ← List.append_assoc]
    exact (List.perm_append_comm).append (List.Perm.refl _)
theorem fl_sub {α : Type} {f g : Nat → List α} : ∀ {n : Nat}, (∀ j, (f j).Sublist (g j)) → (fl f n).Sublist (fl g n)
  | 0, _ => List.Sublist.refl _
  | n + 1, h => by
    rw [fl_suc, fl_suc]
    exact (fl_sub (n := n) h).append (h n)
theorem fl_shift {α : Type} (f : Nat → List α) : ∀ n, fl f (n + 1) = f 0 ++ fl (fun j => f (j + 1)) n
  | 0 => by
    rw [fl_suc]
    show [] ++ f 0 = f 0 ++ []
    rw [List.append_nil, List.nil_append]
  | n + 1 => by
    rw [fl_suc, fl_shift f n, List.append_assoc, fl_suc (fun j => f (j + 1))]
theorem fl_prv {α : Type} (f : Nat → List α) : ∀ n, (fl (fun j => f (prv n j)) n).Perm (fl f n)
  | 0 => List.Perm.refl _
  | n + 1 => by
    rw [fl_shift, fl_suc f]
    have e0 : prv (n + 1) 0 = n := by
      unfold prv
      simp
    have e1 : fl (fun j => f (prv (n + 1) (j + 1))) n = fl f n := fl_congr fun j hj => by
      have : prv (n + 1) (j + 1) = j := by
        unfold prv
        simp
      rw [this]
    rw [e0, e1]
    exact List.perm_append_comm
theorem fl_mem {α : Type} {f : Nat → List α} {n : Nat} {x : α} : x ∈ fl f n ↔ ∃ j, j < n ∧ x ∈ f j := by
  unfold fl
  rw [List.mem_flatten]
  constructor
  · rintro ⟨l, hl, hb⟩
    obtain ⟨j, hj, rfl⟩ := List.mem_map.mp hl
    exact ⟨j, List.mem_range.mp hj, hb⟩
  · rintro ⟨j, hj, hb⟩
    exact ⟨_, List.mem_map.mpr ⟨j, List.mem_range.mpr hj, rfl⟩, hb⟩
/-- the book that is read -/
def cuL (cu : Nat → Option (Int × Int)) (j : Nat) : List Int := match cu j with
  | none => []
  | some (b, _) => [b]
/-- all books, whoever may begin -/
def bk2 (hp : Nat → List Int) (cu : Nat → Option (Int × Int)) (n : Nat) : List Int := fl (fun j => cuL cu j ++ hp j) n
/-- who can begin has begun -/
def Rest (hp : Nat → List Int) (cu : Nat → Option (Int × Int)) (n : Nat) : Prop := ∀ j, j < n → cu j = none → hp j = []
theorem bks_bk2 {hp : Nat → List Int} {cu : Nat → Option (Int × Int)} {n : Nat} (r : Rest hp cu n) : bks hp cu n = bk2 hp cu n := by
  show fl (bkA hp cu) n = fl _ n
  refine fl_congr fun j hj => ?_
  unfold bkA cuL
  cases e : cu j with
  | none => rw [r j hj e]; rfl
  | some be => rfl
theorem bg_bk2 (ds : List Int) (day : Int) (hp : Nat → List Int) (cu : Nat → Option (Int × Int)) (n : Nat) : bk2 (bgH hp cu) (bgC ds day hp cu) n = bk2 hp cu n := fl_congr fun j _ => by
  cases e : cu j with
  | none =>
    cases h : hp j with
    | nil => simp [bgH, bgC, cuL, e, h]
    | cons b r => simp [bgH, bgC, cuL, e, h]
  | some be => simp [bgH, bgC, cuL, e]
theorem bg_rest (ds : List Int) (day : Int) (hp : Nat → List Int) (cu : Nat → Option (Int × Int)) (n : Nat) : Rest (bgH hp cu) (bgC ds day hp cu) n := fun j _ h => by
  unfold bgC at h
  unfold bgH
  cases e : cu j with
  | none =>
    rw [e] at h
    cases h' : hp j with
    | nil => rfl
    | cons b r =>
      rw [h'] at h
      cases h
  | some be =>
    rw [e] at h
    cases h
theorem en_bk2 (day : Int) (hp : Nat → List Int) (cu : Nat → Option (Int × Int)) (n : Nat) : (bk2 (enH n day hp cu) (enC day cu) n).Perm (bk2 hp cu n) := by
  have h1 : (bk2 (enH n day hp cu) (enC day cu) n).Perm (fl (fun j => cuL (enC day cu) j ++ hp j) n ++ fl (fun j => (enB day cu j).toList) n) := by
    refine List.Perm.trans ?_ ((List.Perm.refl _).append (fl_prv (fun j => (enB day cu j).toList) n))
    have e : bk2 (enH n day hp cu) (enC day cu) n = fl (fun j => (cuL (enC day cu) j ++ hp j) ++ (enB day cu (prv n j)).toList) n := fl_congr fun j _ => by
      unfold enH
      rw [List.append_assoc]
    rw [e]
    exact fl_app n
  refine h1.trans ?_
  refine List.Perm.trans (fl_app n).symm (fl_perm fun j _ => ?_)
  cases e : enB day cu j with
  | none =>
    have e1 : enC day cu j = cu j := by
      unfold enC
      rw [e]
      rfl
    have e2 : cuL (enC day cu) j = cuL cu j := by
      unfold cuL
      rw [e1]
    rw [e2]
    show (_ ++ []).Perm _
    rw [List.append_nil]
  | some b =>
    have hb : ∃ x, cu j = some (b, x) := by
      unfold enB at e
      cases h : cu j with
      | none =>
        rw [h] at e
        cases e
      | some be =>
        obtain ⟨b', x⟩ := be
        rw [h] at e
        have e : (if x = day then some b' else none) = some b := e
        split at e
        · cases e
          exact ⟨x, rfl⟩
        · cases e
    obtain ⟨x, hx⟩ := hb
    have e2 : cuL (enC day cu) j = [] := by
      unfold cuL enC
      rw [e]
      rfl
    have e3 : cuL cu j = [b] := by
      unfold cuL
      rw [hx]
    rw [e2, e3]
    exact List.perm_append_comm (l₁ := hp j) (l₂ := [b])
/-- a table: its readers' days, the next book, its day, heaps and readings -/
structure GS where
  ds : List Int
  coming : Int
  t : TSt
inductive Op where
  | pass (n : Nat)
  | add (k : Nat)
  | setd (k : Nat) (d : Int)
  | take (b : Int)
def opV : Op → List V
  | .pass n => [.str "pass_days", .int n]
  | .add k => [.str "add", .int k]
  | .setd k d => [.str "set_days", .int k, .int d]
  | .take b => [.str "take", .int b]
/-- who has the book -/
def atK (g : GS) (b : Int) : Option Nat := (List.range g.ds.length).find? fun k => decide (b ∈ bkA g.t.hp g.t.cu k)
/-- what comes of an operation that can be -/
def stp (o : Op) (g : GS) : GS := match o with
  | .pass n => ⟨g.ds, g.coming, dyN g.ds g.t n⟩
  | .add k => ⟨g.ds, g.coming + 1, ⟨g.t.day, bgH (adH g.t.hp k g.coming) g.t.cu, bgC g.ds g.t.day (adH g.t.hp k g.coming) g.t.cu⟩⟩
  | .setd k d => ⟨g.ds.set k d, g.coming, g.t⟩
  | .take b => match atK g b with
    | some k => ⟨g.ds, g.coming, ⟨g.t.day, tkH g.t.hp k b, g.t.cu⟩⟩
    | none => g
/-- how it fails -/
inductive Wd where
  | number
  | book
  | read (b : Int)
def err (o : Op) (g : GS) : Option Wd := match o with
  | .pass _ => none
  | .add _ => if 12 ≤ (bks g.t.hp g.t.cu g.ds.length).length then some .number else none
  | .setd _ _ => none
  | .take b => match atK g b with
    | some k => if b ∈ g.t.hp k then none else some (.read b)
    | none => some .book
/-- an operation whose numbers are such as can be -/
def OpOk (N : Nat) : Op → Prop
  | .pass n => n ≤ 400
  | .add k => k < N
  | .setd k d => k < N ∧ 1 ≤ d ∧ d ≤ 30
  | .take b => 0 ≤ b ∧ b < 1900
/-- what holds of every table -/
structure GI (N : Nat) (m : Int) (g : GS) : Prop where
  len : g.ds.length = N
  rs : Rest g.t.hp g.t.cu N
  nd : (bk2 g.t.hp g.t.cu N).Nodup
  lt : ∀ b ∈ bk2 g.t.hp g.t.cu N, 0 ≤ b ∧ b < g.coming
  ct : (bk2 g.t.hp g.t.cu N).length ≤ 12
  c0 : 0 ≤ g.coming
  c1 : g.coming ≤ m
theorem atK_some {g : GS} {b : Int} {k : Nat} (h : atK g b = some k) : k < g.ds.length ∧ b ∈ bkA g.t.hp g.t.cu k := by
  unfold atK at h
  have h1 := List.find?_some h
  have h2 := List.mem_of_find?_eq_some h
  exact ⟨List.mem_range.mp h2, of_decide_eq_true h1⟩
theorem atK_none {g : GS} {b : Int} (h : atK g b = none) : b ∉ bks g.t.hp g.t.cu g.ds.length := fun hb => by
  obtain ⟨j, hj, hb⟩ := bks_mem.mp hb
  unfold atK at h
  exact absurd (decide_eq_true hb) (List.find?_eq_none.mp h j (List.mem_range.mpr hj))
theorem GI.mono {N : Nat} {m m' : Int} {g : GS} (h : GI N m g) (l : m ≤ m') : GI N m' g := ⟨h.len, h.rs, h.nd, h.lt, h.ct, h.c0, by have := h.c1; omega⟩
theorem GI.hp12 {N : Nat} {m : Int} {g : GS} (h : GI N m g) {j : Nat} (hj : j < N) : (g.t.hp j).length ≤ 12 := by
  have hs : (g.t.hp j).length ≤ (bk2 g.t.hp g.t.cu N).length := by
    unfold bk2
    have : ∀ n, j < n → (g.t.hp j).length ≤ (fl (fun j => cuL g.t.cu j ++ g.t.hp j) n).length := by
      intro n
      induction n with
      | zero => intro h; omega
      | succ n ih =>
        intro h
        rw [fl_suc, List.length_append, List.length_append]
        by_cases e : j = n
        · subst e
          omega
        · have := ih (by omega)
          omega
    exact this N hj
  have := h.ct
  omega
theorem dyS_bk2 (ds : List Int) (s : TSt) : (bk2 (dyS ds s).hp (dyS ds s).cu ds.length).Perm (bk2 s.hp s.cu ds.length) := by
  show (bk2 (bgH _ _) (bgC _ _ _ _) _).Perm _
  rw [bg_bk2]
  exact en_bk2 _ _ _ _
theorem dyN_bk2 (ds : List Int) (s : TSt) : ∀ n, (bk2 (dyN ds s n).hp (dyN ds s n).cu ds.length).Perm (bk2 s.hp s.cu ds.length)
  | 0 => List.Perm.refl _
  | n + 1 => (dyS_bk2 ds (dyN ds s n)).trans (dyN_bk2 ds s n)
theorem dyN_rest (ds : List Int) (s : TSt) (h : Rest s.hp s.cu ds.length) : ∀ n, Rest (dyN ds s n).hp (dyN ds s n).cu ds.length
  | 0 => h
  | n + 1 => bg_rest _ _ _ _ _
theorem ad_bk2 (hp : Nat → List Int) (cu : Nat → Option (Int × Int)) {k n : Nat} (hk : k < n) (c : Int) : (bk2 (adH hp k c) cu n).Perm (bk2 hp cu n ++ [c]) := by
  have e : bk2 (adH hp k c) cu n = fl (fun j => (cuL cu j ++ hp j) ++ (if j = k then [c] else [])) n := fl_congr fun j _ => by
    unfold adH
    by_cases e : j = k
    · rw [if_pos e, if_pos e, List.append_assoc, e]
    · rw [if_neg e, if_neg e, List.append_nil]
  rw [e]
  refine (fl_app n).trans ((List.Perm.refl _).append ?_)
  have : ∀ n, fl (fun j => if j = k then [c] else []) n = if k < n then [c] else [] := by
    intro n
    induction n with
    | zero => rfl
    | succ n ih =>
      rw [fl_suc, ih]
      by_cases h : k < n
      · rw [if_pos h, if_neg (by omega), if_pos (by omega)]
        rfl
      · by_cases h2 : n = k
        · rw [if_neg h, if_pos h2, if_pos (by omega)]
          rfl
        · rw [if_neg h, if_neg h2, if_neg (by omega)]
          rfl
  rw [this, if_pos hk]
theorem GI.step {N : Nat} {m : Int} {g : GS} (h : GI N m g) {o : Op} (ok : OpOk N o) (e : err o g = none) : GI N (m + 1) (stp o g) := by
  have l := h.len
  subst l
  cases o with
  | pass n =>
    have p := dyN_bk2 g.ds g.t n
    exact ⟨rfl, dyN_rest _ _ h.rs n, p.nodup_iff.mpr h.nd, fun b hb => h.lt b (p.mem_iff.mp hb), Nat.le_trans (Nat.le_of_eq p.length_eq) h.ct, h.c0, by have := h.c1; show g.coming ≤ _; omega⟩
  | add k =>
    have p := ad_bk2 g.t.hp g.t.cu (n := g.ds.length) ok g.coming
    have hl : (bks g.t.hp g.t.cu g.ds.length).length < 12 := by
      unfold err at e
      have e : (if 12 ≤ (bks g.t.hp g.t.cu g.ds.length).length then some Wd.number else none) = none := e
      split at e
      · cases e
      · omega
    rw [bks_bk2 h.rs] at hl
    have c0 := h.c0
    have c1 := h.c1
    refine ⟨rfl, bg_rest _ _ _ _ _, ?_, fun b hb => ?_, ?_, by show 0 ≤ g.coming + 1; omega, by show g.coming + 1 ≤ m + 1; omega⟩
    · show (bk2 (bgH _ _) (bgC _ _ _ _) _).Nodup
      rw [bg_bk2]
      refine p.nodup_iff.mpr (List.nodup_append.mpr ⟨h.nd, List.nodup_cons.mpr ⟨List.not_mem_nil, List.nodup_nil⟩, fun x hx y hy e => ?_⟩)
      have := List.mem_singleton.mp hy
      have := (h.lt x hx).2
      omega
    · have hb : b ∈ bk2 (bgH (adH g.t.hp k g.coming) g.t.cu) (bgC g.ds g.t.day (adH g.t.hp k g.coming) g.t.cu) g.ds.length := hb
      rw [bg_bk2] at hb
      show 0 ≤ b ∧ b < g.coming + 1
      rcases List.mem_append.mp (p.mem_iff.mp hb) with hb | hb
      · have := h.lt b hb
        omega
      · have := List.mem_singleton.mp hb
        omega
    · show (bk2 (bgH _ _) (bgC _ _ _ _) _).length ≤ 12
      rw [bg_bk2, p.length_eq, List.length_append]
      show _ + 1 ≤ 12
      omega
  | setd k d =>
    exact ⟨List.length_set .., h.rs, h.nd, h.lt, h.ct, h.c0, by have := h.c1; show g.coming ≤ _; omega⟩
  | take b =>
    cases ha : atK g b with
    | none =>
      unfold err at e
      have e : (match atK g b with | some k => if b ∈ g.t.hp k then none else some (Wd.read b) | none => some Wd.book) = none := e
      rw [ha] at e
      cases e
    | some k =>
      have es : stp (.take b) g = ⟨g.ds, g.coming, ⟨g.t.day, tkH g.t.hp k b, g.t.cu⟩⟩ := by
        show (match atK g b with | some k => _ | none => _) = _
        rw [ha]
      rw [es]
      have sb : (bk2 (tkH g.t.hp k b) g.t.cu g.ds.length).Sublist (bk2 g.t.hp g.t.cu g.ds.length) := fl_sub fun j => by
        refine (List.Sublist.refl _).append ?_
        unfold tkH
        split
        · rename_i e
          rw [e]
          exact List.filter_sublist
        · exact List.Sublist.refl _
      refine ⟨rfl, fun j hj hc => ?_, h.nd.sublist sb, fun c hc => h.lt c (sb.subset hc), Nat.le_trans sb.length_le h.ct, h.c0, by have := h.c1; show g.coming ≤ _; omega⟩
      show tkH g.t.hp k b j = []
      have := h.rs j hj hc
      unfold tkH
      split
      · rename_i e
        rw [← e, this]
        rfl
      · exact this
/-- the first table -/
theorem GI.first {ds ss : List Int} (G : Good ds ss) : GI ds.length ss.sum ⟨ds, ss.sum, ⟨0, bgH (h0F ss) (fun _ => none), bgC ds 0 (h0F ss) (fun _ => none)⟩⟩ := by
  have b1 := G.b1
  have b12 := G.b12
  have ls := G.ls
  have e : ∀ n, n ≤ ss.length → bk2 (h0F ss) (fun _ => none) n = (List.range (ss.take n).sum.toNat).map fun i => ((i : Nat) : Int) := by
    intro n
    induction n with
    | zero => intro _; rfl
    | succ n ih =>
      intro hn
      show fl _ (n + 1) = _
      rw [fl_suc]
      show bk2 (h0F ss) (fun _ => none) n ++ ([] ++ h0F ss n) = _
      rw [ih (by omega), List.nil_append]
      have h0 := take_le (l := ss) (fun y hy => (G.s0 y hy).1) n
      have hz := (G.s0 _ (at_mem (l := ss) (by omega) (n : Int))).1
      have hz : 0 ≤ at' ss n := hz
      rw [take_succ (l := ss) (i := n) (by omega)]
      unfold h0F
      rw [show ((ss.take n).sum + at' ss n).toNat = (ss.take n).sum.toNat + (at' ss n).toNat by omega, List.range_add, List.map_append]
      congr 1
      rw [List.map_map]
      refine List.map_congr_left fun i _ => ?_
      show (ss.take n).sum + (i : Int) = (((ss.take n).sum.toNat + i : Nat) : Int)
      omega
  have e2 : bk2 (h0F ss) (fun _ => none) ds.length = (List.range ss.sum.toNat).map fun i => ((i : Nat) : Int) := by
    rw [e ds.length (by omega), ← ls, List.take_length]
  refine ⟨rfl, bg_rest _ _ _ _ _, ?_, fun b hb => ?_, ?_, by show 0 ≤ ss.sum; omega, Int.le_refl _⟩
  · show (bk2 (bgH _ _) (bgC _ _ _ _) _).Nodup
    rw [bg_bk2, e2]
    exact List.Pairwise.map _ (fun a b h z => h (by omega)) List.nodup_range
  · have hb : b ∈ bk2 (bgH (h0F ss) (fun _ => none)) (bgC ds 0 (h0F ss) (fun _ => none)) ds.length := hb
    rw [bg_bk2, e2] at hb
    obtain ⟨i, hi, rfl⟩ := List.mem_map.mp hb
    have := List.mem_range.mp hi
    show 0 ≤ _ ∧ _ < ss.sum
    omega
  · show (bk2 (bgH _ _) (bgC _ _ _ _) _).length ≤ 12
    rw [bg_bk2, e2, List.length_map, List.length_range]
    omega
end Rp
/-! A live ring as a whole; apply of one operation. -/
namespace Rp
open PySem PySem.Spec PyProof.Rows L2 Rz Rm Rl
/-- the actions and their numbers of arguments, by name -/
structure Ax {K : PySem.W.Frag} {mg : Str → Option Value} (w : World) (T : Tx K mg) where
  dA : Addr
  dB : Addr
  gA : mg "ACTIONS" = some (.ref dA)
  gB : mg "ARGUMENTS" = some (.ref dB)
  DA : ∃ es n, KDict K w dA es n
  DB : ∃ es n, KDict K w dB es n
  pA : PySem.W.nsIn K dA "pass_days" = some (some (.ref T.a_let_pass))
  aA : PySem.W.nsIn K dA "add" = some (some (.ref T.a_add_book))
  sA : PySem.W.nsIn K dA "set_days" = some (some (.ref T.a_change_days))
  tA : PySem.W.nsIn K dA "take" = some (some (.ref T.a_take_book))
  pB : ∃ tk : Tok, PySem.W.nsIn K dB "pass_days" = some (some (.int 1 tk))
  aB : ∃ tk : Tok, PySem.W.nsIn K dB "add" = some (some (.int 1 tk))
  sB : ∃ tk : Tok, PySem.W.nsIn K dB "set_days" = some (some (.int 2 tk))
  tB : ∃ tk : Tok, PySem.W.nsIn K dB "take" = some (some (.int 1 tk))
mutual
theorem dp_same {K : PySem.W.Frag} {H H' : Hp} (s : Same H H') : ∀ {v : V} {d : PyData}, Dp K H v d → Dp K H' v d
  | _, _, .non => .non
  | _, _, .bl b => .bl b
  | _, _, .int i => .int i
  | _, _, .str x => .str x
  | _, _, .lst h a => .lst (h.imp (fun e => e.imp (fun e => s _ _ e) fun ⟨o, e⟩ => ⟨o, s _ _ e⟩) id) (dpa_same s a)
  | _, _, .tup h a => .tup (h.imp (fun e => e.imp (fun e => s _ _ e) fun ⟨o, e⟩ => ⟨o, s _ _ e⟩) id) (dpa_same s a)
theorem dpa_same {K : PySem.W.Frag} {H H' : Hp} (s : Same H H') : ∀ {v : List V} {d : List PyData}, DpAll K H v d → DpAll K H' v d
  | _, _, .nil => .nil
  | _, _, .cons r rr => .cons (dp_same s r) (dpa_same s rr)
end
theorem sh_op {nm : Str} {as : List Int} (h : PyData.canLay0 (.str nm) = true) : SeqAt.shaped (.tuple (.str nm :: as.map PyData.int)) = true := by
  have h1 := PySem.W.ke_canLayAll0 as
  have h2 := PySem.W.ke_depthAll as
  simp only [SeqAt.shaped, PyData.canLay0, PyData.canLayAll0, PyData.depth, PyData.depthAll, h1, h2]
  simp only [PyData.canLay0] at h
  rw [h]
  simp
/-- a table and what it is -/
def TbG (C tC : Addr) (ss : List Int) (H : Hp) (tb : Addr) (g : GS) : Prop := ∃ (dxt p dx td ts hl cl : Addr) (ha : List Addr) (cs : List V), LvT C tC H tb dxt p dx td ts hl cl ha cs g.ds ss g.t.day g.coming g.t.hp g.t.cu
/-- an operation as a value -/
def OpAt (H : Hp) (v : V) (o : Op) : Prop := ∃ a, v = .ref a ∧ H a = some (.tup (opV o))
/-- all but the live ring stays -/
def KeepL (lr : Addr) (H H' : Hp) : Prop := ∀ b o, H b = some o → b ≠ lr → H' b = some o
theorem KeepL.trans {lr : Addr} {H H1 H2 : Hp} (a : KeepL lr H H1) (b : KeepL lr H1 H2) : KeepL lr H H2 := fun x o h n => b x o (a x o h n) n
theorem Same.keepL {lr : Addr} {H H' : Hp} (s : Same H H') : KeepL lr H H' := fun x o h _ => s x o h
section
variable {C tC vC lr dxl : Addr} {fs : List (Str × V)} {H H' : Hp} {ss : List Int}
theorem TbG.same {tb : Addr} {g : GS} (b : TbG C tC ss H tb g) (s : Same H H') : TbG C tC ss H' tb g := by
  obtain ⟨dxt, p, dx, td, ts, hl, cl, ha, cs, M⟩ := b
  exact ⟨dxt, p, dx, td, ts, hl, cl, ha, cs, M.same s⟩
theorem TbG.keep {tb co : Addr} {kept : V} {g : GS} (b : TbG C tC ss H tb g) (hr : H lr = some (.ins vC dxl (liF co kept))) (k : KeepL lr H H') : TbG C tC ss H' tb g := by
  obtain ⟨dxt, p, dx, td, ts, hl, cl, ha, cs, M⟩ := b
  have tk : ∀ c ys, H c = some (.tup ys) → H' c = some (.tup ys) := fun c ys e => k _ _ e (ne_of e hr (by intro z; cases z))
  have tl : ∀ {c ys}, H c = some (.lst ys) → H' c = some (.lst ys) := fun {c ys} e => k _ _ e (ne_of e hr (by intro z; cases z))
  have nt : tb ≠ lr := fun z => by
    have h1 := M.ob
    rw [z, hr] at h1
    have h2 := Option.some.inj h1
    injection h2 with _ _ h3
    cases h3
  have np : p ≠ lr := fun z => by
    have h1 := M.R.ob
    rw [z, hr] at h1
    have h2 := Option.some.inj h1
    injection h2 with _ _ h3
    have h5 := flds_days td ts
    rw [← h3] at h5
    cases h5
  exact ⟨dxt, p, dx, td, ts, hl, cl, ha, cs, k _ _ M.ob nt, ⟨k _ _ M.R.ob np, tk _ _ M.R.td, tk _ _ M.R.ts, M.R.ok⟩, tl M.fh, M.lh, fun j a h => tk _ _ (M.hv j a h), tl M.fc, M.lc, fun j v h => (M.cv j v h).tups tk, M.ne, M.sm⟩
theorem OpAt.keep {v : V} {o : Op} {co : Addr} {kept : V} (b : OpAt H v o) (hr : H lr = some (.ins vC dxl (liF co kept))) (k : KeepL lr H H') : OpAt H' v o := by
  obtain ⟨a, e, h⟩ := b
  exact ⟨a, e, k _ _ h (ne_of h hr (by intro z; cases z))⟩
theorem paired_imp {α β : Type} {R S : α → β → Prop} (f : ∀ x y, R x y → S x y) : ∀ {xs : List α} {ys : List β}, Paired R xs ys → Paired S xs ys
  | _, _, .nil => .nil
  | _, _, .cons r t => .cons (f _ _ r) (paired_imp f t)
theorem paired_snoc {α β : Type} {R : α → β → Prop} {x : α} {y : β} (h : R x y) : ∀ {xs : List α} {ys : List β}, Paired R xs ys → Paired R (xs ++ [x]) (ys ++ [y])
  | _, _, .nil => .cons h .nil
  | _, _, .cons r t => .cons r (paired_snoc h t)
end
/-- a live ring: its tables before and the last one, its operations, the undone ones -/
structure LiG (C tC cC vC : Addr) (ss : List Int) (H : Hp) (lr dxl co dxc tt ot ut tb : Addr) (tabs : List Addr) (opl und : List V) (gs : List GS) (g : GS) (os us : List Op) : Prop where
  ob : H lr = some (.ins vC dxl (liF co .non))
  co : Co cC H co dxc tt ot ut (tabs ++ [tb]) opl und
  tbs : Paired (TbG C tC ss H) tabs gs
  tb : TbG C tC ss H tb g
  op : Paired (OpAt H) opl os
  un : Paired (OpAt H) und us
def LiE (C tC cC vC : Addr) (ss : List Int) (H : Hp) (lr : Addr) (gs : List GS) (g : GS) (os us : List Op) : Prop := ∃ (dxl co dxc tt ot ut tb : Addr) (tabs : List Addr) (opl und : List V), LiG C tC cC vC ss H lr dxl co dxc tt ot ut tb tabs opl und gs g os us
theorem LiG.same {C tC cC vC : Addr} {ss : List Int} {H H' : Hp} {lr dxl co dxc tt ot ut tb : Addr} {tabs : List Addr} {opl und : List V} {gs : List GS} {g : GS} {os us : List Op} (b : LiG C tC cC vC ss H lr dxl co dxc tt ot ut tb tabs opl und gs g os us) (s : Same H H') : LiG C tC cC vC ss H' lr dxl co dxc tt ot ut tb tabs opl und gs g os us :=
  ⟨s _ _ b.ob, b.co.same s, paired_imp (fun _ _ h => h.same s) b.tbs, b.tb.same s, paired_imp (fun _ _ h => h.keep b.ob (Same.keepL s)) b.op, paired_imp (fun _ _ h => h.keep b.ob (Same.keepL s)) b.un⟩
theorem LiE.same {C tC cC vC : Addr} {ss : List Int} {H H' : Hp} {lr : Addr} {gs : List GS} {g : GS} {os us : List Op} (b : LiE C tC cC vC ss H lr gs g os us) (s : Same H H') : LiE C tC cC vC ss H' lr gs g os us := by
  obtain ⟨dxl, co, dxc, tt, ot, ut, tb, tabs, opl, und, I⟩ := b
  exact ⟨dxl, co, dxc, tt, ot, ut, tb, tabs, opl, und, I.same s⟩
/-- what an action gives: a number, or a new list of such -/
def RvN (v : V) (H1 H2 : Hp) (r : Int ⊕ List (List Int)) : Prop := match r with
  | .inl i => v = .int i
  | .inr ls => ∃ (le : Addr) (xs : List V), v = .ref le ∧ H1 le = none ∧ H2 le = some (.lst xs) ∧ Tups H2 xs ls
section
variable {P : Program} {w : World} {K : PySem.W.Frag} {mg : Str → Option Value} {base : Heap}
/-- apply(op): from a table g to g' by an action whose result is r, or it raises -/
def spAO (C tC cC vC : Addr) (spo : Sp) (nm : Str) (as : List Int) : Sp := fun vs H Q E => ∃ (lr op : Addr) (ss : List Int) (gs : List GS) (g : GS) (os us : List Op) (o : Op) (g' : GS) (r : Int ⊕ List (List Int)) (pr : Prop), vs = [.ref lr, .ref op] ∧ LiE C tC cC vC ss H lr gs g os us ∧ gs.length ≤ 700 ∧ os.length ≤ 700 ∧ H op = some (.tup (opV o)) ∧ opV o = .str nm :: as.map V.int ∧
  (∀ H1 t2 dxt2 p dx td ts hl2 cl2 ha cs, Same H H1 → LvT C tC H1 t2 dxt2 p dx td ts hl2 cl2 ha cs g.ds ss g.t.day g.coming g.t.hp g.t.cu → ∀ Q2 : VK,
    (∀ v H2 p' dx' td' ts' ha' cs', KT t2 hl2 cl2 H1 H2 → LvT C tC H2 t2 dxt2 p' dx' td' ts' hl2 cl2 ha' cs' g'.ds ss g'.t.day g'.coming g'.t.hp g'.t.cu → RvN v H1 H2 r → pr → Q2 v H2) → spo (.ref t2 :: as.map V.int) H1 Q2 E) ∧
  ∀ H' L v, KeepL lr H H' → H L = none → H' L = some (.lst [v]) → RvN v H H' r → LiE C tC cC vC ss H' lr (gs ++ [g]) g' (os ++ [o]) [] → pr → Q (.ref L) H'
theorem ok_ao (T : Tx K mg) (X : Ax w T) {nm : Str} {as : List Int} {fo : Addr} {spo : Sp} (F0 : FnR P w K mg base (L2.CX P w) 7 fo spo) (kp : PySem.W.keepIn K (.ref fo) = true) (hA : PySem.W.nsIn K X.dA nm = some (some (.ref fo)))
    (hB : ∃ tk : Tok, PySem.W.nsIn K X.dB nm = some (some (.int (as.length : Int) tk))) (hn : PyData.canLay0 (.str nm) = true) (h9 : as.length < 900) : FnR P w K mg base (L2.CX P w) 10 T.a_vapply (spAO T.C T.tC T.cC T.vC spo nm as) := by
  obtain ⟨esA, nA, DA⟩ := X.DA
  obtain ⟨esB, nB, DB⟩ := X.DB
  refine (ok_ap (S := fun f => if f = fo then some spo else none) T X.gA DA X.gB DB (by decide) (fun f sp hs => by
      split at hs
      · rename_i e
        cases hs
        subst e
        exact ⟨F0, kp⟩
      · cases hs)).imp fun vs H Q E h => ?_
  obtain ⟨lr, op, ss, gs, g, os, us, o, g', r, pr, rfl, ⟨dxl, co, dxc, tt, ot, ut, tb, tabs, opl, und, I⟩, l1, l2, gop, eop, act, q⟩ := h
  have lt : tabs.length = gs.length := Paired.length I.tbs
  have lo : opl.length = os.length := Paired.length I.op
  refine ⟨[.ref lr], [.ref op], rfl, rfl, (by show 1 ≤ sizeLine; decide), fun ot0 ho0 => ?_⟩
  have u2 := same_upd (o := .tup [.ref op]) ho0
  have g0 : (upd H ot0 (.tup [.ref op])) ot0 = some (.tup [.ref op]) := upd_same
  have gop2 := u2 _ _ gop
  have I2 := I.same u2
  generalize (upd H ot0 (.tup [.ref op])) = H0 at u2 g0 gop2 I2 ⊢
  obtain ⟨dxt, p, dx, td, ts, hl, cl, ha, cs, M⟩ := I2.tb
  have opv : ∀ H', H' op = some (.tup (opV o)) → OpV K X.dB H' (.ref op) true := fun H' h => by
    obtain ⟨tk, hB⟩ := hB
    rw [eop] at h
    exact .inl ⟨op, nm, as.map V.int, as.map PyData.int, _, rfl, h, .tup (.of h) (.cons (.str _) (dp_is _)), sh_op hn, hB, (fun z => by cases z), fun u hu => ⟨_, tk, (Option.some.inj hu).symm, by rw [List.length_map]; exact (decide_eq_true (by omega)).symm⟩⟩
  refine ⟨lr, dxl, ot0, co, dxc, tt, ot, ut, op, tb, dxt, p, dx, td, ts, hl, cl, .non, tabs, opl, und, _, ha, cs, g.ds, ss, g.t.day, g.coming, g.t.hp, g.t.cu, rfl, I2.ob, g0, I2.co, by omega, by omega, gop2,
    fun H' sH' => ⟨opv H' (sH' _ _ gop2), fun H2 s2 d hd => dp_same s2 hd⟩, M, fun H1 t2 dxt2 hl2 cl2 s1 n1 n2 n3 M1 => ?_⟩
  refine ⟨fun v H2 => ∃ (p' dx' td' ts' : Addr) (ha2 : List Addr) (cs2 : List V), KT t2 hl2 cl2 H1 H2 ∧ LvT T.C T.tC H2 t2 dxt2 p' dx' td' ts' hl2 cl2 ha2 cs2 g'.ds ss g'.t.day g'.coming g'.t.hp g'.t.cu ∧ RvN v H1 H2 r ∧ pr, fun Q2 hQ2 => ?_, fun v H2 hv => ?_⟩
  · refine ⟨.ref t2, op, fo, nm, as.map V.int, spo, rfl, by rw [← eop]; exact s1 _ _ gop2, by rw [List.length_map]; exact h9, hA, if_pos rfl, fun H' s' => ?_⟩
    refine act H' t2 dxt2 p dx td ts hl2 cl2 ha cs ((u2.trans s1).trans s') (M1.same s') Q2 fun v H2 p' dx' td' ts' ha' cs' k2 M2 rv hpr => ?_
    refine hQ2 _ _ ⟨p', dx', td', ts', ha', cs', (Same.kt s').trans k2, M2, ?_, hpr⟩
    cases r with
    | inl i => exact rv
    | inr ls =>
      obtain ⟨le, xs, e1, e2, e3, e4⟩ := rv
      exact ⟨le, xs, e1, same_noneT s' e2, e3, e4⟩
  · obtain ⟨p', dx', td', ts', ha2, cs2, k2, M2, rv, hpr⟩ := hv
    refine ⟨k2, fun H3 L c2 dx2 tt2 ot2 ut2 kp g3 gL L0' gL1 m1 m2 m3 O3 => ?_⟩
    have glr1 := s1 _ _ I2.ob
    have nlr : ∀ {b : Addr}, H0 b = none → b ≠ lr := fun e => (ne_of_none I2.ob e).symm
    have gL2 := k2 _ _ gL1 m1 m2 m3
    have glr2 := k2 _ _ glr1 (nlr n1).symm (nlr n2).symm (nlr n3).symm
    have tk : ∀ c ys, H2 c = some (.tup ys) → H3 c = some (.tup ys) := fun c ys e => kp _ _ e (ne_of e glr2 (by intro z; cases z)) (ne_of e gL2 (by intro z; cases z))
    have pl : p' ≠ lr := fun z => by
      have h1 := M2.R.ob
      rw [z, glr2] at h1
      have h2 := Option.some.inj h1
      injection h2 with _ _ h3
      have h5 := flds_days td' ts'
      rw [← h3] at h5
      cases h5
    have kl : KeepL lr H H3 := fun b o e n => by
      have e0 := u2 _ _ e
      exact kp _ _ (k2 _ _ (s1 _ _ e0) (ne_of_none e0 n1) (ne_of_none e0 n2) (ne_of_none e0 n3)) n (ne_of_none e0 L0')
    have M3 : LvT T.C T.tC H3 t2 dxt2 p' dx' td' ts' hl2 cl2 ha2 cs2 g'.ds ss g'.t.day g'.coming g'.t.hp g'.t.cu := ⟨kp _ _ M2.ob (nlr n1) m1.symm, ⟨kp _ _ M2.R.ob pl (ne_of M2.R.ob gL2 (by intro z; cases z)), tk _ _ M2.R.td, tk _ _ M2.R.ts, M2.R.ok⟩, kp _ _ M2.fh (nlr n2) m2.symm, M2.lh, fun j a h => tk _ _ (M2.hv j a h), kp _ _ M2.fc (nlr n3) m3.symm, M2.lc, fun j v h => (M2.cv j v h).tups tk, M2.ne, M2.sm⟩
    refine q H3 L v kl (same_noneT u2 L0') gL ?_ ⟨dxl, c2, dx2, tt2, ot2, ut2, t2, tabs ++ [tb], opl ++ [.ref op], [], g3, O3, paired_snoc (I.tb.keep I.ob kl) (paired_imp (fun _ _ h => h.keep I.ob kl) I.tbs), ⟨dxt2, p', dx', td', ts', hl2, cl2, ha2, cs2, M3⟩, paired_snoc ⟨op, rfl, kl _ _ gop (ne_of gop I.ob (by intro z; cases z))⟩ (paired_imp (fun _ _ h => h.keep I.ob kl) I.op), .nil⟩ hpr
    cases r with
    | inl i => exact rv
    | inr ls =>
      obtain ⟨le, xs, e1, e2, e3, e4⟩ := rv
      have le0 := same_noneT s1 e2
      exact ⟨le, xs, e1, same_noneT u2 le0, kp _ _ e3 (nlr le0) (ne_of_none gL1 e2).symm, e4.mono tk⟩
end
end Rp
/-! Live rings: pass_days, add, set_days, take. -/
namespace Rp
open PySem PySem.Spec PyProof.Rows L2 Rz Rm Rl
/-- the classes of errors -/
structure LiX (K : PySem.W.Frag) (mg : Str → Option Value) where
  CN : Addr
  CR : Addr
  CB : Addr
  CX : Addr
  cE : Addr
  EN : RxE K mg "InvalidNumber" CN
  ER : RxE K mg "UnknownReader" CR
  EB : RxE K mg "UnknownBook" CB
  BX : XcF K mg cE CX "book"
  gX : mg "BeingRead" = some (.ref CX)
/-- how the word for a failure is raised -/
def ErrV {K : PySem.W.Frag} {mg : Str → Option Value} (L : LiX K mg) (cls : Value) (d : Option Addr) (H : Hp) : Wd → Prop
  | .number => cls = .ref L.CN ∧ d = none
  | .book => cls = .ref L.CB ∧ d = none
  | .read b => cls = .ref L.CX ∧ ∃ dd, d = some dd ∧ H dd = some (.xd [("book", .int b)])
/-- what an operation gives -/
def resR (o : Op) (g : GS) : Int ⊕ List (List Int) := match o with
  | .pass n => .inr (dyL g.ds g.t n)
  | .add _ => .inl g.coming
  | .setd k _ => .inl (at' g.ds k)
  | .take b => .inl ((atK g b).getD 0 : Nat)
section
variable {P : Program} {w : World} {K : PySem.W.Frag} {mg : Str → Option Value} {base : Heap}
theorem up_fn {T : Tx K mg} {k j : Nat} {f : Addr} {fd : FuncData} {ps : List Str} {sp : Sp} (F : FnOk P w K mg base (L2.CX P w) k f fd ps sp) (hb : Binds K fd ps []) (h : k ≤ j) : FnR P w K mg base (L2.CX P w) j f sp :=
  ((F.raw hb .nil).imp fun vs H Q E h => by
    rw [List.append_nil]
    exact h).mono h
theorem fn_up {k : Nat} {f : Addr} {fd : FuncData} {ps : List Str} {sp : Sp} (F : FnOk P w K mg base CX0 k f fd ps sp) :
    FnOk P w K mg base (L2.CX P w) k f fd ps sp := by
  refine ⟨F.len, fun A outer s H args us vs Q E hr e0 b r h => ?_⟩
  refine codeAny_mono (F.run A outer s H args us vs Q _ hr e0 b r h) fun res s' z => ?_
  cases res with
  | ok fl => cases fl <;> exact z
  | error e => exact z.elim
/-- a method that does the operation o -/
def spM {K : PySem.W.Frag} {mg : Str → Option Value} (C tC cC vC : Addr) (L : LiX K mg) (F : Op → Prop) : Sp := fun vs H Q E => ∃ (lr : Addr) (ss : List Int) (gs : List GS) (g : GS) (os us : List Op) (m : Int) (o : Op) (nm : V) (as : List V), F o ∧ opV o = nm :: as ∧ vs = .ref lr :: as ∧ LiE C tC cC vC ss H lr gs g os us ∧ GI g.ds.length m g ∧ OpOk g.ds.length o ∧ gs.length ≤ 700 ∧ os.length ≤ 700 ∧
  (err o g = none → ∀ H' v, KeepL lr H H' → RvN v H H' (resR o g) → LiE C tC cC vC ss H' lr (gs ++ [g]) (stp o g) (os ++ [o]) [] → Q v H') ∧ (∀ wd, err o g = some wd → ∀ H' cls d, Same H H' → ErrV L cls d H' wd → E cls d H')
theorem GI.b9 {m : Int} {g : GS} (h : GI g.ds.length m g) : (bks g.t.hp g.t.cu g.ds.length).Nodup ∧ (bks g.t.hp g.t.cu g.ds.length).length ≤ 900 := by
  rw [bks_bk2 h.rs]
  exact ⟨h.nd, Nat.le_trans h.ct (by decide)⟩
theorem ret0 {K : PySem.W.Frag} {lr L : Addr} {H H1 H' : Hp} {v : V} {r : Int ⊕ List (List Int)} (s : Same H H1) (rv : RvN v H1 H' r) : RvN v H H' r := by
  cases r with
  | inl i => exact rv
  | inr ls =>
    obtain ⟨le, xs, e1, e2, e3, e4⟩ := rv
    exact ⟨le, xs, e1, same_noneT s e2, e3, e4⟩
theorem m_pass (T : Tx K mg) (X : Ax w T) (L : LiX K mg) : FnOk P w K mg base (L2.CX P w) 11 T.a_vpass_days T.d_vpass_days P_vpass_days (spM T.C T.tC T.cC T.vC L fun o => ∃ n, o = .pass n) := by
  refine T.F_vpass_days.okX sc_vpass_days (fun vs H Q E h => ?_) (fun cdv A outer s0 H vs Q E hr h => ?_)
  · obtain ⟨lr, ss, gs, g, os, us, m, o, nm, as, ⟨n, rfl⟩, e, rfl, _⟩ := h
    cases e
    rfl
  · obtain ⟨lr, ss, gs, g, os, us, m, o, nm, as, ⟨n, rfl⟩, e, rfl, I, G, hok, l1, l2, q, qe⟩ := h
    cases e
    refine ⟨_, pss_one (ps_ret (pe_ix ix_list (pe_methR (E := E) (pv 0) T.clv T.mv_apply (ok_ao (as := [(n : Int)]) T X (up_fn (T := T) (fn_up (ok_let T)) T.b_let_pass (by decide : 5 ≤ 7)) T.F_let_pass.kp X.pA X.pB (by decide +kernel) (by show 1 < 900; decide)) (hr.mono (by decide : 10 ≤ 10)) (passes_call (takes_of rfl rfl rfl rfl) (fun _ _ _ _ z => z)) (pa_cons (pe_tup (pa_cons pe_str (pa_cons (pv 1) pa_nil))) pa_nil)) pe_int (fun _ _ => rfl))), ?_⟩
    have I0 := I
    obtain ⟨dxl, co, dxc, tt, ot, ut, tb, tabs, opl, und, I1⟩ := I0
    refine ⟨_, rfl, lr, dxl, _, rfl, I1.ob, rfl, _, rfl, (by show 2 ≤ sizeLine; decide), fun op hop => ?_⟩
    have u1 := same_upd (o := .tup (opV (.pass n))) hop
    refine ⟨lr, op, ss, gs, g, os, us, .pass n, stp (.pass n) g, resR (.pass n) g, True, rfl, I.same u1, l1, l2, upd_same, rfl, fun H1 t2 dxt2 p dx td ts hl2 cl2 ha cs s1 M Q2 hQ2 => ?_, fun H' L' v kl L0 gL rv I' pr => ?_⟩
    · exact ⟨t2, dxt2, p, dx, td, ts, hl2, cl2, ha, cs, g.ds, ss, g.coming, g.t, n, rfl, M, fun j hj => Nat.le_trans (G.hp12 hj) (by decide), hok, fun H2 ha2 cs2 le xs k2 M2 l0 gl TT => hQ2 _ H2 p dx td ts ha2 cs2 k2 M2 ⟨le, xs, rfl, l0, gl, TT⟩ True.intro⟩
    · exact ⟨L', _, 0, _, rfl, rfl, .of gL, atI_nat (j := 0) rfl, q rfl H' v (fun b o h n => kl b o (u1 _ _ h) n) (ret0 (K := K) (lr := lr) (L := L') u1 rv) I'⟩
theorem m_add (T : Tx K mg) (X : Ax w T) (L : LiX K mg) : FnOk P w K mg base (L2.CX P w) 11 T.a_vadd T.d_vadd P_vadd (spM T.C T.tC T.cC T.vC L fun o => ∃ k, o = .add k) := by
  refine T.F_vadd.okX sc_vadd (fun vs H Q E h => ?_) (fun cdv A outer s0 H vs Q E hr h => ?_)
  · obtain ⟨lr, ss, gs, g, os, us, m, o, nm, as, ⟨n, rfl⟩, e, rfl, _⟩ := h
    cases e
    rfl
  · obtain ⟨lr, ss, gs, g, os, us, m, o, nm, as, ⟨k, rfl⟩, e, rfl, I, G, hok, l1, l2, q, qe⟩ := h
    cases e
    obtain ⟨nb, l9⟩ := G.b9
    have hok : k < g.ds.length := hok
    refine ⟨_, pss_one (ps_ret (pe_ix ix_list (pe_methR (E := E) (pv 0) T.clv T.mv_apply (ok_ao (as := [(k : Int)]) T X (up_fn (T := T) (ok_add T L.ER L.EN) T.b_add_book (by decide : 4 ≤ 7)) T.F_add_book.kp X.aA X.aB (by decide +kernel) (by show 1 < 900; decide)) hr (passes_call (takes_of rfl rfl rfl rfl) (fun _ _ _ _ z => z)) (pa_cons (pe_tup (pa_cons pe_str (pa_cons (pv 1) pa_nil))) pa_nil)) pe_int (fun _ _ => rfl))), ?_⟩
    have I0 := I
    obtain ⟨dxl, co, dxc, tt, ot, ut, tb, tabs, opl, und, I1⟩ := I0
    refine ⟨_, rfl, lr, dxl, _, rfl, I1.ob, rfl, _, rfl, (by show 2 ≤ sizeLine; decide), fun op hop => ?_⟩
    have u1 := same_upd (o := .tup (opV (.add k))) hop
    have ev : err (.add k) g = if 12 ≤ (bks g.t.hp g.t.cu g.ds.length).length then some Wd.number else none := rfl
    refine ⟨lr, op, ss, gs, g, os, us, .add k, stp (.add k) g, resR (.add k) g, (bks g.t.hp g.t.cu g.ds.length).length < 12, rfl, I.same u1, l1, l2, upd_same, rfl, fun H1 t2 dxt2 p dx td ts hl2 cl2 ha cs s1 M Q2 hQ2 => ?_, fun H' L' v kl L0 gL rv I' pr => ?_⟩
    · refine ⟨t2, dxt2, p, dx, td, ts, hl2, cl2, ha, cs, g.ds, ss, g.t.day, g.coming, g.t.hp, g.t.cu, _, rfl, M, nb, l9, .inr ⟨k, rfl, hok, fun h12 H' s' => ?_, fun hlt => ⟨by have := G.hp12 hok; omega, fun H' ha' cs' k2 M2 => hQ2 _ H' p dx td ts ha' cs' k2 M2 rfl hlt⟩⟩⟩
      exact qe .number (by rw [ev, if_pos h12]) H' _ _ ((u1.trans s1).trans s') ⟨rfl, rfl⟩
    · exact ⟨L', _, 0, _, rfl, rfl, .of gL, atI_nat (j := 0) rfl, q (by rw [ev, if_neg (by omega)]) H' v (fun b o h n => kl b o (u1 _ _ h) n) (ret0 (K := K) (lr := lr) (L := L') u1 rv) I'⟩
theorem m_set (T : Tx K mg) (X : Ax w T) (L : LiX K mg) : FnOk P w K mg base (L2.CX P w) 11 T.a_vset_days T.d_vset_days P_vset_days (spM T.C T.tC T.cC T.vC L fun o => ∃ k d, o = .setd k d) := by
  refine T.F_vset_days.okX sc_vset_days (fun vs H Q E h => ?_) (fun cdv A outer s0 H vs Q E hr h => ?_)
  · obtain ⟨lr, ss, gs, g, os, us, m, o, nm, as, ⟨n, d, rfl⟩, e, rfl, _⟩ := h
    cases e
    rfl
  · obtain ⟨lr, ss, gs, g, os, us, m, o, nm, as, ⟨k, d, rfl⟩, e, rfl, I, G, hok, l1, l2, q, qe⟩ := h
    cases e
    obtain ⟨hk, d1, d30⟩ := hok
    refine ⟨_, pss_one (ps_ret (pe_ix ix_list (pe_methR (E := E) (pv 0) T.clv T.mv_apply (ok_ao (as := [(k : Int), d]) T X (up_fn (T := T) (ok_chg T L.ER L.EN) T.b_change_days (by decide : 7 ≤ 7)) T.F_change_days.kp X.sA X.sB (by decide +kernel) (by show 2 < 900; decide)) hr (passes_call (takes_of rfl rfl rfl rfl) (fun _ _ _ _ z => z)) (pa_cons (pe_tup (pa_cons pe_str (pa_cons (pv 1) (pa_cons (pv 2) pa_nil)))) pa_nil)) pe_int (fun _ _ => rfl))), ?_⟩
    have I0 := I
    obtain ⟨dxl, co, dxc, tt, ot, ut, tb, tabs, opl, und, I1⟩ := I0
    refine ⟨_, rfl, lr, dxl, _, rfl, I1.ob, rfl, _, rfl, _, rfl, (by show 3 ≤ sizeLine; decide), fun op hop => ?_⟩
    have u1 := same_upd (o := .tup (opV (.setd k d))) hop
    refine ⟨lr, op, ss, gs, g, os, us, .setd k d, stp (.setd k d) g, resR (.setd k d) g, True, rfl, I.same u1, l1, l2, upd_same, rfl, fun H1 t2 dxt2 p dx td ts hl2 cl2 ha cs s1 M Q2 hQ2 => ?_, fun H' L' v kl L0 gL rv I' _ => ?_⟩
    · exact ⟨t2, dxt2, p, dx, td, ts, hl2, cl2, ha, cs, g.ds, ss, g.t.day, g.coming, g.t.hp, g.t.cu, _, _, rfl, M, .inr ⟨k, rfl, hk, .inr ⟨d, rfl, d1, d30, fun H' p' dx' td' ts' k2 M2 => hQ2 _ H' p' dx' td' ts' ha cs k2 M2 rfl True.intro⟩⟩⟩
    · exact ⟨L', _, 0, _, rfl, rfl, .of gL, atI_nat (j := 0) rfl, q rfl H' v (fun b o h n => kl b o (u1 _ _ h) n) (ret0 (K := K) (lr := lr) (L := L') u1 rv) I'⟩
theorem m_take (T : Tx K mg) (X : Ax w T) (L : LiX K mg) : FnOk P w K mg base (L2.CX P w) 11 T.a_vtake T.d_vtake P_vtake (spM T.C T.tC T.cC T.vC L fun o => ∃ b, o = .take b) := by
  refine T.F_vtake.okX sc_vtake (fun vs H Q E h => ?_) (fun cdv A outer s0 H vs Q E hr h => ?_)
  · obtain ⟨lr, ss, gs, g, os, us, m, o, nm, as, ⟨n, rfl⟩, e, rfl, _⟩ := h
    cases e
    rfl
  · obtain ⟨lr, ss, gs, g, os, us, m, o, nm, as, ⟨b, rfl⟩, e, rfl, I, G, hok, l1, l2, q, qe⟩ := h
    cases e
    obtain ⟨nb, l9⟩ := G.b9
    obtain ⟨b0, b1⟩ := hok
    refine ⟨_, pss_one (ps_ret (pe_ix ix_list (pe_methR (E := E) (pv 0) T.clv T.mv_apply (ok_ao (as := [b]) T X (up_fn (T := T) (ok_take T L.EB L.BX L.gX) T.b_take_book (by decide : 6 ≤ 7)) T.F_take_book.kp X.tA X.tB (by decide +kernel) (by show 1 < 900; decide)) hr (passes_call (takes_of rfl rfl rfl rfl) (fun _ _ _ _ z => z)) (pa_cons (pe_tup (pa_cons pe_str (pa_cons (pv 1) pa_nil))) pa_nil)) pe_int (fun _ _ => rfl))), ?_⟩
    have I0 := I
    obtain ⟨dxl, co, dxc, tt, ot, ut, tb, tabs, opl, und, I1⟩ := I0
    refine ⟨_, rfl, lr, dxl, _, rfl, I1.ob, rfl, _, rfl, (by show 2 ≤ sizeLine; decide), fun op hop => ?_⟩
    have u1 := same_upd (o := .tup (opV (.take b))) hop
    have ev : err (.take b) g = match atK g b with | some k => if b ∈ g.t.hp k then none else some (.read b) | none => some .book := rfl
    have es : stp (.take b) g = match atK g b with | some k => ⟨g.ds, g.coming, ⟨g.t.day, tkH g.t.hp k b, g.t.cu⟩⟩ | none => g := rfl
    refine ⟨lr, op, ss, gs, g, os, us, .take b, stp (.take b) g, resR (.take b) g, err (.take b) g = none, rfl, I.same u1, l1, l2, upd_same, rfl, fun H1 t2 dxt2 p dx td ts hl2 cl2 ha cs s1 M Q2 hQ2 => ?_, fun H' L' v kl L0 gL rv I' pr => ?_⟩
    · cases ha' : atK g b with
      | none =>
        refine ⟨t2, dxt2, p, dx, td, ts, hl2, cl2, ha, cs, g.ds, ss, g.t.day, g.coming, g.t.hp, g.t.cu, _, rfl, M, nb, l9, .inl ⟨.inl ⟨b, rfl, atK_none ha'⟩, fun H' s' => ?_⟩⟩
        exact qe .book (by rw [ev, ha']) H' _ _ ((u1.trans s1).trans s') ⟨rfl, rfl⟩
      | some k =>
        obtain ⟨hk, hb⟩ := atK_some ha'
        refine ⟨t2, dxt2, p, dx, td, ts, hl2, cl2, ha, cs, g.ds, ss, g.t.day, g.coming, g.t.hp, g.t.cu, _, rfl, M, nb, l9, .inr ⟨b, k, rfl, hk, hb, ?_⟩⟩
        by_cases hin : b ∈ g.t.hp k
        · refine .inr ⟨hin, fun H' ha2 k2 M2 => ?_⟩
          refine hQ2 _ H' p dx td ts ha2 cs k2 (by rw [es, ha']; exact M2) ?_ (by rw [ev, ha']; exact if_pos hin)
          show V.int (k : Int) = V.int (((atK g b).getD 0 : Nat) : Int)
          rw [ha']
          rfl
        · refine .inl ⟨hin, b0, b1, fun dd H' s' hd => ?_⟩
          exact qe (.read b) (by rw [ev, ha']; exact if_neg hin) H' _ _ ((u1.trans s1).trans s') ⟨rfl, dd, rfl, hd⟩
    · exact ⟨L', _, 0, _, rfl, rfl, .of gL, atI_nat (j := 0) rfl, q pr H' v (fun b o h n => kl b o (u1 _ _ h) n) (ret0 (K := K) (lr := lr) (L := L') u1 rv) I'⟩
end
end Rp
/-! Live rings: undo, redo, and what is told of them. -/
namespace Rp
open PySem PySem.Spec PyProof.Rows L2 Rz Rm Rl
section
variable {K : PySem.W.Frag} {H : Hp} {Q : VK} {a : Addr} {xs : List V} {x : V}
theorem sl_last (ha : H a = some (.tup (xs ++ [x]))) (h : ∀ H' p, Same H H' → H' p = some (.tup [x]) → Q (.ref p) H') : rSlA K (.ref a) (some (-1)) none H Q := by
  have e0 : HT.sIx (xs ++ [x]).length 0 (some (-1)) = xs.length := by
    show (if (-1 : Int) < 0 then ((-1 : Int) + ((xs ++ [x]).length : Nat)).toNat else min (-1 : Int).toNat (xs ++ [x]).length) = _
    rw [if_pos (by decide), List.length_append, List.length_singleton]
    omega
  have e1 : cutV (xs ++ [x]) (some (-1)) none = [x] := by
    unfold cutV
    rw [e0, HT.sIx_none, List.drop_left, List.take_of_length_le (by rw [List.length_append, List.length_singleton]; omega)]
  refine ⟨a, _, rfl, .of ha, fun z => h H a (fun _ _ q => q) ?_, fun _ p hp => h _ p (same_upd hp) (by rw [upd_same, e1])⟩
  rw [e0] at z
  rw [ha, List.length_eq_zero_iff.mp z.1]
  rfl
theorem sl_init (ha : H a = some (.tup (xs ++ [x]))) (h : ∀ H' p, Same H H' → H' p = some (.tup xs) → Q (.ref p) H') : rSlA K (.ref a) none (some (-1)) H Q := by
  have e0 : HT.sIx (xs ++ [x]).length (xs ++ [x]).length (some (-1)) = xs.length := by
    show (if (-1 : Int) < 0 then ((-1 : Int) + ((xs ++ [x]).length : Nat)).toNat else min (-1 : Int).toNat (xs ++ [x]).length) = _
    rw [if_pos (by decide), List.length_append, List.length_singleton]
    omega
  have e1 : cutV (xs ++ [x]) none (some (-1)) = xs := by
    unfold cutV
    rw [e0, HT.sIx_none, List.drop_zero, Nat.sub_zero, List.take_left]
  refine ⟨a, _, rfl, .of ha, fun z => ?_, fun _ p hp => h _ p (same_upd hp) (by rw [upd_same, e1])⟩
  rw [e0] at z
  have := z.2
  rw [List.length_append, List.length_singleton] at this
  omega
end
theorem paired_inv {α β : Type} {R : α → β → Prop} {y : β} : ∀ {xs : List α} {ys : List β}, Paired R xs (ys ++ [y]) → ∃ xs' x, xs = xs' ++ [x] ∧ Paired R xs' ys ∧ R x y
  | _, [], .cons r .nil => ⟨[], _, rfl, .nil, r⟩
  | _, _ :: _, .cons r t => by
    obtain ⟨xs', x, e, p, h⟩ := paired_inv t
    exact ⟨_ :: xs', x, by rw [e]; rfl, .cons r p, h⟩
/-- an operation as data -/
def opD : Op → PyData
  | .pass n => .tuple [.str "pass_days", .int n]
  | .add k => .tuple [.str "add", .int k]
  | .setd k d => .tuple [.str "set_days", .int k, .int d]
  | .take b => .tuple [.str "take", .int b]
theorem opD_lay (o : Op) : (opD o).canLay0 = true ∧ (opD o).depth ≤ 1 := by
  cases o <;> (constructor <;> (first | rfl | decide +kernel | (simp [opD, PyData.canLay0, PyData.canLayAll0, PyData.depth, PyData.depthAll]; done) | (simp [opD, PyData.canLay0, PyData.canLayAll0, PyData.depth, PyData.depthAll]; decide +kernel)))
theorem opAt_dp {K : PySem.W.Frag} {H : Hp} {v : V} {o : Op} (h : OpAt H v o) : Dp K H v (opD o) := by
  obtain ⟨a, rfl, h⟩ := h
  cases o with
  | pass n => exact .tup (.of h) (.cons (.str _) (.cons (.int _) .nil))
  | add n => exact .tup (.of h) (.cons (.str _) (.cons (.int _) .nil))
  | setd n d => exact .tup (.of h) (.cons (.str _) (.cons (.int _) (.cons (.int _) .nil)))
  | take n => exact .tup (.of h) (.cons (.str _) (.cons (.int _) .nil))
theorem ops_dp {K : PySem.W.Frag} {H : Hp} : ∀ {vs : List V} {os : List Op}, Paired (OpAt H) vs os → DpAll K H vs (os.map opD)
  | _, _, .nil => .nil
  | _, _, .cons r t => .cons (opAt_dp r) (ops_dp t)
theorem ops_lay : ∀ os : List Op, PyData.canLayAll0 (os.map opD) = true ∧ PyData.depthAll (os.map opD) ≤ 1
  | [] => ⟨rfl, Nat.zero_le _⟩
  | o :: r => by
    obtain ⟨h1, h2⟩ := ops_lay r
    obtain ⟨h3, h4⟩ := opD_lay o
    constructor
    · simp [PyData.canLayAll0, h1, h3]
    · simp only [List.map_cons, PyData.depthAll]
      omega
theorem sh_ops (os : List Op) : SeqAt.shaped (.tuple (os.map opD)) = true ∧ SeqAt.shaped (.list (os.map opD)) = true := by
  obtain ⟨h1, h2⟩ := ops_lay os
  constructor
  · simp only [SeqAt.shaped, PyData.canLay0, PyData.depth, h1, Bool.true_and]
    exact decide_eq_true (by omega)
  · simp only [SeqAt.shaped, PyData.canLay0, PyData.depth, h1, Bool.true_and]
    exact decide_eq_true (by omega)
theorem ne_unit {d : PyData} {ds : List PyData} : PyData.eqv (.tuple (ds ++ [d])) (.tuple []) = false := by
  cases ds with
  | nil => rfl
  | cons a r => rfl
section
variable {P : Program} {w : World} {K : PySem.W.Frag} {mg : Str → Option Value} {base : Heap}
def spUndo (C tC cC vC : Addr) : Sp := fun vs H Q _ => ∃ (lr : Addr) (ss : List Int) (gs : List GS) (g : GS) (os us : List Op), vs = [.ref lr] ∧ LiE C tC cC vC ss H lr gs g os us ∧ us.length ≤ 700 ∧
  ((os = [] ∧ ∀ H', Same H H' → Q (.bl false) H') ∨ ∃ gs' g' os' o, gs = gs' ++ [g'] ∧ os = os' ++ [o] ∧ ∀ H', KeepL lr H H' → LiE C tC cC vC ss H' lr gs' g' os' (us ++ [o]) → Q (.bl true) H')
theorem ok_undo (T : Tx K mg) : FnOk P w K mg base CX0 3 T.a_vundo T.d_vundo P_vundo (spUndo T.C T.tC T.cC T.vC) := by
  refine T.F_vundo.ok sc_vundo (fun vs H Q E h => ?_) (fun cdv A outer s0 H vs Q E hr h => ?_)
  · obtain ⟨lr, ss, gs, g, os, us, rfl, _⟩ := h
    rfl
  · obtain ⟨lr, ss, gs, g, os, us, rfl, ⟨dxl, co, dxc, tt, ot, ut, tb, tabs, opl, und, I⟩, l7, q⟩ := h
    have nd := sc_vundo.nd
    refine ⟨_, pss_cons (ps_set (i := 1) nd rfl (.inl rfl) (pe_fld (pv 0) rfl)) (pss_cons (ps_if (pt_cmpR (op_eqD hr.units) (pe_fld (pv 1) rfl) (pe_tup pa_nil) (nomark _)) (pss_one (ps_ret pe_bl)) pss_nil)
      (pss_cons (ps_set (i := 2) nd rfl (.inl rfl) (pe_op op_catA (pe_fld (pv 1) rfl) (pe_slice sl_tupA (pe_fld (pv 1) rfl) (po_some (pe_un un_neg pe_int)) po_none)))
      (pss_cons (ps_fld (pv 0) (pe_make T.mkc (ok_ci T) hr (by rfl) T.gcC T.b_cinit .nil pass0 (pa_cons (pe_slice sl_tupA (pe_fld (pv 1) rfl) po_none (po_some (pe_un un_neg pe_int))) (pa_cons (pe_slice sl_tupA (pe_fld (pv 1) rfl) po_none (po_some (pe_un un_neg pe_int))) (pa_cons (pv 2) pa_nil)))) rfl)
      (pss_one (ps_ret pe_bl))))), ?_⟩
    refine ⟨_, rfl, lr, _, dxl, _, _, rfl, I.ob, T.clv, T.nv__course, rfl, ?_⟩
    refine ⟨_, rfl, co, _, dxc, _, _, rfl, I.co.ob, T.clc, T.nc_operations, rfl, Nat.zero_le _, fun e he => ?_⟩
    have s1 := same_upd (o := .tup []) he
    have I1 := I.same s1
    have ge : (upd H e (.tup [])) e = some (.tup []) := upd_same
    generalize (upd H e (.tup [])) = H1 at s1 I1 ge ⊢
    rcases q with ⟨rfl, q⟩ | ⟨gs', g', os', o, rfl, rfl, q⟩
    · have hop := I1.op
      have e0 : opl = [] := by cases hop; rfl
      subst e0
      exact ⟨_, _, .tup (.of I1.co.hop) .nil, .tup (.of ge) .nil, sh_unit, sh_unit, _, rfl, iteT (q _ s1)⟩
    · refine ⟨_, _, .tup (.of I1.co.hop) (ops_dp I1.op), .tup (.of ge) .nil, (sh_ops _).1, sh_unit, _, rfl, ?_⟩
      rw [List.map_append, show ([o] : List Op).map opD = [opD o] from rfl, ne_unit]
      refine iteF ?_
      obtain ⟨opl', op, rfl, hop', hop1⟩ := paired_inv I1.op
      obtain ⟨tabs', tb', rfl, htb', htb1⟩ := paired_inv I1.tbs
      have lu : und.length = us.length := Paired.length I1.un
      refine ⟨_, rfl, co, _, dxc, _, _, rfl, I1.co.ob, T.clc, T.nc_undone, rfl, _, rfl, co, _, dxc, _, _, rfl, I1.co.ob, T.clc, T.nc_operations, rfl, _, rfl, _, rfl, noPart ?_⟩
      refine sl_last I1.co.hop fun H2 p2 s2 g2 => ?_
      have I2 := I1.same s2
      refine cat_any I2.co.hu g2 (Nat.le_of_lt (small1000 (by show _ + 1 ≤ 1000; omega))) fun H3 ut3 s3 g3 => ?_
      have I3 := I2.same s3
      refine ⟨_, rfl, co, _, dxc, _, _, rfl, I3.co.ob, T.clc, T.nc_tables, rfl, noPart ⟨_, rfl, _, rfl, ?_⟩⟩
      have htt := I3.co.ht
      rw [List.map_append] at htt
      refine sl_init htt fun H4 tt4 s4 g4 => ?_
      have I4 := I3.same s4
      refine ⟨_, rfl, co, _, dxc, _, _, rfl, I4.co.ob, T.clc, T.nc_operations, rfl, noPart ⟨_, rfl, _, rfl, ?_⟩⟩
      refine sl_init I4.co.hop fun H5 ot5 s5 g5 => ?_
      have I5 := I4.same s5
      refine ⟨_, rfl, fun c2 d2 nc2 nd2 ne2 => ?_⟩
      have s6 : Same H5 (upd (upd H5 d2 (.own c2)) c2 (.ins T.cC d2 [])) := fun b o e => by
        rw [upd_ne (ne_of_none e nc2), upd_ne (ne_of_none e nd2)]
        exact e
      refine ⟨c2, d2, tt4, ot5, ut3, _, _, _, rfl, upd_same, s6 _ _ (s5 _ _ g4), s6 _ _ g5, s6 _ _ (s5 _ _ (s4 _ _ g3)), fun H6 ob6 kp6 => ⟨rfl, ?_⟩⟩
      have s56 : Same H5 H6 := fun b o e => by
        rw [kp6 b (ne_of_none e nc2)]
        exact s6 _ _ e
      have I6 := I5.same s56
      refine ⟨_, rfl, lr, T.vC, dxl, _, rfl, I6.ob, T.clv, T.nv__course, (by show 2 < 1000; decide), ?_⟩
      have sall : Same H H6 := ((((s1.trans s2).trans s3).trans s4).trans s5).trans s56
      have nc0 : H c2 = none := same_noneT ((((s1.trans s2).trans s3).trans s4).trans s5) nc2
      have kl : KeepL lr H (upd H6 lr (.ins T.vC dxl (putF "_course" (.ref c2) (liF co .non)))) := fun b o e n => (upd_ne n).trans (sall b o e)
      have kl6 : KeepL lr H6 (upd H6 lr (.ins T.vC dxl (putF "_course" (.ref c2) (liF co .non)))) := fun b o e n => (upd_ne n).trans e
      have ncl : c2 ≠ lr := (ne_of_none I.ob nc0).symm
      have tk : ∀ {c ys}, H6 c = some (.tup ys) → (upd H6 lr (.ins T.vC dxl (putF "_course" (.ref c2) (liF co .non)))) c = some (.tup ys) := fun {c ys} e => (upd_ne (ne_of e I6.ob (by intro z; cases z))).trans e
      have sp : Same H1 H6 := (((s2.trans s3).trans s4).trans s5).trans s56
      refine q _ kl ⟨dxl, c2, d2, tt4, ot5, ut3, tb', tabs', opl', und ++ [op], upd_same, ⟨(upd_ne ncl).trans ob6, ?_, tk (s56 _ _ g5), tk (s56 _ _ (s5 _ _ (s4 _ _ g3)))⟩, paired_imp (fun _ _ h => (h.same sp).keep I6.ob kl6) htb', (htb1.same sp).keep I6.ob kl6, paired_imp (fun _ _ h => (h.keep I1.ob (Same.keepL sp)).keep I6.ob kl6) hop', paired_snoc ((hop1.keep I1.ob (Same.keepL sp)).keep I6.ob kl6) (paired_imp (fun _ _ h => (h.keep I1.ob (Same.keepL sp)).keep I6.ob kl6) I1.un)⟩
      have := tk (s56 _ _ (s5 _ _ g4))
      rw [this]
end
end Rp
/-! Live rings: redo, and what is told of them. -/
namespace Rp
open PySem PySem.Spec PyProof.Rows L2 Rz Rm Rl
section
variable {P : Program} {w : World} {K : PySem.W.Frag} {mg : Str → Option Value} {base : Heap}
/-- an operation that can be, as its action does it -/
theorem act_ok (T : Tx K mg) (X : Ax w T) (L : LiX K mg) {o : Op} {g : GS} {m : Int} {ss : List Int} (G : GI g.ds.length m g) (hok : OpOk g.ds.length o) (he : err o g = none) : ∃ (fo : Addr) (spo : Sp) (nm : Str) (as : List Int), opV o = .str nm :: as.map V.int ∧ as.length ≤ 2 ∧ FnR P w K mg base (L2.CX P w) 7 fo spo ∧ PySem.W.keepIn K (.ref fo) = true ∧ PySem.W.nsIn K X.dA nm = some (some (.ref fo)) ∧
    ∀ (E : XK) H1 t2 dxt2 p dx td ts hl2 cl2 ha cs, LvT T.C T.tC H1 t2 dxt2 p dx td ts hl2 cl2 ha cs g.ds ss g.t.day g.coming g.t.hp g.t.cu → ∀ Q2 : VK,
      (∀ v H2 p' dx' td' ts' ha' cs', KT t2 hl2 cl2 H1 H2 → LvT T.C T.tC H2 t2 dxt2 p' dx' td' ts' hl2 cl2 ha' cs' (stp o g).ds ss (stp o g).t.day (stp o g).coming (stp o g).t.hp (stp o g).t.cu → Q2 v H2) → spo (.ref t2 :: as.map V.int) H1 Q2 E := by
  obtain ⟨nb, l9⟩ := G.b9
  cases o with
  | pass n =>
    exact ⟨_, _, "pass_days", [(n : Int)], rfl, (by simp), up_fn (T := T) (fn_up (ok_let T)) T.b_let_pass (by decide : 5 ≤ 7), T.F_let_pass.kp, X.pA, fun E H1 t2 dxt2 p dx td ts hl2 cl2 ha cs M Q2 hQ2 => ⟨t2, dxt2, p, dx, td, ts, hl2, cl2, ha, cs, g.ds, ss, g.coming, g.t, n, rfl, M, fun j hj => Nat.le_trans (G.hp12 hj) (by decide), hok, fun H2 ha2 cs2 le xs k2 M2 l0 gl TT => hQ2 _ H2 p dx td ts ha2 cs2 k2 M2⟩⟩
  | add k =>
    have hok : k < g.ds.length := hok
    have ev : err (.add k) g = if 12 ≤ (bks g.t.hp g.t.cu g.ds.length).length then some Wd.number else none := rfl
    refine ⟨_, _, "add", [(k : Int)], rfl, (by simp), up_fn (T := T) (ok_add T L.ER L.EN) T.b_add_book (by decide : 4 ≤ 7), T.F_add_book.kp, X.aA, fun E H1 t2 dxt2 p dx td ts hl2 cl2 ha cs M Q2 hQ2 => ?_⟩
    refine ⟨t2, dxt2, p, dx, td, ts, hl2, cl2, ha, cs, g.ds, ss, g.t.day, g.coming, g.t.hp, g.t.cu, _, rfl, M, nb, l9, .inr ⟨k, rfl, hok, fun h12 H' s' => ?_, fun hlt => ⟨by have := G.hp12 hok; omega, fun H' ha' cs' k2 M2 => hQ2 _ H' p dx td ts ha' cs' k2 M2⟩⟩⟩
    rw [ev, if_pos h12] at he
    cases he
  | setd k d =>
    obtain ⟨hk, d1, d30⟩ := hok
    exact ⟨_, _, "set_days", [(k : Int), d], rfl, (by simp), up_fn (T := T) (ok_chg T L.ER L.EN) T.b_change_days (by decide : 7 ≤ 7), T.F_change_days.kp, X.sA, fun E H1 t2 dxt2 p dx td ts hl2 cl2 ha cs M Q2 hQ2 => ⟨t2, dxt2, p, dx, td, ts, hl2, cl2, ha, cs, g.ds, ss, g.t.day, g.coming, g.t.hp, g.t.cu, _, _, rfl, M, .inr ⟨k, rfl, hk, .inr ⟨d, rfl, d1, d30, fun H' p' dx' td' ts' k2 M2 => hQ2 _ H' p' dx' td' ts' ha cs k2 M2⟩⟩⟩⟩
  | take b =>
    have ev : err (.take b) g = match atK g b with | some k => if b ∈ g.t.hp k then none else some (.read b) | none => some .book := rfl
    have es : stp (.take b) g = match atK g b with | some k => ⟨g.ds, g.coming, ⟨g.t.day, tkH g.t.hp k b, g.t.cu⟩⟩ | none => g := rfl
    refine ⟨_, _, "take", [b], rfl, (by simp), up_fn (T := T) (ok_take T L.EB L.BX L.gX) T.b_take_book (by decide : 6 ≤ 7), T.F_take_book.kp, X.tA, fun E H1 t2 dxt2 p dx td ts hl2 cl2 ha cs M Q2 hQ2 => ?_⟩
    cases ha' : atK g b with
    | none =>
      rw [ev, ha'] at he
      cases he
    | some k =>
      obtain ⟨hk, hb⟩ := atK_some ha'
      have hin : b ∈ g.t.hp k := by
        rw [ev, ha'] at he
        have he : (if b ∈ g.t.hp k then none else some (Wd.read b)) = none := he
        split at he
        · assumption
        · cases he
      exact ⟨t2, dxt2, p, dx, td, ts, hl2, cl2, ha, cs, g.ds, ss, g.t.day, g.coming, g.t.hp, g.t.cu, _, rfl, M, nb, l9, .inr ⟨b, k, rfl, hk, hb, .inr ⟨hin, fun H' ha2 k2 M2 => hQ2 _ H' p dx td ts ha2 cs k2 (by rw [es, ha']; exact M2)⟩⟩⟩
def spRedo (C tC cC vC : Addr) : Sp := fun vs H Q _ => ∃ (lr : Addr) (ss : List Int) (gs : List GS) (g : GS) (os us : List Op) (m : Int), vs = [.ref lr] ∧ LiE C tC cC vC ss H lr gs g os us ∧ GI g.ds.length m g ∧ gs.length ≤ 700 ∧ os.length ≤ 700 ∧
  ((us = [] ∧ ∀ H', Same H H' → Q (.bl false) H') ∨ ∃ us' o, us = us' ++ [o] ∧ OpOk g.ds.length o ∧ err o g = none ∧ ∀ H', KeepL lr H H' → LiE C tC cC vC ss H' lr (gs ++ [g]) (stp o g) (os ++ [o]) us' → Q (.bl true) H')
theorem ok_redo (T : Tx K mg) (X : Ax w T) (L : LiX K mg) : FnOk P w K mg base (L2.CX P w) 10 T.a_vredo T.d_vredo P_vredo (spRedo T.C T.tC T.cC T.vC) := by
  refine T.F_vredo.okX sc_vredo (fun vs H Q E h => ?_) (fun cdv A outer s0 H vs Q E hr h => ?_)
  · obtain ⟨lr, ss, gs, g, os, us, m, rfl, _⟩ := h
    rfl
  · obtain ⟨lr, ss, gs, g, os, us, m, rfl, ⟨dxl, co, dxc, tt, ot, ut, tb, tabs, opl, und, I⟩, G, l1, l2, q⟩ := h
    have nd := sc_vredo.nd
    rcases q with ⟨rfl, q⟩ | ⟨us', o, rfl, hok, he, q⟩
    · refine ⟨_, pss_cons (ps_set (i := 1) nd rfl (.inl rfl) (pe_fld (pe_fld (pv 0) rfl) rfl)) (pss_cons (ps_if (pt_cmpR (op_eqD hr.units) (pv 1) (pe_tup pa_nil) (nomark _)) (pss_one (ps_ret pe_bl)) pss_nil) pss_never), ?_⟩
      have hun := I.un
      have e0 : und = [] := by cases hun; rfl
      subst e0
      refine ⟨_, rfl, lr, _, dxl, _, _, rfl, I.ob, T.clv, T.nv__course, rfl, co, _, dxc, _, _, rfl, I.co.ob, T.clc, T.nc_undone, rfl, ?_⟩
      refine ⟨_, rfl, Nat.zero_le _, fun e he => ?_⟩
      have s1 := same_upd (o := .tup []) he
      exact ⟨_, _, .tup (.of (s1 _ _ I.co.hu)) .nil, .tup (.of upd_same) .nil, sh_unit, sh_unit, _, rfl, iteT (q _ s1)⟩
    · obtain ⟨fo, spo, nm, as, eop, las, F0, kp0, hA, act⟩ := act_ok (P := P) (base := base) (ss := ss) T X L G hok he
      obtain ⟨esA, nA, DA⟩ := X.DA
      refine ⟨_, pss_cons (ps_set (i := 1) nd rfl (.inl rfl) (pe_fld (pe_fld (pv 0) rfl) rfl)) (pss_cons (ps_if (pt_cmpR (op_eqD hr.units) (pv 1) (pe_tup pa_nil) (nomark _)) (pss_one (ps_ret pe_bl)) pss_nil)
        (pss_cons (ps_asg (pe_call (E := E) (ok_ex (S := fun f => if f = fo then some spo else none) T X.gA DA (by decide : 3 ≤ 7 + 1) (fun f sp hs => by
          split at hs
          · rename_i e
            cases hs
            subst e
            exact ⟨F0, kp0⟩
          · cases hs)) hr (by rfl) T.g_executed T.F_executed.kp T.b_executed .nil (passes_call (takes_of rfl rfl rfl rfl) (fun _ _ _ _ z => z)) (pa_cons (pe_fld (pv 0) rfl) (pa_cons (pe_ix ix_tup (pv 1) (pe_un un_neg pe_int) (fun _ _ => rfl)) pa_nil)))
          (pg_tup rfl (pgs_cons (pg_name (i := 2) nd rfl (.inl rfl)) (pgs_cons (pg_name (i := 3) nd rfl (.inl rfl)) pgs_nil))))
        (pss_cons (ps_fld (pv 0) (pe_make T.mkc (ok_ci T) (hr.mono (by decide : 2 ≤ 9)) (by rfl) T.gcC T.b_cinit .nil pass0 (pa_cons (pe_fld (pv 3) rfl) (pa_cons (pe_fld (pv 3) rfl) (pa_cons (pe_slice sl_tupA (pv 1) po_none (po_some (pe_un un_neg pe_int))) pa_nil)))) rfl)
        (pss_one (ps_ret pe_bl))))), ?_⟩
      refine ⟨_, rfl, lr, _, dxl, _, _, rfl, I.ob, T.clv, T.nv__course, rfl, co, _, dxc, _, _, rfl, I.co.ob, T.clc, T.nc_undone, rfl, ?_⟩
      refine ⟨_, rfl, Nat.zero_le _, fun e he' => ?_⟩
      have s1 := same_upd (o := .tup []) he'
      have I1 := I.same s1
      have ge : (upd H e (.tup [])) e = some (.tup []) := upd_same
      generalize (upd H e (.tup [])) = H1 at s1 I1 ge ⊢
      refine ⟨_, _, .tup (.of I1.co.hu) (ops_dp I1.un), .tup (.of ge) .nil, (sh_ops _).1, sh_unit, _, rfl, ?_⟩
      rw [List.map_append, show ([o] : List Op).map opD = [opD o] from rfl, ne_unit]
      refine iteF ?_
      obtain ⟨und', ov, rfl, hun', op, rfl, gop⟩ := paired_inv I1.un
      have lt : tabs.length = gs.length := Paired.length I1.tbs
      have lo : opl.length = os.length := Paired.length I1.op
      obtain ⟨dxt, p, dx, td, ts, hl, cl, ha, cs, M⟩ := I1.tb
      refine ⟨_, rfl, lr, _, dxl, _, _, rfl, I1.ob, T.clv, T.nv__course, rfl, _, rfl, _, rfl, ut, _, _, .ref op, rfl, rfl, .of I1.co.hu, atI_last _ _, ?_⟩
      refine ⟨co, dxc, tt, ot, ut, op, tb, dxt, p, dx, td, ts, hl, cl, tabs, opl, _, _, ha, cs, g.ds, ss, g.t.day, g.coming, g.t.hp, g.t.cu, rfl, I1.co, by omega, by omega, gop, M, fun H2 t2 dxt2 hl2 cl2 s2 n1 n2 n3 M2 => ?_⟩
      refine ⟨fun v H3 => ∃ (p' dx' td' ts' : Addr) (ha2 : List Addr) (cs2 : List V), KT t2 hl2 cl2 H2 H3 ∧ LvT T.C T.tC H3 t2 dxt2 p' dx' td' ts' hl2 cl2 ha2 cs2 (stp o g).ds ss (stp o g).t.day (stp o g).coming (stp o g).t.hp (stp o g).t.cu, fun Q2 hQ2 => ?_, fun v H3 hv => ?_⟩
      · refine ⟨.ref t2, op, fo, nm, as.map V.int, spo, rfl, by rw [← eop]; exact s2 _ _ gop, by rw [List.length_map]; omega, hA, if_pos rfl, fun H' s' => ?_⟩
        exact act E H' t2 dxt2 p dx td ts hl2 cl2 ha cs (M2.same s') Q2 fun v H3 p' dx' td' ts' ha' cs' k3 M3 => hQ2 _ _ ⟨p', dx', td', ts', ha', cs', (Same.kt s').trans k3, M3⟩
      · obtain ⟨p', dx', td', ts', ha2, cs2, k3, M3⟩ := hv
        refine ⟨k3, fun H4 r c2 dx2 tt2 ot2 ut2 s34 nc2 O4 hr4 => ?_⟩
        refine ⟨r, _, rfl, .of hr4, rfl, _, _, rfl, _, _, rfl, rfl, ?_⟩
        have s13 : Same H1 H3 := fun b o e => k3 b o (s2 _ _ e) (ne_of_none e n1) (ne_of_none e n2) (ne_of_none e n3)
        have s14 := s13.trans s34
        refine ⟨_, rfl, c2, _, dx2, _, _, rfl, O4.ob, T.clc, T.nc_tables, rfl, _, rfl, c2, _, dx2, _, _, rfl, O4.ob, T.clc, T.nc_operations, rfl, _, rfl, noPart ⟨_, rfl, _, rfl, ?_⟩⟩
        refine sl_init (s14 _ _ I1.co.hu) fun H5 ut5 s45 g5 => ?_
        have O5 := O4.same s45
        refine fun c3 d3 nc3 nd3 ne3 => ?_
        have s6 : Same H5 (upd (upd H5 d3 (.own c3)) c3 (.ins T.cC d3 [])) := fun b o e => by
          rw [upd_ne (ne_of_none e nc3), upd_ne (ne_of_none e nd3)]
          exact e
        refine ⟨c3, d3, tt2, ot2, ut5, _, _, _, rfl, upd_same, s6 _ _ O5.ht, s6 _ _ O5.hop, s6 _ _ g5, fun H6 ob6 kp6 => ⟨rfl, ?_⟩⟩
        have s56 : Same H5 H6 := fun b o e => by
          rw [kp6 b (ne_of_none e nc3)]
          exact s6 _ _ e
        have s16 := (s14.trans s45).trans s56
        have I6 := I1.same s16
        refine ⟨_, rfl, lr, T.vC, dxl, _, rfl, I6.ob, T.clv, T.nv__course, (by show 2 < 1000; decide), ?_⟩
        have kl6 : KeepL lr H6 (upd H6 lr (.ins T.vC dxl (putF "_course" (.ref c3) (liF co .non)))) := fun b o e n => (upd_ne n).trans e
        have kl : KeepL lr H (upd H6 lr (.ins T.vC dxl (putF "_course" (.ref c3) (liF co .non)))) := fun b o e n => (upd_ne n).trans (s16 _ _ (s1 b o e))
        have nc0 : H1 c3 = none := same_noneT (s14.trans s45) nc3
        have ncl : c3 ≠ lr := (ne_of_none I1.ob nc0).symm
        have tk : ∀ {c ys}, H6 c = some (.tup ys) → (upd H6 lr (.ins T.vC dxl (putF "_course" (.ref c3) (liF co .non)))) c = some (.tup ys) := fun {c ys} e => (upd_ne (ne_of e I6.ob (by intro z; cases z))).trans e
        have s36 := (s34.trans s45).trans s56
        have tb2 : TbG T.C T.tC ss H6 t2 (stp o g) := ⟨dxt2, p', dx', td', ts', hl2, cl2, ha2, cs2, M3.same s36⟩
        exact q _ kl ⟨dxl, c3, d3, tt2, ot2, ut5, t2, tabs ++ [tb], opl ++ [.ref op], und', upd_same, ⟨(upd_ne ncl).trans ob6, tk (s56 _ _ O5.ht), tk (s56 _ _ O5.hop), tk (s56 _ _ g5)⟩, paired_snoc (I6.tb.keep I6.ob kl6) (paired_imp (fun _ _ h => h.keep I6.ob kl6) I6.tbs), tb2.keep I6.ob kl6, paired_snoc ⟨op, rfl, tk (s16 _ _ gop)⟩ (paired_imp (fun _ _ h => h.keep I6.ob kl6) I6.op), paired_imp (fun _ _ h => (h.keep I1.ob (Same.keepL s16)).keep I6.ob kl6) hun'⟩
end
end Rp
/-! Own signs: y in o. -/
namespace Rz
open PySem PySem.Spec PyProof.Rows L2
section
variable {X : Cx} {CX : CXT} {k : Nat} {f C : Addr} {sp : Sp} {E : XK}
def rInO (C : Addr) (sp : Sp) (E : XK) : R2 := fun x y H Q => ∃ (a dx : Addr) (fs : List (Str × V)), y = .ref a ∧ H a = some (.ins C dx fs) ∧ sp [.ref a, x] H (fun v H' => ∃ b, v = .bl b ∧ Q (.bl b) H') E
theorem op_inO (hs : PySem.W.findIn X.K (.ref C) "__contains__" = some (some (.ref f))) (hf : PySem.W.isFn X.K (.ref f) = true)
    (F : FnR X.prog X.w X.K X.mg X.base CX k f sp) (hr : Room k X.A) (hx : Passes CX X E) : OpR X (compareOp .In) (rInO C sp E) := by
  intro pins s σ H x y v u Q I rx ry h
  obtain ⟨a, dx, fs, rfl, ha, q⟩ := h
  obtain rfl : u = Value.ref a := ry
  obtain ⟨mA, O, _⟩ := ins_get I.hok ha
  obtain ⟨od, J, _⟩ := O.look
  obtain ⟨m, hF⟩ := I.fr
  refine PySem.W.in_K hF I.ok.mod.kin J hs hf (wpAny_mono (run_here F hr hx I (vs := [.ref a, x]) (.cons rfl (.cons rx .nil)) q) (fun r s' z => ?_) fun _ _ e => e)
  obtain ⟨v', H', I', rv, b, rfl, q'⟩ := z
  cases rv
  exact wpAny_truthy_bool ⟨.bl b, H', I', rfl, q'⟩
end
end Rz
/-! Live rings: today, waiting_books, being_read, history, len, in. -/
namespace Rp
open PySem PySem.Spec PyProof.Rows L2 Rz Rm Rl
section
variable {P : Program} {w : World} {K : PySem.W.Frag} {mg : Str → Option Value} {base : Heap}
def spV (C tC cC vC : Addr) (R : (∀ (lr : Addr) (ss : List Int) (gs : List GS) (g : GS) (os us : List Op) (H : Hp) (Q : VK), Prop)) : Sp := fun vs H Q _ => ∃ (lr : Addr) (ss : List Int) (gs : List GS) (g : GS) (os us : List Op), vs = [.ref lr] ∧ LiE C tC cC vC ss H lr gs g os us ∧ R lr ss gs g os us H Q
def rToday (lr : Addr) (ss : List Int) (gs : List GS) (g : GS) (os us : List Op) (H : Hp) (Q : VK) : Prop := Q (.int g.t.day) H
theorem ok_today (T : Tx K mg) : FnOk P w K mg base CX0 1 T.a_vtoday T.d_vtoday P_vtoday (spV T.C T.tC T.cC T.vC rToday) := by
  refine T.F_vtoday.ok sc_vtoday (fun vs H Q E h => ?_) (fun cdv A outer s0 H vs Q E hr h => ?_)
  · obtain ⟨lr, ss, gs, g, os, us, rfl, _⟩ := h
    rfl
  · obtain ⟨lr, ss, gs, g, os, us, rfl, ⟨dxl, co, dxc, tt, ot, ut, tb, tabs, opl, und, I⟩, q⟩ := h
    refine ⟨_, pss_one (ps_ret (pe_fld (pe_ix ix_tup (pe_fld (pe_fld (pv 0) rfl) rfl) (pe_un un_neg pe_int) (fun _ _ => rfl)) rfl)), ?_⟩
    obtain ⟨dxt, p, dx, td, ts, hl, cl, ha, cs, M⟩ := I.tb
    exact ⟨_, rfl, lr, _, dxl, _, _, rfl, I.ob, T.clv, T.nv__course, rfl, co, _, dxc, _, _, rfl, I.co.ob, T.clc, T.nc_tables, rfl, _, rfl, tt, _, _, .ref tb, rfl, rfl, .of I.co.ht, by rw [List.map_append]; exact atI_last _ _, tb, _, dxt, _, _, rfl, M.ob, T.clt, T.nt_day, tbF_d _ _ _ _ _, q⟩
def rWait (lr : Addr) (ss : List Int) (gs : List GS) (g : GS) (os us : List Op) (H : Hp) (Q : VK) : Prop := ∀ H' L (ha : List Addr), Same H H' → H L = none → H' L = some (.lst (ha.map V.ref)) → ha.length = g.ds.length → (∀ (j : Nat) (a : Addr), ha[j]? = some a → H' a = some (.tup ((g.t.hp j).map V.int))) → Q (.ref L) H'
theorem ok_wait (T : Tx K mg) : FnOk P w K mg base CX0 1 T.a_vwaiting_books T.d_vwaiting_books P_vwaiting_books (spV T.C T.tC T.cC T.vC rWait) := by
  refine T.F_vwaiting_books.ok sc_vwaiting_books (fun vs H Q E h => ?_) (fun cdv A outer s0 H vs Q E hr h => ?_)
  · obtain ⟨lr, ss, gs, g, os, us, rfl, _⟩ := h
    rfl
  · obtain ⟨lr, ss, gs, g, os, us, rfl, ⟨dxl, co, dxc, tt, ot, ut, tb, tabs, opl, und, I⟩, q⟩ := h
    refine ⟨_, pss_one (ps_ret (pe_callTy (T := "list") call_list_of (by rfl) T.z_list (by decide +kernel) (pa_cons (pe_fld (pe_ix ix_tup (pe_fld (pe_fld (pv 0) rfl) rfl) (pe_un un_neg pe_int) (fun _ _ => rfl)) rfl) pa_nil))), ?_⟩
    obtain ⟨dxt, p, dx, td, ts, hl, cl, ha, cs, M⟩ := I.tb
    refine ⟨_, rfl, lr, _, dxl, _, _, rfl, I.ob, T.clv, T.nv__course, rfl, co, _, dxc, _, _, rfl, I.co.ob, T.clc, T.nc_tables, rfl, _, rfl, tt, _, _, .ref tb, rfl, rfl, .of I.co.ht, by rw [List.map_append]; exact atI_last _ _, tb, _, dxt, _, _, rfl, M.ob, T.clt, T.nt_heaps, tbF_h _ _ _ _ _, hl, _, rfl, .inl (.of M.fh), fun L hL => ?_⟩
    exact q _ L ha (same_upd hL) hL upd_same M.lh fun j a h => same_upd hL _ _ (M.hv j a h)
def rRead (lr : Addr) (ss : List Int) (gs : List GS) (g : GS) (os us : List Op) (H : Hp) (Q : VK) : Prop := ∀ H' L (cs : List V), Same H H' → H L = none → H' L = some (.lst cs) → cs.length = g.ds.length → (∀ (j : Nat) (v : V), cs[j]? = some v → CuV H' v (g.t.cu j)) → Q (.ref L) H'
theorem ok_read (T : Tx K mg) : FnOk P w K mg base CX0 1 T.a_vbeing_read T.d_vbeing_read P_vbeing_read (spV T.C T.tC T.cC T.vC rRead) := by
  refine T.F_vbeing_read.ok sc_vbeing_read (fun vs H Q E h => ?_) (fun cdv A outer s0 H vs Q E hr h => ?_)
  · obtain ⟨lr, ss, gs, g, os, us, rfl, _⟩ := h
    rfl
  · obtain ⟨lr, ss, gs, g, os, us, rfl, ⟨dxl, co, dxc, tt, ot, ut, tb, tabs, opl, und, I⟩, q⟩ := h
    refine ⟨_, pss_one (ps_ret (pe_callTy (T := "list") call_list_of (by rfl) T.z_list (by decide +kernel) (pa_cons (pe_fld (pe_ix ix_tup (pe_fld (pe_fld (pv 0) rfl) rfl) (pe_un un_neg pe_int) (fun _ _ => rfl)) rfl) pa_nil))), ?_⟩
    obtain ⟨dxt, p, dx, td, ts, hl, cl, ha, cs, M⟩ := I.tb
    refine ⟨_, rfl, lr, _, dxl, _, _, rfl, I.ob, T.clv, T.nv__course, rfl, co, _, dxc, _, _, rfl, I.co.ob, T.clc, T.nc_tables, rfl, _, rfl, tt, _, _, .ref tb, rfl, rfl, .of I.co.ht, by rw [List.map_append]; exact atI_last _ _, tb, _, dxt, _, _, rfl, M.ob, T.clt, T.nt_current, tbF_c _ _ _ _ _, cl, _, rfl, .inl (.of M.fc), fun L hL => ?_⟩
    exact q _ L cs (same_upd hL) hL upd_same M.lc fun j v h => (M.cv j v h).tups fun _ _ e => same_upd hL _ _ e
def rHist (lr : Addr) (ss : List Int) (gs : List GS) (g : GS) (os us : List Op) (H : Hp) (Q : VK) : Prop := ∀ H' L (opl : List V), Same H H' → H L = none → H' L = some (.lst opl) → Paired (OpAt H') opl os → Q (.ref L) H'
theorem ok_hist (T : Tx K mg) : FnOk P w K mg base CX0 1 T.a_vhistory T.d_vhistory P_vhistory (spV T.C T.tC T.cC T.vC rHist) := by
  refine T.F_vhistory.ok sc_vhistory (fun vs H Q E h => ?_) (fun cdv A outer s0 H vs Q E hr h => ?_)
  · obtain ⟨lr, ss, gs, g, os, us, rfl, _⟩ := h
    rfl
  · obtain ⟨lr, ss, gs, g, os, us, rfl, ⟨dxl, co, dxc, tt, ot, ut, tb, tabs, opl, und, I⟩, q⟩ := h
    refine ⟨_, pss_one (ps_ret (pe_callTy (T := "list") call_list_of (by rfl) T.z_list (by decide +kernel) (pa_cons (pe_fld (pe_fld (pv 0) rfl) rfl) pa_nil))), ?_⟩
    refine ⟨_, rfl, lr, _, dxl, _, _, rfl, I.ob, T.clv, T.nv__course, rfl, co, _, dxc, _, _, rfl, I.co.ob, T.clc, T.nc_operations, rfl, ot, _, rfl, .inr (.of I.co.hop), fun L hL => ?_⟩
    exact q _ L opl (same_upd hL) hL upd_same (I.same (same_upd hL)).op
def rLen (lr : Addr) (ss : List Int) (gs : List GS) (g : GS) (os us : List Op) (H : Hp) (Q : VK) : Prop := ∃ m, GI g.ds.length m g ∧ ∀ H', Same H H' → Q (.int ((bks g.t.hp g.t.cu g.ds.length).length : Nat)) H'
theorem ok_vlen (T : Tx K mg) : FnOk P w K mg base CX0 4 T.a_vlen T.d_vlen P_vlen (spV T.C T.tC T.cC T.vC rLen) := by
  refine T.F_vlen.ok sc_vlen (fun vs H Q E h => ?_) (fun cdv A outer s0 H vs Q E hr h => ?_)
  · obtain ⟨lr, ss, gs, g, os, us, rfl, _⟩ := h
    rfl
  · obtain ⟨lr, ss, gs, g, os, us, rfl, ⟨dxl, co, dxc, tt, ot, ut, tb, tabs, opl, und, I⟩, m, G, q⟩ := h
    refine ⟨_, pss_one (ps_ret (pe_callB call_lenD (by rfl) T.z_len PySem.boot_len (pa_cons (pe_call (ok_plc T) hr (by rfl) T.g_places_of T.F_places_of.kp T.b_places_of .nil pass0 (pa_cons (pe_ix ix_tup (pe_fld (pe_fld (pv 0) rfl) rfl) (pe_un un_neg pe_int) (fun _ _ => rfl)) pa_nil)) pa_nil))), ?_⟩
    obtain ⟨dxt, p, dx, td, ts, hl, cl, ha, cs, M⟩ := I.tb
    obtain ⟨nb, l9⟩ := G.b9
    refine ⟨_, rfl, lr, _, dxl, _, _, rfl, I.ob, T.clv, T.nv__course, rfl, co, _, dxc, _, _, rfl, I.co.ob, T.clc, T.nc_tables, rfl, _, rfl, tt, _, _, .ref tb, rfl, rfl, .of I.co.ht, by rw [List.map_append]; exact atI_last _ _, tb, dxt, p, dx, td, ts, hl, cl, ha, cs, g.ds, ss, g.t.day, g.coming, g.t.hp, g.t.cu, rfl, M, nb, l9, fun H' D s1 _ gD => ⟨D, _, rfl, gD, ?_⟩⟩
    rw [plK_len]
    exact q H' s1
def spIn (C tC cC vC : Addr) : Sp := fun vs H Q _ => ∃ (lr : Addr) (ss : List Int) (gs : List GS) (g : GS) (os us : List Op) (b m : Int), vs = [.ref lr, .int b] ∧ LiE C tC cC vC ss H lr gs g os us ∧ GI g.ds.length m g ∧ ∀ H', Same H H' → Q (.bl (decide (b ∈ bks g.t.hp g.t.cu g.ds.length))) H'
theorem ok_vin (T : Tx K mg) : FnOk P w K mg base CX0 5 T.a_vcontains T.d_vcontains P_vcontains (spIn T.C T.tC T.cC T.vC) := by
  refine T.F_vcontains.ok sc_vcontains (fun vs H Q E h => ?_) (fun cdv A outer s0 H vs Q E hr h => ?_)
  · obtain ⟨lr, ss, gs, g, os, us, b, m, rfl, _⟩ := h
    rfl
  · obtain ⟨lr, ss, gs, g, os, us, b, m, rfl, ⟨dxl, co, dxc, tt, ot, ut, tb, tabs, opl, und, I⟩, G, q⟩ := h
    refine ⟨_, pss_one (ps_ret (pe_call (ok_has T) hr (by rfl) T.g_has_book T.F_has_book.kp T.b_has_book .nil pass0 (pa_cons (pe_ix ix_tup (pe_fld (pe_fld (pv 0) rfl) rfl) (pe_un un_neg pe_int) (fun _ _ => rfl)) (pa_cons (pv 1) pa_nil)))), ?_⟩
    obtain ⟨dxt, p, dx, td, ts, hl, cl, ha, cs, M⟩ := I.tb
    obtain ⟨nb, l9⟩ := G.b9
    refine ⟨_, rfl, lr, _, dxl, _, _, rfl, I.ob, T.clv, T.nv__course, rfl, co, _, dxc, _, _, rfl, I.co.ob, T.clc, T.nc_tables, rfl, _, rfl, tt, _, _, .ref tb, rfl, rfl, .of I.co.ht, by rw [List.map_append]; exact atI_last _ _, _, rfl, tb, dxt, p, dx, td, ts, hl, cl, ha, cs, g.ds, ss, g.t.day, g.coming, g.t.hp, g.t.cu, _, rfl, M, nb, l9, ?_⟩
    by_cases h : b ∈ bks g.t.hp g.t.cu g.ds.length
    · rw [decide_eq_true h] at q
      exact .inl ⟨b, rfl, h, q⟩
    · rw [decide_eq_false h] at q
      exact .inr ⟨.inl ⟨b, rfl, h⟩, q⟩
end
end Rp
/-! The law's own ring in a dict: copied; its books. -/
namespace Rp
open PySem PySem.Spec PyProof.Rows L2 Rz Rm Rl
def rLOf (K : PySem.W.Frag) : List V → Hp → VK → Prop := fun xs H Q => ∃ p ys, xs = [.ref p] ∧ (SqL K H p ys ∨ SqT K H p ys) ∧ ∀ l, H l = none → Q (.ref l) (upd H l (.lst ys))
theorem call_listK {X : Cx} {K : PySem.W.Frag} (hK : X.K = K) : CallR X (.type "list") (rLOf K) := by
  subst hK
  exact call_list_of
theorem set_dict {X : Cx} (hu : X.A.units + 1 < cLine) : PSet X (fun o i v H Q => ∃ a H', o = .ref a ∧ DPut H a i v H' ∧ Q H') := by
  intro pins s σ H o i v ov iv u Q I ro ri rv h
  obtain ⟨a, H', rfl, g, q⟩ := h
  obtain rfl : ov = Value.ref a := ro
  exact d_setItem hu I g ri rv fun s' I' => ⟨H', I', q⟩
/-- a dict ring as a whole -/
def DcG (H : Hp) (hd : Addr) (g : GS) : Prop := ∃ (ld hl rd : Addr) (ha : List Addr) (cs : List V), DcT H hd ld hl rd ha cs g.ds g.t.day g.coming g.t.hp g.t.cu
theorem DcG.same {H H' : Hp} {hd : Addr} {g : GS} (b : DcG H hd g) (s : Same H H') : DcG H' hd g := by
  obtain ⟨ld, hl, rd, ha, cs, S⟩ := b
  exact ⟨ld, hl, rd, ha, cs, S.same s⟩
section
variable {P : Program} {w : World} {K : PySem.W.Frag} {mg : Str → Option Value} {base : Heap}
def spCpD : Sp := fun vs H Q _ => ∃ (hd ld hl rd : Addr) (ha : List Addr) (cs : List V) (ds : List Int) (day coming : Int) (hp : Nat → List Int) (cu : Nat → Option (Int × Int)), vs = [.ref hd] ∧ DcT H hd ld hl rd ha cs ds day coming hp cu ∧
  ∀ H' hd' ld' hl' rd' ha', Same H H' → H hd' = none → H ld' = none → H hl' = none → H rd' = none → (∀ a ∈ ha', H a = none) → DcT H' hd' ld' hl' rd' ha' cs ds day coming hp cu → Q (.ref hd') H'
theorem ok_cpD (T : Tx K mg) : FnOk P w K mg base CX0 1 T.a_lcopied T.d_lcopied P_lcopied spCpD := by
  refine T.F_lcopied.ok sc_lcopied (fun vs H Q E h => ?_) (fun cdv A outer s H vs Q E hr h => ?_)
  · obtain ⟨hd, ld, hl, rd, ha, cs, ds, day, coming, hp, cu, rfl, _⟩ := h
    rfl
  · obtain ⟨hd, ld, hl, rd, ha, cs, ds, day, coming, hp, cu, rfl, S, q⟩ := h
    have nd := sc_lcopied.nd
    have hu1 : (cxOf CX0 P w K mg base N_lcopied "_law_copied" (defScope s_lcopied) T.a_lcopied cdv A outer s H E).nox.A.units + 1 < cLine := Nat.lt_of_le_of_lt (Nat.add_le_add_left (by decide : 1 ≤ 64) _) hr.units
    refine ⟨_, pss_cons (ps_set (i := 1) nd rfl (.inl rfl) (pe_disp (pps_cons pe_str (pe_callTy (T := "list") call_list_of (by rfl) T.z_list (by decide +kernel) (pa_cons (pe_dget hu1 (pv 0) pe_str (fun _ _ => rfl)) pa_nil))
          (pps_cons pe_str (pe_lc (own := [("_law_heap", 2)]) rfl nd (pi_list (pe_dget hu1 (pv 0) pe_str (fun _ _ => rfl))) (blkOk_by (N := N_lcopied) (sc := defScope s_lcopied) (by decide +kernel)) (fun _ _ _ _ _ => pg_name (i := 2) nd rfl (.inl rfl)) (fun _ _ _ _ _ => pts_nil) (fun _ _ _ _ _ => pe_callTy (T := "list") (call_listK (K := K) rfl) (by rfl) T.z_list (by decide +kernel) (pa_cons (pv 2) pa_nil)))
          (pps_cons pe_str (pe_callTy (T := "list") call_list_of (by rfl) T.z_list (by decide +kernel) (pa_cons (pe_dget hu1 (pv 0) pe_str (fun _ _ => rfl)) pa_nil)) pps_nil))) (by rfl) (by rfl) (fun z => by cases z) (by decide)))
      (pss_cons (ps_asg (pe_tup (pa_cons (pe_dget hu1 (pv 0) pe_str (fun _ _ => rfl)) (pa_cons (pe_dget hu1 (pv 0) pe_str (fun _ _ => rfl)) pa_nil))) (pg_tup rfl (pgs_cons (pg_sub (pv 1) pe_str (set_dict hu1)) (pgs_cons (pg_sub (pv 1) pe_str (set_dict hu1)) pgs_nil))))
      (pss_one (ps_ret (pv 1)))), ?_⟩
    obtain ⟨kvs, k1, k2, k3, k4, k5, k6, k7⟩ := S.dic
    have l2 := S.l2
    have l8 := S.l8
    refine fun hn hhn => ?_
    have s1 := same_upd (o := .dK []) hhn
    have g1 : (upd H hn (.dK [])) hn = some (.dK []) := upd_same
    show tPairs _ _ (upd H hn (.dK [])) _
    generalize (upd H hn (.dK [])) = H1 at s1 g1 ⊢
    have S1 := S.same s1
    have c1 := s1 _ _ k1
    refine ⟨_, rfl, hd, _, rfl, get_of c1 k3 rfl, ld, _, rfl, .inl (.of S1.old), fun ln hln => ?_⟩
    have s2 := same_upd (o := .lst (ds.map V.int)) hln
    have g2 : (upd H1 ln (.lst (ds.map V.int))) ln = some (.lst (ds.map V.int)) := upd_same
    generalize (upd H1 ln (.lst (ds.map V.int))) = H2 at s2 g2 ⊢
    have S2 := S1.same s2
    have c2 := s2 _ _ c1
    refine ⟨_, rfl, hd, _, rfl, get_of c2 k4 rfl, hl, rfl, ⟨_, .of S2.ohl⟩, fun mn hmn => lc_list (K := K) (a := hl) (xs := ha.map V.ref) (fun i H' => Same H2 H' ∧ ∃ ha' : List Addr, H' mn = some (.lst (ha'.map V.ref)) ∧ ha'.length = i ∧ ha'.Nodup ∧ (∀ a ∈ ha', H2 a = none ∧ a ≠ mn) ∧ ∀ (j : Nat) (a : Addr), ha'[j]? = some a → H' a = some (.lst ((hp j).map V.int)))
      ⟨same_upd hmn, [], upd_same, rfl, List.nodup_nil, fun a m => absurd m List.not_mem_nil, fun j a h => by simp at h⟩ (fun i H' _ z => .of (z.1 _ _ S2.ohl)) ?_ ?_⟩
    · rintro i x H3 hx ⟨s3, ha', gm, lm, dm, fm, om⟩
      rw [List.getElem?_map] at hx
      obtain ⟨a, ga, rfl⟩ := Option.map_eq_some_iff.mp hx
      have hi : i < ds.length := by rw [← S.lh]; exact (List.getElem?_eq_some_iff.mp ga).1
      have gx := s3 _ _ (S2.hv i a ga)
      refine ⟨rfl, lc_keep ?_⟩
      refine ⟨_, rfl, a, _, rfl, .inl (.of gx), fun L hL => ?_⟩
      have s4 := same_upd (o := .lst ((hp i).map V.int)) hL
      have nL : L ≠ mn := (ne_of_none gm hL).symm
      refine ⟨_, s4 _ _ gm, by rw [List.length_map]; exact small1000 (by omega), fun x o h => (upd_ne (ne_of_none h hmn)).trans (s4 _ _ (s3 _ _ h)), ha' ++ [L], by rw [upd_same, List.map_append]; rfl, by rw [List.length_append, lm]; rfl, nodup_snoc dm fun m => ?_, fun b m => ?_, fun j b h => ?_⟩
      · obtain ⟨j, hj⟩ := List.getElem?_of_mem m
        have := om j L hj
        rw [hL] at this
        cases this
      · rcases List.mem_append.mp m with m | m
        · exact fm b m
        · have := List.mem_singleton.mp m
          subst this
          exact ⟨same_noneT s3 hL, nL⟩
      · rcases get_snoc h with h | ⟨h1, rfl⟩
        · rw [upd_ne (fm b (List.mem_of_getElem? h)).2]
          exact s4 _ _ (om j b h)
        · rw [upd_ne nL, upd_same, h1, lm]
    rintro H3 ⟨s3, ha', gm, lm, dm, fm, om⟩
    rw [List.length_map] at lm
    have S3 := S2.same s3
    have c3 := s3 _ _ c2
    refine ⟨_, rfl, hd, _, rfl, get_of c3 k5 rfl, rd, _, rfl, .inl (.of S3.ord), fun rn hrn => ?_⟩
    have s4 := same_upd (o := .lst cs) hrn
    have g4 : (upd H3 rn (.lst cs)) rn = some (.lst cs) := upd_same
    generalize (upd H3 rn (.lst cs)) = H4 at s4 g4 ⊢
    have s13 := s2.trans s3
    have n24 := s3.trans s4
    have gh4 := s4 _ _ (s3 _ _ (s2 _ _ g1))
    refine ⟨gh4, [(kD, .ref ln), (kH, .ref mn), (kR, .ref rn)], rfl, (by show 3 ≤ 15; decide), ?_⟩
    obtain ⟨kv, hk⟩ : ∃ kvs, kvs = mergeK [] [(kD, V.ref ln), (kH, .ref mn), (kR, .ref rn)] := ⟨_, rfl⟩
    have hk' : kv = putK (putK (putK [] kD (V.ref ln)) kH (.ref mn)) kR (.ref rn) := hk
    have vD : valV kv kD = some (.ref ln) := by
      rw [hk', valV_put, if_neg (by decide +kernel), valV_put, if_neg (by decide +kernel), valV_put, if_pos rfl]
    have vH : valV kv kH = some (.ref mn) := by
      rw [hk', valV_put, if_neg (by decide +kernel), valV_put, if_pos rfl]
    have vR : valV kv kR = some (.ref rn) := by
      rw [hk', valV_put, if_pos rfl]
    have lk : kv.length ≤ 3 := by
      rw [hk']
      have a1 := put_len ([] : List (Key × V)) kD (V.ref ln)
      have a2 := put_len (putK [] kD (V.ref ln)) kH (.ref mn)
      have a3 := put_len (putK (putK [] kD (V.ref ln)) kH (.ref mn)) kR (.ref rn)
      have a0 : ([] : List (Key × V)).length = 0 := rfl
      omega
    rw [← hk]
    have k6' : ∀ {x o}, H4 x = some o → x ≠ hn → (upd H4 hn (.dK kv)) x = some o := fun h n => by rw [upd_ne n]; exact h
    have n1 : ln ≠ hn := (ne_of_none g1 hln).symm
    have n2 : mn ≠ hn := (ne_of_none (s2 _ _ g1) hmn).symm
    have n3 : rn ≠ hn := (ne_of_none (s3 _ _ (s2 _ _ g1)) hrn).symm
    have nlh : ln ≠ mn := ne_of_none g2 hmn
    have nlr : ln ≠ rn := ne_of_none (s3 _ _ g2) hrn
    have nhr : mn ≠ rn := ne_of_none gm hrn
    have f1 := hhn
    have f2 := same_noneT s1 hln
    have f3 := same_noneT (s1.trans s2) hmn
    have f4 := same_noneT ((s1.trans s2).trans s3) hrn
    have s14 := (s2.trans s3).trans s4
    have s04 : Same H (upd H4 hn (.dK kv)) := fun x o h => k6' (s14 _ _ (s1 _ _ h)) (ne_of_none h hhn)
    have hd4 := s14 _ _ c1
    have nhd : hd ≠ hn := ne_of_none k1 hhn
    have om4 : ∀ (j : Nat) (a : Addr), ha'[j]? = some a → (upd H4 hn (.dK kv)) a = some (.lst ((hp j).map V.int)) := fun j a h => k6' (s4 _ _ (om j a h)) (ne_of_none (s2 _ _ g1) (fm a (List.mem_of_getElem? h)).1).symm
    have gl := k6' (s4 _ _ (s3 _ _ g2)) n1
    have gm4 := k6' (s4 _ _ gm) n2
    have gr4 := k6' g4 n3
    have gh5 : (upd H4 hn (.dK kv)) hn = some (.dK kv) := upd_same
    have cv5 : ∀ (j : Nat) (v : V), cs[j]? = some v → CuV (upd H4 hn (.dK kv)) v (cu j) := fun j v h => (S.cv j v h).tups fun _ _ e => s04 _ _ e
    have hd5 := k6' hd4 nhd
    show tSeq _ _ _ [some (.ref hd), some (.ref hn), none] (upd H4 hn (.dK kv))
    generalize (upd H4 hn (.dK kv)) = H5 at s04 om4 gl gm4 gr4 gh5 cv5 hd5 ⊢
    refine ⟨_, rfl, hd, _, rfl, get_of hd5 k6 rfl, _, rfl, hd, _, rfl, get_of hd5 k7 rfl, (by show 2 ≤ sizeLine; decide), fun tp htp => ⟨tp, _, rfl, .of upd_same, rfl, _, _, rfl, ?_⟩⟩
    have s6 := same_upd (o := .tup [.int day, .int coming]) htp
    have gh6 := s6 _ _ gh5
    refine ⟨_, rfl, hn, _, rfl, .inl ⟨kv, kT, gh6, rfl, small1000 (by omega), rfl⟩, _, _, rfl, ?_⟩
    refine ⟨_, rfl, hn, _, rfl, .inl ⟨_, kN, upd_same, rfl, small1000 (by have := put_len kv kT (.int day); omega), rfl⟩, rfl, ?_⟩
    rw [upd_upd]
    refine ⟨_, rfl, q _ hn ln mn rn ha' (fun x o h => (upd_ne (ne_of_none h hhn)).trans (s6 _ _ (s04 _ _ h))) f1 f2 f3 f4 (fun a m => same_noneT (s1.trans s2) (fm a m).1) ⟨⟨_, upd_same, ?_, ?_, ?_, ?_, ?_, ?_⟩, (upd_ne n1).trans (s6 _ _ gl), (upd_ne n2).trans (s6 _ _ gm4), by rw [lm]; exact S.lh, fun j a h => (upd_ne (ne_of_none (s2 _ _ g1) (fm a (List.mem_of_getElem? h)).1).symm).trans (s6 _ _ (om4 j a h)), (upd_ne n3).trans (s6 _ _ gr4), S.lc, fun j v h => (S.cv j v h).tups fun _ _ e => (upd_ne (ne_of_none e hhn)).trans (s6 _ _ (s04 _ _ e)), nlh, nlr, nhr, fun a m => ⟨(ne_of_none g2 (fm a m).1).symm, (fm a m).2, fun z => ?_⟩, dm, l2, l8, S.sm⟩⟩
    · have a1 := put_len kv kT (.int day)
      have a2 := put_len (putK kv kT (.int day)) kN (.int coming)
      omega
    · rw [valV_put, if_neg (by decide +kernel), valV_put, if_neg (by decide +kernel)]
      exact vD
    · rw [valV_put, if_neg (by decide +kernel), valV_put, if_neg (by decide +kernel)]
      exact vH
    · rw [valV_put, if_neg (by decide +kernel), valV_put, if_neg (by decide +kernel)]
      exact vR
    · rw [valV_put, if_neg (by decide +kernel), valV_put, if_pos rfl]
    · rw [valV_put, if_pos rfl]
    · obtain ⟨j, hj⟩ := List.getElem?_of_mem m
      have := om j a hj
      rw [z, hrn] at this
      cases this
end
end Rp
/-! The law's own ring in a dict: its books; who has one. -/
namespace Rp
open PySem PySem.Spec PyProof.Rows L2 Rz Rm Rl
/-- all books as the law lists them -/
def bkL (g : GS) : List Int := fl (cuL g.t.cu) g.ds.length ++ fl g.t.hp g.ds.length
theorem bkL_perm (g : GS) : (bk2 g.t.hp g.t.cu g.ds.length).Perm (bkL g) := fl_app _
theorem bkL_mem {m : Int} {g : GS} (G : GI g.ds.length m g) {b : Int} : b ∈ bkL g ↔ b ∈ bks g.t.hp g.t.cu g.ds.length := by
  rw [bks_bk2 G.rs]
  exact (bkL_perm g).mem_iff.symm
theorem bkL_len {m : Int} {g : GS} (G : GI g.ds.length m g) : (bkL g).length = (bks g.t.hp g.t.cu g.ds.length).length := by
  rw [bks_bk2 G.rs]
  exact (bkL_perm g).length_eq.symm
theorem fl_uniq {f : Nat → List Int} {b : Int} : ∀ {n j k : Nat}, (fl f n).Nodup → j < n → k < n → b ∈ f j → b ∈ f k → j = k
  | n + 1, j, k, nd, hj, hk, bj, bk => by
    rw [fl_suc, List.nodup_append] at nd
    obtain ⟨n1, n2, n3⟩ := nd
    by_cases e1 : j = n
    · by_cases e2 : k = n
      · omega
      · subst e1
        exact absurd rfl (n3 b (fl_mem.mpr ⟨k, by omega, bk⟩) b bj)
    · by_cases e2 : k = n
      · subst e2
        exact absurd rfl (n3 b (fl_mem.mpr ⟨j, by omega, bj⟩) b bk)
      · exact fl_uniq n1 (by omega) (by omega) bj bk
theorem fl_nd {f : Nat → List Int} : ∀ {n j : Nat}, (fl f n).Nodup → j < n → (f j).Nodup
  | n + 1, j, nd, hj => by
    rw [fl_suc, List.nodup_append] at nd
    by_cases e : j = n
    · subst e
      exact nd.2.1
    · exact fl_nd nd.1 (by omega)
/-- a book that lies in a heap -/
theorem at_heap {m : Int} {g : GS} (G : GI g.ds.length m g) {b : Int} {k : Nat} (hk : k < g.ds.length) (hb : b ∈ g.t.hp k) : atK g b = some k ∧ b ∉ fl (cuL g.t.cu) g.ds.length ∧ (g.t.hp k).Nodup ∧ ∀ j, j < g.ds.length → b ∈ g.t.hp j → j = k := by
  have hb2 : b ∈ cuL g.t.cu k ++ g.t.hp k := List.mem_append_right _ hb
  have hbA : b ∈ bkA g.t.hp g.t.cu k := by
    unfold bkA
    cases e : g.t.cu k with
    | none =>
      rw [G.rs k hk e] at hb
      cases hb
    | some be => exact List.mem_cons_of_mem _ hb
  have ndk := fl_nd G.nd hk
  have ndk : (cuL g.t.cu k ++ g.t.hp k).Nodup := ndk
  rw [List.nodup_append] at ndk
  refine ⟨?_, fun h => ?_, ndk.2.1, fun j hj h => fl_uniq G.nd hj hk (List.mem_append_right _ h) hb2⟩
  · cases ha : atK g b with
    | none => exact absurd (bkA_sub hk b hbA) (atK_none ha)
    | some j =>
      obtain ⟨hj, hbj⟩ := atK_some ha
      have hj2 : b ∈ cuL g.t.cu j ++ g.t.hp j := by
        unfold bkA at hbj
        unfold cuL
        cases e : g.t.cu j with
        | none =>
          rw [e] at hbj
          cases hbj
        | some be =>
          rw [e] at hbj
          exact hbj
      rw [fl_uniq G.nd hj hk hj2 hb2]
  · obtain ⟨j, hj, hc⟩ := fl_mem.mp h
    have e := fl_uniq G.nd hj hk (List.mem_append_left _ hc) hb2
    subst e
    exact ndk.2.2 b hc b hb rfl
/-- a book that is read -/
theorem at_read {m : Int} {g : GS} (G : GI g.ds.length m g) {b : Int} (h : b ∈ fl (cuL g.t.cu) g.ds.length) : err (.take b) g = some (.read b) := by
  obtain ⟨j, hj, hc⟩ := fl_mem.mp h
  have hbA : b ∈ bkA g.t.hp g.t.cu j := by
    unfold bkA
    unfold cuL at hc
    cases e : g.t.cu j with
    | none =>
      rw [e] at hc
      cases hc
    | some be =>
      rw [e] at hc
      have hc : b ∈ [be.1] := hc
      rw [List.mem_singleton.mp hc]
      exact List.mem_cons_self
  show (match atK g b with | some k => if b ∈ g.t.hp k then none else some (Wd.read b) | none => some Wd.book) = _
  cases ha : atK g b with
  | none => exact absurd (bkA_sub hj b hbA) (atK_none ha)
  | some k =>
    obtain ⟨hk, hbk⟩ := atK_some ha
    have : b ∉ g.t.hp k := fun hb => (at_heap G hk hb).2.1 h
    exact if_neg this
/-- no such book -/
theorem at_none {m : Int} {g : GS} (G : GI g.ds.length m g) {b : Int} (h1 : b ∉ fl (cuL g.t.cu) g.ds.length) (h2 : ∀ k, k < g.ds.length → b ∉ g.t.hp k) : err (.take b) g = some .book := by
  show (match atK g b with | some k => if b ∈ g.t.hp k then none else some (Wd.read b) | none => some Wd.book) = _
  cases ha : atK g b with
  | none => rfl
  | some k =>
    obtain ⟨hk, hbk⟩ := atK_some ha
    have hbL := (bkL_mem G).mpr (bkA_sub hk b hbk)
    rcases List.mem_append.mp hbL with h | h
    · exact absurd h h1
    · obtain ⟨j, hj, hb⟩ := fl_mem.mp h
      exact absurd hb (h2 j hj)
section
variable {P : Program} {w : World} {K : PySem.W.Frag} {mg : Str → Option Value} {base : Heap}
theorem cuL_none {cu : Nat → Option (Int × Int)} {i : Nat} (h : cu i = none) : cuL cu i = [] := by
  unfold cuL
  rw [h]
theorem cuL_some {cu : Nat → Option (Int × Int)} {i : Nat} {b e : Int} (h : cu i = some (b, e)) : cuL cu i = [b] := by
  unfold cuL
  rw [h]
theorem fl_cu_len (cu : Nat → Option (Int × Int)) : ∀ n, (fl (cuL cu) n).length ≤ n
  | 0 => Nat.le_refl _
  | n + 1 => by
    have := fl_cu_len cu n
    rw [fl_suc, List.length_append]
    cases h : cu n with
    | none => rw [cuL_none h]; show _ + 0 ≤ _; omega
    | some be => rw [cuL_some (b := be.1) (e := be.2) h]; show _ + 1 ≤ _; omega
def spBkD : Sp := fun vs H Q _ => ∃ (hd : Addr) (g : GS), vs = [.ref hd] ∧ DcG H hd g ∧ (bkL g).length ≤ 900 ∧ ∀ H' L, Same H H' → H' L = some (.lst ((bkL g).map V.int)) → Q (.ref L) H'
theorem ok_bkD (T : Tx K mg) : FnOk P w K mg base CX0 1 T.a_lbooks T.d_lbooks P_lbooks spBkD := by
  refine T.F_lbooks.ok sc_lbooks (fun vs H Q E h => ?_) (fun cdv A outer s H vs Q E hr h => ?_)
  · obtain ⟨hd, g, rfl, _⟩ := h
    rfl
  · obtain ⟨hd, g, rfl, ⟨ld, hl, rd, ha, cs, S⟩, l9, q⟩ := h
    obtain ⟨ds, coming, ⟨day, hp, cu⟩⟩ := g
    have nd := sc_lbooks.nd
    have hu1 : (cxOf CX0 P w K mg base N_lbooks "_law_books" (defScope s_lbooks) T.a_lbooks cdv A outer s H E).nox.A.units + 1 < cLine := Nat.lt_of_le_of_lt (Nat.add_le_add_left (by decide : 1 ≤ 64) _) hr.units
    refine ⟨_, pss_cons (ps_setLc (i := 1) (own := [("_law_one", 3)]) rfl nd rfl rfl (sw_true rfl rfl rfl (by decide +kernel)) (pi_list (pe_dget hu1 (pv 0) pe_str (fun _ _ => rfl))) (blkOk_by (N := N_lbooks) (sc := defScope s_lbooks) (by decide +kernel)) (fun _ _ _ _ _ => pg_name (i := 3) nd rfl (.inl rfl))
        (fun _ _ _ _ _ => pts_one (pt_cmpR op_notN (pv 3) pe_non (nomark _))) (fun _ _ _ _ _ => pe_ix (r := rIxT K) ix_tup (pv 3) pe_int (fun _ _ => rfl)))
      (pss_cons (ps_for PassesOwn.never rfl (pi_list (pe_dget hu1 (pv 0) pe_str (fun _ _ => rfl))) (pg_name (i := 2) nd rfl (.inl rfl)) (pss_one (ps_set (i := 1) nd rfl (.inl rfl) (pe_op op_cat (pv 1) (pv 2)))))
      (pss_one (ps_ret (pv 1)))), ?_⟩
    obtain ⟨kvs, k1, k2, k3, k4, k5, k6, k7⟩ := S.dic
    have S : DcT H hd ld hl rd ha cs ds day coming hp cu := S
    have l8 := S.l8
    refine ⟨_, rfl, hd, _, rfl, get_of k1 k5 rfl, rd, rfl, ⟨_, .of S.ord⟩, fun D hD => lc_list (K := K) (a := rd) (xs := cs) (fun i H' => Same H H' ∧ H' D = some (.lst ((fl (cuL cu) i).map V.int)))
      ⟨same_upd hD, upd_same⟩ (fun i H' _ z => .of (z.1 _ _ S.ord)) ?_ ?_⟩
    · rintro i x H3 hx ⟨s3, g3⟩
      have hi : i < ds.length := by rw [← S.lc]; exact (List.getElem?_eq_some_iff.mp hx).1
      have fll := fl_cu_len cu i
      have hcv := S.cv i x hx
      cases ecu : cu i with
      | none =>
        rw [ecu] at hcv
        have hcv : x = .non := hcv
        subst hcv
        refine ⟨rfl, _, rfl, rfl, _, rfl, iteF ⟨s3, ?_⟩⟩
        rw [fl_suc, cuL_none ecu, List.append_nil]
        exact g3
      | some be =>
        obtain ⟨b0, e0⟩ := be
        rw [ecu] at hcv
        obtain ⟨tc, rfl, htc⟩ := hcv
        refine ⟨rfl, _, rfl, rfl, _, rfl, iteT ⟨_, rfl, tc, _, 0, _, rfl, rfl, .of (s3 _ _ htc), atI_nat (j := 0) rfl, _, g3, by rw [List.length_map]; exact small1000 (by omega), fun c o h => (upd_ne (ne_of_none h hD)).trans (s3 _ _ h), ?_⟩⟩
        rw [upd_same, fl_suc, cuL_some ecu, List.map_append]
        rfl
    · rintro H3 ⟨s3, g3⟩
      rw [S.lc] at g3
      have S3 := S.same s3
      have c3 := s3 _ _ k1
      show tSeq _ _ _ [some (.ref hd), some (.ref D), none, none] H3
      refine ⟨_, rfl, hd, _, rfl, get_of c3 k4 rfl, hl, rfl, ⟨_, .of S3.ohl⟩, for_list (K := K) (a := hl) (xs := ha.map V.ref) (fun i σ H' => (∃ L z2, σ = [some (.ref hd), some (.ref L), z2, none] ∧ H' L = some (.lst ((fl (cuL cu) ds.length ++ fl hp i).map V.int))) ∧ Same H H')
        ⟨⟨D, none, rfl, by rw [g3]; show _ = some (HO.lst ((_ ++ []).map V.int)); rw [List.append_nil]⟩, s3⟩ (fun i σ H' _ z => .of (z.2 _ _ S.ohl)) ?_ ?_⟩
      · rintro i x σ H4 hx ⟨⟨L, z2, rfl, gL⟩, s4⟩
        rw [List.getElem?_map] at hx
        obtain ⟨a, ga, rfl⟩ := Option.map_eq_some_iff.mp hx
        have hi : i < ds.length := by rw [← S.lh]; exact (List.getElem?_eq_some_iff.mp ga).1
        have gx := s4 _ _ (S.hv i a ga)
        have sm := S.sm i hi
        have le1 : (fl hp i).length + (hp i).length ≤ 900 := by
          have h1 : ∀ n, i + 1 ≤ n → (fl hp (i + 1)).length ≤ (fl hp n).length := by
            intro n
            induction n with
            | zero => intro h; omega
            | succ n ih =>
              intro h
              by_cases e : i + 1 = n + 1
              · rw [e]
                exact Nat.le_refl _
              · have := ih (by omega)
                rw [fl_suc hp n, List.length_append]
                omega
          have h2 := h1 ds.length hi
          rw [fl_suc, List.length_append] at h2
          have l9 : (fl (cuL cu) ds.length ++ fl hp ds.length).length ≤ 900 := l9
          rw [List.length_append] at l9
          omega
        have fll := fl_cu_len cu ds.length
        refine ⟨_, rfl, _, rfl, L, a, _, _, rfl, rfl, gL, gx, Nat.le_of_lt (small1000 (by rw [List.length_map, List.length_map, List.length_append]; omega)), fun L2 hL2 => ?_⟩
        refine ⟨⟨L2, _, rfl, ?_⟩, s4.trans (same_upd hL2)⟩
        rw [upd_same, fl_suc, ← List.append_assoc, List.map_append (l₁ := fl (cuL cu) ds.length ++ fl hp i)]
      · rintro σ H4 ⟨⟨L, z2, rfl, gL⟩, s4⟩
        rw [List.length_map, S.lh] at gL
        exact ⟨_, rfl, q H4 L s4 gL⟩
end
end Rp
/-! The law's own ring in a dict: an operation is done to a copy. -/
namespace Rp
open PySem PySem.Spec PyProof.Rows L2 Rz Rm Rl
theorem erase_filter {b : Int} : ∀ {l : List Int} {j : Nat}, l.Nodup → l[j]? = some b → l.eraseIdx j = l.filter fun x => decide (x ≠ b)
  | x :: r, 0, nd, h => by
    have h : some x = some b := h
    cases h
    have hn := (List.nodup_cons.mp nd).1
    rw [List.eraseIdx_cons_zero, List.filter_cons_of_neg (by simp)]
    symm
    exact List.filter_eq_self.mpr fun y hy => decide_eq_true fun e => hn (e ▸ hy)
  | x :: r, j + 1, nd, h => by
    have hn := List.nodup_cons.mp nd
    have h : r[j]? = some b := h
    have hx : x ≠ b := fun e => hn.1 (e ▸ List.mem_of_getElem? h)
    rw [List.eraseIdx_cons_succ, erase_filter hn.2 h]
    simp [hx]
section
variable {H : Hp} {hd ld hl rd : Addr} {ha : List Addr} {cs : List V} {ds : List Int} {day coming : Int} {hp : Nat → List Int} {cu : Nat → Option (Int × Int)}
theorem kN_D : ¬ kD = kN := by decide +kernel
theorem kN_H : ¬ kH = kN := by decide +kernel
theorem kN_R : ¬ kR = kN := by decide +kernel
theorem kN_T : ¬ kT = kN := by decide +kernel
/-- the next book's number is put anew -/
theorem DcT.nextN (b : DcT H hd ld hl rd ha cs ds day coming hp cu) {kvs : List (Key × V)} (h : H hd = some (.dK kvs)) (n : Int) : DcT (upd H hd (.dK (putK kvs kN (.int n)))) hd ld hl rd ha cs ds day n hp cu := by
  have kl : ∀ {y xs}, H y = some (.lst xs) → (upd H hd (.dK (putK kvs kN (.int n)))) y = some (.lst xs) := fun {y xs} e => (upd_ne (ne_of e h (by intro z; cases z))).trans e
  obtain ⟨kvs', h1, h2, h3, h4, h5, h6, h7⟩ := b.dic
  rw [h] at h1
  cases h1
  exact ⟨⟨_, upd_same, by rw [put_has h7]; exact h2, by rw [valV_put, if_neg kN_D]; exact h3, by rw [valV_put, if_neg kN_H]; exact h4, by rw [valV_put, if_neg kN_R]; exact h5, by rw [valV_put, if_neg kN_T]; exact h6, by rw [valV_put, if_pos rfl]⟩, kl b.old, kl b.ohl, b.lh, fun j a e => kl (b.hv j a e), kl b.ord, b.lc, fun j v e => (b.cv j v e).tups fun c ys e => (upd_ne (ne_of e h (by intro z; cases z))).trans e, b.n1, b.n2, b.n3, b.nh, b.dh, b.l2, b.l8, b.sm⟩
/-- a reader's days are put anew -/
theorem DcT.putDs (b : DcT H hd ld hl rd ha cs ds day coming hp cu) (k : Nat) (d : Int) : DcT (upd H ld (.lst ((ds.map V.int).set k (.int d)))) hd ld hl rd ha cs (ds.set k d) day coming hp cu := by
  have kx : ∀ {x o}, H x = some o → x ≠ ld → (upd H ld (.lst ((ds.map V.int).set k (.int d)))) x = some o := fun {x o} e n => (upd_ne n).trans e
  have tk : ∀ c ys, H c = some (.tup ys) → (upd H ld (.lst ((ds.map V.int).set k (.int d)))) c = some (.tup ys) := fun c ys e => kx e (ne_of e b.old (by intro z; cases z))
  obtain ⟨kvs, k1, k2⟩ := b.dic
  exact ⟨⟨kvs, kx k1 (ne_of k1 b.old (by intro z; cases z)), k2⟩, by rw [upd_same, List.map_set], kx b.ohl b.n1.symm, by rw [List.length_set]; exact b.lh, fun j a e => kx (b.hv j a e) (b.nh a (List.mem_of_getElem? e)).1, kx b.ord b.n2.symm, by rw [List.length_set]; exact b.lc, fun j v e => (b.cv j v e).tups tk, b.n1, b.n2, b.n3, b.nh, b.dh, by rw [List.length_set]; exact b.l2, by rw [List.length_set]; exact b.l8, fun j hj => b.sm j (by rw [List.length_set] at hj; exact hj)⟩
end
/-- the word for a failure -/
def wdV : Wd → List V
  | .number => [.str "number"]
  | .book => [.str "book"]
  | .read b => [.str "read", .int b]
theorem iteEq {v u : V} {A B : Prop} (e : v = u) (h : A) : if decide (v = u) = true then A else B := by
  rw [decide_eq_true e]
  exact iteT h
theorem iteNe {v u : V} {A B : Prop} (e : ¬ v = u) (h : B) : if decide (v = u) = true then A else B := by
  rw [decide_eq_false e]
  exact iteF h
section
variable {P : Program} {w : World} {K : PySem.W.Frag} {mg : Str → Option Value} {base : Heap}
/-- a new dict ring whose heaps are new -/
def DcF (H H' : Hp) (hd : Addr) (g : GS) : Prop := ∃ (ld hl rd : Addr) (ha : List Addr) (cs : List V), DcT H' hd ld hl rd ha cs g.ds g.t.day g.coming g.t.hp g.t.cu ∧ ∀ a ∈ ha, H a = none
def spDoD : Sp := fun vs H Q _ => ∃ (hd dd : Addr) (g : GS) (m : Int) (o : Op), vs = [.ref hd, .ref dd] ∧ DcG H hd g ∧ GI g.ds.length m g ∧ H dd = some (.tup (opV o)) ∧ OpOk g.ds.length o ∧ (∀ n, o = .pass n → n ≤ 50) ∧
  (err o g = none → ∀ H' t nw v, Same H H' → H' t = some (.tup [.ref nw, v, .non]) → DcF H H' nw (stp o g) → RvN v H H' (resR o g) → Q (.ref t) H') ∧
  (∀ wd, err o g = some wd → ∀ H' t wt, Same H H' → H' t = some (.tup [.ref hd, .non, .ref wt]) → H' wt = some (.tup (wdV wd)) → Q (.ref t) H')
theorem ok_doD (T : Tx K mg) : FnOk P w K mg base CX0 4 T.a_ldoes T.d_ldoes P_ldoes spDoD := by
  refine T.F_ldoes.ok sc_ldoes (fun vs H Q E h => ?_) (fun cdv A outer s0 H vs Q E hr h => ?_)
  · obtain ⟨hd, dd, g, m, o, rfl, _⟩ := h
    rfl
  · obtain ⟨hd, dd, g, m, o, rfl, ⟨ld, hl, rd, ha, cs, S⟩, G, hdd, hok, hn50, q, qe⟩ := h
    have nd := sc_ldoes.nd
    have hu1 : (cxOf CX0 P w K mg base N_ldoes "_law_does" (defScope s_ldoes) T.a_ldoes cdv A outer s0 H E).nox.A.units + 1 < cLine := Nat.lt_of_le_of_lt (Nat.add_le_add_left (by decide : 1 ≤ 64) _) hr.units
    refine ⟨_, (pss_cons (ps_set (i := 2) nd rfl (.inl rfl) (pe_call (ok_cpD T) (hr.mono (by decide : 1 ≤ 3)) (by rfl) T.g_lcopied T.F_lcopied.kp T.b_lcopied .nil pass0 (pa_cons (pv 0) pa_nil))) (pss_cons (ps_if (pt_cmpR op_eq (pe_ix ix_tup (pv 1) pe_int (fun _ _ => rfl)) pe_str (nomark _)) (pss_cons (ps_set (i := 3) nd rfl (.inl rfl) (pe_lst pa_nil)) (pss_cons (ps_for PassesOwn.never rfl (pi_range1 (by rfl) T.z_range (pa_cons (pe_ix ix_tup (pv 1) pe_int (fun _ _ => rfl)) pa_nil)) (pg_name (i := 4) nd rfl (.inl rfl)) (pss_one (ps_set (i := 3) nd rfl (.inl rfl) (pe_op op_cat (pv 3) (pe_call (ok_dyD T) (hr.mono (by decide : 3 ≤ 3)) (by rfl) T.g_lday T.F_lday.kp T.b_lday .nil pass0 (pa_cons (pv 2) pa_nil)))))) (pss_one (ps_ret (pe_tup (pa_cons (pv 2) (pa_cons (pv 3) (pa_cons pe_non pa_nil)))))))) pss_nil) (pss_cons (ps_if (pt_cmpR op_eq (pe_ix ix_tup (pv 1) pe_int (fun _ _ => rfl)) pe_str (nomark _)) (pss_cons (ps_if (pt_cmpR op_eq (pe_callB call_len_seq (by rfl) T.z_len PySem.boot_len (pa_cons (pe_call (ok_bkD T) (hr.mono (by decide : 1 ≤ 3)) (by rfl) T.g_lbooks T.F_lbooks.kp T.b_lbooks .nil pass0 (pa_cons (pv 0) pa_nil)) pa_nil)) pe_int (nomark _)) (pss_one (ps_ret (pe_tup (pa_cons (pv 0) (pa_cons pe_non (pa_cons (pe_tup (pa_cons pe_str pa_nil)) pa_nil)))))) pss_nil) (pss_cons (ps_expr (pe_bm PySem.F.plainAttrs_list PySem.F.slot_list_append PySem.F.type_list_append mt_append (pe_ix ix_list (pe_dget hu1 (pv 2) pe_str (fun _ _ => rfl)) (pe_ix ix_tup (pv 1) pe_int (fun _ _ => rfl)) (fun _ _ => rfl)) (pa_cons (pe_dget hu1 (pv 0) pe_str (fun _ _ => rfl)) pa_nil))) (pss_cons (ps_dput hu1 (pv 2) pe_str (pe_op op_add (pe_dget hu1 (pv 0) pe_str (fun _ _ => rfl)) pe_int) rfl) (pss_cons (ps_expr (pe_call (ok_begD T) (hr.mono (by decide : 2 ≤ 3)) (by rfl) T.g_lbegin T.F_lbegin.kp T.b_lbegin .nil pass0 (pa_cons (pv 2) pa_nil))) (pss_one (ps_ret (pe_tup (pa_cons (pv 2) (pa_cons (pe_dget hu1 (pv 0) pe_str (fun _ _ => rfl)) (pa_cons pe_non pa_nil)))))))))) pss_nil) (pss_cons (ps_if (pt_cmpR op_eq (pe_ix ix_tup (pv 1) pe_int (fun _ _ => rfl)) pe_str (nomark _)) (pss_cons (ps_asg (pe_ix ix_tup (pv 1) pe_int (fun _ _ => rfl)) (pg_sub (pe_dget hu1 (pv 2) pe_str (fun _ _ => rfl)) (pe_ix ix_tup (pv 1) pe_int (fun _ _ => rfl)) set_list)) (pss_one (ps_ret (pe_tup (pa_cons (pv 2) (pa_cons (pe_ix ix_list (pe_dget hu1 (pv 0) pe_str (fun _ _ => rfl)) (pe_ix ix_tup (pv 1) pe_int (fun _ _ => rfl)) (fun _ _ => rfl)) (pa_cons pe_non pa_nil))))))) pss_nil) (pss_cons (ps_if (pt_cmpR op_in_seq (pe_ix ix_tup (pv 1) pe_int (fun _ _ => rfl)) (pe_lc (own := [("_law_one", 6)]) rfl nd (pi_list (pe_dget hu1 (pv 0) pe_str (fun _ _ => rfl))) (blkOk_by (N := N_ldoes) (sc := defScope s_ldoes) (by decide +kernel)) (fun _ _ _ _ _ => pg_name (i := 6) nd rfl (.inl rfl)) (fun _ _ _ _ _ => pts_one (pt_cmpR op_notN (pv 6) pe_non (nomark _))) (fun _ _ _ _ _ => pe_ix (r := rIxT K) ix_tup (pv 6) pe_int (fun _ _ => rfl))) (by rfl)) (pss_one (ps_ret (pe_tup (pa_cons (pv 0) (pa_cons pe_non (pa_cons (pe_tup (pa_cons pe_str (pa_cons (pe_ix ix_tup (pv 1) pe_int (fun _ _ => rfl)) pa_nil))) pa_nil)))))) pss_nil) (pss_cons (ps_for PassesOwn.never rfl (pi_range1 (by rfl) T.z_range (pa_cons (pe_callB call_len_seq (by rfl) T.z_len PySem.boot_len (pa_cons (pe_dget hu1 (pv 0) pe_str (fun _ _ => rfl)) pa_nil)) pa_nil)) (pg_name (i := 5) nd rfl (.inl rfl)) (pss_one (ps_if (pt_cmpR op_in_seq (pe_ix ix_tup (pv 1) pe_int (fun _ _ => rfl)) (pe_ix ix_list (pe_dget hu1 (pv 0) pe_str (fun _ _ => rfl)) (pv 5) (fun _ _ => rfl)) (by rfl)) (pss_cons (ps_expr (pe_bm PySem.F.plainAttrs_list PySem.F.slot_list_remove PySem.F.type_list_remove mt_remove (pe_ix ix_list (pe_dget hu1 (pv 2) pe_str (fun _ _ => rfl)) (pv 5) (fun _ _ => rfl)) (pa_cons (pe_ix ix_tup (pv 1) pe_int (fun _ _ => rfl)) pa_nil))) (pss_one (ps_ret (pe_tup (pa_cons (pv 2) (pa_cons (pv 5) (pa_cons pe_non pa_nil))))))) pss_nil))) (pss_one (ps_ret (pe_tup (pa_cons (pv 0) (pa_cons pe_non (pa_cons (pe_tup (pa_cons pe_str pa_nil)) pa_nil)))))))))))), ?_⟩
    obtain ⟨ds, coming, ⟨day, hp, cu⟩⟩ := g
    have S : DcT H hd ld hl rd ha cs ds day coming hp cu := S
    have l2 := S.l2
    have l8 := S.l8
    refine ⟨_, rfl, hd, ld, hl, rd, ha, cs, ds, day, coming, hp, cu, rfl, S, fun H1 hn ln mn rn hb s1 f1 f2 f3 f4 f5 N => ?_⟩
    have S1 := S.same s1
    have hdd1 := s1 _ _ hdd
    obtain ⟨kvs, k1, k2, k3, k4, k5, k6, k7⟩ := S1.dic
    have nhd : ∀ {x}, H x = none → x ≠ dd := fun e => (ne_of_none hdd e).symm
    cases o with
    | pass n =>
      have hn50 := hn50 n rfl
      refine ⟨_, rfl, dd, _, 0, _, rfl, rfl, .of hdd1, atI_nat (j := 0) rfl, rfl, _, rfl, iteEq rfl ?_⟩
      refine ⟨Nat.zero_le _, fun L hL => ?_⟩
      have u1 := same_upd (o := .lst []) hL
      have N2 := N.same u1
      have gL : (upd H1 L (.lst [])) L = some (.lst []) := upd_same
      have hdd2 := u1 _ _ hdd1
      have L0 := same_noneT s1 hL
      have s2 := s1.trans u1
      have nL1 : L ≠ rn := (ne_of_none N.ord hL).symm
      have nL2 : L ∉ hb := fun m => by
        obtain ⟨j, hj⟩ := List.getElem?_of_mem m
        exact ne_of_none (N.hv j L hj) hL rfl
      show tSeq _ _ _ [some (.ref hd), some (.ref dd), some (.ref hn), some (.ref L), none, none, none] (upd H1 L (.lst []))
      generalize (upd H1 L (.lst [])) = H2 at N2 gL hdd2 s2 ⊢
      refine ⟨_, rfl, dd, _, 1, _, rfl, rfl, .of hdd2, atI_nat (j := 1) rfl, _, rfl, by omega, by omega, ?_⟩
      have lf : ∀ i, (dyL ds ⟨day, hp, cu⟩ i).length ≤ i * ds.length := fun i => dyL_len ds _ i
      refine for_range (lo := 0) (n := ((n : Nat) : Int).toNat) (fun i σ H' => (∃ L z4, σ = [some (.ref hd), some (.ref dd), some (.ref hn), some (.ref L), z4, none, none] ∧ L ≠ rn ∧ L ∉ hb ∧ H L = none ∧ ∃ xs, H' L = some (.lst xs) ∧ Tups H' xs (dyL ds ⟨day, hp, cu⟩ i)) ∧ Same H H' ∧ ∃ cs', DcT H' hn ln mn rn hb cs' ds (dyN ds ⟨day, hp, cu⟩ i).day coming (dyN ds ⟨day, hp, cu⟩ i).hp (dyN ds ⟨day, hp, cu⟩ i).cu)
        ⟨⟨L, _, rfl, nL1, nL2, L0, [], gL, .nil⟩, s2, cs, N2⟩ ?_ ?_
      · rintro i σ H3 hi ⟨⟨L, z4, rfl, n1, n2, L0, xs, gL, TT⟩, s3, cs3, N3⟩
        refine ⟨_, rfl, _, rfl, hn, ln, mn, rn, hb, cs3, ds, coming, _, rfl, N3, fun j hj => ?_, fun H4 cs4 l2' ys k4' N4 l0 gl2 T4 => ?_⟩
        · have h1 := dyN_len ds ⟨day, hp, cu⟩ j i
          have h2 : (hp j).length ≤ 12 := G.hp12 hj
          have h1 : ((dyN ds ⟨day, hp, cu⟩ i).hp j).length ≤ (hp j).length + i := h1
          omega
        obtain ⟨kvs3, k31, _⟩ := N3.dic
        have nhn : L ≠ hn := ne_of gL k31 (by intro z; cases z)
        have gL4 := k4' _ _ gL nhn n1 n2
        have tk : ∀ c zs, H3 c = some (.tup zs) → H4 c = some (.tup zs) := fun c zs h => k4' _ _ h (ne_of h k31 (by intro z; cases z)) (ne_of h N3.ord (by intro z; cases z)) fun m => by
          obtain ⟨j, hj⟩ := List.getElem?_of_mem m
          exact ne_of h (N3.hv j c hj) (by intro z; cases z) rfl
        have lx : xs.length ≤ i * ds.length := by rw [TT.length]; exact lf i
        have ly : ys.length ≤ ds.length := by rw [T4.length]; exact enL_len _ _ _
        have lm : i * ds.length ≤ 50 * 8 := Nat.mul_le_mul (by omega) l8
        have s4 : Same H H4 := fun x o h => k4' _ _ (s3 _ _ h) (ne_of_none h f1) (ne_of_none h f4) fun m => ne_of_none h (f5 x m) rfl
        refine ⟨L, l2', xs, ys, rfl, rfl, gL4, gl2, by rw [sizeLine_eq]; omega, fun l3 hl3 => ?_⟩
        have u5 := same_upd (o := .lst (xs ++ ys)) hl3
        refine ⟨⟨l3, _, rfl, (ne_of_none N4.ord hl3).symm, fun m => ?_, same_noneT s4 hl3, xs ++ ys, upd_same, (tups_cat (TT.mono tk) T4).mono fun c zs h => u5 _ _ h⟩, s4.trans u5, cs4, N4.same u5⟩
        obtain ⟨j, hj⟩ := List.getElem?_of_mem m
        exact ne_of_none (N4.hv j l3 hj) hl3 rfl
      · rintro σ H3 ⟨⟨L, z4, rfl, n1, n2, L0, xs, gL, TT⟩, s3, cs3, N3⟩
        rw [show ((n : Nat) : Int).toNat = n by omega] at TT N3
        refine ⟨_, rfl, _, rfl, (by show 3 ≤ sizeLine; decide), fun t ht => ?_⟩
        have u4 := same_upd (o := .tup [.ref hn, .ref L, .non]) ht
        exact q rfl _ t hn (.ref L) (s3.trans u4) upd_same ⟨ln, mn, rn, hb, cs3, N3.same u4, f5⟩ ⟨L, xs, rfl, L0, u4 _ _ gL, TT.mono fun c zs h => u4 _ _ h⟩
    | add k =>
      have hk : k < ds.length := hok
      have ev : err (.add k) ⟨ds, coming, ⟨day, hp, cu⟩⟩ = if 12 ≤ (bks hp cu ds.length).length then some Wd.number else none := rfl
      refine ⟨_, rfl, dd, _, 0, _, rfl, rfl, .of hdd1, atI_nat (j := 0) rfl, rfl, _, rfl, iteNe (by decide +kernel) ?_⟩
      refine ⟨_, rfl, dd, _, 0, _, rfl, rfl, .of hdd1, atI_nat (j := 0) rfl, rfl, _, rfl, iteEq rfl ?_⟩
      have lb := bkL_len G
      have ct : (bks hp cu ds.length).length ≤ 12 := by
        rw [bks_bk2 G.rs]
        exact G.ct
      refine ⟨_, rfl, hd, ⟨ds, coming, ⟨day, hp, cu⟩⟩, rfl, ⟨ld, hl, rd, ha, cs, S1⟩, by rw [lb]; exact Nat.le_trans ct (by decide), fun H2 L s2 gL => ⟨L, _, rfl, .inl (.of gL), rfl, _, rfl, ?_⟩⟩
      rw [List.length_map, lb]
      have s02 := s1.trans s2
      by_cases h12 : (bks hp cu ds.length).length = 12
      · rw [show (bks (⟨ds, coming, ⟨day, hp, cu⟩⟩ : GS).t.hp (⟨ds, coming, ⟨day, hp, cu⟩⟩ : GS).t.cu (⟨ds, coming, ⟨day, hp, cu⟩⟩ : GS).ds.length).length = 12 from h12]
        refine iteEq rfl ?_
        refine ⟨_, rfl, (by show 1 ≤ sizeLine; decide), fun wt hwt => ⟨(by show 3 ≤ sizeLine; decide), fun t ht => ?_⟩⟩
        have u3 := same_upd (o := .tup [.str "number"]) hwt
        have u4 := same_upd (o := .tup [.ref hd, .non, .ref wt]) ht
        exact qe .number (by rw [ev, if_pos (by omega)]) _ t wt ((s02.trans u3).trans u4) upd_same (u4 _ _ upd_same)
      · refine iteNe (fun z => h12 (by have := V.int.inj z; have h : (((bks hp cu ds.length).length : Nat) : Int) = 12 := this; omega)) ?_
        have N2 := N.same s2
        have hdd2 := s2 _ _ hdd1
        have c2 := s2 _ _ k1
        obtain ⟨kvn, kn1, kn2, kn3, kn4, kn5, kn6, kn7⟩ := N2.dic
        obtain ⟨a, ga⟩ : ∃ a, hb[k]? = some a := ⟨_, List.getElem?_eq_getElem (by rw [N2.lh]; exact hk)⟩
        have gx := N2.hv k a ga
        have h12' : (hp k).length ≤ 12 := G.hp12 hk
        have hatN : atI (hb.map V.ref) (k : Int) = some (.ref a) := atI_nat (by rw [List.getElem?_map, ga]; rfl)
        refine ⟨_, rfl, hn, _, rfl, get_of kn1 kn4 rfl, _, rfl, dd, _, 1, _, rfl, rfl, .of hdd2, atI_nat (j := 1) rfl, mn, _, _, _, rfl, rfl, .of N2.ohl, hatN, .inl ⟨rfl, _, SqL.of gx⟩, _, rfl, hd, _, rfl, get_of c2 k7 rfl, a, _, _, rfl, rfl, gx, by rw [List.length_map]; exact small1000 (by omega), ?_⟩
        have N3 := N2.putH (k := k) (l := (hp k).map V.int ++ [.int coming]) (ws := hp k ++ [coming]) ga (by rw [List.map_append]; rfl) (by rw [List.length_append]; show _ + 1 ≤ 900; omega)
        have N3 : DcT (upd H2 a (.lst ((hp k).map V.int ++ [.int coming]))) hn ln mn rn hb cs ds day coming (adH hp k coming) cu := N3
        have a0 : H a = none := f5 a (List.mem_of_getElem? ga)
        have s3 : Same H (upd H2 a (.lst ((hp k).map V.int ++ [.int coming]))) := fun x o h => (upd_ne (ne_of_none h a0)).trans (s02 _ _ h)
        generalize (upd H2 a (.lst ((hp k).map V.int ++ [.int coming]))) = H3 at N3 s3 ⊢
        obtain ⟨kvo, ko1, ko2, ko3, ko4, ko5, ko6, ko7⟩ := (S.same s3).dic
        obtain ⟨kvn, kn1, kn2, kn3, kn4, kn5, kn6, kn7⟩ := N3.dic
        refine ⟨_, rfl, hd, _, rfl, get_of ko1 ko7 rfl, _, _, rfl, rfl, _, rfl, hn, _, rfl, .inl ⟨kvn, kN, kn1, rfl, small1000 (by omega), rfl⟩, ?_⟩
        have N4 := N3.nextN kn1 (coming + 1)
        have s4 : Same H (upd H3 hn (.dK (putK kvn kN (.int (coming + 1))))) := fun x o h => (upd_ne (ne_of_none h f1)).trans (s3 _ _ h)
        show tSeq _ _ _ [some (.ref hd), some (.ref dd), some (.ref hn), none, none, none, none] (upd H3 hn (.dK (putK kvn kN (.int (coming + 1)))))
        generalize (upd H3 hn (.dK (putK kvn kN (.int (coming + 1))))) = H4 at N4 s4 ⊢
        refine ⟨_, rfl, hn, ln, mn, rn, hb, cs, ds, day, coming + 1, _, cu, rfl, N4, fun H5 cs5 k5' N5 => ?_⟩
        have s5 : Same H H5 := fun x o h => k5' _ _ (s4 _ _ h) (ne_of_none h f4) fun m => ne_of_none h (f5 x m) rfl
        obtain ⟨kvo, ko1, ko2, ko3, ko4, ko5, ko6, ko7⟩ := (S.same s5).dic
        refine ⟨_, rfl, _, rfl, hd, _, rfl, get_of ko1 ko7 rfl, (by show 3 ≤ sizeLine; decide), fun t ht => ?_⟩
        have u6 := same_upd (o := .tup [.ref hn, .int coming, .non]) ht
        exact q (by rw [ev, if_neg (by omega)]) _ t hn (.int coming) (s5.trans u6) upd_same ⟨ln, mn, rn, hb, cs5, N5.same u6, f5⟩ rfl
    | setd k d =>
      obtain ⟨hk, d1, d30⟩ := hok
      have hk : k < ds.length := hk
      refine ⟨_, rfl, dd, _, 0, _, rfl, rfl, .of hdd1, atI_nat (j := 0) rfl, rfl, _, rfl, iteNe (by decide +kernel) ?_⟩
      refine ⟨_, rfl, dd, _, 0, _, rfl, rfl, .of hdd1, atI_nat (j := 0) rfl, rfl, _, rfl, iteNe (by decide +kernel) ?_⟩
      refine ⟨_, rfl, dd, _, 0, _, rfl, rfl, .of hdd1, atI_nat (j := 0) rfl, rfl, _, rfl, iteEq rfl ?_⟩
      obtain ⟨kvn, kn1, kn2, kn3, kn4, kn5, kn6, kn7⟩ := N.dic
      refine ⟨_, rfl, dd, _, 2, _, rfl, rfl, .of hdd1, atI_nat (j := 2) rfl, _, rfl, hn, _, rfl, get_of kn1 kn3 rfl, _, rfl, dd, _, 1, _, rfl, rfl, .of hdd1, atI_nat (j := 1) rfl, ln, _, _, k, rfl, rfl, N.old, ixN_nat (by rw [List.length_map]; exact hk), ?_⟩
      have N3 := N.putDs k d
      have s3 : Same H (upd H1 ln (.lst ((ds.map V.int).set k (.int d)))) := fun x o h => (upd_ne (ne_of_none h f2)).trans (s1 _ _ h)
      generalize (upd H1 ln (.lst ((ds.map V.int).set k (.int d)))) = H3 at N3 s3 ⊢
      have S3 := S.same s3
      obtain ⟨kvo, ko1, ko2, ko3, ko4, ko5, ko6, ko7⟩ := S3.dic
      refine ⟨_, rfl, _, rfl, hd, _, rfl, get_of ko1 ko3 rfl, _, rfl, dd, _, 1, _, rfl, rfl, .of (s3 _ _ hdd), atI_nat (j := 1) rfl, ld, _, _, _, rfl, rfl, .of S3.old, at_ix (by omega) (by omega), (by show 3 ≤ sizeLine; decide), fun t ht => ?_⟩
      have u6 := same_upd (o := .tup [.ref hn, .int (at' ds k), .non]) ht
      exact q rfl _ t hn (.int (at' ds k)) (s3.trans u6) upd_same ⟨ln, mn, rn, hb, cs, N3.same u6, f5⟩ rfl
    | take b =>
      refine ⟨_, rfl, dd, _, 0, _, rfl, rfl, .of hdd1, atI_nat (j := 0) rfl, rfl, _, rfl, iteNe (by decide +kernel) ?_⟩
      refine ⟨_, rfl, dd, _, 0, _, rfl, rfl, .of hdd1, atI_nat (j := 0) rfl, rfl, _, rfl, iteNe (by decide +kernel) ?_⟩
      refine ⟨_, rfl, dd, _, 0, _, rfl, rfl, .of hdd1, atI_nat (j := 0) rfl, rfl, _, rfl, iteNe (by decide +kernel) ?_⟩
      have es : stp (.take b) ⟨ds, coming, ⟨day, hp, cu⟩⟩ = match atK ⟨ds, coming, ⟨day, hp, cu⟩⟩ b with | some k => ⟨ds, coming, ⟨day, tkH hp k b, cu⟩⟩ | none => ⟨ds, coming, ⟨day, hp, cu⟩⟩ := rfl
      have ev : err (.take b) ⟨ds, coming, ⟨day, hp, cu⟩⟩ = match atK ⟨ds, coming, ⟨day, hp, cu⟩⟩ b with | some k => if b ∈ hp k then none else some (.read b) | none => some .book := rfl
      refine ⟨_, rfl, dd, _, 1, _, rfl, rfl, .of hdd1, atI_nat (j := 1) rfl, _, rfl, hd, _, rfl, get_of k1 k5 rfl, rd, rfl, ⟨_, .of S1.ord⟩, fun D hD => lc_list (K := K) (a := rd) (xs := cs) (fun i H' => Same H1 H' ∧ H' D = some (.lst ((fl (cuL cu) i).map V.int)))
        ⟨same_upd hD, upd_same⟩ (fun i H' _ z => .of (z.1 _ _ S1.ord)) ?_ ?_⟩
      · rintro i x H3 hx ⟨s3, g3⟩
        have hi : i < ds.length := by rw [← S1.lc]; exact (List.getElem?_eq_some_iff.mp hx).1
        have fll := fl_cu_len cu i
        have hcv := S1.cv i x hx
        cases ecu : cu i with
        | none =>
          rw [ecu] at hcv
          have hcv : x = .non := hcv
          subst hcv
          refine ⟨rfl, _, rfl, rfl, _, rfl, iteF ⟨s3, ?_⟩⟩
          rw [fl_suc, cuL_none ecu, List.append_nil]
          exact g3
        | some be =>
          obtain ⟨b0, e0⟩ := be
          rw [ecu] at hcv
          obtain ⟨tc, rfl, htc⟩ := hcv
          refine ⟨rfl, _, rfl, rfl, _, rfl, iteT ⟨_, rfl, tc, _, 0, _, rfl, rfl, .of (s3 _ _ htc), atI_nat (j := 0) rfl, _, g3, by rw [List.length_map]; exact small1000 (by omega), fun c o h => (upd_ne (ne_of_none h hD)).trans (s3 _ _ h), ?_⟩⟩
          rw [upd_same, fl_suc, cuL_some ecu, List.map_append]
          rfl
      rintro H3 ⟨s3, g3⟩
      rw [S1.lc] at g3
      have s03 := s1.trans s3
      have hdd3 := s03 _ _ hdd
      refine ⟨D, _, rfl, .inl (.of g3), rfl, List.all_eq_true.mpr fun x hx => by
        obtain ⟨y, _, rfl⟩ := List.mem_map.mp hx
        rfl, _, rfl, ?_⟩
      rw [if_neg (by decide), inV_int]
      by_cases hread : b ∈ fl (cuL cu) ds.length
      · rw [decide_eq_true hread]
        refine iteT ?_
        refine ⟨_, rfl, _, rfl, dd, _, 1, _, rfl, rfl, .of hdd3, atI_nat (j := 1) rfl, (by show 2 ≤ sizeLine; decide), fun wt hwt => ⟨(by show 3 ≤ sizeLine; decide), fun t ht => ?_⟩⟩
        have u3 := same_upd (o := .tup [.str "read", .int b]) hwt
        have u4 := same_upd (o := .tup [.ref hd, .non, .ref wt]) ht
        exact qe (.read b) (at_read G hread) _ t wt ((s03.trans u3).trans u4) upd_same (u4 _ _ upd_same)
      rw [decide_eq_false hread]
      refine iteF ?_
      have S3 := S1.same s3
      have N3 := N.same s3
      obtain ⟨kvo, ko1, ko2, ko3, ko4, ko5, ko6, ko7⟩ := S3.dic
      refine ⟨_, rfl, hd, _, rfl, get_of ko1 ko4 rfl, hl, _, rfl, .inl (.of S3.ohl), _, rfl, ?_, ?_, ?_⟩
      · rw [List.length_map, S3.lh]
        omega
      · rw [List.length_map, S3.lh]
        omega
      rw [List.length_map, S3.lh]
      refine for_range (lo := 0) (n := ((ds.length : Nat) : Int).toNat) (fun i σ H' => (∃ z5, σ = [some (.ref hd), some (.ref dd), some (.ref hn), none, none, z5, none]) ∧ H' = H3 ∧ ∀ k, k < i → b ∉ hp k) ⟨⟨_, rfl⟩, rfl, fun k h => absurd h (Nat.not_lt_zero _)⟩ ?_ ?_
      · rintro i σ H4 hi ⟨⟨z5, rfl⟩, rfl, hno⟩
        have hi' : i < ds.length := by omega
        have e0 : (0 : Int) + (i : Int) = (i : Int) := by omega
        show tIfS _ _ _ _ [some (.ref hd), some (.ref dd), some (.ref hn), none, none, some (.int (0 + (i : Int))), none] H4
        rw [e0]
        obtain ⟨a, ga⟩ : ∃ a, ha[i]? = some a := ⟨_, List.getElem?_eq_getElem (by rw [S3.lh]; exact hi')⟩
        have gx := S3.hv i a ga
        refine ⟨_, rfl, dd, _, 1, _, rfl, rfl, .of hdd3, atI_nat (j := 1) rfl, _, rfl, hd, _, rfl, get_of ko1 ko4 rfl, _, rfl, hl, _, _, _, rfl, rfl, .of S3.ohl, atI_nat (by rw [List.getElem?_map, ga]; rfl), a, _, rfl, .inl (.of gx), rfl, List.all_eq_true.mpr fun x hx => by
          obtain ⟨y, _, rfl⟩ := List.mem_map.mp hx
          rfl, _, rfl, ?_⟩
        rw [if_neg (by decide), inV_int]
        by_cases hin : b ∈ hp i
        · rw [decide_eq_true hin]
          refine iteT ?_
          obtain ⟨e1, e2, e3, e4⟩ := at_heap G hi' hin
          obtain ⟨an, gan⟩ : ∃ a, hb[i]? = some a := ⟨_, List.getElem?_eq_getElem (by rw [N3.lh]; exact hi')⟩
          have gxn := N3.hv i an gan
          have hatN : atI (hb.map V.ref) (i : Int) = some (.ref an) := atI_nat (by rw [List.getElem?_map, gan]; rfl)
          obtain ⟨kvn, kn1, kn2, kn3, kn4, kn5, kn6, kn7⟩ := N3.dic
          obtain ⟨j, hj⟩ := List.getElem?_of_mem hin
          have hfirst : ∀ m : Nat, m < j → (hp i)[m]? ≠ some b := fun m hm z => by
            have hml : m < (hp i).length := (List.getElem?_eq_some_iff.mp z).1
            have := (List.getElem?_inj hml e3).mp (z.trans hj.symm)
            omega
          refine ⟨_, rfl, hn, _, rfl, get_of kn1 kn4 rfl, _, rfl, mn, _, _, _, rfl, rfl, .of N3.ohl, hatN, .inl ⟨rfl, _, SqL.of gxn⟩, _, rfl, dd, _, 1, _, rfl, rfl, .of hdd3, atI_nat (j := 1) rfl, an, hp i, b, j, rfl, rfl, gxn, hj, hfirst, ?_⟩
          rw [erase_filter e3 hj]
          have sm : (hp i).length ≤ 12 := G.hp12 hi'
          have N4 := N3.putH (k := i) (l := ((hp i).filter fun x => decide (x ≠ b)).map V.int) (ws := (hp i).filter fun x => decide (x ≠ b)) gan rfl (by have := List.length_filter_le (fun x => decide (x ≠ b)) (hp i); omega)
          have N4 : DcT (upd H4 an (.lst (((hp i).filter fun x => decide (x ≠ b)).map V.int))) hn ln mn rn hb cs ds day coming (tkH hp i b) cu := N4
          have s4 : Same H (upd H4 an (.lst (((hp i).filter fun x => decide (x ≠ b)).map V.int))) := fun x o h => (upd_ne (ne_of_none h (f5 an (List.mem_of_getElem? gan)))).trans (s03 _ _ h)
          refine ⟨_, rfl, _, rfl, (by show 3 ≤ sizeLine; decide), fun t ht => ?_⟩
          have u6 := same_upd (o := .tup [.ref hn, .int (i : Int), .non]) ht
          refine q (by rw [ev, e1]; exact if_pos hin) _ t hn (.int (i : Int)) (s4.trans u6) upd_same (by rw [es, e1]; exact ⟨ln, mn, rn, hb, cs, N4.same u6, f5⟩) ?_
          show V.int (i : Int) = V.int (((atK ⟨ds, coming, ⟨day, hp, cu⟩⟩ b).getD 0 : Nat) : Int)
          rw [e1]
          rfl
        · rw [decide_eq_false hin]
          refine iteF ⟨⟨_, rfl⟩, rfl, fun k hk => ?_⟩
          by_cases e : k = i
          · rw [e]
            exact hin
          · exact hno k (by omega)
      · rintro σ H4 ⟨⟨z5, rfl⟩, rfl, hno⟩
        refine ⟨_, rfl, (by show 1 ≤ sizeLine; decide), fun wt hwt => ⟨(by show 3 ≤ sizeLine; decide), fun t ht => ?_⟩⟩
        have u3 := same_upd (o := .tup [.str "book"]) hwt
        have u4 := same_upd (o := .tup [.ref hd, .non, .ref wt]) ht
        exact qe .book (at_none G hread fun k hk => hno k (by show k < ((ds.length : Nat) : Int).toNat; have hk : k < ds.length := hk; omega)) _ t wt ((s03.trans u3).trans u4) upd_same (u4 _ _ upd_same)
end
end Rp
/-! The law's deeds: drawn, asked of the live ring. -/
namespace Rp
open PySem PySem.Spec PyProof.Rows L2 Rz Rm Rl
theorem kp_of {K : PySem.W.Frag} {H H' : Hp} {row a b : Addr} {ns : List Int} {o : HO} (RA : RowAt K H row a ns) (k : Kp row H H') (h : H b = some o) (n : ∀ i m q : Int, o ≠ .lst [.ref a, .int i, .int m, .int q]) : H' b = some o := by
  obtain ⟨i, m, q, hrow, _⟩ := RA.ob
  refine k _ _ h fun e => ?_
  rw [e, hrow] at h
  exact n i m q (Option.some.inj h).symm
theorem DcT.kp {K : PySem.W.Frag} {H H' : Hp} {row a : Addr} {ns : List Int} {hd ld hl rd : Addr} {ha : List Addr} {cs : List V} {ds : List Int} {day coming : Int} {hp : Nat → List Int} {cu : Nat → Option (Int × Int)} (S : DcT H hd ld hl rd ha cs ds day coming hp cu) (RA : RowAt K H row a ns) (k : Kp row H H') : DcT H' hd ld hl rd ha cs ds day coming hp cu := by
  obtain ⟨kvs, k1, k2⟩ := S.dic
  have intsL : ∀ l : List Int, ∀ i m q : Int, HO.lst (l.map V.int) ≠ .lst [.ref a, .int i, .int m, .int q] := fun l i m q z => by
    cases l with
    | nil => cases z
    | cons x r =>
      injection z with z
      rw [List.map_cons] at z
      injection z with z1 z2
      cases z1
  have l2 := S.l2
  refine ⟨⟨kvs, kp_of RA k k1 (fun _ _ _ z => by cases z), k2⟩, kp_of RA k S.old (intsL _), kp_of RA k S.ohl (fun i m q z => ?_), S.lh, fun j b h => kp_of RA k (S.hv j b h) (intsL _), kp_of RA k S.ord (fun i m q z => ?_), S.lc, fun j v h => (S.cv j v h).tups fun c ys e => kp_of RA k e (fun _ _ _ z => by cases z), S.n1, S.n2, S.n3, S.nh, S.dh, S.l2, S.l8, S.sm⟩
  · injection z with z
    have h1 : (ha.map V.ref)[1]? = some (.int i) := by rw [z]; rfl
    rw [List.getElem?_map] at h1
    obtain ⟨y, _, hy⟩ := Option.map_eq_some_iff.mp h1
    cases hy
  · injection z with z
    have h1 : cs[1]? = some (.int i) := by rw [z]; rfl
    have h2 := S.cv 1 _ h1
    cases e : cu 1 with
    | none =>
      rw [e] at h2
      cases h2
    | some be =>
      rw [e] at h2
      obtain ⟨t, ht, _⟩ := h2
      cases ht
theorem DcG.kp {K : PySem.W.Frag} {H H' : Hp} {row a hd : Addr} {ns : List Int} {g : GS} (S : DcG H hd g) (RA : RowAt K H row a ns) (k : Kp row H H') : DcG H' hd g := by
  obtain ⟨ld, hl, rd, ha, cs, S⟩ := S
  exact ⟨ld, hl, rd, ha, cs, S.kp RA k⟩
section
variable {P : Program} {w : World} {K : PySem.W.Frag} {mg : Str → Option Value} {base : Heap}
def spDeed (K : PySem.W.Frag) : Sp := fun vs H Q _ => ∃ (row a hd : Addr) (ns : List Int) (g : GS) (m : Int), vs = [.ref row, .ref hd] ∧ RowAt K H row a ns ∧ DcG H hd g ∧ GI g.ds.length m g ∧ m ≤ 1000 ∧
  ∀ H' t o, RowAt K H' row a ns → Kp row H H' → H' t = some (.tup (opV o)) → OpOk g.ds.length o → (∀ n, o = .pass n → n ≤ 50) → Q (.ref t) H'
theorem ok_deed (T : Tx K mg) : FnOk P w K mg base CX0 2 T.a_ldeed T.d_ldeed P_ldeed (spDeed K) := by
  refine T.F_ldeed.ok sc_ldeed (fun vs H Q E h => ?_) (fun cdv A outer s H vs Q E hr h => ?_)
  · obtain ⟨row, a, hd, ns, g, m, rfl, _⟩ := h
    rfl
  · obtain ⟨row, a, hd, ns, g, m, rfl, RA, ⟨ld, hl, rd, ha, cs, S⟩, G, hm, q⟩ := h
    have nd := sc_ldeed.nd
    have hu1 : (cxOf CX0 P w K mg base N_ldeed "_law_deed" (defScope s_ldeed) T.a_ldeed cdv A outer s H E).nox.A.units + 1 < cLine := Nat.lt_of_le_of_lt (Nat.add_le_add_left (by decide : 1 ≤ 64) _) hr.units
    refine ⟨_, pss_cons (ps_par (i := 2) (j := 3) rfl nd rfl rfl (by decide) rfl rfl (pa_cons (pe_call (ok_taken T) hr (by rfl) T.g_ltaken T.F_ltaken.kp T.b_ltaken .nil pass0 (pa_cons (pv 0) (pa_cons pe_int pa_nil))) (pa_cons (pe_callB call_len_seq (by rfl) T.z_len PySem.boot_len (pa_cons (pe_dget hu1 (pv 1) pe_str (fun _ _ => rfl)) pa_nil)) pa_nil)) rfl)
      (pss_cons (ps_if (pt_cmpR op_lt (pv 2) pe_int (nomark _)) (pss_one (ps_ret (pe_tup (pa_cons pe_str (pa_cons (pe_call (ok_taken T) hr (by rfl) T.g_ltaken T.F_ltaken.kp T.b_ltaken .nil pass0 (pa_cons (pv 0) (pa_cons (pe_ix ix_list (pe_lst (pa_cons pe_int (pa_cons pe_int pa_nil))) (pe_call (ok_taken T) hr (by rfl) T.g_ltaken T.F_ltaken.kp T.b_ltaken .nil pass0 (pa_cons (pv 0) (pa_cons pe_int pa_nil))) (fun _ _ => rfl)) pa_nil))) pa_nil))))) pss_nil)
      (pss_cons (ps_if (pt_cmpR op_eq (pv 2) pe_int (nomark _)) (pss_one (ps_ret (pe_tup (pa_cons pe_str (pa_cons (pe_call (ok_taken T) hr (by rfl) T.g_ltaken T.F_ltaken.kp T.b_ltaken .nil pass0 (pa_cons (pv 0) (pa_cons (pv 3) pa_nil))) pa_nil))))) pss_nil)
      (pss_cons (ps_if (pt_cmpR op_eq (pv 2) pe_int (nomark _)) (pss_one (ps_ret (pe_tup (pa_cons pe_str (pa_cons (pe_call (ok_taken T) hr (by rfl) T.g_ltaken T.F_ltaken.kp T.b_ltaken .nil pass0 (pa_cons (pv 0) (pa_cons (pv 3) pa_nil))) (pa_cons (pe_op op_add pe_int (pe_call (ok_taken T) hr (by rfl) T.g_ltaken T.F_ltaken.kp T.b_ltaken .nil pass0 (pa_cons (pv 0) (pa_cons pe_int pa_nil)))) pa_nil)))))) pss_nil)
      (pss_one (ps_ret (pe_tup (pa_cons pe_str (pa_cons (pe_call (ok_taken T) hr (by rfl) T.g_ltaken T.F_ltaken.kp T.b_ltaken .nil pass0 (pa_cons (pv 0) (pa_cons (pe_op op_add (pe_dget hu1 (pv 1) pe_str (fun _ _ => rfl)) pe_int) pa_nil))) pa_nil)))))))), ?_⟩
    have l2 := S.l2
    have l8 := S.l8
    refine ⟨_, rfl, row, a, ns, 9, rfl, RA, by decide, by decide, fun way H1 w0 w1 RA1 k1 => ?_⟩
    have S1 := S.kp RA k1
    obtain ⟨kvs, c1, c2, c3, c4, c5, c6, c7⟩ := S1.dic
    refine ⟨_, rfl, hd, _, rfl, get_of c1 c3 rfl, ld, _, rfl, .inl (.of S1.old), _, _, rfl, ?_⟩
    rw [List.length_map]
    show tSeq _ _ _ [some (.ref row), some (.ref hd), some (.int way), some (.int (g.ds.length : Int))] H1
    refine ⟨_, rfl, _, _, rfl, rfl, _, rfl, ?_⟩
    by_cases h5 : way < 5
    · rw [decide_eq_true h5]
      refine iteT ?_
      refine ⟨_, rfl, (by show 2 ≤ sizeLine; decide), fun L hL => ?_⟩
      have u1 := same_upd (o := .lst [.int 4, .int 12]) hL
      have gL : (upd H1 L (.lst [.int 4, .int 12])) L = some (.lst [.int 4, .int 12]) := upd_same
      have RA2 := RA1.same u1
      have nL := RA1.nn hL
      have k2 : Kp row H (upd H1 L (.lst [.int 4, .int 12])) := k1.trans (Same.kp u1)
      generalize (upd H1 L (.lst [.int 4, .int 12])) = H2 at gL RA2 k2 ⊢
      refine ⟨_, rfl, row, a, ns, 2, rfl, RA2, by decide, by decide, fun j H3 j0 j1 RA3 k3 => ?_⟩
      have gL3 := k3 _ _ gL nL
      obtain ⟨x, hx, x1, x2⟩ : ∃ x : Int, atI ([.int 4, .int 12] : List V) j = some (.int x) ∧ 1 ≤ x ∧ x ≤ 12 := by
        have : j = 0 ∨ j = 1 := by omega
        rcases this with rfl | rfl
        · exact ⟨4, rfl, by decide, by decide⟩
        · exact ⟨12, rfl, by decide, by decide⟩
      refine ⟨L, _, _, _, rfl, rfl, .of gL3, hx, row, a, ns, x, rfl, RA3, x1, by omega, fun n H4 n0 n1 RA4 k4 => ⟨(by show 2 ≤ sizeLine; decide), fun t ht => ?_⟩⟩
      obtain ⟨n, rfl⟩ : ∃ k : Nat, n = (k : Int) := ⟨n.toNat, by omega⟩
      have u5 := same_upd (o := .tup (opV (.pass n))) ht
      exact q _ t (.pass n) (RA4.same u5) (((k2.trans k3).trans k4).trans (Same.kp u5)) upd_same (by show n ≤ 400; omega) (fun n' e => by cases e; omega)
    rw [decide_eq_false h5]
    refine iteF ?_
    refine ⟨_, rfl, rfl, _, rfl, ?_⟩
    by_cases h6 : way = 5
    · refine iteEq (congrArg V.int h6) ?_
      refine ⟨_, rfl, _, rfl, row, a, ns, _, rfl, RA1, by omega, by omega, fun n H4 n0 n1 RA4 k4 => ⟨(by show 2 ≤ sizeLine; decide), fun t ht => ?_⟩⟩
      obtain ⟨n, rfl⟩ : ∃ k : Nat, n = (k : Int) := ⟨n.toNat, by omega⟩
      have u5 := same_upd (o := .tup (opV (.add n))) ht
      exact q _ t (.add n) (RA4.same u5) ((k1.trans k4).trans (Same.kp u5)) upd_same (by show n < g.ds.length; omega) (fun n' e => by cases e)
    refine iteNe (fun z => h6 (V.int.inj z)) ?_
    refine ⟨_, rfl, rfl, _, rfl, ?_⟩
    by_cases h7 : way = 6
    · refine iteEq (congrArg V.int h7) ?_
      refine ⟨_, rfl, _, rfl, row, a, ns, _, rfl, RA1, by omega, by omega, fun n H4 n0 n1 RA4 k4 => ⟨_, rfl, row, a, ns, 9, rfl, RA4, by decide, by decide, fun d H5 d0 d1 RA5 k5 => ⟨_, _, rfl, rfl, (by show 3 ≤ sizeLine; decide), fun t ht => ?_⟩⟩⟩
      obtain ⟨n, rfl⟩ : ∃ k : Nat, n = (k : Int) := ⟨n.toNat, by omega⟩
      have u5 := same_upd (o := .tup (opV (.setd n (1 + d)))) ht
      exact q _ t (.setd n (1 + d)) (RA5.same u5) (((k1.trans k4).trans k5).trans (Same.kp u5)) upd_same ⟨by omega, by omega, by omega⟩ (fun n' e => by cases e)
    refine iteNe (fun z => h7 (V.int.inj z)) ?_
    have c0 := G.c0
    have c1' := G.c1
    refine ⟨_, rfl, _, rfl, hd, _, rfl, get_of c1 c7 rfl, _, _, rfl, rfl, row, a, ns, _, rfl, RA1, by omega, by omega, fun b H4 n0 n1 RA4 k4 => ⟨(by show 2 ≤ sizeLine; decide), fun t ht => ?_⟩⟩
    have u5 := same_upd (o := .tup (opV (.take b))) ht
    exact q _ t (.take b) (RA4.same u5) ((k1.trans k4).trans (Same.kp u5)) upd_same ⟨n0, by omega⟩ (fun n' e => by cases e)
/-- _law_asked -/
def spAsk {K : PySem.W.Frag} {mg : Str → Option Value} (C tC cC vC : Addr) (L : LiX K mg) : Sp := fun vs H Q E => ∃ (lr dd : Addr) (ss : List Int) (gs : List GS) (g : GS) (os us : List Op) (m : Int) (o : Op), vs = [.ref lr, .ref dd] ∧ H dd = some (.tup (opV o)) ∧ LiE C tC cC vC ss H lr gs g os us ∧ GI g.ds.length m g ∧ OpOk g.ds.length o ∧ gs.length ≤ 700 ∧ os.length ≤ 700 ∧
  (err o g = none → ∀ H' v, KeepL lr H H' → RvN v H H' (resR o g) → LiE C tC cC vC ss H' lr (gs ++ [g]) (stp o g) (os ++ [o]) [] → Q v H') ∧ (∀ wd, err o g = some wd → ∀ H' cls d, Same H H' → ErrV L cls d H' wd → E cls d H')
theorem ok_ask (T : Tx K mg) (X : Ax w T) (L : LiX K mg) : FnOk P w K mg base (L2.CX P w) 12 T.a_lasked T.d_lasked P_lasked (spAsk T.C T.tC T.cC T.vC L) := by
  refine T.F_lasked.okX sc_lasked (fun vs H Q E h => ?_) (fun cdv A outer s0 H vs Q E hr h => ?_)
  · obtain ⟨lr, dd, ss, gs, g, os, us, m, o, rfl, _⟩ := h
    rfl
  · obtain ⟨lr, dd, ss, gs, g, os, us, m, o, rfl, hdd, I, G, hok, l1, l2, q, qe⟩ := h
    refine ⟨_, pss_cons (ps_if (pt_cmpR op_eq (pe_ix ix_tup (pv 1) pe_int (fun _ _ => rfl)) pe_str (nomark _)) (pss_one (ps_ret (pe_meth (E := E) (pv 0) T.clv T.mv_pass_days (m_pass T X L) hr T.b_vpass_days .nil (passes_call (takes_of rfl rfl rfl rfl) (fun _ _ _ _ z => z)) (pa_cons (pe_ix ix_tup (pv 1) pe_int (fun _ _ => rfl)) pa_nil)))) pss_nil)
      (pss_cons (ps_if (pt_cmpR op_eq (pe_ix ix_tup (pv 1) pe_int (fun _ _ => rfl)) pe_str (nomark _)) (pss_one (ps_ret (pe_meth (E := E) (pv 0) T.clv T.mv_add (m_add T X L) hr T.b_vadd .nil (passes_call (takes_of rfl rfl rfl rfl) (fun _ _ _ _ z => z)) (pa_cons (pe_ix ix_tup (pv 1) pe_int (fun _ _ => rfl)) pa_nil)))) pss_nil)
      (pss_one (ps_ret (pe_ifExp (pt_cmpR op_eq (pe_ix ix_tup (pv 1) pe_int (fun _ _ => rfl)) pe_str (nomark _)) (pe_meth (E := E) (pv 0) T.clv T.mv_set_days (m_set T X L) hr T.b_vset_days .nil (passes_call (takes_of rfl rfl rfl rfl) (fun _ _ _ _ z => z)) (pa_cons (pe_ix ix_tup (pv 1) pe_int (fun _ _ => rfl)) (pa_cons (pe_ix ix_tup (pv 1) pe_int (fun _ _ => rfl)) pa_nil)))
        (pe_meth (E := E) (pv 0) T.clv T.mv_take (m_take T X L) hr T.b_vtake .nil (passes_call (takes_of rfl rfl rfl rfl) (fun _ _ _ _ z => z)) (pa_cons (pe_ix ix_tup (pv 1) pe_int (fun _ _ => rfl)) pa_nil)))))), ?_⟩
    have I0 := I
    obtain ⟨dxl, co, dxc, tt, ot, ut, tb, tabs, opl, und, I1⟩ := I0
    cases o with
    | pass n =>
      refine ⟨_, rfl, dd, _, 0, _, rfl, rfl, .of hdd, atI_nat (j := 0) rfl, rfl, _, rfl, iteEq rfl ?_⟩
      exact ⟨_, rfl, lr, dxl, _, rfl, I1.ob, rfl, _, rfl, dd, _, 1, _, rfl, rfl, .of hdd, atI_nat (j := 1) rfl, lr, ss, gs, g, os, us, m, .pass n, _, _, ⟨n, rfl⟩, rfl, rfl, I, G, hok, l1, l2, q, qe⟩
    | add k =>
      refine ⟨_, rfl, dd, _, 0, _, rfl, rfl, .of hdd, atI_nat (j := 0) rfl, rfl, _, rfl, iteNe (by decide +kernel) ?_⟩
      refine ⟨_, rfl, dd, _, 0, _, rfl, rfl, .of hdd, atI_nat (j := 0) rfl, rfl, _, rfl, iteEq rfl ?_⟩
      exact ⟨_, rfl, lr, dxl, _, rfl, I1.ob, rfl, _, rfl, dd, _, 1, _, rfl, rfl, .of hdd, atI_nat (j := 1) rfl, lr, ss, gs, g, os, us, m, .add k, _, _, ⟨k, rfl⟩, rfl, rfl, I, G, hok, l1, l2, q, qe⟩
    | setd k d =>
      refine ⟨_, rfl, dd, _, 0, _, rfl, rfl, .of hdd, atI_nat (j := 0) rfl, rfl, _, rfl, iteNe (by decide +kernel) ?_⟩
      refine ⟨_, rfl, dd, _, 0, _, rfl, rfl, .of hdd, atI_nat (j := 0) rfl, rfl, _, rfl, iteNe (by decide +kernel) ?_⟩
      refine ⟨_, rfl, dd, _, 0, _, rfl, rfl, .of hdd, atI_nat (j := 0) rfl, rfl, _, rfl, iteEq rfl ?_⟩
      exact ⟨_, rfl, lr, dxl, _, rfl, I1.ob, rfl, _, rfl, dd, _, 1, _, rfl, rfl, .of hdd, atI_nat (j := 1) rfl, _, rfl, dd, _, 2, _, rfl, rfl, .of hdd, atI_nat (j := 2) rfl, lr, ss, gs, g, os, us, m, .setd k d, _, _, ⟨k, d, rfl⟩, rfl, rfl, I, G, hok, l1, l2, q, qe⟩
    | take b =>
      refine ⟨_, rfl, dd, _, 0, _, rfl, rfl, .of hdd, atI_nat (j := 0) rfl, rfl, _, rfl, iteNe (by decide +kernel) ?_⟩
      refine ⟨_, rfl, dd, _, 0, _, rfl, rfl, .of hdd, atI_nat (j := 0) rfl, rfl, _, rfl, iteNe (by decide +kernel) ?_⟩
      refine ⟨_, rfl, dd, _, 0, _, rfl, rfl, .of hdd, atI_nat (j := 0) rfl, rfl, _, rfl, iteNe (by decide +kernel) ?_⟩
      exact ⟨_, rfl, lr, dxl, _, rfl, I1.ob, rfl, _, rfl, dd, _, 1, _, rfl, rfl, .of hdd, atI_nat (j := 1) rfl, lr, ss, gs, g, os, us, m, .take b, _, _, ⟨b, rfl⟩, rfl, rfl, I, G, hok, l1, l2, q, qe⟩
end
end Rp
/-! What the law tells of the live ring and of its own. -/
namespace Rp
open PySem PySem.Spec PyProof.Rows L2 Rz Rm Rl
def cuD (cu : Nat → Option (Int × Int)) (j : Nat) : PyData := match cu j with
  | none => .none
  | some (b, e) => .tuple [.int b, .int e]
def toldD (g : GS) : PyData := .list [.int g.t.day, .int ((bks g.t.hp g.t.cu g.ds.length).length : Nat), .list ((List.range g.ds.length).map fun j => PyData.list ((g.t.hp j).map PyData.int)), .list ((List.range g.ds.length).map (cuD g.t.cu))]
theorem dpa_ix {K : PySem.W.Frag} {H : Hp} : ∀ {xs : List V} {ds : List PyData}, xs.length = ds.length → (∀ (j : Nat) (x : V) (d : PyData), xs[j]? = some x → ds[j]? = some d → Dp K H x d) → DpAll K H xs ds
  | [], [], _, _ => .nil
  | x :: xs, d :: ds, h, f => .cons (f 0 x d rfl rfl) (dpa_ix (Nat.succ.inj h) fun j y e h1 h2 => f (j + 1) y e h1 h2)
theorem dp_heaps {K : PySem.W.Frag} {H : Hp} {was : List Addr} {hp : Nat → List Int} {N : Nat} (hl : was.length = N) (h : ∀ (j : Nat) (a : Addr), was[j]? = some a → H a = some (.lst ((hp j).map V.int))) : DpAll K H (was.map V.ref) ((List.range N).map fun j => PyData.list ((hp j).map PyData.int)) := by
  refine dpa_ix (by rw [List.length_map, List.length_map, List.length_range, hl]) fun j x d h1 h2 => ?_
  rw [List.getElem?_map] at h1 h2
  obtain ⟨a, ga, rfl⟩ := Option.map_eq_some_iff.mp h1
  obtain ⟨i, gi, rfl⟩ := Option.map_eq_some_iff.mp h2
  have : i = j := by
    have hj := (List.getElem?_eq_some_iff.mp gi).1
    rw [List.length_range] at hj
    rw [List.getElem?_range hj] at gi
    cases gi
    rfl
  subst this
  exact .lst (.of (h i a ga)) (dp_is _)
theorem dp_read {K : PySem.W.Frag} {H : Hp} {cs : List V} {cu : Nat → Option (Int × Int)} {N : Nat} (hl : cs.length = N) (h : ∀ (j : Nat) (v : V), cs[j]? = some v → CuV H v (cu j)) : DpAll K H cs ((List.range N).map (cuD cu)) := by
  refine dpa_ix (by rw [List.length_map, List.length_range, hl]) fun j x d h1 h2 => ?_
  rw [List.getElem?_map] at h2
  obtain ⟨i, gi, rfl⟩ := Option.map_eq_some_iff.mp h2
  have : i = j := by
    have hj := (List.getElem?_eq_some_iff.mp gi).1
    rw [List.length_range] at hj
    rw [List.getElem?_range hj] at gi
    cases gi
    rfl
  subst this
  have hc := h i x h1
  unfold cuD
  cases e : cu i with
  | none =>
    rw [e] at hc
    have hc : x = .non := hc
    subst hc
    exact .non
  | some be =>
    rw [e] at hc
    obtain ⟨t, rfl, ht⟩ := hc
    exact .tup (.of ht) (.cons (.int _) (.cons (.int _) .nil))
theorem lay_all {k : Nat} : ∀ {l : List PyData}, (∀ d ∈ l, d.canLay0 = true ∧ d.depth ≤ k) → PyData.canLayAll0 l = true ∧ PyData.depthAll l ≤ k
  | [], _ => ⟨rfl, Nat.zero_le _⟩
  | d :: r, h => by
    obtain ⟨h1, h2⟩ := lay_all (l := r) fun x hx => h x (List.mem_cons_of_mem _ hx)
    obtain ⟨h3, h4⟩ := h d List.mem_cons_self
    constructor
    · simp [PyData.canLayAll0, h1, h3]
    · simp only [PyData.depthAll]
      omega
theorem sh_told (g : GS) : SeqAt.shaped (toldD g) = true := by
  have a := lay_all (k := 1) (l := (List.range g.ds.length).map fun j => PyData.list ((g.t.hp j).map PyData.int)) fun d hd => by
    obtain ⟨j, _, rfl⟩ := List.mem_map.mp hd
    have h1 := PySem.W.ke_canLayAll0 (g.t.hp j)
    have h2 := PySem.W.ke_depthAll (g.t.hp j)
    constructor
    · simp [PyData.canLay0, h1]
    · simp only [PyData.depth]
      omega
  have b := lay_all (k := 1) (l := (List.range g.ds.length).map (cuD g.t.cu)) fun d hd => by
    obtain ⟨j, _, rfl⟩ := List.mem_map.mp hd
    unfold cuD
    cases g.t.cu j with
    | none => exact ⟨rfl, by decide⟩
    | some be =>
      constructor
      · simp [PyData.canLay0, PyData.canLayAll0]
      · simp [PyData.depth, PyData.depthAll]
  obtain ⟨a1, a2⟩ := a
  obtain ⟨b1, b2⟩ := b
  unfold toldD
  simp only [SeqAt.shaped, PyData.canLay0, PyData.canLayAll0, PyData.depth, PyData.depthAll, a1, b1, Bool.and_true, Bool.true_and]
  exact decide_eq_true (by omega)
/-- what a live ring tells, as it stands; its heaps' lists are such -/
def TV (A : Addr → Prop) (H : Hp) (v : V) (g : GS) : Prop := ∃ (L D B : Addr) (ha : List Addr) (cs : List V), v = .ref L ∧ H L = some (.lst [.int g.t.day, .int ((bks g.t.hp g.t.cu g.ds.length).length : Nat), .ref D, .ref B]) ∧ H D = some (.lst (ha.map V.ref)) ∧ ha.length = g.ds.length ∧
  (∀ (j : Nat) (a : Addr), ha[j]? = some a → H a = some (.lst ((g.t.hp j).map V.int))) ∧ H B = some (.lst cs) ∧ cs.length = g.ds.length ∧ (∀ (j : Nat) (v : V), cs[j]? = some v → CuV H v (g.t.cu j)) ∧ ∀ a ∈ ha, A a
theorem TV.dp {K : PySem.W.Frag} {A : Addr → Prop} {H : Hp} {v : V} {g : GS} (b : TV A H v g) : Dp K H v (toldD g) := by
  obtain ⟨L, D, B, ha, cs, rfl, h1, h2, h3, h4, h5, h6, h7, _⟩ := b
  exact .lst (.of h1) (.cons (.int _) (.cons (.int _) (.cons (.lst (.of h2) (dp_heaps h3 h4)) (.cons (.lst (.of h5) (dp_read h6 h7)) .nil))))
theorem TV.imp {A A' : Addr → Prop} {H : Hp} {v : V} {g : GS} (b : TV A H v g) (k : ∀ a, A a → A' a) : TV A' H v g := by
  obtain ⟨L, D, B, ha, cs, e, h1, h2, h3, h4, h5, h6, h7, h8⟩ := b
  exact ⟨L, D, B, ha, cs, e, h1, h2, h3, h4, h5, h6, h7, fun a m => k a (h8 a m)⟩
theorem TV.same {A : Addr → Prop} {H H' : Hp} {v : V} {g : GS} (b : TV A H v g) (s : Same H H') : TV A H' v g := by
  obtain ⟨L, D, B, ha, cs, e, h1, h2, h3, h4, h5, h6, h7, h8⟩ := b
  exact ⟨L, D, B, ha, cs, e, s _ _ h1, s _ _ h2, h3, fun j a h => s _ _ (h4 j a h), s _ _ h5, h6, fun j v h => (h7 j v h).tups fun _ _ e => s _ _ e, h8⟩
section
variable {P : Program} {w : World} {K : PySem.W.Frag} {mg : Str → Option Value} {base : Heap}
def spTold (K : PySem.W.Frag) (C tC cC vC : Addr) : Sp := fun vs H Q _ => ∃ (lr : Addr) (ss : List Int) (gs : List GS) (g : GS) (os us : List Op) (m : Int), vs = [.ref lr] ∧ LiE C tC cC vC ss H lr gs g os us ∧ GI g.ds.length m g ∧ g.ds.length ≤ 8 ∧ ∀ H' L, Same H H' → H L = none → TV (fun a => H a = none) H' (.ref L) g → Q (.ref L) H'
theorem ok_told (T : Tx K mg) : FnOk P w K mg base CX0 6 T.a_ltold T.d_ltold P_ltold (spTold K T.C T.tC T.cC T.vC) := by
  refine T.F_ltold.ok sc_ltold (fun vs H Q E h => ?_) (fun cdv A outer s0 H vs Q E hr h => ?_)
  · obtain ⟨lr, ss, gs, g, os, us, m, rfl, _⟩ := h
    rfl
  · obtain ⟨lr, ss, gs, g, os, us, m, rfl, I, G, l8, q⟩ := h
    have nd := sc_ltold.nd
    refine ⟨_, pss_one (ps_ret (pe_lst (pa_cons (pe_prop (pv 0) T.clv T.q_vtoday (ok_today T) (hr.mono (by decide : 2 ≤ 5)) T.b_vtoday .nil pass0 rfl) (pa_cons (pe_callB (call_lenI T.lenV T.lenVF ((ok_vlen T).raw T.b_vlen .nil) hr pass0) (by rfl) T.z_len PySem.boot_len (pa_cons (pv 0) pa_nil))
      (pa_cons (pe_lc (own := [("_law_heap", 1)]) rfl nd (pi_list (pe_prop (pv 0) T.clv T.q_vwaiting_books (ok_wait T) (hr.mono (by decide : 2 ≤ 5)) T.b_vwaiting_books .nil pass0 rfl)) (blkOk_by (N := N_ltold) (sc := defScope s_ltold) (by decide +kernel)) (fun _ _ _ _ _ => pg_name (i := 1) nd rfl (.inl rfl)) (fun _ _ _ _ _ => pts_nil) (fun _ _ _ _ _ => pe_callTy (T := "list") (call_listK (K := K) rfl) (by rfl) T.z_list (by decide +kernel) (pa_cons (pv 1) pa_nil)))
      (pa_cons (pe_prop (pv 0) T.clv T.q_vbeing_read (ok_read T) (hr.mono (by decide : 2 ≤ 5)) T.b_vbeing_read .nil pass0 rfl) pa_nil)))))), ?_⟩
    have I0 := I
    obtain ⟨dxl, co, dxc, tt, ot, ut, tb, tabs, opl, und, I1⟩ := I0
    have lb : (bks g.t.hp g.t.cu g.ds.length).length ≤ 12 := by
      rw [bks_bk2 G.rs]
      exact G.ct
    refine ⟨_, rfl, lr, dxl, _, rfl, I1.ob, lr, ss, gs, g, os, us, rfl, I, ?_⟩
    refine ⟨_, rfl, lr, dxl, _, rfl, I1.ob, lr, ss, gs, g, os, us, rfl, I, m, G, fun H1 s1 => ⟨_, rfl, by omega, by omega, ?_⟩⟩
    have I2 := I1.same s1
    refine ⟨_, rfl, lr, dxl, _, rfl, I2.ob, lr, ss, gs, g, os, us, rfl, I.same s1, fun H2 W ha s2 nW gW lW hW => ⟨W, rfl, ⟨_, .of gW⟩, fun D hD => ?_⟩⟩
    refine lc_list (K := K) (a := W) (xs := ha.map V.ref) (fun i H' => Same H2 H' ∧ ∃ ha' : List Addr, H' D = some (.lst (ha'.map V.ref)) ∧ ha'.length = i ∧ (∀ (j : Nat) (a : Addr), ha'[j]? = some a → a ≠ D ∧ H' a = some (.lst ((g.t.hp j).map V.int))) ∧ ∀ a ∈ ha', H a = none)
      ⟨same_upd hD, [], upd_same, rfl, (fun j a h => by simp at h), fun a m => by cases m⟩ (fun i H' _ z => .of (z.1 _ _ gW)) ?_ ?_
    · rintro i x H3 hx ⟨s3, ha', gm, lm, om, fm⟩
      rw [List.getElem?_map] at hx
      obtain ⟨a, ga, rfl⟩ := Option.map_eq_some_iff.mp hx
      have hi : i < g.ds.length := by rw [← lW]; exact (List.getElem?_eq_some_iff.mp ga).1
      have gx := s3 _ _ (hW i a ga)
      refine ⟨rfl, lc_keep ?_⟩
      refine ⟨_, rfl, a, _, rfl, .inr (.of gx), fun L hL => ?_⟩
      have s4 := same_upd (o := .lst ((g.t.hp i).map V.int)) hL
      have nL : L ≠ D := (ne_of_none gm hL).symm
      refine ⟨_, s4 _ _ gm, by rw [List.length_map]; exact small1000 (by omega), fun x o h => (upd_ne (ne_of_none h hD)).trans (s4 _ _ (s3 _ _ h)), ha' ++ [L], by rw [upd_same, List.map_append]; rfl, by rw [List.length_append, lm]; rfl, fun j b h => ?_, fun b m => ?_⟩
      rotate_left
      · rcases List.mem_append.mp m with m | m
        · exact fm b m
        · rw [List.mem_singleton.mp m]
          exact same_noneT ((s1.trans s2).trans s3) hL
      rcases get_snoc h with h | ⟨h1, rfl⟩
      · rw [upd_ne (om j b h).1]
        exact ⟨(om j b h).1, s4 _ _ (om j b h).2⟩
      · rw [upd_ne nL, upd_same, h1, lm]
        exact ⟨nL, rfl⟩
    rintro H3 ⟨s3, ha', gm, lm, om, fm⟩
    rw [List.length_map] at lm
    have s13 := (s1.trans s2).trans s3
    have I3 := I1.same s13
    refine ⟨_, rfl, lr, dxl, _, rfl, I3.ob, lr, ss, gs, g, os, us, rfl, I.same s13, fun H4 B cs s4 nB gB lB hB => ⟨(by show 4 ≤ sizeLine; decide), fun L hL => ?_⟩⟩
    have s5 := same_upd (o := .lst [.int g.t.day, .int ((bks g.t.hp g.t.cu g.ds.length).length : Nat), .ref D, .ref B]) hL
    refine q _ L ((s13.trans s4).trans s5) (same_noneT (s13.trans s4) hL) ⟨L, D, B, ha', cs, rfl, upd_same, s5 _ _ (s4 _ _ gm), lm.trans lW, fun j a h => s5 _ _ (s4 _ _ (om j a h).2), s5 _ _ gB, lB, fun j v h => (hB j v h).tups fun _ _ e => s5 _ _ e, fm⟩
end
end Rp
/-! Kept lambdas, with and without a default value. -/
namespace Rp
open PySem PySem.Spec PyProof.Rows L2 Rl LamX
def lpA : Expr → Arguments
  | .Lambda p _ _ _ => p
  | _ => ⟨[], [], none, [], [], none, []⟩
def lpB : Expr → Expr
  | .Lambda _ b _ _ => b
  | e => e
def lpS : Expr → Scope
  | .Lambda _ _ s _ => s
  | _ => ⟨.function, [], false, false, []⟩
def dfV : Option Addr → Value
  | none => .none
  | some t => .ref t
def mkF (q : Str) (cells : List (Str × Addr)) (e : Expr) (t : Option Addr) (c : Addr) : LF := ⟨q, lpA e, lpB e, lpS e, cloFrom cells (lpS e).names [], dfV t, c⟩
/-- without parameters -/
def Bd0 (e : Expr) : Prop := ∀ (q : Str) (cl : List (Str × Addr)) (c doc pm ctv : Value) (sZ : Shared), BindsTo sZ (PySem.W.kdv_fn "<lambda>" q (lpA e) (.expr (lpB e)) (lpS e) cl .none doc pm c ctv) ⟨[], []⟩ []
/-- one parameter with a default value -/
def Bd1 (e : Expr) : Prop := ∃ x : Str, (lpS e).names.lookup x = some .local ∧ ∀ (q : Str) (cl : List (Str × Addr)) (t : Addr) (c doc pm ctv : Value) (sZ : Shared) (o : Obj) (v : Value) (n : Nat), sZ.heap.get? t = some o → o.data = .seq #[v] n →
  BindsTo sZ (PySem.W.kdv_fn "<lambda>" q (lpA e) (.expr (lpB e)) (lpS e) cl (.ref t) doc pm c ctv) ⟨[], []⟩ [(x, v)]
def GD (e : Expr) (t : Option Addr) (H : Hp) : Prop := match t with
  | none => Bd0 e
  | some t => Bd1 e ∧ H t = some (.tup [.int 0])
/-- f is the lambda e, kept -/
def KLat (q : Str) (cells : List (Str × Addr)) (H : Hp) (e : Expr) (f : Addr) : Prop := ∃ (t : Option Addr) (c : Addr), H f = some (LamO f (mkF q cells e t c)) ∧ H c = some (CodeO c q) ∧ GD e t H
theorem KLat.extN {q : Str} {cells : List (Str × Addr)} {H H' : Hp} {e : Expr} {f : Addr} (k : KLat q cells H e f) (x : ExtN H H') : KLat q cells H' e f := by
  obtain ⟨t, c, h1, h2, h3⟩ := k
  refine ⟨t, c, x _ _ h1 (lamO_ne), x _ _ h2 codeO_ne, ?_⟩
  cases t with
  | none => exact h3
  | some t => exact ⟨h3.1, x _ _ h3.2 (by intro ps z; cases z)⟩
section
variable {X : Cx}
def lFam (X : Cx) (le : Nat → Expr) : Nat × Option Addr × Addr → LF := fun i => mkF (X.env.qual ++ "<lambda>") X.env.cells (le i.1) i.2.1 i.2.2
theorem fam_ok {le : Nat → Expr} (hl : ∀ j, LamP X.N X.env.scope (lpS (le j))) : Fam X (Nat × Option Addr × Addr) (lFam X le) (fun i H => GD (le i.1) i.2.1 H) where
  nm := fun i => hl i.1
  cl := fun _ => rfl
  q := fun _ => rfl
  bind := fun ⟨j, t, c⟩ doc pm ctv sZ HZ hok hg => by
    cases t with
    | none => exact ⟨[], hg _ _ _ _ _ _ _, fun y hy => by cases hy⟩
    | some t =>
      obtain ⟨⟨x, hx, hb⟩, ht⟩ := hg
      obtain ⟨_, its, rv, o, ho, _, n, hd⟩ := hok t _ ht
      cases rv with
      | cons r1 r2 =>
        rename_i v vs
        cases r2
        exact ⟨[(x, v)], hb _ _ _ _ _ _ _ _ _ _ _ ho hd, fun y hy => by
          obtain rfl := List.mem_singleton.mp hy
          exact hx⟩
end
end Rp
/-! xs.count(y) of flat items; what a suite that knows the class of its error wants. -/
namespace Rt
open PySem PySem.Spec PyProof.Rows L2
section
variable {X : Cx}
def rCntV (K : PySem.W.Frag) : V → List V → Hp → VK → Prop := fun x xs H Q => ∃ (p : Addr) (ys : List V) (y : V), x = .ref p ∧ xs = [y] ∧ SqL K H p ys ∧ flatV y = true ∧ ys.all flatV = true ∧ Q (.int (ys.countP (fun z => eqV z y) : Nat)) H
theorem cntV_eq {y : V} : ∀ {ys : List V} {its : List Value}, Vals ys its → ys.all flatV = true → its.countP (eqU y) = ys.countP (fun z => eqV z y)
  | [], _, .nil, _ => rfl
  | z :: ys, _, .cons r rr, f => by
    simp only [List.all_cons, Bool.and_eq_true] at f
    rw [List.countP_cons, List.countP_cons, cntV_eq rr f.2, eqU_of r f.1]
theorem mt_countV : MtR X "list.count" (rCntV X.K) := by
  intro pins s σ H x xs v us Q I rx rxs h
  obtain ⟨p, ys, y, rfl, rfl, hs, fy, fys, q⟩ := h
  cases rx
  cases rxs with
  | cons ry rt =>
    rename_i uy ut
    cases rt
    obtain ⟨its, rv, ⟨⟨cls, dd, data, sl⟩, n, ho, hc, hdn, hd⟩, hlen⟩ := I.list hs
    simp only at hc hd
    subst hc hd
    refine call_meets PySem.F.slot_list_count ⟨_, ho, rfl⟩ PySem.F.entry_list_count (PySem.F.args_list_count_2 _ _)
      (SeqAt.list_countAt p its.toArray n dd sl uy (eqU y)) ⟨ho, fun u' hu' => mem_eqAt ry fy rv fys u' (by simpa using hu'), ?_⟩
    have ec : its.toArray.toList.countP (eqU y) = ys.countP (fun z => eqV z y) := cntV_eq rv fys
    rw [ec]
    exact ⟨.int _, H, I.kept (t' := s.toks + 1) fun _ _ z => z, ⟨_, rfl⟩, q⟩
/-- the classes that the suite asks for -/
structure RdS (K : PySem.W.Frag) (mg : Str → Option Value) where
  k0 : Addr
  k1 : Addr
  k2 : Addr
  k3 : Addr
  k4 : Addr
  k5 : Addr
  cE : Addr
  g0 : mg "BeingRead" = some (.ref k0)
  g1 : mg "InvalidNumber" = some (.ref k1)
  g2 : mg "UnknownBook" = some (.ref k2)
  g3 : mg "Contradiction" = some (.ref k3)
  g4 : mg "InvalidOperation" = some (.ref k4)
  g5 : mg "DiaryError" = some (.ref k5)
  gE : mg "ReadingError" = some (.ref cE)
  zV : mg "ValueError" = none
  zI : mg "isinstance" = none
end
end Rt
/-! _law_raised: the word for a failure. -/
namespace Rp
open PySem PySem.Spec PyProof.Rows L2 Rz Rm Rt Rl LamX
/-- the class at D is the j-th of them -/
structure RdJ {K : PySem.W.Frag} {mg : Str → Option Value} (S : RdS K mg) (D : Addr) (j : Nat) : Prop where
  ex : ExcC K D
  ee : PySem.W.exmOne K (.ref D) (.ref S.cE) = some true
  q0 : PySem.W.kitOne K (.ref D) (.ref S.k0) = some (decide (j = 0))
  q1 : PySem.W.kitOne K (.ref D) (.ref S.k1) = some (decide (j = 1))
  q2 : PySem.W.kitOne K (.ref D) (.ref S.k2) = some (decide (j = 2))
  q3 : PySem.W.kitOne K (.ref D) (.ref S.k3) = some (decide (j = 3))
  q4 : PySem.W.kitOne K (.ref D) (.ref S.k4) = some (decide (j = 4))
  q5 : PySem.W.kitOne K (.ref D) (.ref S.k5) = some (decide (j = 5))
  qv : PySem.W.kitOne K (.ref D) (.type "ValueError") = some true
/-- the classes of errors as the law asks for them -/
structure WdX {K : PySem.W.Frag} {mg : Str → Option Value} (S : RdS K mg) (L : LiX K mg) : Prop where
  e0 : L.CX = S.k0
  e1 : L.CN = S.k1
  e2 : L.CB = S.k2
  r0 : RdJ S S.k0 0
  r1 : RdJ S S.k1 1
  r2 : RdJ S S.k2 2
section
variable {X : Cx} {g f : Addr} {cdg : Value} {s : Shared} {H : Hp} {K : PySem.W.Frag} {mg : Str → Option Value}
abbrev rsCx (X : Cx) (g : Addr) (cdg : Value) (s : Shared) (H : Hp) : Cx := (cxOf C8.CX0 X.prog X.w X.K X.mg X.base N_lraised "_law_raised" (defScope s_lraised) g cdg X.A X.stack s H C8.E0).nox
abbrev rsSuite : List Stmt := match (defBody s_lraised).head? with
  | some (.Try _ [.ExceptHandler _ _ st _] _ _ _) => st
  | _ => []
def L3 (j : Nat) : List V := [.bl (decide (j = 0)), .bl (decide (j = 1)), .bl (decide (j = 2))]
def L6 (j : Nat) : List V := [.bl (decide (j = 0)), .bl (decide (j = 1)), .bl (decide (j = 2)), .bl (decide (j = 3)), .bl (decide (j = 4)), .bl (decide (j = 5))]
/-- the word for a failure -/
def WdTold (wd : Wd) (Q : VK) (H1 : Hp) : Prop := ∀ (p : Addr) (H' : Hp), (∀ b o, H1 b = some o → H' b = some o) → H1 p = none → H' p = some (.tup (wdV wd)) → Q (.ref p) H'
theorem raised_read {S : RdS X.K X.mg} (B : XcF X.K X.mg S.cE S.k0 "book") (R : RdJ S S.k0 0) {a dd : Addr} {oe : Obj} {pn : List (Addr × Obj)} (hz : Zc (.ref S.k0) (some dd) oe) (hf : ∃ vs, oe.data = .fields vs)
    {DD : Ends} {wv y2 : Option V} {H1 : Hp} {Q : VK} {b : Int} (hd : H1 dd = some (.xd [("book", .int b)])) (hrt : DD.rt = Q) (q : WdTold (.read b) Q H1) :
    ∃ t, PSs ((rsCx X g cdg s H).suite a ((a, oe) :: pn)) rsSuite t ∧ t DD [wv, some (.ref a), y2] H1 := by
  have nd := sc_lraised.nd
  subst hrt
  refine ⟨_, pss_cons (ps_set (i := 2) nd rfl (.inl rfl) (pe_lst (pa_cons (pe_callB (call_isF R.ex hz hf) (by rfl) S.zI (by decide +kernel) (pa_cons (pv 1) (pa_cons (pe_glob (v := .ref S.k0) (by rfl) S.g0 rfl) pa_nil))) (pa_cons (pe_callB (call_isF R.ex hz hf) (by rfl) S.zI (by decide +kernel) (pa_cons (pv 1) (pa_cons (pe_glob (v := .ref S.k1) (by rfl) S.g1 rfl) pa_nil))) (pa_cons (pe_callB (call_isF R.ex hz hf) (by rfl) S.zI (by decide +kernel) (pa_cons (pv 1) (pa_cons (pe_glob (v := .ref S.k2) (by rfl) S.g2 rfl) pa_nil))) pa_nil)))))
    (pss_cons (ps_set (i := 2) nd rfl (.inl rfl) (pe_op op_cat (pv 2) (pe_lst (pa_cons (pe_callB (call_isF R.ex hz hf) (by rfl) S.zI (by decide +kernel) (pa_cons (pv 1) (pa_cons (pe_glob (v := .ref S.k3) (by rfl) S.g3 rfl) pa_nil))) (pa_cons (pe_callB (call_isF R.ex hz hf) (by rfl) S.zI (by decide +kernel) (pa_cons (pv 1) (pa_cons (pe_glob (v := .ref S.k4) (by rfl) S.g4 rfl) pa_nil))) (pa_cons (pe_callB (call_isF R.ex hz hf) (by rfl) S.zI (by decide +kernel) (pa_cons (pv 1) (pa_cons (pe_glob (v := .ref S.k5) (by rfl) S.g5 rfl) pa_nil))) pa_nil))))))
    (pss_cons (ps_if (PW.pt (pw_or (pt_cmpR op_ne (pe_bm PySem.F.plainAttrs_list PySem.F.slot_list_count PySem.F.type_list_count mt_countV (pv 2) (pa_cons pe_bl pa_nil)) pe_int (nomark _))
        (pw_or1 (pt_not (pt_val (pe_callB (call_isF R.ex hz hf) (by rfl) S.zI (by decide +kernel) (pa_cons (pv 1) (pa_cons (pe_bltn (v := .ty "ValueError") (u := .type "ValueError") (by rfl) S.zV (by decide +kernel) rfl) pa_nil)))))))) (pss_one ps_never) pss_nil)
    (pss_cons (ps_if (pt_val (pe_ix ix_list (pv 2) pe_int (fun _ _ => rfl))) (pss_one (ps_ret (pe_tup (pa_cons pe_str (pa_cons (pe_xf B.xf B.nx hz hf (pv 1)) pa_nil))))) pss_nil)
    (pss_cons (ps_if (pt_val (pe_ix ix_list (pv 2) pe_int (fun _ _ => rfl))) (pss_one ps_never) pss_nil)
    (pss_cons (ps_if (pt_val (pe_ix ix_list (pv 2) pe_int (fun _ _ => rfl))) (pss_one ps_never) pss_nil)
    pss_never))))), ?_⟩
  refine ⟨.ref a, rfl, ⟨_, hd⟩, .ref S.k0, .ref S.k0, _, rfl, fun u h => h, R.q0, .ref a, rfl, ⟨_, hd⟩, .ref S.k1, .ref S.k1, _, rfl, fun u h => h, R.q1, .ref a, rfl, ⟨_, hd⟩, .ref S.k2, .ref S.k2, _, rfl, fun u h => h, R.q2, (by show 3 ≤ sizeLine; decide), fun p1 hp1 => ?_⟩
  have s1 : ∀ b o, H1 b = some o → (upd H1 p1 (.lst (L3 0))) b = some o := fun b o e => (upd_ne (ne_of_none e hp1)).trans e
  have g1 : (upd H1 p1 (.lst (L3 0))) p1 = some (.lst (L3 0)) := upd_same
  have n0 : ∀ {p : Addr} {H2 : Hp}, (∀ b o, H1 b = some o → H2 b = some o) → H2 p = none → H1 p = none := fun {p H2} k h => by
    cases e : H1 p with
    | none => rfl
    | some o =>
      have := k _ _ e
      rw [h] at this
      cases this
  show tSeq _ _ _ [wv, some (.ref a), some (.ref p1)] (upd H1 p1 (.lst (L3 0)))
  generalize (upd H1 p1 (.lst (L3 0))) = H2 at s1 g1 ⊢
  refine ⟨.ref p1, rfl, .ref a, rfl, ⟨_, s1 _ _ hd⟩, .ref S.k3, .ref S.k3, _, rfl, fun u h => h, R.q3, .ref a, rfl, ⟨_, s1 _ _ hd⟩, .ref S.k4, .ref S.k4, _, rfl, fun u h => h, R.q4, .ref a, rfl, ⟨_, s1 _ _ hd⟩, .ref S.k5, .ref S.k5, _, rfl, fun u h => h, R.q5, (by show 3 ≤ sizeLine; decide), fun p2 hp2 => ?_⟩
  have sa0 : ∀ b o, H2 b = some o → (upd H2 p2 (.lst [.bl (decide (0 = 3)), .bl (decide (0 = 4)), .bl (decide (0 = 5))])) b = some o := fun b o e => (upd_ne (ne_of_none e hp2)).trans e
  have ga0 : (upd H2 p2 (.lst [.bl (decide (0 = 3)), .bl (decide (0 = 4)), .bl (decide (0 = 5))])) p2 = some (.lst [.bl (decide (0 = 3)), .bl (decide (0 = 4)), .bl (decide (0 = 5))]) := upd_same
  generalize (upd H2 p2 (.lst [.bl (decide (0 = 3)), .bl (decide (0 = 4)), .bl (decide (0 = 5))])) = H3 at sa0 ga0 ⊢
  refine ⟨p1, p2, _, _, rfl, rfl, sa0 _ _ g1, ga0, (by show 3 + 3 ≤ sizeLine; decide), fun p3 hp3 => ?_⟩
  have sb0 : ∀ b o, H3 b = some o → (upd H3 p3 (.lst (L6 0))) b = some o := fun b o e => (upd_ne (ne_of_none e hp3)).trans e
  have gb0 : (upd H3 p3 (.lst (L6 0))) p3 = some (.lst (L6 0)) := upd_same
  show tSeq _ _ _ [wv, some (.ref a), some (.ref p3)] (upd H3 p3 (.lst (L6 0)))
  generalize (upd H3 p3 (.lst (L6 0))) = H4 at sb0 gb0 ⊢
  have st0 : ∀ b o, H1 b = some o → H4 b = some o := fun b o e => sb0 _ _ (sa0 _ _ (s1 _ _ e))
  have hcnt : List.countP (fun z => eqV z (.bl true)) (L6 0) = 1 := rfl
  have hflat : (L6 0).all flatV = true := rfl
  refine ⟨.ref p3, rfl, .inl ⟨rfl, _, SqL.of gb0⟩, p3, _, .bl true, rfl, rfl, SqL.of gb0, rfl, hflat, ?_⟩
  rw [hcnt]
  refine ⟨rfl, _, rfl, iteNS rfl ?_⟩
  refine ⟨.ref a, rfl, ⟨_, st0 _ _ hd⟩, .ty "ValueError", .type "ValueError", true, rfl, fun u h => h, R.qv, true, rfl, iteF ?_⟩
  refine ⟨_, rfl, p3, _, 0, _, rfl, rfl, .of gb0, atI_nat (j := 0) rfl, _, rfl, iteT ?_⟩
  refine ⟨.ref a, rfl, rfl, rfl, dd, _, _, rfl, st0 _ _ hd, rfl, (by show 2 ≤ sizeLine; decide), fun p9 hp9 => ?_⟩
  exact q p9 _ (fun b o e => (upd_ne (ne_of_none (st0 b o e) hp9)).trans (st0 b o e)) (n0 st0 hp9) upd_same
theorem raised_word {S : RdS X.K X.mg} {D : Addr} {j : Nat} (R : RdJ S D j) {a : Addr} {oe : Obj} {pn : List (Addr × Obj)} (hz : Zc (.ref D) none oe) (hf : ∃ vs, oe.data = .fields vs)
    {DD : Ends} {wv y2 : Option V} {H1 : Hp} {Q : VK} {wd : Wd} (hw : (j = 1 ∧ wd = .number) ∨ (j = 2 ∧ wd = .book)) (hrt : DD.rt = Q) (q : WdTold wd Q H1) :
    ∃ t, PSs ((rsCx X g cdg s H).suite a ((a, oe) :: pn)) rsSuite t ∧ t DD [wv, some (.ref a), y2] H1 := by
  have nd := sc_lraised.nd
  subst hrt
  refine ⟨_, pss_cons (ps_set (i := 2) nd rfl (.inl rfl) (pe_lst (pa_cons (pe_callB (call_isE R.ex hz hf) (by rfl) S.zI (by decide +kernel) (pa_cons (pv 1) (pa_cons (pe_glob (v := .ref S.k0) (by rfl) S.g0 rfl) pa_nil))) (pa_cons (pe_callB (call_isE R.ex hz hf) (by rfl) S.zI (by decide +kernel) (pa_cons (pv 1) (pa_cons (pe_glob (v := .ref S.k1) (by rfl) S.g1 rfl) pa_nil))) (pa_cons (pe_callB (call_isE R.ex hz hf) (by rfl) S.zI (by decide +kernel) (pa_cons (pv 1) (pa_cons (pe_glob (v := .ref S.k2) (by rfl) S.g2 rfl) pa_nil))) pa_nil)))))
    (pss_cons (ps_set (i := 2) nd rfl (.inl rfl) (pe_op op_cat (pv 2) (pe_lst (pa_cons (pe_callB (call_isE R.ex hz hf) (by rfl) S.zI (by decide +kernel) (pa_cons (pv 1) (pa_cons (pe_glob (v := .ref S.k3) (by rfl) S.g3 rfl) pa_nil))) (pa_cons (pe_callB (call_isE R.ex hz hf) (by rfl) S.zI (by decide +kernel) (pa_cons (pv 1) (pa_cons (pe_glob (v := .ref S.k4) (by rfl) S.g4 rfl) pa_nil))) (pa_cons (pe_callB (call_isE R.ex hz hf) (by rfl) S.zI (by decide +kernel) (pa_cons (pv 1) (pa_cons (pe_glob (v := .ref S.k5) (by rfl) S.g5 rfl) pa_nil))) pa_nil))))))
    (pss_cons (ps_if (PW.pt (pw_or (pt_cmpR op_ne (pe_bm PySem.F.plainAttrs_list PySem.F.slot_list_count PySem.F.type_list_count mt_countV (pv 2) (pa_cons pe_bl pa_nil)) pe_int (nomark _))
        (pw_or1 (pt_not (pt_val (pe_callB (call_isE R.ex hz hf) (by rfl) S.zI (by decide +kernel) (pa_cons (pv 1) (pa_cons (pe_bltn (v := .ty "ValueError") (u := .type "ValueError") (by rfl) S.zV (by decide +kernel) rfl) pa_nil)))))))) (pss_one ps_never) pss_nil)
    (pss_cons (ps_if (pt_val (pe_ix ix_list (pv 2) pe_int (fun _ _ => rfl))) (pss_one ps_never) pss_nil)
    (pss_cons (ps_if (pt_val (pe_ix ix_list (pv 2) pe_int (fun _ _ => rfl))) (pss_one ps_never) pss_nil)
    (pss_cons (ps_if (pt_val (pe_ix ix_list (pv 2) pe_int (fun _ _ => rfl))) (pss_one ps_never) pss_nil)
    (pss_one (ps_ret (pe_tup (pa_cons (pe_ix ix_list (pe_lst (pa_cons pe_str (pa_cons pe_str (pa_cons pe_str (pa_cons pe_str pa_nil))))) (pe_bm PySem.F.plainAttrs_list PySem.F.slot_list_index PySem.F.type_list_index mt_index (pv 2) (pa_cons pe_bl pa_nil)) (fun _ _ => rfl)) pa_nil))))))))), ?_⟩
  refine ⟨.ref a, rfl, .ref S.k0, .ref S.k0, _, rfl, fun u h => h, R.q0, .ref a, rfl, .ref S.k1, .ref S.k1, _, rfl, fun u h => h, R.q1, .ref a, rfl, .ref S.k2, .ref S.k2, _, rfl, fun u h => h, R.q2, (by show 3 ≤ sizeLine; decide), fun p1 hp1 => ?_⟩
  have s1 : ∀ b o, H1 b = some o → (upd H1 p1 (.lst (L3 j))) b = some o := fun b o e => (upd_ne (ne_of_none e hp1)).trans e
  have g1 : (upd H1 p1 (.lst (L3 j))) p1 = some (.lst (L3 j)) := upd_same
  have n0 : ∀ {p : Addr} {H2 : Hp}, (∀ b o, H1 b = some o → H2 b = some o) → H2 p = none → H1 p = none := fun {p H2} k h => by
    cases e : H1 p with
    | none => rfl
    | some o =>
      have := k _ _ e
      rw [h] at this
      cases this
  show tSeq _ _ _ [wv, some (.ref a), some (.ref p1)] (upd H1 p1 (.lst (L3 j)))
  generalize (upd H1 p1 (.lst (L3 j))) = H2 at s1 g1 ⊢
  refine ⟨.ref p1, rfl, .ref a, rfl, .ref S.k3, .ref S.k3, _, rfl, fun u h => h, R.q3, .ref a, rfl, .ref S.k4, .ref S.k4, _, rfl, fun u h => h, R.q4, .ref a, rfl, .ref S.k5, .ref S.k5, _, rfl, fun u h => h, R.q5, (by show 3 ≤ sizeLine; decide), fun p2 hp2 => ?_⟩
  have sa0 : ∀ b o, H2 b = some o → (upd H2 p2 (.lst [.bl (decide (j = 3)), .bl (decide (j = 4)), .bl (decide (j = 5))])) b = some o := fun b o e => (upd_ne (ne_of_none e hp2)).trans e
  have ga0 : (upd H2 p2 (.lst [.bl (decide (j = 3)), .bl (decide (j = 4)), .bl (decide (j = 5))])) p2 = some (.lst [.bl (decide (j = 3)), .bl (decide (j = 4)), .bl (decide (j = 5))]) := upd_same
  generalize (upd H2 p2 (.lst [.bl (decide (j = 3)), .bl (decide (j = 4)), .bl (decide (j = 5))])) = H3 at sa0 ga0 ⊢
  refine ⟨p1, p2, _, _, rfl, rfl, sa0 _ _ g1, ga0, (by show 3 + 3 ≤ sizeLine; decide), fun p3 hp3 => ?_⟩
  have sb0 : ∀ b o, H3 b = some o → (upd H3 p3 (.lst (L6 j))) b = some o := fun b o e => (upd_ne (ne_of_none e hp3)).trans e
  have gb0 : (upd H3 p3 (.lst (L6 j))) p3 = some (.lst (L6 j)) := upd_same
  show tSeq _ _ _ [wv, some (.ref a), some (.ref p3)] (upd H3 p3 (.lst (L6 j)))
  generalize (upd H3 p3 (.lst (L6 j))) = H4 at sb0 gb0 ⊢
  have st0 : ∀ b o, H1 b = some o → H4 b = some o := fun b o e => sb0 _ _ (sa0 _ _ (s1 _ _ e))
  have hj : j = 1 ∨ j = 2 := hw.elim (fun h => .inl h.1) fun h => .inr h.1
  have hcnt : List.countP (fun z => eqV z (.bl true)) (L6 j) = 1 := by
    rcases hj with rfl | rfl <;> rfl
  have hflat : (L6 j).all flatV = true := rfl
  have hget : (L6 j)[j]? = some (.bl true) := by
    rcases hj with rfl | rfl <;> rfl
  have hno : ∀ (m : Nat) (z' : V), m < j → (L6 j)[m]? = some z' → eqV z' (.bl true) = false := by
    intro m z' hm e
    have hm' : m = 0 ∨ m = 1 := by omega
    have ez : z' = .bl (decide (j = m)) := by
      rcases hm' with rfl | rfl <;> (cases e; rfl)
    rw [ez, decide_eq_false (by omega)]
    rfl
  refine ⟨.ref p3, rfl, .inl ⟨rfl, _, SqL.of gb0⟩, p3, _, .bl true, rfl, rfl, SqL.of gb0, rfl, hflat, ?_⟩
  rw [hcnt]
  refine ⟨rfl, _, rfl, iteNS rfl ?_⟩
  refine ⟨.ref a, rfl, .ty "ValueError", .type "ValueError", true, rfl, fun u h => h, R.qv, true, rfl, iteF ?_⟩
  have f0 : decide (j = 0) = false := decide_eq_false (by omega)
  have f4 : decide (j = 4) = false := decide_eq_false (by omega)
  have f5 : decide (j = 5) = false := decide_eq_false (by omega)
  refine ⟨_, rfl, p3, _, 0, .bl (decide (j = 0)), rfl, rfl, .of gb0, atI_nat (j := 0) rfl, decide (j = 0), rfl, ?_⟩
  rw [f0]
  refine iteF ?_
  refine ⟨_, rfl, p3, _, 4, .bl (decide (j = 4)), rfl, rfl, .of gb0, atI_nat (j := 4) rfl, decide (j = 4), rfl, ?_⟩
  rw [f4]
  refine iteF ?_
  refine ⟨_, rfl, p3, _, 5, .bl (decide (j = 5)), rfl, rfl, .of gb0, atI_nat (j := 5) rfl, decide (j = 5), rfl, ?_⟩
  rw [f5]
  refine iteF ?_
  refine ⟨(by show 4 ≤ sizeLine; decide), fun p8 hp8 => ?_⟩
  have s5 : ∀ b o, H4 b = some o → (upd H4 p8 (.lst [.str "read", .str "number", .str "book", .str "contradiction"])) b = some o := fun b o e => (upd_ne (ne_of_none e hp8)).trans e
  have g8 : (upd H4 p8 (.lst [.str "read", .str "number", .str "book", .str "contradiction"])) p8 = some (.lst [.str "read", .str "number", .str "book", .str "contradiction"]) := upd_same
  have gb5 := s5 _ _ gb0
  refine ⟨.ref p3, rfl, .inl ⟨rfl, _, SqL.of gb5⟩, p3, _, .bl true, j, .bl true, rfl, rfl, SqL.of gb5, rfl, hflat, hget, rfl, hno, ?_⟩
  have hnm : ∃ x, atI ([.str "read", .str "number", .str "book", .str "contradiction"] : List V) ((j : Nat) : Int) = some x ∧ wdV wd = [x] := by
    rcases hw with ⟨rfl, rfl⟩ | ⟨rfl, rfl⟩
    · exact ⟨_, rfl, rfl⟩
    · exact ⟨_, rfl, rfl⟩
  obtain ⟨x, hx, ex⟩ := hnm
  refine ⟨p8, _, _, x, rfl, rfl, .of g8, hx, (by show 1 ≤ sizeLine; decide), fun p9 hp9 => ?_⟩
  have st1 : ∀ b o, H1 b = some o → (upd H4 p8 (.lst [.str "read", .str "number", .str "book", .str "contradiction"])) b = some o := fun b o e => s5 _ _ (st0 _ _ e)
  exact q p9 _ (fun b o e => (upd_ne (ne_of_none (st1 b o e) hp9)).trans (st1 b o e)) (n0 st1 hp9) (by rw [ex]; exact upd_same)
/-- how it ends: None, or the word for a failure -/
def RsW {K : PySem.W.Frag} {mg : Str → Option Value} (L : LiX K mg) (Q : VK) : XK := fun cls d H => ∃ wd, ErrV L cls d H wd ∧ WdTold wd Q H
def TRsW {K : PySem.W.Frag} {mg : Str → Option Value} (L : LiX K mg) : (XK → Hp → VK → Prop) → Hp → VK → Prop := fun tl H Q => ∀ E : XK, (∀ cls d H', RsW L Q cls d H' → E cls d H') → tl E H fun _ H' => Q .non H'
theorem gives_raisedW {S : RdS X.K X.mg} {L : LiX X.K X.mg} (W : WdX S L) (eC : L.cE = S.cE) : GivesV X N_lraised "_law_raised" (defScope s_lraised) g cdg (defBody s_lraised) "_law_work" (TRsW L) := by
  intro f RR s H Q tl hact hR ht
  have nd := sc_lraised.nd
  refine ⟨_, pss_cons (ps_try_as (i := 1) (c := .ref S.cE) (Wout := fun _ _ _ _ => False)
    (ts := fun a cls d DD σ1 H1 => ∀ (oe : Obj) (pn : List (Addr × Obj)), Zc cls d oe → (∃ vs, oe.data = .fields vs) → ∃ t, PSs ((rsCx X g cdg s H).suite a ((a, oe) :: pn)) rsSuite t ∧ t DD σ1 H1)
    rfl rfl nd rfl rfl ⟨rfl, by decide, Or.inl S.gE⟩ LamX.takes0
    (fun W pn xe tk _ => pss_one (ps_expr (hact W pn xe _ _ tk)))
    (fun a oe cls d pn hz hf => ⟨fun pins s1 σ1 H1 DD I h => by
      obtain ⟨t, ht, hh⟩ := h oe pn hz hf
      exact ht.run pins s1 σ1 H1 DD I hh⟩)) (pss_one (ps_ret pe_non)), ?_⟩
  refine ⟨rfl, hR, ht _ fun cls d H' hto => ?_⟩
  obtain ⟨wd, he, q⟩ := hto
  cases wd with
  | number =>
    obtain ⟨rfl, rfl⟩ := he
    rw [W.e1]
    refine ⟨true, W.r1.ee, fun _ a ha oe pn hz hf => ?_, fun z => Bool.noConfusion z⟩
    exact raised_word W.r1 hz hf (.inl ⟨rfl, rfl⟩) rfl q
  | book =>
    obtain ⟨rfl, rfl⟩ := he
    rw [W.e2]
    refine ⟨true, W.r2.ee, fun _ a ha oe pn hz hf => ?_, fun z => Bool.noConfusion z⟩
    exact raised_word W.r2 hz hf (.inr ⟨rfl, rfl⟩) rfl q
  | read b =>
    obtain ⟨rfl, dd, rfl, hd⟩ := he
    have B := L.BX
    rw [W.e0, eC] at B
    rw [W.e0]
    refine ⟨true, W.r0.ee, fun _ a ha oe pn hz hf => ?_, fun z => Bool.noConfusion z⟩
    exact raised_read B W.r0 hz hf hd rfl q
end
end Rp
/-! xs != [] for a list of anything. -/
namespace Rz
open PySem PySem.Spec PyProof.Rows L2
section
variable {X : Cx}
def rNeL (K : PySem.W.Frag) : R2 := fun x y H Q => ∃ a b xs, x = .ref a ∧ y = .ref b ∧ SqL K H a xs ∧ SqL K H b [] ∧ Q (.bl (decide (xs ≠ []))) H
theorem op_neL (hu : X.A.units + 64 < cLine) : OpR X (compareOp .NotEq) (rNeL X.K) := by
  intro pins s σ H x y v u Q I rx ry h
  obtain ⟨a, b, xs, rfl, rfl, ha, hb, q⟩ := h
  obtain rfl : v = Value.ref a := rx
  obtain rfl : u = Value.ref b := ry
  obtain ⟨its, rv, ⟨o, n, ho, hc, h1, hd⟩, _⟩ := I.list ha
  obtain ⟨its2, rv2, ⟨o2, n2, ho2, hc2, h2, hd2⟩, _⟩ := I.list hb
  have hl : s.heap.IsList a its.toArray := ⟨o, ho, hc, n, hd⟩
  have hl2 : s.heap.IsList b its2.toArray := ⟨o2, ho2, hc2, n2, hd2⟩
  have hu1 : X.A.units < cLine := by omega
  cases rv2
  cases rv with
  | nil => exact SeqAt.RcNeAt.lists (e := fun _ => true) hl hl2 rfl hu1 (fun j h1 _ => absurd h1 (Nat.not_lt_zero _)) _ _ _ _ ⟨.bl false, H, I, rfl, q⟩
  | cons r rr => exact SeqAt.RcNeAt.lists_lengths hl hl2 rfl hu1 _ _ _ _ ⟨.bl true, H, I, rfl, q⟩
end
end Rz
/-! with o: .., o of an own class, nothing raised. -/
namespace Rz
open PySem PySem.Spec PyProof.Rows L2
section
variable {X : Cx}
/-- with e: body; the end calls __exit__ whatever the body comes to -/
def tWith (C : Addr) (spE spX : Sp) (E : XK) (te : TE) (tb : TS) : TS := fun D σ H => te σ H fun x H1 => ∃ (a dx : Addr) (fs : List (Str × V)), x = .ref a ∧ H1 a = some (.ins C dx fs) ∧ spE [.ref a] H1 (fun _ H2 =>
  tb { nx := fun σ' H' => spX [.ref a, .non, .non, .non] H' (fun _ H4 => D.nx σ' H4) E, rt := fun v H' => spX [.ref a, .non, .non, .non] H' (fun _ H4 => D.rt v H4) E } σ H2) E
theorem ps_with0 {CX : CXT} {kE kX : Nat} {C fe fx : Addr} {spE spX : Sp} {E : XK} {ctx : Expr} {body : List Stmt} {pos : Pos} {te : TE} {tb : TS} (hxe : X.xe = fun _ _ => False) (he : PE X ctx te)
    (hE : PySem.W.findIn X.K (.ref C) "__enter__" = some (some (.ref fe))) (hEf : PySem.W.isFn X.K (.ref fe) = true) (hX : PySem.W.findIn X.K (.ref C) "__exit__" = some (some (.ref fx))) (hXf : PySem.W.isFn X.K (.ref fx) = true)
    (FE : FnR X.prog X.w X.K X.mg X.base CX kE fe spE) (FX : FnR X.prog X.w X.K X.mg X.base CX kX fx spX) (hrE : Room kE X.A) (hrX : Room kX X.A) (hp : Passes CX X E) (hb : PSs X body tb) : PS X (.With [⟨ctx, none⟩] body pos) (tWith C spE spX E te tb) := by
  refine ⟨fun pins s σ H D I h => ?_⟩
  refine PySem.W.kw_exec0 (thn (he.run pins s σ H _ I h) fun u s1 ⟨x, H1, I1, rx, a, dx, fs, ex, ha, q⟩ => ?_)
  subst ex
  obtain rfl : u = Value.ref a := rx
  obtain ⟨mA, O, _⟩ := ins_get I1.hok ha
  obtain ⟨od, J, _⟩ := O.look
  obtain ⟨m, hF⟩ := I1.fr
  refine PySem.W.kw_in0 hF I1.ok.mod.kin J hE hEf hX hXf (wpAny_mono (run_here FE hrE hp I1 (vs := [.ref a]) (.cons rfl .nil) q) (fun r s2 z => ?_) fun _ _ e => e)
  obtain ⟨v', H2, I2, rv, q'⟩ := z
  refine wpAny_mono (hb.run pins s2 σ H2 _ I2 q') (fun f s3 z => ?_) (fun e s z => by rw [hxe] at z; exact z)
  have out : ∀ (σ' : L2.St) (H' : Hp) (G : Hp → Prop) (F : Shared → Prop), Inv X pins σ' H' s3 → spX [.ref a, .non, .non, .non] H' (fun _ H4 => G H4) E → (∀ H4 s4, Inv X pins σ' H4 s4 → G H4 → F s4) → wpAny (model X.prog X.w) X.A (call (.ref fx) [.ref a, .none, .none, .none]) (fun _ s5 => F s5) X.xe s3 := fun σ' H' G F I3 q3 k =>
    wpAny_mono (run_here FX hrX hp I3 (vs := [.ref a, .non, .non, .non]) (.cons rfl (.cons rfl (.cons rfl (.cons rfl .nil)))) q3) (fun r s4 z => by
      obtain ⟨v4, H4, I4, _, q4⟩ := z
      exact k H4 s4 I4 q4) fun _ _ e => e
  cases f with
  | next =>
    obtain ⟨σ', H3, I3, q3⟩ := z
    exact out σ' H3 (D.nx σ') (SP X pins D .next) I3 q3 fun H4 s4 I4 g => ⟨σ', H4, I4, g⟩
  | ret u =>
    obtain ⟨v, σ', H3, I3, r3, q3⟩ := z
    exact out σ' H3 (D.rt v) (SP X pins D (.ret u)) I3 q3 fun H4 s4 I4 g => ⟨v, σ', H4, I4, r3, g⟩
  | brk =>
    obtain ⟨σ', H3, I3, q3⟩ := z
    exact q3.elim
  | cont =>
    obtain ⟨σ', H3, I3, q3⟩ := z
    exact q3.elim
end
end Rz
/-! Live rings: apply of many operations. -/
namespace Rp
open PySem PySem.Spec PyProof.Rows L2 Rz Rm Rl
section
variable {P : Program} {w : World} {K : PySem.W.Frag} {mg : Str → Option Value} {base : Heap}
/-- all that is known of a def -/
def spMax (P : Program) (w : World) (K : PySem.W.Frag) (mg : Str → Option Value) (base : Heap) (f : Addr) : Sp := fun vs H Q E => ∃ sp, FnR P w K mg base (L2.CX P w) 7 f sp ∧ sp vs H Q E
theorem max_ok (f : Addr) : FnR P w K mg base (L2.CX P w) 7 f (spMax P w K mg base f) := fun A outer s H us vs Q E hr e0 r ⟨sp, F, h⟩ => F A outer s H us vs Q E hr e0 r h
def SMax (P : Program) (w : World) (K : PySem.W.Frag) (mg : Str → Option Value) (base : Heap) (f : Addr) : Option Sp := if PySem.W.keepIn K (.ref f) = true then some (spMax P w K mg base f) else none
/-- what an operation does to a table: after a success post holds, or E -/
def ActP (P : Program) (w : World) (base : Heap) (T : Tx K mg) (X : Ax w T) (E : XK) (Hs : Hp) (o : Op) (g : GS) (post : GS → Int ⊕ List (List Int) → Prop) : Prop :=
  ∃ (fo : Addr) (spo : Sp) (nm : Str) (as : List Int), opV o = .str nm :: as.map V.int ∧ as.length ≤ 2 ∧ FnR P w K mg base (L2.CX P w) 7 fo spo ∧ PySem.W.keepIn K (.ref fo) = true ∧ PySem.W.nsIn K X.dA nm = some (some (.ref fo)) ∧
    ∀ (ss : List Int) (H1 : Hp) (t2 dxt2 p dx td ts hl2 cl2 : Addr) (ha : List Addr) (cs : List V), Same Hs H1 → LvT T.C T.tC H1 t2 dxt2 p dx td ts hl2 cl2 ha cs g.ds ss g.t.day g.coming g.t.hp g.t.cu → ∀ Q2 : VK,
      (∀ v H2 g' r p' dx' td' ts' ha' cs', post g' r → KT t2 hl2 cl2 H1 H2 → LvT T.C T.tC H2 t2 dxt2 p' dx' td' ts' hl2 cl2 ha' cs' g'.ds ss g'.t.day g'.coming g'.t.hp g'.t.cu → RvN v H1 H2 r → Q2 v H2) → spo (.ref t2 :: as.map V.int) H1 Q2 E
/-- what many operations come to: the tables before each, the last one, the results -/
def GoN (A : Op → GS → (GS → Int ⊕ List (List Int) → Prop) → Prop) : List Op → GS → (List GS → GS → List (Int ⊕ List (List Int)) → Prop) → Prop
  | [], g, F => F [] g []
  | o :: r, g, F => ∃ post, A o g post ∧ ∀ g' x, post g' x → GoN A r g' fun gs gF xs => F (g :: gs) gF (x :: xs)
theorem GoN.imp {A : Op → GS → (GS → Int ⊕ List (List Int) → Prop) → Prop} : ∀ {os : List Op} {g : GS} {F F' : List GS → GS → List (Int ⊕ List (List Int)) → Prop}, GoN A os g F → (∀ a b c, F a b c → F' a b c) → GoN A os g F'
  | [], _, _, _, h, k => k _ _ _ h
  | o :: r, g, _, _, ⟨post, h1, h2⟩, k => ⟨post, h1, fun g' x hp => (h2 g' x hp).imp fun a b c z => k _ _ _ z⟩
/-- a table whose lists are not L -/
def TbF (C tC : Addr) (ss : List Int) (L : Addr) (H : Hp) (tb : Addr) (g : GS) : Prop := ∃ (dxt p dx td ts hl cl : Addr) (ha : List Addr) (cs : List V), LvT C tC H tb dxt p dx td ts hl cl ha cs g.ds ss g.t.day g.coming g.t.hp g.t.cu ∧ hl ≠ L ∧ cl ≠ L
/-- a result that is no list of before, and not L -/
def RvL (H0 : Hp) (L : Addr) (H : Hp) (v : V) : Int ⊕ List (List Int) → Prop
  | .inl i => v = .int i
  | .inr ls => ∃ (le : Addr) (xs : List V), v = .ref le ∧ le ≠ L ∧ H0 le = none ∧ H le = some (.lst xs) ∧ Tups H xs ls
/-- all but instances and L stays -/
def KpL (L : Addr) (H H' : Hp) : Prop := ∀ b o, H b = some o → b ≠ L → H' b = some o
theorem TbF.kp {C tC : Addr} {ss : List Int} {L : Addr} {H H' : Hp} {tb : Addr} {g : GS} (b : TbF C tC ss L H tb g) (k : KpL L H H') {zs : List V} (hL : H L = some (.lst zs)) : TbF C tC ss L H' tb g := by
  obtain ⟨dxt, p, dx, td, ts, hl, cl, ha, cs, M, n1, n2⟩ := b
  have kn : ∀ {x o}, H x = some o → (∀ l, o ≠ .lst l) → H' x = some o := fun {x o} e n => k _ _ e fun z => by
    rw [z, hL] at e
    exact n _ (Option.some.inj e).symm
  exact ⟨dxt, p, dx, td, ts, hl, cl, ha, cs, ⟨kn M.ob (fun _ z => by cases z), ⟨kn M.R.ob (fun _ z => by cases z), kn M.R.td (fun _ z => by cases z), kn M.R.ts (fun _ z => by cases z), M.R.ok⟩, k _ _ M.fh n1, M.lh, fun j a h => kn (M.hv j a h) (fun _ z => by cases z), k _ _ M.fc n2, M.lc, fun j v h => (M.cv j v h).tups fun c ys e => kn e (fun _ z => by cases z), M.ne, M.sm⟩, n1, n2⟩
theorem RvL.kp {H0 H H' : Hp} {L : Addr} {v : V} {r : Int ⊕ List (List Int)} (b : RvL H0 L H v r) (k : KpL L H H') {zs : List V} (hL : H L = some (.lst zs)) : RvL H0 L H' v r := by
  cases r with
  | inl i => exact b
  | inr ls =>
    obtain ⟨le, xs, e, n, h0, h1, h2⟩ := b
    exact ⟨le, xs, e, n, h0, k _ _ h1 n, h2.mono fun c ys e => k _ _ e (ne_of e hL (by intro z; cases z))⟩
theorem OpAt.kpl {H H' : Hp} {L : Addr} {v : V} {o : Op} (b : OpAt H v o) (k : KpL L H H') {zs : List V} (hL : H L = some (.lst zs)) : OpAt H' v o := by
  obtain ⟨a, e, h⟩ := b
  exact ⟨a, e, k _ _ h (ne_of h hL (by intro z; cases z))⟩
theorem opv_ok {T : Tx K mg} (X : Ax w T) {H : Hp} {a : Addr} {o : Op} (h : H a = some (.tup (opV o))) : OpV K X.dB H (.ref a) true := by
  have go : ∀ (nm : Str) (as : List Int) (n : Int), opV o = .str nm :: as.map V.int → PyData.canLay0 (.str nm) = true → (∃ tk : Tok, PySem.W.nsIn K X.dB nm = some (some (.int n tk))) → (as.length : Int) = n → OpV K X.dB H (.ref a) true := fun nm as n e hn ⟨tk, hB⟩ hl => by
    rw [e] at h
    exact .inl ⟨a, nm, as.map V.int, as.map PyData.int, _, rfl, h, .tup (.of h) (.cons (.str _) (dp_is _)), sh_op hn, hB, (fun z => by cases z), fun u hu => ⟨_, tk, (Option.some.inj hu).symm, by rw [List.length_map]; exact (decide_eq_true (by omega)).symm⟩⟩
  cases o with
  | pass n => exact go "pass_days" [(n : Int)] 1 rfl (by decide +kernel) X.pB rfl
  | add n => exact go "add" [(n : Int)] 1 rfl (by decide +kernel) X.aB rfl
  | setd n d => exact go "set_days" [(n : Int), d] 2 rfl (by decide +kernel) X.sB rfl
  | take n => exact go "take" [n] 1 rfl (by decide +kernel) X.tB rfl
/-- the loop's hold -/
structure Lp (C tC cC : Addr) (ss : List Int) (L : Addr) (H0 H : Hp) (c2 : Addr) (gs : List GS) (g : GS) (os us : List Op) (rs : List V) (xs : List (Int ⊕ List (List Int))) : Prop where
  co : ∃ dx2 tt2 ot2 ut2 tb2 tabs opl und, Co cC H c2 dx2 tt2 ot2 ut2 (tabs ++ [tb2]) opl und ∧ Paired (TbF C tC ss L H) tabs gs ∧ TbF C tC ss L H tb2 g ∧ Paired (OpAt H) opl os ∧ Paired (OpAt H) und us
  gL : H L = some (.lst rs)
  rv : Paired (RvL H0 L H) rs xs
  kp : ∀ b o, H0 b = some o → H b = some o
def spApN (P : Program) (w : World) (base : Heap) (T : Tx K mg) (X : Ax w T) : Sp := fun vs H Q E => ∃ (lr ot0 dxl co : Addr) (kept : V) (opvs : List V) (ss : List Int) (gs : List GS) (g : GS) (os us os2 : List Op) (F : List GS → GS → List (Int ⊕ List (List Int)) → Prop), vs = [.ref lr, .ref ot0] ∧ H ot0 = some (.tup opvs) ∧ Paired (OpAt H) opvs os2 ∧
  H lr = some (.ins T.vC dxl (liF co kept)) ∧ (∃ dxc tt ot ut tb tabs opl und, Co T.cC H co dxc tt ot ut (tabs ++ [tb]) opl und ∧ Paired (TbG T.C T.tC ss H) tabs gs ∧ TbG T.C T.tC ss H tb g ∧ Paired (OpAt H) opl os ∧ Paired (OpAt H) und us) ∧
  gs.length + os2.length ≤ 700 ∧ os.length + os2.length ≤ 700 ∧ GoN (ActP P w base T X E H) os2 g F ∧
  ∀ gs' gF xs H' L rs c2 us', F gs' gF xs → (∀ b o, H b = some o → b ≠ lr → H' b = some o) → H L = none → H' L = some (.lst rs) → Paired (RvL H L H') rs xs → H' lr = some (.ins T.vC dxl (liF c2 kept)) → (os2 = [] → us' = us) → (os2 ≠ [] → us' = []) →
    (∃ dxc tt ot ut tb tabs opl und, Co T.cC H' c2 dxc tt ot ut (tabs ++ [tb]) opl und ∧ Paired (TbF T.C T.tC ss L H') tabs (gs ++ gs') ∧ TbF T.C T.tC ss L H' tb gF ∧ Paired (OpAt H') opl (os ++ os2) ∧ Paired (OpAt H') und us') → Q (.ref L) H'
def spApNR (P : Program) (w : World) (base : Heap) (T : Tx K mg) (X : Ax w T) : Sp := fun vs H Q E => ∃ ws rest, vs = ws ++ rest ∧ ws.length = (["self"] : List Str).length ∧ rest.length ≤ sizeLine ∧ ∀ p, H p = Option.none → spApN P w base T X (ws ++ [V.ref p]) (upd H p (.tup rest)) Q E
end
end Rp
/-! Live rings: apply of many operations, done. -/
namespace Rp
open PySem PySem.Spec PyProof.Rows L2 Rz Rm Rl
theorem paired_at {α β : Type} {R : α → β → Prop} : ∀ {xs : List α} {ys : List β} {i : Nat} {x : α}, Paired R xs ys → xs[i]? = some x → ∃ y, ys[i]? = some y ∧ R x y
  | _, _, 0, _, .cons r _, h => by
    cases h
    exact ⟨_, rfl, r⟩
  | _, _, i + 1, _, .cons _ t, h => paired_at (i := i) t h
section
variable {C tC vC lr dxl L : Addr} {ss : List Int} {H0 H H' : Hp}
theorem TbF.keep {fs : List (Str × V)} {co : Addr} {kept : V} {tb : Addr} {g : GS} (b : TbF C tC ss L H tb g) (hr : H lr = some (.ins vC dxl (liF co kept))) (k : KeepL lr H H') : TbF C tC ss L H' tb g := by
  obtain ⟨dxt, p, dx, td, ts, hl, cl, ha, cs, M, n1, n2⟩ := b
  have tk : ∀ c ys, H c = some (.tup ys) → H' c = some (.tup ys) := fun c ys e => k _ _ e (ne_of e hr (by intro z; cases z))
  have tl : ∀ {c ys}, H c = some (.lst ys) → H' c = some (.lst ys) := fun {c ys} e => k _ _ e (ne_of e hr (by intro z; cases z))
  have nt : tb ≠ lr := fun z => by
    have h1 := M.ob
    rw [z, hr] at h1
    have h2 := Option.some.inj h1
    injection h2 with _ _ h3
    cases h3
  have np : p ≠ lr := fun z => by
    have h1 := M.R.ob
    rw [z, hr] at h1
    have h2 := Option.some.inj h1
    injection h2 with _ _ h3
    have h5 := flds_days td ts
    rw [← h3] at h5
    cases h5
  exact ⟨dxt, p, dx, td, ts, hl, cl, ha, cs, ⟨k _ _ M.ob nt, ⟨k _ _ M.R.ob np, tk _ _ M.R.td, tk _ _ M.R.ts, M.R.ok⟩, tl M.fh, M.lh, fun j a h => tk _ _ (M.hv j a h), tl M.fc, M.lc, fun j v h => (M.cv j v h).tups tk, M.ne, M.sm⟩, n1, n2⟩
theorem RvL.keep {fs : List (Str × V)} {v : V} {r : Int ⊕ List (List Int)} (b : RvL H0 L H v r) (hr : H lr = some (.ins vC dxl fs)) (k : KeepL lr H H') : RvL H0 L H' v r := by
  cases r with
  | inl i => exact b
  | inr ls =>
    obtain ⟨le, xs, e, n, h0, h1, h2⟩ := b
    exact ⟨le, xs, e, n, h0, k _ _ h1 (ne_of h1 hr (by intro z; cases z)), h2.mono fun c ys e => k _ _ e (ne_of e hr (by intro z; cases z))⟩
theorem TbG.far {tb : Addr} {g : GS} (b : TbG C tC ss H tb g) (h : H L = none) : TbF C tC ss L H tb g := by
  obtain ⟨dxt, p, dx, td, ts, hl, cl, ha, cs, M⟩ := b
  exact ⟨dxt, p, dx, td, ts, hl, cl, ha, cs, M, ne_of_none M.fh h, ne_of_none M.fc h⟩
theorem TbF.same {tb : Addr} {g : GS} (b : TbF C tC ss L H tb g) (s : Same H H') : TbF C tC ss L H' tb g := by
  obtain ⟨dxt, p, dx, td, ts, hl, cl, ha, cs, M, n⟩ := b
  exact ⟨dxt, p, dx, td, ts, hl, cl, ha, cs, M.same s, n⟩
theorem OpAt.same {v : V} {o : Op} (b : OpAt H v o) (s : Same H H') : OpAt H' v o := by
  obtain ⟨a, e, h⟩ := b
  exact ⟨a, e, s _ _ h⟩
theorem rvn_l {H1 H2 : Hp} {v : V} {r : Int ⊕ List (List Int)} (b : RvN v H1 H2 r) (s : ∀ b o, H0 b = some o → H1 b = some o) {zs : List V} (hL : H1 L = some (.lst zs)) : RvL H0 L H2 v r := by
  cases r with
  | inl i => exact b
  | inr ls =>
    obtain ⟨le, xs, e, h0, h1, h2⟩ := b
    exact ⟨le, xs, e, (ne_of_none hL h0).symm, same_noneT s h0, h1, h2⟩
theorem TbF.g {tb : Addr} {g : GS} (b : TbF C tC ss L H tb g) : TbG C tC ss H tb g := by
  obtain ⟨dxt, p, dx, td, ts, hl, cl, ha, cs, M, _⟩ := b
  exact ⟨dxt, p, dx, td, ts, hl, cl, ha, cs, M⟩
end
section
variable {P : Program} {w : World} {K : PySem.W.Frag} {mg : Str → Option Value} {base : Heap}
theorem ok_an (T : Tx K mg) (X : Ax w T) : FnR P w K mg base (L2.CX P w) 10 T.a_vapply (spApNR P w base T X) := by
  obtain ⟨esA, nA, DA⟩ := X.DA
  obtain ⟨esB, nB, DB⟩ := X.DB
  obtain ⟨oc, od, kV, doc, pm, an, cdv, ct, osl, e, lk, hcd⟩ := T.F_vapply.ex
  rw [e] at lk
  refine StX.fn_star (ps := ["self"]) (pv := "operations") lk hcd sc_vapply ?_ ?_ ?_
  · exact StX.cxUp
  · exact StX.bind_star1 (B := fun us => bindArgs (PySem.W.fnOf "apply" "LiveRing.apply" (defArgs s_vapply) (defBody s_vapply) (defScope s_vapply) .none kV doc pm an cdv ct) ⟨us, []⟩) (fun a => rfl) (fun a r rs => rfl)
  · intro A outer s H vs Q E hr h
    obtain ⟨lr, ot0, dxl, co, kept, opvs, ss, gs, g, os, us, os2, F, rfl, ho0, pop, hlr, ⟨dxc, tt, ot, ut, tb, tabs, opl, und, O, ptb, ptb1, popl, pund⟩, l1, l2, go, q⟩ := h
    have nd := sc_vapply.nd
    refine ⟨_, pss_cons (ps_for (passes_of rfl) rfl (pi_enumT (by rfl) T.z_enumerate (pa_cons (pv 1) pa_nil)) (pg_tup rfl (pgs_cons (pg_name (i := 2) nd rfl (.inl rfl)) (pgs_cons (pg_name (i := 3) nd rfl (.inl rfl)) pgs_nil)))
        (pss_one (ps_if (pt_not (pt_val (pe_call (ok_isop T X.gB DB) (hr.mono (by omega)) (by rfl) T.g_is_operation T.F_is_operation.kp T.b_is_operation .nil pass0 (pa_cons (pv 3) pa_nil)))) (pss_one ps_never) pss_nil)))
      (pss_cons (ps_set (i := 4) nd rfl (.inl rfl) (pe_fld (pv 0) rfl))
      (pss_cons (ps_set (i := 5) nd rfl (.inl rfl) (pe_lst pa_nil))
      (pss_cons (ps_for (passes_of rfl) rfl (pi_tup (pv 1)) (pg_name (i := 3) nd rfl (.inl rfl))
        (pss_cons (ps_asg (pe_call (E := E) (ok_ex (S := SMax P w K mg base) T X.gA DA (by decide : 3 ≤ 7 + 1) (fun f sp hs => by
          unfold SMax at hs
          split at hs
          · rename_i hk
            cases hs
            exact ⟨max_ok f, hk⟩
          · cases hs)) hr (by rfl) T.g_executed T.F_executed.kp T.b_executed .nil (passes_call (takes_of rfl rfl rfl rfl) (fun _ _ _ _ z => z)) (pa_cons (pv 4) (pa_cons (pv 3) pa_nil))) (pg_tup rfl (pgs_cons (pg_name (i := 6) nd rfl (.inl rfl)) (pgs_cons (pg_name (i := 4) nd rfl (.inl rfl)) pgs_nil))))
        (pss_one (ps_expr (pe_bm PySem.F.plainAttrs_list PySem.F.slot_list_append PySem.F.type_list_append mt_append (pv 5) (pa_cons (pv 6) pa_nil))))))
      (pss_cons (ps_fld (pv 0) (pv 4) rfl) (pss_one (ps_ret (pv 5))))))), ?_⟩
    refine ⟨_, rfl, ot0, _, rfl, .of ho0, for_it walk_enumT (fun i σ H' => (∃ y2 y3, σ = [some (.ref lr), some (.ref ot0), y2, y3, none, none, none]) ∧ Same H H') ⟨⟨none, none, rfl⟩, Same.refl H⟩ (fun i σ H' _ z => .of (z.2 _ _ ho0)) ?_ ?_⟩
    · rintro i x σ H1 H2 hi1 ⟨⟨y2, y3, rfl⟩, s1⟩ ⟨t, a, b, rfl, nt, rfl, ha0, hb⟩
      obtain ⟨o, ho, op, rfl, gop⟩ := paired_at pop hb
      have s2 := same_upd (o := .tup [a, .ref op]) nt
      refine ⟨t, _, rfl, .of upd_same, rfl, _, _, rfl, _, _, rfl, rfl, ?_⟩
      exact ⟨_, rfl, _, true, rfl, opv_ok X ((s1.trans s2) _ _ gop), fun H' s' d hd => dp_same s' hd, fun H3 s3 => ⟨_, rfl, iteF ⟨⟨_, _, rfl⟩, (s1.trans s2).trans s3⟩⟩⟩
    rintro σ H1 ⟨⟨y2, y3, rfl⟩, s1⟩
    refine ⟨_, rfl, lr, _, dxl, _, _, rfl, s1 _ _ hlr, T.clv, T.nv__course, rfl, ?_⟩
    refine ⟨Nat.zero_le _, fun L hL => ?_⟩
    have u1 := same_upd (o := .lst []) hL
    have gL : (upd H1 L (.lst [])) L = some (.lst []) := upd_same
    have s12 := s1.trans u1
    have L0 : H L = none := same_noneT s1 hL
    show tSeq _ _ _ [some (.ref lr), some (.ref ot0), y2, y3, some (.ref co), some (.ref L), none] (upd H1 L (.lst []))
    generalize (upd H1 L (.lst [])) = H2 at gL s12 ⊢
    have nLr : L ≠ lr := (ne_of_none hlr L0).symm
    have lop : opvs.length = os2.length := Paired.length pop
    have ltb : tabs.length = gs.length := Paired.length ptb
    have lol : opl.length = os.length := Paired.length popl
    refine ⟨_, rfl, ot0, rfl, ⟨_, .of (s12 _ _ ho0)⟩, for_tup (K := K) (a := ot0) (xs := opvs) (fun i σ H' => ∃ c2 y3 y6 gsT gc usT rs xsT, σ = [some (.ref lr), some (.ref ot0), y2, y3, some (.ref c2), some (.ref L), y6] ∧ Lp T.C T.tC T.cC ss L H H' c2 (gs ++ gsT) gc (os ++ os2.take i) usT rs xsT ∧ gsT.length = i ∧ rs.length = i ∧ (i = 0 → usT = us) ∧ (0 < i → usT = []) ∧ GoN (ActP P w base T X E H) (os2.drop i) gc fun a b c => F (gsT ++ a) b (xsT ++ c))
      ⟨co, y3, none, [], g, us, [], [], rfl, ⟨⟨dxc, tt, ot, ut, tb, tabs, opl, und, O.same s12, by rw [List.append_nil]; exact paired_imp (fun _ _ h => (h.far L0).same s12) ptb, (ptb1.far L0).same s12, by rw [List.take_zero, List.append_nil]; exact paired_imp (fun _ _ h => OpAt.same h s12) popl, paired_imp (fun _ _ h => OpAt.same h s12) pund⟩, gL, .nil, s12⟩, rfl, rfl, fun _ => rfl, fun z => absurd z (Nat.lt_irrefl _), go⟩ (fun i σ H' _ z => ?_) ?_ ?_⟩
    · obtain ⟨_, _, _, _, _, _, _, _, _, lp, _⟩ := z
      exact .of (lp.kp _ _ ho0)
    · rintro i x σ H3 hx ⟨c2, y3, y6, gsT, gc, usT, rs, xsT, rfl, lp, lg, lr', _, _, go⟩
      obtain ⟨o, ho, op, rfl, gop⟩ := paired_at pop hx
      obtain ⟨hi, eo⟩ := List.getElem?_eq_some_iff.mp ho
      rw [List.drop_eq_getElem_cons hi, eo] at go
      obtain ⟨post, ⟨fo, spo, nm, as, eop, las, F0, kp0, hA, act⟩, nxt⟩ := go
      obtain ⟨dx2, tt2, ot2, ut2, tb2, tabs2, opl2, und2, O2, pt2, ⟨dxt, p, dx, td, ts, hl, cl, ha, cs, M, n1, n2⟩, po2, pu2⟩ := lp.co
      have lt2 : tabs2.length = (gs ++ gsT).length := Paired.length pt2
      have lo2 : opl2.length = (os ++ os2.take i).length := Paired.length po2
      rw [List.length_append] at lt2
      rw [List.length_append, List.length_take] at lo2
      refine ⟨_, rfl, _, rfl, c2, dx2, tt2, ot2, ut2, op, tb2, dxt, p, dx, td, ts, hl, cl, tabs2, opl2, und2, _, ha, cs, gc.ds, ss, gc.t.day, gc.coming, gc.t.hp, gc.t.cu, rfl, O2, by omega, by omega, lp.kp _ _ gop, M, fun H5 t2 dxt2 hl2 cl2 s5 m1 m2 m3 M5 => ?_⟩
      refine ⟨fun v H6 => ∃ g' r p' dx' td' ts' ha' cs', post g' r ∧ KT t2 hl2 cl2 H5 H6 ∧ LvT T.C T.tC H6 t2 dxt2 p' dx' td' ts' hl2 cl2 ha' cs' g'.ds ss g'.t.day g'.coming g'.t.hp g'.t.cu ∧ RvN v H5 H6 r, fun Q2 hQ2 => ?_, fun v H6 hv => ?_⟩
      · refine ⟨.ref t2, op, fo, nm, as.map V.int, spMax P w K mg base fo, rfl, by rw [← eop]; exact s5 _ _ (lp.kp _ _ gop), by rw [List.length_map]; omega, hA, if_pos kp0, fun H' s' => ⟨spo, F0, ?_⟩⟩
        refine act ss H' t2 dxt2 p dx td ts hl2 cl2 ha cs (fun b o h => s' _ _ (s5 _ _ (lp.kp b o h))) (M5.same s') Q2 fun v H6 g' r p' dx' td' ts' ha' cs' hp k6 M6 rv => hQ2 _ _ ⟨g', r, p', dx', td', ts', ha', cs', hp, (Same.kt s').trans k6, M6, ?_⟩
        cases r with
        | inl i => exact rv
        | inr ls =>
          obtain ⟨le, xs, e1, e2, e3, e4⟩ := rv
          exact ⟨le, xs, e1, same_noneT s' e2, e3, e4⟩
      · obtain ⟨g', r', p', dx', td', ts', ha', cs', hp, k6, M6, rv⟩ := hv
        refine ⟨k6, fun H7 r c3 dx3 tt3 ot3 ut3 s7 nc3 O7 hr7 => ?_⟩
        have up : ∀ {b o}, H3 b = some o → H6 b = some o := fun {b o} e => k6 b o (s5 _ _ e) (ne_of_none e m1) (ne_of_none e m2) (ne_of_none e m3)
        have gL7 := s7 _ _ (up lp.gL)
        refine ⟨r, _, rfl, .of hr7, rfl, _, _, rfl, _, _, rfl, rfl, ?_⟩
        refine ⟨_, rfl, .inl ⟨rfl, _, SqL.of gL7⟩, _, rfl, L, _, _, rfl, rfl, gL7, small1000 (by omega), ?_⟩
        have k78 : KpL L H7 (upd H7 L (.lst (rs ++ [v]))) := fun b o h n => (upd_ne n).trans h
        have k38 : KpL L H3 (upd H7 L (.lst (rs ++ [v]))) := fun b o h n => k78 _ _ (s7 _ _ (up h)) n
        have nl : ∀ {b o}, H7 b = some o → (∀ l, o ≠ .lst l) → (upd H7 L (.lst (rs ++ [v]))) b = some o := fun {b o} e n => k78 _ _ e fun z => by
          rw [z, gL7] at e
          exact n _ (Option.some.inj e).symm
        have tb8 : TbF T.C T.tC ss L (upd H7 L (.lst (rs ++ [v]))) t2 g' := TbF.kp (L := L) ⟨dxt2, p', dx', td', ts', hl2, cl2, ha', cs', M6.same s7, (ne_of_none lp.gL m2).symm, (ne_of_none lp.gL m3).symm⟩ k78 gL7
        have tb38 : TbF T.C T.tC ss L (upd H7 L (.lst (rs ++ [v]))) tb2 gc := TbF.kp (L := L) ⟨dxt, p, dx, td, ts, hl, cl, ha, cs, M, n1, n2⟩ k38 lp.gL
        have rv8 : RvL H L (upd H7 L (.lst (rs ++ [v]))) v r' := by
          have r6 : RvL H L H6 v r' := rvn_l rv (fun b o h => s5 _ _ (lp.kp b o h)) (s5 _ _ lp.gL)
          refine RvL.kp r6 (fun b o h n => k78 _ _ (s7 _ _ h) n) (up lp.gL)
        refine ⟨c3, _, _, gsT ++ [gc], g', [], rs ++ [v], xsT ++ [r'], rfl, ⟨⟨dx3, tt3, ot3, ut3, t2, tabs2 ++ [tb2], opl2 ++ [.ref op], [], ⟨nl O7.ob (fun _ z => by cases z), nl O7.ht (fun _ z => by cases z), nl O7.hop (fun _ z => by cases z), nl O7.hu (fun _ z => by cases z)⟩, ?_, tb8, ?_, .nil⟩, upd_same, paired_snoc rv8 (paired_imp (fun _ _ h => RvL.kp h k38 lp.gL) lp.rv), fun b o h => k38 _ _ (lp.kp b o h) (ne_of_none h L0)⟩, by rw [List.length_append, lg]; rfl, by rw [List.length_append, lr']; rfl, fun z => absurd z (Nat.succ_ne_zero _), fun _ => rfl, (nxt g' r' hp).imp fun a b c z => ?_⟩
        · rw [← List.append_assoc]
          exact paired_snoc tb38 (paired_imp (fun _ _ h => TbF.kp h k38 lp.gL) pt2)
        · rw [List.take_succ, ho, ← List.append_assoc]
          exact paired_snoc ⟨op, rfl, k38 _ _ (lp.kp _ _ gop) (ne_of_none gop L0)⟩ (paired_imp (fun _ _ h => OpAt.kpl h k38 lp.gL) po2)
        · rw [List.append_assoc, List.append_assoc]
          exact z
    · rintro σ H3 ⟨c2, y3, y6, gsT, gc, usT, rs, xsT, rfl, lp, lg, lr', u0, u1, go⟩
      rw [lop, List.drop_length] at go
      have go : F (gsT ++ []) gc (xsT ++ []) := go
      rw [List.append_nil, List.append_nil] at go
      have hlr3 := lp.kp _ _ hlr
      refine ⟨_, rfl, _, rfl, lr, T.vC, dxl, _, rfl, hlr3, T.clv, T.nv__course, (by show 2 < 1000; decide), ?_⟩
      have kl : KeepL lr H3 (upd H3 lr (.ins T.vC dxl (putF "_course" (.ref c2) (liF co kept)))) := fun b o e n => (upd_ne n).trans e
      obtain ⟨dx2, tt2, ot2, ut2, tb2, tabs2, opl2, und2, O2, pt2, ptb2, po2, pu2⟩ := lp.co
      have tk : ∀ {c ys}, H3 c = some (.tup ys) → (upd H3 lr (.ins T.vC dxl (putF "_course" (.ref c2) (liF co kept)))) c = some (.tup ys) := fun {c ys} e => kl _ _ e (ne_of e hlr3 (by intro z; cases z))
      rw [lop, List.take_length] at po2
      refine ⟨_, rfl, q gsT gc xsT _ L rs c2 usT go (fun b o h n => kl _ _ (lp.kp b o h) n) L0 (kl _ _ lp.gL nLr) (paired_imp (fun _ _ h => RvL.keep h hlr3 kl) lp.rv) upd_same (fun z => u0 (by rw [lop, z]; rfl)) (fun z => u1 (by
        rw [lop]
        exact List.length_pos_iff.mpr z)) ⟨dx2, tt2, ot2, ut2, tb2, tabs2, opl2, und2, ⟨kl _ _ O2.ob (ne_of O2.ob hlr3 (by intro z; injection z with _ _ h; cases h)), tk O2.ht, tk O2.hop, tk O2.hu⟩, paired_imp (fun _ _ h => TbF.keep (dxl := dxl) (fs := []) h hlr3 kl) pt2, TbF.keep (dxl := dxl) (fs := []) ptb2 hlr3 kl, paired_imp (fun _ _ h => h.keep hlr3 kl) po2, paired_imp (fun _ _ h => h.keep hlr3 kl) pu2⟩⟩
end
end Rp
/-! Live rings: waiting_after. -/
namespace Rp
open PySem PySem.Spec PyProof.Rows L2 Rz Rm Rl
theorem passNo {X : Cx} : Passes (L2.CX X.prog X.w) X E0 := fun pins σ H s e s' I c => by
  obtain ⟨_, _, _, _, _, _, _, _, _, _, _, _, no⟩ := c
  exact no.elim
section
variable {P : Program} {w : World} {K : PySem.W.Frag} {mg : Str → Option Value} {base : Heap}
def spEnt (vC : Addr) : Sp := fun vs H Q _ => ∃ (lr dxl co : Addr), vs = [.ref lr] ∧ H lr = some (.ins vC dxl (liF co .non)) ∧ Q (.ref lr) (upd H lr (.ins vC dxl (liF co (.ref co))))
theorem ok_ent (T : Tx K mg) : FnOk P w K mg base CX0 1 T.a_venter T.d_venter P_venter (spEnt T.vC) := by
  refine T.F_venter.ok sc_venter (fun vs H Q E h => ?_) (fun cdv A outer s0 H vs Q E hr h => ?_)
  · obtain ⟨lr, dxl, co, rfl, _⟩ := h
    rfl
  · obtain ⟨lr, dxl, co, rfl, hlr, q⟩ := h
    refine ⟨_, pss_cons (ps_if (pt_cmpR op_notN (pe_fld (pv 0) rfl) pe_non (nomark _)) (pss_one ps_never) pss_nil) (pss_cons (ps_fld (pv 0) (pe_fld (pv 0) rfl) rfl) (pss_one (ps_ret (pv 0)))), ?_⟩
    refine ⟨_, rfl, lr, _, dxl, _, _, rfl, hlr, T.clv, T.nv__kept, rfl, rfl, _, rfl, iteF ?_⟩
    exact ⟨_, rfl, lr, _, dxl, _, _, rfl, hlr, T.clv, T.nv__course, rfl, _, rfl, lr, T.vC, dxl, _, rfl, hlr, T.clv, T.nv__kept, (by show 2 < 1000; decide), _, rfl, q⟩
def spExi (vC : Addr) : Sp := fun vs H Q _ => ∃ (lr dxl co c2 : Addr) (x y z : V), vs = [.ref lr, x, y, z] ∧ H lr = some (.ins vC dxl (liF c2 (.ref co))) ∧ Q .non (upd H lr (.ins vC dxl (liF co .non)))
theorem ok_exi (T : Tx K mg) : FnOk P w K mg base CX0 1 T.a_vexit T.d_vexit P_vexit (spExi T.vC) := by
  refine T.F_vexit.ok sc_vexit (fun vs H Q E h => ?_) (fun cdv A outer s0 H vs Q E hr h => ?_)
  · obtain ⟨lr, dxl, co, c2, x, y, z, rfl, _⟩ := h
    rfl
  · obtain ⟨lr, dxl, co, c2, x, y, z, rfl, hlr, q⟩ := h
    refine ⟨_, pss_cons (ps_fld (pv 0) (pe_fld (pv 0) rfl) rfl) (pss_one (ps_fld (pv 0) pe_non rfl)), ?_⟩
    refine ⟨_, rfl, lr, _, dxl, _, _, rfl, hlr, T.clv, T.nv__kept, rfl, _, rfl, lr, T.vC, dxl, _, rfl, hlr, T.clv, T.nv__course, (by show 2 < 1000; decide), ?_⟩
    refine ⟨_, rfl, lr, T.vC, dxl, _, rfl, upd_same, T.clv, T.nv__kept, (by show 2 < 1000; decide), ?_⟩
    rw [upd_upd]
    exact q
def spWk (C tC cC vC : Addr) : Sp := fun vs H Q _ => ∃ (lr dxl co dxc tt ot ut tb : Addr) (kept : V) (tabs : List Addr) (opl und : List V) (ss : List Int) (g : GS), vs = [.ref lr] ∧ H lr = some (.ins vC dxl (liF co kept)) ∧ Co cC H co dxc tt ot ut (tabs ++ [tb]) opl und ∧ TbG C tC ss H tb g ∧
  ∀ H' L (ha : List Addr), Same H H' → H L = none → H' L = some (.lst (ha.map V.ref)) → ha.length = g.ds.length → (∀ (j : Nat) (a : Addr), ha[j]? = some a → H' a = some (.tup ((g.t.hp j).map V.int))) → Q (.ref L) H'
theorem ok_waitK (T : Tx K mg) : FnOk P w K mg base CX0 1 T.a_vwaiting_books T.d_vwaiting_books P_vwaiting_books (spWk T.C T.tC T.cC T.vC) := by
  refine T.F_vwaiting_books.ok sc_vwaiting_books (fun vs H Q E h => ?_) (fun cdv A outer s0 H vs Q E hr h => ?_)
  · obtain ⟨lr, dxl, co, dxc, tt, ot, ut, tb, kept, tabs, opl, und, ss, g, rfl, _⟩ := h
    rfl
  · obtain ⟨lr, dxl, co, dxc, tt, ot, ut, tb, kept, tabs, opl, und, ss, g, rfl, hlr, O, ⟨dxt, p, dx, td, ts, hl, cl, ha, cs, M⟩, q⟩ := h
    refine ⟨_, pss_one (ps_ret (pe_callTy (T := "list") call_list_of (by rfl) T.z_list (by decide +kernel) (pa_cons (pe_fld (pe_ix ix_tup (pe_fld (pe_fld (pv 0) rfl) rfl) (pe_un un_neg pe_int) (fun _ _ => rfl)) rfl) pa_nil))), ?_⟩
    refine ⟨_, rfl, lr, _, dxl, _, _, rfl, hlr, T.clv, T.nv__course, rfl, co, _, dxc, _, _, rfl, O.ob, T.clc, T.nc_tables, rfl, _, rfl, tt, _, _, .ref tb, rfl, rfl, .of O.ht, by rw [List.map_append]; exact atI_last _ _, tb, _, dxt, _, _, rfl, M.ob, T.clt, T.nt_heaps, tbF_h _ _ _ _ _, hl, _, rfl, .inl (.of M.fh), fun L hL => ?_⟩
    exact q _ L ha (same_upd hL) hL upd_same M.lh fun j a h => same_upd hL _ _ (M.hv j a h)
def spWa (P : Program) (w : World) (base : Heap) (T : Tx K mg) (X : Ax w T) : Sp := fun vs H Q _ => ∃ (lr ot0 : Addr) (opvs : List V) (ss : List Int) (gs : List GS) (g : GS) (os us os2 : List Op) (F : List GS → GS → List (Int ⊕ List (List Int)) → Prop), vs = [.ref lr, .ref ot0] ∧ H ot0 = some (.tup opvs) ∧ Paired (OpAt H) opvs os2 ∧ LiE T.C T.tC T.cC T.vC ss H lr gs g os us ∧
  gs.length + os2.length ≤ 700 ∧ os.length + os2.length ≤ 700 ∧ (∀ Hs, GoN (ActP P w base T X E0 Hs) os2 g F) ∧
  ∀ gs' gF xs H' W (ha : List Addr), F gs' gF xs → Same H H' → H W = none → H' W = some (.lst (ha.map V.ref)) → ha.length = gF.ds.length → (∀ (j : Nat) (a : Addr), ha[j]? = some a → H' a = some (.tup ((gF.t.hp j).map V.int))) → Q (.ref W) H'
def spWaR (P : Program) (w : World) (base : Heap) (T : Tx K mg) (X : Ax w T) : Sp := fun vs H Q E => ∃ ws rest, vs = ws ++ rest ∧ ws.length = (["self"] : List Str).length ∧ rest.length ≤ sizeLine ∧ ∀ p, H p = Option.none → spWa P w base T X (ws ++ [V.ref p]) (upd H p (.tup rest)) Q E
theorem ok_wa (T : Tx K mg) (X : Ax w T) : FnR P w K mg base CX0 11 T.a_vwaiting_after (spWaR P w base T X) := by
  obtain ⟨oc, od, kV, doc, pm, an, cdv, ct, osl, e, lk, hcd⟩ := T.F_vwaiting_after.ex
  rw [e] at lk
  refine StX.fn_star (ps := ["self"]) (pv := "operations") lk hcd sc_vwaiting_after ?_ ?_ ?_
  · exact StX.cxUp_none
  · exact StX.bind_star1 (B := fun us => bindArgs (PySem.W.fnOf "waiting_after" "LiveRing.waiting_after" (defArgs s_vwaiting_after) (defBody s_vwaiting_after) (defScope s_vwaiting_after) .none kV doc pm an cdv ct) ⟨us, []⟩) (fun a => rfl) (fun a r rs => rfl)
  · intro A outer s H vs Q E hr h
    obtain ⟨lr, ot0, opvs, ss, gs, g, os, us, os2, F, rfl, ho0, pop, ⟨dxl, co, dxc, tt, ot, ut, tb, tabs, opl, und, I⟩, l1, l2, go, q⟩ := h
    have nd := sc_vwaiting_after.nd
    refine ⟨_, PSs.nox (pss_one (ps_with0 rfl (pv 0) T.enV T.enVF T.exV T.exVF ((ok_ent T).raw T.b_venter .nil) ((ok_exi T).raw T.b_vexit .nil) (hr.mono (by decide : 1 ≤ 10)) (hr.mono (by decide : 1 ≤ 10)) pass0
      (pss_cons (ps_expr (pe_methS (pv 0) T.clv T.bvA (ok_an T X) hr passNo (pv 1))) (pss_one (ps_ret (pe_prop (pv 0) T.clv T.q_vwaiting_books (ok_waitK T) (hr.mono (by decide : 2 ≤ 10)) T.b_vwaiting_books .nil pass0 rfl)))))), ?_⟩
    have hlr := I.ob
    have lop : opvs.length = os2.length := Paired.length pop
    refine ⟨_, rfl, lr, dxl, _, rfl, hlr, lr, dxl, co, rfl, hlr, ?_⟩
    have kl2 : KeepL lr H (upd H lr (.ins T.vC dxl (liF co (.ref co)))) := fun b o e n => (upd_ne n).trans e
    have g2 : (upd H lr (.ins T.vC dxl (liF co (.ref co)))) lr = some (.ins T.vC dxl (liF co (.ref co))) := upd_same
    show tSeq _ _ _ _ (upd H lr (.ins T.vC dxl (liF co (.ref co))))
    generalize (upd H lr (.ins T.vC dxl (liF co (.ref co)))) = H2 at kl2 g2 ⊢
    have ho2 := kl2 _ _ ho0 (ne_of ho0 hlr (by intro z; cases z))
    refine ⟨_, rfl, lr, dxl, _, rfl, g2, rfl, fun m hm => ?_⟩
    have u3 := same_upd (o := .met T.a_vapply lr) hm
    refine ⟨_, rfl, ot0, opvs, rfl, .of (u3 _ _ ho2), upd_same, [.ref lr], opvs, rfl, rfl, Nat.le_of_lt (small1000 (by omega)), fun p hp => ?_⟩
    have u4 := same_upd (o := .tup opvs) hp
    have g4 : (upd (upd H2 m (.met T.a_vapply lr)) p (.tup opvs)) p = some (.tup opvs) := upd_same
    have s24 := u3.trans u4
    show spApN P w base T X [.ref lr, .ref p] _ _ _
    generalize (upd (upd H2 m (.met T.a_vapply lr)) p (.tup opvs)) = H4 at g4 s24 ⊢
    have kl4 : KeepL lr H H4 := fun b o e n => s24 _ _ (kl2 _ _ e n)
    have tk : ∀ {c ys}, H c = some (.tup ys) → H4 c = some (.tup ys) := fun {c ys} e => kl4 _ _ e (ne_of e hlr (by intro z; cases z))
    refine ⟨lr, p, dxl, co, .ref co, opvs, ss, gs, g, os, us, os2, F, rfl, g4, paired_imp (fun _ _ h => h.keep hlr kl4) pop, s24 _ _ g2, ⟨dxc, tt, ot, ut, tb, tabs, opl, und, ⟨kl4 _ _ I.co.ob (ne_of I.co.ob hlr (by intro z; injection z with _ _ h; cases h)), tk I.co.ht, tk I.co.hop, tk I.co.hu⟩, paired_imp (fun _ _ h => h.keep hlr kl4) I.tbs, I.tb.keep hlr kl4, paired_imp (fun _ _ h => h.keep hlr kl4) I.op, paired_imp (fun _ _ h => h.keep hlr kl4) I.un⟩, l1, l2, go H4, fun gs' gF xs H5 L rs c2 us' hF k5 nL gL rv hlr5 _ _ ⟨dxc5, tt5, ot5, ut5, tb5, tabs5, opl5, und5, O5, _, b5, _, _⟩ => ?_⟩
    refine ⟨_, rfl, lr, dxl, _, rfl, hlr5, lr, dxl, c2, dxc5, tt5, ot5, ut5, tb5, .ref co, tabs5, opl5, und5, ss, gF, rfl, hlr5, O5, b5.g, fun H6 W ha s6 nW gW lW hW => ?_⟩
    refine ⟨lr, dxl, co, c2, .non, .non, .non, rfl, s6 _ _ hlr5, ?_⟩
    have k6 : ∀ b o, H b = some o → b ≠ lr → H6 b = some o := fun b o h n => s6 _ _ (k5 _ _ (kl4 _ _ h n) n)
    have h6 := s6 _ _ hlr5
    have fin : Same H (upd H6 lr (.ins T.vC dxl (liF co .non))) := fun b o h => by
      by_cases e : b = lr
      · rw [e, hlr] at h
        cases h
        rw [e]
        exact upd_same
      · exact (upd_ne e).trans (k6 b o h e)
    have nW0 : H W = none := by
      cases e : H W with
      | none => rfl
      | some o =>
        by_cases e2 : W = lr
        · rw [e2, hlr5] at nW
          cases nW
        · have := k5 _ _ (kl4 _ _ e e2) e2
          rw [nW] at this
          cases this
    exact q gs' gF xs _ W ha hF fin nW0 ((upd_ne (ne_of gW h6 (by intro z; cases z))).trans gW) lW fun j a h => (upd_ne (ne_of (hW j a h) h6 (by intro z; cases z))).trans (hW j a h)
end
end Rp
/-! Live rings: days that cannot pass; values that are no operations. -/
namespace Rp
open PySem PySem.Spec PyProof.Rows L2 Rz Rm Rl
section
variable {P : Program} {w : World} {K : PySem.W.Frag} {mg : Str → Option Value} {base : Heap}
def spLetX (K : PySem.W.Frag) (CN : Addr) : Sp := fun vs H Q E => ∃ (tb : Addr) (v : V), vs = [.ref tb, v] ∧ LieV K H v 0 400 false ∧ E (.ref CN) none H
theorem ok_letX {CN : Addr} (T : Tx K mg) (E4 : RxE K mg "InvalidNumber" CN) : FnOk P w K mg base (L2.CX P w) 5 T.a_let_pass T.d_let_pass P_let_pass (spLetX K CN) := by
  refine T.F_let_pass.okX sc_let_pass (fun vs H Q E h => ?_) (fun cdv A outer s0 H vs Q E hr h => ?_)
  · obtain ⟨tb, v, rfl, _⟩ := h
    rfl
  · obtain ⟨tb, v, rfl, hv, qe⟩ := h
    obtain ⟨u1, c1⟩ := T.c_MOST_PASSED
    refine ⟨_, pss_cons (ps_expr (pe_call (E := E) (ok_chkX T E4) (hr.mono (by decide : 3 ≤ 4)) (by rfl) T.g_check_number T.F_check_number.kp T.b_check_number .nil (passes_call (takes_of rfl rfl rfl rfl) (fun _ _ _ _ z => z)) (pa_cons (pv 1) (pa_cons pe_int (pa_cons (pe_glob (v := .int 400) (by rfl) c1 ⟨_, rfl⟩) pa_nil))))) pss_never, ?_⟩
    exact ⟨_, rfl, v, 0, 400, false, rfl, hv, (fun z => by cases z), fun _ => qe⟩
/-- too many days: InvalidNumber -/
theorem act_401 (T : Tx K mg) (X : Ax w T) (L : LiX K mg) {E : XK} {Hs : Hp} {g : GS} {n : Nat} (hn : 400 < n) (qe : ∀ H', Same Hs H' → E (.ref L.CN) none H') : ActP P w base T X E Hs (.pass n) g fun _ _ => False :=
  ⟨_, _, "pass_days", [(n : Int)], rfl, (by simp), up_fn (T := T) (ok_letX T L.EN) T.b_let_pass (by decide : 5 ≤ 7), T.F_let_pass.kp, X.pA, fun ss H1 t2 dxt2 p dx td ts hl2 cl2 ha cs s1 M Q2 hQ2 => ⟨t2, .int n, rfl, .inl ⟨n, rfl, by
    rw [decide_eq_false (show ¬ ((n : Int) ≤ 400) by omega), Bool.and_false]⟩, qe H1 s1⟩⟩
/-- an operation that can be -/
theorem act_can (T : Tx K mg) (X : Ax w T) (L : LiX K mg) {E : XK} {Hs : Hp} {o : Op} {g : GS} {m : Int} (G : GI g.ds.length m g) (hok : OpOk g.ds.length o) (he : err o g = none) : ActP P w base T X E Hs o g fun g' _ => g' = stp o g := by
  obtain ⟨nb, l9⟩ := G.b9
  cases o with
  | pass n =>
    exact ⟨_, _, "pass_days", [(n : Int)], rfl, (by simp), up_fn (T := T) (fn_up (ok_let T)) T.b_let_pass (by decide : 5 ≤ 7), T.F_let_pass.kp, X.pA, fun ss H1 t2 dxt2 p dx td ts hl2 cl2 ha cs s1 M Q2 hQ2 => ⟨t2, dxt2, p, dx, td, ts, hl2, cl2, ha, cs, g.ds, ss, g.coming, g.t, n, rfl, M, fun j hj => Nat.le_trans (G.hp12 hj) (by decide), hok, fun H2 ha2 cs2 le xs k2 M2 l0 gl TT => hQ2 _ H2 _ (.inr (dyL g.ds g.t n)) p dx td ts ha2 cs2 rfl k2 M2 ⟨le, xs, rfl, l0, gl, TT⟩⟩⟩
  | add k =>
    have hok : k < g.ds.length := hok
    have ev : err (.add k) g = if 12 ≤ (bks g.t.hp g.t.cu g.ds.length).length then some Wd.number else none := rfl
    refine ⟨_, _, "add", [(k : Int)], rfl, (by simp), up_fn (T := T) (ok_add T L.ER L.EN) T.b_add_book (by decide : 4 ≤ 7), T.F_add_book.kp, X.aA, fun ss H1 t2 dxt2 p dx td ts hl2 cl2 ha cs s1 M Q2 hQ2 => ?_⟩
    refine ⟨t2, dxt2, p, dx, td, ts, hl2, cl2, ha, cs, g.ds, ss, g.t.day, g.coming, g.t.hp, g.t.cu, _, rfl, M, nb, l9, .inr ⟨k, rfl, hok, fun h12 H' s' => ?_, fun hlt => ⟨by have := G.hp12 hok; omega, fun H' ha' cs' k2 M2 => hQ2 _ H' _ (.inl g.coming) p dx td ts ha' cs' rfl k2 M2 rfl⟩⟩⟩
    rw [ev, if_pos h12] at he
    cases he
  | setd k d =>
    obtain ⟨hk, d1, d30⟩ := hok
    exact ⟨_, _, "set_days", [(k : Int), d], rfl, (by simp), up_fn (T := T) (ok_chg T L.ER L.EN) T.b_change_days (by decide : 7 ≤ 7), T.F_change_days.kp, X.sA, fun ss H1 t2 dxt2 p dx td ts hl2 cl2 ha cs s1 M Q2 hQ2 => ⟨t2, dxt2, p, dx, td, ts, hl2, cl2, ha, cs, g.ds, ss, g.t.day, g.coming, g.t.hp, g.t.cu, _, _, rfl, M, .inr ⟨k, rfl, hk, .inr ⟨d, rfl, d1, d30, fun H' p' dx' td' ts' k2 M2 => hQ2 _ H' _ (.inl (at' g.ds k)) p' dx' td' ts' ha cs rfl k2 M2 rfl⟩⟩⟩⟩
  | take b =>
    have ev : err (.take b) g = match atK g b with | some k => if b ∈ g.t.hp k then none else some (.read b) | none => some .book := rfl
    have es : stp (.take b) g = match atK g b with | some k => ⟨g.ds, g.coming, ⟨g.t.day, tkH g.t.hp k b, g.t.cu⟩⟩ | none => g := rfl
    refine ⟨_, _, "take", [b], rfl, (by simp), up_fn (T := T) (ok_take T L.EB L.BX L.gX) T.b_take_book (by decide : 6 ≤ 7), T.F_take_book.kp, X.tA, fun ss H1 t2 dxt2 p dx td ts hl2 cl2 ha cs s1 M Q2 hQ2 => ?_⟩
    cases ha' : atK g b with
    | none =>
      rw [ev, ha'] at he
      cases he
    | some k =>
      obtain ⟨hk, hb⟩ := atK_some ha'
      have hin : b ∈ g.t.hp k := by
        rw [ev, ha'] at he
        have he : (if b ∈ g.t.hp k then none else some (Wd.read b)) = none := he
        split at he
        · assumption
        · cases he
      exact ⟨t2, dxt2, p, dx, td, ts, hl2, cl2, ha, cs, g.ds, ss, g.t.day, g.coming, g.t.hp, g.t.cu, _, rfl, M, nb, l9, .inr ⟨b, k, rfl, hk, hb, .inr ⟨hin, fun H' ha2 k2 M2 => hQ2 _ H' _ (.inl (k : Nat)) p dx td ts ha2 cs rfl k2 (by rw [es, ha']; exact M2) rfl⟩⟩⟩
/-- InvalidOperation's field -/
def spIo (c : Addr) : Sp := fun vs H Q _ => ∃ (a : Addr) (i : Int), vs = [.ref a, .int i] ∧ H a = some (exo a c none) ∧ 0 ≤ i ∧ i < 1900 ∧ ∀ dx, H dx = none → dx ≠ a → Q .non (upd (upd H dx (exd dx [("index", .int i)])) a (exo a c (some dx)))
theorem ok_io {cE c : Addr} (T : Tx K mg) (B : XcF K mg cE c "index") (eq : T.c_iInvalidOperation = c) : FnOk P w K mg base CX0 1 T.a_iInvalidOperation T.d_iInvalidOperation P_iInvalidOperation (spIo c) := by
  refine T.F_iInvalidOperation.ok sc_iInvalidOperation (fun vs H Q E h => ?_) (fun cdv A outer s H vs Q E hr h => ?_)
  · obtain ⟨a, i, rfl, _⟩ := h
    rfl
  · obtain ⟨a, i, rfl, ha, i0, i1, q⟩ := h
    have OX : OexC K c := by rw [← eq]; exact oxB_ok T.io_iInvalidOperation
    refine ⟨_, pss_cons (ps_expr (pe_reinit (by rfl) B.gE B.rd B.vi (pa_cons (pv 0) (pa_cons (pe_joined (.cons pe_str (.cons (pe_fmt (pv 1)) (.cons pe_str .nil)))) pa_nil))))
      (pss_one (ps_ost (pv 0) (pv 1))), ?_⟩
    have hl : i.natAbs.log2 < 1920 := Nat.lt_of_le_of_lt (Nat.log2_le_self _) (by omega)
    have ht := PyProof.Rows.int_text_len_1921 hl
    refine ⟨_, rfl, _, rfl, by decide, _, rfl, .inr ⟨i, rfl, hl, _, rfl, ?_, _, rfl, ?_, a, c, _, rfl, by show 1 ≤ 1000; decide, OX, ha, ?_⟩⟩
    · rw [txt_len]
      refine Nat.le_trans (Nat.add_le_add (by decide +kernel : _ ≤ 100) ht) (by rw [sizeLine_eq]; decide)
    · rw [txt_len, txt_len]
      refine Nat.le_trans (Nat.add_le_add (Nat.add_le_add (by decide +kernel : _ ≤ 100) ht) (by decide +kernel : _ ≤ 100)) (by rw [sizeLine_eq]; decide)
    · exact ⟨_, rfl, _, rfl, a, c, rfl, OX, B.nx, .inl ⟨ha, fun dx n ne => q dx n ne⟩⟩
theorem io_go {C : Addr} {H1 : Hp} {Q : XK} {i : Int} (i0 : 0 ≤ i) (i1 : i < 1900) (q : ∀ (dd : Addr) (H2 : Hp), Same H1 H2 → H2 dd = some (.xd [("index", .int i)]) → Q (.ref C) (some dd) H2) :
    ([V.int i] : List V).length ≤ 1000 ∧ ∀ a, H1 a = none → spIo C (.ref a :: ([V.int i] ++ [])) (upd H1 a (exo a C none))
      (fun v H2 => v = .non ∧ ∃ (d : Addr) (fs : List (Str × V)), H2 a = some (exo a C (some d)) ∧ H2 d = some (exd d fs) ∧ H1 d = none ∧ Q (.ref C) (some d) (upd (del H2 a) d (.xd fs))) (fun _ _ _ => False) := by
  refine ⟨by show 1 ≤ 1000; decide, fun a ha => ⟨a, i, rfl, upd_same, i0, i1, fun dx hdx ne => ?_⟩⟩
  rw [upd_ne ne] at hdx
  refine ⟨rfl, dx, _, upd_same, (upd_ne ne).trans upd_same, hdx, q dx _ (fun b o e => ?_) upd_same⟩
  have n1 : b ≠ a := ne_of_none e ha
  have n2 : b ≠ dx := ne_of_none e hdx
  rw [upd_ne n2, del_ne n1, upd_ne n1, upd_ne n2, upd_ne n1]
  exact e
def spApB (K : PySem.W.Frag) (dB CO : Addr) : Sp := fun vs H Q E => ∃ (lr ot0 : Addr) (opvs : List V) (j : Nat) (bad : V), vs = [.ref lr, .ref ot0] ∧ H ot0 = some (.tup opvs) ∧ j < 1000 ∧ opvs[j]? = some bad ∧ (∀ i x, i < j → opvs[i]? = some x → ∃ o, OpAt H x o) ∧ (∀ H', Same H H' → OpV K dB H' bad false) ∧
  ∀ dd H', Same H H' → H' dd = some (.xd [("index", .int (j : Int))]) → E (.ref CO) (some dd) H'
def spApBR (K : PySem.W.Frag) (dB CO : Addr) : Sp := fun vs H Q E => ∃ ws rest, vs = ws ++ rest ∧ ws.length = (["self"] : List Str).length ∧ rest.length ≤ sizeLine ∧ ∀ p, H p = Option.none → spApB K dB CO (ws ++ [V.ref p]) (upd H p (.tup rest)) Q E
theorem ok_apB {cE CO : Addr} (T : Tx K mg) (X : Ax w T) (B : XcF K mg cE CO "index") (gO : mg "InvalidOperation" = some (.ref CO)) : FnR P w K mg base (L2.CX P w) 10 T.a_vapply (spApBR K X.dB CO) := by
  obtain ⟨esB, nB, DB⟩ := X.DB
  have eq : T.c_iInvalidOperation = CO := by
    have e := T.gc_iInvalidOperation.symm.trans gO
    injection e with e
    injection e
  have OX : OexC K CO := by rw [← eq]; exact oxB_ok T.io_iInvalidOperation
  have ic : PySem.W.findIn K (.ref CO) "__init__" = some (some (.ref T.a_iInvalidOperation)) := by rw [← eq]; exact T.ic_iInvalidOperation
  obtain ⟨oc, od, kV, doc, pm, an, cdv, ct, osl, e, lk, hcd⟩ := T.F_vapply.ex
  rw [e] at lk
  refine StX.fn_star (ps := ["self"]) (pv := "operations") lk hcd sc_vapply ?_ ?_ ?_
  · exact StX.cxUp
  · exact StX.bind_star1 (B := fun us => bindArgs (PySem.W.fnOf "apply" "LiveRing.apply" (defArgs s_vapply) (defBody s_vapply) (defScope s_vapply) .none kV doc pm an cdv ct) ⟨us, []⟩) (fun a => rfl) (fun a r rs => rfl)
  · intro A outer s H vs Q E hr h
    obtain ⟨lr, ot0, opvs, j, bad, rfl, ho0, hj, hbad, hok, hov, qe⟩ := h
    have nd := sc_vapply.nd
    refine ⟨_, pss_cons (ps_for (passes_of rfl) rfl (pi_enumT (by rfl) T.z_enumerate (pa_cons (pv 1) pa_nil)) (pg_tup rfl (pgs_cons (pg_name (i := 2) nd rfl (.inl rfl)) (pgs_cons (pg_name (i := 3) nd rfl (.inl rfl)) pgs_nil)))
        (pss_one (ps_if (pt_not (pt_val (pe_call (ok_isop T X.gB DB) (hr.mono (by omega)) (by rfl) T.g_is_operation T.F_is_operation.kp T.b_is_operation .nil pass0 (pa_cons (pv 3) pa_nil)))) (pss_one (ps_raise rfl (takes_of rfl rfl rfl rfl) (pmk_oex OX ic T.it_iInvalidOperation (ok_io T B eq) (hr.mono (by decide : 2 ≤ 9)) T.b_iInvalidOperation .nil pass0 (by rfl) gO (pa_cons (pv 2) pa_nil)))) pss_nil)))
      pss_never, ?_⟩
    refine ⟨_, rfl, ot0, _, rfl, .of ho0, for_it walk_enumT (fun i σ H' => (∃ y2 y3, σ = [some (.ref lr), some (.ref ot0), y2, y3, none, none, none]) ∧ Same H H' ∧ i ≤ j) ⟨⟨none, none, rfl⟩, Same.refl H, Nat.zero_le _⟩ (fun i σ H' _ z => .of (z.2.1 _ _ ho0)) ?_ ?_⟩
    · rintro i x σ H1 H2 hi1 ⟨⟨y2, y3, rfl⟩, s1, hij⟩ ⟨t, a, b, rfl, nt, rfl, ha0, hb⟩
      have ha0 : a = V.int (i : Int) := (Option.some.inj ha0).symm
      subst ha0
      have s2 := same_upd (o := .tup [.int (i : Int), b]) nt
      have hb : opvs[i]? = some b := hb
      refine ⟨t, _, rfl, .of upd_same, rfl, _, _, rfl, _, _, rfl, rfl, ?_⟩
      by_cases e : i = j
      · subst e
        rw [hbad] at hb
        cases hb
        exact ⟨_, rfl, _, false, rfl, hov _ (s1.trans s2), fun H' s' d hd => dp_same s' hd, fun H3 s3 => ⟨_, rfl, iteT ⟨_, rfl, io_go (by omega) (by omega) fun dd H4 s4 hd => qe dd H4 (((s1.trans s2).trans s3).trans s4) hd⟩⟩⟩
      · obtain ⟨o, op, rfl, gop⟩ := hok i b (by omega) hb
        exact ⟨_, rfl, _, true, rfl, opv_ok X ((s1.trans s2) _ _ gop), fun H' s' d hd => dp_same s' hd, fun H3 s3 => ⟨_, rfl, iteF ⟨⟨_, _, rfl⟩, (s1.trans s2).trans s3, by omega⟩⟩⟩
    · rintro σ H1 ⟨_, s1, hij⟩
      have := (List.getElem?_eq_some_iff.mp hbad).1
      omega
end
end Rp
/-! Live rings: replay. -/
namespace Rp
open PySem PySem.Spec PyProof.Rows L2 Rz Rm Rl
/-- o.m(), by a positional promise -/
theorem pe_methR0 {X : Cx} {CX : CXT} {k : Nat} {C f : Addr} {m : Str} {sp : Sp} {E : XK} {o : Expr} {ta : TE} {apos pos : Pos} {pl : Sem Bool} (he : PE X o ta) (c : Cls X.K C) (hm : Meth X.K C m f)
    (F : FnR X.prog X.w X.K X.mg X.base CX k f sp) (hr : Room k X.A) (hx : Passes CX X E)
    (ht : eval (.Call (.Attribute o m apos) [] [] pos) X.env = (do
      let ov ← eval o X.env
      standAt apos.atName
      let (f, first) ← holding [ov] (getMethod ov m pl)
      callWith pos f first (backTo pos (starEach [] X.env)) (backToKw pos (keywordEach [] X.env))) := by rfl) :
    PE X (.Call (.Attribute o m apos) [] [] pos) (tMethR C m sp E ta tNil) := by
  refine ⟨fun pins s σ H Q I h => ?_⟩
  refine PySem.W.methodCall_KW (pl := pl) (thn (he.run pins s σ H _ I h) fun u s1 ⟨x, H1, I1, rx, a, dx, fs, ex, ea, l, q⟩ => ?_) ht
  subst ex
  obtain rfl : u = Value.ref a := rx
  refine getmeth_ok I1 ea c hm l ?_
  exact PySem.W.callWith_K0 (first := [.ref a]) I1.kIn hm.kp (wpAny_call (run_fnR (us := [.ref a]) (vs := [.ref a]) F hr hx I1 (.cons rfl .nil) q))
theorem same_nw {H : Hp} {C x z : Addr} (nx : H x = none) (nz : H z = none) : Same H (upd (upd H z (.own x)) x (.ins C z [])) := fun b o e => by
  rw [upd_ne (ne_of_none e nx), upd_ne (ne_of_none e nz)]
  exact e
theorem sn_mad {C x z : Addr} {H H' : Hp} (nx : H x = none) (nz : H z = none) (k : ∀ b o, (upd (upd H z (.own x)) x (.ins C z [])) b = some o → b ≠ x → H' b = some o) : Same H H' := fun b o e => k b o (same_nw nx nz b o e) (ne_of_none e nx)
/-- a ring's first table -/
def g0 (ds ss : List Int) : GS := ⟨ds, ss.sum, ⟨0, bgH (h0F ss) (fun _ => none), bgC ds 0 (h0F ss) (fun _ => none)⟩⟩
section
variable {P : Program} {w : World} {K : PySem.W.Frag} {mg : Str → Option Value} {base : Heap}
def spRp (P : Program) (w : World) (base : Heap) (T : Tx K mg) (X : Ax w T) : Sp := fun vs H Q _ => ∃ (p dx td ts dl : Addr) (ds ss : List Int) (opvs : List V) (os2 : List Op) (F : List GS → GS → List (Int ⊕ List (List Int)) → Prop), vs = [.ref T.vC, .ref p, .ref dl] ∧ RingAt T.C H p dx td ts ds ss ∧ H dl = some (.lst opvs) ∧ Paired (OpAt H) opvs os2 ∧ os2.length ≤ 700 ∧
  (∀ Hs, GoN (ActP P w base T X E0 Hs) os2 (g0 ds ss) F) ∧ ∀ gs' gF xs H' lr, F gs' gF xs → Same H H' → H lr = none → LiE T.C T.tC T.cC T.vC ss H' lr gs' gF os2 [] → Q (.ref lr) H'
theorem ok_rp (T : Tx K mg) (X : Ax w T) : FnOk P w K mg base CX0 11 T.a_vreplay T.d_vreplay P_vreplay (spRp P w base T X) := by
  refine T.F_vreplay.ok sc_vreplay (fun vs H Q E h => ?_) (fun cdv A outer s0 H vs Q E hr h => ?_)
  · obtain ⟨p, dx, td, ts, dl, ds, ss, opvs, os2, F, rfl, _⟩ := h
    rfl
  · obtain ⟨p, dx, td, ts, dl, ds, ss, opvs, os2, F, rfl, R, hdl, pop, l7, go, q⟩ := h
    have nd := sc_vreplay.nd
    refine ⟨_, pss_cons (ps_set (i := 3) nd rfl (.inl rfl) (pe_makeL (i := 0) T.mkv ((ok_li T).raw T.b_vinit .nil) (hr.mono (by decide : 6 ≤ 10)) rfl (.inl rfl) pass0 (pa_cons (pv 1) pa_nil)))
      (pss_cons (ps_expr (pe_methSL (pv 3) T.clv T.bvA (ok_an T X) hr passNo (pv 2))) (pss_one (ps_ret (pv 3)))), ?_⟩
    refine ⟨rfl, _, rfl, fun lr dxl nl ndl nel => ?_⟩
    have sl := same_nw (C := T.vC) nl ndl
    refine ⟨lr, dxl, p, dx, td, ts, ds, ss, rfl, upd_same, R.same sl, fun H5 co dxc tt ot ut tb dxt hl cl ha cs k5 n1 n2 n3 n4 glr gco M => ⟨rfl, ?_⟩⟩
    have s5 : Same H H5 := sn_mad nl ndl k5
    have I5 : TbG T.C T.tC ss H5 tb (g0 ds ss) := ⟨dxt, p, dx, td, ts, hl, cl, ha, cs, M⟩
    refine ⟨_, rfl, lr, dxl, _, rfl, glr, rfl, fun m hm => ?_⟩
    have u6 := same_upd (o := .met T.a_vapply lr) hm
    have lop : opvs.length = os2.length := Paired.length pop
    refine ⟨_, rfl, dl, opvs, rfl, .of (u6 _ _ (s5 _ _ hdl)), upd_same, [.ref lr], opvs, rfl, rfl, Nat.le_of_lt (small1000 (by omega)), fun p2 hp2 => ?_⟩
    have u7 := same_upd (o := .tup opvs) hp2
    have g7 : (upd (upd H5 m (.met T.a_vapply lr)) p2 (.tup opvs)) p2 = some (.tup opvs) := upd_same
    have s57 := u6.trans u7
    show spApN P w base T X [.ref lr, .ref p2] _ _ _
    generalize (upd (upd H5 m (.met T.a_vapply lr)) p2 (.tup opvs)) = H7 at g7 s57 ⊢
    have s7 := s5.trans s57
    refine ⟨lr, p2, dxl, co, .non, opvs, ss, [], g0 ds ss, [], [], os2, F, rfl, g7, paired_imp (fun _ _ h => OpAt.same h s7) pop, s57 _ _ glr, ⟨dxc, tt, ot, ut, tb, [], [], [], gco.same s57, .nil, I5.same s57, .nil, .nil⟩, by show 0 + _ ≤ 700; omega, by show 0 + _ ≤ 700; omega, go H7, fun gs' gF xs H8 L rs c2 us' hF k8 nL gL rv hlr8 e0 e1 ⟨dxc8, tt8, ot8, ut8, tb8, tabs8, opl8, und8, O8, p8, b8, q8, r8⟩ => ?_⟩
    have eu : us' = [] := by
      by_cases e : os2 = []
      · exact e0 e
      · exact e1 e
    subst eu
    have nlr : H lr = none := nl
    exact ⟨_, rfl, q gs' gF xs H8 lr hF (fun b o h => k8 _ _ (s7 _ _ h) (ne_of_none h nl)) nlr ⟨dxl, c2, dxc8, tt8, ot8, ut8, tb8, tabs8, opl8, und8, hlr8, O8, paired_imp (fun _ _ h => h.g) p8, b8.g, q8, r8⟩⟩
end
end Rp
/-! _law_raised: the word for a value that is no operation. -/
namespace Rp
open PySem PySem.Spec PyProof.Rows L2 Rz Rm Rt Rl LamX
section
variable {X : Cx} {g f : Addr} {cdg : Value} {s : Shared} {H : Hp} {K : PySem.W.Frag} {mg : Str → Option Value}
def OpTold (i : Int) (Q : VK) (H1 : Hp) : Prop := ∀ (p : Addr) (H' : Hp), (∀ b o, H1 b = some o → H' b = some o) → H1 p = none → H' p = some (.tup [.str "operation", .int i]) → Q (.ref p) H'
theorem raised_op {S : RdS X.K X.mg} (B : XcF X.K X.mg S.cE S.k4 "index") (R : RdJ S S.k4 4) {a dd : Addr} {oe : Obj} {pn : List (Addr × Obj)} (hz : Zc (.ref S.k4) (some dd) oe) (hf : ∃ vs, oe.data = .fields vs)
    {DD : Ends} {wv y2 : Option V} {H1 : Hp} {Q : VK} {b : Int} (hd : H1 dd = some (.xd [("index", .int b)])) (hrt : DD.rt = Q) (q : OpTold b Q H1) :
    ∃ t, PSs ((rsCx X g cdg s H).suite a ((a, oe) :: pn)) rsSuite t ∧ t DD [wv, some (.ref a), y2] H1 := by
  have nd := sc_lraised.nd
  subst hrt
  refine ⟨_, pss_cons (ps_set (i := 2) nd rfl (.inl rfl) (pe_lst (pa_cons (pe_callB (call_isF R.ex hz hf) (by rfl) S.zI (by decide +kernel) (pa_cons (pv 1) (pa_cons (pe_glob (v := .ref S.k0) (by rfl) S.g0 rfl) pa_nil))) (pa_cons (pe_callB (call_isF R.ex hz hf) (by rfl) S.zI (by decide +kernel) (pa_cons (pv 1) (pa_cons (pe_glob (v := .ref S.k1) (by rfl) S.g1 rfl) pa_nil))) (pa_cons (pe_callB (call_isF R.ex hz hf) (by rfl) S.zI (by decide +kernel) (pa_cons (pv 1) (pa_cons (pe_glob (v := .ref S.k2) (by rfl) S.g2 rfl) pa_nil))) pa_nil)))))
    (pss_cons (ps_set (i := 2) nd rfl (.inl rfl) (pe_op op_cat (pv 2) (pe_lst (pa_cons (pe_callB (call_isF R.ex hz hf) (by rfl) S.zI (by decide +kernel) (pa_cons (pv 1) (pa_cons (pe_glob (v := .ref S.k3) (by rfl) S.g3 rfl) pa_nil))) (pa_cons (pe_callB (call_isF R.ex hz hf) (by rfl) S.zI (by decide +kernel) (pa_cons (pv 1) (pa_cons (pe_glob (v := .ref S.k4) (by rfl) S.g4 rfl) pa_nil))) (pa_cons (pe_callB (call_isF R.ex hz hf) (by rfl) S.zI (by decide +kernel) (pa_cons (pv 1) (pa_cons (pe_glob (v := .ref S.k5) (by rfl) S.g5 rfl) pa_nil))) pa_nil))))))
    (pss_cons (ps_if (PW.pt (pw_or (pt_cmpR op_ne (pe_bm PySem.F.plainAttrs_list PySem.F.slot_list_count PySem.F.type_list_count mt_countV (pv 2) (pa_cons pe_bl pa_nil)) pe_int (nomark _))
        (pw_or1 (pt_not (pt_val (pe_callB (call_isF R.ex hz hf) (by rfl) S.zI (by decide +kernel) (pa_cons (pv 1) (pa_cons (pe_bltn (v := .ty "ValueError") (u := .type "ValueError") (by rfl) S.zV (by decide +kernel) rfl) pa_nil)))))))) (pss_one ps_never) pss_nil)
    (pss_cons (ps_if (pt_val (pe_ix ix_list (pv 2) pe_int (fun _ _ => rfl))) (pss_one ps_never) pss_nil)
    (pss_cons (ps_if (pt_val (pe_ix ix_list (pv 2) pe_int (fun _ _ => rfl))) (pss_one (ps_ret (pe_tup (pa_cons pe_str (pa_cons (pe_xf B.xf B.nx hz hf (pv 1)) pa_nil))))) pss_nil)
    (pss_cons (ps_if (pt_val (pe_ix ix_list (pv 2) pe_int (fun _ _ => rfl))) (pss_one ps_never) pss_nil)
    pss_never))))), ?_⟩
  refine ⟨.ref a, rfl, ⟨_, hd⟩, .ref S.k0, .ref S.k0, _, rfl, fun u h => h, R.q0, .ref a, rfl, ⟨_, hd⟩, .ref S.k1, .ref S.k1, _, rfl, fun u h => h, R.q1, .ref a, rfl, ⟨_, hd⟩, .ref S.k2, .ref S.k2, _, rfl, fun u h => h, R.q2, (by show 3 ≤ sizeLine; decide), fun p1 hp1 => ?_⟩
  have s1 : ∀ b o, H1 b = some o → (upd H1 p1 (.lst (L3 4))) b = some o := fun b o e => (upd_ne (ne_of_none e hp1)).trans e
  have g1 : (upd H1 p1 (.lst (L3 4))) p1 = some (.lst (L3 4)) := upd_same
  have n0 : ∀ {p : Addr} {H2 : Hp}, (∀ b o, H1 b = some o → H2 b = some o) → H2 p = none → H1 p = none := fun {p H2} k h => by
    cases e : H1 p with
    | none => rfl
    | some o =>
      have := k _ _ e
      rw [h] at this
      cases this
  show tSeq _ _ _ [wv, some (.ref a), some (.ref p1)] (upd H1 p1 (.lst (L3 4)))
  generalize (upd H1 p1 (.lst (L3 4))) = H2 at s1 g1 ⊢
  refine ⟨.ref p1, rfl, .ref a, rfl, ⟨_, s1 _ _ hd⟩, .ref S.k3, .ref S.k3, _, rfl, fun u h => h, R.q3, .ref a, rfl, ⟨_, s1 _ _ hd⟩, .ref S.k4, .ref S.k4, _, rfl, fun u h => h, R.q4, .ref a, rfl, ⟨_, s1 _ _ hd⟩, .ref S.k5, .ref S.k5, _, rfl, fun u h => h, R.q5, (by show 3 ≤ sizeLine; decide), fun p2 hp2 => ?_⟩
  have sa0 : ∀ b o, H2 b = some o → (upd H2 p2 (.lst [.bl (decide (4 = 3)), .bl (decide (4 = 4)), .bl (decide (4 = 5))])) b = some o := fun b o e => (upd_ne (ne_of_none e hp2)).trans e
  have ga0 : (upd H2 p2 (.lst [.bl (decide (4 = 3)), .bl (decide (4 = 4)), .bl (decide (4 = 5))])) p2 = some (.lst [.bl (decide (4 = 3)), .bl (decide (4 = 4)), .bl (decide (4 = 5))]) := upd_same
  generalize (upd H2 p2 (.lst [.bl (decide (4 = 3)), .bl (decide (4 = 4)), .bl (decide (4 = 5))])) = H3 at sa0 ga0 ⊢
  refine ⟨p1, p2, _, _, rfl, rfl, sa0 _ _ g1, ga0, (by show 3 + 3 ≤ sizeLine; decide), fun p3 hp3 => ?_⟩
  have sb0 : ∀ b o, H3 b = some o → (upd H3 p3 (.lst (L6 4))) b = some o := fun b o e => (upd_ne (ne_of_none e hp3)).trans e
  have gb0 : (upd H3 p3 (.lst (L6 4))) p3 = some (.lst (L6 4)) := upd_same
  show tSeq _ _ _ [wv, some (.ref a), some (.ref p3)] (upd H3 p3 (.lst (L6 4)))
  generalize (upd H3 p3 (.lst (L6 4))) = H4 at sb0 gb0 ⊢
  have st0 : ∀ b o, H1 b = some o → H4 b = some o := fun b o e => sb0 _ _ (sa0 _ _ (s1 _ _ e))
  have hcnt : List.countP (fun z => eqV z (.bl true)) (L6 4) = 1 := rfl
  have hflat : (L6 4).all flatV = true := rfl
  refine ⟨.ref p3, rfl, .inl ⟨rfl, _, SqL.of gb0⟩, p3, _, .bl true, rfl, rfl, SqL.of gb0, rfl, hflat, ?_⟩
  rw [hcnt]
  refine ⟨rfl, _, rfl, iteNS rfl ?_⟩
  refine ⟨.ref a, rfl, ⟨_, st0 _ _ hd⟩, .ty "ValueError", .type "ValueError", true, rfl, fun u h => h, R.qv, true, rfl, iteF ?_⟩
  refine ⟨_, rfl, p3, _, 0, _, rfl, rfl, .of gb0, atI_nat (j := 0) rfl, _, rfl, iteF ?_⟩
  refine ⟨_, rfl, p3, _, 4, _, rfl, rfl, .of gb0, atI_nat (j := 4) rfl, _, rfl, iteT ?_⟩
  refine ⟨.ref a, rfl, rfl, rfl, dd, _, _, rfl, st0 _ _ hd, rfl, (by show 2 ≤ sizeLine; decide), fun p9 hp9 => ?_⟩
  exact q p9 _ (fun b o e => (upd_ne (ne_of_none (st0 b o e) hp9)).trans (st0 b o e)) (n0 st0 hp9) upd_same
def RsO {K : PySem.W.Frag} {mg : Str → Option Value} (S : RdS K mg) (Q : VK) : XK := fun cls d H => ∃ (i : Int) (dd : Addr), cls = .ref S.k4 ∧ d = some dd ∧ H dd = some (.xd [("index", .int i)]) ∧ OpTold i Q H
def TRsO {K : PySem.W.Frag} {mg : Str → Option Value} (S : RdS K mg) : (XK → Hp → VK → Prop) → Hp → VK → Prop := fun tl H Q => ∀ E : XK, (∀ cls d H', RsO S Q cls d H' → E cls d H') → tl E H fun _ H' => Q .non H'
theorem gives_raisedO {S : RdS X.K X.mg} (B : XcF X.K X.mg S.cE S.k4 "index") (R : RdJ S S.k4 4) : GivesV X N_lraised "_law_raised" (defScope s_lraised) g cdg (defBody s_lraised) "_law_work" (TRsO S) := by
  intro f RR s H Q tl hact hR ht
  have nd := sc_lraised.nd
  refine ⟨_, pss_cons (ps_try_as (i := 1) (c := .ref S.cE) (Wout := fun _ _ _ _ => False)
    (ts := fun a cls d DD σ1 H1 => ∀ (oe : Obj) (pn : List (Addr × Obj)), Zc cls d oe → (∃ vs, oe.data = .fields vs) → ∃ t, PSs ((rsCx X g cdg s H).suite a ((a, oe) :: pn)) rsSuite t ∧ t DD σ1 H1)
    rfl rfl nd rfl rfl ⟨rfl, by decide, Or.inl S.gE⟩ LamX.takes0
    (fun W pn xe tk _ => pss_one (ps_expr (hact W pn xe _ _ tk)))
    (fun a oe cls d pn hz hf => ⟨fun pins s1 σ1 H1 DD I h => by
      obtain ⟨t, ht, hh⟩ := h oe pn hz hf
      exact ht.run pins s1 σ1 H1 DD I hh⟩)) (pss_one (ps_ret pe_non)), ?_⟩
  refine ⟨rfl, hR, ht _ fun cls d H' hto => ?_⟩
  obtain ⟨i, dd, rfl, rfl, hd, q⟩ := hto
  refine ⟨true, R.ee, fun _ a ha oe pn hz hf => ?_, fun z => Bool.noConfusion z⟩
  exact raised_op B R hz hf hd rfl q
end
end Rp
/-! _law_raised(lambda: ..); what may change around the law's things. -/
namespace Rp
open PySem PySem.Spec PyProof.Rows L2 Rz Rm Rt Rl LamX
section
variable {X : Cx}
/-- _law_raised(lambda: e), t being e's reading -/
def tRsW {K : PySem.W.Frag} {mg : Str → Option Value} (L : LiX K mg) (Tb : List (Addr × Str)) (t : XK → TE) : TE := fun σ H Q => Tabs Tb H ∧ ∀ H1, ExtN H H1 → Tabs Tb H1 → ∀ E : XK, (∀ cls d H', RsW L Q cls d H' → E cls d H') → t E σ H1 fun _ H' => Q .non H'
theorem pe_rsW {c PT : Addr} {k : Nat} {params : Arguments} {body : Expr} {scope : Scope} {p lp pos : Pos} {t : XK → TE} (T : Tx X.K X.mg) {S : RdS X.K X.mg} {L : LiX X.K X.mg} (W : WdX S L) (eC : L.cE = S.cE) (TB : TabB X.base X.mg c PT) (hcode : X.env.code = .ref c) (hg : Gl X "_law_raised")
    (LP : LamP X.N X.env.scope scope) (hdef : defaultsOf params X.env = ([], [])) (hno : ∀ (q : Str) (cl : List (Str × Addr)) (c' : Addr) (doc pm ctv : Value) (sZ : Shared), BindsTo sZ (PySem.W.kdv_fn "<lambda>" q params (.expr body) scope cl .none doc pm (.ref c') ctv) ⟨[], []⟩ []) (hr : Room (k + 2) X.A)
    (hbody : ∀ (A : Around) (outer : List Env) (s : Shared) (H : Hp) (E : XK) (f c' : Addr), Room k (A.deeper (lamEnv X scope s.heap.objs.size f c')) → PE (lamCx X A outer s H E scope f c') body (t E))
    (hst : starEach [.Lambda params body scope lp] X.env = (false, eval (.Lambda params body scope lp) X.env) :: starEach [] X.env := by rfl) (hpl : (backTo pos (starEach ([] : List Expr) X.env)).any (·.1) = false := by rfl) :
    PE X (.Call (.Name "_law_raised" p) [.Lambda params body scope lp] [] pos) (tRsW L [(PT, X.env.qual ++ "<lambda>")] t) := by
  obtain ⟨oc, od, kV, doc, pm, an, cdv, ct, osl, e, lk, hcd⟩ := T.F_lraised.ex
  have bt := T.b_lraised
  rw [e] at lk bt
  have go := pe_lamcallV (X := X) (ι := Addr) (F := fun c' => ⟨X.env.qual ++ "<lambda>", params, body, scope, cloFrom X.env.cells scope.names [], .none, c'⟩) (G := fun _ _ => True) (TT := TRsW L) (x := "_law_raised") (a := "_law_work") (k := k) (t := fun _ => t) (p := p) (pos := pos)
    hg T.g_lraised T.F_lraised.kp lk hcd bt sc_lraised rfl (.inl rfl) (gives_raisedW W eC)
    ⟨fun _ => LP, fun _ => rfl, fun _ => rfl, fun i doc pm ctv sZ HZ _ _ => ⟨[], hno _ _ _ _ _ _ _, fun y hy => by cases hy⟩⟩
    (pa_cons (pe_lam0 (pos := lp) TB hcode (List.mem_singleton.mpr rfl) (fun q hq _ => by rw [List.mem_singleton.mp hq]) (fun y hy z => LP.free y hy z) hdef) pa_nil) hr
    (fun i A outer s H E f hr2 => hbody A outer s H E f i hr2) hst hpl
  refine ⟨fun pins s σ H Q I h => go.run pins s σ H Q I ?_⟩
  obtain ⟨hT, h⟩ := h
  exact ⟨hT, fun f c' H1 x1 t1 hf e1 e2 => ⟨f, c', rfl, e1, e2, True.intro, fun E hE => h H1 x1 t1 E hE⟩⟩
end
theorem fn_calm {P : Program} {w : World} {K : PySem.W.Frag} {mg : Str → Option Value} {base : Heap} {k : Nat} {f : Addr} {fd : FuncData} {ps : List Str} {sp : Sp} (F : FnOk P w K mg base (L2.CX P w) k f fd ps sp) :
    FnOk P w K mg base CX0 k f fd ps (fun vs H Q _ => sp vs H Q fun _ _ _ => False) := by
  refine ⟨fun vs H Q E h => F.len vs H Q _ h, fun A outer s H args us vs Q E hr e0 b r h => ?_⟩
  refine codeAny_mono (F.run A outer s H args us vs Q _ hr e0 b r h) fun res s' z => ?_
  cases res with
  | ok fl => cases fl <;> exact z
  | error e =>
    obtain ⟨_, _, _, _, _, _, _, _, _, _, _, _, no⟩ := z
    exact no.elim
theorem Tabs_kp {K : PySem.W.Frag} {H H' : Hp} {row a : Addr} {ns : List Int} {Tb : List (Addr × Str)} (RA : RowAt K H row a ns) (k : Kp row H H') (t : Tabs Tb H) : Tabs Tb H' := fun p hp => by
  obtain ⟨_, _, _, hrow, _⟩ := RA.ob
  obtain ⟨ps, h1, h2, h3⟩ := t p hp
  refine ⟨ps, k _ _ h1 (fun e => by rw [e, hrow] at h1; cases h1), h2, fun pos cv hc => ?_⟩
  obtain ⟨c, e1, e2⟩ := h3 pos cv hc
  refine ⟨c, e1, k _ _ e2 (fun e => ?_)⟩
  rw [e, hrow] at e2
  unfold CodeO at e2
  cases e2
theorem Tabs_kl {H H' : Hp} {lr vC dxl : Addr} {fs : List (Str × V)} {Tb : List (Addr × Str)} (hr : H lr = some (.ins vC dxl fs)) (k : KeepL lr H H') (t : Tabs Tb H) : Tabs Tb H' := fun p hp => by
  obtain ⟨ps, h1, h2, h3⟩ := t p hp
  refine ⟨ps, k _ _ h1 (fun e => by rw [e, hr] at h1; cases h1), h2, fun pos cv hc => ?_⟩
  obtain ⟨c, e1, e2⟩ := h3 pos cv hc
  refine ⟨c, e1, k _ _ e2 (fun e => ?_)⟩
  rw [e, hr] at e2
  unfold CodeO at e2
  cases e2
theorem Tabs_list {H : Hp} {x : Addr} {zs ws : List V} {Tb : List (Addr × Str)} (hx : H x = some (.lst zs)) (t : Tabs Tb H) : Tabs Tb (upd H x (.lst ws)) := fun p hp => by
  obtain ⟨ps, h1, h2, h3⟩ := t p hp
  refine ⟨ps, (upd_ne (fun e => by rw [e, hx] at h1; cases h1)).trans h1, h2, fun pos cv hc => ?_⟩
  obtain ⟨c, e1, e2⟩ := h3 pos cv hc
  refine ⟨c, e1, (upd_ne (fun e => ?_)).trans e2⟩
  rw [e, hx] at e2
  unfold CodeO at e2
  cases e2
theorem RowAt.extN {K : PySem.W.Frag} {H H' : Hp} {row a : Addr} {ns : List Int} (R : RowAt K H row a ns) (s : ExtN H H') : RowAt K H' row a ns := by
  obtain ⟨i, m, q, h, h0⟩ := R.ob
  refine ⟨⟨i, m, q, s _ _ h (by intro ps z; cases z), h0⟩, ?_, R.ne⟩
  rcases R.sc with (z | ⟨o, z⟩) | z
  · exact .inl (.inl (s _ _ z (by intro ps z; cases z)))
  · exact .inl (.inr ⟨o, s _ _ z (by intro ps z; cases z)⟩)
  · exact .inr z
theorem RowAt.keepL {K : PySem.W.Frag} {H H' : Hp} {row a lr vC dxl : Addr} {fs : List (Str × V)} {ns : List Int} (R : RowAt K H row a ns) (hr : H lr = some (.ins vC dxl fs)) (s : KeepL lr H H') : RowAt K H' row a ns := by
  obtain ⟨i, m, q, h, h0⟩ := R.ob
  refine ⟨⟨i, m, q, s _ _ h (ne_of h hr (by intro z; cases z)), h0⟩, ?_, R.ne⟩
  rcases R.sc with (z | ⟨o, z⟩) | z
  · exact .inl (.inl (s _ _ z (ne_of z hr (by intro z; cases z))))
  · exact .inl (.inr ⟨o, s _ _ z (ne_of z hr (by intro z; cases z))⟩)
  · exact .inr z
/-- what stays: all but tables of code, rows, instances -/
def Rowish (o : HO) : Prop := ∃ (a : Addr) (i m q : Int), o = .lst [.ref a, .int i, .int m, .int q]
def Kh (H H' : Hp) : Prop := ∀ b o, H b = some o → (∀ ps, o ≠ .tbl ps) → ¬ Rowish o → H' b = some o
def Kj (H H' : Hp) : Prop := ∀ b o, H b = some o → (∀ ps, o ≠ .tbl ps) → ¬ Rowish o → (∀ C d fs, o ≠ .ins C d fs) → H' b = some o
theorem Kh.n {H H' : Hp} (k : Kh H H') : Kj H H' := fun b o h1 h2 h3 _ => k b o h1 h2 h3
theorem Same.kh {H H' : Hp} (s : Same H H') : Kh H H' := fun b o h _ _ => s b o h
theorem ExtN.kh {H H' : Hp} (s : ExtN H H') : Kh H H' := fun b o h n _ => s b o h n
theorem kx_kp {K : PySem.W.Frag} {H H' : Hp} {row a : Addr} {ns : List Int} (RA : RowAt K H row a ns) (k : Kp row H H') : Kh H H' := fun b o h _ n => kp_of RA k h fun i m q e => n ⟨a, i, m, q, e⟩
theorem kn_keepL {H H' : Hp} {lr vC dxl : Addr} {fs : List (Str × V)} (hr : H lr = some (.ins vC dxl fs)) (k : KeepL lr H H') : Kj H H' := fun b o h _ _ n => k b o h fun e => by
  rw [e, hr] at h
  exact n _ _ _ (Option.some.inj h).symm
theorem nr_ints (l : List Int) : ¬ Rowish (.lst (l.map V.int)) := by
  rintro ⟨a, i, m, q, z⟩
  injection z with z
  cases l with
  | nil => cases z
  | cons x r =>
    rw [List.map_cons] at z
    injection z with z1 z2
    cases z1
theorem nr_refs (l : List Addr) : ¬ Rowish (.lst (l.map V.ref)) := by
  rintro ⟨a, i, m, q, z⟩
  injection z with z
  have h1 : (l.map V.ref)[1]? = some (.int i) := by rw [z]; rfl
  rw [List.getElem?_map] at h1
  obtain ⟨y, _, hy⟩ := Option.map_eq_some_iff.mp h1
  cases hy
theorem nr_cu {H : Hp} {cs : List V} {cu : Nat → Option (Int × Int)} (cv : ∀ (j : Nat) (v : V), cs[j]? = some v → CuV H v (cu j)) : ¬ Rowish (.lst cs) := by
  rintro ⟨a, i, m, q, z⟩
  injection z with z
  have h2 := cv 1 (.int i) (by rw [z]; rfl)
  cases e : cu 1 with
  | none =>
    rw [e] at h2
    cases h2
  | some be =>
    rw [e] at h2
    obtain ⟨t, ht, _⟩ := h2
    cases ht
theorem nr_tup (xs : List V) : ¬ Rowish (.tup xs) := by
  rintro ⟨a, i, m, q, z⟩
  cases z
theorem nr_dK (xs : List (Key × V)) : ¬ Rowish (.dK xs) := by
  rintro ⟨a, i, m, q, z⟩
  cases z
theorem nr_ins (C d : Addr) (xs : List (Str × V)) : ¬ Rowish (.ins C d xs) := by
  rintro ⟨a, i, m, q, z⟩
  cases z
section
variable {H H' : Hp}
theorem Kj.tup (k : Kj H H') {b : Addr} {xs : List V} (h : H b = some (.tup xs)) : H' b = some (.tup xs) := k _ _ h (by intro ps z; cases z) (nr_tup xs) (by intro a b c z; cases z)
theorem Kj.lst (k : Kj H H') {b : Addr} {xs : List V} (h : H b = some (.lst xs)) (n : ¬ Rowish (.lst xs)) : H' b = some (.lst xs) := k _ _ h (by intro ps z; cases z) n (by intro a b c z; cases z)
theorem Kh.ins (k : Kh H H') {b C d : Addr} {xs : List (Str × V)} (h : H b = some (.ins C d xs)) : H' b = some (.ins C d xs) := k _ _ h (by intro ps z; cases z) (nr_ins _ _ xs)
theorem DcG.kn (k : Kj H H') {hd : Addr} {g : GS} (S : DcG H hd g) : DcG H' hd g := by
  obtain ⟨ld, hl, rd, ha, cs, S⟩ := S
  obtain ⟨kvs, k1, k2⟩ := S.dic
  exact ⟨ld, hl, rd, ha, cs, ⟨kvs, k _ _ k1 (by intro ps z; cases z) (nr_dK kvs) (by intro a b c z; cases z), k2⟩, k.lst S.old (nr_ints _), k.lst S.ohl (nr_refs _), S.lh, fun j b h => k.lst (S.hv j b h) (nr_ints _), k.lst S.ord (nr_cu S.cv), S.lc, fun j v h => (S.cv j v h).tups fun c ys e => k.tup e, S.n1, S.n2, S.n3, S.nh, S.dh, S.l2, S.l8, S.sm⟩
theorem TbG.kx (k : Kh H H') {C tC tb : Addr} {ss : List Int} {g : GS} (b : TbG C tC ss H tb g) : TbG C tC ss H' tb g := by
  obtain ⟨dxt, p, dx, td, ts, hl, cl, ha, cs, M⟩ := b
  exact ⟨dxt, p, dx, td, ts, hl, cl, ha, cs, k.ins M.ob, ⟨k.ins M.R.ob, k.n.tup M.R.td, k.n.tup M.R.ts, M.R.ok⟩, k.n.lst M.fh (nr_refs _), M.lh, fun j a h => k.n.tup (M.hv j a h), k.n.lst M.fc (nr_cu M.cv), M.lc, fun j v h => (M.cv j v h).tups fun c ys e => k.n.tup e, M.ne, M.sm⟩
theorem OpAt.kn (k : Kj H H') {v : V} {o : Op} (b : OpAt H v o) : OpAt H' v o := by
  obtain ⟨a, e, h⟩ := b
  exact ⟨a, e, k.tup h⟩
theorem LiE.kx (k : Kh H H') {C tC cC vC : Addr} {ss : List Int} {lr : Addr} {gs : List GS} {g : GS} {os us : List Op} (b : LiE C tC cC vC ss H lr gs g os us) : LiE C tC cC vC ss H' lr gs g os us := by
  obtain ⟨dxl, co, dxc, tt, ot, ut, tb, tabs, opl, und, I⟩ := b
  exact ⟨dxl, co, dxc, tt, ot, ut, tb, tabs, opl, und, k.ins I.ob, ⟨k.ins I.co.ob, k.n.tup I.co.ht, k.n.tup I.co.hop, k.n.tup I.co.hu⟩, paired_imp (fun _ _ h => h.kx k) I.tbs, I.tb.kx k, paired_imp (fun _ _ h => h.kn k.n) I.op, paired_imp (fun _ _ h => h.kn k.n) I.un⟩
end
theorem pg_two {X : Cx} {K : PySem.W.Frag} {x y : Str} {p1 p2 pos : Pos} {k i j : Nat} (hc : X.calm = true) (hN : X.N.Nodup) (hi : X.N[i]? = some x) (hj : X.N[j]? = some y) (hx : X.env.scope.names.lookup x = some .local) (hy : X.env.scope.names.lookup y = some .local) (hK : X.K = K) :
    PG X (.Tuple [.Name x p1, .Name y p2] k pos) (gTup K 2 (gCons (gName i) (gCons (gName j) gNil))) := by
  subst hK
  exact pg_tup hc (pgs_cons (pg_name hN hi (.inl hx) (.inr hx)) (pgs_cons (pg_name hN hj (.inl hy) (.inr hy)) pgs_nil))
section
variable {X : Cx}
/-- _law_raised(lambda: e), t being e's reading -/
def tRsO {K : PySem.W.Frag} {mg : Str → Option Value} (S : RdS K mg) (Tb : List (Addr × Str)) (t : XK → TE) : TE := fun σ H Q => Tabs Tb H ∧ ∀ H1, ExtN H H1 → Tabs Tb H1 → ∀ E : XK, (∀ cls d H', RsO S Q cls d H' → E cls d H') → t E σ H1 fun _ H' => Q .non H'
theorem pe_rsO {c PT : Addr} {k : Nat} {params : Arguments} {body : Expr} {scope : Scope} {p lp pos : Pos} {t : XK → TE} (T : Tx X.K X.mg) {S : RdS X.K X.mg} (B : XcF X.K X.mg S.cE S.k4 "index") (RJ : RdJ S S.k4 4) (TB : TabB X.base X.mg c PT) (hcode : X.env.code = .ref c) (hg : Gl X "_law_raised")
    (LP : LamP X.N X.env.scope scope) (hdef : defaultsOf params X.env = ([], [])) (hno : ∀ (q : Str) (cl : List (Str × Addr)) (c' : Addr) (doc pm ctv : Value) (sZ : Shared), BindsTo sZ (PySem.W.kdv_fn "<lambda>" q params (.expr body) scope cl .none doc pm (.ref c') ctv) ⟨[], []⟩ []) (hr : Room (k + 2) X.A)
    (hbody : ∀ (A : Around) (outer : List Env) (s : Shared) (H : Hp) (E : XK) (f c' : Addr), Room k (A.deeper (lamEnv X scope s.heap.objs.size f c')) → PE (lamCx X A outer s H E scope f c') body (t E))
    (hst : starEach [.Lambda params body scope lp] X.env = (false, eval (.Lambda params body scope lp) X.env) :: starEach [] X.env := by rfl) (hpl : (backTo pos (starEach ([] : List Expr) X.env)).any (·.1) = false := by rfl) :
    PE X (.Call (.Name "_law_raised" p) [.Lambda params body scope lp] [] pos) (tRsO S [(PT, X.env.qual ++ "<lambda>")] t) := by
  obtain ⟨oc, od, kV, doc, pm, an, cdv, ct, osl, e, lk, hcd⟩ := T.F_lraised.ex
  have bt := T.b_lraised
  rw [e] at lk bt
  have go := pe_lamcallV (X := X) (ι := Addr) (F := fun c' => ⟨X.env.qual ++ "<lambda>", params, body, scope, cloFrom X.env.cells scope.names [], .none, c'⟩) (G := fun _ _ => True) (TT := TRsO S) (x := "_law_raised") (a := "_law_work") (k := k) (t := fun _ => t) (p := p) (pos := pos)
    hg T.g_lraised T.F_lraised.kp lk hcd bt sc_lraised rfl (.inl rfl) (gives_raisedO B RJ)
    ⟨fun _ => LP, fun _ => rfl, fun _ => rfl, fun i doc pm ctv sZ HZ _ _ => ⟨[], hno _ _ _ _ _ _ _, fun y hy => by cases hy⟩⟩
    (pa_cons (pe_lam0 (pos := lp) TB hcode (List.mem_singleton.mpr rfl) (fun q hq _ => by rw [List.mem_singleton.mp hq]) (fun y hy z => LP.free y hy z) hdef) pa_nil) hr
    (fun i A outer s H E f hr2 => hbody A outer s H E f i hr2) hst hpl
  refine ⟨fun pins s σ H Q I h => go.run pins s σ H Q I ?_⟩
  obtain ⟨hT, h⟩ := h
  exact ⟨hT, fun f c' H1 x1 t1 hf e1 e2 => ⟨f, c', rfl, e1, e2, True.intro, fun E hE => h H1 x1 t1 E hE⟩⟩
end
abbrev p0 : Pos := ⟨0, 0, 0, 0⟩
def stBody : Stmt → List Stmt
  | .For _ _ b _ _ => b
  | .While _ b _ _ => b
  | .If _ b _ _ => b
  | _ => []
abbrev bs (j : Nat) : Stmt := (defBody s_law).getD j (.Pass ⟨0, 0, 0, 0⟩)
abbrev bfl (i j : Nat) : Stmt := (stBody (bs i)).getD j (.Pass ⟨0, 0, 0, 0⟩)
/-- the lambda that a test calls -/
def raE : Stmt → Expr
  | .If (.Compare (.Call _ (e :: _) _ _) _ _ _) _ _ _ => e
  | e => .Name "" p0
abbrev XL (P : Program) (w : World) (K : PySem.W.Frag) (mg : Str → Option Value) (base : Heap) (f : Addr) (cdv : Value) (A : Around) (outer : List Env) (s : Shared) (H0 : Hp) (E : XK) : Cx := (cxOf CX0 P w K mg base N_law "law" (defScope s_law) f cdv A outer s H0 E).nox
end Rp
/-! k53: what the law has at hand. -/
namespace Rp
open PySem PySem.Spec PyProof.Rows L2 Rz Rm Rt Rl LamX
def endG : List Op → GS → GS
  | [], g => g
  | o :: r, g => endG r (stp o g)
def gsF : List Op → GS → List GS
  | [], _ => []
  | o :: r, g => g :: gsF r (stp o g)
/-- all these operations can be done, one after the other -/
def Gd (N : Nat) (m : Int) : List Op → GS → Prop
  | [], g => GI N m g
  | o :: r, g => GI N m g ∧ OpOk N o ∧ err o g = none ∧ Gd N m r (stp o g)
theorem Gd.first {N : Nat} {m : Int} : ∀ {os : List Op} {g : GS}, Gd N m os g → GI N m g
  | [], _, h => h
  | _ :: _, _, h => h.1
theorem Gd.last {N : Nat} {m : Int} : ∀ {os : List Op} {g : GS}, Gd N m os g → GI N m (endG os g)
  | [], _, h => h
  | o :: r, g, h => Gd.last (os := r) h.2.2.2
theorem Gd.mono {N : Nat} {m m' : Int} (l : m ≤ m') : ∀ {os : List Op} {g : GS}, Gd N m os g → Gd N m' os g
  | [], _, h => GI.mono h l
  | o :: r, g, h => ⟨GI.mono h.1 l, h.2.1, h.2.2.1, Gd.mono l (os := r) (g := stp o g) h.2.2.2⟩
theorem endG_snoc {o : Op} : ∀ {os : List Op} {g : GS}, endG (os ++ [o]) g = stp o (endG os g)
  | [], _ => rfl
  | _ :: r, g => endG_snoc (os := r)
theorem gsF_snoc {o : Op} : ∀ {os : List Op} {g : GS}, gsF (os ++ [o]) g = gsF os g ++ [endG os g]
  | [], _ => rfl
  | x :: r, g => by
    show g :: gsF (r ++ [o]) (stp x g) = g :: (gsF r (stp x g) ++ [endG r (stp x g)])
    rw [gsF_snoc]
theorem gsF_len : ∀ {os : List Op} {g : GS}, (gsF os g).length = os.length
  | [], _ => rfl
  | _ :: r, g => by
    show (gsF r _).length + 1 = r.length + 1
    rw [gsF_len]
theorem Gd.snoc {N : Nat} {m : Int} {o : Op} : ∀ {os : List Op} {g : GS}, Gd N m os g → OpOk N o → err o (endG os g) = none → GI N m (stp o (endG os g)) → Gd N m (os ++ [o]) g
  | [], _, h, h1, h2, h3 => ⟨h, h1, h2, h3⟩
  | _ :: r, g, h, h1, h2, h3 => ⟨h.1, h.2.1, h.2.2.1, Gd.snoc (os := r) h.2.2.2 h1 h2 h3⟩
theorem Gd.take {N : Nat} {m : Int} : ∀ {os : List Op} {g : GS} (k : Nat), Gd N m os g → Gd N m (os.take k) g
  | _, _, 0, h => h.first
  | [], _, _ + 1, h => h
  | _ :: r, g, k + 1, h => ⟨h.1, h.2.1, h.2.2.1, Gd.take (os := r) k h.2.2.2⟩
theorem Gd.at {N : Nat} {m : Int} {o : Op} : ∀ {os : List Op} {g : GS} {k : Nat}, Gd N m os g → os[k]? = some o → OpOk N o ∧ err o (endG (os.take k) g) = none ∧ endG (os.take (k + 1)) g = stp o (endG (os.take k) g) ∧ (gsF os g)[k]? = some (endG (os.take k) g) ∧ gsF (os.take (k + 1)) g = gsF (os.take k) g ++ [endG (os.take k) g]
  | x :: r, g, 0, h, e => by
    cases e
    exact ⟨h.2.1, h.2.2.1, rfl, rfl, rfl⟩
  | x :: r, g, k + 1, h, e => by
    obtain ⟨a, b, c, d, f⟩ := Gd.at (os := r) (k := k) h.2.2.2 e
    refine ⟨a, b, c, d, ?_⟩
    show g :: gsF (r.take (k + 1)) (stp x g) = (g :: gsF (r.take k) (stp x g)) ++ [_]
    rw [f]
    rfl
section
variable {P : Program} {w : World} {K : PySem.W.Frag} {mg : Str → Option Value} {base : Heap}
theorem Gd.go {T : Tx K mg} {X : Ax w T} (L : LiX K mg) {E : XK} {Hs : Hp} {N : Nat} {m : Int} : ∀ {os : List Op} {g : GS}, Gd N m os g → GoN (ActP P w base T X E Hs) os g fun gs gF _ => gs = gsF os g ∧ gF = endG os g
  | [], g, _ => ⟨rfl, rfl⟩
  | o :: r, g, h => by
    have G := h.1
    have ln := G.len
    refine ⟨fun g' _ => g' = stp o g, act_can T X L (by rw [← ln] at G; exact G) (by rw [ln]; exact h.2.1) h.2.2.1, fun g' x hp => ?_⟩
    subst hp
    refine (Gd.go (T := T) (X := X) L (E := E) (Hs := Hs) (os := r) h.2.2.2).imp fun a b c z => ?_
    exact ⟨by rw [z.1]; rfl, z.2⟩
end
/-- what the law's own lists begin with -/
def Cz (H : Hp) (zs : List V) : Prop := ∀ x, zs[0]? = some x → ∃ r, x = .ref r ∧ ((∃ s u, H r = some (.tup (.str s :: u))) ∨ ∃ a b c d, H r = some (.lst [.int a, .int b, .ref c, .ref d]))
section
variable {H H' : Hp} {x : Addr} {zs : List V}
theorem cz_ints (c : Cz H zs) {l : List Int} (h : l ≠ []) : l.map V.int ≠ zs := fun e => by
  cases l with
  | nil => exact h rfl
  | cons y r =>
    obtain ⟨q, hq, _⟩ := c (.int y) (by rw [← e]; rfl)
    cases hq
theorem cz_tups (c : Cz H zs) {ha : List Addr} {hp : Nat → List Int} (h : ha ≠ []) (hv : ∀ (j : Nat) (a : Addr), ha[j]? = some a → H a = some (.tup ((hp j).map V.int))) : ha.map V.ref ≠ zs := fun e => by
  cases ha with
  | nil => exact h rfl
  | cons y r =>
    obtain ⟨q, hq, c⟩ := c (.ref y) (by rw [← e]; rfl)
    cases hq
    have h1 := hv 0 y rfl
    rcases c with ⟨s, u, c⟩ | ⟨_, _, _, _, c⟩
    · rw [h1] at c
      cases hl : hp 0 with
      | nil =>
        rw [hl] at c
        cases c
      | cons b t =>
        rw [hl] at c
        have := Option.some.inj c
        injection this with this
        rw [List.map_cons] at this
        injection this with this _
        cases this
    · rw [h1] at c
      cases c
theorem cz_lsts (c : Cz H zs) {ha : List Addr} {hp : Nat → List Int} (h : ha ≠ []) (hv : ∀ (j : Nat) (a : Addr), ha[j]? = some a → H a = some (.lst ((hp j).map V.int))) : ha.map V.ref ≠ zs := fun e => by
  cases ha with
  | nil => exact h rfl
  | cons y r =>
    obtain ⟨q, hq, c⟩ := c (.ref y) (by rw [← e]; rfl)
    cases hq
    have h1 := hv 0 y rfl
    rcases c with ⟨s, u, c⟩ | ⟨i1, i2, i3, i4, c⟩
    · rw [h1] at c
      cases c
    · rw [h1] at c
      have := Option.some.inj c
      injection this with this
      have h2 : ((hp 0).map V.int)[2]? = some (.ref i3) := by rw [this]; rfl
      rw [List.getElem?_map] at h2
      obtain ⟨y, _, hy⟩ := Option.map_eq_some_iff.mp h2
      cases hy
theorem cz_cu (c : Cz H zs) {cs : List V} {cu : Nat → Option (Int × Int)} (h : cs ≠ []) (cv : ∀ (j : Nat) (v : V), cs[j]? = some v → CuV H v (cu j)) : cs ≠ zs := fun e => by
  cases cs with
  | nil => exact h rfl
  | cons y r =>
    obtain ⟨q, hq, c⟩ := c y (by rw [← e]; rfl)
    have h1 := cv 0 y rfl
    cases e0 : cu 0 with
    | none =>
      rw [e0] at h1
      have h1 : y = .non := h1
      rw [h1] at hq
      cases hq
    | some be =>
      rw [e0] at h1
      obtain ⟨t, ht, h2⟩ := h1
      rw [hq] at ht
      cases ht
      rcases c with ⟨s, u, c⟩ | ⟨_, _, _, _, c⟩
      · rw [h2] at c
        have := Option.some.inj c
        injection this with this
        injection this with this _
        cases this
      · rw [h2] at c
        cases c
theorem ne_lst {y : Addr} {ys : List V} (hx : H x = some (.lst zs)) (hy : H y = some (.lst ys)) (n : ys ≠ zs) : y ≠ x := fun e => by
  rw [e, hx] at hy
  have := Option.some.inj hy
  injection this with this
  exact n this.symm
theorem nil_of {α : Type} {l : List α} {n : Nat} (h : l.length = n) (h2 : 2 ≤ n) : l ≠ [] := fun e => by
  rw [e] at h
  have : 0 = n := h
  omega
theorem TbG.kz {C tC tb : Addr} {ss : List Int} {g : GS} (b : TbG C tC ss H tb g) (hx : H x = some (.lst zs)) (c : Cz H zs) (k : KpL x H H') : TbG C tC ss H' tb g := by
  obtain ⟨dxt, p, dx, td, ts, hl, cl, ha, cs, M⟩ := b
  have l2 : 2 ≤ g.ds.length := M.R.ok.l2
  have kn : ∀ {y o}, H y = some o → (∀ l, o ≠ .lst l) → H' y = some o := fun {y o} e n => k _ _ e fun z => by
    rw [z, hx] at e
    exact n _ (Option.some.inj e).symm
  exact ⟨dxt, p, dx, td, ts, hl, cl, ha, cs, kn M.ob (fun _ z => by cases z), ⟨kn M.R.ob (fun _ z => by cases z), kn M.R.td (fun _ z => by cases z), kn M.R.ts (fun _ z => by cases z), M.R.ok⟩, k _ _ M.fh (ne_lst hx M.fh (cz_tups c (nil_of M.lh l2) M.hv)), M.lh, fun j a h => kn (M.hv j a h) (fun _ z => by cases z), k _ _ M.fc (ne_lst hx M.fc (cz_cu c (nil_of M.lc l2) M.cv)), M.lc, fun j v h => (M.cv j v h).tups fun c ys e => kn e (fun _ z => by cases z), M.ne, M.sm⟩
theorem LiE.kz {C tC cC vC : Addr} {ss : List Int} {lr : Addr} {gs : List GS} {g : GS} {os us : List Op} (b : LiE C tC cC vC ss H lr gs g os us) (hx : H x = some (.lst zs)) (c : Cz H zs) (k : KpL x H H') : LiE C tC cC vC ss H' lr gs g os us := by
  obtain ⟨dxl, co, dxc, tt, ot, ut, tb, tabs, opl, und, I⟩ := b
  have kn : ∀ {y o}, H y = some o → (∀ l, o ≠ .lst l) → H' y = some o := fun {y o} e n => k _ _ e fun z => by
    rw [z, hx] at e
    exact n _ (Option.some.inj e).symm
  have op : ∀ v o, OpAt H v o → OpAt H' v o := fun v o ⟨a, e, h⟩ => ⟨a, e, kn h (fun _ z => by cases z)⟩
  exact ⟨dxl, co, dxc, tt, ot, ut, tb, tabs, opl, und, kn I.ob (fun _ z => by cases z), ⟨kn I.co.ob (fun _ z => by cases z), kn I.co.ht (fun _ z => by cases z), kn I.co.hop (fun _ z => by cases z), kn I.co.hu (fun _ z => by cases z)⟩, paired_imp (fun _ _ h => h.kz hx c k) I.tbs, I.tb.kz hx c k, paired_imp op I.op, paired_imp op I.un⟩
/-- the law's dict ring, its heaps apart from some lists -/
def DcA (A : Addr → Prop) (H : Hp) (hd : Addr) (g : GS) : Prop := ∃ (ld hl rd : Addr) (ha : List Addr) (cs : List V), DcT H hd ld hl rd ha cs g.ds g.t.day g.coming g.t.hp g.t.cu ∧ ∀ a ∈ ha, A a
theorem DcA.g {A : Addr → Prop} {hd : Addr} {g : GS} (b : DcA A H hd g) : DcG H hd g := by
  obtain ⟨ld, hl, rd, ha, cs, S, _⟩ := b
  exact ⟨ld, hl, rd, ha, cs, S⟩
theorem DcA.kj {A : Addr → Prop} {hd : Addr} {g : GS} (b : DcA A H hd g) (k : Kj H H') : DcA A H' hd g := by
  obtain ⟨ld, hl, rd, ha, cs, S, f⟩ := b
  obtain ⟨kvs, k1, k2⟩ := S.dic
  exact ⟨ld, hl, rd, ha, cs, ⟨⟨kvs, k _ _ k1 (by intro ps z; cases z) (nr_dK kvs) (by intro a b c z; cases z), k2⟩, k.lst S.old (nr_ints _), k.lst S.ohl (nr_refs _), S.lh, fun j b h => k.lst (S.hv j b h) (nr_ints _), k.lst S.ord (nr_cu S.cv), S.lc, fun j v h => (S.cv j v h).tups fun c ys e => k.tup e, S.n1, S.n2, S.n3, S.nh, S.dh, S.l2, S.l8, S.sm⟩, f⟩
theorem DcA.kz {A : Addr → Prop} {hd : Addr} {g : GS} (b : DcA A H hd g) (hx : H x = some (.lst zs)) (c : Cz H zs) (k : KpL x H H') (ax : ∀ a, A a → a ≠ x) : DcA A H' hd g := by
  obtain ⟨ld, hl, rd, ha, cs, S, f⟩ := b
  obtain ⟨kvs, k1, k2⟩ := S.dic
  have l2 := S.l2
  have kn : ∀ {y o}, H y = some o → (∀ l, o ≠ .lst l) → H' y = some o := fun {y o} e n => k _ _ e fun z => by
    rw [z, hx] at e
    exact n _ (Option.some.inj e).symm
  exact ⟨ld, hl, rd, ha, cs, ⟨⟨kvs, kn k1 (fun _ z => by cases z), k2⟩, k _ _ S.old (ne_lst hx S.old (cz_ints c (nil_of rfl l2))), k _ _ S.ohl (ne_lst hx S.ohl (cz_lsts c (nil_of S.lh l2) S.hv)), S.lh, fun j b h => k _ _ (S.hv j b h) (ax b (f b (List.mem_of_getElem? h))), k _ _ S.ord (ne_lst hx S.ord (cz_cu c (nil_of S.lc l2) S.cv)), S.lc, fun j v h => (S.cv j v h).tups fun c ys e => kn e (fun _ z => by cases z), S.n1, S.n2, S.n3, S.nh, S.dh, S.l2, S.l8, S.sm⟩, f⟩
theorem TV.kj {A : Addr → Prop} {v : V} {g : GS} (b : TV A H v g) (k : Kj H H') : TV A H' v g := by
  obtain ⟨L, D, B, ha, cs, e, h1, h2, h3, h4, h5, h6, h7, h8⟩ := b
  exact ⟨L, D, B, ha, cs, e, k.lst h1 (by rintro ⟨a, i, m, q, z⟩; cases z), k.lst h2 (nr_refs _), h3, fun j a h => k.lst (h4 j a h) (nr_ints _), k.lst h5 (nr_cu h7), h6, fun j v h => (h7 j v h).tups fun _ _ e => k.tup e, h8⟩
theorem TV.kz {A : Addr → Prop} {v : V} {g : GS} (b : TV A H v g) (l2 : 2 ≤ g.ds.length) (hx : H x = some (.lst zs)) (c : Cz H zs) (k : KpL x H H') (ax : ∀ a, A a → a ≠ x) : TV A H' v g := by
  obtain ⟨L, D, B, ha, cs, e, h1, h2, h3, h4, h5, h6, h7, h8⟩ := b
  exact ⟨L, D, B, ha, cs, e, k _ _ h1 (ne_lst hx h1 fun z => by
    obtain ⟨q, hq, _⟩ := c _ (by rw [← z]; rfl)
    cases hq), k _ _ h2 (ne_lst hx h2 (cz_lsts c (nil_of h3 l2) h4)), h3, fun j a h => k _ _ (h4 j a h) (ax a (h8 a (List.mem_of_getElem? h))), k _ _ h5 (ne_lst hx h5 (cz_cu c (nil_of h6 l2) h7)), h6, fun j v h => (h7 j v h).tups fun c ys e => k _ _ e (ne_of e hx (by intro z; cases z)), h8⟩
end
end Rp
/-! k53: the law's lambdas; what it holds. -/
namespace Rp
open PySem PySem.Spec PyProof.Rows L2 Rz Rm Rt Rl LamX
abbrev le1 : Expr := raE (bs 9)
abbrev le2 : Expr := raE (bs 14)
section
variable {P : Program} {w : World} {K : PySem.W.Frag} {mg : Str → Option Value} {base : Heap}
variable {f : Addr} {cT PT : Addr} {A : Around} {outer : List Env} {s : Shared} {H0 : Hp} {E : XK}
/-- three days and 401 days -/
def L1R {K : PySem.W.Frag} {mg : Str → Option Value} (C tC cC vC : Addr) (L : LiX K mg) (E' : XK) : TE := fun σ H _ => ∃ (lr : Addr) (ss : List Int) (gs : List GS) (g : GS) (os us : List Op) (m : Int), σ[4]? = some (some (.ref lr)) ∧ LiE C tC cC vC ss H lr gs g os us ∧ GI g.ds.length m g ∧ gs.length ≤ 600 ∧ os.length ≤ 600 ∧
  ∀ H', Same H H' → E' (.ref L.CN) none H'
/-- a day, and no operation -/
def L2R (C tC cC vC CO : Addr) (E' : XK) : TE := fun σ H _ => ∃ (lr dxl co : Addr), σ[4]? = some (some (.ref lr)) ∧ H lr = some (.ins vC dxl (liF co .non)) ∧
  ∀ dd H', Same H H' → H' dd = some (.xd [("index", .int 1)]) → E' (.ref CO) (some dd) H'
section
variable {A' : Around} {outer' : List Env} {s' : Shared} {H' : Hp} {E' : XK} {f' c' : Addr}
theorem h1 (T : Tx K mg) (Y : Ax w T) (L : LiX K mg) (hr : Room 10 (A'.deeper (lamEnv (XL P w K mg base f (.ref cT) A outer s H0 E) (lpS le1) s'.heap.objs.size f' c'))) : PE (lamCx (XL P w K mg base f (.ref cT) A outer s H0 E) A' outer' s' H' E' (lpS le1) f' c') (lpB le1) (L1R T.C T.tC T.cC T.vC L E') := by
  have go : PE (lamCx (XL P w K mg base f (.ref cT) A outer s H0 E) A' outer' s' H' E' (lpS le1) f' c') (lpB le1) _ := (pe_methR (E := E') (pv 4) T.clv T.mv_apply (ok_an T Y) hr (passes_call (takes_of rfl rfl rfl rfl) (fun _ _ _ _ z => z)) (pa_cons (pe_tup (pa_cons pe_str (pa_cons pe_int pa_nil))) (pa_cons (pe_tup (pa_cons pe_str (pa_cons pe_int pa_nil))) pa_nil)))
  refine ⟨fun pins s σ H Q I h => go.run pins s σ H Q I ?_⟩
  obtain ⟨lr, ss, gs, g, os, us, m, e4, ⟨dxl, co, dxc, tt, ot, ut, tb, tabs, opl, und, I1⟩, G, l1, l2, qe⟩ := h
  refine ⟨_, e4, lr, dxl, _, rfl, I1.ob, rfl, (by show 2 ≤ sizeLine; decide), fun o1 ho1 => ?_⟩
  have u1 := same_upd (o := .tup [.str "pass_days", .int 3]) ho1
  have g1 : (upd H o1 (.tup [.str "pass_days", .int 3])) o1 = some (.tup [.str "pass_days", .int 3]) := upd_same
  generalize (upd H o1 (.tup [.str "pass_days", .int 3])) = H1 at u1 g1 ⊢
  refine ⟨(by decide), fun o2 ho2 => ?_⟩
  have u2 := same_upd (o := .tup [.str "pass_days", .int 401]) ho2
  have g2 : (upd H1 o2 (.tup [.str "pass_days", .int 401])) o2 = some (.tup [.str "pass_days", .int 401]) := upd_same
  have g12 := u2 _ _ g1
  have s2 := u1.trans u2
  generalize (upd H1 o2 (.tup [.str "pass_days", .int 401])) = H2 at s2 g2 g12 ⊢
  refine ⟨[.ref lr], [.ref o1, .ref o2], rfl, rfl, (by show 2 ≤ sizeLine; decide), fun p hp => ?_⟩
  have u3 := same_upd (o := .tup [.ref o1, .ref o2]) hp
  have s3 := s2.trans u3
  have I3 := I1.same s3
  refine ⟨lr, p, dxl, co, .non, [.ref o1, .ref o2], ss, gs, g, os, us, [.pass 3, .pass 401], fun _ _ _ => False, rfl, upd_same, .cons ⟨o1, rfl, u3 _ _ g12⟩ (.cons ⟨o2, rfl, u3 _ _ g2⟩ .nil), I3.ob, ⟨dxc, tt, ot, ut, tb, tabs, opl, und, I3.co, I3.tbs, I3.tb, I3.op, I3.un⟩, (by show gs.length + 2 ≤ 700; omega), (by show os.length + 2 ≤ 700; omega), ?_, fun _ _ _ _ _ _ _ _ z => z.elim⟩
  refine ⟨_, act_can T Y L G (o := .pass 3) (by show 3 ≤ 400; decide) rfl, fun g' x hp => ?_⟩
  exact ⟨_, act_401 T Y L (n := 401) (by decide) fun H' s' => qe H' (s3.trans s'), fun g2 x2 z => z.elim⟩
theorem h2 (T : Tx K mg) (Y : Ax w T) {S : RdS K mg} (BO : XcF K mg S.cE S.k4 "index") (hr : Room 10 (A'.deeper (lamEnv (XL P w K mg base f (.ref cT) A outer s H0 E) (lpS le2) s'.heap.objs.size f' c'))) : PE (lamCx (XL P w K mg base f (.ref cT) A outer s H0 E) A' outer' s' H' E' (lpS le2) f' c') (lpB le2) (L2R T.C T.tC T.cC T.vC S.k4 E') := by
  have go : PE (lamCx (XL P w K mg base f (.ref cT) A outer s H0 E) A' outer' s' H' E' (lpS le2) f' c') (lpB le2) _ := (pe_methR (E := E') (pv 4) T.clv T.mv_apply (ok_apB T Y BO S.g4) hr (passes_call (takes_of rfl rfl rfl rfl) (fun _ _ _ _ z => z)) (pa_cons (pe_tup (pa_cons pe_str (pa_cons pe_int pa_nil))) (pa_cons (pe_tup (pa_cons pe_str pa_nil)) pa_nil)))
  refine ⟨fun pins s σ H Q I h => go.run pins s σ H Q I ?_⟩
  obtain ⟨lr, dxl, co, e4, hlr, qe⟩ := h
  refine ⟨_, e4, lr, dxl, _, rfl, hlr, rfl, (by show 2 ≤ sizeLine; decide), fun o1 ho1 => ?_⟩
  have u1 := same_upd (o := .tup [.str "pass_days", .int 1]) ho1
  have g1 : (upd H o1 (.tup [.str "pass_days", .int 1])) o1 = some (.tup [.str "pass_days", .int 1]) := upd_same
  generalize (upd H o1 (.tup [.str "pass_days", .int 1])) = H1 at u1 g1 ⊢
  refine ⟨(by decide), fun o2 ho2 => ?_⟩
  have u2 := same_upd (o := .tup [.str "take"]) ho2
  have g2 : (upd H1 o2 (.tup [.str "take"])) o2 = some (.tup [.str "take"]) := upd_same
  have g12 := u2 _ _ g1
  have s2 := u1.trans u2
  generalize (upd H1 o2 (.tup [.str "take"])) = H2 at s2 g2 g12 ⊢
  refine ⟨[.ref lr], [.ref o1, .ref o2], rfl, rfl, (by show 2 ≤ sizeLine; decide), fun p hp => ?_⟩
  have u3 := same_upd (o := .tup [.ref o1, .ref o2]) hp
  refine ⟨lr, p, [.ref o1, .ref o2], 1, .ref o2, rfl, upd_same, by decide, rfl, fun i x hi hx => ?_, fun H' s' => ?_, fun dd H' s' hd => qe dd H' ((s2.trans u3).trans s') hd⟩
  · have : i = 0 := by omega
    subst this
    cases hx
    exact ⟨.pass 1, o1, rfl, u3 _ _ g12⟩
  · obtain ⟨tk, hB⟩ := Y.tB
    have gt := s' _ _ (u3 _ _ g2)
    exact .inl ⟨o2, "take", [], [], _, rfl, gt, .tup (.of gt) (.cons (.str _) .nil), sh_op (as := []) (by decide +kernel), hB, (fun z => by cases z), fun u hu => ⟨_, tk, (Option.some.inj hu).symm, rfl⟩⟩
end
end
end Rp
/-! k53: what the law holds. -/
namespace Rp
open PySem PySem.Spec PyProof.Rows L2 Rz Rm Rt Rl LamX
structure Lq where
  (a row p dx td ts lr hd dl sl : Addr)
  (ns ds ss : List Int)
  (opv stv : List V)
  os : List Op
structure LD1 (K : PySem.W.Frag) (C tC cC vC : Addr) (Tb : List (Addr × Str)) (H : Hp) (q : Lq) (n : Nat) : Prop where
  RA : RowAt K H q.row q.a q.ns
  tb : Tabs Tb H
  R : RingAt C H q.p q.dx q.td q.ts q.ds q.ss
  I : LiE C tC cC vC q.ss H q.lr (gsF q.os (g0 q.ds q.ss)) (endG q.os (g0 q.ds q.ss)) q.os []
  S : DcA (fun a => a ≠ q.dl ∧ a ≠ q.sl) H q.hd (endG q.os (g0 q.ds q.ss))
  hdl : H q.dl = some (.lst q.opv)
  hsl : H q.sl = some (.lst q.stv)
  po : Paired (OpAt H) q.opv q.os
  ps : Paired (TV (fun a => a ≠ q.dl ∧ a ≠ q.sl) H) q.stv (gsF q.os (g0 q.ds q.ss))
  G : Gd q.ds.length (12 + (n : Int)) q.os (g0 q.ds q.ss)
  ln : q.os.length ≤ n
  n1 : q.dl ≠ q.row
  n2 : q.sl ≠ q.row
  n3 : q.dl ≠ q.sl
  f1 : q.dl ≠ q.a ∨ Wr K q.a (q.ns.map V.int)
  f2 : q.sl ≠ q.a ∨ Wr K q.a (q.ns.map V.int)
theorem nr_paired {β : Type} {R : V → β → Prop} {vs : List V} {ys : List β} (hr : ∀ v y, R v y → ∃ r, v = .ref r) (h : Paired R vs ys) : ¬ Rowish (.lst vs) := by
  rintro ⟨a, i, m, q, z⟩
  injection z with z
  subst z
  cases h with
  | cons _ t =>
    cases t with
    | cons r _ =>
      obtain ⟨e, he⟩ := hr _ _ r
      cases he
theorem opAt_ref {H : Hp} (v : V) (o : Op) (h : OpAt H v o) : ∃ r, v = .ref r := by
  obtain ⟨a, e, _⟩ := h
  exact ⟨a, e⟩
theorem tv_ref {A : Addr → Prop} {H : Hp} (v : V) (g : GS) (h : TV A H v g) : ∃ r, v = .ref r := by
  obtain ⟨L, D, B, ha, cs, e, _⟩ := h
  exact ⟨L, e⟩
theorem cz_ops {H : Hp} {vs : List V} {os : List Op} (h : Paired (OpAt H) vs os) : Cz H vs := fun x hx => by
  obtain ⟨o, _, a, e, ha⟩ := paired_at h hx
  refine ⟨a, e, .inl ?_⟩
  cases o <;> exact ⟨_, _, ha⟩
theorem cz_tvs {A : Addr → Prop} {H : Hp} {vs : List V} {gs : List GS} (h : Paired (TV A H) vs gs) : Cz H vs := fun x hx => by
  obtain ⟨g, _, L, D, B, ha, cs, e, h1, _⟩ := paired_at h hx
  exact ⟨L, e, .inr ⟨_, _, _, _, h1⟩⟩
theorem paired_impM {α β : Type} {R S : α → β → Prop} : ∀ {xs : List α} {ys : List β}, (∀ x y, y ∈ ys → R x y → S x y) → Paired R xs ys → Paired S xs ys
  | _, _, _, .nil => .nil
  | _, _, f, .cons r t => .cons (f _ _ List.mem_cons_self r) (paired_impM (fun x y m => f x y (List.mem_cons_of_mem _ m)) t)
theorem Gd.mem {N : Nat} {m : Int} {x : GS} : ∀ {os : List Op} {g : GS}, Gd N m os g → x ∈ gsF os g → GI N m x
  | [], _, _, h => by cases h
  | o :: r, g, h, hx => by
    rcases List.mem_cons.mp hx with e | hx
    · rw [e]
      exact h.1
    · exact Gd.mem (os := r) (g := stp o g) h.2.2.2 hx
theorem RingAt.keepL {C lr vC dxl co p dx td ts : Addr} {H H' : Hp} {ds ss : List Int} (R : RingAt C H p dx td ts ds ss) (hr : H lr = some (.ins vC dxl (liF co .non))) (k : KeepL lr H H') : RingAt C H' p dx td ts ds ss := by
  have np : p ≠ lr := fun z => by
    have h1 := R.ob
    rw [z, hr] at h1
    have h2 := Option.some.inj h1
    injection h2 with _ _ h3
    have h5 := flds_days td ts
    rw [← h3] at h5
    cases h5
  exact ⟨k _ _ R.ob np, k _ _ R.td (ne_of R.td hr (by intro z; cases z)), k _ _ R.ts (ne_of R.ts hr (by intro z; cases z)), R.ok⟩
section
variable {K : PySem.W.Frag} {C tC cC vC : Addr} {Tb : List (Addr × Str)} {H H' : Hp} {q : Lq} {n : Nat}
theorem LD1.kh (b : LD1 K C tC cC vC Tb H q n) (k : Kh H H') (RA' : RowAt K H' q.row q.a q.ns) (tb' : Tabs Tb H') : LD1 K C tC cC vC Tb H' q n :=
  ⟨RA', tb', ⟨k.ins b.R.ob, k.n.tup b.R.td, k.n.tup b.R.ts, b.R.ok⟩, b.I.kx k, b.S.kj k.n, k.n.lst b.hdl (nr_paired opAt_ref b.po), k.n.lst b.hsl (nr_paired tv_ref b.ps), paired_imp (fun _ _ h => OpAt.kn k.n h) b.po, paired_imp (fun _ _ h => h.kj k.n) b.ps, b.G, b.ln, b.n1, b.n2, b.n3, b.f1, b.f2⟩
theorem LD1.same (b : LD1 K C tC cC vC Tb H q n) (s : Same H H') : LD1 K C tC cC vC Tb H' q n := b.kh (Same.kh s) (b.RA.same s) (b.tb.ext s)
theorem LD1.kp (b : LD1 K C tC cC vC Tb H q n) (k : Kp q.row H H') (RA' : RowAt K H' q.row q.a q.ns) : LD1 K C tC cC vC Tb H' q n := b.kh (kx_kp b.RA k) RA' (Tabs_kp b.RA k b.tb)
theorem LD1.extN (b : LD1 K C tC cC vC Tb H q n) (s : ExtN H H') (tb' : Tabs Tb H') : LD1 K C tC cC vC Tb H' q n := b.kh (ExtN.kh s) (b.RA.extN s) tb'
theorem LD1.up (b : LD1 K C tC cC vC Tb H q n) : LD1 K C tC cC vC Tb H q (n + 1) :=
  ⟨b.RA, b.tb, b.R, b.I, b.S, b.hdl, b.hsl, b.po, b.ps, b.G.mono (by omega), by have := b.ln; omega, b.n1, b.n2, b.n3, b.f1, b.f2⟩
theorem LD1.l8 (b : LD1 K C tC cC vC Tb H q n) : 2 ≤ q.ds.length ∧ q.ds.length ≤ 8 := ⟨b.R.ok.l2, b.R.ok.l8⟩
theorem LD1.Ge (b : LD1 K C tC cC vC Tb H q n) : GI (endG q.os (g0 q.ds q.ss)).ds.length (12 + (n : Int)) (endG q.os (g0 q.ds q.ss)) := by
  have := b.G.last
  rw [← this.len] at this
  exact this
theorem LD1.gl (b : LD1 K C tC cC vC Tb H q n) : (endG q.os (g0 q.ds q.ss)).ds.length = q.ds.length := b.G.last.len
end
abbrev sg (q : Lq) (z2 z8 z9 z10 z11 z12 z13 z14 z15 : Option V) : L2.St := [some (.ref q.a), some (.ref q.row), z2, some (.ref q.p), some (.ref q.lr), some (.ref q.hd), some (.ref q.dl), some (.ref q.sl), z8, z9, z10, z11, z12, z13, z14, z15]
end Rp
/-! k53: what the law holds behind its first loop. -/
namespace Rp
open PySem PySem.Spec PyProof.Rows L2 Rz Rm Rt Rl LamX
/-- behind the loop: the live ring stands behind k operations, the others undone; the replayed ring; what was told last -/
structure LD2 (K : PySem.W.Frag) (C tC cC vC : Addr) (Tb : List (Addr × Str)) (H : Hp) (q : Lq) (k : Nat) (ot la : Addr) : Prop where
  tb : Tabs Tb H
  R : RingAt C H q.p q.dx q.td q.ts q.ds q.ss
  I : LiE C tC cC vC q.ss H q.lr (gsF (q.os.take k) (g0 q.ds q.ss)) (endG (q.os.take k) (g0 q.ds q.ss)) (q.os.take k) (q.os.drop k).reverse
  J : LiE C tC cC vC q.ss H ot (gsF q.os (g0 q.ds q.ss)) (endG q.os (g0 q.ds q.ss)) q.os []
  hdl : H q.dl = some (.lst q.opv)
  hsl : H q.sl = some (.lst q.stv)
  po : Paired (OpAt H) q.opv q.os
  ps : Paired (TV (fun a => a ≠ q.dl ∧ a ≠ q.sl) H) q.stv (gsF q.os (g0 q.ds q.ss))
  tl : TV (fun _ => True) H (.ref la) (endG q.os (g0 q.ds q.ss))
  G : Gd q.ds.length 33 q.os (g0 q.ds q.ss)
  ln : q.os.length ≤ 20
  nl : ot ≠ q.lr
section
variable {K : PySem.W.Frag} {C tC cC vC : Addr} {Tb : List (Addr × Str)} {H H' : Hp} {q : Lq} {k : Nat} {ot la : Addr}
theorem LD2.kh (b : LD2 K C tC cC vC Tb H q k ot la) (s : Kh H H') (tb' : Tabs Tb H') : LD2 K C tC cC vC Tb H' q k ot la :=
  ⟨tb', ⟨s.ins b.R.ob, s.n.tup b.R.td, s.n.tup b.R.ts, b.R.ok⟩, b.I.kx s, b.J.kx s, s.n.lst b.hdl (nr_paired opAt_ref b.po), s.n.lst b.hsl (nr_paired tv_ref b.ps), paired_imp (fun _ _ h => OpAt.kn s.n h) b.po, paired_imp (fun _ _ h => h.kj s.n) b.ps, b.tl.kj s.n, b.G, b.ln, b.nl⟩
theorem LD2.same (b : LD2 K C tC cC vC Tb H q k ot la) (s : Same H H') : LD2 K C tC cC vC Tb H' q k ot la := b.kh (Same.kh s) (b.tb.ext s)
theorem LD2.extN (b : LD2 K C tC cC vC Tb H q k ot la) (s : ExtN H H') (tb' : Tabs Tb H') : LD2 K C tC cC vC Tb H' q k ot la := b.kh (ExtN.kh s) tb'
theorem LD2.Gk (b : LD2 K C tC cC vC Tb H q k ot la) : GI (endG (q.os.take k) (g0 q.ds q.ss)).ds.length 33 (endG (q.os.take k) (g0 q.ds q.ss)) := by
  have := (b.G.take k).last
  rw [← this.len] at this
  exact this
theorem LD2.gk (b : LD2 K C tC cC vC Tb H q k ot la) : (endG (q.os.take k) (g0 q.ds q.ss)).ds.length = q.ds.length := (b.G.take k).last.len
theorem LD2.Gn (b : LD2 K C tC cC vC Tb H q k ot la) : GI (endG q.os (g0 q.ds q.ss)).ds.length 33 (endG q.os (g0 q.ds q.ss)) := by
  have := b.G.last
  rw [← this.len] at this
  exact this
theorem LD2.gn (b : LD2 K C tC cC vC Tb H q k ot la) : (endG q.os (g0 q.ds q.ss)).ds.length = q.ds.length := b.G.last.len
theorem LD2.l8 (b : LD2 K C tC cC vC Tb H q k ot la) : q.ds.length ≤ 8 := b.R.ok.l8
/-- the live ring moves to another place -/
theorem LD2.move (b : LD2 K C tC cC vC Tb H q k ot la) (kl : KeepL q.lr H H') {k' : Nat} (I' : LiE C tC cC vC q.ss H' q.lr (gsF (q.os.take k') (g0 q.ds q.ss)) (endG (q.os.take k') (g0 q.ds q.ss)) (q.os.take k') (q.os.drop k').reverse) : LD2 K C tC cC vC Tb H' q k' ot la := by
  obtain ⟨dxl, co, dxc, tt, ot', ut, tb, tabs, opl, und, I1⟩ := b.I
  have hlr := I1.ob
  have kj := kn_keepL hlr kl
  refine ⟨Tabs_kl hlr kl b.tb, b.R.keepL hlr kl, I', ?_, kl _ _ b.hdl (ne_of b.hdl hlr (by intro z; cases z)), kl _ _ b.hsl (ne_of b.hsl hlr (by intro z; cases z)), paired_imp (fun _ _ h => OpAt.kn kj h) b.po, paired_imp (fun _ _ h => h.kj kj) b.ps, b.tl.kj kj, b.G, b.ln, b.nl⟩
  obtain ⟨dxl2, co2, dxc2, tt2, ot2, ut2, tb2, tabs2, opl2, und2, J1⟩ := b.J
  have tk : ∀ {c ys}, H c = some (.tup ys) → H' c = some (.tup ys) := fun {c ys} e => kl _ _ e (ne_of e hlr (by intro z; cases z))
  exact ⟨dxl2, co2, dxc2, tt2, ot2, ut2, tb2, tabs2, opl2, und2, kl _ _ J1.ob b.nl, ⟨kl _ _ J1.co.ob (ne_of J1.co.ob hlr (by intro z; injection z with _ _ h; cases h)), tk J1.co.ht, tk J1.co.hop, tk J1.co.hu⟩, paired_imp (fun _ _ h => h.keep hlr kl) J1.tbs, J1.tb.keep hlr kl, paired_imp (fun _ _ h => h.keep hlr kl) J1.op, paired_imp (fun _ _ h => h.keep hlr kl) J1.un⟩
end
theorem iteEqv {d e : PyData} {A B : Prop} (hc : PyData.eqv d e = true) (h : B) : if (!PyData.eqv d e) = true then A else B := by
  rw [hc]
  exact iteF h
theorem eqv_sh {d : PyData} (h : SeqAt.shaped d = true) : PyData.eqv d d = true := SeqAt.eqv_refl _ (SeqAt.canLay_of_shaped h)
/-- the heaps' tuples as data -/
def waD (g : GS) : PyData := .list ((List.range g.ds.length).map fun j => PyData.tuple ((g.t.hp j).map PyData.int))
theorem wa_dp {K : PySem.W.Frag} {H : Hp} {W : Addr} {ha : List Addr} {g : GS} (h1 : H W = some (.lst (ha.map V.ref))) (hl : ha.length = g.ds.length) (h : ∀ (j : Nat) (a : Addr), ha[j]? = some a → H a = some (.tup ((g.t.hp j).map V.int))) : Dp K H (.ref W) (waD g) := by
  refine .lst (.of h1) (dpa_ix (by rw [List.length_map, List.length_map, List.length_range, hl]) fun j x d h1 h2 => ?_)
  rw [List.getElem?_map] at h1 h2
  obtain ⟨a, ga, rfl⟩ := Option.map_eq_some_iff.mp h1
  obtain ⟨i, gi, rfl⟩ := Option.map_eq_some_iff.mp h2
  have : i = j := by
    have hj := (List.getElem?_eq_some_iff.mp gi).1
    rw [List.length_range] at hj
    rw [List.getElem?_range hj] at gi
    cases gi
    rfl
  subst this
  exact .tup (.of (h i a ga)) (dp_is _)
theorem sh_wa (g : GS) : SeqAt.shaped (waD g) = true := by
  obtain ⟨a1, a2⟩ := lay_all (k := 1) (l := (List.range g.ds.length).map fun j => PyData.tuple ((g.t.hp j).map PyData.int)) fun d hd => by
    obtain ⟨j, _, rfl⟩ := List.mem_map.mp hd
    have h1 := PySem.W.ke_canLayAll0 (g.t.hp j)
    have h2 := PySem.W.ke_depthAll (g.t.hp j)
    constructor
    · simp [PyData.canLay0, h1]
    · simp only [PyData.depth]
      omega
  unfold waD
  simp only [SeqAt.shaped, PyData.canLay0, PyData.depth, a1, Bool.true_and]
  exact decide_eq_true (by omega)
theorem paired_at2 {α β : Type} {R : α → β → Prop} : ∀ {xs : List α} {ys : List β} {i : Nat} {y : β}, Paired R xs ys → ys[i]? = some y → ∃ x, xs[i]? = some x ∧ R x y
  | _, _, 0, _, .cons r _, h => by
    cases h
    exact ⟨_, rfl, r⟩
  | _, _, i + 1, _, .cons _ t, h => paired_at2 (i := i) t h
theorem paired_take {α β : Type} {R : α → β → Prop} : ∀ {xs : List α} {ys : List β} (n : Nat), Paired R xs ys → Paired R (xs.take n) (ys.take n)
  | _, _, 0, _ => .nil
  | _, _, _ + 1, .nil => .nil
  | _, _, n + 1, .cons r t => .cons r (paired_take n t)
theorem cut_toA (xs : List V) (k : Nat) : cutV xs none (some (k : Int)) = xs.take k := by
  unfold cutV
  rw [HT.sIx_nat, HT.sIx_none, List.drop_zero, Nat.sub_zero]
  by_cases h : k ≤ xs.length
  · rw [Nat.min_eq_left h]
  · rw [List.take_of_length_le (by omega), List.take_of_length_le (by omega)]
section
variable {K : PySem.W.Frag} {C tC cC vC : Addr} {Tb : List (Addr × Str)} {H H' : Hp} {q : Lq} {k : Nat} {ot la : Addr}
theorem LD2.live (b : LD2 K C tC cC vC Tb H q k ot la) : ∃ dxl co, H q.lr = some (.ins vC dxl (liF co .non)) := by
  obtain ⟨dxl, co, dxc, tt, ot', ut, tb, tabs, opl, und, I⟩ := b.I
  exact ⟨dxl, co, I.ob⟩
theorem LD2.other (b : LD2 K C tC cC vC Tb H q k ot la) : ∃ dxl co, H ot = some (.ins vC dxl (liF co .non)) := by
  obtain ⟨dxl, co, dxc, tt, ot', ut, tb, tabs, opl, und, I⟩ := b.J
  exact ⟨dxl, co, I.ob⟩
theorem LD2.lens (b : LD2 K C tC cC vC Tb H q k ot la) : (gsF (q.os.take k) (g0 q.ds q.ss)).length ≤ 20 ∧ (q.os.take k).length ≤ 20 ∧ (q.os.drop k).reverse.length ≤ 20 ∧ (gsF q.os (g0 q.ds q.ss)).length ≤ 20 := by
  have h := b.ln
  have e1 : (gsF (q.os.take k) (g0 q.ds q.ss)).length = (q.os.take k).length := gsF_len
  have e2 : (gsF q.os (g0 q.ds q.ss)).length = q.os.length := gsF_len
  rw [e1, e2, List.length_take, List.length_reverse, List.length_drop]
  omega
end
abbrev sh (q : Lq) (z2 z8 z9 z10 z11 z12 : Option V) (la ot : Addr) (z15 : Option V) : L2.St := [some (.ref q.a), some (.ref q.row), z2, some (.ref q.p), some (.ref q.lr), some (.ref q.hd), some (.ref q.dl), some (.ref q.sl), z8, z9, z10, z11, z12, some (.ref la), some (.ref ot), z15]
end Rp
namespace Rp
open PySem PySem.Spec PyProof.Rows L2 Rz Rm Rt Rl LamX
section
variable {P : Program} {w : World} {K : PySem.W.Frag} {mg : Str → Option Value} {base : Heap}
variable {f : Addr} {cT PT : Addr} {A : Around} {outer : List Env} {s : Shared} {H0 : Hp} {E : XK}
theorem y_body (T : Tx K mg) (Y : Ax w T) (L : LiX K mg) {S : RdS K mg} (W : WdX S L) (eC : L.cE = S.cE) (BO : XcF K mg S.cE S.k4 "index") (RO : RdJ S S.k4 4) (TB : TabB base mg cT PT) (hr : Room 14 (A.deeper (envOfC "law" (defScope s_law) s.heap.objs.size f (.ref cT)))) : ∃ t, PSs (XL P w K mg base f (.ref cT) A outer s H0 E) (stBody (bs 4)) t ∧ ∀ (D : Ends) (H : Hp) (q : Lq) (n : Nat) (z2 z8 z9 z10 z11 z12 z13 z14 z15 : Option V), LD1 K T.C T.tC T.cC T.vC [(PT, (XL P w K mg base f (.ref cT) A outer s H0 E).env.qual ++ "<lambda>")] H q n → n ≤ 20 → (∀ H' q' z9 z10 z11 z12, LD1 K T.C T.tC T.cC T.vC [(PT, (XL P w K mg base f (.ref cT) A outer s H0 E).env.qual ++ "<lambda>")] H' q' (n + 1) → D.nx (sg q' z2 z8 z9 z10 z11 z12 z13 z14 z15) H') → t D (sg q z2 z8 z9 z10 z11 z12 z13 z14 z15) H := by
  have nd := sc_law.nd
  refine ⟨_, (pss_cons (ps_set (i := 9) nd rfl (.inl rfl) (pe_call (ok_deed T) (hr.mono (by decide : 2 ≤ 14)) (by rfl) T.g_ldeed T.F_ldeed.kp T.b_ldeed .nil pass0 (pa_cons (pv 1) (pa_cons (pv 5) pa_nil)))) (pss_cons (ps_asg (pe_call (ok_doD T) (hr.mono (by decide : 4 ≤ 14)) (by rfl) T.g_ldoes T.F_ldoes.kp T.b_ldoes .nil pass0 (pa_cons (pv 5) (pa_cons (pv 9) pa_nil))) (pg_tup rfl (pgs_cons (pg_name (i := 10) nd rfl (.inl rfl)) (pgs_cons (pg_name (i := 11) nd rfl (.inl rfl)) (pgs_cons (pg_name (i := 12) nd rfl (.inl rfl)) pgs_nil))))) (pss_one (ps_if (pt_cmpR op_isN (pv 12) pe_non (nomark _)) (pss_cons (ps_expr (pe_bm PySem.F.plainAttrs_list PySem.F.slot_list_append PySem.F.type_list_append mt_append (pv 6) (pa_cons (pv 9) pa_nil))) (pss_cons (ps_expr (pe_bm PySem.F.plainAttrs_list PySem.F.slot_list_append PySem.F.type_list_append mt_append (pv 7) (pa_cons (pe_call (ok_told T) (hr.mono (by decide : 6 ≤ 14)) (by rfl) T.g_ltold T.F_ltold.kp T.b_ltold .nil pass0 (pa_cons (pv 4) pa_nil)) pa_nil))) (pss_cons (ps_expr (pe_call (fn_calm (ok_ask T Y L)) (hr.mono (by decide : 12 ≤ 14)) (by rfl) T.g_lasked T.F_lasked.kp T.b_lasked .nil pass0 (pa_cons (pv 4) (pa_cons (pv 9) pa_nil)))) (pss_one (ps_set (i := 5) nd rfl (.inl rfl) (pv 10)))))) pss_nil)))), ?_⟩
  rintro D H q n z2 z8 z9 z10 z11 z12 z13 z14 z15 b h20 nx
  obtain ⟨a, row, p, dx, td, ts, lr, hd, dl, sl, ns, ds, ss, opv, stv, os⟩ := q
  have hn : os.length ≤ n := b.ln
  have lN := b.gl
  have G0 := b.Ge
  have l8 := b.l8
  have lN : (endG os (g0 ds ss)).ds.length = ds.length := lN
  have lgs : (gsF os (g0 ds ss)).length = os.length := gsF_len
  have l8 : 2 ≤ ds.length ∧ ds.length ≤ 8 := l8
  refine ⟨_, rfl, _, rfl, row, a, hd, ns, _, _, rfl, b.RA, b.S.g, G0, by omega, fun H1 dd o RA1 k1 gdd ook h50 => ?_⟩
  have b1 := b.kp k1 RA1
  refine ⟨_, rfl, _, rfl, hd, dd, _, _, o, rfl, b1.S.g, G0, gdd, ook, h50, fun he H2 t nw v s2 gt DF rv => ?_, fun wd he H2 t wt s2 gt gwt => ?_⟩
  · refine ⟨t, _, rfl, .of gt, rfl, _, _, rfl, _, _, rfl, _, _, rfl, rfl, ?_⟩
    have b2 := b1.same s2
    have gdd2 := s2 _ _ gdd
    have N2 : DcA (fun a => a ≠ dl ∧ a ≠ sl) H2 nw (stp o (endG os (g0 ds ss))) := by
      obtain ⟨ld, hl, rd, ha, cs, S, fr⟩ := DF
      exact ⟨ld, hl, rd, ha, cs, S, fun x m => ⟨(ne_of_none b1.hdl (fr x m)).symm, (ne_of_none b1.hsl (fr x m)).symm⟩⟩
    refine ⟨_, rfl, rfl, _, rfl, iteEq rfl ?_⟩
    have lop : opv.length = os.length := Paired.length b2.po
    have lst : stv.length = os.length := (Paired.length b2.ps).trans lgs
    refine ⟨_, rfl, .inl ⟨rfl, _, SqL.of b2.hdl⟩, _, rfl, dl, _, _, rfl, rfl, b2.hdl, small1000 (by show opv.length ≤ 1000; omega), ?_⟩
    have c2 := cz_ops b2.po
    have k23 : KpL dl H2 (upd H2 dl (.lst (opv ++ [.ref dd]))) := fun b o h n => (upd_ne n).trans h
    have RA3 := b2.RA.upd' (o := .lst (opv ++ [.ref dd])) b2.n1 b2.f1
    have tb3 := Tabs_list (ws := opv ++ [.ref dd]) b2.hdl b2.tb
    have kn : ∀ {y o}, H2 y = some o → (∀ l, o ≠ .lst l) → (upd H2 dl (.lst (opv ++ [.ref dd]))) y = some o := fun {y o} e n => k23 _ _ e fun z => by
      have := b2.hdl
      rw [z] at e
      exact n _ (Option.some.inj (e.symm.trans this))
    have R3 : RingAt T.C (upd H2 dl (.lst (opv ++ [.ref dd]))) p dx td ts ds ss := ⟨kn b2.R.ob (fun _ z => by cases z), kn b2.R.td (fun _ z => by cases z), kn b2.R.ts (fun _ z => by cases z), b2.R.ok⟩
    have I3 := b2.I.kz b2.hdl c2 k23
    have N3 := N2.kz b2.hdl c2 k23 fun _ h => h.1
    have hdl3 : (upd H2 dl (.lst (opv ++ [.ref dd]))) dl = some (.lst (opv ++ [.ref dd])) := upd_same
    have hsl3 := k23 _ _ b2.hsl b2.n3.symm
    have gdd3 := kn gdd2 (fun _ z => by cases z)
    have po3 : Paired (OpAt (upd H2 dl (.lst (opv ++ [.ref dd])))) (opv ++ [.ref dd]) (os ++ [o]) := paired_snoc ⟨dd, rfl, gdd3⟩ (paired_imp (fun _ _ h => OpAt.kpl h k23 b2.hdl) b2.po)
    have ps3 : Paired (TV (fun a => a ≠ dl ∧ a ≠ sl) (upd H2 dl (.lst (opv ++ [.ref dd])))) stv (gsF os (g0 ds ss)) := paired_impM (fun _ y m h => h.kz (by rw [(b2.G.mem m).len]; exact l8.1) b2.hdl c2 k23 fun _ z => z.1) b2.ps
    show tSeq _ _ _ _ (upd H2 dl (.lst (opv ++ [.ref dd])))
    generalize (upd H2 dl (.lst (opv ++ [.ref dd]))) = H3 at RA3 tb3 R3 I3 N3 hdl3 hsl3 gdd3 po3 ps3 ⊢
    refine ⟨_, rfl, .inl ⟨rfl, _, SqL.of hsl3⟩, _, rfl, lr, ss, _, _, _, _, _, rfl, I3, G0, by omega, fun H4 Lt s4 n4 tv4 => ?_⟩
    have hsl4 := s4 _ _ hsl3
    refine ⟨sl, _, _, rfl, rfl, hsl4, small1000 (by show stv.length ≤ 1000; omega), ?_⟩
    have ps4 := paired_imp (fun _ _ h => TV.same h s4) ps3
    have c4 := cz_tvs ps4
    have k45 : KpL sl H4 (upd H4 sl (.lst (stv ++ [.ref Lt]))) := fun b o h n => (upd_ne n).trans h
    have tv4' : TV (fun a => a ≠ dl ∧ a ≠ sl) H4 (.ref Lt) (endG os (g0 ds ss)) := tv4.imp fun x hx => ⟨(ne_of_none hdl3 hx).symm, (ne_of_none hsl3 hx).symm⟩
    have RA5 := (RA3.same s4).upd' (o := .lst (stv ++ [.ref Lt])) b2.n2 b2.f2
    have tb5 := Tabs_list (ws := stv ++ [.ref Lt]) hsl4 (tb3.ext s4)
    have kn5 : ∀ {y o}, H4 y = some o → (∀ l, o ≠ .lst l) → (upd H4 sl (.lst (stv ++ [.ref Lt]))) y = some o := fun {y o} e n => k45 _ _ e fun z => by
      rw [z] at e
      exact n _ (Option.some.inj (e.symm.trans hsl4))
    have R5 : RingAt T.C (upd H4 sl (.lst (stv ++ [.ref Lt]))) p dx td ts ds ss := ⟨kn5 (s4 _ _ R3.ob) (fun _ z => by cases z), kn5 (s4 _ _ R3.td) (fun _ z => by cases z), kn5 (s4 _ _ R3.ts) (fun _ z => by cases z), R3.ok⟩
    have I5 := (I3.same s4).kz hsl4 c4 k45
    have N5 := (N3.kj (Same.kh s4).n).kz hsl4 c4 k45 fun _ h => h.2
    have hdl5 := k45 _ _ (s4 _ _ hdl3) b2.n3
    have hsl5 : (upd H4 sl (.lst (stv ++ [.ref Lt]))) sl = some (.lst (stv ++ [.ref Lt])) := upd_same
    have gdd5 := kn5 (s4 _ _ gdd3) (fun _ z => by cases z)
    have po5 := paired_imp (fun _ _ h => OpAt.kpl (OpAt.same h s4) k45 hsl4) po3
    have ps5 : Paired (TV (fun a => a ≠ dl ∧ a ≠ sl) (upd H4 sl (.lst (stv ++ [.ref Lt])))) (stv ++ [.ref Lt]) (gsF os (g0 ds ss) ++ [endG os (g0 ds ss)]) := paired_snoc (tv4'.kz (by rw [lN]; exact l8.1) hsl4 c4 k45 fun _ z => z.2) (paired_impM (fun _ y m h => h.kz (by rw [(b2.G.mem m).len]; exact l8.1) hsl4 c4 k45 fun _ z => z.2) ps4)
    show tSeq _ _ _ _ (upd H4 sl (.lst (stv ++ [.ref Lt])))
    generalize (upd H4 sl (.lst (stv ++ [.ref Lt]))) = H5 at RA5 tb5 R5 I5 N5 hdl5 hsl5 gdd5 po5 ps5 ⊢
    refine ⟨_, rfl, _, rfl, lr, dd, ss, _, _, _, _, _, o, rfl, gdd5, I5, G0, ook, (by show (gsF os (g0 ds ss)).length ≤ 700; omega), (by show os.length ≤ 700; omega), fun _ H6 v6 kl rv6 I6 => ?_, (fun wd' he' => by rw [he] at he'; cases he')⟩
    obtain ⟨dxl, co, dxc, tt, ot, ut, tb, tabs, opl, und, I50⟩ := I5
    have hlr := I50.ob
    have kj := kn_keepL hlr kl
    refine ⟨_, rfl, ?_⟩
    refine nx H6 ⟨a, row, p, dx, td, ts, lr, nw, dl, sl, ns, ds, ss, opv ++ [.ref dd], stv ++ [.ref Lt], os ++ [o]⟩ _ _ _ _ ⟨RA5.keepL hlr kl, Tabs_kl hlr kl tb5, R5.keepL hlr kl, ?_, ?_, kl _ _ hdl5 (ne_of hdl5 hlr (by intro z; cases z)), kl _ _ hsl5 (ne_of hsl5 hlr (by intro z; cases z)), paired_imp (fun _ _ h => OpAt.kn kj h) po5, ?_, ?_, ?_, b2.n1, b2.n2, b2.n3, b2.f1, b2.f2⟩
    · show LiE _ _ _ _ _ _ _ (gsF (os ++ [o]) _) (endG (os ++ [o]) _) (os ++ [o]) []
      rw [gsF_snoc, endG_snoc]
      exact I6
    · show DcA _ _ _ (endG (os ++ [o]) _)
      rw [endG_snoc]
      exact N5.kj kj
    · show Paired _ _ (gsF (os ++ [o]) _)
      rw [gsF_snoc]
      exact paired_imp (fun _ _ h => TV.kj h kj) ps5
    · have G1 := G0.step ook he
      rw [lN] at G1 ook
      exact (b.G.mono (by omega)).snoc ook he (G1.mono (by omega))
    · show (os ++ [o]).length ≤ n + 1
      rw [List.length_append]
      show os.length + 1 ≤ n + 1
      omega
  · refine ⟨t, _, rfl, .of gt, rfl, _, _, rfl, _, _, rfl, _, _, rfl, rfl, ?_⟩
    refine ⟨_, rfl, rfl, _, rfl, iteNe (by intro z; cases z) ?_⟩
    exact nx _ _ _ _ _ _ (b1.same s2).up
end
end Rp
namespace Rp
open PySem PySem.Spec PyProof.Rows L2 Rz Rm Rt Rl LamX
section
variable {P : Program} {w : World} {K : PySem.W.Frag} {mg : Str → Option Value} {base : Heap}
variable {f : Addr} {cT PT : Addr} {A : Around} {outer : List Env} {s : Shared} {H0 : Hp} {E : XK}
theorem y_b5 (T : Tx K mg) (Y : Ax w T) (L : LiX K mg) {S : RdS K mg} (W : WdX S L) (eC : L.cE = S.cE) (BO : XcF K mg S.cE S.k4 "index") (RO : RdJ S S.k4 4) (TB : TabB base mg cT PT) (hr : Room 14 (A.deeper (envOfC "law" (defScope s_law) s.heap.objs.size f (.ref cT)))) : ∃ t, PS (XL P w K mg base f (.ref cT) A outer s H0 E) (bs 5) t ∧ ∀ (D : Ends) (H : Hp) (q : Lq) (n : Nat) (z2 z8 z9 z10 z11 z12 z13 z14 z15 : Option V), LD1 K T.C T.tC T.cC T.vC [(PT, (XL P w K mg base f (.ref cT) A outer s H0 E).env.qual ++ "<lambda>")] H q n → n ≤ 20 → (∀ H' la ot, LD2 K T.C T.tC T.cC T.vC [(PT, (XL P w K mg base f (.ref cT) A outer s H0 E).env.qual ++ "<lambda>")] H' q q.os.length ot la → D.nx (sh q z2 z8 z9 z10 z11 z12 la ot z15) H') → t D (sg q z2 z8 z9 z10 z11 z12 z13 z14 z15) H := by
  have nd := sc_law.nd
  refine ⟨_, ps_par (i := 13) (j := 14) rfl nd rfl rfl (by decide) rfl rfl (pa_cons (pe_call (ok_told T) (hr.mono (by decide : 6 ≤ 14)) (by rfl) T.g_ltold T.F_ltold.kp T.b_ltold .nil pass0 (pa_cons (pv 4) pa_nil)) (pa_cons (ClX.pe_cmeth (E := E0) (pe_glob (v := .ref T.vC) (by rfl) T.gvC rfl) T.crdV T.cmV ((ok_rp T Y).raw T.b_vreplay .nil) (hr.mono (by decide : 11 ≤ 14)) pass0 (pa_cons (pv 3) (pa_cons (pv 6) pa_nil))) pa_nil)) rfl, ?_⟩
  rintro D H q n z2 z8 z9 z10 z11 z12 z13 z14 z15 b h20 nx
  have hn := b.ln
  refine ⟨_, rfl, q.lr, q.ss, _, _, _, _, _, rfl, b.I, b.Ge, by rw [b.gl]; exact b.l8.2, fun H1 la s1 n1 tv1 => ?_⟩
  have b1 := b.same s1
  refine ⟨rfl, _, rfl, _, rfl, q.p, q.dx, q.td, q.ts, q.dl, q.ds, q.ss, q.opv, q.os, _, rfl, b1.R, b1.hdl, b1.po, by omega, fun Hs => b1.G.go L, fun gs' gF xs H2 ot hF s2 n2 J => ⟨_, _, rfl, ?_⟩⟩
  obtain ⟨rfl, rfl⟩ := hF
  have b2 := b1.same s2
  refine nx H2 la ot ⟨b2.tb, b2.R, ?_, J, b2.hdl, b2.hsl, b2.po, b2.ps, (tv1.same s2).imp fun _ _ => trivial, b.G.mono (by omega), by omega, fun e => ?_⟩
  · rw [List.take_length, List.drop_length]
    exact b2.I
  · obtain ⟨dxl, co, dxc, tt, ot', ut, tb, tabs, opl, und, I⟩ := b1.I
    have := I.ob
    rw [← e, n2] at this
    cases this
theorem y_b6 (T : Tx K mg) (Y : Ax w T) (L : LiX K mg) {S : RdS K mg} (W : WdX S L) (eC : L.cE = S.cE) (BO : XcF K mg S.cE S.k4 "index") (RO : RdJ S S.k4 4) (TB : TabB base mg cT PT) (hr : Room 14 (A.deeper (envOfC "law" (defScope s_law) s.heap.objs.size f (.ref cT)))) : ∃ t, PS (XL P w K mg base f (.ref cT) A outer s H0 E) (bs 6) t ∧ ∀ (D : Ends) (H : Hp) (q : Lq) (z2 z8 z9 z10 z11 z12 z15 : Option V) (la ot : Addr), LD2 K T.C T.tC T.cC T.vC [(PT, (XL P w K mg base f (.ref cT) A outer s H0 E).env.qual ++ "<lambda>")] H q q.os.length ot la → (∀ H', LD2 K T.C T.tC T.cC T.vC [(PT, (XL P w K mg base f (.ref cT) A outer s H0 E).env.qual ++ "<lambda>")] H' q q.os.length ot la → D.nx (sh q z2 z8 z9 z10 z11 z12 la ot z15) H') → t D (sh q z2 z8 z9 z10 z11 z12 la ot z15) H := by
  have nd := sc_law.nd
  refine ⟨_, ps_if (pt_cmpR (op_neD hr.units) (pe_prop (pv 14) T.clv T.q_vhistory (ok_hist T) (hr.mono (by decide : 2 ≤ 14)) T.b_vhistory .nil pass0 rfl) (pv 6) (nomark _)) (pss_one (ps_ret pe_bl)) pss_nil, ?_⟩
  rintro D H q z2 z8 z9 z10 z11 z12 z15 la ot b nx
  obtain ⟨dxl, co, hot⟩ := b.other
  refine ⟨_, rfl, ot, dxl, _, rfl, hot, ot, q.ss, _, _, _, _, rfl, b.J, fun H1 L1 opl s1 n1 g1 p1 => ?_⟩
  have b1 := b.same s1
  exact ⟨_, rfl, .list _, .list _, .lst (.of g1) (ops_dp p1), .lst (.of b1.hdl) (ops_dp b1.po), (sh_ops _).2, (sh_ops _).2, _, rfl, iteEqv (eqv_sh (sh_ops _).2) (nx _ b1)⟩
theorem y_b7 (T : Tx K mg) (Y : Ax w T) (L : LiX K mg) {S : RdS K mg} (W : WdX S L) (eC : L.cE = S.cE) (BO : XcF K mg S.cE S.k4 "index") (RO : RdJ S S.k4 4) (TB : TabB base mg cT PT) (hr : Room 14 (A.deeper (envOfC "law" (defScope s_law) s.heap.objs.size f (.ref cT)))) : ∃ t, PS (XL P w K mg base f (.ref cT) A outer s H0 E) (bs 7) t ∧ ∀ (D : Ends) (H : Hp) (q : Lq) (z2 z8 z9 z10 z11 z12 z15 : Option V) (la ot : Addr), LD2 K T.C T.tC T.cC T.vC [(PT, (XL P w K mg base f (.ref cT) A outer s H0 E).env.qual ++ "<lambda>")] H q q.os.length ot la → (∀ H', LD2 K T.C T.tC T.cC T.vC [(PT, (XL P w K mg base f (.ref cT) A outer s H0 E).env.qual ++ "<lambda>")] H' q q.os.length ot la → D.nx (sh q z2 z8 z9 z10 z11 z12 la ot z15) H') → t D (sh q z2 z8 z9 z10 z11 z12 la ot z15) H := by
  have nd := sc_law.nd
  refine ⟨_, ps_if (pt_cmpR (op_neD hr.units) (pe_call (ok_told T) (hr.mono (by decide : 6 ≤ 14)) (by rfl) T.g_ltold T.F_ltold.kp T.b_ltold .nil pass0 (pa_cons (pv 14) pa_nil)) (pv 13) (nomark _)) (pss_one (ps_ret pe_bl)) pss_nil, ?_⟩
  rintro D H q z2 z8 z9 z10 z11 z12 z15 la ot b nx
  refine ⟨_, rfl, ot, q.ss, _, _, _, _, _, rfl, b.J, b.Gn, by rw [b.gn]; exact b.l8, fun H1 L1 s1 n1 tv1 => ?_⟩
  have b1 := b.same s1
  exact ⟨_, rfl, toldD _, toldD _, tv1.dp, b1.tl.dp, sh_told _, sh_told _, _, rfl, iteEqv (eqv_sh (sh_told _)) (nx _ b1)⟩
theorem y_b8 (T : Tx K mg) (Y : Ax w T) (L : LiX K mg) {S : RdS K mg} (W : WdX S L) (eC : L.cE = S.cE) (BO : XcF K mg S.cE S.k4 "index") (RO : RdJ S S.k4 4) (TB : TabB base mg cT PT) (hr : Room 14 (A.deeper (envOfC "law" (defScope s_law) s.heap.objs.size f (.ref cT)))) : ∃ t, PS (XL P w K mg base f (.ref cT) A outer s H0 E) (bs 8) t ∧ ∀ (D : Ends) (H : Hp) (q : Lq) (z2 z8 z9 z10 z11 z12 z15 : Option V) (la ot : Addr), LD2 K T.C T.tC T.cC T.vC [(PT, (XL P w K mg base f (.ref cT) A outer s H0 E).env.qual ++ "<lambda>")] H q q.os.length ot la → (∀ H', LD2 K T.C T.tC T.cC T.vC [(PT, (XL P w K mg base f (.ref cT) A outer s H0 E).env.qual ++ "<lambda>")] H' q q.os.length ot la → D.nx (sh q z2 z8 z9 z10 z11 z12 la ot z15) H') → t D (sh q z2 z8 z9 z10 z11 z12 la ot z15) H := by
  have nd := sc_law.nd
  refine ⟨_, ps_if (pt_cmpR (op_neD hr.units) (pe_prop (ClX.pe_cmeth (E := E0) (pe_glob (v := .ref T.vC) (by rfl) T.gvC rfl) T.crdV T.cmV ((ok_rp T Y).raw T.b_vreplay .nil) (hr.mono (by decide : 11 ≤ 14)) pass0 (pa_cons (pv 3) (pa_cons (pe_lst pa_nil) pa_nil))) T.clv T.q_vhistory (ok_hist T) (hr.mono (by decide : 2 ≤ 14)) T.b_vhistory .nil pass0 rfl) (pe_lst pa_nil) (nomark _)) (pss_one (ps_ret pe_bl)) pss_nil, ?_⟩
  rintro D H q z2 z8 z9 z10 z11 z12 z15 la ot b nx
  refine ⟨rfl, _, rfl, Nat.zero_le _, fun e he => ?_⟩
  have u1 := same_upd (o := .lst []) he
  have b1 := b.same u1
  refine ⟨q.p, q.dx, q.td, q.ts, e, q.ds, q.ss, [], [], fun _ _ _ => True, rfl, b1.R, upd_same, .nil, Nat.zero_le _, fun Hs => trivial, fun gs' gF xs H2 lr2 hF s2 n2 J => ?_⟩
  have b2 := b1.same s2
  have J0 := J
  obtain ⟨dxl, co, dxc, tt, ot', ut, tb, tabs, opl, und, I⟩ := J0
  refine ⟨lr2, dxl, _, rfl, I.ob, lr2, q.ss, _, _, _, _, rfl, J, fun H3 L3 opl3 s3 n3 g3 p3 => ⟨Nat.zero_le _, fun e4 he4 => ?_⟩⟩
  have u4 := same_upd (o := .lst []) he4
  exact ⟨.list _, .list [], .lst (.of (u4 _ _ g3)) (ops_dp (paired_imp (fun _ _ h => OpAt.same h u4) p3)), .lst (.of upd_same) .nil, (sh_ops _).2, rfl, _, rfl, iteEqv (eqv_sh (d := .list []) rfl) (nx _ ((b2.same s3).same u4))⟩
theorem y_b9 (T : Tx K mg) (Y : Ax w T) (L : LiX K mg) {S : RdS K mg} (W : WdX S L) (eC : L.cE = S.cE) (BO : XcF K mg S.cE S.k4 "index") (RO : RdJ S S.k4 4) (TB : TabB base mg cT PT) (hr : Room 14 (A.deeper (envOfC "law" (defScope s_law) s.heap.objs.size f (.ref cT)))) : ∃ t, PS (XL P w K mg base f (.ref cT) A outer s H0 E) (bs 9) t ∧ ∀ (D : Ends) (H : Hp) (q : Lq) (z2 z8 z9 z10 z11 z12 z15 : Option V) (la ot : Addr), LD2 K T.C T.tC T.cC T.vC [(PT, (XL P w K mg base f (.ref cT) A outer s H0 E).env.qual ++ "<lambda>")] H q q.os.length ot la → (∀ H', LD2 K T.C T.tC T.cC T.vC [(PT, (XL P w K mg base f (.ref cT) A outer s H0 E).env.qual ++ "<lambda>")] H' q q.os.length ot la → D.nx (sh q z2 z8 z9 z10 z11 z12 la ot z15) H') → t D (sh q z2 z8 z9 z10 z11 z12 la ot z15) H := by
  have nd := sc_law.nd
  refine ⟨_, ps_if (pt_cmpR (op_neD hr.units) (pe_rsW (X := XL P w K mg base f (.ref cT) A outer s H0 E) (k := 10) T W eC TB rfl (by rfl) (lamP_by (N := N_law) (sc := defScope s_law) (by decide +kernel)) rfl (fun _ _ _ _ _ _ _ => .of_eq rfl) (hr.mono (by decide : 12 ≤ 14)) (fun A' outer' s' H' E' f' c' hr => h1 T Y L hr)) (pe_tup (pa_cons pe_str pa_nil)) (nomark _)) (pss_one (ps_ret pe_bl)) pss_nil, ?_⟩
  rintro D H q z2 z8 z9 z10 z11 z12 z15 la ot b nx
  refine ⟨b.tb, fun H1 x1 tb1 E' hE' => ?_⟩
  have b1 := b.extN x1 tb1
  obtain ⟨l1, l2, l3, l4⟩ := b1.lens
  refine ⟨q.lr, q.ss, _, _, _, _, _, rfl, b1.I, b1.Gk, by omega, by omega, fun H2 s2 => hE' _ _ _ ⟨.number, ⟨rfl, rfl⟩, fun p H3 s3 hp gp => ?_⟩⟩
  have b3 := (b1.same s2).same s3
  refine ⟨(by show 1 ≤ sizeLine; decide), fun t ht => ?_⟩
  have u4 := same_upd (o := .tup [.str "number"]) ht
  have gp : H3 p = some (.tup [.str "number"]) := gp
  exact ⟨.tuple [.str "number"], .tuple [.str "number"], .tup (.of (u4 _ _ gp)) (.cons (.str _) .nil), .tup (.of upd_same) (.cons (.str _) .nil), (by decide +kernel), (by decide +kernel), _, rfl, iteEqv (eqv_sh (by decide +kernel)) (nx _ (b3.same u4))⟩
theorem y_b10 (T : Tx K mg) (Y : Ax w T) (L : LiX K mg) {S : RdS K mg} (W : WdX S L) (eC : L.cE = S.cE) (BO : XcF K mg S.cE S.k4 "index") (RO : RdJ S S.k4 4) (TB : TabB base mg cT PT) (hr : Room 14 (A.deeper (envOfC "law" (defScope s_law) s.heap.objs.size f (.ref cT)))) : ∃ t, PS (XL P w K mg base f (.ref cT) A outer s H0 E) (bs 10) t ∧ ∀ (D : Ends) (H : Hp) (q : Lq) (z2 z8 z9 z10 z11 z12 z15 : Option V) (la ot : Addr), LD2 K T.C T.tC T.cC T.vC [(PT, (XL P w K mg base f (.ref cT) A outer s H0 E).env.qual ++ "<lambda>")] H q q.os.length ot la → (∀ H', LD2 K T.C T.tC T.cC T.vC [(PT, (XL P w K mg base f (.ref cT) A outer s H0 E).env.qual ++ "<lambda>")] H' q q.os.length ot la → D.nx (sh q z2 z8 z9 z10 z11 z12 la ot z15) H') → t D (sh q z2 z8 z9 z10 z11 z12 la ot z15) H := by
  have nd := sc_law.nd
  refine ⟨_, ps_if (pt_cmpR (op_neD hr.units) (pe_call (ok_told T) (hr.mono (by decide : 6 ≤ 14)) (by rfl) T.g_ltold T.F_ltold.kp T.b_ltold .nil pass0 (pa_cons (pv 4) pa_nil)) (pv 13) (nomark _)) (pss_one (ps_ret pe_bl)) pss_nil, ?_⟩
  rintro D H q z2 z8 z9 z10 z11 z12 z15 la ot b nx
  refine ⟨_, rfl, q.lr, q.ss, _, _, _, _, _, rfl, b.I, b.Gk, by rw [b.gk]; exact b.l8, fun H1 L1 s1 n1 tv1 => ?_⟩
  have b1 := b.same s1
  rw [List.take_length] at tv1
  exact ⟨_, rfl, toldD _, toldD _, tv1.dp, b1.tl.dp, sh_told _, sh_told _, _, rfl, iteEqv (eqv_sh (sh_told _)) (nx _ b1)⟩
theorem y_b11 (T : Tx K mg) (Y : Ax w T) (L : LiX K mg) {S : RdS K mg} (W : WdX S L) (eC : L.cE = S.cE) (BO : XcF K mg S.cE S.k4 "index") (RO : RdJ S S.k4 4) (TB : TabB base mg cT PT) (hr : Room 14 (A.deeper (envOfC "law" (defScope s_law) s.heap.objs.size f (.ref cT)))) : ∃ t, PS (XL P w K mg base f (.ref cT) A outer s H0 E) (bs 11) t ∧ ∀ (D : Ends) (H : Hp) (q : Lq) (z2 z8 z9 z10 z11 z12 z15 : Option V) (la ot : Addr), LD2 K T.C T.tC T.cC T.vC [(PT, (XL P w K mg base f (.ref cT) A outer s H0 E).env.qual ++ "<lambda>")] H q q.os.length ot la → (∀ H', LD2 K T.C T.tC T.cC T.vC [(PT, (XL P w K mg base f (.ref cT) A outer s H0 E).env.qual ++ "<lambda>")] H' q q.os.length ot la → D.nx (sh q z2 z8 z9 z10 z11 z12 la ot z15) H') → t D (sh q z2 z8 z9 z10 z11 z12 la ot z15) H := by
  have nd := sc_law.nd
  refine ⟨_, ps_if (pt_cmpR (op_neD hr.units) (pe_methR (E := E0) (pv 4) T.clv T.mv_waiting_after (ok_wa T Y) (hr.mono (by decide : 11 ≤ 14)) pass0 (pa_cons (pe_tup (pa_cons pe_str (pa_cons pe_int pa_nil))) pa_nil)) (pe_methR (E := E0) (pv 14) T.clv T.mv_waiting_after (ok_wa T Y) (hr.mono (by decide : 11 ≤ 14)) pass0 (pa_cons (pe_tup (pa_cons pe_str (pa_cons pe_int pa_nil))) (pa_cons (pe_tup (pa_cons pe_str (pa_cons pe_int pa_nil))) pa_nil))) (nomark _)) (pss_one (ps_ret pe_bl)) pss_nil, ?_⟩
  rintro D H q z2 z8 z9 z10 z11 z12 z15 la ot b nx
  obtain ⟨dxl, co, hlr⟩ := b.live
  obtain ⟨l1, l2, l3, l4⟩ := b.lens
  have l5 := b.ln
  have G := b.Gn
  have e1 : ∀ {g : GS} {m : Int}, GI g.ds.length m g → Gd g.ds.length (m + 2) [.pass 2] g := fun {g m} G => ⟨G.mono (by omega), by show 2 ≤ 400; decide, rfl, (G.step (o := .pass 2) (by show 2 ≤ 400; decide) rfl).mono (by omega)⟩
  have e2 : ∀ {g : GS} {m : Int}, GI g.ds.length m g → Gd g.ds.length (m + 2) [.pass 1, .pass 1] g := fun {g m} G => by
    have G1 := G.step (o := .pass 1) (by show 1 ≤ 400; decide) rfl
    have G2 := GI.step (o := .pass 1) G1 (by show 1 ≤ 400; decide) rfl
    exact ⟨G.mono (by omega), by show 1 ≤ 400; decide, rfl, G1.mono (by omega), by show 1 ≤ 400; decide, rfl, G2.mono (by omega)⟩
  refine ⟨_, rfl, q.lr, dxl, _, rfl, hlr, rfl, (by show 2 ≤ sizeLine; decide), fun o1 ho1 => ?_⟩
  have u1 := same_upd (o := .tup [.str "pass_days", .int 2]) ho1
  have g1 : (upd H o1 (.tup [.str "pass_days", .int 2])) o1 = some (.tup [.str "pass_days", .int 2]) := upd_same
  generalize (upd H o1 (.tup [.str "pass_days", .int 2])) = H1 at u1 g1 ⊢
  refine ⟨[.ref q.lr], [.ref o1], rfl, rfl, (by show 1 ≤ sizeLine; decide), fun p hp => ?_⟩
  have u2 := same_upd (o := .tup [.ref o1]) hp
  have b2 := (b.same u1).same u2
  refine ⟨q.lr, p, [.ref o1], q.ss, _, _, _, _, [.pass 2], _, rfl, upd_same, .cons ⟨o1, rfl, u2 _ _ g1⟩ .nil, b2.I, (by show _ + 1 ≤ 700; omega), (by show _ + 1 ≤ 700; omega), fun Hs => (e1 b2.Gk).go L, fun gs' gF xs H3 W ha hF s3 nW gW lW hW => ?_⟩
  have b3 := b2.same s3
  obtain ⟨dx2, co2, hot⟩ := b3.other
  refine ⟨_, rfl, ot, dx2, _, rfl, hot, rfl, (by show 2 ≤ sizeLine; decide), fun o2 ho2 => ?_⟩
  have u4 := same_upd (o := .tup [.str "pass_days", .int 1]) ho2
  have g4 : (upd H3 o2 (.tup [.str "pass_days", .int 1])) o2 = some (.tup [.str "pass_days", .int 1]) := upd_same
  generalize (upd H3 o2 (.tup [.str "pass_days", .int 1])) = H4 at u4 g4 ⊢
  refine ⟨(by show 2 ≤ sizeLine; decide), fun o3 ho3 => ?_⟩
  have u5 := same_upd (o := .tup [.str "pass_days", .int 1]) ho3
  have g5 : (upd H4 o3 (.tup [.str "pass_days", .int 1])) o3 = some (.tup [.str "pass_days", .int 1]) := upd_same
  have g45 := u5 _ _ g4
  generalize (upd H4 o3 (.tup [.str "pass_days", .int 1])) = H5 at u5 g5 g45 ⊢
  refine ⟨[.ref ot], [.ref o2, .ref o3], rfl, rfl, (by show 2 ≤ sizeLine; decide), fun p2 hp2 => ?_⟩
  have u6 := same_upd (o := .tup [.ref o2, .ref o3]) hp2
  have b6 := ((b3.same u4).same u5).same u6
  refine ⟨ot, p2, [.ref o2, .ref o3], q.ss, _, _, _, _, [.pass 1, .pass 1], _, rfl, upd_same, .cons ⟨o2, rfl, u6 _ _ g45⟩ (.cons ⟨o3, rfl, u6 _ _ g5⟩ .nil), b6.J, (by show _ + 2 ≤ 700; omega), (by show _ + 2 ≤ 700; omega), fun Hs => (e2 b6.Gn).go L, fun gs2 gF2 xs2 H7 W2 ha2 hF2 s7 nW2 gW2 lW2 hW2 => ?_⟩
  have s37 := ((u4.trans u5).trans u6).trans s7
  have eg : waD gF = waD gF2 := by
    rw [hF.2, hF2.2, List.take_length]
    rfl
  refine ⟨waD gF, waD gF2, wa_dp (s37 _ _ gW) lW (fun j a h => s37 _ _ (hW j a h)), wa_dp gW2 lW2 hW2, sh_wa _, sh_wa _, _, rfl, ?_⟩
  rw [eg]
  exact iteEqv (eqv_sh (sh_wa _)) (nx _ (b6.same s7))
end
end Rp
namespace Rp
open PySem PySem.Spec PyProof.Rows L2 Rz Rm Rt Rl LamX
section
variable {P : Program} {w : World} {K : PySem.W.Frag} {mg : Str → Option Value} {base : Heap}
variable {f : Addr} {cT PT : Addr} {A : Around} {outer : List Env} {s : Shared} {H0 : Hp} {E : XK}
theorem y_b12 (T : Tx K mg) (Y : Ax w T) (L : LiX K mg) {S : RdS K mg} (W : WdX S L) (eC : L.cE = S.cE) (BO : XcF K mg S.cE S.k4 "index") (RO : RdJ S S.k4 4) (TB : TabB base mg cT PT) (hr : Room 14 (A.deeper (envOfC "law" (defScope s_law) s.heap.objs.size f (.ref cT)))) : ∃ t, PS (XL P w K mg base f (.ref cT) A outer s H0 E) (bs 12) t ∧ ∀ (D : Ends) (H : Hp) (q : Lq) (z2 z8 z9 z10 z11 z12 z15 : Option V) (la ot : Addr), LD2 K T.C T.tC T.cC T.vC [(PT, (XL P w K mg base f (.ref cT) A outer s H0 E).env.qual ++ "<lambda>")] H q q.os.length ot la → (∀ H' z15, LD2 K T.C T.tC T.cC T.vC [(PT, (XL P w K mg base f (.ref cT) A outer s H0 E).env.qual ++ "<lambda>")] H' q 0 ot la → D.nx (sh q z2 z8 z9 z10 z11 z12 la ot z15) H') → t D (sh q z2 z8 z9 z10 z11 z12 la ot z15) H := by
  have nd := sc_law.nd
  refine ⟨_, ps_for PassesOwn.never rfl (pi_range3 (by rfl) T.z_range (pa_cons (pe_op op_sub (pe_callB call_len_seq (by rfl) T.z_len PySem.boot_len (pa_cons (pv 6) pa_nil)) pe_int) (pa_cons (pe_un un_neg pe_int) (pa_cons (pe_un un_neg pe_int) pa_nil)))) (pg_name (i := 15) nd rfl (.inl rfl)) (pss_one (ps_if (PW.pt (pw_or (pt_cmpR (op_eqD hr.units) (pe_call (ok_told T) (hr.mono (by decide : 6 ≤ 14)) (by rfl) T.g_ltold T.F_ltold.kp T.b_ltold .nil pass0 (pa_cons (pv 4) pa_nil)) (pe_lst pa_nil) (nomark _)) (pw_or (pt_not (pt_val (pe_meth0 (pv 4) T.clv T.mv_undo (ok_undo T) (hr.mono (by decide : 3 ≤ 14)) T.b_vundo .nil pass0))) (pw_or1 (pt_cmpR (op_neD hr.units) (pe_call (ok_told T) (hr.mono (by decide : 6 ≤ 14)) (by rfl) T.g_ltold T.F_ltold.kp T.b_ltold .nil pass0 (pa_cons (pv 4) pa_nil)) (pe_ix ix_list (pv 7) (pv 15) (fun _ _ => rfl)) (nomark _)))))) (pss_one (ps_ret pe_bl)) pss_nil)), ?_⟩
  rintro D H q z2 z8 z9 z10 z11 z12 z15 la ot b nx
  have l5 := b.ln
  have lop : q.opv.length = q.os.length := Paired.length b.po
  refine ⟨_, rfl, q.dl, _, rfl, .inl (.of b.hdl), _, _, rfl, rfl, _, rfl, _, rfl, _, _, _, _, rfl, RgC.neg (by omega) (by omega) (by omega) (by omega), ?_⟩
  have en : ((q.opv.length : Int) - 1 - (-1)).toNat = q.os.length := by omega
  show ∃ W : Nat → Nat → L2.St → Hp → Prop, _
  rw [en]
  refine for_rangeC (lo := (q.opv.length : Int) - 1) (c := -1) (n := q.os.length) (fun i σ H' => ∃ z15, σ = (sh q z2 z8 z9 z10 z11 z12 la ot z15) ∧ LD2 K T.C T.tC T.cC T.vC [(PT, (XL P w K mg base f (.ref cT) A outer s H0 E).env.qual ++ "<lambda>")] H' q (q.os.length - i) ot la)
    ⟨z15, rfl, b⟩ ?_ ?_
  · rintro i σ H2 hi ⟨z, rfl, b⟩
    obtain ⟨k, hk⟩ : ∃ k, q.os.length - i = k + 1 := ⟨q.os.length - i - 1, by omega⟩
    rw [hk] at b
    have hk2 : q.os.length - (i + 1) = k := by omega
    obtain ⟨o, ho⟩ : ∃ o, q.os[k]? = some o := ⟨_, List.getElem?_eq_getElem (by omega)⟩
    obtain ⟨ook, oerr, oe, og, of⟩ := b.G.at ho
    obtain ⟨dxl, co, hlr⟩ := b.live
    obtain ⟨l1, l2, l3, l4⟩ := b.lens
    refine ⟨_, rfl, q.lr, q.ss, _, _, _, _, _, rfl, b.I, b.Gk, by rw [b.gk]; exact b.l8, fun H3 L3 s3 n3 tv3 => ⟨Nat.zero_le _, fun e he => ?_⟩⟩
    have u4 := same_upd (o := .lst []) he
    have b4 := (b.same s3).same u4
    refine ⟨toldD _, .list [], (tv3.same u4).dp, .lst (.of upd_same) .nil, sh_told _, rfl, _, rfl, iteF ?_⟩
    obtain ⟨dxl4, co4, hlr4⟩ := b4.live
    have I4 := b4.I
    have et : q.os.take (k + 1) = q.os.take k ++ [o] := by rw [List.take_succ, ho]; rfl
    have ed : q.os.drop k = o :: q.os.drop (k + 1) := by
      obtain ⟨h1, h2⟩ := List.getElem?_eq_some_iff.mp ho
      rw [List.drop_eq_getElem_cons h1, h2]
    rw [of, et] at I4
    refine ⟨_, rfl, q.lr, dxl4, _, rfl, hlr4, rfl, q.lr, q.ss, _, _, _, _, rfl, I4, by omega, .inr ⟨_, _, _, o, rfl, rfl, fun H5 kl I5 => ⟨_, rfl, iteF ?_⟩⟩⟩
    have b5 := b4.move kl (k' := k) (by rw [ed, List.reverse_cons]; exact I5)
    obtain ⟨v, hv, tv⟩ := paired_at2 b5.ps og
    refine ⟨_, rfl, q.lr, q.ss, _, _, _, _, _, rfl, b5.I, b5.Gk, by rw [b5.gk]; exact b5.l8, fun H6 L6 s6 n6 tv6 => ?_⟩
    have b6 := b5.same s6
    have ei : (q.opv.length : Int) - 1 + (i : Nat) * (-1) = ((k : Nat) : Int) := by omega
    refine ⟨_, rfl, _, rfl, q.sl, q.stv, _, v, rfl, rfl, .of b6.hsl, ?_, toldD _, toldD _, tv6.dp, (tv.same s6).dp, sh_told _, sh_told _, _, rfl, iteEqv (eqv_sh (sh_told _)) ⟨_, rfl, ?_⟩⟩
    · rw [ei]
      exact atI_nat hv
    · rw [hk2]
      exact b6
  · rintro σ H2 ⟨z, rfl, b⟩
    rw [Nat.sub_self] at b
    exact nx _ _ b
theorem y_b13 (T : Tx K mg) (Y : Ax w T) (L : LiX K mg) {S : RdS K mg} (W : WdX S L) (eC : L.cE = S.cE) (BO : XcF K mg S.cE S.k4 "index") (RO : RdJ S S.k4 4) (TB : TabB base mg cT PT) (hr : Room 14 (A.deeper (envOfC "law" (defScope s_law) s.heap.objs.size f (.ref cT)))) : ∃ t, PS (XL P w K mg base f (.ref cT) A outer s H0 E) (bs 13) t ∧ ∀ (D : Ends) (H : Hp) (q : Lq) (z2 z8 z9 z10 z11 z12 z15 : Option V) (la ot : Addr), LD2 K T.C T.tC T.cC T.vC [(PT, (XL P w K mg base f (.ref cT) A outer s H0 E).env.qual ++ "<lambda>")] H q 0 ot la → (∀ H', LD2 K T.C T.tC T.cC T.vC [(PT, (XL P w K mg base f (.ref cT) A outer s H0 E).env.qual ++ "<lambda>")] H' q 0 ot la → D.nx (sh q z2 z8 z9 z10 z11 z12 la ot z15) H') → t D (sh q z2 z8 z9 z10 z11 z12 la ot z15) H := by
  have nd := sc_law.nd
  refine ⟨_, ps_if (PW.pt (pw_or (pt_val (pe_meth0 (pv 4) T.clv T.mv_undo (ok_undo T) (hr.mono (by decide : 3 ≤ 14)) T.b_vundo .nil pass0)) (pw_or1 (pt_cmpR (op_neD hr.units) (pe_prop (pv 4) T.clv T.q_vhistory (ok_hist T) (hr.mono (by decide : 2 ≤ 14)) T.b_vhistory .nil pass0 rfl) (pe_lst pa_nil) (nomark _))))) (pss_one (ps_ret pe_bl)) pss_nil, ?_⟩
  rintro D H q z2 z8 z9 z10 z11 z12 z15 la ot b nx
  obtain ⟨dxl, co, hlr⟩ := b.live
  obtain ⟨l1, l2, l3, l4⟩ := b.lens
  refine ⟨_, rfl, q.lr, dxl, _, rfl, hlr, rfl, q.lr, q.ss, _, _, _, _, rfl, b.I, by omega, .inl ⟨rfl, fun H1 s1 => ⟨_, rfl, iteF ?_⟩⟩⟩
  have b1 := b.same s1
  refine ⟨_, rfl, q.lr, dxl, _, rfl, s1 _ _ hlr, q.lr, q.ss, _, _, _, _, rfl, b1.I, fun H2 L2 opl2 s2 n2 g2 p2 => ⟨Nat.zero_le _, fun e he => ?_⟩⟩
  have u3 := same_upd (o := .lst []) he
  exact ⟨.list _, .list [], .lst (.of (u3 _ _ g2)) (ops_dp (paired_imp (fun _ _ h => OpAt.same h u3) p2)), .lst (.of upd_same) .nil, (sh_ops _).2, rfl, _, rfl, iteEqv (eqv_sh (d := .list []) rfl) (nx _ ((b1.same s2).same u3))⟩
theorem y_b14 (T : Tx K mg) (Y : Ax w T) (L : LiX K mg) {S : RdS K mg} (W : WdX S L) (eC : L.cE = S.cE) (BO : XcF K mg S.cE S.k4 "index") (RO : RdJ S S.k4 4) (TB : TabB base mg cT PT) (hr : Room 14 (A.deeper (envOfC "law" (defScope s_law) s.heap.objs.size f (.ref cT)))) : ∃ t, PS (XL P w K mg base f (.ref cT) A outer s H0 E) (bs 14) t ∧ ∀ (D : Ends) (H : Hp) (q : Lq) (z2 z8 z9 z10 z11 z12 z15 : Option V) (la ot : Addr), LD2 K T.C T.tC T.cC T.vC [(PT, (XL P w K mg base f (.ref cT) A outer s H0 E).env.qual ++ "<lambda>")] H q 0 ot la → (∀ H', LD2 K T.C T.tC T.cC T.vC [(PT, (XL P w K mg base f (.ref cT) A outer s H0 E).env.qual ++ "<lambda>")] H' q 0 ot la → D.nx (sh q z2 z8 z9 z10 z11 z12 la ot z15) H') → t D (sh q z2 z8 z9 z10 z11 z12 la ot z15) H := by
  have nd := sc_law.nd
  refine ⟨_, ps_if (pt_cmpR (op_neD hr.units) (pe_rsO (X := XL P w K mg base f (.ref cT) A outer s H0 E) (k := 10) T BO RO TB rfl (by rfl) (lamP_by (N := N_law) (sc := defScope s_law) (by decide +kernel)) rfl (fun _ _ _ _ _ _ _ => .of_eq rfl) (hr.mono (by decide : 12 ≤ 14)) (fun A' outer' s' H' E' f' c' hr => h2 T Y BO hr)) (pe_tup (pa_cons pe_str (pa_cons pe_int pa_nil))) (nomark _)) (pss_one (ps_ret pe_bl)) pss_nil, ?_⟩
  rintro D H q z2 z8 z9 z10 z11 z12 z15 la ot b nx
  refine ⟨b.tb, fun H1 x1 tb1 E' hE' => ?_⟩
  have b1 := b.extN x1 tb1
  obtain ⟨dxl, co, hlr⟩ := b1.live
  refine ⟨q.lr, dxl, co, rfl, hlr, fun dd H2 s2 hd2 => hE' _ _ _ ⟨1, dd, rfl, rfl, hd2, fun p H3 s3 hp gp => ?_⟩⟩
  have b3 := (b1.same s2).same s3
  refine ⟨(by show 2 ≤ sizeLine; decide), fun t ht => ?_⟩
  have u4 := same_upd (o := .tup [.str "operation", .int 1]) ht
  exact ⟨.tuple [.str "operation", .int 1], .tuple [.str "operation", .int 1], .tup (.of (u4 _ _ gp)) (.cons (.str _) (.cons (.int _) .nil)), .tup (.of upd_same) (.cons (.str _) (.cons (.int _) .nil)), (by decide +kernel), (by decide +kernel), _, rfl, iteEqv (eqv_sh (by decide +kernel)) (nx _ (b3.same u4))⟩
theorem y_b15 (T : Tx K mg) (Y : Ax w T) (L : LiX K mg) {S : RdS K mg} (W : WdX S L) (eC : L.cE = S.cE) (BO : XcF K mg S.cE S.k4 "index") (RO : RdJ S S.k4 4) (TB : TabB base mg cT PT) (hr : Room 14 (A.deeper (envOfC "law" (defScope s_law) s.heap.objs.size f (.ref cT)))) : ∃ t, PS (XL P w K mg base f (.ref cT) A outer s H0 E) (bs 15) t ∧ ∀ (D : Ends) (H : Hp) (q : Lq) (z2 z8 z9 z10 z11 z12 z15 : Option V) (la ot : Addr), LD2 K T.C T.tC T.cC T.vC [(PT, (XL P w K mg base f (.ref cT) A outer s H0 E).env.qual ++ "<lambda>")] H q 0 ot la → (∀ H' z15, LD2 K T.C T.tC T.cC T.vC [(PT, (XL P w K mg base f (.ref cT) A outer s H0 E).env.qual ++ "<lambda>")] H' q q.os.length ot la → D.nx (sh q z2 z8 z9 z10 z11 z12 la ot z15) H') → t D (sh q z2 z8 z9 z10 z11 z12 la ot z15) H := by
  have nd := sc_law.nd
  refine ⟨_, ps_for PassesOwn.never rfl (pi_range1 (by rfl) T.z_range (pa_cons (pe_callB call_len_seq (by rfl) T.z_len PySem.boot_len (pa_cons (pv 6) pa_nil)) pa_nil)) (pg_name (i := 15) nd rfl (.inl rfl)) (pss_one (ps_if (PW.pt (pw_or (pt_not (pt_val (pe_meth0 (pv 4) T.clv T.mv_redo (fn_calm (ok_redo T Y L)) (hr.mono (by decide : 10 ≤ 14)) T.b_vredo .nil pass0))) (pw_or1 (pt_cmpR (op_neD hr.units) (pe_prop (pv 4) T.clv T.q_vhistory (ok_hist T) (hr.mono (by decide : 2 ≤ 14)) T.b_vhistory .nil pass0 rfl) (pe_slice sl_list (pv 6) po_none (po_some (pe_op op_add (pv 15) pe_int))) (nomark _))))) (pss_one (ps_ret pe_bl)) pss_nil)), ?_⟩
  rintro D H q z2 z8 z9 z10 z11 z12 z15 la ot b nx
  have l5 := b.ln
  have lop : q.opv.length = q.os.length := Paired.length b.po
  refine ⟨_, rfl, q.dl, _, rfl, .inl (.of b.hdl), _, rfl, by omega, by omega, ?_⟩
  refine for_range (lo := 0) (n := ((q.opv.length : Nat) : Int).toNat) (fun i σ H' => ∃ z15, σ = (sh q z2 z8 z9 z10 z11 z12 la ot z15) ∧ LD2 K T.C T.tC T.cC T.vC [(PT, (XL P w K mg base f (.ref cT) A outer s H0 E).env.qual ++ "<lambda>")] H' q i ot la)
    ⟨z15, rfl, b⟩ ?_ ?_
  · rintro i σ H2 hi ⟨z, rfl, b⟩
    obtain ⟨o, ho⟩ : ∃ o, q.os[i]? = some o := ⟨_, List.getElem?_eq_getElem (by omega)⟩
    obtain ⟨ook, oerr, oe, og, of⟩ := b.G.at ho
    obtain ⟨dxl, co, hlr⟩ := b.live
    obtain ⟨l1, l2, l3, l4⟩ := b.lens
    have I := b.I
    have ed : q.os.drop i = o :: q.os.drop (i + 1) := by
      obtain ⟨h1, h2⟩ := List.getElem?_eq_some_iff.mp ho
      rw [List.drop_eq_getElem_cons h1, h2]
    have et : q.os.take (i + 1) = q.os.take i ++ [o] := by rw [List.take_succ, ho]; rfl
    rw [ed, List.reverse_cons] at I
    refine ⟨_, rfl, q.lr, dxl, _, rfl, hlr, rfl, q.lr, q.ss, _, _, _, _, _, rfl, I, b.Gk, by omega, by omega, .inr ⟨_, o, rfl, by rw [b.gk]; exact ook, oerr, fun H3 kl I3 => ⟨_, rfl, iteF ?_⟩⟩⟩
    have b3 := b.move kl (k' := i + 1) (by rw [of, oe, et]; exact I3)
    obtain ⟨dxl3, co3, hlr3⟩ := b3.live
    refine ⟨_, rfl, q.lr, dxl3, _, rfl, hlr3, q.lr, q.ss, _, _, _, _, rfl, b3.I, fun H4 L4 opl4 s4 n4 g4 p4 => ?_⟩
    have b4 := b3.same s4
    refine ⟨_, rfl, _, rfl, _, _, rfl, rfl, _, rfl, q.dl, _, rfl, .of b4.hdl, fun m hm => ?_⟩
    rw [show ((0 : Int) + (i : Nat) + 1) = (((i + 1 : Nat)) : Int) by omega, cut_toA]
    have u5 := same_upd (o := .lst (q.opv.take (i + 1))) hm
    have b5 := b4.same u5
    exact ⟨.list _, .list _, .lst (.of (u5 _ _ g4)) (ops_dp (paired_imp (fun _ _ h => OpAt.same h u5) p4)), .lst (.of upd_same) (ops_dp (paired_take (i + 1) b5.po)), (sh_ops _).2, (sh_ops _).2, _, rfl, iteEqv (eqv_sh (sh_ops _).2) ⟨_, rfl, b5⟩⟩
  · rintro σ H2 ⟨z, rfl, b⟩
    rw [show ((q.opv.length : Nat) : Int).toNat = q.os.length by omega] at b
    exact nx _ _ b
theorem y_b16 (T : Tx K mg) (Y : Ax w T) (L : LiX K mg) {S : RdS K mg} (W : WdX S L) (eC : L.cE = S.cE) (BO : XcF K mg S.cE S.k4 "index") (RO : RdJ S S.k4 4) (TB : TabB base mg cT PT) (hr : Room 14 (A.deeper (envOfC "law" (defScope s_law) s.heap.objs.size f (.ref cT)))) : ∃ t, PS (XL P w K mg base f (.ref cT) A outer s H0 E) (bs 16) t ∧ ∀ (D : Ends) (H : Hp) (q : Lq) (z2 z8 z9 z10 z11 z12 z15 : Option V) (la ot : Addr), LD2 K T.C T.tC T.cC T.vC [(PT, (XL P w K mg base f (.ref cT) A outer s H0 E).env.qual ++ "<lambda>")] H q q.os.length ot la → (∀ H', D.rt (.bl true) H') → t D (sh q z2 z8 z9 z10 z11 z12 la ot z15) H := by
  have nd := sc_law.nd
  refine ⟨_, ps_ret (pe_and (pe_not (pe_meth0 (pv 4) T.clv T.mv_redo (fn_calm (ok_redo T Y L)) (hr.mono (by decide : 10 ≤ 14)) T.b_vredo .nil pass0)) (pe_and (pe_cmpR (op_eqD hr.units) (pe_call (ok_told T) (hr.mono (by decide : 6 ≤ 14)) (by rfl) T.g_ltold T.F_ltold.kp T.b_ltold .nil pass0 (pa_cons (pv 4) pa_nil)) (pv 13) (nomark _)) (pe_one (pe_cmpR (op_eqD hr.units) (pe_methR0 (E := E0) (pv 4) T.clv T.mv_apply (ok_an T Y) (hr.mono (by decide : 10 ≤ 14)) passNo) (pe_lst pa_nil) (nomark _))))), ?_⟩
  rintro D H q z2 z8 z9 z10 z11 z12 z15 la ot b rt
  obtain ⟨dxl, co, hlr⟩ := b.live
  obtain ⟨l1, l2, l3, l4⟩ := b.lens
  have I := b.I
  rw [List.drop_length] at I
  refine ⟨_, rfl, q.lr, dxl, _, rfl, hlr, rfl, q.lr, q.ss, _, _, _, _, _, rfl, I, b.Gk, by omega, by omega, .inl ⟨rfl, fun H1 s1 => ⟨_, rfl, _, rfl, iteT ?_⟩⟩⟩
  have b1 := b.same s1
  refine ⟨_, rfl, q.lr, q.ss, _, _, _, _, _, rfl, b1.I, b1.Gk, by rw [b1.gk]; exact b1.l8, fun H2 L2 s2 n2 tv2 => ?_⟩
  have b2 := b1.same s2
  rw [List.take_length] at tv2
  refine ⟨_, rfl, toldD _, toldD _, tv2.dp, b2.tl.dp, sh_told _, sh_told _, _, rfl, ?_⟩
  rw [eqv_sh (sh_told _)]
  refine iteT ?_
  have I2 := b2.I
  rw [List.drop_length] at I2
  obtain ⟨dxl2, co2, dxc, tt, ot', ut, tb, tabs, opl, und, J⟩ := I2
  refine ⟨_, rfl, q.lr, dxl2, _, rfl, J.ob, rfl, [.ref q.lr], [], rfl, rfl, Nat.zero_le _, fun p hp => ?_⟩
  have u3 := same_upd (o := .tup []) hp
  have J3 := J.same u3
  refine ⟨q.lr, p, dxl2, co2, .non, [], q.ss, _, _, _, _, [], fun _ _ xs => xs = [], rfl, upd_same, .nil, J3.ob, ⟨dxc, tt, ot', ut, tb, tabs, opl, und, J3.co, J3.tbs, J3.tb, J3.op, J3.un⟩, (by show _ + 0 ≤ 700; omega), (by show _ + 0 ≤ 700; omega), rfl, fun gs' gF xs H4 L4 rs c2 us' hF k4 n4 g4 rv _ _ _ _ => ?_⟩
  subst hF
  have er : rs = [] := by cases rv; rfl
  subst er
  refine ⟨Nat.zero_le _, fun e he => ?_⟩
  have u5 := same_upd (o := .lst []) he
  refine ⟨.list [], .list [], .lst (.of (u5 _ _ g4)) .nil, .lst (.of upd_same) .nil, rfl, rfl, ?_⟩
  rw [eqv_sh (d := .list []) rfl]
  exact rt _
end
end Rp
namespace Rp
open PySem PySem.Spec PyProof.Rows L2 Rz Rm Rt Rl LamX
/-- a def whose code object is known -/
structure FunC (K : PySem.W.Frag) (x qual : Str) (st : Stmt) (f : Addr) (fd : FuncData) (cd : Value) : Prop where
  ex : ∃ (oc : Value) (od : Option Addr) (kV doc pm : Value) (an : Option Addr) (ct : Value) (osl : Array (Option Value)),
    fd = PySem.W.fnOf x qual (defArgs st) (defBody st) (defScope st) .none kV doc pm an cd ct ∧ K.lookup f = some ⟨oc, od, .func fd, osl⟩ ∧ PySem.W.codeIn K cd qual = true
theorem FunC.ok {P : Program} {w : World} {K : PySem.W.Frag} {mg : Str → Option Value} {base : Heap} {x qual : Str} {st : Stmt} {f : Addr} {fd : FuncData} {cd : Value} {N ps : List Str} {k : Nat} {sp : Sp} (F : FunC K x qual st f fd cd) (S : FnScope N ps (defScope st)) (len : ∀ vs H Q E, sp vs H Q E → vs.length = ps.length)
    (hbody : ∀ (A : Around) (outer : List Env) (s : Shared) (H : Hp) (vs : List V) (Q : VK) (E : XK), Room k (A.deeper (envOfC qual (defScope st) s.heap.objs.size f cd)) → sp vs H Q E →
      ∃ t, PSs (cxOf CX0 P w K mg base N qual (defScope st) f cd A outer s H E).nox (defBody st) t ∧ t { nx := fun _ H' => Q .non H', rt := Q } (start N vs) H) : FnOk P w K mg base CX0 (k + 1) f fd ps sp := by
  obtain ⟨oc, od, kV, doc, pm, an, ct, osl, rfl, lk, hcd⟩ := F.ex
  refine fn_of lk hcd S len fun A outer s H vs Q E hr hsp => ?_
  obtain ⟨t, h, q⟩ := hbody A outer s H vs Q E hr hsp
  exact ⟨t, h.nox, q⟩
section
variable {P : Program} {w : World} {K : PySem.W.Frag} {mg : Str → Option Value} {base : Heap}
def spLawL (K : PySem.W.Frag) (PT : Addr) : Sp := fun vs H Q _ => ∃ (a : Addr) (ns : List Int), vs = [.ref a] ∧ SqL K H a (ns.map V.int) ∧ ns.length ≤ 63 ∧ H PT = some (.tbl #[]) ∧ ∀ H', Q (.bl true) H'
theorem ok_law {cT PT : Addr} (T : Tx K mg) (Y : Ax w T) (L : LiX K mg) (S : RdS K mg) (W : WdX S L) (eC : L.cE = S.cE) (BO : XcF K mg S.cE S.k4 "index") (RO : RdJ S S.k4 4) (TB : TabB base mg cT PT) (FC : FunC K "law" "law" s_law T.a_law T.d_law (.ref cT)) : FnOk P w K mg base CX0 15 T.a_law T.d_law P_law (spLawL K PT) := by
  refine FC.ok sc_law (fun vs H Q E h => ?_) (fun A outer s H vs Q E hr h => ?_)
  · obtain ⟨a, ns, rfl, _⟩ := h
    rfl
  · obtain ⟨a, ns, rfl, hS, hlen, hP, qq⟩ := h
    have nd := sc_law.nd
    obtain ⟨ubody, qbody, vbody⟩ := y_body (P := P) (w := w) (K := K) (mg := mg) (base := base) (f := T.a_law) (cT := cT) (PT := PT) (A := A) (outer := outer) (s := s) (H0 := H) (E := E) T Y L W eC BO RO TB hr
    obtain ⟨ub5, qb5, vb5⟩ := y_b5 (P := P) (w := w) (K := K) (mg := mg) (base := base) (f := T.a_law) (cT := cT) (PT := PT) (A := A) (outer := outer) (s := s) (H0 := H) (E := E) T Y L W eC BO RO TB hr
    obtain ⟨ub6, qb6, vb6⟩ := y_b6 (P := P) (w := w) (K := K) (mg := mg) (base := base) (f := T.a_law) (cT := cT) (PT := PT) (A := A) (outer := outer) (s := s) (H0 := H) (E := E) T Y L W eC BO RO TB hr
    obtain ⟨ub7, qb7, vb7⟩ := y_b7 (P := P) (w := w) (K := K) (mg := mg) (base := base) (f := T.a_law) (cT := cT) (PT := PT) (A := A) (outer := outer) (s := s) (H0 := H) (E := E) T Y L W eC BO RO TB hr
    obtain ⟨ub8, qb8, vb8⟩ := y_b8 (P := P) (w := w) (K := K) (mg := mg) (base := base) (f := T.a_law) (cT := cT) (PT := PT) (A := A) (outer := outer) (s := s) (H0 := H) (E := E) T Y L W eC BO RO TB hr
    obtain ⟨ub9, qb9, vb9⟩ := y_b9 (P := P) (w := w) (K := K) (mg := mg) (base := base) (f := T.a_law) (cT := cT) (PT := PT) (A := A) (outer := outer) (s := s) (H0 := H) (E := E) T Y L W eC BO RO TB hr
    obtain ⟨ub10, qb10, vb10⟩ := y_b10 (P := P) (w := w) (K := K) (mg := mg) (base := base) (f := T.a_law) (cT := cT) (PT := PT) (A := A) (outer := outer) (s := s) (H0 := H) (E := E) T Y L W eC BO RO TB hr
    obtain ⟨ub11, qb11, vb11⟩ := y_b11 (P := P) (w := w) (K := K) (mg := mg) (base := base) (f := T.a_law) (cT := cT) (PT := PT) (A := A) (outer := outer) (s := s) (H0 := H) (E := E) T Y L W eC BO RO TB hr
    obtain ⟨ub12, qb12, vb12⟩ := y_b12 (P := P) (w := w) (K := K) (mg := mg) (base := base) (f := T.a_law) (cT := cT) (PT := PT) (A := A) (outer := outer) (s := s) (H0 := H) (E := E) T Y L W eC BO RO TB hr
    obtain ⟨ub13, qb13, vb13⟩ := y_b13 (P := P) (w := w) (K := K) (mg := mg) (base := base) (f := T.a_law) (cT := cT) (PT := PT) (A := A) (outer := outer) (s := s) (H0 := H) (E := E) T Y L W eC BO RO TB hr
    obtain ⟨ub14, qb14, vb14⟩ := y_b14 (P := P) (w := w) (K := K) (mg := mg) (base := base) (f := T.a_law) (cT := cT) (PT := PT) (A := A) (outer := outer) (s := s) (H0 := H) (E := E) T Y L W eC BO RO TB hr
    obtain ⟨ub15, qb15, vb15⟩ := y_b15 (P := P) (w := w) (K := K) (mg := mg) (base := base) (f := T.a_law) (cT := cT) (PT := PT) (A := A) (outer := outer) (s := s) (H0 := H) (E := E) T Y L W eC BO RO TB hr
    obtain ⟨ub16, qb16, vb16⟩ := y_b16 (P := P) (w := w) (K := K) (mg := mg) (base := base) (f := T.a_law) (cT := cT) (PT := PT) (A := A) (outer := outer) (s := s) (H0 := H) (E := E) T Y L W eC BO RO TB hr
    refine ⟨_, (pss_cons (ps_set (i := 1) nd rfl (.inl rfl) (pe_lst (pa_cons (pv 0) (pa_cons pe_int (pa_cons pe_int (pa_cons pe_int pa_nil)))))) (pss_cons (ps_set (i := 2) nd rfl (.inl rfl) (pe_call (ok_parts T) (hr.mono (by decide : 2 ≤ 14)) (by rfl) T.g_lparts T.F_lparts.kp T.b_lparts .nil pass0 (pa_cons (pv 1) (pa_cons pe_int pa_nil)))) (pss_cons (ps_set (i := 3) nd rfl (.inl rfl) (pe_make T.mkR (ok_init T) (hr.mono (by decide : 5 ≤ 14)) (by rfl) T.gC T.b_rinit .nil pass0 (pa_cons (pe_ix ix_tup (pv 2) pe_int (fun _ _ => rfl)) (pa_cons (pe_ix ix_tup (pv 2) pe_int (fun _ _ => rfl)) pa_nil)))) (pss_cons (ps_asg (pe_tup (pa_cons (pe_make T.mkv (ok_li T) (hr.mono (by decide : 6 ≤ 14)) (by rfl) T.gvC T.b_vinit .nil pass0 (pa_cons (pv 3) pa_nil)) (pa_cons (pe_call (ok_firstD T) (hr.mono (by decide : 3 ≤ 14)) (by rfl) T.g_lfirst T.F_lfirst.kp T.b_lfirst .nil pass0 (pa_cons (pv 2) pa_nil)) (pa_cons (pe_lst pa_nil) (pa_cons (pe_lst pa_nil) pa_nil))))) (pg_tup rfl (pgs_cons (pg_name (i := 4) nd rfl (.inr rfl)) (pgs_cons (pg_name (i := 5) nd rfl (.inl rfl)) (pgs_cons (pg_name (i := 6) nd rfl (.inl rfl)) (pgs_cons (pg_name (i := 7) nd rfl (.inl rfl)) pgs_nil)))))) (pss_cons (ps_for PassesOwn.never rfl (pi_range1 (by rfl) T.z_range (pa_cons (pe_call (ok_taken T) (hr.mono (by decide : 1 ≤ 14)) (by rfl) T.g_ltaken T.F_ltaken.kp T.b_ltaken .nil pass0 (pa_cons (pv 1) (pa_cons pe_int pa_nil))) pa_nil)) (pg_name (i := 8) nd rfl (.inl rfl)) qbody) (pss_cons qb5 (pss_cons qb6 (pss_cons qb7 (pss_cons qb8 (pss_cons qb9 (pss_cons qb10 (pss_cons qb11 (pss_cons qb12 (pss_cons qb13 (pss_cons qb14 (pss_cons qb15 (pss_one qb16))))))))))))))))), ?_⟩
    have tb0 : Tabs [(PT, (XL P w K mg base T.a_law (.ref cT) A outer s H E).env.qual ++ "<lambda>")] H := fun p hp => by
      cases List.mem_singleton.mp hp
      exact TabS.nil hP
    refine ⟨_, rfl, (by show 4 ≤ sizeLine; decide), fun row hrow => ?_⟩
    have s0 := same_upd (o := .lst [.ref a, .int 0, .int 0, .int 0]) hrow
    have RA0 : RowAt K (upd H row (.lst [.ref a, .int 0, .int 0, .int 0])) row a ns := ⟨⟨0, 0, 0, upd_same, Int.le_refl _⟩, s0.seq hS, far_of hS hrow⟩
    have tb1 := tb0.ext s0
    generalize (upd H row (.lst [.ref a, .int 0, .int 0, .int 0])) = Ha at RA0 tb1 ⊢
    refine ⟨_, rfl, row, a, ns, 6, rfl, RA0, by decide, by decide, fun H1 t td ts ds ss G RA1 k1 ht hd hs => ?_⟩
    have tb2 := Tabs_kp RA0 k1 tb1
    refine ⟨_, rfl, t, _, 0, _, rfl, rfl, .of ht, atI_nat (j := 0) rfl, _, rfl, t, _, 1, _, rfl, rfl, .of ht, atI_nat (j := 1) rfl, fun p dp np ndp ne => ?_⟩
    have s9 := same_nw (C := T.C) np ndp
    refine ⟨p, dp, td, ts, ds, ss, rfl, upd_same, s9 _ _ hd, s9 _ _ hs, G, fun H3 R3 k3 => ⟨rfl, ?_⟩⟩
    have s3 : Same H1 H3 := sn_mad np ndp k3
    refine ⟨_, rfl, fun lr dxl nl ndl nel => ?_⟩
    have sl := same_nw (C := T.vC) nl ndl
    refine ⟨lr, dxl, p, dp, td, ts, ds, ss, rfl, upd_same, R3.same sl, fun H5 co dxc tt ot ut tb dxt hl cl ha cs k5 n1 n2 n3 n4 glr gco M => ⟨rfl, ?_⟩⟩
    have s5 : Same H3 H5 := sn_mad nl ndl k5
    have s15 := s3.trans s5
    have I5 : LiE T.C T.tC T.cC T.vC ss H5 lr [] (g0 ds ss) [] [] := ⟨dxl, co, dxc, tt, ot, ut, tb, [], [], [], glr, gco, .nil, ⟨dxt, p, dp, td, ts, hl, cl, ha, cs, M⟩, .nil, .nil⟩
    refine ⟨_, rfl, t, td, ts, ds, ss, rfl, s15 _ _ ht, s15 _ _ hd, s15 _ _ hs, G, fun H6 hd6 ld6 hl6 rd6 ha6 cs6 s6 _ D6 => ?_⟩
    refine ⟨Nat.zero_le _, fun dl hdl => ⟨Nat.zero_le _, fun st hst => ⟨(by show 4 ≤ sizeLine; decide), fun tp htp => ⟨tp, _, rfl, .of upd_same, rfl, _, _, rfl, _, _, rfl, _, _, rfl, _, _, rfl, rfl, ?_⟩⟩⟩⟩
    have u7 := same_upd (o := .lst []) hdl
    have g7 : (upd H6 dl (.lst [])) dl = some (.lst []) := upd_same
    generalize (upd H6 dl (.lst [])) = H7 at hst u7 g7 htp ⊢
    have u8 := same_upd (o := .lst []) hst
    have g8 : (upd H7 st (.lst [])) st = some (.lst []) := upd_same
    generalize (upd H7 st (.lst [])) = H8 at u8 g8 htp ⊢
    have u9 := same_upd (o := .tup [.ref lr, .ref hd6, .ref dl, .ref st]) htp
    generalize (upd H8 tp (.tup [.ref lr, .ref hd6, .ref dl, .ref st])) = H9 at u9 ⊢
    have s89 := u8.trans u9
    have s69 := (u7.trans u8).trans u9
    have s16 := s15.trans s6
    have s19 := s16.trans s69
    have RA6 := RA1.same s16
    have hst6 : H6 st = none := same_noneT u7 hst
    have b0 : LD1 K T.C T.tC T.cC T.vC [(PT, (XL P w K mg base T.a_law (.ref cT) A outer s H E).env.qual ++ "<lambda>")] H9 ⟨a, row, p, dp, td, ts, lr, hd6, dl, st, ns, ds, ss, [], [], []⟩ 0 :=
      ⟨RA1.same s19, tb2.ext s19, (R3.same (s5.trans s6)).same s69, (I5.same s6).same s69, ⟨ld6, hl6, rd6, ha6, cs6, D6.same s69, fun x m => by
        obtain ⟨j, hj⟩ := List.getElem?_of_mem m
        exact ⟨ne_of_none (D6.hv j x hj) hdl, ne_of_none (D6.hv j x hj) hst6⟩⟩, s89 _ _ g7, u9 _ _ g8, .nil, .nil, (GI.first G).mono (by have := G.b12; omega), Nat.le_refl _, RA6.nn hdl, RA6.nn hst6, ne_of_none g7 hst, far_of RA6.sc hdl, far_of RA6.sc hst6⟩
    refine ⟨_, rfl, row, a, ns, 12, rfl, b0.RA, by decide, by decide, fun cnt H10 c0 c1 RA10 k10 => ⟨_, rfl, by omega, by omega, ?_⟩⟩
    have b10 := b0.kp k10 RA10
    refine for_range (lo := 0) (n := cnt.toNat) (fun i σ H' => ∃ q z2 z8 z9 z10 z11 z12 z13 z14 z15, σ = sg q z2 z8 z9 z10 z11 z12 z13 z14 z15 ∧ LD1 K T.C T.tC T.cC T.vC [(PT, (XL P w K mg base T.a_law (.ref cT) A outer s H E).env.qual ++ "<lambda>")] H' q i)
      ⟨_, _, _, _, _, _, _, _, _, _, rfl, b10⟩ ?_ ?_
    · rintro i σ H2 hi ⟨q, z2, z8, z9, z10, z11, z12, z13, z14, z15, rfl, b⟩
      refine vbody _ H2 q i _ _ _ _ _ _ _ _ _ b (by omega) fun H3 q z9 z10 z11 z12 b => ?_
      exact ⟨q, _, _, _, _, _, _, _, _, _, rfl, b⟩
    · rintro σ H2 ⟨q, z2, z8, z9, z10, z11, z12, z13, z14, z15, rfl, b⟩
      refine vb5 _ H2 q _ _ _ _ _ _ _ _ _ _ b (by omega) fun H3 la ot b => ?_
      refine vb6 _ H3 q _ _ _ _ _ _ _ la ot b fun H4 b => ?_
      refine vb7 _ H4 q _ _ _ _ _ _ _ la ot b fun H5 b => ?_
      refine vb8 _ H5 q _ _ _ _ _ _ _ la ot b fun H6 b => ?_
      refine vb9 _ H6 q _ _ _ _ _ _ _ la ot b fun H7 b => ?_
      refine vb10 _ H7 q _ _ _ _ _ _ _ la ot b fun H8 b => ?_
      refine vb11 _ H8 q _ _ _ _ _ _ _ la ot b fun H9 b => ?_
      refine vb12 _ H9 q _ _ _ _ _ _ _ la ot b fun H10 z15' b => ?_
      refine vb13 _ H10 q _ _ _ _ _ _ _ la ot b fun H11 b => ?_
      refine vb14 _ H11 q _ _ _ _ _ _ _ la ot b fun H12 b => ?_
      refine vb15 _ H12 q _ _ _ _ _ _ _ la ot b fun H13 z15'' b => ?_
      exact vb16 _ H13 q _ _ _ _ _ _ _ la ot b fun H14 => qq H14
end
end Rp
namespace Rp
open PySem PySem.Spec PyProof.Rows L2 Rz Rm Rt Rl LamX
theorem all_mk {l : PySem.W.OpenLaw} {w : World} {K : PySem.W.Frag} {h : Heap} {mg : Str → Option Value} {fa C tC cC vC : Addr} (X : K.In h) (G : h.Ns mainGlobals mg) (hfa : mg "law" = some (.ref fa))
    {f_iBeingRead : Addr} {od_iBeingRead an_iBeingRead : Option Addr} {sl_iBeingRead : Array (Option Value)} {oc_iBeingRead kV_iBeingRead dc_iBeingRead pm_iBeingRead cd_iBeingRead ct_iBeingRead : Value}
    {ec_iBeingRead : Addr}
    {f_iInvalidOperation : Addr} {od_iInvalidOperation an_iInvalidOperation : Option Addr} {sl_iInvalidOperation : Array (Option Value)} {oc_iInvalidOperation kV_iInvalidOperation dc_iInvalidOperation pm_iInvalidOperation cd_iInvalidOperation ct_iInvalidOperation : Value}
    {ec_iInvalidOperation : Addr}
    {f_is_number : Addr} {od_is_number an_is_number : Option Addr} {sl_is_number : Array (Option Value)} {oc_is_number kV_is_number dc_is_number pm_is_number cd_is_number ct_is_number : Value}
    {f_lies_between : Addr} {od_lies_between an_lies_between : Option Addr} {sl_lies_between : Array (Option Value)} {oc_lies_between kV_lies_between dc_lies_between pm_lies_between cd_lies_between ct_lies_between : Value}
    {f_check_number : Addr} {od_check_number an_check_number : Option Addr} {sl_check_number : Array (Option Value)} {oc_check_number kV_check_number dc_check_number pm_check_number cd_check_number ct_check_number : Value}
    {f_check_reader : Addr} {od_check_reader an_check_reader : Option Addr} {sl_check_reader : Array (Option Value)} {oc_check_reader kV_check_reader dc_check_reader pm_check_reader cd_check_reader ct_check_reader : Value}
    {f_rinit : Addr} {od_rinit an_rinit : Option Addr} {sl_rinit : Array (Option Value)} {oc_rinit kV_rinit dc_rinit pm_rinit cd_rinit ct_rinit : Value}
    {f_rdays : Addr} {od_rdays an_rdays : Option Addr} {sl_rdays : Array (Option Value)} {oc_rdays kV_rdays dc_rdays pm_rdays cd_rdays ct_rdays : Value}
    {pp_rdays : Addr} {re_rdays : List Value}
    {f_rstarts : Addr} {od_rstarts an_rstarts : Option Addr} {sl_rstarts : Array (Option Value)} {oc_rstarts kV_rstarts dc_rstarts pm_rstarts cd_rstarts ct_rstarts : Value}
    {pp_rstarts : Addr} {re_rstarts : List Value}
    {f_rbooks : Addr} {od_rbooks an_rbooks : Option Addr} {sl_rbooks : Array (Option Value)} {oc_rbooks kV_rbooks dc_rbooks pm_rbooks cd_rbooks ct_rbooks : Value}
    {pp_rbooks : Addr} {re_rbooks : List Value}
    {f_rpace : Addr} {od_rpace an_rpace : Option Addr} {sl_rpace : Array (Option Value)} {oc_rpace kV_rpace dc_rpace pm_rpace cd_rpace ct_rpace : Value}
    {pp_rpace : Addr} {re_rpace : List Value}
    {f_rwith_days : Addr} {od_rwith_days an_rwith_days : Option Addr} {sl_rwith_days : Array (Option Value)} {oc_rwith_days kV_rwith_days dc_rwith_days pm_rwith_days cd_rwith_days ct_rwith_days : Value}
    {f_rlen : Addr} {od_rlen an_rlen : Option Addr} {sl_rlen : Array (Option Value)} {oc_rlen kV_rlen dc_rlen pm_rlen cd_rlen ct_rlen : Value}
    {f_rcall : Addr} {od_rcall an_rcall : Option Addr} {sl_rcall : Array (Option Value)} {oc_rcall kV_rcall dc_rcall pm_rcall cd_rcall ct_rcall : Value}
    {f_check_part : Addr} {od_check_part an_check_part : Option Addr} {sl_check_part : Array (Option Value)} {oc_check_part kV_check_part dc_check_part pm_check_part cd_check_part ct_check_part : Value}
    {f_end_day : Addr} {od_end_day an_end_day : Option Addr} {sl_end_day : Array (Option Value)} {oc_end_day kV_end_day dc_end_day pm_end_day cd_end_day ct_end_day : Value}
    {f_reader_after : Addr} {od_reader_after an_reader_after : Option Addr} {sl_reader_after : Array (Option Value)} {oc_reader_after kV_reader_after dc_reader_after pm_reader_after cd_reader_after ct_reader_after : Value}
    {f_tinit : Addr} {od_tinit an_tinit : Option Addr} {sl_tinit : Array (Option Value)} {oc_tinit kV_tinit dc_tinit pm_tinit cd_tinit ct_tinit : Value}
    {f_first_table : Addr} {od_first_table an_first_table : Option Addr} {sl_first_table : Array (Option Value)} {oc_first_table kV_first_table dc_first_table pm_first_table cd_first_table ct_first_table : Value}
    {f_copied_table : Addr} {od_copied_table an_copied_table : Option Addr} {sl_copied_table : Array (Option Value)} {oc_copied_table kV_copied_table dc_copied_table pm_copied_table cd_copied_table ct_copied_table : Value}
    {f_books_at : Addr} {od_books_at an_books_at : Option Addr} {sl_books_at : Array (Option Value)} {oc_books_at kV_books_at dc_books_at pm_books_at cd_books_at ct_books_at : Value}
    {f_places_of : Addr} {od_places_of an_places_of : Option Addr} {sl_places_of : Array (Option Value)} {oc_places_of kV_places_of dc_places_of pm_places_of cd_places_of ct_places_of : Value}
    {f_has_book : Addr} {od_has_book an_has_book : Option Addr} {sl_has_book : Array (Option Value)} {oc_has_book kV_has_book dc_has_book pm_has_book cd_has_book ct_has_book : Value}
    {f_place_of : Addr} {od_place_of an_place_of : Option Addr} {sl_place_of : Array (Option Value)} {oc_place_of kV_place_of dc_place_of pm_place_of cd_place_of ct_place_of : Value}
    {f_begin_readings : Addr} {od_begin_readings an_begin_readings : Option Addr} {sl_begin_readings : Array (Option Value)} {oc_begin_readings kV_begin_readings dc_begin_readings pm_begin_readings cd_begin_readings ct_begin_readings : Value}
    {f_end_readings : Addr} {od_end_readings an_end_readings : Option Addr} {sl_end_readings : Array (Option Value)} {oc_end_readings kV_end_readings dc_end_readings pm_end_readings cd_end_readings ct_end_readings : Value}
    {f_put_book : Addr} {od_put_book an_put_book : Option Addr} {sl_put_book : Array (Option Value)} {oc_put_book kV_put_book dc_put_book pm_put_book cd_put_book ct_put_book : Value}
    {f_let_pass : Addr} {od_let_pass an_let_pass : Option Addr} {sl_let_pass : Array (Option Value)} {oc_let_pass kV_let_pass dc_let_pass pm_let_pass cd_let_pass ct_let_pass : Value}
    {f_add_book : Addr} {od_add_book an_add_book : Option Addr} {sl_add_book : Array (Option Value)} {oc_add_book kV_add_book dc_add_book pm_add_book cd_add_book ct_add_book : Value}
    {f_change_days : Addr} {od_change_days an_change_days : Option Addr} {sl_change_days : Array (Option Value)} {oc_change_days kV_change_days dc_change_days pm_change_days cd_change_days ct_change_days : Value}
    {f_take_book : Addr} {od_take_book an_take_book : Option Addr} {sl_take_book : Array (Option Value)} {oc_take_book kV_take_book dc_take_book pm_take_book cd_take_book ct_take_book : Value}
    {f_is_operation : Addr} {od_is_operation an_is_operation : Option Addr} {sl_is_operation : Array (Option Value)} {oc_is_operation kV_is_operation dc_is_operation pm_is_operation cd_is_operation ct_is_operation : Value}
    {f_carry_out : Addr} {od_carry_out an_carry_out : Option Addr} {sl_carry_out : Array (Option Value)} {oc_carry_out kV_carry_out dc_carry_out pm_carry_out cd_carry_out ct_carry_out : Value}
    {f_cinit : Addr} {od_cinit an_cinit : Option Addr} {sl_cinit : Array (Option Value)} {oc_cinit kV_cinit dc_cinit pm_cinit cd_cinit ct_cinit : Value}
    {f_vinit : Addr} {od_vinit an_vinit : Option Addr} {sl_vinit : Array (Option Value)} {oc_vinit kV_vinit dc_vinit pm_vinit cd_vinit ct_vinit : Value}
    {f_vreplay : Addr} {od_vreplay an_vreplay : Option Addr} {sl_vreplay : Array (Option Value)} {oc_vreplay kV_vreplay dc_vreplay pm_vreplay cd_vreplay ct_vreplay : Value}
    {p_vrp : Addr} {rest_vrp : List Value}
    {f_vtoday : Addr} {od_vtoday an_vtoday : Option Addr} {sl_vtoday : Array (Option Value)} {oc_vtoday kV_vtoday dc_vtoday pm_vtoday cd_vtoday ct_vtoday : Value}
    {pp_vtoday : Addr} {re_vtoday : List Value}
    {f_vwaiting_books : Addr} {od_vwaiting_books an_vwaiting_books : Option Addr} {sl_vwaiting_books : Array (Option Value)} {oc_vwaiting_books kV_vwaiting_books dc_vwaiting_books pm_vwaiting_books cd_vwaiting_books ct_vwaiting_books : Value}
    {pp_vwaiting_books : Addr} {re_vwaiting_books : List Value}
    {f_vbeing_read : Addr} {od_vbeing_read an_vbeing_read : Option Addr} {sl_vbeing_read : Array (Option Value)} {oc_vbeing_read kV_vbeing_read dc_vbeing_read pm_vbeing_read cd_vbeing_read ct_vbeing_read : Value}
    {pp_vbeing_read : Addr} {re_vbeing_read : List Value}
    {f_vhistory : Addr} {od_vhistory an_vhistory : Option Addr} {sl_vhistory : Array (Option Value)} {oc_vhistory kV_vhistory dc_vhistory pm_vhistory cd_vhistory ct_vhistory : Value}
    {pp_vhistory : Addr} {re_vhistory : List Value}
    {f_vpass_days : Addr} {od_vpass_days an_vpass_days : Option Addr} {sl_vpass_days : Array (Option Value)} {oc_vpass_days kV_vpass_days dc_vpass_days pm_vpass_days cd_vpass_days ct_vpass_days : Value}
    {f_vadd : Addr} {od_vadd an_vadd : Option Addr} {sl_vadd : Array (Option Value)} {oc_vadd kV_vadd dc_vadd pm_vadd cd_vadd ct_vadd : Value}
    {f_vset_days : Addr} {od_vset_days an_vset_days : Option Addr} {sl_vset_days : Array (Option Value)} {oc_vset_days kV_vset_days dc_vset_days pm_vset_days cd_vset_days ct_vset_days : Value}
    {f_vtake : Addr} {od_vtake an_vtake : Option Addr} {sl_vtake : Array (Option Value)} {oc_vtake kV_vtake dc_vtake pm_vtake cd_vtake ct_vtake : Value}
    {f_vundo : Addr} {od_vundo an_vundo : Option Addr} {sl_vundo : Array (Option Value)} {oc_vundo kV_vundo dc_vundo pm_vundo cd_vundo ct_vundo : Value}
    {f_vredo : Addr} {od_vredo an_vredo : Option Addr} {sl_vredo : Array (Option Value)} {oc_vredo kV_vredo dc_vredo pm_vredo cd_vredo ct_vredo : Value}
    {f_vapply : Addr} {od_vapply an_vapply : Option Addr} {sl_vapply : Array (Option Value)} {oc_vapply kV_vapply dc_vapply pm_vapply cd_vapply ct_vapply : Value}
    {f_vwaiting_after : Addr} {od_vwaiting_after an_vwaiting_after : Option Addr} {sl_vwaiting_after : Array (Option Value)} {oc_vwaiting_after kV_vwaiting_after dc_vwaiting_after pm_vwaiting_after cd_vwaiting_after ct_vwaiting_after : Value}
    {f_venter : Addr} {od_venter an_venter : Option Addr} {sl_venter : Array (Option Value)} {oc_venter kV_venter dc_venter pm_venter cd_venter ct_venter : Value}
    {f_vexit : Addr} {od_vexit an_vexit : Option Addr} {sl_vexit : Array (Option Value)} {oc_vexit kV_vexit dc_vexit pm_vexit cd_vexit ct_vexit : Value}
    {f_vlen : Addr} {od_vlen an_vlen : Option Addr} {sl_vlen : Array (Option Value)} {oc_vlen kV_vlen dc_vlen pm_vlen cd_vlen ct_vlen : Value}
    {f_vcontains : Addr} {od_vcontains an_vcontains : Option Addr} {sl_vcontains : Array (Option Value)} {oc_vcontains kV_vcontains dc_vcontains pm_vcontains cd_vcontains ct_vcontains : Value}
    {f_executed : Addr} {od_executed an_executed : Option Addr} {sl_executed : Array (Option Value)} {oc_executed kV_executed dc_executed pm_executed cd_executed ct_executed : Value}
    {f_ltaken : Addr} {od_ltaken an_ltaken : Option Addr} {sl_ltaken : Array (Option Value)} {oc_ltaken kV_ltaken dc_ltaken pm_ltaken cd_ltaken ct_ltaken : Value}
    {f_lparts : Addr} {od_lparts an_lparts : Option Addr} {sl_lparts : Array (Option Value)} {oc_lparts kV_lparts dc_lparts pm_lparts cd_lparts ct_lparts : Value}
    {f_lbegin : Addr} {od_lbegin an_lbegin : Option Addr} {sl_lbegin : Array (Option Value)} {oc_lbegin kV_lbegin dc_lbegin pm_lbegin cd_lbegin ct_lbegin : Value}
    {f_lfirst : Addr} {od_lfirst an_lfirst : Option Addr} {sl_lfirst : Array (Option Value)} {oc_lfirst kV_lfirst dc_lfirst pm_lfirst cd_lfirst ct_lfirst : Value}
    {f_lday : Addr} {od_lday an_lday : Option Addr} {sl_lday : Array (Option Value)} {oc_lday kV_lday dc_lday pm_lday cd_lday ct_lday : Value}
    {f_lcopied : Addr} {od_lcopied an_lcopied : Option Addr} {sl_lcopied : Array (Option Value)} {oc_lcopied kV_lcopied dc_lcopied pm_lcopied cd_lcopied ct_lcopied : Value}
    {f_lraised : Addr} {od_lraised an_lraised : Option Addr} {sl_lraised : Array (Option Value)} {oc_lraised kV_lraised dc_lraised pm_lraised cd_lraised ct_lraised : Value}
    {f_lbooks : Addr} {od_lbooks an_lbooks : Option Addr} {sl_lbooks : Array (Option Value)} {oc_lbooks kV_lbooks dc_lbooks pm_lbooks cd_lbooks ct_lbooks : Value}
    {f_ldeed : Addr} {od_ldeed an_ldeed : Option Addr} {sl_ldeed : Array (Option Value)} {oc_ldeed kV_ldeed dc_ldeed pm_ldeed cd_ldeed ct_ldeed : Value}
    {f_ldoes : Addr} {od_ldoes an_ldoes : Option Addr} {sl_ldoes : Array (Option Value)} {oc_ldoes kV_ldoes dc_ldoes pm_ldoes cd_ldoes ct_ldoes : Value}
    {f_lasked : Addr} {od_lasked an_lasked : Option Addr} {sl_lasked : Array (Option Value)} {oc_lasked kV_lasked dc_lasked pm_lasked cd_lasked ct_lasked : Value}
    {f_ltold : Addr} {od_ltold an_ltold : Option Addr} {sl_ltold : Array (Option Value)} {oc_ltold kV_ltold dc_ltold pm_ltold cd_ltold ct_ltold : Value}
    {f_law : Addr} {od_law an_law : Option Addr} {sl_law : Array (Option Value)} {oc_law kV_law dc_law pm_law cd_law ct_law : Value}
    {t_LATEST : Tok}
    {t_MOST_PASSED : Tok}
    {t_FEWEST_READERS : Tok}
    {t_MOST_READERS : Tok}
    {t_MOST_DAYS : Tok}
    {t_MOST_BOOKS : Tok}
    (aC : PySem.W.nsIn K mainGlobals "Ring" = some (some (.ref C)))
    (atC : PySem.W.nsIn K mainGlobals "Table" = some (some (.ref tC)))
    (acC : PySem.W.nsIn K mainGlobals "Course" = some (some (.ref cC)))
    (avC : PySem.W.nsIn K mainGlobals "LiveRing" = some (some (.ref vC)))
    (xc_iBeingRead : PySem.W.nsIn K mainGlobals "BeingRead" = some (some (.ref ec_iBeingRead)))
    (x_iBeingRead : PySem.W.findIn K (.ref ec_iBeingRead) "__init__" = some (some (.ref f_iBeingRead)))
    (xt_iBeingRead : PySem.W.typeIn K (.ref f_iBeingRead) = some (.type "function"))
    (xo_iBeingRead : oxB K ec_iBeingRead = true)
    (l_iBeingRead : K.lookup f_iBeingRead = some ⟨oc_iBeingRead, od_iBeingRead, .func (PySem.W.fnOf "__init__" "BeingRead.__init__" (defArgs s_iBeingRead) (defBody s_iBeingRead) (defScope s_iBeingRead) .none kV_iBeingRead dc_iBeingRead pm_iBeingRead an_iBeingRead cd_iBeingRead ct_iBeingRead), sl_iBeingRead⟩)
    (c_iBeingRead : PySem.W.codeIn K cd_iBeingRead "BeingRead.__init__" = true)
    (k_iBeingRead : PySem.W.keepIn K (.ref f_iBeingRead) = true)
    (xc_iInvalidOperation : PySem.W.nsIn K mainGlobals "InvalidOperation" = some (some (.ref ec_iInvalidOperation)))
    (x_iInvalidOperation : PySem.W.findIn K (.ref ec_iInvalidOperation) "__init__" = some (some (.ref f_iInvalidOperation)))
    (xt_iInvalidOperation : PySem.W.typeIn K (.ref f_iInvalidOperation) = some (.type "function"))
    (xo_iInvalidOperation : oxB K ec_iInvalidOperation = true)
    (l_iInvalidOperation : K.lookup f_iInvalidOperation = some ⟨oc_iInvalidOperation, od_iInvalidOperation, .func (PySem.W.fnOf "__init__" "InvalidOperation.__init__" (defArgs s_iInvalidOperation) (defBody s_iInvalidOperation) (defScope s_iInvalidOperation) .none kV_iInvalidOperation dc_iInvalidOperation pm_iInvalidOperation an_iInvalidOperation cd_iInvalidOperation ct_iInvalidOperation), sl_iInvalidOperation⟩)
    (c_iInvalidOperation : PySem.W.codeIn K cd_iInvalidOperation "InvalidOperation.__init__" = true)
    (k_iInvalidOperation : PySem.W.keepIn K (.ref f_iInvalidOperation) = true)
    (x_is_number : PySem.W.nsIn K mainGlobals "is_number" = some (some (.ref f_is_number)))
    (l_is_number : K.lookup f_is_number = some ⟨oc_is_number, od_is_number, .func (PySem.W.fnOf "is_number" "is_number" (defArgs s_is_number) (defBody s_is_number) (defScope s_is_number) .none kV_is_number dc_is_number pm_is_number an_is_number cd_is_number ct_is_number), sl_is_number⟩)
    (c_is_number : PySem.W.codeIn K cd_is_number "is_number" = true)
    (k_is_number : PySem.W.keepIn K (.ref f_is_number) = true)
    (x_lies_between : PySem.W.nsIn K mainGlobals "lies_between" = some (some (.ref f_lies_between)))
    (l_lies_between : K.lookup f_lies_between = some ⟨oc_lies_between, od_lies_between, .func (PySem.W.fnOf "lies_between" "lies_between" (defArgs s_lies_between) (defBody s_lies_between) (defScope s_lies_between) .none kV_lies_between dc_lies_between pm_lies_between an_lies_between cd_lies_between ct_lies_between), sl_lies_between⟩)
    (c_lies_between : PySem.W.codeIn K cd_lies_between "lies_between" = true)
    (k_lies_between : PySem.W.keepIn K (.ref f_lies_between) = true)
    (x_check_number : PySem.W.nsIn K mainGlobals "check_number" = some (some (.ref f_check_number)))
    (l_check_number : K.lookup f_check_number = some ⟨oc_check_number, od_check_number, .func (PySem.W.fnOf "check_number" "check_number" (defArgs s_check_number) (defBody s_check_number) (defScope s_check_number) .none kV_check_number dc_check_number pm_check_number an_check_number cd_check_number ct_check_number), sl_check_number⟩)
    (c_check_number : PySem.W.codeIn K cd_check_number "check_number" = true)
    (k_check_number : PySem.W.keepIn K (.ref f_check_number) = true)
    (x_check_reader : PySem.W.nsIn K mainGlobals "check_reader" = some (some (.ref f_check_reader)))
    (l_check_reader : K.lookup f_check_reader = some ⟨oc_check_reader, od_check_reader, .func (PySem.W.fnOf "check_reader" "check_reader" (defArgs s_check_reader) (defBody s_check_reader) (defScope s_check_reader) .none kV_check_reader dc_check_reader pm_check_reader an_check_reader cd_check_reader ct_check_reader), sl_check_reader⟩)
    (c_check_reader : PySem.W.codeIn K cd_check_reader "check_reader" = true)
    (k_check_reader : PySem.W.keepIn K (.ref f_check_reader) = true)
    (x_rinit : PySem.W.findIn K (.ref C) "__init__" = some (some (.ref f_rinit)))
    (i_rinit : PySem.W.isFn K (.ref f_rinit) = true)
    (l_rinit : K.lookup f_rinit = some ⟨oc_rinit, od_rinit, .func (PySem.W.fnOf "__init__" "Ring.__init__" (defArgs s_rinit) (defBody s_rinit) (defScope s_rinit) .none kV_rinit dc_rinit pm_rinit an_rinit cd_rinit ct_rinit), sl_rinit⟩)
    (c_rinit : PySem.W.codeIn K cd_rinit "Ring.__init__" = true)
    (k_rinit : PySem.W.keepIn K (.ref f_rinit) = true)
    (pa_rdays : PySem.W.findIn K (.ref C) "days" = some (some (.ref pp_rdays)))
    (pg_rdays : PySem.W.specialIn K (.ref pp_rdays) "__get__" = some (some (.builtin "property.__get__")))
    (pt_rdays : PySem.W.takesIn K (.ref pp_rdays) = some true)
    (pr_rdays : PySem.W.recIn K pp_rdays "property" = some (.ref f_rdays :: re_rdays))
    (l_rdays : K.lookup f_rdays = some ⟨oc_rdays, od_rdays, .func (PySem.W.fnOf "days" "Ring.days" (defArgs s_rdays) (defBody s_rdays) (defScope s_rdays) .none kV_rdays dc_rdays pm_rdays an_rdays cd_rdays ct_rdays), sl_rdays⟩)
    (c_rdays : PySem.W.codeIn K cd_rdays "Ring.days" = true)
    (k_rdays : PySem.W.keepIn K (.ref f_rdays) = true)
    (pa_rstarts : PySem.W.findIn K (.ref C) "starts" = some (some (.ref pp_rstarts)))
    (pg_rstarts : PySem.W.specialIn K (.ref pp_rstarts) "__get__" = some (some (.builtin "property.__get__")))
    (pt_rstarts : PySem.W.takesIn K (.ref pp_rstarts) = some true)
    (pr_rstarts : PySem.W.recIn K pp_rstarts "property" = some (.ref f_rstarts :: re_rstarts))
    (l_rstarts : K.lookup f_rstarts = some ⟨oc_rstarts, od_rstarts, .func (PySem.W.fnOf "starts" "Ring.starts" (defArgs s_rstarts) (defBody s_rstarts) (defScope s_rstarts) .none kV_rstarts dc_rstarts pm_rstarts an_rstarts cd_rstarts ct_rstarts), sl_rstarts⟩)
    (c_rstarts : PySem.W.codeIn K cd_rstarts "Ring.starts" = true)
    (k_rstarts : PySem.W.keepIn K (.ref f_rstarts) = true)
    (pa_rbooks : PySem.W.findIn K (.ref C) "books" = some (some (.ref pp_rbooks)))
    (pg_rbooks : PySem.W.specialIn K (.ref pp_rbooks) "__get__" = some (some (.builtin "property.__get__")))
    (pt_rbooks : PySem.W.takesIn K (.ref pp_rbooks) = some true)
    (pr_rbooks : PySem.W.recIn K pp_rbooks "property" = some (.ref f_rbooks :: re_rbooks))
    (l_rbooks : K.lookup f_rbooks = some ⟨oc_rbooks, od_rbooks, .func (PySem.W.fnOf "books" "Ring.books" (defArgs s_rbooks) (defBody s_rbooks) (defScope s_rbooks) .none kV_rbooks dc_rbooks pm_rbooks an_rbooks cd_rbooks ct_rbooks), sl_rbooks⟩)
    (c_rbooks : PySem.W.codeIn K cd_rbooks "Ring.books" = true)
    (k_rbooks : PySem.W.keepIn K (.ref f_rbooks) = true)
    (pa_rpace : PySem.W.findIn K (.ref C) "pace" = some (some (.ref pp_rpace)))
    (pg_rpace : PySem.W.specialIn K (.ref pp_rpace) "__get__" = some (some (.builtin "property.__get__")))
    (pt_rpace : PySem.W.takesIn K (.ref pp_rpace) = some true)
    (pr_rpace : PySem.W.recIn K pp_rpace "property" = some (.ref f_rpace :: re_rpace))
    (l_rpace : K.lookup f_rpace = some ⟨oc_rpace, od_rpace, .func (PySem.W.fnOf "pace" "Ring.pace" (defArgs s_rpace) (defBody s_rpace) (defScope s_rpace) .none kV_rpace dc_rpace pm_rpace an_rpace cd_rpace ct_rpace), sl_rpace⟩)
    (c_rpace : PySem.W.codeIn K cd_rpace "Ring.pace" = true)
    (k_rpace : PySem.W.keepIn K (.ref f_rpace) = true)
    (x_rwith_days : PySem.W.findIn K (.ref C) "with_days" = some (some (.ref f_rwith_days)))
    (i_rwith_days : PySem.W.isFn K (.ref f_rwith_days) = true)
    (l_rwith_days : K.lookup f_rwith_days = some ⟨oc_rwith_days, od_rwith_days, .func (PySem.W.fnOf "with_days" "Ring.with_days" (defArgs s_rwith_days) (defBody s_rwith_days) (defScope s_rwith_days) .none kV_rwith_days dc_rwith_days pm_rwith_days an_rwith_days cd_rwith_days ct_rwith_days), sl_rwith_days⟩)
    (c_rwith_days : PySem.W.codeIn K cd_rwith_days "Ring.with_days" = true)
    (k_rwith_days : PySem.W.keepIn K (.ref f_rwith_days) = true)
    (x_rlen : PySem.W.findIn K (.ref C) "__len__" = some (some (.ref f_rlen)))
    (i_rlen : PySem.W.isFn K (.ref f_rlen) = true)
    (l_rlen : K.lookup f_rlen = some ⟨oc_rlen, od_rlen, .func (PySem.W.fnOf "__len__" "Ring.__len__" (defArgs s_rlen) (defBody s_rlen) (defScope s_rlen) .none kV_rlen dc_rlen pm_rlen an_rlen cd_rlen ct_rlen), sl_rlen⟩)
    (c_rlen : PySem.W.codeIn K cd_rlen "Ring.__len__" = true)
    (k_rlen : PySem.W.keepIn K (.ref f_rlen) = true)
    (x_rcall : PySem.W.findIn K (.ref C) "__call__" = some (some (.ref f_rcall)))
    (i_rcall : PySem.W.isFn K (.ref f_rcall) = true)
    (j_rcall : PySem.W.fnIn K f_rcall = true)
    (l_rcall : K.lookup f_rcall = some ⟨oc_rcall, od_rcall, .func (PySem.W.fnOf "__call__" "Ring.__call__" (defArgs s_rcall) (defBody s_rcall) (defScope s_rcall) .none kV_rcall dc_rcall pm_rcall an_rcall cd_rcall ct_rcall), sl_rcall⟩)
    (c_rcall : PySem.W.codeIn K cd_rcall "Ring.__call__" = true)
    (k_rcall : PySem.W.keepIn K (.ref f_rcall) = true)
    (x_check_part : PySem.W.nsIn K mainGlobals "check_part" = some (some (.ref f_check_part)))
    (l_check_part : K.lookup f_check_part = some ⟨oc_check_part, od_check_part, .func (PySem.W.fnOf "check_part" "check_part" (defArgs s_check_part) (defBody s_check_part) (defScope s_check_part) .none kV_check_part dc_check_part pm_check_part an_check_part cd_check_part ct_check_part), sl_check_part⟩)
    (c_check_part : PySem.W.codeIn K cd_check_part "check_part" = true)
    (k_check_part : PySem.W.keepIn K (.ref f_check_part) = true)
    (x_end_day : PySem.W.nsIn K mainGlobals "end_day" = some (some (.ref f_end_day)))
    (l_end_day : K.lookup f_end_day = some ⟨oc_end_day, od_end_day, .func (PySem.W.fnOf "end_day" "end_day" (defArgs s_end_day) (defBody s_end_day) (defScope s_end_day) .none kV_end_day dc_end_day pm_end_day an_end_day cd_end_day ct_end_day), sl_end_day⟩)
    (c_end_day : PySem.W.codeIn K cd_end_day "end_day" = true)
    (k_end_day : PySem.W.keepIn K (.ref f_end_day) = true)
    (x_reader_after : PySem.W.nsIn K mainGlobals "reader_after" = some (some (.ref f_reader_after)))
    (l_reader_after : K.lookup f_reader_after = some ⟨oc_reader_after, od_reader_after, .func (PySem.W.fnOf "reader_after" "reader_after" (defArgs s_reader_after) (defBody s_reader_after) (defScope s_reader_after) .none kV_reader_after dc_reader_after pm_reader_after an_reader_after cd_reader_after ct_reader_after), sl_reader_after⟩)
    (c_reader_after : PySem.W.codeIn K cd_reader_after "reader_after" = true)
    (k_reader_after : PySem.W.keepIn K (.ref f_reader_after) = true)
    (x_tinit : PySem.W.findIn K (.ref tC) "__init__" = some (some (.ref f_tinit)))
    (i_tinit : PySem.W.isFn K (.ref f_tinit) = true)
    (l_tinit : K.lookup f_tinit = some ⟨oc_tinit, od_tinit, .func (PySem.W.fnOf "__init__" "Table.__init__" (defArgs s_tinit) (defBody s_tinit) (defScope s_tinit) .none kV_tinit dc_tinit pm_tinit an_tinit cd_tinit ct_tinit), sl_tinit⟩)
    (c_tinit : PySem.W.codeIn K cd_tinit "Table.__init__" = true)
    (k_tinit : PySem.W.keepIn K (.ref f_tinit) = true)
    (x_first_table : PySem.W.nsIn K mainGlobals "first_table" = some (some (.ref f_first_table)))
    (l_first_table : K.lookup f_first_table = some ⟨oc_first_table, od_first_table, .func (PySem.W.fnOf "first_table" "first_table" (defArgs s_first_table) (defBody s_first_table) (defScope s_first_table) .none kV_first_table dc_first_table pm_first_table an_first_table cd_first_table ct_first_table), sl_first_table⟩)
    (c_first_table : PySem.W.codeIn K cd_first_table "first_table" = true)
    (k_first_table : PySem.W.keepIn K (.ref f_first_table) = true)
    (x_copied_table : PySem.W.nsIn K mainGlobals "copied_table" = some (some (.ref f_copied_table)))
    (l_copied_table : K.lookup f_copied_table = some ⟨oc_copied_table, od_copied_table, .func (PySem.W.fnOf "copied_table" "copied_table" (defArgs s_copied_table) (defBody s_copied_table) (defScope s_copied_table) .none kV_copied_table dc_copied_table pm_copied_table an_copied_table cd_copied_table ct_copied_table), sl_copied_table⟩)
    (c_copied_table : PySem.W.codeIn K cd_copied_table "copied_table" = true)
    (k_copied_table : PySem.W.keepIn K (.ref f_copied_table) = true)
    (x_books_at : PySem.W.nsIn K mainGlobals "books_at" = some (some (.ref f_books_at)))
    (l_books_at : K.lookup f_books_at = some ⟨oc_books_at, od_books_at, .func (PySem.W.fnOf "books_at" "books_at" (defArgs s_books_at) (defBody s_books_at) (defScope s_books_at) .none kV_books_at dc_books_at pm_books_at an_books_at cd_books_at ct_books_at), sl_books_at⟩)
    (c_books_at : PySem.W.codeIn K cd_books_at "books_at" = true)
    (k_books_at : PySem.W.keepIn K (.ref f_books_at) = true)
    (x_places_of : PySem.W.nsIn K mainGlobals "places_of" = some (some (.ref f_places_of)))
    (l_places_of : K.lookup f_places_of = some ⟨oc_places_of, od_places_of, .func (PySem.W.fnOf "places_of" "places_of" (defArgs s_places_of) (defBody s_places_of) (defScope s_places_of) .none kV_places_of dc_places_of pm_places_of an_places_of cd_places_of ct_places_of), sl_places_of⟩)
    (c_places_of : PySem.W.codeIn K cd_places_of "places_of" = true)
    (k_places_of : PySem.W.keepIn K (.ref f_places_of) = true)
    (x_has_book : PySem.W.nsIn K mainGlobals "has_book" = some (some (.ref f_has_book)))
    (l_has_book : K.lookup f_has_book = some ⟨oc_has_book, od_has_book, .func (PySem.W.fnOf "has_book" "has_book" (defArgs s_has_book) (defBody s_has_book) (defScope s_has_book) .none kV_has_book dc_has_book pm_has_book an_has_book cd_has_book ct_has_book), sl_has_book⟩)
    (c_has_book : PySem.W.codeIn K cd_has_book "has_book" = true)
    (k_has_book : PySem.W.keepIn K (.ref f_has_book) = true)
    (x_place_of : PySem.W.nsIn K mainGlobals "place_of" = some (some (.ref f_place_of)))
    (l_place_of : K.lookup f_place_of = some ⟨oc_place_of, od_place_of, .func (PySem.W.fnOf "place_of" "place_of" (defArgs s_place_of) (defBody s_place_of) (defScope s_place_of) .none kV_place_of dc_place_of pm_place_of an_place_of cd_place_of ct_place_of), sl_place_of⟩)
    (c_place_of : PySem.W.codeIn K cd_place_of "place_of" = true)
    (k_place_of : PySem.W.keepIn K (.ref f_place_of) = true)
    (x_begin_readings : PySem.W.nsIn K mainGlobals "begin_readings" = some (some (.ref f_begin_readings)))
    (l_begin_readings : K.lookup f_begin_readings = some ⟨oc_begin_readings, od_begin_readings, .func (PySem.W.fnOf "begin_readings" "begin_readings" (defArgs s_begin_readings) (defBody s_begin_readings) (defScope s_begin_readings) .none kV_begin_readings dc_begin_readings pm_begin_readings an_begin_readings cd_begin_readings ct_begin_readings), sl_begin_readings⟩)
    (c_begin_readings : PySem.W.codeIn K cd_begin_readings "begin_readings" = true)
    (k_begin_readings : PySem.W.keepIn K (.ref f_begin_readings) = true)
    (x_end_readings : PySem.W.nsIn K mainGlobals "end_readings" = some (some (.ref f_end_readings)))
    (l_end_readings : K.lookup f_end_readings = some ⟨oc_end_readings, od_end_readings, .func (PySem.W.fnOf "end_readings" "end_readings" (defArgs s_end_readings) (defBody s_end_readings) (defScope s_end_readings) .none kV_end_readings dc_end_readings pm_end_readings an_end_readings cd_end_readings ct_end_readings), sl_end_readings⟩)
    (c_end_readings : PySem.W.codeIn K cd_end_readings "end_readings" = true)
    (k_end_readings : PySem.W.keepIn K (.ref f_end_readings) = true)
    (x_put_book : PySem.W.nsIn K mainGlobals "put_book" = some (some (.ref f_put_book)))
    (l_put_book : K.lookup f_put_book = some ⟨oc_put_book, od_put_book, .func (PySem.W.fnOf "put_book" "put_book" (defArgs s_put_book) (defBody s_put_book) (defScope s_put_book) .none kV_put_book dc_put_book pm_put_book an_put_book cd_put_book ct_put_book), sl_put_book⟩)
    (c_put_book : PySem.W.codeIn K cd_put_book "put_book" = true)
    (k_put_book : PySem.W.keepIn K (.ref f_put_book) = true)
    (x_let_pass : PySem.W.nsIn K mainGlobals "let_pass" = some (some (.ref f_let_pass)))
    (l_let_pass : K.lookup f_let_pass = some ⟨oc_let_pass, od_let_pass, .func (PySem.W.fnOf "let_pass" "let_pass" (defArgs s_let_pass) (defBody s_let_pass) (defScope s_let_pass) .none kV_let_pass dc_let_pass pm_let_pass an_let_pass cd_let_pass ct_let_pass), sl_let_pass⟩)
    (c_let_pass : PySem.W.codeIn K cd_let_pass "let_pass" = true)
    (k_let_pass : PySem.W.keepIn K (.ref f_let_pass) = true)
    (x_add_book : PySem.W.nsIn K mainGlobals "add_book" = some (some (.ref f_add_book)))
    (l_add_book : K.lookup f_add_book = some ⟨oc_add_book, od_add_book, .func (PySem.W.fnOf "add_book" "add_book" (defArgs s_add_book) (defBody s_add_book) (defScope s_add_book) .none kV_add_book dc_add_book pm_add_book an_add_book cd_add_book ct_add_book), sl_add_book⟩)
    (c_add_book : PySem.W.codeIn K cd_add_book "add_book" = true)
    (k_add_book : PySem.W.keepIn K (.ref f_add_book) = true)
    (x_change_days : PySem.W.nsIn K mainGlobals "change_days" = some (some (.ref f_change_days)))
    (l_change_days : K.lookup f_change_days = some ⟨oc_change_days, od_change_days, .func (PySem.W.fnOf "change_days" "change_days" (defArgs s_change_days) (defBody s_change_days) (defScope s_change_days) .none kV_change_days dc_change_days pm_change_days an_change_days cd_change_days ct_change_days), sl_change_days⟩)
    (c_change_days : PySem.W.codeIn K cd_change_days "change_days" = true)
    (k_change_days : PySem.W.keepIn K (.ref f_change_days) = true)
    (x_take_book : PySem.W.nsIn K mainGlobals "take_book" = some (some (.ref f_take_book)))
    (l_take_book : K.lookup f_take_book = some ⟨oc_take_book, od_take_book, .func (PySem.W.fnOf "take_book" "take_book" (defArgs s_take_book) (defBody s_take_book) (defScope s_take_book) .none kV_take_book dc_take_book pm_take_book an_take_book cd_take_book ct_take_book), sl_take_book⟩)
    (c_take_book : PySem.W.codeIn K cd_take_book "take_book" = true)
    (k_take_book : PySem.W.keepIn K (.ref f_take_book) = true)
    (x_is_operation : PySem.W.nsIn K mainGlobals "is_operation" = some (some (.ref f_is_operation)))
    (l_is_operation : K.lookup f_is_operation = some ⟨oc_is_operation, od_is_operation, .func (PySem.W.fnOf "is_operation" "is_operation" (defArgs s_is_operation) (defBody s_is_operation) (defScope s_is_operation) .none kV_is_operation dc_is_operation pm_is_operation an_is_operation cd_is_operation ct_is_operation), sl_is_operation⟩)
    (c_is_operation : PySem.W.codeIn K cd_is_operation "is_operation" = true)
    (k_is_operation : PySem.W.keepIn K (.ref f_is_operation) = true)
    (x_carry_out : PySem.W.nsIn K mainGlobals "carry_out" = some (some (.ref f_carry_out)))
    (l_carry_out : K.lookup f_carry_out = some ⟨oc_carry_out, od_carry_out, .func (PySem.W.fnOf "carry_out" "carry_out" (defArgs s_carry_out) (defBody s_carry_out) (defScope s_carry_out) .none kV_carry_out dc_carry_out pm_carry_out an_carry_out cd_carry_out ct_carry_out), sl_carry_out⟩)
    (c_carry_out : PySem.W.codeIn K cd_carry_out "carry_out" = true)
    (k_carry_out : PySem.W.keepIn K (.ref f_carry_out) = true)
    (x_cinit : PySem.W.findIn K (.ref cC) "__init__" = some (some (.ref f_cinit)))
    (i_cinit : PySem.W.isFn K (.ref f_cinit) = true)
    (l_cinit : K.lookup f_cinit = some ⟨oc_cinit, od_cinit, .func (PySem.W.fnOf "__init__" "Course.__init__" (defArgs s_cinit) (defBody s_cinit) (defScope s_cinit) .none kV_cinit dc_cinit pm_cinit an_cinit cd_cinit ct_cinit), sl_cinit⟩)
    (c_cinit : PySem.W.codeIn K cd_cinit "Course.__init__" = true)
    (k_cinit : PySem.W.keepIn K (.ref f_cinit) = true)
    (x_vinit : PySem.W.findIn K (.ref vC) "__init__" = some (some (.ref f_vinit)))
    (i_vinit : PySem.W.isFn K (.ref f_vinit) = true)
    (l_vinit : K.lookup f_vinit = some ⟨oc_vinit, od_vinit, .func (PySem.W.fnOf "__init__" "LiveRing.__init__" (defArgs s_vinit) (defBody s_vinit) (defScope s_vinit) .none kV_vinit dc_vinit pm_vinit an_vinit cd_vinit ct_vinit), sl_vinit⟩)
    (c_vinit : PySem.W.codeIn K cd_vinit "LiveRing.__init__" = true)
    (k_vinit : PySem.W.keepIn K (.ref f_vinit) = true)
    (cm_rp : PySem.W.findCls K (.ref vC) (.type "type") "replay" = some (.get (.builtin "classmethod.__get__") (.ref p_vrp) .none (.ref vC)))
    (cm_rpr : PySem.W.recIn K p_vrp "classmethod" = some (.ref f_vreplay :: rest_vrp))
    (cm_rpf : PySem.W.fnIn K f_vreplay = true)
    (cr_rdV : PySem.W.readsIn K vC (.type "type") = true)
    (cr_gaV : PySem.W.specialIn K (.ref vC) "__getattribute__" = some (some (.builtin "type.__getattribute__")))
    (l_vreplay : K.lookup f_vreplay = some ⟨oc_vreplay, od_vreplay, .func (PySem.W.fnOf "replay" "LiveRing.replay" (defArgs s_vreplay) (defBody s_vreplay) (defScope s_vreplay) .none kV_vreplay dc_vreplay pm_vreplay an_vreplay cd_vreplay ct_vreplay), sl_vreplay⟩)
    (c_vreplay : PySem.W.codeIn K cd_vreplay "LiveRing.replay" = true)
    (k_vreplay : PySem.W.keepIn K (.ref f_vreplay) = true)
    (pa_vtoday : PySem.W.findIn K (.ref vC) "today" = some (some (.ref pp_vtoday)))
    (pg_vtoday : PySem.W.specialIn K (.ref pp_vtoday) "__get__" = some (some (.builtin "property.__get__")))
    (pt_vtoday : PySem.W.takesIn K (.ref pp_vtoday) = some true)
    (pr_vtoday : PySem.W.recIn K pp_vtoday "property" = some (.ref f_vtoday :: re_vtoday))
    (l_vtoday : K.lookup f_vtoday = some ⟨oc_vtoday, od_vtoday, .func (PySem.W.fnOf "today" "LiveRing.today" (defArgs s_vtoday) (defBody s_vtoday) (defScope s_vtoday) .none kV_vtoday dc_vtoday pm_vtoday an_vtoday cd_vtoday ct_vtoday), sl_vtoday⟩)
    (c_vtoday : PySem.W.codeIn K cd_vtoday "LiveRing.today" = true)
    (k_vtoday : PySem.W.keepIn K (.ref f_vtoday) = true)
    (pa_vwaiting_books : PySem.W.findIn K (.ref vC) "waiting_books" = some (some (.ref pp_vwaiting_books)))
    (pg_vwaiting_books : PySem.W.specialIn K (.ref pp_vwaiting_books) "__get__" = some (some (.builtin "property.__get__")))
    (pt_vwaiting_books : PySem.W.takesIn K (.ref pp_vwaiting_books) = some true)
    (pr_vwaiting_books : PySem.W.recIn K pp_vwaiting_books "property" = some (.ref f_vwaiting_books :: re_vwaiting_books))
    (l_vwaiting_books : K.lookup f_vwaiting_books = some ⟨oc_vwaiting_books, od_vwaiting_books, .func (PySem.W.fnOf "waiting_books" "LiveRing.waiting_books" (defArgs s_vwaiting_books) (defBody s_vwaiting_books) (defScope s_vwaiting_books) .none kV_vwaiting_books dc_vwaiting_books pm_vwaiting_books an_vwaiting_books cd_vwaiting_books ct_vwaiting_books), sl_vwaiting_books⟩)
    (c_vwaiting_books : PySem.W.codeIn K cd_vwaiting_books "LiveRing.waiting_books" = true)
    (k_vwaiting_books : PySem.W.keepIn K (.ref f_vwaiting_books) = true)
    (pa_vbeing_read : PySem.W.findIn K (.ref vC) "being_read" = some (some (.ref pp_vbeing_read)))
    (pg_vbeing_read : PySem.W.specialIn K (.ref pp_vbeing_read) "__get__" = some (some (.builtin "property.__get__")))
    (pt_vbeing_read : PySem.W.takesIn K (.ref pp_vbeing_read) = some true)
    (pr_vbeing_read : PySem.W.recIn K pp_vbeing_read "property" = some (.ref f_vbeing_read :: re_vbeing_read))
    (l_vbeing_read : K.lookup f_vbeing_read = some ⟨oc_vbeing_read, od_vbeing_read, .func (PySem.W.fnOf "being_read" "LiveRing.being_read" (defArgs s_vbeing_read) (defBody s_vbeing_read) (defScope s_vbeing_read) .none kV_vbeing_read dc_vbeing_read pm_vbeing_read an_vbeing_read cd_vbeing_read ct_vbeing_read), sl_vbeing_read⟩)
    (c_vbeing_read : PySem.W.codeIn K cd_vbeing_read "LiveRing.being_read" = true)
    (k_vbeing_read : PySem.W.keepIn K (.ref f_vbeing_read) = true)
    (pa_vhistory : PySem.W.findIn K (.ref vC) "history" = some (some (.ref pp_vhistory)))
    (pg_vhistory : PySem.W.specialIn K (.ref pp_vhistory) "__get__" = some (some (.builtin "property.__get__")))
    (pt_vhistory : PySem.W.takesIn K (.ref pp_vhistory) = some true)
    (pr_vhistory : PySem.W.recIn K pp_vhistory "property" = some (.ref f_vhistory :: re_vhistory))
    (l_vhistory : K.lookup f_vhistory = some ⟨oc_vhistory, od_vhistory, .func (PySem.W.fnOf "history" "LiveRing.history" (defArgs s_vhistory) (defBody s_vhistory) (defScope s_vhistory) .none kV_vhistory dc_vhistory pm_vhistory an_vhistory cd_vhistory ct_vhistory), sl_vhistory⟩)
    (c_vhistory : PySem.W.codeIn K cd_vhistory "LiveRing.history" = true)
    (k_vhistory : PySem.W.keepIn K (.ref f_vhistory) = true)
    (x_vpass_days : PySem.W.findIn K (.ref vC) "pass_days" = some (some (.ref f_vpass_days)))
    (i_vpass_days : PySem.W.isFn K (.ref f_vpass_days) = true)
    (l_vpass_days : K.lookup f_vpass_days = some ⟨oc_vpass_days, od_vpass_days, .func (PySem.W.fnOf "pass_days" "LiveRing.pass_days" (defArgs s_vpass_days) (defBody s_vpass_days) (defScope s_vpass_days) .none kV_vpass_days dc_vpass_days pm_vpass_days an_vpass_days cd_vpass_days ct_vpass_days), sl_vpass_days⟩)
    (c_vpass_days : PySem.W.codeIn K cd_vpass_days "LiveRing.pass_days" = true)
    (k_vpass_days : PySem.W.keepIn K (.ref f_vpass_days) = true)
    (x_vadd : PySem.W.findIn K (.ref vC) "add" = some (some (.ref f_vadd)))
    (i_vadd : PySem.W.isFn K (.ref f_vadd) = true)
    (l_vadd : K.lookup f_vadd = some ⟨oc_vadd, od_vadd, .func (PySem.W.fnOf "add" "LiveRing.add" (defArgs s_vadd) (defBody s_vadd) (defScope s_vadd) .none kV_vadd dc_vadd pm_vadd an_vadd cd_vadd ct_vadd), sl_vadd⟩)
    (c_vadd : PySem.W.codeIn K cd_vadd "LiveRing.add" = true)
    (k_vadd : PySem.W.keepIn K (.ref f_vadd) = true)
    (x_vset_days : PySem.W.findIn K (.ref vC) "set_days" = some (some (.ref f_vset_days)))
    (i_vset_days : PySem.W.isFn K (.ref f_vset_days) = true)
    (l_vset_days : K.lookup f_vset_days = some ⟨oc_vset_days, od_vset_days, .func (PySem.W.fnOf "set_days" "LiveRing.set_days" (defArgs s_vset_days) (defBody s_vset_days) (defScope s_vset_days) .none kV_vset_days dc_vset_days pm_vset_days an_vset_days cd_vset_days ct_vset_days), sl_vset_days⟩)
    (c_vset_days : PySem.W.codeIn K cd_vset_days "LiveRing.set_days" = true)
    (k_vset_days : PySem.W.keepIn K (.ref f_vset_days) = true)
    (x_vtake : PySem.W.findIn K (.ref vC) "take" = some (some (.ref f_vtake)))
    (i_vtake : PySem.W.isFn K (.ref f_vtake) = true)
    (l_vtake : K.lookup f_vtake = some ⟨oc_vtake, od_vtake, .func (PySem.W.fnOf "take" "LiveRing.take" (defArgs s_vtake) (defBody s_vtake) (defScope s_vtake) .none kV_vtake dc_vtake pm_vtake an_vtake cd_vtake ct_vtake), sl_vtake⟩)
    (c_vtake : PySem.W.codeIn K cd_vtake "LiveRing.take" = true)
    (k_vtake : PySem.W.keepIn K (.ref f_vtake) = true)
    (x_vundo : PySem.W.findIn K (.ref vC) "undo" = some (some (.ref f_vundo)))
    (i_vundo : PySem.W.isFn K (.ref f_vundo) = true)
    (l_vundo : K.lookup f_vundo = some ⟨oc_vundo, od_vundo, .func (PySem.W.fnOf "undo" "LiveRing.undo" (defArgs s_vundo) (defBody s_vundo) (defScope s_vundo) .none kV_vundo dc_vundo pm_vundo an_vundo cd_vundo ct_vundo), sl_vundo⟩)
    (c_vundo : PySem.W.codeIn K cd_vundo "LiveRing.undo" = true)
    (k_vundo : PySem.W.keepIn K (.ref f_vundo) = true)
    (x_vredo : PySem.W.findIn K (.ref vC) "redo" = some (some (.ref f_vredo)))
    (i_vredo : PySem.W.isFn K (.ref f_vredo) = true)
    (l_vredo : K.lookup f_vredo = some ⟨oc_vredo, od_vredo, .func (PySem.W.fnOf "redo" "LiveRing.redo" (defArgs s_vredo) (defBody s_vredo) (defScope s_vredo) .none kV_vredo dc_vredo pm_vredo an_vredo cd_vredo ct_vredo), sl_vredo⟩)
    (c_vredo : PySem.W.codeIn K cd_vredo "LiveRing.redo" = true)
    (k_vredo : PySem.W.keepIn K (.ref f_vredo) = true)
    (x_vapply : PySem.W.findIn K (.ref vC) "apply" = some (some (.ref f_vapply)))
    (bg_vapply : PySem.W.specialIn K (.ref f_vapply) "__get__" = some (some (.builtin "function.__get__")))
    (bt_vapply : PySem.W.takesIn K (.ref f_vapply) = some false)
    (bf_vapply : PySem.W.fnIn K f_vapply = true)
    (i_vapply : PySem.W.isFn K (.ref f_vapply) = true)
    (l_vapply : K.lookup f_vapply = some ⟨oc_vapply, od_vapply, .func (PySem.W.fnOf "apply" "LiveRing.apply" (defArgs s_vapply) (defBody s_vapply) (defScope s_vapply) .none kV_vapply dc_vapply pm_vapply an_vapply cd_vapply ct_vapply), sl_vapply⟩)
    (c_vapply : PySem.W.codeIn K cd_vapply "LiveRing.apply" = true)
    (k_vapply : PySem.W.keepIn K (.ref f_vapply) = true)
    (x_vwaiting_after : PySem.W.findIn K (.ref vC) "waiting_after" = some (some (.ref f_vwaiting_after)))
    (i_vwaiting_after : PySem.W.isFn K (.ref f_vwaiting_after) = true)
    (l_vwaiting_after : K.lookup f_vwaiting_after = some ⟨oc_vwaiting_after, od_vwaiting_after, .func (PySem.W.fnOf "waiting_after" "LiveRing.waiting_after" (defArgs s_vwaiting_after) (defBody s_vwaiting_after) (defScope s_vwaiting_after) .none kV_vwaiting_after dc_vwaiting_after pm_vwaiting_after an_vwaiting_after cd_vwaiting_after ct_vwaiting_after), sl_vwaiting_after⟩)
    (c_vwaiting_after : PySem.W.codeIn K cd_vwaiting_after "LiveRing.waiting_after" = true)
    (k_vwaiting_after : PySem.W.keepIn K (.ref f_vwaiting_after) = true)
    (x_venter : PySem.W.findIn K (.ref vC) "__enter__" = some (some (.ref f_venter)))
    (i_venter : PySem.W.isFn K (.ref f_venter) = true)
    (l_venter : K.lookup f_venter = some ⟨oc_venter, od_venter, .func (PySem.W.fnOf "__enter__" "LiveRing.__enter__" (defArgs s_venter) (defBody s_venter) (defScope s_venter) .none kV_venter dc_venter pm_venter an_venter cd_venter ct_venter), sl_venter⟩)
    (c_venter : PySem.W.codeIn K cd_venter "LiveRing.__enter__" = true)
    (k_venter : PySem.W.keepIn K (.ref f_venter) = true)
    (x_vexit : PySem.W.findIn K (.ref vC) "__exit__" = some (some (.ref f_vexit)))
    (i_vexit : PySem.W.isFn K (.ref f_vexit) = true)
    (l_vexit : K.lookup f_vexit = some ⟨oc_vexit, od_vexit, .func (PySem.W.fnOf "__exit__" "LiveRing.__exit__" (defArgs s_vexit) (defBody s_vexit) (defScope s_vexit) .none kV_vexit dc_vexit pm_vexit an_vexit cd_vexit ct_vexit), sl_vexit⟩)
    (c_vexit : PySem.W.codeIn K cd_vexit "LiveRing.__exit__" = true)
    (k_vexit : PySem.W.keepIn K (.ref f_vexit) = true)
    (x_vlen : PySem.W.findIn K (.ref vC) "__len__" = some (some (.ref f_vlen)))
    (i_vlen : PySem.W.isFn K (.ref f_vlen) = true)
    (l_vlen : K.lookup f_vlen = some ⟨oc_vlen, od_vlen, .func (PySem.W.fnOf "__len__" "LiveRing.__len__" (defArgs s_vlen) (defBody s_vlen) (defScope s_vlen) .none kV_vlen dc_vlen pm_vlen an_vlen cd_vlen ct_vlen), sl_vlen⟩)
    (c_vlen : PySem.W.codeIn K cd_vlen "LiveRing.__len__" = true)
    (k_vlen : PySem.W.keepIn K (.ref f_vlen) = true)
    (x_vcontains : PySem.W.findIn K (.ref vC) "__contains__" = some (some (.ref f_vcontains)))
    (i_vcontains : PySem.W.isFn K (.ref f_vcontains) = true)
    (l_vcontains : K.lookup f_vcontains = some ⟨oc_vcontains, od_vcontains, .func (PySem.W.fnOf "__contains__" "LiveRing.__contains__" (defArgs s_vcontains) (defBody s_vcontains) (defScope s_vcontains) .none kV_vcontains dc_vcontains pm_vcontains an_vcontains cd_vcontains ct_vcontains), sl_vcontains⟩)
    (c_vcontains : PySem.W.codeIn K cd_vcontains "LiveRing.__contains__" = true)
    (k_vcontains : PySem.W.keepIn K (.ref f_vcontains) = true)
    (x_executed : PySem.W.nsIn K mainGlobals "executed" = some (some (.ref f_executed)))
    (l_executed : K.lookup f_executed = some ⟨oc_executed, od_executed, .func (PySem.W.fnOf "executed" "executed" (defArgs s_executed) (defBody s_executed) (defScope s_executed) .none kV_executed dc_executed pm_executed an_executed cd_executed ct_executed), sl_executed⟩)
    (c_executed : PySem.W.codeIn K cd_executed "executed" = true)
    (k_executed : PySem.W.keepIn K (.ref f_executed) = true)
    (x_ltaken : PySem.W.nsIn K mainGlobals "_law_taken" = some (some (.ref f_ltaken)))
    (l_ltaken : K.lookup f_ltaken = some ⟨oc_ltaken, od_ltaken, .func (PySem.W.fnOf "_law_taken" "_law_taken" (defArgs s_ltaken) (defBody s_ltaken) (defScope s_ltaken) .none kV_ltaken dc_ltaken pm_ltaken an_ltaken cd_ltaken ct_ltaken), sl_ltaken⟩)
    (c_ltaken : PySem.W.codeIn K cd_ltaken "_law_taken" = true)
    (k_ltaken : PySem.W.keepIn K (.ref f_ltaken) = true)
    (x_lparts : PySem.W.nsIn K mainGlobals "_law_parts" = some (some (.ref f_lparts)))
    (l_lparts : K.lookup f_lparts = some ⟨oc_lparts, od_lparts, .func (PySem.W.fnOf "_law_parts" "_law_parts" (defArgs s_lparts) (defBody s_lparts) (defScope s_lparts) .none kV_lparts dc_lparts pm_lparts an_lparts cd_lparts ct_lparts), sl_lparts⟩)
    (c_lparts : PySem.W.codeIn K cd_lparts "_law_parts" = true)
    (k_lparts : PySem.W.keepIn K (.ref f_lparts) = true)
    (x_lbegin : PySem.W.nsIn K mainGlobals "_law_begin" = some (some (.ref f_lbegin)))
    (l_lbegin : K.lookup f_lbegin = some ⟨oc_lbegin, od_lbegin, .func (PySem.W.fnOf "_law_begin" "_law_begin" (defArgs s_lbegin) (defBody s_lbegin) (defScope s_lbegin) .none kV_lbegin dc_lbegin pm_lbegin an_lbegin cd_lbegin ct_lbegin), sl_lbegin⟩)
    (c_lbegin : PySem.W.codeIn K cd_lbegin "_law_begin" = true)
    (k_lbegin : PySem.W.keepIn K (.ref f_lbegin) = true)
    (x_lfirst : PySem.W.nsIn K mainGlobals "_law_first" = some (some (.ref f_lfirst)))
    (l_lfirst : K.lookup f_lfirst = some ⟨oc_lfirst, od_lfirst, .func (PySem.W.fnOf "_law_first" "_law_first" (defArgs s_lfirst) (defBody s_lfirst) (defScope s_lfirst) .none kV_lfirst dc_lfirst pm_lfirst an_lfirst cd_lfirst ct_lfirst), sl_lfirst⟩)
    (c_lfirst : PySem.W.codeIn K cd_lfirst "_law_first" = true)
    (k_lfirst : PySem.W.keepIn K (.ref f_lfirst) = true)
    (x_lday : PySem.W.nsIn K mainGlobals "_law_day" = some (some (.ref f_lday)))
    (l_lday : K.lookup f_lday = some ⟨oc_lday, od_lday, .func (PySem.W.fnOf "_law_day" "_law_day" (defArgs s_lday) (defBody s_lday) (defScope s_lday) .none kV_lday dc_lday pm_lday an_lday cd_lday ct_lday), sl_lday⟩)
    (c_lday : PySem.W.codeIn K cd_lday "_law_day" = true)
    (k_lday : PySem.W.keepIn K (.ref f_lday) = true)
    (x_lcopied : PySem.W.nsIn K mainGlobals "_law_copied" = some (some (.ref f_lcopied)))
    (l_lcopied : K.lookup f_lcopied = some ⟨oc_lcopied, od_lcopied, .func (PySem.W.fnOf "_law_copied" "_law_copied" (defArgs s_lcopied) (defBody s_lcopied) (defScope s_lcopied) .none kV_lcopied dc_lcopied pm_lcopied an_lcopied cd_lcopied ct_lcopied), sl_lcopied⟩)
    (c_lcopied : PySem.W.codeIn K cd_lcopied "_law_copied" = true)
    (k_lcopied : PySem.W.keepIn K (.ref f_lcopied) = true)
    (x_lraised : PySem.W.nsIn K mainGlobals "_law_raised" = some (some (.ref f_lraised)))
    (l_lraised : K.lookup f_lraised = some ⟨oc_lraised, od_lraised, .func (PySem.W.fnOf "_law_raised" "_law_raised" (defArgs s_lraised) (defBody s_lraised) (defScope s_lraised) .none kV_lraised dc_lraised pm_lraised an_lraised cd_lraised ct_lraised), sl_lraised⟩)
    (c_lraised : PySem.W.codeIn K cd_lraised "_law_raised" = true)
    (k_lraised : PySem.W.keepIn K (.ref f_lraised) = true)
    (x_lbooks : PySem.W.nsIn K mainGlobals "_law_books" = some (some (.ref f_lbooks)))
    (l_lbooks : K.lookup f_lbooks = some ⟨oc_lbooks, od_lbooks, .func (PySem.W.fnOf "_law_books" "_law_books" (defArgs s_lbooks) (defBody s_lbooks) (defScope s_lbooks) .none kV_lbooks dc_lbooks pm_lbooks an_lbooks cd_lbooks ct_lbooks), sl_lbooks⟩)
    (c_lbooks : PySem.W.codeIn K cd_lbooks "_law_books" = true)
    (k_lbooks : PySem.W.keepIn K (.ref f_lbooks) = true)
    (x_ldeed : PySem.W.nsIn K mainGlobals "_law_deed" = some (some (.ref f_ldeed)))
    (l_ldeed : K.lookup f_ldeed = some ⟨oc_ldeed, od_ldeed, .func (PySem.W.fnOf "_law_deed" "_law_deed" (defArgs s_ldeed) (defBody s_ldeed) (defScope s_ldeed) .none kV_ldeed dc_ldeed pm_ldeed an_ldeed cd_ldeed ct_ldeed), sl_ldeed⟩)
    (c_ldeed : PySem.W.codeIn K cd_ldeed "_law_deed" = true)
    (k_ldeed : PySem.W.keepIn K (.ref f_ldeed) = true)
    (x_ldoes : PySem.W.nsIn K mainGlobals "_law_does" = some (some (.ref f_ldoes)))
    (l_ldoes : K.lookup f_ldoes = some ⟨oc_ldoes, od_ldoes, .func (PySem.W.fnOf "_law_does" "_law_does" (defArgs s_ldoes) (defBody s_ldoes) (defScope s_ldoes) .none kV_ldoes dc_ldoes pm_ldoes an_ldoes cd_ldoes ct_ldoes), sl_ldoes⟩)
    (c_ldoes : PySem.W.codeIn K cd_ldoes "_law_does" = true)
    (k_ldoes : PySem.W.keepIn K (.ref f_ldoes) = true)
    (x_lasked : PySem.W.nsIn K mainGlobals "_law_asked" = some (some (.ref f_lasked)))
    (l_lasked : K.lookup f_lasked = some ⟨oc_lasked, od_lasked, .func (PySem.W.fnOf "_law_asked" "_law_asked" (defArgs s_lasked) (defBody s_lasked) (defScope s_lasked) .none kV_lasked dc_lasked pm_lasked an_lasked cd_lasked ct_lasked), sl_lasked⟩)
    (c_lasked : PySem.W.codeIn K cd_lasked "_law_asked" = true)
    (k_lasked : PySem.W.keepIn K (.ref f_lasked) = true)
    (x_ltold : PySem.W.nsIn K mainGlobals "_law_told" = some (some (.ref f_ltold)))
    (l_ltold : K.lookup f_ltold = some ⟨oc_ltold, od_ltold, .func (PySem.W.fnOf "_law_told" "_law_told" (defArgs s_ltold) (defBody s_ltold) (defScope s_ltold) .none kV_ltold dc_ltold pm_ltold an_ltold cd_ltold ct_ltold), sl_ltold⟩)
    (c_ltold : PySem.W.codeIn K cd_ltold "_law_told" = true)
    (k_ltold : PySem.W.keepIn K (.ref f_ltold) = true)
    (x_law : PySem.W.nsIn K mainGlobals "law" = some (some (.ref f_law)))
    (l_law : K.lookup f_law = some ⟨oc_law, od_law, .func (PySem.W.fnOf "law" "law" (defArgs s_law) (defBody s_law) (defScope s_law) .none kV_law dc_law pm_law an_law cd_law ct_law), sl_law⟩)
    (c_law : PySem.W.codeIn K cd_law "law" = true)
    (k_law : PySem.W.keepIn K (.ref f_law) = true)
    (pgtC : PySem.W.plainGet K tC Str.empty = true)
    (hdtC : PySem.W.hasDictIn K tC = true)
    (potC : PySem.W.plainOver K tC = true)
    (satC : PySem.W.findIn K (.ref tC) "__setattr__" = some (some (.builtin "object.__setattr__")))
    (mktC : PySem.W.makesIn K tC = true)
    (ktC : PySem.W.keepIn K (.ref tC) = true)
    (ntC_ring : PySem.W.findIn K (.ref tC) "ring" = some none)
    (ntC_day : PySem.W.findIn K (.ref tC) "day" = some none)
    (ntC_heaps : PySem.W.findIn K (.ref tC) "heaps" = some none)
    (ntC_current : PySem.W.findIn K (.ref tC) "current" = some none)
    (ntC_coming : PySem.W.findIn K (.ref tC) "coming" = some none)
    (pgcC : PySem.W.plainGet K cC Str.empty = true)
    (hdcC : PySem.W.hasDictIn K cC = true)
    (pocC : PySem.W.plainOver K cC = true)
    (sacC : PySem.W.findIn K (.ref cC) "__setattr__" = some (some (.builtin "object.__setattr__")))
    (mkcC : PySem.W.makesIn K cC = true)
    (kcC : PySem.W.keepIn K (.ref cC) = true)
    (ncC_tables : PySem.W.findIn K (.ref cC) "tables" = some none)
    (ncC_operations : PySem.W.findIn K (.ref cC) "operations" = some none)
    (ncC_undone : PySem.W.findIn K (.ref cC) "undone" = some none)
    (pgvC : PySem.W.plainGet K vC Str.empty = true)
    (hdvC : PySem.W.hasDictIn K vC = true)
    (povC : PySem.W.plainOver K vC = true)
    (savC : PySem.W.findIn K (.ref vC) "__setattr__" = some (some (.builtin "object.__setattr__")))
    (mkvC : PySem.W.makesIn K vC = true)
    (kvC : PySem.W.keepIn K (.ref vC) = true)
    (nvC__course : PySem.W.findIn K (.ref vC) "_course" = some none)
    (nvC__kept : PySem.W.findIn K (.ref vC) "_kept" = some none)
    (pgC : PySem.W.plainGet K C Str.empty = true)
    (hdC : PySem.W.hasDictIn K C = true)
    (poC : PySem.W.plainOver K C = true)
    (saC : PySem.W.findIn K (.ref C) "__setattr__" = some (some (.builtin "object.__setattr__")))
    (mkC : PySem.W.makesIn K C = true)
    (kC : PySem.W.keepIn K (.ref C) = true)
    (nD : PySem.W.findIn K (.ref C) "_days" = some none)
    (nS : PySem.W.findIn K (.ref C) "_starts" = some none)
    (v_LATEST : PySem.W.nsIn K mainGlobals "LATEST" = some (some (.int 1000000000000000000 t_LATEST)))
    (v_MOST_PASSED : PySem.W.nsIn K mainGlobals "MOST_PASSED" = some (some (.int 400 t_MOST_PASSED)))
    (v_FEWEST_READERS : PySem.W.nsIn K mainGlobals "FEWEST_READERS" = some (some (.int 2 t_FEWEST_READERS)))
    (v_MOST_READERS : PySem.W.nsIn K mainGlobals "MOST_READERS" = some (some (.int 8 t_MOST_READERS)))
    (v_MOST_DAYS : PySem.W.nsIn K mainGlobals "MOST_DAYS" = some (some (.int 30 t_MOST_DAYS)))
    (v_MOST_BOOKS : PySem.W.nsIn K mainGlobals "MOST_BOOKS" = some (some (.int 12 t_MOST_BOOKS)))
    (z_len : PySem.W.nsIn K mainGlobals "len" = some none)
    (z_sum : PySem.W.nsIn K mainGlobals "sum" = some none)
    (z_max : PySem.W.nsIn K mainGlobals "max" = some none)
    (z_min : PySem.W.nsIn K mainGlobals "min" = some none)
    (z_range : PySem.W.nsIn K mainGlobals "range" = some none)
    (z_int : PySem.W.nsIn K mainGlobals "int" = some none)
    (z_bool : PySem.W.nsIn K mainGlobals "bool" = some none)
    (z_isinstance : PySem.W.nsIn K mainGlobals "isinstance" = some none)
    (z_tuple : PySem.W.nsIn K mainGlobals "tuple" = some none)
    (z_enumerate : PySem.W.nsIn K mainGlobals "enumerate" = some none)
    (z_list : PySem.W.nsIn K mainGlobals "list" = some none)
    (z_str : PySem.W.nsIn K mainGlobals "str" = some none)
    (z_sorted : PySem.W.nsIn K mainGlobals "sorted" = some none)
    (own : LamX.OwnTab K fa h)
    {dA dB : Addr} {t_dB t_dBadd t_dBset_days t_dBtake : Tok}
    {c_tb P_tb : Addr} {e_tb : Value} {dd_tb : Option Addr} {vs_tb : Array Value} {sl_tb : Array (Option Value)}
    {e0 e1 e2 e3 e4 e5 e6 eE : Addr}
    (tb_c : cd_law = .ref c_tb)
    (tb_l : K.lookup c_tb = some ⟨e_tb, dd_tb, .fields vs_tb, sl_tb⟩)
    (tb_p : vs_tb[11]? = some (.ref P_tb))
    (tb_h : PySem.W.codeHdIn K c_tb P_tb = true)
    (tb_n : K.lookup P_tb = none)
    (x_e0 : PySem.W.nsIn K mainGlobals "BeingRead" = some (some (.ref e0)))
    (x_e1 : PySem.W.nsIn K mainGlobals "InvalidNumber" = some (some (.ref e1)))
    (x_e2 : PySem.W.nsIn K mainGlobals "UnknownBook" = some (some (.ref e2)))
    (x_e3 : PySem.W.nsIn K mainGlobals "Contradiction" = some (some (.ref e3)))
    (x_e4 : PySem.W.nsIn K mainGlobals "InvalidOperation" = some (some (.ref e4)))
    (x_e5 : PySem.W.nsIn K mainGlobals "DiaryError" = some (some (.ref e5)))
    (x_e6 : PySem.W.nsIn K mainGlobals "UnknownReader" = some (some (.ref e6)))
    (x_eE : PySem.W.nsIn K mainGlobals "ReadingError" = some (some (.ref eE)))
    (z_VE : PySem.W.nsIn K mainGlobals "ValueError" = some none)
    (xc_n : PySem.W.specialIn K (.builtin "object.__class__") "__get__" = some (some (.builtin "getset_descriptor.__get__")))
    (xc_t : PySem.W.takesIn K (.builtin "object.__class__") = some true)
    (xs1 : PySem.W.subIn K (.ref e1) (.type "BaseException") = some true)
    (xi1 : PySem.W.excIn K e1 [.type "ValueError", .type "Exception", .type "BaseException", .type "object"] "ValueError.__new__" = true)
    (xt1 : PySem.W.typeIn K (.ref e1) = some (.type "type"))
    (xp1 : PySem.W.keepIn K (.ref e1) = true)
    (xs2 : PySem.W.subIn K (.ref e2) (.type "BaseException") = some true)
    (xi2 : PySem.W.excIn K e2 [.type "ValueError", .type "Exception", .type "BaseException", .type "object"] "ValueError.__new__" = true)
    (xt2 : PySem.W.typeIn K (.ref e2) = some (.type "type"))
    (xp2 : PySem.W.keepIn K (.ref e2) = true)
    (xs6 : PySem.W.subIn K (.ref e6) (.type "BaseException") = some true)
    (xi6 : PySem.W.excIn K e6 [.type "ValueError", .type "Exception", .type "BaseException", .type "object"] "ValueError.__new__" = true)
    (xt6 : PySem.W.typeIn K (.ref e6) = some (.type "type"))
    (xp6 : PySem.W.keepIn K (.ref e6) = true)
    (x_dA : PySem.W.nsIn K mainGlobals "ACTIONS" = some (some (.ref dA)))
    (x_dB : PySem.W.nsIn K mainGlobals "ARGUMENTS" = some (some (.ref dB)))
    (w_dA : He.dicW K dA = some (He.keysIn w.params ["pass_days", "add", "set_days", "take"]))
    (w_dB : He.dicW K dB = some (He.keysIn w.params ["pass_days", "add", "set_days", "take"]))
    (p_dA : PySem.W.nsIn K dA "pass_days" = some (some (.ref f_let_pass)))
    (p_dB : PySem.W.nsIn K dB "pass_days" = some (some (.int 1 t_dB)))
    (p_dA_add : PySem.W.nsIn K dA "add" = some (some (.ref f_add_book)))
    (p_dB_add : PySem.W.nsIn K dB "add" = some (some (.int 1 t_dBadd)))
    (p_dA_set_days : PySem.W.nsIn K dA "set_days" = some (some (.ref f_change_days)))
    (p_dB_set_days : PySem.W.nsIn K dB "set_days" = some (some (.int 2 t_dBset_days)))
    (p_dA_take : PySem.W.nsIn K dA "take" = some (some (.ref f_take_book)))
    (p_dB_take : PySem.W.nsIn K dB "take" = some (some (.int 1 t_dBtake)))
    (xg0 : PySem.W.findIn K (.ref e0) "__getattribute__" = some (some (.builtin "BaseException.__getattribute__")))
    (xk0 : PySem.W.findIn K (.ref e0) "__getattr__" = some none)
    (xs0 : PySem.W.subIn K (.ref e0) (.type "BaseException") = some true)
    (xd0 : PySem.W.hasDictIn K e0 = true)
    (xa0 : PySem.W.findIn K (.ref e0) "__class__" = some (some (.builtin "object.__class__")))
    (xm0 : PySem.W.mroIn K e0 (.type "object") = some true)
    (xx0 : PySem.W.exmOne K (.ref e0) (.ref eE) = some true)
    (xq0_0 : PySem.W.kitOne K (.ref e0) (.ref e0) = some true)
    (xq0_1 : PySem.W.kitOne K (.ref e0) (.ref e1) = some false)
    (xq0_2 : PySem.W.kitOne K (.ref e0) (.ref e2) = some false)
    (xq0_3 : PySem.W.kitOne K (.ref e0) (.ref e3) = some false)
    (xq0_4 : PySem.W.kitOne K (.ref e0) (.ref e4) = some false)
    (xq0_5 : PySem.W.kitOne K (.ref e0) (.ref e5) = some false)
    (xv0 : PySem.W.kitOne K (.ref e0) (.type "ValueError") = some true)
    (xg1 : PySem.W.findIn K (.ref e1) "__getattribute__" = some (some (.builtin "BaseException.__getattribute__")))
    (xk1 : PySem.W.findIn K (.ref e1) "__getattr__" = some none)
    (xd1 : PySem.W.hasDictIn K e1 = true)
    (xa1 : PySem.W.findIn K (.ref e1) "__class__" = some (some (.builtin "object.__class__")))
    (xm1 : PySem.W.mroIn K e1 (.type "object") = some true)
    (xx1 : PySem.W.exmOne K (.ref e1) (.ref eE) = some true)
    (xq1_0 : PySem.W.kitOne K (.ref e1) (.ref e0) = some false)
    (xq1_1 : PySem.W.kitOne K (.ref e1) (.ref e1) = some true)
    (xq1_2 : PySem.W.kitOne K (.ref e1) (.ref e2) = some false)
    (xq1_3 : PySem.W.kitOne K (.ref e1) (.ref e3) = some false)
    (xq1_4 : PySem.W.kitOne K (.ref e1) (.ref e4) = some false)
    (xq1_5 : PySem.W.kitOne K (.ref e1) (.ref e5) = some false)
    (xv1 : PySem.W.kitOne K (.ref e1) (.type "ValueError") = some true)
    (xg2 : PySem.W.findIn K (.ref e2) "__getattribute__" = some (some (.builtin "BaseException.__getattribute__")))
    (xk2 : PySem.W.findIn K (.ref e2) "__getattr__" = some none)
    (xd2 : PySem.W.hasDictIn K e2 = true)
    (xa2 : PySem.W.findIn K (.ref e2) "__class__" = some (some (.builtin "object.__class__")))
    (xm2 : PySem.W.mroIn K e2 (.type "object") = some true)
    (xx2 : PySem.W.exmOne K (.ref e2) (.ref eE) = some true)
    (xq2_0 : PySem.W.kitOne K (.ref e2) (.ref e0) = some false)
    (xq2_1 : PySem.W.kitOne K (.ref e2) (.ref e1) = some false)
    (xq2_2 : PySem.W.kitOne K (.ref e2) (.ref e2) = some true)
    (xq2_3 : PySem.W.kitOne K (.ref e2) (.ref e3) = some false)
    (xq2_4 : PySem.W.kitOne K (.ref e2) (.ref e4) = some false)
    (xq2_5 : PySem.W.kitOne K (.ref e2) (.ref e5) = some false)
    (xv2 : PySem.W.kitOne K (.ref e2) (.type "ValueError") = some true)
    (xg4 : PySem.W.findIn K (.ref e4) "__getattribute__" = some (some (.builtin "BaseException.__getattribute__")))
    (xk4 : PySem.W.findIn K (.ref e4) "__getattr__" = some none)
    (xs4 : PySem.W.subIn K (.ref e4) (.type "BaseException") = some true)
    (xd4 : PySem.W.hasDictIn K e4 = true)
    (xa4 : PySem.W.findIn K (.ref e4) "__class__" = some (some (.builtin "object.__class__")))
    (xm4 : PySem.W.mroIn K e4 (.type "object") = some true)
    (xx4 : PySem.W.exmOne K (.ref e4) (.ref eE) = some true)
    (xq4_0 : PySem.W.kitOne K (.ref e4) (.ref e0) = some false)
    (xq4_1 : PySem.W.kitOne K (.ref e4) (.ref e1) = some false)
    (xq4_2 : PySem.W.kitOne K (.ref e4) (.ref e2) = some false)
    (xq4_3 : PySem.W.kitOne K (.ref e4) (.ref e3) = some false)
    (xq4_4 : PySem.W.kitOne K (.ref e4) (.ref e4) = some true)
    (xq4_5 : PySem.W.kitOne K (.ref e4) (.ref e5) = some false)
    (xv4 : PySem.W.kitOne K (.ref e4) (.type "ValueError") = some true)
    (xt0 : PySem.W.typeIn K (.ref e0) = some (.type "type"))
    (xn0 : PySem.W.findIn K (.ref e0) "book" = some none)
    (xt4 : PySem.W.typeIn K (.ref e4) = some (.type "type"))
    (xn4 : PySem.W.findIn K (.ref e4) "index" = some none)
    (xr1 : PySem.W.readsIn K eE (.type "type") = true)
    (xr2 : PySem.W.specialIn K (.ref eE) "__getattribute__" = some (some (.builtin "type.__getattribute__")))
    (xr3 : PySem.W.findCls K (.ref eE) (.type "type") "__init__" = some (.val (.builtin "ValueError.__init__")))
    : LamX.LawAtS l w K CX0 15 63 "_law_script" mg fa h := by
  have e := hfa.symm.trans (PySem.W.mg_of X G x_law)
  cases e
  have F_iBeingRead := fun_mk (st := s_iBeingRead) l_iBeingRead c_iBeingRead k_iBeingRead
  have b_iBeingRead := F_iBeingRead.binds (ps := P_iBeingRead) fun _ _ _ _ _ _ us hl => match us, hl with | [_, _], _ => rfl
  have F_iInvalidOperation := fun_mk (st := s_iInvalidOperation) l_iInvalidOperation c_iInvalidOperation k_iInvalidOperation
  have b_iInvalidOperation := F_iInvalidOperation.binds (ps := P_iInvalidOperation) fun _ _ _ _ _ _ us hl => match us, hl with | [_, _], _ => rfl
  have F_is_number := fun_mk (st := s_is_number) l_is_number c_is_number k_is_number
  have b_is_number := F_is_number.binds (ps := P_is_number) fun _ _ _ _ _ _ us hl => match us, hl with | [_], _ => rfl
  have F_lies_between := fun_mk (st := s_lies_between) l_lies_between c_lies_between k_lies_between
  have b_lies_between := F_lies_between.binds (ps := P_lies_between) fun _ _ _ _ _ _ us hl => match us, hl with | [_, _, _], _ => rfl
  have F_check_number := fun_mk (st := s_check_number) l_check_number c_check_number k_check_number
  have b_check_number := F_check_number.binds (ps := P_check_number) fun _ _ _ _ _ _ us hl => match us, hl with | [_, _, _], _ => rfl
  have F_check_reader := fun_mk (st := s_check_reader) l_check_reader c_check_reader k_check_reader
  have b_check_reader := F_check_reader.binds (ps := P_check_reader) fun _ _ _ _ _ _ us hl => match us, hl with | [_, _], _ => rfl
  have F_rinit := fun_mk (st := s_rinit) l_rinit c_rinit k_rinit
  have b_rinit := F_rinit.binds (ps := P_rinit) fun _ _ _ _ _ _ us hl => match us, hl with | [_, _, _], _ => rfl
  have F_rdays := fun_mk (st := s_rdays) l_rdays c_rdays k_rdays
  have b_rdays := F_rdays.binds (ps := P_rdays) fun _ _ _ _ _ _ us hl => match us, hl with | [_], _ => rfl
  have F_rstarts := fun_mk (st := s_rstarts) l_rstarts c_rstarts k_rstarts
  have b_rstarts := F_rstarts.binds (ps := P_rstarts) fun _ _ _ _ _ _ us hl => match us, hl with | [_], _ => rfl
  have F_rbooks := fun_mk (st := s_rbooks) l_rbooks c_rbooks k_rbooks
  have b_rbooks := F_rbooks.binds (ps := P_rbooks) fun _ _ _ _ _ _ us hl => match us, hl with | [_], _ => rfl
  have F_rpace := fun_mk (st := s_rpace) l_rpace c_rpace k_rpace
  have b_rpace := F_rpace.binds (ps := P_rpace) fun _ _ _ _ _ _ us hl => match us, hl with | [_], _ => rfl
  have F_rwith_days := fun_mk (st := s_rwith_days) l_rwith_days c_rwith_days k_rwith_days
  have b_rwith_days := F_rwith_days.binds (ps := P_rwith_days) fun _ _ _ _ _ _ us hl => match us, hl with | [_, _, _], _ => rfl
  have F_rlen := fun_mk (st := s_rlen) l_rlen c_rlen k_rlen
  have b_rlen := F_rlen.binds (ps := P_rlen) fun _ _ _ _ _ _ us hl => match us, hl with | [_], _ => rfl
  have F_rcall := fun_mk (st := s_rcall) l_rcall c_rcall k_rcall
  have b_rcall := F_rcall.binds (ps := P_rcall) fun _ _ _ _ _ _ us hl => match us, hl with | [_, _, _], _ => rfl
  have F_check_part := fun_mk (st := s_check_part) l_check_part c_check_part k_check_part
  have b_check_part := F_check_part.binds (ps := P_check_part) fun _ _ _ _ _ _ us hl => match us, hl with | [_, _, _, _], _ => rfl
  have F_end_day := fun_mk (st := s_end_day) l_end_day c_end_day k_end_day
  have b_end_day := F_end_day.binds (ps := P_end_day) fun _ _ _ _ _ _ us hl => match us, hl with | [_, _, _], _ => rfl
  have F_reader_after := fun_mk (st := s_reader_after) l_reader_after c_reader_after k_reader_after
  have b_reader_after := F_reader_after.binds (ps := P_reader_after) fun _ _ _ _ _ _ us hl => match us, hl with | [_, _], _ => rfl
  have F_tinit := fun_mk (st := s_tinit) l_tinit c_tinit k_tinit
  have b_tinit := F_tinit.binds (ps := P_tinit) fun _ _ _ _ _ _ us hl => match us, hl with | [_, _, _, _, _, _], _ => rfl
  have F_first_table := fun_mk (st := s_first_table) l_first_table c_first_table k_first_table
  have b_first_table := F_first_table.binds (ps := P_first_table) fun _ _ _ _ _ _ us hl => match us, hl with | [_], _ => rfl
  have F_copied_table := fun_mk (st := s_copied_table) l_copied_table c_copied_table k_copied_table
  have b_copied_table := F_copied_table.binds (ps := P_copied_table) fun _ _ _ _ _ _ us hl => match us, hl with | [_], _ => rfl
  have F_books_at := fun_mk (st := s_books_at) l_books_at c_books_at k_books_at
  have b_books_at := F_books_at.binds (ps := P_books_at) fun _ _ _ _ _ _ us hl => match us, hl with | [_, _], _ => rfl
  have F_places_of := fun_mk (st := s_places_of) l_places_of c_places_of k_places_of
  have b_places_of := F_places_of.binds (ps := P_places_of) fun _ _ _ _ _ _ us hl => match us, hl with | [_], _ => rfl
  have F_has_book := fun_mk (st := s_has_book) l_has_book c_has_book k_has_book
  have b_has_book := F_has_book.binds (ps := P_has_book) fun _ _ _ _ _ _ us hl => match us, hl with | [_, _], _ => rfl
  have F_place_of := fun_mk (st := s_place_of) l_place_of c_place_of k_place_of
  have b_place_of := F_place_of.binds (ps := P_place_of) fun _ _ _ _ _ _ us hl => match us, hl with | [_, _], _ => rfl
  have F_begin_readings := fun_mk (st := s_begin_readings) l_begin_readings c_begin_readings k_begin_readings
  have b_begin_readings := F_begin_readings.binds (ps := P_begin_readings) fun _ _ _ _ _ _ us hl => match us, hl with | [_], _ => rfl
  have F_end_readings := fun_mk (st := s_end_readings) l_end_readings c_end_readings k_end_readings
  have b_end_readings := F_end_readings.binds (ps := P_end_readings) fun _ _ _ _ _ _ us hl => match us, hl with | [_], _ => rfl
  have F_put_book := fun_mk (st := s_put_book) l_put_book c_put_book k_put_book
  have b_put_book := F_put_book.binds (ps := P_put_book) fun _ _ _ _ _ _ us hl => match us, hl with | [_, _, _], _ => rfl
  have F_let_pass := fun_mk (st := s_let_pass) l_let_pass c_let_pass k_let_pass
  have b_let_pass := F_let_pass.binds (ps := P_let_pass) fun _ _ _ _ _ _ us hl => match us, hl with | [_, _], _ => rfl
  have F_add_book := fun_mk (st := s_add_book) l_add_book c_add_book k_add_book
  have b_add_book := F_add_book.binds (ps := P_add_book) fun _ _ _ _ _ _ us hl => match us, hl with | [_, _], _ => rfl
  have F_change_days := fun_mk (st := s_change_days) l_change_days c_change_days k_change_days
  have b_change_days := F_change_days.binds (ps := P_change_days) fun _ _ _ _ _ _ us hl => match us, hl with | [_, _, _], _ => rfl
  have F_take_book := fun_mk (st := s_take_book) l_take_book c_take_book k_take_book
  have b_take_book := F_take_book.binds (ps := P_take_book) fun _ _ _ _ _ _ us hl => match us, hl with | [_, _], _ => rfl
  have F_is_operation := fun_mk (st := s_is_operation) l_is_operation c_is_operation k_is_operation
  have b_is_operation := F_is_operation.binds (ps := P_is_operation) fun _ _ _ _ _ _ us hl => match us, hl with | [_], _ => rfl
  have F_carry_out := fun_mk (st := s_carry_out) l_carry_out c_carry_out k_carry_out
  have b_carry_out := F_carry_out.binds (ps := P_carry_out) fun _ _ _ _ _ _ us hl => match us, hl with | [_, _], _ => rfl
  have F_cinit := fun_mk (st := s_cinit) l_cinit c_cinit k_cinit
  have b_cinit := F_cinit.binds (ps := P_cinit) fun _ _ _ _ _ _ us hl => match us, hl with | [_, _, _, _], _ => rfl
  have F_vinit := fun_mk (st := s_vinit) l_vinit c_vinit k_vinit
  have b_vinit := F_vinit.binds (ps := P_vinit) fun _ _ _ _ _ _ us hl => match us, hl with | [_, _], _ => rfl
  have F_vreplay := fun_mk (st := s_vreplay) l_vreplay c_vreplay k_vreplay
  have b_vreplay := F_vreplay.binds (ps := P_vreplay) fun _ _ _ _ _ _ us hl => match us, hl with | [_, _, _], _ => rfl
  have F_vtoday := fun_mk (st := s_vtoday) l_vtoday c_vtoday k_vtoday
  have b_vtoday := F_vtoday.binds (ps := P_vtoday) fun _ _ _ _ _ _ us hl => match us, hl with | [_], _ => rfl
  have F_vwaiting_books := fun_mk (st := s_vwaiting_books) l_vwaiting_books c_vwaiting_books k_vwaiting_books
  have b_vwaiting_books := F_vwaiting_books.binds (ps := P_vwaiting_books) fun _ _ _ _ _ _ us hl => match us, hl with | [_], _ => rfl
  have F_vbeing_read := fun_mk (st := s_vbeing_read) l_vbeing_read c_vbeing_read k_vbeing_read
  have b_vbeing_read := F_vbeing_read.binds (ps := P_vbeing_read) fun _ _ _ _ _ _ us hl => match us, hl with | [_], _ => rfl
  have F_vhistory := fun_mk (st := s_vhistory) l_vhistory c_vhistory k_vhistory
  have b_vhistory := F_vhistory.binds (ps := P_vhistory) fun _ _ _ _ _ _ us hl => match us, hl with | [_], _ => rfl
  have F_vpass_days := fun_mk (st := s_vpass_days) l_vpass_days c_vpass_days k_vpass_days
  have b_vpass_days := F_vpass_days.binds (ps := P_vpass_days) fun _ _ _ _ _ _ us hl => match us, hl with | [_, _], _ => rfl
  have F_vadd := fun_mk (st := s_vadd) l_vadd c_vadd k_vadd
  have b_vadd := F_vadd.binds (ps := P_vadd) fun _ _ _ _ _ _ us hl => match us, hl with | [_, _], _ => rfl
  have F_vset_days := fun_mk (st := s_vset_days) l_vset_days c_vset_days k_vset_days
  have b_vset_days := F_vset_days.binds (ps := P_vset_days) fun _ _ _ _ _ _ us hl => match us, hl with | [_, _, _], _ => rfl
  have F_vtake := fun_mk (st := s_vtake) l_vtake c_vtake k_vtake
  have b_vtake := F_vtake.binds (ps := P_vtake) fun _ _ _ _ _ _ us hl => match us, hl with | [_, _], _ => rfl
  have F_vundo := fun_mk (st := s_vundo) l_vundo c_vundo k_vundo
  have b_vundo := F_vundo.binds (ps := P_vundo) fun _ _ _ _ _ _ us hl => match us, hl with | [_], _ => rfl
  have F_vredo := fun_mk (st := s_vredo) l_vredo c_vredo k_vredo
  have b_vredo := F_vredo.binds (ps := P_vredo) fun _ _ _ _ _ _ us hl => match us, hl with | [_], _ => rfl
  have F_vapply := fun_mk (st := s_vapply) l_vapply c_vapply k_vapply
  have F_vwaiting_after := fun_mk (st := s_vwaiting_after) l_vwaiting_after c_vwaiting_after k_vwaiting_after
  have F_venter := fun_mk (st := s_venter) l_venter c_venter k_venter
  have b_venter := F_venter.binds (ps := P_venter) fun _ _ _ _ _ _ us hl => match us, hl with | [_], _ => rfl
  have F_vexit := fun_mk (st := s_vexit) l_vexit c_vexit k_vexit
  have b_vexit := F_vexit.binds (ps := P_vexit) fun _ _ _ _ _ _ us hl => match us, hl with | [_, _, _, _], _ => rfl
  have F_vlen := fun_mk (st := s_vlen) l_vlen c_vlen k_vlen
  have b_vlen := F_vlen.binds (ps := P_vlen) fun _ _ _ _ _ _ us hl => match us, hl with | [_], _ => rfl
  have F_vcontains := fun_mk (st := s_vcontains) l_vcontains c_vcontains k_vcontains
  have b_vcontains := F_vcontains.binds (ps := P_vcontains) fun _ _ _ _ _ _ us hl => match us, hl with | [_, _], _ => rfl
  have F_executed := fun_mk (st := s_executed) l_executed c_executed k_executed
  have b_executed := F_executed.binds (ps := P_executed) fun _ _ _ _ _ _ us hl => match us, hl with | [_, _], _ => rfl
  have F_ltaken := fun_mk (st := s_ltaken) l_ltaken c_ltaken k_ltaken
  have b_ltaken := F_ltaken.binds (ps := P_ltaken) fun _ _ _ _ _ _ us hl => match us, hl with | [_, _], _ => rfl
  have F_lparts := fun_mk (st := s_lparts) l_lparts c_lparts k_lparts
  have b_lparts := F_lparts.binds (ps := P_lparts) fun _ _ _ _ _ _ us hl => match us, hl with | [_, _], _ => rfl
  have F_lbegin := fun_mk (st := s_lbegin) l_lbegin c_lbegin k_lbegin
  have b_lbegin := F_lbegin.binds (ps := P_lbegin) fun _ _ _ _ _ _ us hl => match us, hl with | [_], _ => rfl
  have F_lfirst := fun_mk (st := s_lfirst) l_lfirst c_lfirst k_lfirst
  have b_lfirst := F_lfirst.binds (ps := P_lfirst) fun _ _ _ _ _ _ us hl => match us, hl with | [_], _ => rfl
  have F_lday := fun_mk (st := s_lday) l_lday c_lday k_lday
  have b_lday := F_lday.binds (ps := P_lday) fun _ _ _ _ _ _ us hl => match us, hl with | [_], _ => rfl
  have F_lcopied := fun_mk (st := s_lcopied) l_lcopied c_lcopied k_lcopied
  have b_lcopied := F_lcopied.binds (ps := P_lcopied) fun _ _ _ _ _ _ us hl => match us, hl with | [_], _ => rfl
  have F_lraised := fun_mk (st := s_lraised) l_lraised c_lraised k_lraised
  have b_lraised := F_lraised.binds (ps := P_lraised) fun _ _ _ _ _ _ us hl => match us, hl with | [_], _ => rfl
  have F_lbooks := fun_mk (st := s_lbooks) l_lbooks c_lbooks k_lbooks
  have b_lbooks := F_lbooks.binds (ps := P_lbooks) fun _ _ _ _ _ _ us hl => match us, hl with | [_], _ => rfl
  have F_ldeed := fun_mk (st := s_ldeed) l_ldeed c_ldeed k_ldeed
  have b_ldeed := F_ldeed.binds (ps := P_ldeed) fun _ _ _ _ _ _ us hl => match us, hl with | [_, _], _ => rfl
  have F_ldoes := fun_mk (st := s_ldoes) l_ldoes c_ldoes k_ldoes
  have b_ldoes := F_ldoes.binds (ps := P_ldoes) fun _ _ _ _ _ _ us hl => match us, hl with | [_, _], _ => rfl
  have F_lasked := fun_mk (st := s_lasked) l_lasked c_lasked k_lasked
  have b_lasked := F_lasked.binds (ps := P_lasked) fun _ _ _ _ _ _ us hl => match us, hl with | [_, _], _ => rfl
  have F_ltold := fun_mk (st := s_ltold) l_ltold c_ltold k_ltold
  have b_ltold := F_ltold.binds (ps := P_ltold) fun _ _ _ _ _ _ us hl => match us, hl with | [_], _ => rfl
  have F_law := fun_mk (st := s_law) l_law c_law k_law
  have b_law := F_law.binds (ps := P_law) fun _ _ _ _ _ _ us hl => match us, hl with | [_], _ => rfl
  cases tb_c
  refine ⟨PySem.W.fnOf "law" "law" (defArgs s_law) (defBody s_law) (defScope s_law) .none kV_law dc_law pm_law an_law (.ref c_tb) ct_law, [(c_tb, P_tb)], spLawL K P_tb, fun p hp => ?_, fun p hp => ?_, fun p hp => ?_, fun s v => .of_eq rfl, fun H a ns hl hb ht hS => ?_, fun base _ _ hTB => ?_⟩
  · cases List.mem_singleton.mp hp
    exact own _ _ _ _ _ _ _ _ l_law rfl rfl tb_l tb_p
  · cases List.mem_singleton.mp hp
    exact tb_n
  · cases List.mem_singleton.mp hp
    exact PySem.W.codeHd_of_K X tb_h
  · exact ⟨a, ns, rfl, hS, hl, ht _ (List.mem_singleton.mpr rfl), fun _ => rfl⟩
  · exact ok_law (mg := mg) (cT := c_tb) (PT := P_tb)
     {
    C := C,
    a_iBeingRead := f_iBeingRead, d_iBeingRead := _, F_iBeingRead := F_iBeingRead, b_iBeingRead := b_iBeingRead,
    c_iBeingRead := ec_iBeingRead, gc_iBeingRead := PySem.W.mg_of X G xc_iBeingRead, ic_iBeingRead := x_iBeingRead, it_iBeingRead := xt_iBeingRead, io_iBeingRead := xo_iBeingRead,
    a_iInvalidOperation := f_iInvalidOperation, d_iInvalidOperation := _, F_iInvalidOperation := F_iInvalidOperation, b_iInvalidOperation := b_iInvalidOperation,
    c_iInvalidOperation := ec_iInvalidOperation, gc_iInvalidOperation := PySem.W.mg_of X G xc_iInvalidOperation, ic_iInvalidOperation := x_iInvalidOperation, it_iInvalidOperation := xt_iInvalidOperation, io_iInvalidOperation := xo_iInvalidOperation,
    a_is_number := f_is_number, d_is_number := _, F_is_number := F_is_number, b_is_number := b_is_number,
    g_is_number := PySem.W.mg_of X G x_is_number,
    a_lies_between := f_lies_between, d_lies_between := _, F_lies_between := F_lies_between, b_lies_between := b_lies_between,
    g_lies_between := PySem.W.mg_of X G x_lies_between,
    a_check_number := f_check_number, d_check_number := _, F_check_number := F_check_number, b_check_number := b_check_number,
    g_check_number := PySem.W.mg_of X G x_check_number,
    a_check_reader := f_check_reader, d_check_reader := _, F_check_reader := F_check_reader, b_check_reader := b_check_reader,
    g_check_reader := PySem.W.mg_of X G x_check_reader,
    a_rinit := f_rinit, d_rinit := _, F_rinit := F_rinit, b_rinit := b_rinit,
    a_rdays := f_rdays, d_rdays := _, F_rdays := F_rdays, b_rdays := b_rdays,
    a_rstarts := f_rstarts, d_rstarts := _, F_rstarts := F_rstarts, b_rstarts := b_rstarts,
    a_rbooks := f_rbooks, d_rbooks := _, F_rbooks := F_rbooks, b_rbooks := b_rbooks,
    a_rpace := f_rpace, d_rpace := _, F_rpace := F_rpace, b_rpace := b_rpace,
    a_rwith_days := f_rwith_days, d_rwith_days := _, F_rwith_days := F_rwith_days, b_rwith_days := b_rwith_days,
    a_rlen := f_rlen, d_rlen := _, F_rlen := F_rlen, b_rlen := b_rlen,
    a_rcall := f_rcall, d_rcall := _, F_rcall := F_rcall, b_rcall := b_rcall,
    a_check_part := f_check_part, d_check_part := _, F_check_part := F_check_part, b_check_part := b_check_part,
    g_check_part := PySem.W.mg_of X G x_check_part,
    a_end_day := f_end_day, d_end_day := _, F_end_day := F_end_day, b_end_day := b_end_day,
    g_end_day := PySem.W.mg_of X G x_end_day,
    a_reader_after := f_reader_after, d_reader_after := _, F_reader_after := F_reader_after, b_reader_after := b_reader_after,
    g_reader_after := PySem.W.mg_of X G x_reader_after,
    a_tinit := f_tinit, d_tinit := _, F_tinit := F_tinit, b_tinit := b_tinit,
    a_first_table := f_first_table, d_first_table := _, F_first_table := F_first_table, b_first_table := b_first_table,
    g_first_table := PySem.W.mg_of X G x_first_table,
    a_copied_table := f_copied_table, d_copied_table := _, F_copied_table := F_copied_table, b_copied_table := b_copied_table,
    g_copied_table := PySem.W.mg_of X G x_copied_table,
    a_books_at := f_books_at, d_books_at := _, F_books_at := F_books_at, b_books_at := b_books_at,
    g_books_at := PySem.W.mg_of X G x_books_at,
    a_places_of := f_places_of, d_places_of := _, F_places_of := F_places_of, b_places_of := b_places_of,
    g_places_of := PySem.W.mg_of X G x_places_of,
    a_has_book := f_has_book, d_has_book := _, F_has_book := F_has_book, b_has_book := b_has_book,
    g_has_book := PySem.W.mg_of X G x_has_book,
    a_place_of := f_place_of, d_place_of := _, F_place_of := F_place_of, b_place_of := b_place_of,
    g_place_of := PySem.W.mg_of X G x_place_of,
    a_begin_readings := f_begin_readings, d_begin_readings := _, F_begin_readings := F_begin_readings, b_begin_readings := b_begin_readings,
    g_begin_readings := PySem.W.mg_of X G x_begin_readings,
    a_end_readings := f_end_readings, d_end_readings := _, F_end_readings := F_end_readings, b_end_readings := b_end_readings,
    g_end_readings := PySem.W.mg_of X G x_end_readings,
    a_put_book := f_put_book, d_put_book := _, F_put_book := F_put_book, b_put_book := b_put_book,
    g_put_book := PySem.W.mg_of X G x_put_book,
    a_let_pass := f_let_pass, d_let_pass := _, F_let_pass := F_let_pass, b_let_pass := b_let_pass,
    g_let_pass := PySem.W.mg_of X G x_let_pass,
    a_add_book := f_add_book, d_add_book := _, F_add_book := F_add_book, b_add_book := b_add_book,
    g_add_book := PySem.W.mg_of X G x_add_book,
    a_change_days := f_change_days, d_change_days := _, F_change_days := F_change_days, b_change_days := b_change_days,
    g_change_days := PySem.W.mg_of X G x_change_days,
    a_take_book := f_take_book, d_take_book := _, F_take_book := F_take_book, b_take_book := b_take_book,
    g_take_book := PySem.W.mg_of X G x_take_book,
    a_is_operation := f_is_operation, d_is_operation := _, F_is_operation := F_is_operation, b_is_operation := b_is_operation,
    g_is_operation := PySem.W.mg_of X G x_is_operation,
    a_carry_out := f_carry_out, d_carry_out := _, F_carry_out := F_carry_out, b_carry_out := b_carry_out,
    g_carry_out := PySem.W.mg_of X G x_carry_out,
    a_cinit := f_cinit, d_cinit := _, F_cinit := F_cinit, b_cinit := b_cinit,
    a_vinit := f_vinit, d_vinit := _, F_vinit := F_vinit, b_vinit := b_vinit,
    a_vreplay := f_vreplay, d_vreplay := _, F_vreplay := F_vreplay, b_vreplay := b_vreplay,
    a_vtoday := f_vtoday, d_vtoday := _, F_vtoday := F_vtoday, b_vtoday := b_vtoday,
    a_vwaiting_books := f_vwaiting_books, d_vwaiting_books := _, F_vwaiting_books := F_vwaiting_books, b_vwaiting_books := b_vwaiting_books,
    a_vbeing_read := f_vbeing_read, d_vbeing_read := _, F_vbeing_read := F_vbeing_read, b_vbeing_read := b_vbeing_read,
    a_vhistory := f_vhistory, d_vhistory := _, F_vhistory := F_vhistory, b_vhistory := b_vhistory,
    a_vpass_days := f_vpass_days, d_vpass_days := _, F_vpass_days := F_vpass_days, b_vpass_days := b_vpass_days,
    a_vadd := f_vadd, d_vadd := _, F_vadd := F_vadd, b_vadd := b_vadd,
    a_vset_days := f_vset_days, d_vset_days := _, F_vset_days := F_vset_days, b_vset_days := b_vset_days,
    a_vtake := f_vtake, d_vtake := _, F_vtake := F_vtake, b_vtake := b_vtake,
    a_vundo := f_vundo, d_vundo := _, F_vundo := F_vundo, b_vundo := b_vundo,
    a_vredo := f_vredo, d_vredo := _, F_vredo := F_vredo, b_vredo := b_vredo,
    a_vapply := f_vapply, d_vapply := _, F_vapply := F_vapply,
    a_vwaiting_after := f_vwaiting_after, d_vwaiting_after := _, F_vwaiting_after := F_vwaiting_after,
    a_venter := f_venter, d_venter := _, F_venter := F_venter, b_venter := b_venter,
    a_vexit := f_vexit, d_vexit := _, F_vexit := F_vexit, b_vexit := b_vexit,
    a_vlen := f_vlen, d_vlen := _, F_vlen := F_vlen, b_vlen := b_vlen,
    a_vcontains := f_vcontains, d_vcontains := _, F_vcontains := F_vcontains, b_vcontains := b_vcontains,
    a_executed := f_executed, d_executed := _, F_executed := F_executed, b_executed := b_executed,
    g_executed := PySem.W.mg_of X G x_executed,
    a_ltaken := f_ltaken, d_ltaken := _, F_ltaken := F_ltaken, b_ltaken := b_ltaken,
    g_ltaken := PySem.W.mg_of X G x_ltaken,
    a_lparts := f_lparts, d_lparts := _, F_lparts := F_lparts, b_lparts := b_lparts,
    g_lparts := PySem.W.mg_of X G x_lparts,
    a_lbegin := f_lbegin, d_lbegin := _, F_lbegin := F_lbegin, b_lbegin := b_lbegin,
    g_lbegin := PySem.W.mg_of X G x_lbegin,
    a_lfirst := f_lfirst, d_lfirst := _, F_lfirst := F_lfirst, b_lfirst := b_lfirst,
    g_lfirst := PySem.W.mg_of X G x_lfirst,
    a_lday := f_lday, d_lday := _, F_lday := F_lday, b_lday := b_lday,
    g_lday := PySem.W.mg_of X G x_lday,
    a_lcopied := f_lcopied, d_lcopied := _, F_lcopied := F_lcopied, b_lcopied := b_lcopied,
    g_lcopied := PySem.W.mg_of X G x_lcopied,
    a_lraised := f_lraised, d_lraised := _, F_lraised := F_lraised, b_lraised := b_lraised,
    g_lraised := PySem.W.mg_of X G x_lraised,
    a_lbooks := f_lbooks, d_lbooks := _, F_lbooks := F_lbooks, b_lbooks := b_lbooks,
    g_lbooks := PySem.W.mg_of X G x_lbooks,
    a_ldeed := f_ldeed, d_ldeed := _, F_ldeed := F_ldeed, b_ldeed := b_ldeed,
    g_ldeed := PySem.W.mg_of X G x_ldeed,
    a_ldoes := f_ldoes, d_ldoes := _, F_ldoes := F_ldoes, b_ldoes := b_ldoes,
    g_ldoes := PySem.W.mg_of X G x_ldoes,
    a_lasked := f_lasked, d_lasked := _, F_lasked := F_lasked, b_lasked := b_lasked,
    g_lasked := PySem.W.mg_of X G x_lasked,
    a_ltold := f_ltold, d_ltold := _, F_ltold := F_ltold, b_ltold := b_ltold,
    g_ltold := PySem.W.mg_of X G x_ltold,
    a_law := _, d_law := _, F_law := F_law, b_law := b_law,
    g_law := PySem.W.mg_of X G x_law,
    tC := tC, clt := ⟨pgtC, hdtC, potC, satC⟩, nt_ring := ntC_ring, nt_day := ntC_day, nt_heaps := ntC_heaps, nt_current := ntC_current, nt_coming := ntC_coming, mkt := ⟨mktC, x_tinit, i_tinit, ktC⟩, gtC := PySem.W.mg_of X G atC,
    cC := cC, clc := ⟨pgcC, hdcC, pocC, sacC⟩, nc_tables := ncC_tables, nc_operations := ncC_operations, nc_undone := ncC_undone, mkc := ⟨mkcC, x_cinit, i_cinit, kcC⟩, gcC := PySem.W.mg_of X G acC,
    vC := vC, clv := ⟨pgvC, hdvC, povC, savC⟩, nv__course := nvC__course, nv__kept := nvC__kept, mkv := ⟨mkvC, x_vinit, i_vinit, kvC⟩, gvC := PySem.W.mg_of X G avC,
    mv_pass_days := ⟨x_vpass_days, i_vpass_days, k_vpass_days⟩,
    mv_add := ⟨x_vadd, i_vadd, k_vadd⟩,
    mv_set_days := ⟨x_vset_days, i_vset_days, k_vset_days⟩,
    mv_take := ⟨x_vtake, i_vtake, k_vtake⟩,
    mv_undo := ⟨x_vundo, i_vundo, k_vundo⟩,
    mv_redo := ⟨x_vredo, i_vredo, k_vredo⟩,
    mv_apply := ⟨x_vapply, i_vapply, k_vapply⟩,
    mv_waiting_after := ⟨x_vwaiting_after, i_vwaiting_after, k_vwaiting_after⟩,
    lenV := x_vlen, lenVF := i_vlen,
    crdV := ⟨cr_rdV, cr_gaV⟩, p_vreplay := p_vrp, cmV := ⟨cm_rp, ⟨_, cm_rpr⟩, cm_rpf⟩,
    bvA := ⟨⟨x_vapply, i_vapply, k_vapply⟩, bg_vapply, bt_vapply, by decide +kernel, bf_vapply⟩, enV := x_venter, enVF := i_venter, exV := x_vexit, exVF := i_vexit,
    inV := x_vcontains, inVF := i_vcontains,
    cl := ⟨pgC, hdC, poC, saC⟩, nD := nD, nS := nS, mkR := ⟨mkC, x_rinit, i_rinit, kC⟩, gC := PySem.W.mg_of X G aC,
    p_rdays := pp_rdays, q_rdays := ⟨pa_rdays, pg_rdays, pt_rdays, ⟨_, pr_rdays⟩⟩,
    p_rstarts := pp_rstarts, q_rstarts := ⟨pa_rstarts, pg_rstarts, pt_rstarts, ⟨_, pr_rstarts⟩⟩,
    p_rbooks := pp_rbooks, q_rbooks := ⟨pa_rbooks, pg_rbooks, pt_rbooks, ⟨_, pr_rbooks⟩⟩,
    p_rpace := pp_rpace, q_rpace := ⟨pa_rpace, pg_rpace, pt_rpace, ⟨_, pr_rpace⟩⟩,
    p_vtoday := pp_vtoday, q_vtoday := ⟨pa_vtoday, pg_vtoday, pt_vtoday, ⟨_, pr_vtoday⟩⟩,
    p_vwaiting_books := pp_vwaiting_books, q_vwaiting_books := ⟨pa_vwaiting_books, pg_vwaiting_books, pt_vwaiting_books, ⟨_, pr_vwaiting_books⟩⟩,
    p_vbeing_read := pp_vbeing_read, q_vbeing_read := ⟨pa_vbeing_read, pg_vbeing_read, pt_vbeing_read, ⟨_, pr_vbeing_read⟩⟩,
    p_vhistory := pp_vhistory, q_vhistory := ⟨pa_vhistory, pg_vhistory, pt_vhistory, ⟨_, pr_vhistory⟩⟩,
    mW := ⟨x_rwith_days, i_rwith_days, k_rwith_days⟩,
    lenC := x_rlen, lenF := i_rlen, callC := ⟨x_rcall, i_rcall, j_rcall⟩,
    c_LATEST := ⟨_, PySem.W.mg_of X G v_LATEST⟩,
    c_MOST_PASSED := ⟨_, PySem.W.mg_of X G v_MOST_PASSED⟩,
    c_FEWEST_READERS := ⟨_, PySem.W.mg_of X G v_FEWEST_READERS⟩,
    c_MOST_READERS := ⟨_, PySem.W.mg_of X G v_MOST_READERS⟩,
    c_MOST_DAYS := ⟨_, PySem.W.mg_of X G v_MOST_DAYS⟩,
    c_MOST_BOOKS := ⟨_, PySem.W.mg_of X G v_MOST_BOOKS⟩,
    z_len := PySem.W.mg_none_of X G z_len,
    z_sum := PySem.W.mg_none_of X G z_sum,
    z_max := PySem.W.mg_none_of X G z_max,
    z_min := PySem.W.mg_none_of X G z_min,
    z_range := PySem.W.mg_none_of X G z_range,
    z_int := PySem.W.mg_none_of X G z_int,
    z_bool := PySem.W.mg_none_of X G z_bool,
    z_isinstance := PySem.W.mg_none_of X G z_isinstance,
    z_tuple := PySem.W.mg_none_of X G z_tuple,
    z_enumerate := PySem.W.mg_none_of X G z_enumerate,
    z_list := PySem.W.mg_none_of X G z_list,
    z_str := PySem.W.mg_none_of X G z_str,
    z_sorted := PySem.W.mg_none_of X G z_sorted }
     ⟨dA, dB, PySem.W.mg_of X G x_dA, PySem.W.mg_of X G x_dB, He.dicW_ok w_dA, He.dicW_ok w_dB, p_dA, p_dA_add, p_dA_set_days, p_dA_take, ⟨_, p_dB⟩, ⟨_, p_dB_add⟩, ⟨_, p_dB_set_days⟩, ⟨_, p_dB_take⟩⟩
     { CN := e1, CR := e6, CB := e2, CX := e0, cE := eE, EN := ⟨PySem.W.mg_of X G x_e1, xi1, xs1, xt1, xp1⟩, ER := ⟨PySem.W.mg_of X G x_e6, xi6, xs6, xt6, xp6⟩, EB := ⟨PySem.W.mg_of X G x_e2, xi2, xs2, xt2, xp2⟩, BX := ⟨PySem.W.mg_of X G x_eE, ⟨xr1, xr2⟩, xr3, xn0, ⟨xg0, xk0, xs0, xd0⟩, ⟨xs0, xt0⟩⟩, gX := PySem.W.mg_of X G x_e0 }
     { k0 := e0, k1 := e1, k2 := e2, k3 := e3, k4 := e4, k5 := e5, cE := eE, g0 := PySem.W.mg_of X G x_e0, g1 := PySem.W.mg_of X G x_e1, g2 := PySem.W.mg_of X G x_e2, g3 := PySem.W.mg_of X G x_e3, g4 := PySem.W.mg_of X G x_e4, g5 := PySem.W.mg_of X G x_e5, gE := PySem.W.mg_of X G x_eE, zV := PySem.W.mg_none_of X G z_VE, zI := PySem.W.mg_none_of X G z_isinstance }
     ⟨rfl, rfl, rfl, ⟨⟨xg0, xk0, xs0, xd0, xa0, xc_n, xc_t, xm0⟩, xx0, xq0_0, xq0_1, xq0_2, xq0_3, xq0_4, xq0_5, xv0⟩, ⟨⟨xg1, xk1, xs1, xd1, xa1, xc_n, xc_t, xm1⟩, xx1, xq1_0, xq1_1, xq1_2, xq1_3, xq1_4, xq1_5, xv1⟩, ⟨⟨xg2, xk2, xs2, xd2, xa2, xc_n, xc_t, xm2⟩, xx2, xq2_0, xq2_1, xq2_2, xq2_3, xq2_4, xq2_5, xv2⟩⟩
     rfl
     ⟨PySem.W.mg_of X G x_eE, ⟨xr1, xr2⟩, xr3, xn4, ⟨xg4, xk4, xs4, xd4⟩, ⟨xs4, xt4⟩⟩
     ⟨⟨xg4, xk4, xs4, xd4, xa4, xc_n, xc_t, xm4⟩, xx4, xq4_0, xq4_1, xq4_2, xq4_3, xq4_4, xq4_5, xv4⟩
     (hTB _ (List.mem_singleton.mpr rfl))
     ⟨⟨_, _, _, _, _, _, _, _, rfl, l_law, c_law⟩⟩

end Rp
open PySem PySem.W PyProof.Rows
set_option maxRecDepth 100000 in
set_option maxHeartbeats 0 in
theorem PySem.Challenge.cw_readingring_k53_whole_all_undone_and_don_holds : PySem.Challenge.rw_readingring_k53_whole_all_undone_and_don.Holds := by
  w_on; o_law; k_head; (case hw => w_witness2)
  k_fill
  refine LamX.walk_ofOwn (l := PySem.Challenge.rw_readingring_k53_whole_all_undone_and_don) (n := 63) (k := 15) (x := "_law_script") (CX := fun _ => L2.CX0) rfl (by decide) rfl ⟨rfl, by decide, by decide⟩ (by decide +kernel) (fun w h Y => PySem.W.km_in_of Y) ?F (fun _ _ _ _ _ h => h)
  case F =>
    intro w mg fa h Y KX G hmg own
    refine' Rp.all_mk KX G hmg ?aC ?atC ?acC ?avC ?xc_iBeingRead ?x_iBeingRead ?xt_iBeingRead ?xo_iBeingRead ?l_iBeingRead ?c_iBeingRead ?k_iBeingRead ?xc_iInvalidOperation ?x_iInvalidOperation ?xt_iInvalidOperation ?xo_iInvalidOperation ?l_iInvalidOperation ?c_iInvalidOperation ?k_iInvalidOperation ?x_is_number ?l_is_number ?c_is_number ?k_is_number ?x_lies_between ?l_lies_between ?c_lies_between ?k_lies_between ?x_check_number ?l_check_number ?c_check_number ?k_check_number ?x_check_reader ?l_check_reader ?c_check_reader ?k_check_reader ?x_rinit ?i_rinit ?l_rinit ?c_rinit ?k_rinit ?pa_rdays ?pg_rdays ?pt_rdays ?pr_rdays ?l_rdays ?c_rdays ?k_rdays ?pa_rstarts ?pg_rstarts ?pt_rstarts ?pr_rstarts ?l_rstarts ?c_rstarts ?k_rstarts ?pa_rbooks ?pg_rbooks ?pt_rbooks ?pr_rbooks ?l_rbooks ?c_rbooks ?k_rbooks ?pa_rpace ?pg_rpace ?pt_rpace ?pr_rpace ?l_rpace ?c_rpace ?k_rpace ?x_rwith_days ?i_rwith_days ?l_rwith_days ?c_rwith_days ?k_rwith_days ?x_rlen ?i_rlen ?l_rlen ?c_rlen ?k_rlen ?x_rcall ?i_rcall ?j_rcall ?l_rcall ?c_rcall ?k_rcall ?x_check_part ?l_check_part ?c_check_part ?k_check_part ?x_end_day ?l_end_day ?c_end_day ?k_end_day ?x_reader_after ?l_reader_after ?c_reader_after ?k_reader_after ?x_tinit ?i_tinit ?l_tinit ?c_tinit ?k_tinit ?x_first_table ?l_first_table ?c_first_table ?k_first_table ?x_copied_table ?l_copied_table ?c_copied_table ?k_copied_table ?x_books_at ?l_books_at ?c_books_at ?k_books_at ?x_places_of ?l_places_of ?c_places_of ?k_places_of ?x_has_book ?l_has_book ?c_has_book ?k_has_book ?x_place_of ?l_place_of ?c_place_of ?k_place_of ?x_begin_readings ?l_begin_readings ?c_begin_readings ?k_begin_readings ?x_end_readings ?l_end_readings ?c_end_readings ?k_end_readings ?x_put_book ?l_put_book ?c_put_book ?k_put_book ?x_let_pass ?l_let_pass ?c_let_pass ?k_let_pass ?x_add_book ?l_add_book ?c_add_book ?k_add_book ?x_change_days ?l_change_days ?c_change_days ?k_change_days ?x_take_book ?l_take_book ?c_take_book ?k_take_book ?x_is_operation ?l_is_operation ?c_is_operation ?k_is_operation ?x_carry_out ?l_carry_out ?c_carry_out ?k_carry_out ?x_cinit ?i_cinit ?l_cinit ?c_cinit ?k_cinit ?x_vinit ?i_vinit ?l_vinit ?c_vinit ?k_vinit ?cm_rp ?cm_rpr ?cm_rpf ?cr_rdV ?cr_gaV ?l_vreplay ?c_vreplay ?k_vreplay ?pa_vtoday ?pg_vtoday ?pt_vtoday ?pr_vtoday ?l_vtoday ?c_vtoday ?k_vtoday ?pa_vwaiting_books ?pg_vwaiting_books ?pt_vwaiting_books ?pr_vwaiting_books ?l_vwaiting_books ?c_vwaiting_books ?k_vwaiting_books ?pa_vbeing_read ?pg_vbeing_read ?pt_vbeing_read ?pr_vbeing_read ?l_vbeing_read ?c_vbeing_read ?k_vbeing_read ?pa_vhistory ?pg_vhistory ?pt_vhistory ?pr_vhistory ?l_vhistory ?c_vhistory ?k_vhistory ?x_vpass_days ?i_vpass_days ?l_vpass_days ?c_vpass_days ?k_vpass_days ?x_vadd ?i_vadd ?l_vadd ?c_vadd ?k_vadd ?x_vset_days ?i_vset_days ?l_vset_days ?c_vset_days ?k_vset_days ?x_vtake ?i_vtake ?l_vtake ?c_vtake ?k_vtake ?x_vundo ?i_vundo ?l_vundo ?c_vundo ?k_vundo ?x_vredo ?i_vredo ?l_vredo ?c_vredo ?k_vredo ?x_vapply ?bg_vapply ?bt_vapply ?bf_vapply ?i_vapply ?l_vapply ?c_vapply ?k_vapply ?x_vwaiting_after ?i_vwaiting_after ?l_vwaiting_after ?c_vwaiting_after ?k_vwaiting_after ?x_venter ?i_venter ?l_venter ?c_venter ?k_venter ?x_vexit ?i_vexit ?l_vexit ?c_vexit ?k_vexit ?x_vlen ?i_vlen ?l_vlen ?c_vlen ?k_vlen ?x_vcontains ?i_vcontains ?l_vcontains ?c_vcontains ?k_vcontains ?x_executed ?l_executed ?c_executed ?k_executed ?x_ltaken ?l_ltaken ?c_ltaken ?k_ltaken ?x_lparts ?l_lparts ?c_lparts ?k_lparts ?x_lbegin ?l_lbegin ?c_lbegin ?k_lbegin ?x_lfirst ?l_lfirst ?c_lfirst ?k_lfirst ?x_lday ?l_lday ?c_lday ?k_lday ?x_lcopied ?l_lcopied ?c_lcopied ?k_lcopied ?x_lraised ?l_lraised ?c_lraised ?k_lraised ?x_lbooks ?l_lbooks ?c_lbooks ?k_lbooks ?x_ldeed ?l_ldeed ?c_ldeed ?k_ldeed ?x_ldoes ?l_ldoes ?c_ldoes ?k_ldoes ?x_lasked ?l_lasked ?c_lasked ?k_lasked ?x_ltold ?l_ltold ?c_ltold ?k_ltold ?x_law ?l_law ?c_law ?k_law ?pgtC ?hdtC ?potC ?satC ?mktC ?ktC ?ntC_ring ?ntC_day ?ntC_heaps ?ntC_current ?ntC_coming ?pgcC ?hdcC ?pocC ?sacC ?mkcC ?kcC ?ncC_tables ?ncC_operations ?ncC_undone ?pgvC ?hdvC ?povC ?savC ?mkvC ?kvC ?nvC__course ?nvC__kept ?pgC ?hdC ?poC ?saC ?mkC ?kC ?nD ?nS ?v_LATEST ?v_MOST_PASSED ?v_FEWEST_READERS ?v_MOST_READERS ?v_MOST_DAYS ?v_MOST_BOOKS ?z_len ?z_sum ?z_max ?z_min ?z_range ?z_int ?z_bool ?z_isinstance ?z_tuple ?z_enumerate ?z_list ?z_str ?z_sorted own ?tb_c ?tb_l ?tb_p ?tb_h ?tb_n ?x_e0 ?x_e1 ?x_e2 ?x_e3 ?x_e4 ?x_e5 ?x_e6 ?x_eE ?z_VE ?xc_n ?xc_t ?xs1 ?xi1 ?xt1 ?xp1 ?xs2 ?xi2 ?xt2 ?xp2 ?xs6 ?xi6 ?xt6 ?xp6 ?x_dA ?x_dB ?w_dA ?w_dB ?p_dA ?p_dB ?p_dA_add ?p_dB_add ?p_dA_set_days ?p_dB_set_days ?p_dA_take ?p_dB_take ?xg0 ?xk0 ?xs0 ?xd0 ?xa0 ?xm0 ?xx0 ?xq0_0 ?xq0_1 ?xq0_2 ?xq0_3 ?xq0_4 ?xq0_5 ?xv0 ?xg1 ?xk1 ?xd1 ?xa1 ?xm1 ?xx1 ?xq1_0 ?xq1_1 ?xq1_2 ?xq1_3 ?xq1_4 ?xq1_5 ?xv1 ?xg2 ?xk2 ?xd2 ?xa2 ?xm2 ?xx2 ?xq2_0 ?xq2_1 ?xq2_2 ?xq2_3 ?xq2_4 ?xq2_5 ?xv2 ?xg4 ?xk4 ?xs4 ?xd4 ?xa4 ?xm4 ?xx4 ?xq4_0 ?xq4_1 ?xq4_2 ?xq4_3 ?xq4_4 ?xq4_5 ?xv4 ?xt0 ?xn0 ?xt4 ?xn4 ?xr1 ?xr2 ?xr3
    (case aC => k_is); (case atC => k_is); (case acC => k_is); (case avC => k_is); (case xc_iBeingRead => k_is); (case x_iBeingRead => k_is); (case xt_iBeingRead => k_is); (case xo_iBeingRead => first | exact rfl | decide +kernel)
    (case l_iBeingRead => k_is); (case c_iBeingRead => k_is); (case k_iBeingRead => k_is); (case xc_iInvalidOperation => k_is); (case x_iInvalidOperation => k_is); (case xt_iInvalidOperation => k_is); (case xo_iInvalidOperation => first | exact rfl | decide +kernel); (case l_iInvalidOperation => k_is)
    (case c_iInvalidOperation => k_is); (case k_iInvalidOperation => k_is); (case x_is_number => k_is); (case l_is_number => k_is); (case c_is_number => k_is); (case k_is_number => k_is); (case x_lies_between => k_is); (case l_lies_between => k_is)
    (case c_lies_between => k_is); (case k_lies_between => k_is); (case x_check_number => k_is); (case l_check_number => k_is); (case c_check_number => k_is); (case k_check_number => k_is); (case x_check_reader => k_is); (case l_check_reader => k_is)
    (case c_check_reader => k_is); (case k_check_reader => k_is); (case x_rinit => k_is); (case i_rinit => k_is); (case l_rinit => k_is); (case c_rinit => k_is); (case k_rinit => k_is); (case pa_rdays => k_is)
    (case pg_rdays => k_is); (case pt_rdays => k_is); (case pr_rdays => k_is); (case l_rdays => k_is); (case c_rdays => k_is); (case k_rdays => k_is); (case pa_rstarts => k_is); (case pg_rstarts => k_is)
    (case pt_rstarts => k_is); (case pr_rstarts => k_is); (case l_rstarts => k_is); (case c_rstarts => k_is); (case k_rstarts => k_is); (case pa_rbooks => k_is); (case pg_rbooks => k_is); (case pt_rbooks => k_is)
    (case pr_rbooks => k_is); (case l_rbooks => k_is); (case c_rbooks => k_is); (case k_rbooks => k_is); (case pa_rpace => k_is); (case pg_rpace => k_is); (case pt_rpace => k_is); (case pr_rpace => k_is)
    (case l_rpace => k_is); (case c_rpace => k_is); (case k_rpace => k_is); (case x_rwith_days => k_is); (case i_rwith_days => k_is); (case l_rwith_days => k_is); (case c_rwith_days => k_is); (case k_rwith_days => k_is)
    (case x_rlen => k_is); (case i_rlen => k_is); (case l_rlen => k_is); (case c_rlen => k_is); (case k_rlen => k_is); (case x_rcall => k_is); (case i_rcall => k_is); (case j_rcall => k_is)
    (case l_rcall => k_is); (case c_rcall => k_is); (case k_rcall => k_is); (case x_check_part => k_is); (case l_check_part => k_is); (case c_check_part => k_is); (case k_check_part => k_is); (case x_end_day => k_is)
    (case l_end_day => k_is); (case c_end_day => k_is); (case k_end_day => k_is); (case x_reader_after => k_is); (case l_reader_after => k_is); (case c_reader_after => k_is); (case k_reader_after => k_is); (case x_tinit => k_is)
    (case i_tinit => k_is); (case l_tinit => k_is); (case c_tinit => k_is); (case k_tinit => k_is); (case x_first_table => k_is); (case l_first_table => k_is); (case c_first_table => k_is); (case k_first_table => k_is)
    (case x_copied_table => k_is); (case l_copied_table => k_is); (case c_copied_table => k_is); (case k_copied_table => k_is); (case x_books_at => k_is); (case l_books_at => k_is); (case c_books_at => k_is); (case k_books_at => k_is)
    (case x_places_of => k_is); (case l_places_of => k_is); (case c_places_of => k_is); (case k_places_of => k_is); (case x_has_book => k_is); (case l_has_book => k_is); (case c_has_book => k_is); (case k_has_book => k_is)
    (case x_place_of => k_is); (case l_place_of => k_is); (case c_place_of => k_is); (case k_place_of => k_is); (case x_begin_readings => k_is); (case l_begin_readings => k_is); (case c_begin_readings => k_is); (case k_begin_readings => k_is)
    (case x_end_readings => k_is); (case l_end_readings => k_is); (case c_end_readings => k_is); (case k_end_readings => k_is); (case x_put_book => k_is); (case l_put_book => k_is); (case c_put_book => k_is); (case k_put_book => k_is)
    (case x_let_pass => k_is); (case l_let_pass => k_is); (case c_let_pass => k_is); (case k_let_pass => k_is); (case x_add_book => k_is); (case l_add_book => k_is); (case c_add_book => k_is); (case k_add_book => k_is)
    (case x_change_days => k_is); (case l_change_days => k_is); (case c_change_days => k_is); (case k_change_days => k_is); (case x_take_book => k_is); (case l_take_book => k_is); (case c_take_book => k_is); (case k_take_book => k_is)
    (case x_is_operation => k_is); (case l_is_operation => k_is); (case c_is_operation => k_is); (case k_is_operation => k_is); (case x_carry_out => k_is); (case l_carry_out => k_is); (case c_carry_out => k_is); (case k_carry_out => k_is)
    (case x_cinit => k_is); (case i_cinit => k_is); (case l_cinit => k_is); (case c_cinit => k_is); (case k_cinit => k_is); (case x_vinit => k_is); (case i_vinit => k_is); (case l_vinit => k_is)
    (case c_vinit => k_is); (case k_vinit => k_is); (case cm_rp => first | k_is | exact rfl | k_exc | decide +kernel); (case cm_rpr => first | k_is | exact rfl | k_exc | decide +kernel); (case cm_rpf => first | k_is | exact rfl | k_exc | decide +kernel); (case cr_rdV => first | k_is | exact rfl | k_exc | decide +kernel); (case cr_gaV => first | k_is | exact rfl | k_exc | decide +kernel); (case l_vreplay => k_is)
    (case c_vreplay => k_is); (case k_vreplay => k_is); (case pa_vtoday => k_is); (case pg_vtoday => k_is); (case pt_vtoday => k_is); (case pr_vtoday => k_is); (case l_vtoday => k_is); (case c_vtoday => k_is)
    (case k_vtoday => k_is); (case pa_vwaiting_books => k_is); (case pg_vwaiting_books => k_is); (case pt_vwaiting_books => k_is); (case pr_vwaiting_books => k_is); (case l_vwaiting_books => k_is); (case c_vwaiting_books => k_is); (case k_vwaiting_books => k_is)
    (case pa_vbeing_read => k_is); (case pg_vbeing_read => k_is); (case pt_vbeing_read => k_is); (case pr_vbeing_read => k_is); (case l_vbeing_read => k_is); (case c_vbeing_read => k_is); (case k_vbeing_read => k_is); (case pa_vhistory => k_is)
    (case pg_vhistory => k_is); (case pt_vhistory => k_is); (case pr_vhistory => k_is); (case l_vhistory => k_is); (case c_vhistory => k_is); (case k_vhistory => k_is); (case x_vpass_days => k_is); (case i_vpass_days => k_is)
    (case l_vpass_days => k_is); (case c_vpass_days => k_is); (case k_vpass_days => k_is); (case x_vadd => k_is); (case i_vadd => k_is); (case l_vadd => k_is); (case c_vadd => k_is); (case k_vadd => k_is)
    (case x_vset_days => k_is); (case i_vset_days => k_is); (case l_vset_days => k_is); (case c_vset_days => k_is); (case k_vset_days => k_is); (case x_vtake => k_is); (case i_vtake => k_is); (case l_vtake => k_is)
    (case c_vtake => k_is); (case k_vtake => k_is); (case x_vundo => k_is); (case i_vundo => k_is); (case l_vundo => k_is); (case c_vundo => k_is); (case k_vundo => k_is); (case x_vredo => k_is)
    (case i_vredo => k_is); (case l_vredo => k_is); (case c_vredo => k_is); (case k_vredo => k_is); (case x_vapply => k_is); (case bg_vapply => first | k_is | exact rfl | k_exc | decide +kernel); (case bt_vapply => first | k_is | exact rfl | k_exc | decide +kernel); (case bf_vapply => first | k_is | exact rfl | k_exc | decide +kernel)
    (case i_vapply => k_is); (case l_vapply => k_is); (case c_vapply => k_is); (case k_vapply => k_is); (case x_vwaiting_after => k_is); (case i_vwaiting_after => k_is); (case l_vwaiting_after => k_is); (case c_vwaiting_after => k_is)
    (case k_vwaiting_after => k_is); (case x_venter => k_is); (case i_venter => k_is); (case l_venter => k_is); (case c_venter => k_is); (case k_venter => k_is); (case x_vexit => k_is); (case i_vexit => k_is)
    (case l_vexit => k_is); (case c_vexit => k_is); (case k_vexit => k_is); (case x_vlen => k_is); (case i_vlen => k_is); (case l_vlen => k_is); (case c_vlen => k_is); (case k_vlen => k_is)
    (case x_vcontains => k_is); (case i_vcontains => k_is); (case l_vcontains => k_is); (case c_vcontains => k_is); (case k_vcontains => k_is); (case x_executed => k_is); (case l_executed => k_is); (case c_executed => k_is)
    (case k_executed => k_is); (case x_ltaken => k_is); (case l_ltaken => k_is); (case c_ltaken => k_is); (case k_ltaken => k_is); (case x_lparts => k_is); (case l_lparts => k_is); (case c_lparts => k_is)
    (case k_lparts => k_is); (case x_lbegin => k_is); (case l_lbegin => k_is); (case c_lbegin => k_is); (case k_lbegin => k_is); (case x_lfirst => k_is); (case l_lfirst => k_is); (case c_lfirst => k_is)
    (case k_lfirst => k_is); (case x_lday => k_is); (case l_lday => k_is); (case c_lday => k_is); (case k_lday => k_is); (case x_lcopied => k_is); (case l_lcopied => k_is); (case c_lcopied => k_is)
    (case k_lcopied => k_is); (case x_lraised => k_is); (case l_lraised => k_is); (case c_lraised => k_is); (case k_lraised => k_is); (case x_lbooks => k_is); (case l_lbooks => k_is); (case c_lbooks => k_is)
    (case k_lbooks => k_is); (case x_ldeed => k_is); (case l_ldeed => k_is); (case c_ldeed => k_is); (case k_ldeed => k_is); (case x_ldoes => k_is); (case l_ldoes => k_is); (case c_ldoes => k_is)
    (case k_ldoes => k_is); (case x_lasked => k_is); (case l_lasked => k_is); (case c_lasked => k_is); (case k_lasked => k_is); (case x_ltold => k_is); (case l_ltold => k_is); (case c_ltold => k_is)
    (case k_ltold => k_is); (case x_law => k_is); (case l_law => k_is); (case c_law => k_is); (case k_law => k_is); (case pgtC => k_is); (case hdtC => k_is); (case potC => k_is)
    (case satC => k_is); (case mktC => k_is); (case ktC => k_is); (case ntC_ring => k_is); (case ntC_day => k_is); (case ntC_heaps => k_is); (case ntC_current => k_is); (case ntC_coming => k_is)
    (case pgcC => k_is); (case hdcC => k_is); (case pocC => k_is); (case sacC => k_is); (case mkcC => k_is); (case kcC => k_is); (case ncC_tables => k_is); (case ncC_operations => k_is)
    (case ncC_undone => k_is); (case pgvC => k_is); (case hdvC => k_is); (case povC => k_is); (case savC => k_is); (case mkvC => k_is); (case kvC => k_is); (case nvC__course => k_is)
    (case nvC__kept => k_is); (case pgC => k_is); (case hdC => k_is); (case poC => k_is); (case saC => k_is); (case mkC => k_is); (case kC => k_is); (case nD => k_is)
    (case nS => k_is); (case v_LATEST => k_is); (case v_MOST_PASSED => k_is); (case v_FEWEST_READERS => k_is); (case v_MOST_READERS => k_is); (case v_MOST_DAYS => k_is); (case v_MOST_BOOKS => k_is); (case z_len => k_is)
    (case z_sum => k_is); (case z_max => k_is); (case z_min => k_is); (case z_range => k_is); (case z_int => k_is); (case z_bool => k_is); (case z_isinstance => k_is); (case z_tuple => k_is)
    (case z_enumerate => k_is); (case z_list => k_is); (case z_str => k_is); (case z_sorted => k_is)
    (case tb_c => first | exact rfl | k_is | k_exc | decide +kernel)
    (case tb_l => first | exact rfl | k_is | k_exc | decide +kernel)
    (case tb_p => first | exact rfl | k_is | k_exc | decide +kernel)
    (case tb_h => first | exact rfl | k_is | k_exc | decide +kernel)
    (case tb_n => first | exact rfl | k_is | k_exc | decide +kernel)
    (case x_e0 => first | exact rfl | k_is | k_exc | decide +kernel)
    (case x_e1 => first | exact rfl | k_is | k_exc | decide +kernel)
    (case x_e2 => first | exact rfl | k_is | k_exc | decide +kernel)
    (case x_e3 => first | exact rfl | k_is | k_exc | decide +kernel)
    (case x_e4 => first | exact rfl | k_is | k_exc | decide +kernel)
    (case x_e5 => first | exact rfl | k_is | k_exc | decide +kernel)
    (case x_e6 => first | exact rfl | k_is | k_exc | decide +kernel)
    (case x_eE => first | exact rfl | k_is | k_exc | decide +kernel)
    (case z_VE => first | exact rfl | k_is | k_exc | decide +kernel)
    (case xc_n => first | exact rfl | k_is | k_exc | decide +kernel)
    (case xc_t => first | exact rfl | k_is | k_exc | decide +kernel)
    (case xs1 => first | exact rfl | k_is | k_exc | decide +kernel)
    (case xi1 => first | exact rfl | k_is | k_exc | decide +kernel)
    (case xt1 => first | exact rfl | k_is | k_exc | decide +kernel)
    (case xp1 => first | exact rfl | k_is | k_exc | decide +kernel)
    (case xs2 => first | exact rfl | k_is | k_exc | decide +kernel)
    (case xi2 => first | exact rfl | k_is | k_exc | decide +kernel)
    (case xt2 => first | exact rfl | k_is | k_exc | decide +kernel)
    (case xp2 => first | exact rfl | k_is | k_exc | decide +kernel)
    (case xs6 => first | exact rfl | k_is | k_exc | decide +kernel)
    (case xi6 => first | exact rfl | k_is | k_exc | decide +kernel)
    (case xt6 => first | exact rfl | k_is | k_exc | decide +kernel)
    (case xp6 => first | exact rfl | k_is | k_exc | decide +kernel)
    (case x_dA => first | exact rfl | k_is | k_exc | decide +kernel)
    (case x_dB => first | exact rfl | k_is | k_exc | decide +kernel)
    (case w_dA => first | exact rfl | k_is | k_exc | decide +kernel)
    (case w_dB => first | exact rfl | k_is | k_exc | decide +kernel)
    (case p_dA => first | exact rfl | k_is | k_exc | decide +kernel)
    (case p_dB => first | exact rfl | k_is | k_exc | decide +kernel)
    (case p_dA_add => first | exact rfl | k_is | k_exc | decide +kernel)
    (case p_dB_add => first | exact rfl | k_is | k_exc | decide +kernel)
    (case p_dA_set_days => first | exact rfl | k_is | k_exc | decide +kernel)
    (case p_dB_set_days => first | exact rfl | k_is | k_exc | decide +kernel)
    (case p_dA_take => first | exact rfl | k_is | k_exc | decide +kernel)
    (case p_dB_take => first | exact rfl | k_is | k_exc | decide +kernel)
    (case xg0 => first | exact rfl | k_is | k_exc | decide +kernel)
    (case xk0 => first | exact rfl | k_is | k_exc | decide +kernel)
    (case xs0 => first | exact rfl | k_is | k_exc | decide +kernel)
    (case xd0 => first | exact rfl | k_is | k_exc | decide +kernel)
    (case xa0 => first | exact rfl | k_is | k_exc | decide +kernel)
    (case xm0 => first | exact rfl | k_is | k_exc | decide +kernel)
    (case xx0 => first | exact rfl | k_is | k_exc | decide +kernel)
    (case xq0_0 => first | exact rfl | k_is | k_exc | decide +kernel)
    (case xq0_1 => first | exact rfl | k_is | k_exc | decide +kernel)
    (case xq0_2 => first | exact rfl | k_is | k_exc | decide +kernel)
    (case xq0_3 => first | exact rfl | k_is | k_exc | decide +kernel)
    (case xq0_4 => first | exact rfl | k_is | k_exc | decide +kernel)
    (case xq0_5 => first | exact rfl | k_is | k_exc | decide +kernel)
    (case xv0 => first | exact rfl | k_is | k_exc | decide +kernel)
    (case xg1 => first | exact rfl | k_is | k_exc | decide +kernel)
    (case xk1 => first | exact rfl | k_is | k_exc | decide +kernel)
    (case xd1 => first | exact rfl | k_is | k_exc | decide +kernel)
    (case xa1 => first | exact rfl | k_is | k_exc | decide +kernel)
    (case xm1 => first | exact rfl | k_is | k_exc | decide +kernel)
    (case xx1 => first | exact rfl | k_is | k_exc | decide +kernel)
    (case xq1_0 => first | exact rfl | k_is | k_exc | decide +kernel)
    (case xq1_1 => first | exact rfl | k_is | k_exc | decide +kernel)
    (case xq1_2 => first | exact rfl | k_is | k_exc | decide +kernel)
    (case xq1_3 => first | exact rfl | k_is | k_exc | decide +kernel)
    (case xq1_4 => first | exact rfl | k_is | k_exc | decide +kernel)
    (case xq1_5 => first | exact rfl | k_is | k_exc | decide +kernel)
    (case xv1 => first | exact rfl | k_is | k_exc | decide +kernel)
    (case xg2 => first | exact rfl | k_is | k_exc | decide +kernel)
    (case xk2 => first | exact rfl | k_is | k_exc | decide +kernel)
    (case xd2 => first | exact rfl | k_is | k_exc | decide +kernel)
    (case xa2 => first | exact rfl | k_is | k_exc | decide +kernel)
    (case xm2 => first | exact rfl | k_is | k_exc | decide +kernel)
    (case xx2 => first | exact rfl | k_is | k_exc | decide +kernel)
    (case xq2_0 => first | exact rfl | k_is | k_exc | decide +kernel)
    (case xq2_1 => first | exact rfl | k_is | k_exc | decide +kernel)
    (case xq2_2 => first | exact rfl | k_is | k_exc | decide +kernel)
    (case xq2_3 => first | exact rfl | k_is | k_exc | decide +kernel)
    (case xq2_4 => first | exact rfl | k_is | k_exc | decide +kernel)
    (case xq2_5 => first | exact rfl | k_is | k_exc | decide +kernel)
    (case xv2 => first | exact rfl | k_is | k_exc | decide +kernel)
    (case xg4 => first | exact rfl | k_is | k_exc | decide +kernel)
    (case xk4 => first | exact rfl | k_is | k_exc | decide +kernel)
    (case xs4 => first | exact rfl | k_is | k_exc | decide +kernel)
    (case xd4 => first | exact rfl | k_is | k_exc | decide +kernel)
    (case xa4 => first | exact rfl | k_is | k_exc | decide +kernel)
    (case xm4 => first | exact rfl | k_is | k_exc | decide +kernel)
    (case xx4 => first | exact rfl | k_is | k_exc | decide +kernel)
    (case xq4_0 => first | exact rfl | k_is | k_exc | decide +kernel)
    (case xq4_1 => first | exact rfl | k_is | k_exc | decide +kernel)
    (case xq4_2 => first | exact rfl | k_is | k_exc | decide +kernel)
    (case xq4_3 => first | exact rfl | k_is | k_exc | decide +kernel)
    (case xq4_4 => first | exact rfl | k_is | k_exc | decide +kernel)
    (case xq4_5 => first | exact rfl | k_is | k_exc | decide +kernel)
    (case xv4 => first | exact rfl | k_is | k_exc | decide +kernel)
    (case xt0 => first | exact rfl | k_is | k_exc | decide +kernel)
    (case xn0 => first | exact rfl | k_is | k_exc | decide +kernel)
    (case xt4 => first | exact rfl | k_is | k_exc | decide +kernel)
    (case xn4 => first | exact rfl | k_is | k_exc | decide +kernel)
    (case xr1 => first | exact rfl | k_is | k_exc | decide +kernel)
    (case xr2 => first | exact rfl | k_is | k_exc | decide +kernel)
    (case xr3 => first | exact rfl | k_is | k_exc | decide +kernel)
