import PyProof.Rows.All
import Wide.All
import OpenK.AllK
import Wide.FinOn
import HandS.GenList
import PyProof.EqAt
import PyProof.EqKinds
import PyProof.TupleCall
import HandS.ForMost
import HandS.Walk
import HandS.Property
import HandS.Star
import HandS.IsInst
import HandS.Gcd
import HandS.Flow
import KE.KTupSum
import KE.GoesEnum
import HandS.ExcInit
import HandS.ClsMeth
import HandS.FStr
import HandS.Strs
import HandS.Conv
import HandS.Sort
import HandS.TupAny
import HandS.Nested
import HandS.Lambda
import KE.KDflt
import KE.KOpsOwn
import HandS.OwnEq
import HandS.CallLocal
import OpenK.KMeth
import KE.KEqDeep
import HandS.Style
import HandS.NoneIn
import HandS.EndOwn
import HandS.List
import HandS.SetFor
import HandS.Words
import HandS.ExcIs
import HandS.ExcCtx
import HandS.WordsExc
import KE.KExcIs
import HandS.ExcField
import PyProof.Rows.RegStrFacts
import HandS.Zip
import PySem.Challenge.RW_readingring_k43_diaries
set_option Elab.async false
set_option linter.all false
set_option maxRecDepth 100000
set_option maxHeartbeats 8000000
/-! Rgf: `for` in a generator's body. -/
namespace Rz
open PySem PySem.Spec PyProof.Rows L2

section
variable {M : Model} {A : Around} {R : GenEnd} {Y : Protocol} {n : Nat} {s₀ s : Shared} {c : Code} {fs : List Frame} {env : Env} {K : Flow → Sem PySem.Fin} {J : Value → Sem PySem.Fin} {gd : Bool → Bool} {lv : List Value → List Value}
theorem seg_For {target iter : Expr} {body orelse : List Stmt} {pos : Pos}
    (h : wpAny M (A.over c fs) (eval iter env) (fun x s1 => wpAny M (A.over c fs) (pyIter x) (fun it s2 => ∀ p, Seg M A R Y n s₀ (.forLoop target it body orelse env) (M.den (.forLoop target it body orelse env))
      (.ret (fun r => ((match r with | .ok f => (.pure f : Sem Flow) | .error e => .raise e).onRaise fun (x : Value) => do
        if (← field x 1) == Value.none then unsupported "frame.own-activation:exception-without-traceback"
        setFlight x env.frame).wrap K J gd lv) none (gd false) (lv []) c p [] :: fs) s2) (fun x s' => Seg M A R Y n s₀ c (J x) fs s') s1) (fun x s' => Seg M A R Y n s₀ c (J x) fs s') s)
    (hs : ∀ x, foldedSetIterable iter env x = pure x := by intro _; rfl) : Seg M A R Y n s₀ c ((exec (.For target iter body orelse pos) env).wrap K J gd lv) fs s := by
  rw [exec_For]
  refine seg_bind_wrap (wpAny_standAt ?_)
  refine seg_bind_wrap (wpAny_mono h (fun x s1 h1 => ?_) fun _ _ z => z)
  refine seg_bind_wrap (wpAny_of_eq (hs x) ?_)
  refine seg_bind_wrap (wpAny_standAt ?_)
  refine seg_bind_wrap (wpAny_holding (wpAny_mono h1 (fun it s2 h2 => ?_) fun _ _ z => z))
  exact seg_call h2
end

section
variable {prog : Program} {w : World} {A : Around} {R : GenEnd} {Y : Protocol} {n : Nat} {s₀ s : Shared} {fs : List Frame} {env : Env}
theorem seg_forLoop {target : Expr} {it : Value} {body orelse : List Stmt} {EE : Value → Shared → Prop}
    (hE : ∀ x s', EE x s' → Seg (model prog w) A R Y n s₀ (.forLoop target it body orelse env) ((do noteFrame x env; theTreesLotGoes x : Sem Unit).wrap (fun _ => .raise x) .raise id id) fs s')
    (h : wpAny (model prog w) (A.over (.forLoop target it body orelse env) fs) (pyNext it) (fun r s1 => match r with
      | none => Seg (model prog w) A R Y n s₀ (.forLoop target it body orelse env) (.pure (.again (.block orelse env))) fs s1
      | some v => wpAny (model prog w) (A.over (.forLoop target it body orelse env) fs) (letOwnedTupleGo target it v) (fun _ s2 => wpAny (model prog w) (A.over (.forLoop target it body orelse env) fs) (assign target env v) (fun _ s3 =>
          Seg (model prog w) A R Y n s₀ (.forLoop target it body orelse env) ((execs body env).wrap (fun f => match f with
            | .next | .cont => .pure (.again (.forLoop target it body orelse env))
            | .brk => .pure (.done .next)
            | .ret v => .pure (.done (.ret v))) (fun e => (do noteFrame e env; theTreesLotGoes e : Sem Unit).wrap (fun _ => .raise e) .raise id id) id id) fs s3) EE s2) EE s1) EE s) :
    Seg (model prog w) A R Y n s₀ (.forLoop target it body orelse env) ((model prog w).den (.forLoop target it body orelse env)) fs s := by
  have hE' : ∀ x s', EE x s' → Seg (model prog w) A R Y n s₀ (.forLoop target it body orelse env) ((do noteFrame x env; theTreesLotGoes x : Sem Unit).bind fun _ => .raise x) fs s' := fun x s' hx => by
    rw [Sem.bind_eq_wrap]; exact hE x s' hx
  show Seg _ A R Y n s₀ _ ((forTurn target it body orelse env).onRaise (fun x => do noteFrame x env; theTreesLotGoes x)) fs s
  unfold forTurn
  rw [Sem.onRaise_eq_wrap]
  refine seg_bind_wrap (wpAny_standAt ?_)
  refine seg_bind_wrap (wpAny_onRaise (wpAny_mono h (fun r s1 h1 => ?_) fun x s' hx => wpAny_standAt (hE' x s' hx)))
  cases r with
  | none => exact h1
  | some v =>
    refine seg_bind_wrap (wpAny_mono h1 (fun _ s2 h2 => ?_) hE')
    refine seg_bind_wrap (wpAny_mono h2 (fun _ s3 h3 => ?_) hE')
    rw [Sem.bind_eq_wrap', Sem.wrap_wrap]
    rw [Sem.wrap_congr (execs body env) _ _ (K' := fun f => match f with
          | .next | .cont => .pure (.again (.forLoop target it body orelse env))
          | .brk => .pure (.done .next)
          | .ret v => .pure (.done (.ret v))) (H' := (fun e => (do noteFrame e env; theTreesLotGoes e : Sem Unit).wrap (fun _ => .raise e) .raise id id))
      (fun f => by cases f <;> rfl)
      (fun e => by first | exact Sem.bind_eq_wrap _ _ | (show (do noteFrame e env; theTreesLotGoes e : Sem Unit).bind (fun _ => .raise e) = _; rw [Sem.bind_eq_wrap]))]
    exact h3
theorem seg_block_nil {c : Code} (h : Seg (model prog w) A R Y n s₀ (.block [] env) (.pure (.done .next)) fs s) : Seg (model prog w) A R Y n s₀ c (.pure (.again (.block [] env))) fs s :=
  seg_again rfl h
end

section
variable {X : Cx}
def tGFor (wi : TI) (g : TG) (tb : TGn) : TGn := fun D ys σ H => wi σ H fun J H1 => ∃ W : Nat → Nat → List V → L2.St → Hp → Prop, (∃ m, W 0 m ys σ H1) ∧ ∀ i m ys σ H, W i m ys σ H →
  (J.stop i H ∧ D.nx ys σ H) ∨ (J.go i H ∧ ∃ N : List V → L2.St → Hp → Prop, (∀ ys' σ' H', N ys' σ' H' → ∃ m', m' < m ∧ W (i + 1) m' ys' σ' H') ∧ ∀ x H', J.yld i H x H' → g x σ H' fun σ2 H2 => tb { D with nx := N, ct := N, bk := D.nx } ys σ2 H2)
theorem gs_for {tg iter : Expr} {body : List Stmt} {wi : TI} {g : TG} {tb : TGn} {pos : Pos} (hp : PassesOwn (model X.prog X.w) X.A X.env X.xe) (hc : X.calm = true) (hi : PI X tg iter wi) (hg : PG X tg g) (hb : GSs X body tb)
    (hs : ∀ x, foldedSetIterable iter X.env x = pure x := by intro _; rfl) : GS X (.For tg iter body [] pos) (tGFor wi g tb) := by
  refine ⟨fun A S ip R n ys s₀ c fs K J gd lv s σ H D g0 hn k hI ht => ?_⟩
  obtain ⟨acc, cc, r, I⟩ := hI
  refine seg_For ?_ hs
  rw [g0.over]
  refine wpAny_mono (hi.run _ s σ H _ I ht) (fun v s1 h1 => wpAny_mono h1 (fun itv s2 h2 p => ?_) fun x s' hx => k.exc n s₀ x s' hx) fun x s' hx => k.exc n s₀ x s' hx
  obtain ⟨it, fp, tn, Jt, H2, e, I2, T, st2, f2, W, ⟨m0, w0⟩, turn⟩ := h2
  subst e
  have fpS : ∀ b ∈ fp, b ≠ S := fun b hb z => (f2 b hb).2.2.2.2.2 (S, lstObj acc cc) (List.mem_append_right _ List.mem_cons_self) z.symm
  have stat : ∀ {H' : Hp} (acc' : Array Value) (c' : Nat), (∀ b ∈ fp, H' b = none) → ∀ b ∈ fp, FpOk X ((S, lstObj acc' c') :: ip) H' b := fun {H'} acc' c' hnn b hb => by
    obtain ⟨_, q1, q2, q3, q4, q5⟩ := f2 b hb
    refine ⟨hnn b hb, q1, q2, q3, q4, fun p hp => ?_⟩
    rcases List.mem_append.mp hp with z | z
    · exact q5 p (List.mem_append_left _ z)
    · rcases List.mem_cons.mp z with z | z
      · rw [z]; exact Ne.symm (fpS b hb)
      · exact q5 p (List.mem_append_right _ (List.mem_cons_of_mem _ z))
  have gl := fun (kk : Result → Sem PySem.Fin) => gc_loop (k := kk) (c' := .forLoop tg (.ref it) body [] X.env) (l := lv []) (kp := []) (p := p) g0 rfl rfl
  have loop : ∀ (m i n : Nat) (ys : List V) (s₀ s : Shared) (σ : L2.St) (H : Hp), n + ys.length = sizeLine → W i m ys σ H → GI X S ip ys σ H s → tn i s.heap → (∀ b ∈ fp, H b = none) →
      Seg (model X.prog X.w) A R (GY X S) n s₀ (.forLoop tg (.ref it) body [] X.env) ((model X.prog X.w).den (.forLoop tg (.ref it) body [] X.env))
        (.ret (fun r => ((match r with | .ok f => (.pure f : Sem Flow) | .error e => .raise e).onRaise (cameBack X.env)).wrap K J gd lv) none (gd false) (lv []) c p [] :: fs) s := by
    intro m
    induction m using Nat.strongRecOn with
    | ind m ih =>
      intro i n ys s₀ s σ H hn w hI st fr
      have ee : ∀ (n : Nat) (s₀ : Shared) (x : Value) (s' : Shared), X.xe x s' → Seg (model X.prog X.w) A R (GY X S) n s₀ (.forLoop tg (.ref it) body [] X.env)
          ((do noteFrame x X.env; theTreesLotGoes x : Sem Unit).wrap (fun _ => .raise x) .raise id id)
          (.ret (fun r => ((match r with | .ok f => (.pure f : Sem Flow) | .error e => .raise e).onRaise (cameBack X.env)).wrap K J gd lv) none (gd false) (lv []) c p [] :: fs) s' := fun n s₀ x s' hx => by
        refine seg_wrap ?_
        rw [(gl _).over]
        refine wpAny_bind (wpAny_mono (hp x s' hx) (fun _ s'' hcb => wpAny_theTreesLotGoes ?_) fun y s'' hcb => ?_)
        · exact seg_leaf (.error x) (seg_cameBack g0 k hcb)
        · exact seg_leaf (.error y) (seg_cameBack g0 k hcb)
      obtain ⟨acc, cc, r, I⟩ := hI
      refine seg_forLoop (EE := X.xe) (ee n s₀) ?_
      rw [(gl _).over]
      rcases turn i m ys σ H w with ⟨stop, qn⟩ | ⟨go, N, hN, step⟩
      · refine wpAny_mono (T.done X rfl rfl rfl hc i _ s σ H X.xe I (stat acc cc fr) st stop) (fun r' s4 ⟨hr, I4⟩ => ?_) fun _ _ z => z
        subst hr
        exact seg_block_nil (seg_leaf (.ok .next) (k.ok n ys s₀ s4 .next hn ⟨σ, H, ⟨acc, cc, r, I4⟩, qn⟩))
      · refine wpAny_mono (T.item X rfl rfl rfl hc i _ s σ H X.xe I (stat acc cc fr) st go) (fun r' s4 ⟨u, hr, h4⟩ => ?_) fun _ _ z => z
        subst hr
        refine wpAny_mono h4 (fun _ s5 ⟨x, H5, I5, r5, y5, st5, fr5⟩ => ?_) fun _ _ z => z
        have I5' := I5.pinned (stat acc cc fr5) (T.obj _ _ st5)
        refine wpAny_mono (hg.run _ s5 σ H5 x u _ I5' r5 (step x H5 y5)) (fun _ s6 ⟨σ6, H6, I6, q6⟩ => ?_) fun _ _ z => z
        have out : ∀ {zs : List V} {σ7 : L2.St} {H7 : Hp} {s7 : Shared}, GI X S (ip ++ pinsAt fp s5.heap) zs σ7 H7 s7 → GI X S ip zs σ7 H7 s7 := fun {zs σ7 H7 s7} ⟨a7, c7, r7, I7⟩ => ⟨a7, c7, r7, Inv.unpinned (pins := (S, lstObj a7 c7) :: ip) I7⟩
        have again : ∀ {zs : List V} {σ7 : L2.St} {H7 : Hp} {n' : Nat} {s₀' s7 : Shared}, n' + zs.length = sizeLine → GI X S (ip ++ pinsAt fp s5.heap) zs σ7 H7 s7 → N zs σ7 H7 →
            Seg (model X.prog X.w) A R (GY X S) n' s₀' (.forLoop tg (.ref it) body [] X.env) (.pure (.again (.forLoop tg (.ref it) body [] X.env)))
              (.ret (fun r => ((match r with | .ok f => (.pure f : Sem Flow) | .error e => .raise e).onRaise (cameBack X.env)).wrap K J gd lv) none (gd false) (lv []) c p [] :: fs) s7 := fun {zs σ7 H7 n' s₀' s7} hn' I7 n7 => by
          obtain ⟨m', hm, w7⟩ := hN zs σ7 H7 n7
          have pin7 : ∀ b ∈ fp, ∀ o, s5.heap.get? b = some o → s7.heap.get? b = some o ∧ H7 b = none := fun b hb o e => by
            obtain ⟨a7, c7, r7, I7⟩ := I7
            have q := I7.pin (b, o) (List.mem_append_right _ (List.mem_cons_of_mem _ (List.mem_append_right _ (mem_pinsAt hb e))))
            exact ⟨q.1, q.2.1⟩
          refine seg_again rfl (ih m' hm (i + 1) n' zs s₀' s7 σ7 H7 hn' w7 (out I7) (T.keep _ _ _ st5 fun b hb o e => (pin7 b hb o e).1) fun b hb => ?_)
          obtain ⟨o, e, _⟩ := T.obj _ _ st5 b hb
          exact (pin7 b hb o e).2
        refine hb.run A S (ip ++ pinsAt fp s5.heap) R n ys s₀ _ _ _ _ id id s6 σ6 H6 { D with nx := N, ct := N, bk := D.nx } ⟨g0.pn, fun p hp => ?_, g0.apart, (gl _).over, (gl _).split, (gl _).guard, rfl⟩ hn ⟨fun n' ys' s₀' s3 f hn' hs => ?_, fun n' s₀' x s3 hx => ee n' s₀' x s3 hx⟩ ⟨acc, cc, r, I6⟩ q6
        · rcases List.mem_append.mp hp with z | z
          · exact g0.ip p z
          · exact fpS p.1 (of_pinsAt z).1
        cases f with
        | next =>
          obtain ⟨σ3, H3, I3, n3⟩ := hs
          exact again hn' I3 n3
        | cont =>
          obtain ⟨σ3, H3, I3, n3⟩ := hs
          exact again hn' I3 n3
        | brk =>
          obtain ⟨σ3, H3, I3, n3⟩ := hs
          exact seg_leaf (.ok .next) (k.ok n' ys' s₀' s3 .next hn' ⟨σ3, H3, out I3, n3⟩)
        | ret v =>
          obtain ⟨v3, σ3, H3, I3, r3, n3⟩ := hs
          exact seg_leaf (.ok (.ret v)) (k.ok n' ys' s₀' s3 (.ret v) hn' ⟨v3, σ3, H3, out I3, r3, n3⟩)
  exact loop m0 0 n ys s₀ s2 σ H2 hn w0 ⟨acc, cc, r, I2⟩ st2 fun b hb => (f2 b hb).1
end
end Rz
/-! Rules beside the layer's: len of an own instance, enumerate over a tuple, sum and max of a tuple. -/
namespace Rz
open PySem PySem.Spec PyProof.Rows L2

section
variable {X : Cx}
/-! ### len(o), o an instance whose class defines it -/
def rLenI (C : Addr) (sp : Sp) (E : XK) : List V → Hp → VK → Prop := fun xs H Q => ∃ a dx fs, xs = [.ref a] ∧ H a = some (.ins C dx fs) ∧
  sp [.ref a] H (fun v H' => ∃ n : Int, v = .int n ∧ 0 ≤ n ∧ n < 2 ^ 63 ∧ Q (.int n) H') E
theorem call_lenI {CX : CXT} {k : Nat} {f C : Addr} {sp : Sp} {E : XK} (hs : PySem.W.findIn X.K (.ref C) "__len__" = some (some (.ref f))) (hf : PySem.W.isFn X.K (.ref f) = true)
    (F : FnR X.prog X.w X.K X.mg X.base CX k f sp) (hr : Room (k + 1) X.A) (hx : Passes CX X E) : CallR X (.builtin "len") (rLenI C sp E) := by
  intro pins s σ H xs us Q I r h
  obtain ⟨a, dx, fs, rfl, ea, q⟩ := h
  rw [Vals.ref1 r]
  obtain ⟨mA, O, _⟩ := ins_get I.hok ea
  obtain ⟨od, J, _⟩ := O.look
  have hc : wpAny (model X.prog X.w) X.A.in1 (call (.ref f) [.ref a]) (EP X pins σ (fun v H' => ∃ n : Int, v = .int n ∧ 0 ≤ n ∧ n < 2 ^ 63 ∧ Q (.int n) H')) X.xe s := by
    refine wpAny_call (codeAny_mono (F X.A.in1 X.stack s H [.ref a] [.ref a] _ E hr.in1 I.env0.in1 (.cons rfl .nil) q) fun r s' hq => ?_)
    cases r with
    | error e => exact hx pins σ H s e s' I hq
    | ok fl =>
      cases fl with
      | ret u => exact I.after hq
      | next => exact False.elim hq
      | brk => exact False.elim hq
      | cont => exact False.elim hq
  refine Calls.call_function_entry kind_len plain_len entry_len (args_len1 _) ?_
  unfold Builtin.«len»
  refine wpAny_bind (m := oneArg "len" _) (wpAny_pure ?_)
  refine wpAny_bind (m := callSpecial? (.ref a) (Str.ofString "__len__")) (PySem.W.special_fn I.kIn J hs (beq_iff_eq.mp hf) (wpAny_mono hc (fun r s' hr => ?_) fun _ _ y => y))
  obtain ⟨v, H', I', rv, n, rfl, h0, h1, hq⟩ := hr
  obtain ⟨t, rfl⟩ := rv
  refine wpAny_bind (wpAny_holding (wpAny_pure ?_))
  refine wpAny_bind (wpAny_letGo ?_)
  show wpAny _ _ (if n < 0 then _ else _) _ _ _
  rw [if_neg (by omega)]
  show wpAny _ _ (if n ≥ 2 ^ 63 then _ else _) _ _ _
  rw [if_neg (by omega)]
  exact wpAny_bind (wpAny_mkInt (wpAny_pure ⟨_, rfl, ⟨.int n, H', I'.tok _, ⟨_, rfl⟩, hq⟩⟩))

/-! ### sum, max of a tuple of ints -/
def rSumT (K : PySem.W.Frag) : List V → Hp → VK → Prop := fun vs H Q => ∃ (a : Addr) (ns : List Int), vs = [V.ref a] ∧ SqT K H a (ns.map V.int) ∧ Q (.int ns.sum) H
def rMaxT (K : PySem.W.Frag) : List V → Hp → VK → Prop := fun vs H Q => ∃ (a : Addr) (ns : List Int), vs = [V.ref a] ∧ SqT K H a (ns.map V.int) ∧ 0 < ns.length ∧
  ∀ m, m ∈ ns → (∀ y, y ∈ ns → y ≤ m) → Q (.int m) H
theorem cr_sumT (hc : X.calm = true) : CallR X (.builtin "sum") (rSumT X.K) := by
  intro pins s σ H vs us Q I r h
  obtain ⟨a, ns, rfl, hs, q⟩ := h
  obtain ⟨its, rv, hl, _⟩ := I.tuple hs
  rw [Vals.ref1 r]
  have hi := rv.ints
  have hl' : s.heap.IsTuple a its.toArray := hl
  obtain ⟨xs, e⟩ := hi.allInts.items
  have hn : numsOf (intItems xs).toList = ns := by rw [← e]; exact hi.numsOf
  rw [nums_intItems] at hn
  rw [e] at hl'
  refine PySem.W.ktm_sumG (I.ok.hd hc) hl' fun h' tk t' hk => ?_
  have J : Inv X pins σ H { s with heap := h', toks := tk } := I.kept hk
  refine ⟨.int ns.sum, H, J, ⟨t', ?_⟩, q⟩
  rw [preSum_eq, List.take_of_length_le (by simp), hn]
theorem max_tup {prog : Program} {w : World} {A : Around} {E : Value → Shared → Prop} {s : Shared} {l : Addr} {xs : Array (Int × Tok)} {Q : Value → Shared → Prop} (hh : A.handled = none) (ht : s.heap.IsTuple l (intItems xs)) (hne : 0 < xs.size)
    (h : ∀ v h' tk, (intItems xs)[argBest (fun i j => decide (numAt xs i > numAt xs j)) (xs.size - 1)]? = some v → (∀ b o, s.heap.get? b = some o → h'.get? b = some o) → Q v { s with heap := h', toks := tk }) :
    wpAny (model prog w) A (call (.builtin "max") [.ref l]) Q E s := by
  obtain ⟨o, ho, hc, n, hd⟩ := id ht
  have hlt : l < s.heap.objs.size := Heap.lt_size ho
  refine call_max_walk (wpAny_pyIter_tuple ht ?_)
  refine ⟨s.heap.objs.size, _, _, _, _, _, _, rfl, Walks.tuple (A := A.in1) hh _ l (Nat.ne_of_lt hlt) (intItems xs), ⟨⟨_, Heap.get?_push_size _ rfl, rfl, rfl⟩, ht.at fun o e => Heap.get?_push_of_some _ e⟩, fun b hb => ?_, by simpa [intItems] using hne,
    CmpOf.ints_gt (numAt xs) (fun _ _ => intItems_at), fun v h' tk hP hk => ?_⟩
  · rcases List.mem_cons.mp hb with rfl | hb
    · exact Heap.lt_size (Heap.get?_push_size _ rfl)
    · obtain rfl := List.mem_singleton.mp hb
      exact Heap.lt_size (Heap.get?_push_of_some _ ho)
  · refine h v h' tk (by simpa [intItems] using hP) fun b o e => ?_
    refine hk b o (fun hm => ?_) (Heap.get?_push_of_some _ e)
    have := List.mem_singleton.mp hm
    exact absurd (this ▸ Heap.lt_size e) (Nat.lt_irrefl _)
theorem cr_maxT (hc : X.calm = true) : CallR X (.builtin "max") (rMaxT X.K) := by
  intro pins s σ H vs us Q I r h
  obtain ⟨a, ns, rfl, hs, hne, q⟩ := h
  obtain ⟨its, rv, hl, _⟩ := I.tuple hs
  rw [Vals.ref1 r]
  have hi := rv.ints
  have hl' : s.heap.IsTuple a its.toArray := hl
  obtain ⟨xs, e⟩ := hi.allInts.items
  have hn : numsOf (intItems xs).toList = ns := by rw [← e]; exact hi.numsOf
  rw [nums_intItems] at hn
  subst hn
  rw [e] at hl'
  have hsz : 0 < xs.size := by simpa using hne
  refine max_tup (I.ok.hd hc) hl' hsz fun v h' tk hv hk => ?_
  obtain ⟨t, rfl⟩ := intItems_at hv
  obtain ⟨h1, h2⟩ := argBest_gt (numAt xs) (xs.size - 1)
  refine ⟨.int _, H, I.kept hk, ⟨t, rfl⟩, q _ ?_ fun a ha => ?_⟩
  · rw [numAt_eq]; exact PySem.getD_mem (by rw [List.length_map, Array.length_toList]; omega)
  · obtain ⟨j, hj, rfl⟩ := mem_getD ha
    rw [List.length_map, Array.length_toList] at hj
    rw [← numAt_eq]; exact h2 j (by omega)
end

/-! ### enumerate(t), t a tuple -/
theorem meets_enumerate_newT (l : Addr) (items : Array Value) (n : Nat) (dct : Option Addr) (sl : Array (Option Value)) :
    Meets (Builtin.«enumerate.__new__» ⟨[.type "enumerate", .ref l], []⟩) (fun _ R s => s.heap.get? l = some { cls := .type "tuple", dict := dct, data := .seq items n, slots := sl } ∧
      R (.ok (.ret (.ref (s.heap.push { cls := .type "tuple_iterator", data := .fields #[.ref l, .int 0 0] }).objs.size)))
        { s with heap := (s.heap.push { cls := .type "tuple_iterator", data := .fields #[.ref l, .int 0 0] }).push { cls := .type "enumerate", data := .fields #[.none, .bool false, .ref s.heap.objs.size, rawInt 0, .none, .none] } }) :=
  .of_wp fun prog w A R s h => by
    obtain ⟨hp, g, d, tk, os⟩ := s; obtain ⟨hl, h⟩ := h
    have hsub := sub_enumerate
    have hL : Heap.IsTuple (Shared.heap ⟨hp, g, d, tk, os⟩) l items := ⟨_, hl, rfl, n, rfl⟩
    wp_walk using AutoSeq1.wpAny_loadPart' hl
    refine wpAny_stack_any fun st => wpAny_pure ?_
    split
    · rename_i c _ _ _ _ _
      cases (c == Value.type "enumerate")
      · wp_walk using AutoSeq1.wpAny_loadPart' hl, wpAny_pyIter_tuple hL
        exact ⟨_, rfl, h⟩
      · wp_walk using AutoSeq1.wpAny_loadPart' hl, wpAny_pyIter_tuple hL
        exact ⟨_, rfl, h⟩
    · wp_walk using AutoSeq1.wpAny_loadPart' hl, wpAny_pyIter_tuple hL
      exact ⟨_, rfl, h⟩
theorem call_enumerate_tuple {prog : Program} {w : World} {A : Around} {E : Value → Shared → Prop} {s : Shared} {l : Addr} {items : Array Value} {Q : Value → Shared → Prop} (hL : s.heap.IsTuple l items)
    (h : ∀ h', IsEnum h' (s.heap.objs.size + 1) s.heap.objs.size 0 .none → h'.IsTupleIter s.heap.objs.size l 0 → h'.objs.size = s.heap.objs.size + 2 →
      (∀ b o, s.heap.get? b = some o → h'.get? b = some o) → Q (.ref (s.heap.objs.size + 1)) { s with heap := h' }) :
    wpAny (model prog w) A (call (.type "enumerate") [.ref l]) Q E s := by
  obtain ⟨⟨c, dct, dt, sl⟩, hl, hc, n, hd⟩ := hL
  replace hc : c = .type "tuple" := hc
  replace hd : dt = .seq items n := hd
  subst hc hd
  refine callType_new F.called_enumerate (by decide) (F.typeCall_enumerate_1 _) (F.newCall_enumerate_1 _) (fun obj => F.args_object_init_2 obj _) F.entry_enumerate_new
    (meets_enumerate_newT l items n dct sl) ⟨hl, ?_⟩
  have hz : (s.heap.push { cls := .type "tuple_iterator", data := .fields #[.ref l, .int 0 0] }).objs.size = s.heap.objs.size + 1 := Heap.size_push ..
  show _ ∧ _
  rw [hz]
  have he : IsEnum ((s.heap.push { cls := .type "tuple_iterator", data := .fields #[.ref l, .int 0 0] }).push
      { cls := .type "enumerate", data := .fields #[.none, .bool false, .ref s.heap.objs.size, rawInt 0, .none, .none] }) (s.heap.objs.size + 1) s.heap.objs.size 0 .none := by
    have := Heap.get?_push_size (s.heap.push { cls := .type "tuple_iterator", data := .fields #[.ref l, .int 0 0] })
      (o := { cls := .type "enumerate", data := .fields #[.none, .bool false, .ref s.heap.objs.size, rawInt 0, .none, .none] }) rfl
    rw [hz] at this; exact this
  refine ⟨⟨_, he, rfl⟩, h _ he ⟨_, Heap.get?_push_of_some _ (Heap.get?_push_size _ rfl), rfl, rfl⟩ (by rw [Heap.size_push, hz]) fun b o x => Heap.get?_push_of_some _ (Heap.get?_push_of_some _ x)⟩

/-- the tuple at a, each item in a new pair with its number -/
def IteT (K : PySem.W.Frag) (a : Addr) : It :=
  ⟨fun i H => ∃ (xs : List V) (x : V), SqT K H a xs ∧ xs[i]? = some x, fun i H v H' => ∃ T x, v = .ref T ∧ H T = none ∧ H' = upd H T (.tup [.int (i : Nat), x]) ∧ ∀ xs, SqT K H a xs → xs[i]? = some x, fun i H => ∃ xs : List V, SqT K H a xs ∧ xs.length = i⟩
theorem turn_enumT {P : Program} {w : World} {K : PySem.W.Frag} {elts : List Expr} {kk : Nat} {tpos : Pos} (a e it : Addr) :
    Turn P w K (.Tuple elts kk tpos) (IteT K a) [e, it] e (fun i h => (∃ old, IsEnum h e it ((i : Nat) : Int) old) ∧ h.IsTupleIter it a i ∧ e ≠ it ∧ e ≠ a ∧ it ≠ a) where
  mem := by simp
  obj := fun i h st b hb => by
    obtain ⟨⟨old, he⟩, ⟨o, ho, hc, hd⟩, _⟩ := st
    have e' : b = e ∨ b = it := by simpa using hb
    rcases e' with z | z
    · rw [z]; exact ⟨_, he, fun v q => nomatch q⟩
    · rw [z]; exact ⟨o, ho, fun v q => by rw [hd] at q; cases q⟩
  keep := fun i h h' st k => let ⟨⟨old, he⟩, hi, hne⟩ := st; ⟨⟨old, k e (by simp) _ he⟩, hi.at fun o q => k it (by simp) o q, hne⟩
  item := by
    intro X hP hw hK hc i pins s σ H E I hf st hg
    subst hP hw hK
    obtain ⟨⟨old, he⟩, hit, hne, hea, hia⟩ := st
    obtain ⟨xs, x, hq, hx⟩ := hg
    obtain ⟨its, rv, p, hz⟩ := I.tuple hq
    obtain ⟨u, hu, ru⟩ := rv.get hx
    have hel : e < s.heap.objs.size := Heap.lt_size he
    have hil : it < s.heap.objs.size := by obtain ⟨_, q, _⟩ := hit; exact Heap.lt_size q
    have hlt : i < its.toArray.size := by
      have := (List.getElem?_eq_some_iff.mp hu).1
      simpa using this
    refine wpAny_pyNext_enum_itemC (Draws.tuple (prog := X.prog) (w := X.w) (A := X.A.in1) (I.ok.hd hc) it a (Ne.symm hia) its.toArray) he ⟨hit, p⟩ hlt hne (by simp [hne, hea]) fun x' h' tk hPx ho hst' hT hsz hk => ?_
    have ex : x' = u := by
      have h1 : its.toArray[i]? = some u := by simpa using hu
      exact Option.some.inj (hPx.symm.trans h1)
    subst ex
    obtain ⟨hit', _⟩ := hst'
    refine ⟨_, rfl, wpAny_letOwnedTupleGo_enum (s := { s with heap := h', toks := tk + 1 }) ho fun h'' he' sb => ?_⟩
    have hT2 : h''.get? s.heap.objs.size = some { cls := .type "tuple", data := .seq #[.int i tk, x'] } := (sb.2 _ (Nat.ne_of_gt hel)).trans hT
    have new : ObjOk X.prog X.w (upd H s.heap.objs.size (.tup [.int (i : Nat), x])) h'' s.heap.objs.size (.tup [.int (i : Nat), x]) :=
      ⟨by show 2 ≤ sizeLine; decide, [.int i tk, x'], .cons ⟨_, rfl⟩ (.cons ru .nil), ⟨_, hT2, rfl, _, rfl⟩⟩
    have I1 : Inv X pins σ (upd H s.heap.objs.size (.tup [.int (i : Nat), x])) { s with heap := h'', toks := tk + 1 } :=
      I.turnedNew (ch := [e, it]) (fun b ob hb q => (sb.2 b (fun z => hb (by simp [z]))).trans (hk b ob (fun z => hb (by simp [z])) (fun z => hb (by simp [z])) q)) hf (Nat.le_refl _) new
    refine ⟨.ref s.heap.objs.size, _, I1, rfl, ⟨_, x, rfl, I.hok.fresh (Nat.le_refl _), rfl, fun ys hy => by rw [I.tuple_inj hy hq]; exact hx⟩, ⟨⟨x', ?_⟩, hit'.at fun o q => (sb.2 it (Ne.symm hne)).trans q, hne, hea, hia⟩, fun b hb => ?_⟩
    · have e1 : ((i + 1 : Nat) : Int) = (i : Int) + 1 := by omega
      rw [e1]; exact he'
    · have hb' : b < s.heap.objs.size := by
        have e' : b = e ∨ b = it := by simpa using hb
        rcases e' with z | z
        · rw [z]; exact hel
        · rw [z]; exact hil
      rw [upd_ne (Nat.ne_of_lt hb')]
      exact (hf b hb).1
  done := by
    intro X hP hw hK hc i pins s σ H E I hf st hg
    subst hP hw hK
    obtain ⟨⟨old, he⟩, hit, hne, hea, hia⟩ := st
    obtain ⟨xs, hq, hx⟩ := hg
    obtain ⟨its, rv, p, hz⟩ := I.tuple hq
    obtain ⟨f0, f1, f2, f3, f4, f5⟩ := hf it (by simp)
    have hl := rv.length
    have hn : i = its.toArray.size := by simp; omega
    subst hn
    exact wpAny_pyNext_enum_endD (Draws.tuple (prog := X.prog) (w := X.w) (A := X.A.in1) (I.ok.hd hc) it a (Ne.symm hia) its.toArray) he ⟨hit, p⟩ fun h' eb => ⟨rfl, I.turned (t' := s.toks) (fun b o hb q => eb b o hb q) f0 f1 f3 f4 f5⟩
  self := fun A i s Q E st h => let ⟨⟨_, he⟩, _⟩ := st; wpAny_pyIter_enum he h
def iEnumT (K : PySem.W.Frag) (ta : TA) : TI := fun σ H R => ta σ H fun vs H1 => ∃ a xs, vs = [.ref a] ∧ SqT K H1 a xs ∧ R (IteT K a) H1
theorem pi_enumT {X : Cx} {e : Expr} {ta : TA} {p pos tpos : Pos} {elts : List Expr} {kk : Nat} (hg : Gl X "enumerate") (hm : X.mg "enumerate" = none) (ha : PA X [e] ta) (hs : starEach [e] X.env = [(false, eval e X.env)] := by rfl) :
    PI X (.Tuple elts kk tpos) (.Call (.Name "enumerate" p) [e] [] pos) (iEnumT X.K ta) := by
  refine ⟨fun pins s σ H R I h => ?_⟩
  refine Call_ (ld_blt I hg hm boot_enumerate (PyProof.Rows.callWith_type1 (thn (ha.run pos pins s σ H _ I h) fun us s1 ⟨vs, H1, I1, r1, q1⟩ => ?_) hs rfl))
  obtain ⟨a, xs, ex, hq, q⟩ := q1
  subst ex
  cases r1 with
  | cons r rr =>
    cases rr
    cases r
    obtain ⟨its, rv, p', hz⟩ := I1.tuple hq
    have la : a < s1.heap.objs.size := by obtain ⟨_, y, _⟩ := p'; exact Heap.lt_size y
    refine call_enumerate_tuple (show s1.heap.IsTuple a its.toArray from p') fun h' he hit hsz hk => wpAny_pyIter_enum he ?_
    have I2 : Inv X pins σ H1 { s1 with heap := h' } := I1.kept (t' := s1.toks) hk
    refine ⟨s1.heap.objs.size + 1, [s1.heap.objs.size + 1, s1.heap.objs.size], _, _, H1, rfl, I2, turn_enumT a (s1.heap.objs.size + 1) s1.heap.objs.size, ⟨⟨.none, he⟩, hit, Nat.succ_ne_self _, Nat.ne_of_gt (Nat.lt_succ_of_lt la), Nat.ne_of_gt la⟩, fun b hb => ?_, q⟩
    have e' : b = s1.heap.objs.size + 1 ∨ b = s1.heap.objs.size := by simpa using hb
    have hle : s1.heap.objs.size ≤ b := by
      rcases e' with z | z
      · rw [z]; exact Nat.le_add_right _ _
      · rw [z]; exact Nat.le_refl _
    exact I1.fpOk hle (I1.hok.fresh hle)
theorem walk_enumT {K : PySem.W.Frag} {a : Addr} {xs : List V} : Walk (IteT K a) xs.length (fun H => SqT K H a xs) (YPair (fun i => some (.int (i : Nat))) (fun i => xs[i]?)) := by
  refine ⟨fun i _ hi q => ⟨xs, xs[i], q, by simp [hi]⟩, fun _ q => ⟨xs, q, rfl⟩, fun i H v H' _ q y => ?_⟩
  obtain ⟨T, x, h1, h2, h3, h4⟩ := y
  exact ⟨T, .int (i : Nat), x, h1, h2, h3, rfl, h4 xs q⟩
/-! ### f(e, ..), f an instance: a reading that speaks of no context -/
def tCallI (C : Addr) (sp : Sp) (E : XK) (tf : TE) (t : TA) : TE := fun σ H Q => tf σ H fun y H1 => ∃ a, y = V.ref a ∧ t σ H1 fun vs H2 => (∃ dx fs, H2 a = some (.ins C dx fs)) ∧ sp (V.ref a :: vs) H2 Q E
theorem pe_callI {X : Cx} {CX : CXT} {k : Nat} {C g : Addr} {sp : Sp} {E : XK} {fe e : Expr} {es : List Expr} {tf : TE} {t : TA} {pos : Pos} (hf : PE X fe tf) (c : StX.CallO X.K C g) (F : FnR X.prog X.w X.K X.mg X.base CX k g sp) (hr : Room k X.A) (hx : Passes CX X E) (ha : PA X (e :: es) t)
    (ht : eval (.Call fe (e :: es) [] pos) X.env = (do callWith pos (← eval fe X.env) [] (backTo pos (starEach (e :: es) X.env)) (backToKw pos (keywordEach [] X.env))) := by rfl)
    (he : starEach (e :: es) X.env = (false, eval e X.env) :: starEach es X.env := by rfl) (hpl : (backTo pos (starEach es X.env)).any (·.1) = false := by rfl) : PE X (.Call fe (e :: es) [] pos) (tCallI C sp E tf t) := by
  refine ⟨fun pins s σ H Q I h => ?_⟩
  refine Call_ (thn (hf.run pins s σ H _ I h) fun u s1 ⟨y, H1, I1, ry, a, ey, q⟩ => ?_) ht
  subst ey
  obtain rfl : u = Value.ref a := ry
  refine StX.callO_with (thn (ha.run pos pins s1 σ H1 _ I1 q) fun us s2 ⟨vs, H2, I2, r, hi, q2⟩ => ?_) he hpl
  have hi' : StX.InsC X H2 a C := .inr hi
  obtain ⟨ox, od, J, hd⟩ := StX.insC_at I2 hi'
  exact ⟨⟨C, ox, od, J, hd⟩, StX.run_callO c F hr hx I2 hi' r q2⟩
end Rz
/-! The mathematics of a ring: the ends as the greatest sum over chains, Bellman's equation, where ends repeat. -/
namespace Rm
/-- f r + f (r - 1) + .. , k terms -/
def sumBack (f : Int → Int) (r : Int) : Nat → Int
  | 0 => 0
  | k + 1 => sumBack f r k + f (r - k)
/-- the greatest of f r .. f (r - k) -/
def maxBack (f : Int → Int) (r : Int) : Nat → Int
  | 0 => f r
  | k + 1 => max (maxBack f r k) (f (r - (k + 1 : Nat)))
theorem sum_front (f : Int → Int) : ∀ (k : Nat) (r : Int), sumBack f r (k + 1) = f r + sumBack f (r - 1) k
  | 0, r => by simp [sumBack]
  | k + 1, r => by
    show sumBack f r (k + 1) + f (r - (k + 1 : Nat)) = f r + (sumBack f (r - 1) k + f (r - 1 - k))
    rw [sum_front f k r, show r - ((k + 1 : Nat) : Int) = r - 1 - k by omega]
    omega
theorem max_front (f : Int → Int) : ∀ (k : Nat) (r : Int), maxBack f r (k + 1) = max (f r) (maxBack f (r - 1) k)
  | 0, r => by simp [maxBack]
  | k + 1, r => by
    show max (maxBack f r (k + 1)) (f (r - (k + 1 + 1 : Nat))) = max (f r) (max (maxBack f (r - 1) k) (f (r - 1 - (k + 1 : Nat))))
    rw [max_front f k r, show r - ((k + 1 + 1 : Nat) : Int) = r - 1 - (k + 1 : Nat) by omega]
    omega
theorem sum_add (f : Int → Int) (r : Int) (k : Nat) : ∀ n : Nat, sumBack f r (k + n) = sumBack f r k + sumBack f (r - k) n
  | 0 => by simp [sumBack]
  | n + 1 => by
    show sumBack f r (k + n) + f (r - (k + n : Nat)) = sumBack f r k + (sumBack f (r - k) n + f (r - k - n))
    rw [sum_add f r k n, show r - ((k + n : Nat) : Int) = r - k - n by omega]
    omega
theorem sum_mono {f : Int → Int} (h : ∀ i, 0 ≤ f i) (r : Int) {j k : Nat} (hjk : j ≤ k) : sumBack f r j ≤ sumBack f r k := by
  induction k with
  | zero =>
    have : j = 0 := by omega
    subst this
    exact Int.le_refl _
  | succ k ih =>
    by_cases e : j = k + 1
    · subst e
      exact Int.le_refl _
    · have := ih (by omega)
      have h2 := h (r - k)
      show sumBack f r j ≤ sumBack f r k + f (r - k)
      omega
theorem sum_nn {f : Int → Int} (h : ∀ i, 0 ≤ f i) (r : Int) (k : Nat) : 0 ≤ sumBack f r k := sum_mono h r (Nat.zero_le k)
theorem max_ge {f : Int → Int} (r : Int) : ∀ {j k : Nat}, j ≤ k → f (r - j) ≤ maxBack f r k
  | j, 0, h => by
    have : j = 0 := by omega
    subst this
    simp [maxBack]
  | j, k + 1, h => by
    show f (r - j) ≤ max (maxBack f r k) (f (r - (k + 1 : Nat)))
    by_cases e : j = k + 1
    · subst e
      omega
    · have := max_ge (f := f) r (j := j) (k := k) (by omega)
      omega
theorem max_le {f : Int → Int} {M : Int} (h : ∀ i, f i ≤ M) (r : Int) : ∀ k : Nat, maxBack f r k ≤ M
  | 0 => h r
  | k + 1 => by
    have h1 := max_le h r k
    have h2 := h (r - (k + 1 : Nat))
    show max (maxBack f r k) (f (r - (k + 1 : Nat))) ≤ M
    omega
theorem max_mono {f : Int → Int} (r : Int) {j k : Nat} (h : j ≤ k) : maxBack f r j ≤ maxBack f r k := by
  induction k with
  | zero =>
    have : j = 0 := by omega
    subst this
    exact Int.le_refl _
  | succ k ih =>
    by_cases e : j = k + 1
    · subst e
      exact Int.le_refl _
    · have := ih (by omega)
      show maxBack f r j ≤ max (maxBack f r k) (f (r - (k + 1 : Nat)))
      omega

/-- readers in a ring: days, books at first, all books, all days, the slowest -/
structure Ring (N : Nat) (d s : Int → Int) (B T M : Int) : Prop where
  pos : 0 < N
  dper : ∀ i t : Int, d (i + N * t) = d i
  sper : ∀ i t : Int, s (i + N * t) = s i
  d1 : ∀ i, 1 ≤ d i
  s0 : ∀ i, 0 ≤ s i
  b : ∀ r, sumBack s r N = B
  b1 : 1 ≤ B
  t : ∀ r, sumBack d r N = T
  mu : ∀ i, d i ≤ M
  ma : ∃ i, d i = M

/-- the sum of the chain from reading x of reader r that goes k readers back -/
def ch (d s : Int → Int) (r : Int) (k : Nat) (x : Int) : Int := sumBack d r (k + 1) + (x - sumBack s r k) * maxBack d r k
/-- e is the greatest of them -/
def IsEnd (d s : Int → Int) (r x e : Int) : Prop := (∀ k, sumBack s r k ≤ x → ch d s r k x ≤ e) ∧ ∃ k, sumBack s r k ≤ x ∧ ch d s r k x = e
theorem IsEnd.inj {d s : Int → Int} {r x e e' : Int} (h : IsEnd d s r x e) (h' : IsEnd d s r x e') : e = e' := by
  obtain ⟨k, h1, h2⟩ := h.2
  obtain ⟨k', h1', h2'⟩ := h'.2
  have := h.1 k' h1'
  have := h'.1 k h1
  omega

section
variable {N : Nat} {d s : Int → Int} {B T M : Int} (R : Ring N d s B T M)
include R
theorem Ring.sumS (r : Int) (k : Nat) : ∀ m : Nat, sumBack s r (k + m * N) = sumBack s r k + m * B
  | 0 => by simp
  | m + 1 => by
    rw [show k + (m + 1) * N = k + m * N + N by rw [Nat.add_mul, Nat.one_mul, Nat.add_assoc], sum_add, Ring.sumS r k m, R.b, show ((m + 1 : Nat) : Int) = (m : Int) + 1 by omega, Int.add_mul]
    omega
theorem Ring.sumD (r : Int) (k : Nat) : ∀ m : Nat, sumBack d r (k + m * N) = sumBack d r k + m * T
  | 0 => by simp
  | m + 1 => by
    rw [show k + (m + 1) * N = k + m * N + N by rw [Nat.add_mul, Nat.one_mul, Nat.add_assoc], sum_add, Ring.sumD r k m, R.t, show ((m + 1 : Nat) : Int) = (m : Int) + 1 by omega, Int.add_mul]
    omega
theorem Ring.maxM (r : Int) {k : Nat} (h : N ≤ k + 1) : maxBack d r k = M := by
  obtain ⟨i, hi⟩ := R.ma
  have hN := R.pos
  have h0 : 0 ≤ (r - i) % (N : Int) := Int.emod_nonneg _ (by omega)
  have h1 : (r - i) % (N : Int) < N := Int.emod_lt_of_pos _ (by omega)
  have e : r - (((r - i) % (N : Int)).toNat : Nat) = i + N * ((r - i) / (N : Int)) := by
    have := Int.emod_add_mul_ediv (r - i) (N : Int)
    omega
  have h2 := max_ge (f := d) r (j := ((r - i) % (N : Int)).toNat) (k := k) (by omega)
  rw [e, R.dper, hi] at h2
  have h3 := max_le R.mu r k
  omega
theorem Ring.M1 : 1 ≤ M := by
  obtain ⟨i, hi⟩ := R.ma
  have := R.d1 i
  omega
theorem Ring.round (r x : Int) (k : Nat) {m : Nat} (hm : 1 ≤ m) : ch d s r (k + m * N) x = sumBack d r (k + 1) + (x - sumBack s r k) * M + m * (T - B * M) := by
  unfold ch
  have e1 : sumBack d r (k + m * N + 1) = sumBack d r (k + 1) + m * T := by
    rw [show k + m * N + 1 = k + 1 + m * N by omega, R.sumD]
  have e2 : N ≤ k + m * N + 1 := by
    have : 1 * N ≤ m * N := Nat.mul_le_mul_right N hm
    omega
  rw [e1, R.sumS, R.maxM r e2]
  have e3 : (x - (sumBack s r k + m * B)) * M = (x - sumBack s r k) * M - m * (B * M) := by
    rw [show x - (sumBack s r k + m * B) = (x - sumBack s r k) - m * B by omega, Int.sub_mul, Int.mul_assoc]
  rw [e3, Int.mul_sub]
  omega
end

/-- what the loop over the first i readers back has found -/
def Sofar (N : Nat) (d s : Int → Int) (r x : Int) (i : Nat) (L : Int) : Prop :=
  (∀ j m : Nat, j < i → sumBack s r (j + m * N) ≤ x → ch d s r (j + m * N) x ≤ L) ∧ ((i = 0 ∧ L = 0) ∨ ∃ k, sumBack s r k ≤ x ∧ ch d s r k x = L)
section
variable {N : Nat} {d s : Int → Int} {B T M : Int} (R : Ring N d s B T M)
include R
theorem Ring.ch_pos (r x : Int) (k : Nat) (h : sumBack s r k ≤ x) : 1 ≤ ch d s r k x := by
  unfold ch
  have h1 : d (r - k) ≤ sumBack d r (k + 1) := by
    have := sum_nn (f := d) (fun i => by have := R.d1 i; omega) r k
    show d (r - k) ≤ sumBack d r k + d (r - k)
    omega
  have h2 := R.d1 (r - k)
  have h3 : 0 ≤ maxBack d r k := by
    have := max_ge (f := d) r (j := 0) (k := k) (Nat.zero_le _)
    have := R.d1 (r - (0 : Nat))
    omega
  have h4 := Int.mul_nonneg (show 0 ≤ x - sumBack s r k by omega) h3
  omega
theorem Ring.step {r x L : Int} {i : Nat} (P : Sofar N d s r x i L) (hl : sumBack s r i ≤ x) {L2 : Int}
    (h2 : L2 = if B ≤ x - sumBack s r i then max (max L (ch d s r i x)) (sumBack d r (i + 1) + (x - sumBack s r i) * M + (if 0 < T - B * M then (x - sumBack s r i) / B else 1) * (T - B * M)) else max L (ch d s r i x)) :
    Sofar N d s r x (i + 1) L2 := by
  have P1 := P.1
  have hB := R.b1
  have hge : max L (ch d s r i x) ≤ L2 := by
    rw [h2]
    split <;> omega
  have key : ∀ m : Nat, 1 ≤ m → sumBack s r (i + m * N) ≤ x → ch d s r (i + m * N) x ≤ L2 := by
    intro m hm hv
    rw [R.round r x i hm]
    rw [R.sumS] at hv
    have hmB : (1 : Int) * B ≤ m * B := Int.mul_le_mul_of_nonneg_right (by omega) (by omega)
    have hBl : B ≤ x - sumBack s r i := by omega
    rw [if_pos hBl] at h2
    have hc : (m : Int) * (T - B * M) ≤ (if 0 < T - B * M then (x - sumBack s r i) / B else 1) * (T - B * M) := by
      split
      · rename_i hg
        refine Int.mul_le_mul_of_nonneg_right ?_ (by omega)
        exact (Int.le_ediv_iff_mul_le (by omega)).mpr (by omega)
      · rename_i hg
        have h5 : (0 : Int) ≤ ((m : Int) - 1) * (-(T - B * M)) := Int.mul_nonneg (by omega) (by omega)
        rw [Int.sub_mul, Int.mul_neg] at h5
        omega
    omega
  refine ⟨fun j m hj hv => ?_, ?_⟩
  · by_cases e : j = i
    · subst e
      cases m with
      | zero =>
        have e0 : j + 0 * N = j := by omega
        rw [e0]
        omega
      | succ m => exact key (m + 1) (by omega) hv
    · have := P1 j m (by omega) hv
      omega
  · right
    have hcp := R.ch_pos r x i hl
    have hL : ∃ k, sumBack s r k ≤ x ∧ ch d s r k x = max L (ch d s r i x) := by
      rcases P.2 with ⟨h0, hL0⟩ | ⟨k, hk, hk2⟩
      · exact ⟨i, hl, by omega⟩
      · by_cases hh : ch d s r i x ≤ L
        · exact ⟨k, hk, by omega⟩
        · exact ⟨i, hl, by omega⟩
    by_cases hBl : B ≤ x - sumBack s r i
    · rw [if_pos hBl] at h2
      -- the candidate of whole rounds is a chain too
      have hcand : ∃ k, sumBack s r k ≤ x ∧ ch d s r k x = sumBack d r (i + 1) + (x - sumBack s r i) * M + (if 0 < T - B * M then (x - sumBack s r i) / B else 1) * (T - B * M) := by
        by_cases hg : 0 < T - B * M
        · rw [if_pos hg]
          have hq1 : 1 ≤ (x - sumBack s r i) / B := (Int.le_ediv_iff_mul_le (by omega)).mpr (by omega)
          have hq2 : (x - sumBack s r i) / B * B ≤ x - sumBack s r i := Int.ediv_mul_le _ (by omega)
          have hqn : ((((x - sumBack s r i) / B).toNat : Nat) : Int) = (x - sumBack s r i) / B := by omega
          refine ⟨i + ((x - sumBack s r i) / B).toNat * N, ?_, ?_⟩
          · rw [R.sumS, hqn]
            omega
          · rw [R.round r x i (by omega), hqn]
        · rw [if_neg hg]
          refine ⟨i + 1 * N, ?_, ?_⟩
          · rw [R.sumS]
            omega
          · rw [R.round r x i (by omega)]
            simp
      obtain ⟨k1, a1, a2⟩ := hL
      obtain ⟨k2, c1, c2⟩ := hcand
      by_cases hh : max L (ch d s r i x) ≤ sumBack d r (i + 1) + (x - sumBack s r i) * M + (if 0 < T - B * M then (x - sumBack s r i) / B else 1) * (T - B * M)
      · exact ⟨k2, c1, by rw [c2, h2]; omega⟩
      · exact ⟨k1, a1, by rw [a2, h2]; omega⟩
    · rw [if_neg hBl] at h2
      rw [h2]
      exact hL
theorem Ring.fin {r x L : Int} {i : Nat} (P : Sofar N d s r x i L) (hi : i = N ∨ (0 < i ∧ x < sumBack s r i)) : IsEnd d s r x L := by
  have P1 := P.1
  have hN := R.pos
  refine ⟨fun k hk => ?_, ?_⟩
  · have ek : k = k % N + k / N * N := by
      have := Nat.mod_add_div k N
      rw [Nat.mul_comm] at this
      exact this.symm
    rw [ek] at hk ⊢
    refine P1 _ _ ?_ hk
    rcases hi with hi | ⟨_, hi⟩
    · rw [hi]
      exact Nat.mod_lt _ hN
    · rcases Nat.lt_or_ge (k % N) i with h | h
      · exact h
      · have := sum_mono R.s0 r h
        have h2 := R.sumS r (k % N) (k / N)
        have h3 : (0 : Int) ≤ ((k / N : Nat) : Int) * B := Int.mul_nonneg (Int.natCast_nonneg _) (by have := R.b1; omega)
        omega
  · rcases P.2 with ⟨h0, _⟩ | h
    · rcases hi with hi | ⟨hi, _⟩ <;> omega
    · exact h
theorem Ring.sofar0 (r x : Int) : Sofar N d s r x 0 0 := ⟨fun _ _ h => absurd h (Nat.not_lt_zero _), .inl ⟨rfl, rfl⟩⟩
theorem Ring.ends (r : Int) {x : Int} (hx : 0 ≤ x) : ∃ e, IsEnd d s r x e := by
  have go : ∀ n i L, i + n = N → sumBack s r i ≤ x → Sofar N d s r x i L → ∃ e, IsEnd d s r x e := by
    intro n
    induction n with
    | zero =>
      intro i L hi _ P
      exact ⟨L, R.fin P (.inl (by omega))⟩
    | succ n ih =>
      intro i L hi hl P
      have P' := R.step P hl rfl
      by_cases h : sumBack s r (i + 1) ≤ x
      · exact ih (i + 1) _ (by omega) h P'
      · exact ⟨_, R.fin P' (.inr ⟨by omega, by omega⟩)⟩
  exact go N 0 0 (by omega) (by show (0 : Int) ≤ x; exact hx) (R.sofar0 r x)
end
/-- the day on which reading x of reader r ends -/
noncomputable def E (d s : Int → Int) (r x : Int) : Int := open Classical in if h : ∃ e, IsEnd d s r x e then Classical.choose h else 0
section
variable {N : Nat} {d s : Int → Int} {B T M : Int} (R : Ring N d s B T M)
include R
theorem Ring.isE (r : Int) {x : Int} (hx : 0 ≤ x) : IsEnd d s r x (E d s r x) := by
  have h := R.ends r hx
  unfold E
  rw [dif_pos h]
  exact Classical.choose_spec h
theorem Ring.E_of {r x e : Int} (h : IsEnd d s r x e) : E d s r x = e := by
  have h' : ∃ e, IsEnd d s r x e := ⟨e, h⟩
  unfold E
  rw [dif_pos h']
  exact (Classical.choose_spec h').inj h
theorem Ring.E_per (r x t : Int) : E d s (r + N * t) x = E d s r x := by
  have hs : ∀ k, sumBack s (r + N * t) k = sumBack s r k := by
    intro k
    induction k with
    | zero => rfl
    | succ k ih =>
      show sumBack s (r + N * t) k + s (r + N * t - k) = sumBack s r k + s (r - k)
      rw [ih, show r + N * t - k = (r - k) + N * t by omega, R.sper]
  have hd : ∀ k, sumBack d (r + N * t) k = sumBack d r k := by
    intro k
    induction k with
    | zero => rfl
    | succ k ih =>
      show sumBack d (r + N * t) k + d (r + N * t - k) = sumBack d r k + d (r - k)
      rw [ih, show r + N * t - k = (r - k) + N * t by omega, R.dper]
  have hm : ∀ k, maxBack d (r + N * t) k = maxBack d r k := by
    intro k
    induction k with
    | zero => exact R.dper r t
    | succ k ih =>
      show max (maxBack d (r + N * t) k) (d (r + N * t - (k + 1 : Nat))) = max (maxBack d r k) (d (r - (k + 1 : Nat)))
      rw [ih, show r + N * t - ((k + 1 : Nat) : Int) = (r - (k + 1 : Nat)) + N * t by omega, R.dper]
  have he : IsEnd d s (r + N * t) x = IsEnd d s r x := by
    funext e
    unfold IsEnd ch
    simp only [hs, hd, hm]
  unfold E
  rw [he]
theorem Ring.E_mod (r x : Int) : E d s (r % N) x = E d s r x := by
  have h := R.E_per (r % N) x (r / N)
  rw [Int.emod_add_mul_ediv] at h
  exact h.symm
theorem Ring.ub (r : Int) {x : Int} (hx : 0 ≤ x) (k : Nat) (h : sumBack s r k ≤ x) : ch d s r k x ≤ E d s r x := (R.isE r hx).1 k h
theorem Ring.att (r : Int) {x : Int} (hx : 0 ≤ x) : ∃ k, sumBack s r k ≤ x ∧ ch d s r k x = E d s r x := (R.isE r hx).2
theorem Ring.low (r : Int) {x : Int} (hx : 0 ≤ x) : (x + 1) * d r ≤ E d s r x := by
  have h := R.ub r hx 0 hx
  have e : ch d s r 0 x = (x + 1) * d r := by
    unfold ch
    show 0 + d (r - (0 : Nat)) + (x - 0) * d r = _
    rw [show r - ((0 : Nat) : Int) = r by omega, Int.add_mul]
    simp
    omega
  omega
theorem Ring.E1 (r : Int) {x : Int} (hx : 0 ≤ x) : d r ≤ E d s r x := by
  have h := R.low r hx
  have h2 : (0 : Int) ≤ x * d r := Int.mul_nonneg hx (by have := R.d1 r; omega)
  rw [Int.add_mul] at h
  omega
/-- Bellman, from below -/
theorem Ring.next (r : Int) {x : Int} (hx : 0 ≤ x) : E d s r x + d r ≤ E d s r (x + 1) := by
  obtain ⟨k, hk, e⟩ := R.att r hx
  have h := R.ub r (x := x + 1) (by omega) k (by omega)
  have h2 := max_ge (f := d) r (j := 0) (k := k) (Nat.zero_le _)
  rw [show r - ((0 : Nat) : Int) = r by omega] at h2
  unfold ch at h e
  have e3 : (x + 1 - sumBack s r k) * maxBack d r k = (x - sumBack s r k) * maxBack d r k + maxBack d r k := by
    rw [show x + 1 - sumBack s r k = (x - sumBack s r k) + 1 by omega, Int.add_mul]
    omega
  omega
theorem Ring.from (r : Int) {x : Int} (hs : s r ≤ x) : E d s (r - 1) (x - s r) + d r ≤ E d s r x := by
  have hx : 0 ≤ x - s r := by omega
  have hx0 : 0 ≤ x := by have := R.s0 r; omega
  obtain ⟨k, hk, e⟩ := R.att (r - 1) hx
  have hS : sumBack s r (k + 1) = s r + sumBack s (r - 1) k := sum_front s k r
  have h := R.ub r hx0 (k + 1) (by omega)
  unfold ch at h e
  rw [sum_front d (k + 1) r, hS, max_front d k r] at h
  have e2 : x - (s r + sumBack s (r - 1) k) = x - s r - sumBack s (r - 1) k := by omega
  rw [e2] at h
  have h4 : (x - s r - sumBack s (r - 1) k) * maxBack d (r - 1) k ≤ (x - s r - sumBack s (r - 1) k) * max (d r) (maxBack d (r - 1) k) :=
    Int.mul_le_mul_of_nonneg_left (by omega) (by omega)
  omega
/-- .. from above -/
theorem Ring.bell (r : Int) {x : Int} (hx : 0 ≤ x) : E d s r x = d r ∨ (1 ≤ x ∧ E d s r x = E d s r (x - 1) + d r) ∨ (s r ≤ x ∧ E d s r x = E d s (r - 1) (x - s r) + d r) := by
  obtain ⟨k, hk, e⟩ := R.att r hx
  cases k with
  | zero =>
    have e0 : ch d s r 0 x = d r + x * d r := by
      unfold ch
      show 0 + d (r - (0 : Nat)) + (x - 0) * d r = _
      rw [show r - ((0 : Nat) : Int) = r by omega]
      simp
    by_cases h0 : x = 0
    · left
      subst h0
      simp at e0
      omega
    · right; left
      refine ⟨by omega, ?_⟩
      have h1 := R.ub r (x := x - 1) (by omega) 0 (by show (0 : Int) ≤ x - 1; omega)
      have e1 : ch d s r 0 (x - 1) = x * d r := by
        unfold ch
        show 0 + d (r - (0 : Nat)) + (x - 1 - 0) * d r = _
        rw [show r - ((0 : Nat) : Int) = r by omega, show x - 1 - 0 = x - 1 by omega, Int.sub_mul]
        omega
      have h2 := R.next r (x := x - 1) (by omega)
      rw [show x - 1 + 1 = x by omega] at h2
      omega
  | succ k =>
    have hS : sumBack s r (k + 1) = s r + sumBack s (r - 1) k := sum_front s k r
    have hnn := sum_nn R.s0 (r - 1) k
    have hsr : s r ≤ x := by omega
    have h1 := R.ub (r - 1) (x := x - s r) (by omega) k (by omega)
    have h3 := R.from r hsr
    have e' := e
    unfold ch at e' h1
    rw [sum_front d (k + 1) r, hS, max_front d k r, show x - (s r + sumBack s (r - 1) k) = x - s r - sumBack s (r - 1) k by omega] at e'
    by_cases hm : d r ≤ maxBack d (r - 1) k
    · right; right
      refine ⟨hsr, ?_⟩
      rw [show max (d r) (maxBack d (r - 1) k) = maxBack d (r - 1) k by omega] at e'
      omega
    · rw [show max (d r) (maxBack d (r - 1) k) = d r by omega] at e'
      by_cases hl : x - s r - sumBack s (r - 1) k = 0
      · right; right
        refine ⟨hsr, ?_⟩
        rw [hl] at e' h1
        simp at e' h1
        omega
      · right; left
        have hx1 : 1 ≤ x := by have := R.s0 r; omega
        refine ⟨hx1, ?_⟩
        have h5 := R.ub r (x := x - 1) (by omega) (k + 1) (by omega)
        unfold ch at h5
        rw [sum_front d (k + 1) r, hS, max_front d k r, show max (d r) (maxBack d (r - 1) k) = d r by omega,
          show x - 1 - (s r + sumBack s (r - 1) k) = (x - s r - sumBack s (r - 1) k) - 1 by omega, Int.sub_mul] at h5
        have h2 := R.next r (x := x - 1) (by omega)
        rw [show x - 1 + 1 = x by omega] at h2
        omega
end
end Rm
/-! Where ends repeat; counts by a day; heaps. -/
namespace Rm
def Rep (d s : Int → Int) (p q x : Int) : Prop := ∀ r, E d s r (x + p) = E d s r x + q
section
variable {N : Nat} {d s : Int → Int} {B T M : Int} (R : Ring N d s B T M)
include R
theorem Ring.T0 : 0 ≤ T := by
  have h := sum_nn (f := d) (fun i => by have := R.d1 i; omega) 0 N
  rw [R.t] at h
  exact h
theorem Ring.BM0 : 0 ≤ B * M := Int.mul_nonneg (by have := R.b1; omega) (by have := R.M1; omega)
theorem Ring.S_le (r : Int) {k m : Nat} (h : k ≤ m * N) : sumBack s r k ≤ m * B := by
  have h1 := sum_mono R.s0 r h
  have h2 := R.sumS r 0 m
  rw [Nat.zero_add] at h2
  rw [h2] at h1
  show sumBack s r k ≤ m * B
  have : sumBack s r 0 = 0 := rfl
  omega
/-- one more unit of x -/
theorem ch_succ (d s : Int → Int) (r : Int) (k : Nat) (x y : Int) : ch d s r k (x + y) = ch d s r k x + y * maxBack d r k := by
  unfold ch
  rw [show x + y - sumBack s r k = (x - sumBack s r k) + y by omega, Int.add_mul]
  omega
theorem Ring.rep_slow (hg : T ≤ B * M) {x : Int} (hx : 4 * B + B * M ≤ x) : Rep d s 1 M x := by
  intro r
  have hB := R.b1
  have hT := R.T0
  have hBM := R.BM0
  have hM := R.M1
  have hx0 : 0 ≤ x := by omega
  apply Int.le_antisymm
  · obtain ⟨k, hk, e⟩ := R.att r (x := x + 1) (by omega)
    by_cases hv : sumBack s r k ≤ x
    · have h1 := R.ub r hx0 k hv
      rw [ch_succ R d s r k x 1] at e
      have h2 := max_le R.mu r k
      omega
    · have hkN : 2 * N ≤ k := by
        rcases Nat.lt_or_ge k (2 * N) with h | h
        · have := R.S_le r (k := k) (m := 2) (by omega)
          omega
        · exact h
      obtain ⟨k', rfl⟩ : ∃ k', k = k' + 1 * N := ⟨k - 1 * N, by omega⟩
      rw [R.round r (x + 1) k' (by omega)] at e
      rw [R.sumS] at hk hv
      have h1 := R.ub r hx0 k' (by omega)
      unfold ch at h1
      rw [R.maxM r (k := k') (by omega)] at h1
      rw [show x + 1 - sumBack s r k' = (x - sumBack s r k') + 1 by omega, Int.add_mul] at e
      omega
  · obtain ⟨k, hk, e⟩ := R.att r hx0
    by_cases hm : maxBack d r k = M
    · have h1 := R.ub r (x := x + 1) (by omega) k (by omega)
      rw [ch_succ R d s r k x 1, hm] at h1
      omega
    · have hkN : k + 1 < N := by
        rcases Nat.lt_or_ge (k + 1) N with h | h
        · exact h
        · exact absurd (R.maxM r h) hm
      have hS := R.S_le r (k := k) (m := 1) (by omega)
      have h1 := R.ub r (x := x + 1) (by omega) (k + 1 * N) (by rw [R.sumS]; omega)
      rw [R.round r (x + 1) k (by omega)] at h1
      have h2 := max_le R.mu r k
      unfold ch at e
      have h3 : (x - sumBack s r k) * (maxBack d r k + 1) ≤ (x - sumBack s r k) * M := Int.mul_le_mul_of_nonneg_left (by omega) (by omega)
      rw [Int.mul_add] at h3
      rw [show x + 1 - sumBack s r k = (x - sumBack s r k) + 1 by omega, Int.add_mul] at h1
      omega
theorem Ring.rep_fast (hg : B * M < T) {x : Int} (hx : 4 * B + B * M ≤ x) : Rep d s B T x := by
  intro r
  have hB := R.b1
  have hBM := R.BM0
  have hx0 : 0 ≤ x := by omega
  apply Int.le_antisymm
  · obtain ⟨k, hk, e⟩ := R.att r (x := x + B) (by omega)
    by_cases hkN : 2 * N ≤ k + 1
    · obtain ⟨k', rfl⟩ : ∃ k', k = k' + 1 * N := ⟨k - 1 * N, by have := R.pos; omega⟩
      rw [R.round r (x + B) k' (by omega)] at e
      rw [R.sumS] at hk
      have h1 := R.ub r hx0 k' (by omega)
      unfold ch at h1
      rw [R.maxM r (k := k') (by omega)] at h1
      rw [show x + B - sumBack s r k' = (x - sumBack s r k') + B by omega, Int.add_mul] at e
      omega
    · have hS := R.S_le r (k := k) (m := 2) (by omega)
      have h1 := R.ub r hx0 (k + 1 * N) (by rw [R.sumS]; omega)
      rw [R.round r x k (by omega)] at h1
      unfold ch at e
      have h2 := max_le R.mu r k
      have h3 : (x + B - sumBack s r k) * maxBack d r k ≤ (x + B - sumBack s r k) * M := Int.mul_le_mul_of_nonneg_left h2 (by omega)
      rw [show x + B - sumBack s r k = (x - sumBack s r k) + B by omega, Int.add_mul, Int.add_mul] at h3
      rw [show x + B - sumBack s r k = (x - sumBack s r k) + B by omega, Int.add_mul] at e
      omega
  · obtain ⟨k, hk, e⟩ := R.att r hx0
    have h1 := R.ub r (x := x + B) (by omega) (k + 1 * N) (by rw [R.sumS]; omega)
    rw [R.round r (x + B) k (by omega)] at h1
    have h2 := max_le R.mu r k
    unfold ch at e
    have h3 : (x - sumBack s r k) * maxBack d r k ≤ (x - sumBack s r k) * M := Int.mul_le_mul_of_nonneg_left h2 (by omega)
    rw [show x + B - sumBack s r k = (x - sumBack s r k) + B by omega, Int.add_mul] at h1
    omega
theorem Ring.claim {p q m r : Int} (hp : 1 ≤ p) (hm : 1 ≤ m) (hsm : s r ≤ m) (h1 : E d s r (m - 1 + p) = E d s r (m - 1) + q) (h2 : E d s (r - 1) (m - s r + p) = E d s (r - 1) (m - s r) + q) : E d s r (m + p) = E d s r m + q := by
  have n1 := R.next r (x := m - 1) (by omega)
  have n2 := R.next r (x := m - 1 + p) (by omega)
  have f1 := R.from r (x := m) hsm
  have f2 := R.from r (x := m + p) (by omega)
  have b1 := R.bell r (x := m) (by omega)
  have b2 := R.bell r (x := m + p) (by omega)
  have e1 := R.E1 r (x := m - 1) (by omega)
  have e2 := R.E1 r (x := m - 1 + p) (by omega)
  have d1 := R.d1 r
  rw [show m - 1 + 1 = m by omega] at n1
  rw [show m - 1 + p + 1 = m + p by omega] at n2
  rw [show m + p - s r = m - s r + p by omega] at f2 b2
  rw [show m + p - 1 = m - 1 + p by omega] at b2
  rcases b1 with b1 | ⟨_, b1⟩ | ⟨_, b1⟩ <;> rcases b2 with b2 | ⟨_, b2⟩ | ⟨_, b2⟩ <;> omega
/-- as many in a row as the greatest number of books at first: then all later ones -/
theorem Ring.later {w p q n : Int} (hw : ∀ i, s i ≤ w) (hw1 : ∃ i, s i = w) (w1 : 1 ≤ w) (hp : 1 ≤ p) (hn : 0 ≤ n) (h : ∀ j, 0 ≤ j → j < w → Rep d s p q (n + j)) : ∀ m, n ≤ m → Rep d s p q m := by
  have go : ∀ k : Nat, ∀ m, n ≤ m → m - n < k → Rep d s p q m := by
    intro k
    induction k with
    | zero => intro m h1 h2; omega
    | succ k ih =>
      intro m h1 h2
      by_cases hmw : m < n + w
      · have := h (m - n) (by omega) (by omega)
        rw [show n + (m - n) = m by omega] at this
        exact this
      · obtain ⟨r0, hr0⟩ := hw1
        -- around the ring from r0
        have around : ∀ j : Nat, E d s (r0 + j) (m + p) = E d s (r0 + j) m + q := by
          intro j
          induction j with
          | zero =>
            have hs := hw r0
            refine R.claim hp (by omega) (by rw [show r0 + ((0 : Nat) : Int) = r0 by omega]; omega) (ih (m - 1) (by omega) (by omega) _) ?_
            rw [show r0 + ((0 : Nat) : Int) = r0 by omega]
            exact ih (m - s r0) (by omega) (by omega) _
          | succ j ihj =>
            have hs := hw (r0 + (j + 1 : Nat))
            have hs0 := R.s0 (r0 + (j + 1 : Nat))
            refine R.claim hp (by omega) (by omega) (ih (m - 1) (by omega) (by omega) _) ?_
            rw [show r0 + ((j + 1 : Nat) : Int) - 1 = r0 + j by omega]
            by_cases hz : s (r0 + (j + 1 : Nat)) = 0
            · rw [hz, show m - 0 = m by omega]
              exact ihj
            · exact ih (m - s (r0 + (j + 1 : Nat))) (by omega) (by omega) _
        intro r
        have hN := R.pos
        have a0 : 0 ≤ (r - r0) % (N : Int) := Int.emod_nonneg _ (by omega)
        have h3 := around ((r - r0) % (N : Int)).toNat
        have e3 : r0 + ((((r - r0) % (N : Int)).toNat : Nat) : Int) = r + N * (-((r - r0) / (N : Int))) := by
          have := Int.emod_add_mul_ediv (r - r0) (N : Int)
          rw [Int.mul_neg]
          omega
        rw [e3, R.E_per, R.E_per] at h3
        exact h3
  intro m hm
  exact go ((m - n).toNat + 1) m hm (by omega)
theorem Ring.rounds {p q n : Int} (hp : 1 ≤ p) (h : ∀ m, n ≤ m → Rep d s p q m) (r : Int) {x : Int} (hx : n ≤ x) : ∀ k : Nat, E d s r (x + k * p) = E d s r x + k * q
  | 0 => by simp
  | k + 1 => by
    have ih := Ring.rounds hp h r hx k
    have h0 : (0 : Int) ≤ (k : Int) * p := Int.mul_nonneg (Int.natCast_nonneg _) (by omega)
    have h1 := h (x + k * p) (by omega) r
    rw [show ((k + 1 : Nat) : Int) = (k : Int) + 1 by omega, Int.add_mul, Int.add_mul, Int.one_mul, Int.one_mul, ← Int.add_assoc, h1, ih]
    omega
theorem Ring.mono (r : Int) {x : Int} (hx : 0 ≤ x) : ∀ k : Nat, E d s r x + (k + 1) * d r ≤ E d s r (x + (k + 1))
  | 0 => by
    have := R.next r hx
    simpa using this
  | k + 1 => by
    have ih := Ring.mono r hx k
    have h1 := R.next r (x := x + (k + 1)) (by omega)
    rw [show ((k + 1 : Nat) : Int) = (k : Int) + 1 by omega, show x + ((k : Int) + 1 + 1) = x + ((k : Int) + 1) + 1 by omega, Int.add_mul ((k : Int) + 1) 1]
    omega
theorem Ring.lt (r : Int) {x y : Int} (hx : 0 ≤ x) (h : x < y) : E d s r x + d r ≤ E d s r y := by
  have h1 := R.mono r hx (y - x - 1).toNat
  rw [show ((((y - x - 1).toNat : Nat) : Int) + 1) = y - x by omega, show x + (y - x) = y by omega] at h1
  have h2 : (1 : Int) * d r ≤ (y - x) * d r := Int.mul_le_mul_of_nonneg_right (by omega) (by have := R.d1 r; omega)
  omega
theorem Ring.le (r : Int) {x y : Int} (hx : 0 ≤ x) (h : x ≤ y) : E d s r x ≤ E d s r y := by
  by_cases e : x = y
  · subst e
    exact Int.le_refl _
  · have := R.lt r hx (show x < y by omega)
    have := R.d1 r
    omega
end

/-- c readings of reader r have ended by day D -/
def Cnt (d s : Int → Int) (r D c : Int) : Prop := 0 ≤ c ∧ (c = 0 ∨ E d s r (c - 1) ≤ D) ∧ D < E d s r c
noncomputable def Cn (d s : Int → Int) (r D : Int) : Int := open Classical in if h : ∃ c, Cnt d s r D c then Classical.choose h else 0
section
variable {N : Nat} {d s : Int → Int} {B T M : Int} (R : Ring N d s B T M)
include R
theorem Ring.cnt_inj {r D c c' : Int} (h : Cnt d s r D c) (h' : Cnt d s r D c') : c = c' := by
  obtain ⟨a0, a1, a2⟩ := h
  obtain ⟨b0, b1, b2⟩ := h'
  rcases Int.lt_trichotomy c c' with z | z | z
  · have := R.le r (x := c) (y := c' - 1) a0 (by omega)
    omega
  · exact z
  · have := R.le r (x := c') (y := c - 1) b0 (by omega)
    omega
theorem Ring.cnt_ex (r D : Int) : ∃ c, Cnt d s r D c := by
  have go : ∀ n : Nat, D < E d s r n → ∃ c, Cnt d s r D c := by
    intro n
    induction n with
    | zero => intro h; exact ⟨0, by omega, .inl rfl, h⟩
    | succ n ih =>
      intro h
      by_cases hh : E d s r n ≤ D
      · exact ⟨((n + 1 : Nat) : Int), by omega, .inr (by rw [show ((n + 1 : Nat) : Int) - 1 = n by omega]; exact hh), h⟩
      · exact ih (by omega)
  refine go D.toNat ?_
  have h := R.low r (x := (D.toNat : Nat)) (by omega)
  have h2 : (((D.toNat : Nat) : Int) + 1) * 1 ≤ (((D.toNat : Nat) : Int) + 1) * d r := Int.mul_le_mul_of_nonneg_left (R.d1 r) (by omega)
  omega
theorem Ring.cn (r D : Int) : Cnt d s r D (Cn d s r D) := by
  have h := R.cnt_ex r D
  unfold Cn
  rw [dif_pos h]
  exact Classical.choose_spec h
theorem Ring.cn_of {r D c : Int} (h : Cnt d s r D c) : Cn d s r D = c := R.cnt_inj (R.cn r D) h
theorem Ring.cn_per (r D t : Int) : Cn d s (r + N * t) D = Cn d s r D := by
  refine R.cn_of ?_
  have h := R.cn r D
  unfold Cnt at h ⊢
  rw [R.E_per, R.E_per]
  exact h
theorem Ring.cn_mod (r D : Int) : Cn d s (r % N) D = Cn d s r D := by
  have h := R.cn_per (r % N) D (r / N)
  rw [Int.emod_add_mul_ediv] at h
  exact h.symm
theorem Ring.cn_end (r : Int) {x : Int} (hx : 0 ≤ x) : Cn d s r (E d s r x) = x + 1 := by
  refine R.cn_of ⟨by omega, .inr (by rw [show x + 1 - 1 = x by omega]; exact Int.le_refl _), ?_⟩
  have := R.lt r hx (show x < x + 1 by omega)
  have := R.d1 r
  omega
theorem Ring.cn_before (r : Int) {x : Int} (hx : 0 ≤ x) : Cn d s r (E d s r x - 1) = x := by
  refine R.cn_of ⟨hx, ?_, by omega⟩
  by_cases h : x = 0
  · exact .inl h
  · right
    have := R.lt r (x := x - 1) (y := x) (by omega) (by omega)
    have := R.d1 r
    omega
theorem Ring.cn_next (r D : Int) : Cn d s r D ≤ Cn d s r (D + d r) ∧ Cn d s r (D + d r) ≤ Cn d s r D + 1 := by
  obtain ⟨a0, a1, a2⟩ := R.cn r D
  obtain ⟨b0, b1, b2⟩ := R.cn r (D + d r)
  have d1 := R.d1 r
  constructor
  · rcases Int.lt_or_le (Cn d s r (D + d r)) (Cn d s r D) with z | z
    · rcases a1 with a1 | a1
      · omega
      · have := R.le r (x := Cn d s r (D + d r)) (y := Cn d s r D - 1) b0 (by omega)
        omega
    · exact z
  · rcases Int.lt_or_le (Cn d s r D + 1) (Cn d s r (D + d r)) with z | z
    · rcases b1 with b1 | b1
      · omega
      · have := R.lt r (x := Cn d s r D) (y := Cn d s r (D + d r) - 1) a0 (by omega)
        omega
    · exact z
/-- a reader who has a book and is not reading begins -/
theorem Ring.cn_reads {r D : Int} (hD : 0 ≤ D) (h : Cn d s r D < s r + Cn d s (r - 1) D) : Cn d s r D + 1 ≤ Cn d s r (D + d r) := by
  obtain ⟨a0, a1, a2⟩ := R.cn r D
  obtain ⟨b0, b1, b2⟩ := R.cn r (D + d r)
  obtain ⟨c0, c1, c2⟩ := R.cn (r - 1) D
  have hs := R.s0 r
  rcases Int.lt_or_le (Cn d s r (D + d r)) (Cn d s r D + 1) with z | z
  · have h1 := R.le r (x := Cn d s r (D + d r)) (y := Cn d s r D) b0 (by omega)
    have b := R.bell r (x := Cn d s r D) a0
    rcases b with b | ⟨h2, b⟩ | ⟨h2, b⟩
    · omega
    · rcases a1 with a1 | a1 <;> omega
    · rcases c1 with c1 | c1
      · omega
      · have h3 := R.le (r - 1) (x := Cn d s r D - s r) (y := Cn d s (r - 1) D - 1) (by omega) (by omega)
        omega
  · exact z
end
theorem sum_lin (f g h : Int → Int) (r : Int) : ∀ n : Nat, sumBack (fun j => f j + g (j - 1) - h j) r n = sumBack f r n + sumBack g (r - 1) n - sumBack h r n
  | 0 => by simp [sumBack]
  | n + 1 => by
    show sumBack (fun j => f j + g (j - 1) - h j) r n + (f (r - n) + g (r - n - 1) - h (r - n)) = sumBack f r n + f (r - n) + (sumBack g (r - 1) n + g (r - 1 - n)) - (sumBack h r n + h (r - n))
    rw [sum_lin f g h r n, show r - 1 - (n : Int) = r - n - 1 by omega]
    omega
theorem sum_win {f : Int → Int} {N : Nat} (hp : ∀ i t : Int, f (i + N * t) = f i) (r : Int) : sumBack f (r - 1) N = sumBack f r N := by
  have h1 := sum_front f N r
  have h2 : sumBack f r (N + 1) = sumBack f r N + f (r - N) := rfl
  have h3 := hp (r - N) 1
  rw [show r - (N : Int) + N * 1 = r by omega] at h3
  omega
theorem sum_le {f g : Int → Int} (h : ∀ i, f i ≤ g i) (r : Int) : ∀ n : Nat, sumBack f r n ≤ sumBack g r n
  | 0 => Int.le_refl _
  | n + 1 => by
    have h1 := sum_le h r n
    have h2 := h (r - n)
    show sumBack f r n + f (r - n) ≤ sumBack g r n + g (r - n)
    omega
theorem sum_lt {f g : Int → Int} (h : ∀ i, f i ≤ g i) (r : Int) : ∀ {n j : Nat}, j < n → f (r - j) < g (r - j) → sumBack f r n < sumBack g r n
  | 0, j, hj, _ => absurd hj (Nat.not_lt_zero _)
  | n + 1, j, hj, hh => by
    show sumBack f r n + f (r - n) < sumBack g r n + g (r - n)
    by_cases e : j = n
    · subst e
      have := sum_le h r j
      omega
    · have h1 := sum_lt h r (n := n) (j := j) (by omega) hh
      have h2 := h (r - n)
      omega
theorem sum_shift (f : Int → Int) (r c : Int) : ∀ n : Nat, sumBack (fun i => f i + c) r n = sumBack f r n + n * c
  | 0 => by simp [sumBack]
  | n + 1 => by
    show sumBack (fun i => f i + c) r n + (f (r - n) + c) = sumBack f r n + f (r - n) + ((n + 1 : Nat) : Int) * c
    rw [sum_shift f r c n, show ((n + 1 : Nat) : Int) = (n : Int) + 1 by omega, Int.add_mul]
    omega
section
variable {N : Nat} {d s : Int → Int} {B T M : Int} (R : Ring N d s B T M)
include R
/-- the heaps of a day, all together: fewer than all books, as at least one is being read; at most one a reader is -/
theorem Ring.heaps {D : Int} (hD : 0 ≤ D) (r : Int) : B - N ≤ sumBack (fun j => s j + Cn d s (j - 1) D - Cn d s j (D + d j)) r N ∧ sumBack (fun j => s j + Cn d s (j - 1) D - Cn d s j (D + d j)) r N < B := by
  rw [sum_lin s (fun j => Cn d s j D) (fun j => Cn d s j (D + d j)) r N, R.b, sum_win (f := fun j => Cn d s j D) (N := N) (fun i t => R.cn_per i D t)]
  have h1 := sum_le (f := fun j => Cn d s j D) (g := fun j => Cn d s j (D + d j)) (fun i => (R.cn_next i D).1) r N
  have h2 := sum_le (f := fun j => Cn d s j (D + d j)) (g := fun j => Cn d s j D + 1) (fun i => (R.cn_next i D).2) r N
  rw [sum_shift (fun j => Cn d s j D) r 1 N] at h2
  refine ⟨by omega, ?_⟩
  -- someone reads
  have some_reads : ∃ j : Nat, j < N ∧ Cn d s (r - j) D < Cn d s (r - j) (D + d (r - j)) := by
    apply Classical.byContradiction
    intro hno
    have hall : ∀ j : Nat, j < N → s (r - j) + Cn d s (r - j - 1) D ≤ Cn d s (r - j) D := by
      intro j hj
      apply Classical.byContradiction
      intro hh
      have := R.cn_reads (r := r - j) hD (by omega)
      exact hno ⟨j, hj, by omega⟩
    have go : ∀ n : Nat, n ≤ N → sumBack s r n + sumBack (fun j => Cn d s j D) (r - 1) n ≤ sumBack (fun j => Cn d s j D) r n := by
      intro n
      induction n with
      | zero => intro _; show (0 : Int) + 0 ≤ 0; omega
      | succ n ih =>
        intro hn
        have h3 := ih (by omega)
        have h4 := hall n (by omega)
        show sumBack s r n + s (r - n) + (sumBack (fun j => Cn d s j D) (r - 1) n + Cn d s (r - 1 - n) D) ≤ sumBack (fun j => Cn d s j D) r n + Cn d s (r - n) D
        rw [show r - 1 - (n : Int) = r - n - 1 by omega]
        omega
    have h5 := go N (Nat.le_refl _)
    rw [R.b, sum_win (f := fun j => Cn d s j D) (N := N) (fun i t => R.cn_per i D t)] at h5
    have := R.b1
    omega
  obtain ⟨j, hj, hjr⟩ := some_reads
  have h6 := sum_lt (f := fun j => Cn d s j D) (g := fun j => Cn d s j (D + d j)) (fun i => (R.cn_next i D).1) r hj hjr
  omega
end

/-! ### from lists -/
/-- round the list, from any index -/
def at' (l : List Int) (i : Int) : Int := l.getD (i % (l.length : Int)).toNat 0
theorem at_per (l : List Int) (i t : Int) : at' l (i + (l.length : Int) * t) = at' l i := by
  unfold at'
  rw [Int.add_mul_emod_self_left]
theorem at_nat {l : List Int} {j : Nat} {v : Int} (h : l[j]? = some v) : at' l (j : Int) = v := by
  have hj := (List.getElem?_eq_some_iff.mp h).1
  unfold at'
  rw [Int.emod_eq_of_lt (by omega) (by omega), List.getD_eq_getElem?_getD, Int.toNat_natCast, h]
  rfl
theorem at_mem {l : List Int} (hl : 0 < l.length) (i : Int) : at' l i ∈ l := by
  unfold at'
  have h0 : 0 ≤ i % (l.length : Int) := Int.emod_nonneg _ (by omega)
  have h1 : i % (l.length : Int) < l.length := Int.emod_lt_of_pos _ (by omega)
  rw [List.getD_eq_getElem?_getD, List.getElem?_eq_getElem (show (i % (l.length : Int)).toNat < l.length by omega)]
  exact List.getElem_mem _
theorem mem_at {l : List Int} {v : Int} (h : v ∈ l) : ∃ i, at' l i = v := by
  obtain ⟨j, hj, e⟩ := List.getElem_of_mem h
  exact ⟨j, at_nat (by rw [List.getElem?_eq_getElem hj, e])⟩
theorem sum_list (l : List Int) : sumBack (at' l) ((l.length : Int) - 1) l.length = l.sum := by
  have go : ∀ n : Nat, n ≤ l.length → sumBack (at' l) ((n : Int) - 1) n = (l.take n).sum := by
    intro n
    induction n with
    | zero => intro _; simp [sumBack]
    | succ n ih =>
      intro hn
      rw [show ((n + 1 : Nat) : Int) - 1 = n by omega, sum_front, ih (by omega), List.take_add_one, List.sum_append, at_nat (List.getElem?_eq_getElem (show n < l.length by omega)), List.getElem?_eq_getElem (show n < l.length by omega)]
      simp
      omega
  have h := go l.length (Nat.le_refl _)
  rw [List.take_length] at h
  exact h
theorem sum_any {f : Int → Int} {N : Nat} (hp : ∀ i t : Int, f (i + N * t) = f i) (p q : Int) : sumBack f p N = sumBack f q N := by
  have go : ∀ (n : Nat) (r : Int), sumBack f (r - n) N = sumBack f r N := by
    intro n
    induction n with
    | zero => intro r; rw [show r - ((0 : Nat) : Int) = r by omega]
    | succ n ih =>
      intro r
      rw [show r - ((n + 1 : Nat) : Int) = r - n - 1 by omega, sum_win hp, ih]
  rcases Int.le_total p q with h | h
  · have := go (q - p).toNat q
    rw [show q - ((q - p).toNat : Int) = p by omega] at this
    exact this
  · have := go (p - q).toNat p
    rw [show p - ((p - q).toNat : Int) = q by omega] at this
    exact this.symm
theorem ring_of {ds ss : List Int} {M : Int} (hl : 0 < ds.length) (hls : ss.length = ds.length) (h1 : ∀ y ∈ ds, 1 ≤ y) (h2 : ∀ y ∈ ss, 0 ≤ y) (hB : 1 ≤ ss.sum) (hM : M ∈ ds) (hMu : ∀ y ∈ ds, y ≤ M) :
    Ring ds.length (at' ds) (at' ss) ss.sum ds.sum M where
  pos := hl
  dper := at_per ds
  sper := by rw [← hls]; exact at_per ss
  d1 := fun i => h1 _ (at_mem hl i)
  s0 := fun i => h2 _ (at_mem (by omega) i)
  b := fun r => by
    rw [sum_any (f := at' ss) (N := ds.length) (by rw [← hls]; exact at_per ss) r ((ss.length : Int) - 1), ← hls]
    exact sum_list ss
  b1 := hB
  t := fun r => by
    rw [sum_any (f := at' ds) (N := ds.length) (at_per ds) r ((ds.length : Int) - 1)]
    exact sum_list ds
  mu := fun i => hMu _ (at_mem hl i)
  ma := mem_at hM
end Rm
/-! An own exception class with its own __init__, which calls its own base's. -/
namespace Rp
open PySem PySem.Spec PyProof.Rows L2
/-- the slots that a class over ValueError has -/
def oxS : List (Option Value) → Bool
  | [_, _, _, _, some (.builtin n), _] => n == "ValueError.__new__"
  | _ => false
/-- the record of such a class -/
def oxO (C : Addr) : Obj → Bool
  | ⟨.type t, _, .cls cd, sl⟩ => t == "type" && cd.hasDict && !cd.hasDel && oxS sl.toList && (match cd.mro with
    | .ref c :: r => c == C && PySem.HandSPX.refsVE r
    | _ => false)
  | _ => false
def oxB (K : PySem.W.Frag) (C : Addr) : Bool := (K.lookup C).any (oxO C) && (decide (PySem.W.findIn K (.ref C) "__setattr__" = some (some (.builtin "object.__setattr__"))) && (decide (PySem.W.subIn K (.ref C) (.type "BaseException") = some true) && (decide (PySem.W.typeIn K (.ref C) = some (.type "type")) && PySem.W.keepIn K (.ref C))))
theorem oxB_ok {K : PySem.W.Frag} {C : Addr} (h : oxB K C = true) : OexC K C := by
  unfold oxB at h
  simp only [Bool.and_eq_true, decide_eq_true_eq] at h
  obtain ⟨h0, h1, h2, h3, h4⟩ := h
  refine ⟨?_, h1, h2, h3, h4⟩
  cases e : K.lookup C with
  | none => rw [e] at h0; cases h0
  | some o =>
    rw [e] at h0
    have h0 : oxO C o = true := h0
    unfold oxO at h0
    split at h0
    · rename_i t dd cd sl q0
      simp only [Bool.and_eq_true, beq_iff_eq, Bool.not_eq_true'] at h0
      obtain ⟨⟨⟨⟨rfl, hd⟩, hl⟩, hs⟩, hm⟩ := h0
      unfold oxS at hs
      split at hs
      · rename_i k0 k1 k2 k3 n k5 es
        have hn : n = "ValueError.__new__" := beq_iff_eq.mp hs
        subst hn
        split at hm
        · rename_i c r em
          simp only [Bool.and_eq_true, beq_iff_eq] at hm
          obtain ⟨rfl, hr⟩ := hm
          obtain ⟨nm, bs, mro, ns, qn, hdct, sn, sub, ab, col, del⟩ := cd
          have hd : hdct = true := hd
          have hl : del = false := hl
          have em : mro = _ := em
          subst hd hl em
          have esl : sl = #[k0, k1, k2, k3, some (.builtin "ValueError.__new__"), k5] := by
            obtain ⟨l⟩ := sl
            simp only at es
            rw [es]
          subst esl
          exact ⟨nm, qn, ns, bs, r, sn, sub, ab, col, dd, k0, k1, k2, k3, k5, rfl, hr⟩
        · cases hm
      · cases hs
    · cases h0
section
variable {X : Cx} {e : Expr} {es : List Expr} {ta : TA} {p1 p2 pos : Pos}
/-- Base.__init__(self, ..), Base an own class over ValueError -/
theorem pe_reinit {pl : Sem Bool} {x : Str} {B : Addr} {mc : Value} (hg : Gl X x) (hm : X.mg x = some (.ref B)) (r : ClX.CRead X.K B mc) (vV : PySem.W.findCls X.K (.ref B) mc "__init__" = some (.val (.builtin "ValueError.__init__"))) (ha : PA X (e :: es) ta)
    (hc : eval (.Call (.Attribute (.Name x p1) "__init__" p2) (e :: es) [] pos) X.env = (do
      let ov ← eval (.Name x p1) X.env
      standAt p2.atName
      let (f, first) ← holding [ov] (getMethod ov "__init__" pl)
      callWith pos f first (backTo pos (starEach (e :: es) X.env)) (backToKw pos (keywordEach [] X.env))) := by rfl)
    (hdb : (x == ("__debug__" : Str)) = false := by decide) (he : starEach (e :: es) X.env = (false, eval e X.env) :: starEach es X.env := by rfl) (hpl : (backTo pos (starEach es X.env)).any (·.1) = false := by rfl) :
    PE X (.Call (.Attribute (.Name x p1) "__init__" p2) (e :: es) [] pos) (tVeI X.K ta) := by
  refine ⟨fun pins s σ H Q I h => ?_⟩
  refine PySem.W.methodCall_KW (ld_glob I hg hm ?_ hdb) hc
  refine PySem.W.method_cls I.kIn r.ga (PySem.W.cls_value I.kIn r.rd vV (by decide +kernel) ?_)
  show wpAny _ _ (callWith pos (Value.builtin "ValueError.__init__") [] (backTo pos (starEach (e :: es) X.env)) []) _ _ _
  refine PyProof.Rows.callWith_method1 (thn (ha.run pos pins _ σ H _ (I.tok _) h) fun us s1 ⟨vs, H1, I1, r1, a, C, ws, ev, hl, T, ea, q⟩ => ?_) he hpl
  subst ev
  cases r1 with
  | @cons _ u0 _ ur ra rw' =>
    obtain rfl : u0 = Value.ref a := ra
    exact oinit_ok T I1 ea (by rw [← Paired.length rw', sizeLine_eq]; omega) fun s' J => ⟨.non, H1, J, rfl, q⟩
end
end Rp
namespace Rp
open PySem PySem.Spec PyProof.Rows L2
def topS (i : Nat) : Stmt := PySem.Challenge.pw_readingring_k43_diaries.main.body.getD i (.Pass ⟨0, 0, 0, 0⟩)
abbrev s_iDiaryError : Stmt := inClass (topS 9) 0
abbrev s_is_number : Stmt := topS 16
abbrev s_lies_between : Stmt := topS 17
abbrev s_check_number : Stmt := topS 18
abbrev s_check_reader : Stmt := topS 19
abbrev s_rinit : Stmt := inClass (topS 25) 0
abbrev s_rdays : Stmt := inClass (topS 25) 2
abbrev s_rstarts : Stmt := inClass (topS 25) 3
abbrev s_rbooks : Stmt := inClass (topS 25) 4
abbrev s_rpace : Stmt := inClass (topS 25) 5
abbrev s_rlen : Stmt := inClass (topS 25) 7
abbrev s_rcall : Stmt := inClass (topS 25) 10
abbrev s_check_part : Stmt := topS 26
abbrev s_end_day : Stmt := topS 27
abbrev s_book_of : Stmt := topS 29
abbrev s_reader_before : Stmt := topS 30
abbrev s_diary_of : Stmt := topS 33
abbrev s_mended : Stmt := topS 34
abbrev s_can_be : Stmt := topS 35
abbrev s_is_same_number : Stmt := topS 36
abbrev s_ltaken : Stmt := topS 38
abbrev s_lalike : Stmt := topS 39
abbrev s_lraised : Stmt := topS 40
abbrev s_lpair : Stmt := topS 41
abbrev s_lbegun : Stmt := topS 42
abbrev s_lfirst : Stmt := topS 43
abbrev s_lnext : Stmt := topS 44
abbrev s_ltorn : Stmt := topS 45
abbrev s_lchanged : Stmt := topS 46
abbrev s_law : Stmt := topS 47
abbrev N_iDiaryError : List Str := ["self", "entry"]
abbrev P_iDiaryError : List Str := ["self", "entry"]
theorem sc_iDiaryError : FnScope N_iDiaryError P_iDiaryError (defScope s_iDiaryError) := ⟨rfl, rfl, rfl, by decide +kernel, rfl, by decide +kernel, by decide +kernel⟩
abbrev N_is_number : List Str := ["value"]
abbrev P_is_number : List Str := ["value"]
theorem sc_is_number : FnScope N_is_number P_is_number (defScope s_is_number) := ⟨rfl, rfl, rfl, by decide +kernel, rfl, by decide +kernel, by decide +kernel⟩
abbrev N_lies_between : List Str := ["value", "low", "high"]
abbrev P_lies_between : List Str := ["value", "low", "high"]
theorem sc_lies_between : FnScope N_lies_between P_lies_between (defScope s_lies_between) := ⟨rfl, rfl, rfl, by decide +kernel, rfl, by decide +kernel, by decide +kernel⟩
abbrev N_check_number : List Str := ["value", "low", "high"]
abbrev P_check_number : List Str := ["value", "low", "high"]
theorem sc_check_number : FnScope N_check_number P_check_number (defScope s_check_number) := ⟨rfl, rfl, rfl, by decide +kernel, rfl, by decide +kernel, by decide +kernel⟩
abbrev N_check_reader : List Str := ["ring", "reader"]
abbrev P_check_reader : List Str := ["ring", "reader"]
theorem sc_check_reader : FnScope N_check_reader P_check_reader (defScope s_check_reader) := ⟨rfl, rfl, rfl, by decide +kernel, rfl, by decide +kernel, by decide +kernel⟩
abbrev N_rinit : List Str := ["self", "days", "starts"]
abbrev P_rinit : List Str := ["self", "days", "starts"]
theorem sc_rinit : FnScope N_rinit P_rinit (defScope s_rinit) := ⟨rfl, rfl, rfl, by decide +kernel, rfl, by decide +kernel, by decide +kernel⟩
abbrev N_rdays : List Str := ["self"]
abbrev P_rdays : List Str := ["self"]
theorem sc_rdays : FnScope N_rdays P_rdays (defScope s_rdays) := ⟨rfl, rfl, rfl, by decide +kernel, rfl, by decide +kernel, by decide +kernel⟩
abbrev N_rstarts : List Str := ["self"]
abbrev P_rstarts : List Str := ["self"]
theorem sc_rstarts : FnScope N_rstarts P_rstarts (defScope s_rstarts) := ⟨rfl, rfl, rfl, by decide +kernel, rfl, by decide +kernel, by decide +kernel⟩
abbrev N_rbooks : List Str := ["self"]
abbrev P_rbooks : List Str := ["self"]
theorem sc_rbooks : FnScope N_rbooks P_rbooks (defScope s_rbooks) := ⟨rfl, rfl, rfl, by decide +kernel, rfl, by decide +kernel, by decide +kernel⟩
abbrev N_rpace : List Str := ["self"]
abbrev P_rpace : List Str := ["self"]
theorem sc_rpace : FnScope N_rpace P_rpace (defScope s_rpace) := ⟨rfl, rfl, rfl, by decide +kernel, rfl, by decide +kernel, by decide +kernel⟩
abbrev N_rlen : List Str := ["self"]
abbrev P_rlen : List Str := ["self"]
theorem sc_rlen : FnScope N_rlen P_rlen (defScope s_rlen) := ⟨rfl, rfl, rfl, by decide +kernel, rfl, by decide +kernel, by decide +kernel⟩
abbrev N_rcall : List Str := ["self", "reader", "number"]
abbrev P_rcall : List Str := ["self", "reader", "number"]
theorem sc_rcall : FnScope N_rcall P_rcall (defScope s_rcall) := ⟨rfl, rfl, rfl, by decide +kernel, rfl, by decide +kernel, by decide +kernel⟩
abbrev N_check_part : List Str := ["part", "values", "limits", "lengths", "low", "high", "fewest", "most", "index", "value"]
abbrev P_check_part : List Str := ["part", "values", "limits", "lengths"]
theorem sc_check_part : FnScope N_check_part P_check_part (defScope s_check_part) := ⟨rfl, rfl, rfl, by decide +kernel, rfl, by decide +kernel, by decide +kernel⟩
abbrev N_end_day : List Str := ["ring", "reader", "number", "books", "slowest", "gain", "latest", "total", "slowest_met", "left", "step", "rounds"]
abbrev P_end_day : List Str := ["ring", "reader", "number"]
theorem sc_end_day : FnScope N_end_day P_end_day (defScope s_end_day) := ⟨rfl, rfl, rfl, by decide +kernel, rfl, by decide +kernel, by decide +kernel⟩
abbrev N_book_of : List Str := ["ring", "reader", "number", "place"]
abbrev P_book_of : List Str := ["ring", "reader", "number"]
theorem sc_book_of : FnScope N_book_of P_book_of (defScope s_book_of) := ⟨rfl, rfl, rfl, by decide +kernel, rfl, by decide +kernel, by decide +kernel⟩
abbrev N_reader_before : List Str := ["ring", "reader"]
abbrev P_reader_before : List Str := ["ring", "reader"]
theorem sc_reader_before : FnScope N_reader_before P_reader_before (defScope s_reader_before) := ⟨rfl, rfl, rfl, by decide +kernel, rfl, by decide +kernel, by decide +kernel⟩
abbrev N_diary_of : List Str := ["ring", "count", "numbers", "ends", "_", "day", "reader"]
abbrev P_diary_of : List Str := ["ring", "count"]
theorem sc_diary_of : GScope N_diary_of P_diary_of (defScope s_diary_of) := ⟨rfl, rfl, rfl, by decide +kernel, rfl, by decide +kernel, by decide +kernel⟩
abbrev N_mended : List Str := ["ring", "diary", "many", "entries", "index", "torn"]
abbrev P_mended : List Str := ["ring", "diary"]
theorem sc_mended : FnScope N_mended P_mended (defScope s_mended) := ⟨rfl, rfl, rfl, by decide +kernel, rfl, by decide +kernel, by decide +kernel⟩
abbrev N_can_be : List Str := ["torn", "entry", "item", "number"]
abbrev P_can_be : List Str := ["torn", "entry"]
theorem sc_can_be : FnScope N_can_be P_can_be (defScope s_can_be) := ⟨rfl, rfl, rfl, by decide +kernel, rfl, by decide +kernel, by decide +kernel⟩
abbrev N_is_same_number : List Str := ["value", "number"]
abbrev P_is_same_number : List Str := ["value", "number"]
theorem sc_is_same_number : FnScope N_is_same_number P_is_same_number (defScope s_is_same_number) := ⟨rfl, rfl, rfl, by decide +kernel, rfl, by decide +kernel, by decide +kernel⟩
abbrev N_ltaken : List Str := ["_law_row", "_law_many", "_law_found", "_law_cell"]
abbrev P_ltaken : List Str := ["_law_row", "_law_many"]
theorem sc_ltaken : FnScope N_ltaken P_ltaken (defScope s_ltaken) := ⟨rfl, rfl, rfl, by decide +kernel, rfl, by decide +kernel, by decide +kernel⟩
abbrev N_lalike : List Str := ["_law_one", "_law_due", "_law_k"]
abbrev P_lalike : List Str := ["_law_one", "_law_due"]
theorem sc_lalike : FnScope N_lalike P_lalike (defScope s_lalike) := ⟨rfl, rfl, rfl, by decide +kernel, rfl, by decide +kernel, by decide +kernel⟩
abbrev N_lraised : List Str := ["_law_work", "e", "_law_kinds", "_law_at"]
abbrev P_lraised : List Str := ["_law_work"]
theorem sc_lraised : FnScope N_lraised P_lraised (defScope s_lraised) := ⟨rfl, rfl, rfl, by decide +kernel, rfl, by decide +kernel, by decide +kernel⟩
abbrev N_lpair : List Str := ["_law_row", "_law_most", "_law_size", "_law_days", "_law_heaps", "_law_k"]
abbrev P_lpair : List Str := ["_law_row", "_law_most"]
theorem sc_lpair : FnScope N_lpair P_lpair (defScope s_lpair) := ⟨rfl, rfl, rfl, by decide +kernel, rfl, by decide +kernel, by decide +kernel⟩
abbrev N_lbegun : List Str := ["_law_model", "_law_day", "_law_stacks", "_law_ends", "_law_days", "_law_number", "_law_later", "_law_k"]
abbrev P_lbegun : List Str := ["_law_model"]
theorem sc_lbegun : FnScope N_lbegun P_lbegun (defScope s_lbegun) := ⟨rfl, rfl, rfl, by decide +kernel, rfl, by decide +kernel, by decide +kernel⟩
abbrev N_lfirst : List Str := ["_law_days", "_law_heaps", "_law_stacks", "_law_number", "_law_heap"]
abbrev P_lfirst : List Str := ["_law_days", "_law_heaps"]
theorem sc_lfirst : FnScope N_lfirst P_lfirst (defScope s_lfirst) := ⟨rfl, rfl, rfl, by decide +kernel, rfl, by decide +kernel, by decide +kernel⟩
abbrev N_lnext : List Str := ["_law_model", "_law_day", "_law_stacks", "_law_ends", "_law_days", "_law_number", "_law_ended", "_law_when", "_law_k", "_law_book", "_law_stack"]
abbrev P_lnext : List Str := ["_law_model"]
theorem sc_lnext : FnScope N_lnext P_lnext (defScope s_lnext) := ⟨rfl, rfl, rfl, by decide +kernel, rfl, by decide +kernel, by decide +kernel⟩
abbrev N_ltorn : List Str := ["_law_row", "_law_entries", "_law_found", "_law_entry", "_law_number"]
abbrev P_ltorn : List Str := ["_law_row", "_law_entries"]
theorem sc_ltorn : FnScope N_ltorn P_ltorn (defScope s_ltorn) := ⟨rfl, rfl, rfl, by decide +kernel, rfl, by decide +kernel, by decide +kernel⟩
abbrev N_lchanged : List Str := ["_law_row", "_law_entries", "_law_k", "_law_day", "_law_reader", "_law_book", "_law_some", "_law_way"]
abbrev P_lchanged : List Str := ["_law_row", "_law_entries", "_law_k"]
theorem sc_lchanged : FnScope N_lchanged P_lchanged (defScope s_lchanged) := ⟨rfl, rfl, rfl, by decide +kernel, rfl, by decide +kernel, by decide +kernel⟩
abbrev N_law : List Str := ["_law_script", "_law_row", "_law_days", "_law_heaps", "_law_ring", "_law_count", "_law_model", "_law_entries", "_law_ended", "_law_told", "_law_turn", "_law_k", "_law_diary", "_law_is_wrong", "_law_results", "_law_bad"]
abbrev P_law : List Str := ["_law_script"]
theorem sc_law : FnScope N_law P_law (defScope s_law) := ⟨rfl, rfl, rfl, by decide +kernel, rfl, by decide +kernel, by decide +kernel⟩
/-- what the top has written: the defs where they stand, the class, constants, built-ins that are still so -/
structure Tx (K : PySem.W.Frag) (mg : Str → Option Value) where
  C : Addr
  a_iDiaryError : Addr
  d_iDiaryError : FuncData
  F_iDiaryError : Fun K "__init__" "DiaryError.__init__" s_iDiaryError a_iDiaryError d_iDiaryError
  b_iDiaryError : Binds K d_iDiaryError P_iDiaryError []
  c_iDiaryError : Addr
  gc_iDiaryError : mg "DiaryError" = some (.ref c_iDiaryError)
  ic_iDiaryError : PySem.W.findIn K (.ref c_iDiaryError) "__init__" = some (some (.ref a_iDiaryError))
  it_iDiaryError : PySem.W.typeIn K (.ref a_iDiaryError) = some (.type "function")
  io_iDiaryError : oxB K c_iDiaryError = true
  a_is_number : Addr
  d_is_number : FuncData
  F_is_number : Fun K "is_number" "is_number" s_is_number a_is_number d_is_number
  b_is_number : Binds K d_is_number P_is_number []
  g_is_number : mg "is_number" = some (.ref a_is_number)
  a_lies_between : Addr
  d_lies_between : FuncData
  F_lies_between : Fun K "lies_between" "lies_between" s_lies_between a_lies_between d_lies_between
  b_lies_between : Binds K d_lies_between P_lies_between []
  g_lies_between : mg "lies_between" = some (.ref a_lies_between)
  a_check_number : Addr
  d_check_number : FuncData
  F_check_number : Fun K "check_number" "check_number" s_check_number a_check_number d_check_number
  b_check_number : Binds K d_check_number P_check_number []
  g_check_number : mg "check_number" = some (.ref a_check_number)
  a_check_reader : Addr
  d_check_reader : FuncData
  F_check_reader : Fun K "check_reader" "check_reader" s_check_reader a_check_reader d_check_reader
  b_check_reader : Binds K d_check_reader P_check_reader []
  g_check_reader : mg "check_reader" = some (.ref a_check_reader)
  a_rinit : Addr
  d_rinit : FuncData
  F_rinit : Fun K "__init__" "Ring.__init__" s_rinit a_rinit d_rinit
  b_rinit : Binds K d_rinit P_rinit []
  a_rdays : Addr
  d_rdays : FuncData
  F_rdays : Fun K "days" "Ring.days" s_rdays a_rdays d_rdays
  b_rdays : Binds K d_rdays P_rdays []
  a_rstarts : Addr
  d_rstarts : FuncData
  F_rstarts : Fun K "starts" "Ring.starts" s_rstarts a_rstarts d_rstarts
  b_rstarts : Binds K d_rstarts P_rstarts []
  a_rbooks : Addr
  d_rbooks : FuncData
  F_rbooks : Fun K "books" "Ring.books" s_rbooks a_rbooks d_rbooks
  b_rbooks : Binds K d_rbooks P_rbooks []
  a_rpace : Addr
  d_rpace : FuncData
  F_rpace : Fun K "pace" "Ring.pace" s_rpace a_rpace d_rpace
  b_rpace : Binds K d_rpace P_rpace []
  a_rlen : Addr
  d_rlen : FuncData
  F_rlen : Fun K "__len__" "Ring.__len__" s_rlen a_rlen d_rlen
  b_rlen : Binds K d_rlen P_rlen []
  a_rcall : Addr
  d_rcall : FuncData
  F_rcall : Fun K "__call__" "Ring.__call__" s_rcall a_rcall d_rcall
  b_rcall : Binds K d_rcall P_rcall []
  a_check_part : Addr
  d_check_part : FuncData
  F_check_part : Fun K "check_part" "check_part" s_check_part a_check_part d_check_part
  b_check_part : Binds K d_check_part P_check_part []
  g_check_part : mg "check_part" = some (.ref a_check_part)
  a_end_day : Addr
  d_end_day : FuncData
  F_end_day : Fun K "end_day" "end_day" s_end_day a_end_day d_end_day
  b_end_day : Binds K d_end_day P_end_day []
  g_end_day : mg "end_day" = some (.ref a_end_day)
  a_book_of : Addr
  d_book_of : FuncData
  F_book_of : Fun K "book_of" "book_of" s_book_of a_book_of d_book_of
  b_book_of : Binds K d_book_of P_book_of []
  g_book_of : mg "book_of" = some (.ref a_book_of)
  a_reader_before : Addr
  d_reader_before : FuncData
  F_reader_before : Fun K "reader_before" "reader_before" s_reader_before a_reader_before d_reader_before
  b_reader_before : Binds K d_reader_before P_reader_before []
  g_reader_before : mg "reader_before" = some (.ref a_reader_before)
  a_diary_of : Addr
  d_diary_of : FuncData
  F_diary_of : Fun K "diary_of" "diary_of" s_diary_of a_diary_of d_diary_of
  b_diary_of : Binds K d_diary_of P_diary_of []
  g_diary_of : mg "diary_of" = some (.ref a_diary_of)
  a_mended : Addr
  d_mended : FuncData
  F_mended : Fun K "mended" "mended" s_mended a_mended d_mended
  b_mended : Binds K d_mended P_mended []
  g_mended : mg "mended" = some (.ref a_mended)
  a_can_be : Addr
  d_can_be : FuncData
  F_can_be : Fun K "can_be" "can_be" s_can_be a_can_be d_can_be
  b_can_be : Binds K d_can_be P_can_be []
  g_can_be : mg "can_be" = some (.ref a_can_be)
  a_is_same_number : Addr
  d_is_same_number : FuncData
  F_is_same_number : Fun K "is_same_number" "is_same_number" s_is_same_number a_is_same_number d_is_same_number
  b_is_same_number : Binds K d_is_same_number P_is_same_number []
  g_is_same_number : mg "is_same_number" = some (.ref a_is_same_number)
  a_ltaken : Addr
  d_ltaken : FuncData
  F_ltaken : Fun K "_law_taken" "_law_taken" s_ltaken a_ltaken d_ltaken
  b_ltaken : Binds K d_ltaken P_ltaken []
  g_ltaken : mg "_law_taken" = some (.ref a_ltaken)
  a_lalike : Addr
  d_lalike : FuncData
  F_lalike : Fun K "_law_alike" "_law_alike" s_lalike a_lalike d_lalike
  b_lalike : Binds K d_lalike P_lalike []
  g_lalike : mg "_law_alike" = some (.ref a_lalike)
  a_lraised : Addr
  d_lraised : FuncData
  F_lraised : Fun K "_law_raised" "_law_raised" s_lraised a_lraised d_lraised
  b_lraised : Binds K d_lraised P_lraised []
  g_lraised : mg "_law_raised" = some (.ref a_lraised)
  a_lpair : Addr
  d_lpair : FuncData
  F_lpair : Fun K "_law_pair" "_law_pair" s_lpair a_lpair d_lpair
  b_lpair : Binds K d_lpair P_lpair []
  g_lpair : mg "_law_pair" = some (.ref a_lpair)
  a_lbegun : Addr
  d_lbegun : FuncData
  F_lbegun : Fun K "_law_begun" "_law_begun" s_lbegun a_lbegun d_lbegun
  b_lbegun : Binds K d_lbegun P_lbegun []
  g_lbegun : mg "_law_begun" = some (.ref a_lbegun)
  a_lfirst : Addr
  d_lfirst : FuncData
  F_lfirst : Fun K "_law_first" "_law_first" s_lfirst a_lfirst d_lfirst
  b_lfirst : Binds K d_lfirst P_lfirst []
  g_lfirst : mg "_law_first" = some (.ref a_lfirst)
  a_lnext : Addr
  d_lnext : FuncData
  F_lnext : Fun K "_law_next" "_law_next" s_lnext a_lnext d_lnext
  b_lnext : Binds K d_lnext P_lnext []
  g_lnext : mg "_law_next" = some (.ref a_lnext)
  a_ltorn : Addr
  d_ltorn : FuncData
  F_ltorn : Fun K "_law_torn" "_law_torn" s_ltorn a_ltorn d_ltorn
  b_ltorn : Binds K d_ltorn P_ltorn []
  g_ltorn : mg "_law_torn" = some (.ref a_ltorn)
  a_lchanged : Addr
  d_lchanged : FuncData
  F_lchanged : Fun K "_law_changed" "_law_changed" s_lchanged a_lchanged d_lchanged
  b_lchanged : Binds K d_lchanged P_lchanged []
  g_lchanged : mg "_law_changed" = some (.ref a_lchanged)
  a_law : Addr
  d_law : FuncData
  F_law : Fun K "law" "law" s_law a_law d_law
  b_law : Binds K d_law P_law []
  g_law : mg "law" = some (.ref a_law)
  cl : Cls K C
  nD : NoAttr K C "_days"
  nS : NoAttr K C "_starts"
  mkR : Mk K C a_rinit
  gC : mg "Ring" = some (.ref C)
  p_rdays : Addr
  q_rdays : PropOf K C "days" p_rdays a_rdays
  p_rstarts : Addr
  q_rstarts : PropOf K C "starts" p_rstarts a_rstarts
  p_rbooks : Addr
  q_rbooks : PropOf K C "books" p_rbooks a_rbooks
  p_rpace : Addr
  q_rpace : PropOf K C "pace" p_rpace a_rpace
  lenC : PySem.W.findIn K (.ref C) "__len__" = some (some (.ref a_rlen))
  lenF : PySem.W.isFn K (.ref a_rlen) = true
  callC : StX.CallO K C a_rcall
  c_LATEST : ∃ t, mg "LATEST" = some (.int 1000000000000000000 t)
  c_MOST_ENTRIES : ∃ t, mg "MOST_ENTRIES" = some (.int 500 t)
  c_FEWEST_READERS : ∃ t, mg "FEWEST_READERS" = some (.int 2 t)
  c_MOST_READERS : ∃ t, mg "MOST_READERS" = some (.int 8 t)
  c_MOST_DAYS : ∃ t, mg "MOST_DAYS" = some (.int 30 t)
  c_MOST_BOOKS : ∃ t, mg "MOST_BOOKS" = some (.int 12 t)
  z_len : mg "len" = none
  z_sum : mg "sum" = none
  z_max : mg "max" = none
  z_min : mg "min" = none
  z_range : mg "range" = none
  z_int : mg "int" = none
  z_bool : mg "bool" = none
  z_isinstance : mg "isinstance" = none
  z_tuple : mg "tuple" = none
  z_enumerate : mg "enumerate" = none
  z_list : mg "list" = none
  z_str : mg "str" = none
  z_sorted : mg "sorted" = none
  z_zip : mg "zip" = none
  z_all : mg "all" = none
end Rp
namespace Rp
open PySem PySem.Spec PyProof.Rows L2 Rz Rm
/-! ### a ring as it stands -/
theorem ds_ne : ¬ (("_days" : Str) = "_starts") := by decide +kernel
def flds (td ts : Addr) : List (Str × V) := putF "_starts" (.ref ts) (putF "_days" (.ref td) [])
theorem flds_days (td ts : Addr) : (flds td ts).lookup ("_days" : Str) = some (.ref td) := by
  unfold flds
  rw [lookup_putF, if_neg ds_ne, lookup_putF, if_pos rfl]
theorem flds_starts (td ts : Addr) : (flds td ts).lookup ("_starts" : Str) = some (.ref ts) := by
  unfold flds
  rw [lookup_putF, if_pos rfl]
/-- days and books at first that make a ring -/
structure Good (ds ss : List Int) : Prop where
  l2 : 2 ≤ ds.length
  l8 : ds.length ≤ 8
  ls : ss.length = ds.length
  d1 : ∀ y ∈ ds, 1 ≤ y ∧ y ≤ 30
  s0 : ∀ y ∈ ss, 0 ≤ y ∧ y ≤ 12
  b1 : 1 ≤ ss.sum
  b12 : ss.sum ≤ 12
structure RingAt (C : Addr) (H : Hp) (p dx td ts : Addr) (ds ss : List Int) : Prop where
  ob : H p = some (.ins C dx (flds td ts))
  td : H td = some (.tup (ds.map V.int))
  ts : H ts = some (.tup (ss.map V.int))
  ok : Good ds ss
theorem RingAt.same {C : Addr} {H H' : Hp} {p dx td ts : Addr} {ds ss : List Int} (R : RingAt C H p dx td ts ds ss) (s : Same H H') : RingAt C H' p dx td ts ds ss :=
  ⟨s _ _ R.ob, s _ _ R.td, s _ _ R.ts, R.ok⟩
theorem sq_same {K : PySem.W.Frag} {H H' : Hp} {a : Addr} {xs : List V} (e : Same H H') (h : H a = some (.tup xs)) : SqT K H' a xs := .of (e _ _ h)
theorem same_upd {H : Hp} {p : Addr} {o : HO} (h : H p = none) : Same H (upd H p o) := fun b x e => by
  rw [upd_ne (ne_of_none e h)]
  exact e
section
variable {P : Program} {w : World} {K : PySem.W.Frag} {mg : Str → Option Value} {base : Heap}
/-! ### checks -/
/-- a number is one -/
def spIsNum : Sp := fun vs H Q _ => ∃ i : Int, vs = [.int i] ∧ Q (.bl true) H
theorem ok_is_number (T : Tx K mg) : FnOk P w K mg base CX0 1 T.a_is_number T.d_is_number P_is_number spIsNum := by
  refine T.F_is_number.ok sc_is_number (fun vs H Q E h => ?_) (fun cdv A outer s H vs Q E hr h => ?_)
  · obtain ⟨i, rfl, _⟩ := h
    rfl
  · obtain ⟨i, rfl, q⟩ := h
    refine ⟨_, pss_one (ps_ret (pe_and (pe_callB call_isi (by rfl) T.z_isinstance (by decide +kernel) (pa_cons (pv 0) (pa_cons (pe_bltn (v := .ty "int") (u := .type "int") (by rfl) T.z_int (by decide +kernel) rfl) pa_nil)))
      (pe_one (pe_not (pe_callB call_isi (by rfl) T.z_isinstance (by decide +kernel) (pa_cons (pv 0) (pa_cons (pe_bltn (v := .ty "bool") (u := .type "bool") (by rfl) T.z_bool (by decide +kernel) rfl) pa_nil))))))), ?_⟩
    refine ⟨.int i, rfl, .int i, .ty "int", .type "int", .type "int", true, rfl, .ty _, .base (.int i), kit_ty (by decide +kernel), true, rfl, iteT ?_⟩
    exact ⟨.int i, rfl, .int i, .ty "bool", .type "int", .type "bool", false, rfl, .ty _, .base (.int i), kit_ty (by decide +kernel), false, rfl, q⟩
def spLies : Sp := fun vs H Q _ => ∃ v lo hi : Int, vs = [.int v, .int lo, .int hi] ∧ Q (.bl (decide (lo ≤ v) && decide (v ≤ hi))) H
theorem ok_lies (T : Tx K mg) : FnOk P w K mg base CX0 2 T.a_lies_between T.d_lies_between P_lies_between spLies := by
  refine T.F_lies_between.ok sc_lies_between (fun vs H Q E h => ?_) (fun cdv A outer s H vs Q E hr h => ?_)
  · obtain ⟨v, lo, hi, rfl, _⟩ := h
    rfl
  · obtain ⟨v, lo, hi, rfl, q⟩ := h
    refine ⟨_, pss_one (ps_ret (pe_and (pe_call (ok_is_number T) hr (by rfl) T.g_is_number T.F_is_number.kp T.b_is_number .nil pass0 (pa_cons (pv 0) pa_nil)) (pe_one (pe_chain op_le op_le (pv 1) (pv 0) (pv 2))))), ?_⟩
    refine ⟨.int v, rfl, v, rfl, true, rfl, iteT ?_⟩
    refine ⟨.int lo, rfl, .int v, rfl, lo, v, rfl, rfl, decide (lo ≤ v), rfl, ?_⟩
    by_cases h : lo ≤ v
    · rw [decide_eq_true h] at q ⊢
      exact iteT ⟨.int hi, rfl, v, hi, rfl, rfl, q⟩
    · rw [decide_eq_false h] at q ⊢
      exact iteF q
theorem in_lim {v lo hi : Int} (h1 : lo ≤ v) (h2 : v ≤ hi) : (decide (lo ≤ v) && decide (v ≤ hi)) = true := by
  rw [decide_eq_true h1, decide_eq_true h2] <;> rfl
def spChk : Sp := fun vs H Q _ => ∃ v lo hi : Int, vs = [.int v, .int lo, .int hi] ∧ lo ≤ v ∧ v ≤ hi ∧ Q .non H
theorem ok_chk (T : Tx K mg) : FnOk P w K mg base CX0 3 T.a_check_number T.d_check_number P_check_number spChk := by
  refine T.F_check_number.ok sc_check_number (fun vs H Q E h => ?_) (fun cdv A outer s H vs Q E hr h => ?_)
  · obtain ⟨v, lo, hi, rfl, _⟩ := h
    rfl
  · obtain ⟨v, lo, hi, rfl, h1, h2, q⟩ := h
    refine ⟨_, pss_one (ps_if (pt_not (pt_val (pe_call (ok_lies T) hr (by rfl) T.g_lies_between T.F_lies_between.kp T.b_lies_between .nil pass0 (pa_cons (pv 0) (pa_cons (pv 1) (pa_cons (pv 2) pa_nil)))))) (pss_one ps_never) pss_nil), ?_⟩
    refine ⟨.int v, rfl, .int lo, rfl, .int hi, rfl, v, lo, hi, rfl, _, rfl, ?_⟩
    rw [in_lim h1 h2]
    exact iteF q
/-! ### the ring's own -/
def spLen (C : Addr) : Sp := fun vs H Q _ => ∃ p dx td ts ds ss, vs = [.ref p] ∧ RingAt C H p dx td ts ds ss ∧ Q (.int ds.length) H
theorem ok_len (T : Tx K mg) : FnOk P w K mg base CX0 1 T.a_rlen T.d_rlen P_rlen (spLen T.C) := by
  refine T.F_rlen.ok sc_rlen (fun vs H Q E h => ?_) (fun cdv A outer s H vs Q E hr h => ?_)
  · obtain ⟨p, dx, td, ts, ds, ss, rfl, _⟩ := h
    rfl
  · obtain ⟨p, dx, td, ts, ds, ss, rfl, R, q⟩ := h
    refine ⟨_, pss_one (ps_ret (pe_callB call_len_seq (by rfl) T.z_len PySem.boot_len (pa_cons (pe_fld (pv 0) rfl) pa_nil))), ?_⟩
    refine ⟨_, rfl, p, _, dx, _, _, rfl, R.ob, T.cl, T.nD, flds_days _ _, td, _, rfl, .inr (.of R.td), ?_⟩
    rw [List.length_map]
    exact q
def spDays (C : Addr) : Sp := fun vs H Q _ => ∃ p dx td ts ds ss, vs = [.ref p] ∧ RingAt C H p dx td ts ds ss ∧ Q (.ref td) H
def spStarts (C : Addr) : Sp := fun vs H Q _ => ∃ p dx td ts ds ss, vs = [.ref p] ∧ RingAt C H p dx td ts ds ss ∧ Q (.ref ts) H
def spBooks (C : Addr) : Sp := fun vs H Q _ => ∃ p dx td ts ds ss, vs = [.ref p] ∧ RingAt C H p dx td ts ds ss ∧ Q (.int ss.sum) H
theorem ok_days (T : Tx K mg) : FnOk P w K mg base CX0 1 T.a_rdays T.d_rdays P_rdays (spDays T.C) := by
  refine T.F_rdays.ok sc_rdays (fun vs H Q E h => ?_) (fun cdv A outer s H vs Q E hr h => ?_)
  · obtain ⟨p, dx, td, ts, ds, ss, rfl, _⟩ := h
    rfl
  · obtain ⟨p, dx, td, ts, ds, ss, rfl, R, q⟩ := h
    refine ⟨_, pss_one (ps_ret (pe_fld (pv 0) rfl)), ?_⟩
    exact ⟨_, rfl, p, _, dx, _, _, rfl, R.ob, T.cl, T.nD, flds_days _ _, q⟩
theorem ok_starts (T : Tx K mg) : FnOk P w K mg base CX0 1 T.a_rstarts T.d_rstarts P_rstarts (spStarts T.C) := by
  refine T.F_rstarts.ok sc_rstarts (fun vs H Q E h => ?_) (fun cdv A outer s H vs Q E hr h => ?_)
  · obtain ⟨p, dx, td, ts, ds, ss, rfl, _⟩ := h
    rfl
  · obtain ⟨p, dx, td, ts, ds, ss, rfl, R, q⟩ := h
    refine ⟨_, pss_one (ps_ret (pe_fld (pv 0) rfl)), ?_⟩
    exact ⟨_, rfl, p, _, dx, _, _, rfl, R.ob, T.cl, T.nS, flds_starts _ _, q⟩
theorem ok_books (T : Tx K mg) : FnOk P w K mg base CX0 1 T.a_rbooks T.d_rbooks P_rbooks (spBooks T.C) := by
  refine T.F_rbooks.ok sc_rbooks (fun vs H Q E h => ?_) (fun cdv A outer s H vs Q E hr h => ?_)
  · obtain ⟨p, dx, td, ts, ds, ss, rfl, _⟩ := h
    rfl
  · obtain ⟨p, dx, td, ts, ds, ss, rfl, R, q⟩ := h
    refine ⟨_, pss_one (ps_ret (pe_callB (cr_sumT rfl) (by rfl) T.z_sum (by decide +kernel) (pa_cons (pe_fld (pv 0) rfl) pa_nil))), ?_⟩
    exact ⟨_, rfl, p, _, dx, _, _, rfl, R.ob, T.cl, T.nS, flds_starts _ _, ts, ss, rfl, .of R.ts, q⟩
/-! ### check_reader -/
def spReader (C : Addr) : Sp := fun vs H Q _ => ∃ p dx td ts ds ss, ∃ r : Int, vs = [.ref p, .int r] ∧ RingAt C H p dx td ts ds ss ∧ 0 ≤ r ∧ r < ds.length ∧ Q .non H
theorem ok_reader (T : Tx K mg) : FnOk P w K mg base CX0 3 T.a_check_reader T.d_check_reader P_check_reader (spReader T.C) := by
  refine T.F_check_reader.ok sc_check_reader (fun vs H Q E h => ?_) (fun cdv A outer s H vs Q E hr h => ?_)
  · obtain ⟨p, dx, td, ts, ds, ss, r, rfl, _⟩ := h
    rfl
  · obtain ⟨p, dx, td, ts, ds, ss, r, rfl, R, h1, h2, q⟩ := h
    refine ⟨_, pss_one (ps_if (pt_not (pt_val (pe_call (ok_lies T) hr (by rfl) T.g_lies_between T.F_lies_between.kp T.b_lies_between .nil pass0
      (pa_cons (pv 1) (pa_cons pe_int (pa_cons (pe_op op_sub (pe_callB (call_lenI T.lenC T.lenF ((ok_len T).raw T.b_rlen .nil) hr pass0) (by rfl) T.z_len PySem.boot_len (pa_cons (pv 0) pa_nil)) pe_int) pa_nil)))))) (pss_one ps_never) pss_nil), ?_⟩
    have hl := R.ok.l8
    refine ⟨.int r, rfl, .ref p, rfl, p, dx, _, rfl, R.ob, p, dx, td, ts, ds, ss, rfl, R, (ds.length : Int), rfl, by omega, by omega, _, _, rfl, rfl, ?_⟩
    refine ⟨r, 0, (ds.length : Int) - 1, rfl, _, rfl, ?_⟩
    rw [in_lim h1 (show r ≤ (ds.length : Int) - 1 by omega)]
    exact iteF q
end
end Rp
namespace Rp
open PySem PySem.Spec PyProof.Rows L2 Rz Rm
/-! ### the pace -/
/-- days that readers need -/
structure Dys (ds : List Int) : Prop where
  ne : 0 < ds.length
  d1 : ∀ y ∈ ds, 1 ≤ y
theorem Good.dys {ds ss : List Int} (G : Good ds ss) : Dys ds := ⟨by have := G.l2; omega, fun y h => (G.d1 y h).1⟩
def mx (ds : List Int) : Int := ds.foldr max 0
theorem mx_nn : ∀ ds : List Int, 0 ≤ mx ds
  | [] => Int.le_refl _
  | a :: r => by
    have := mx_nn r
    show 0 ≤ max a (mx r)
    omega
theorem le_mx : ∀ {ds : List Int} {y : Int}, y ∈ ds → y ≤ mx ds
  | a :: r, y, h => by
    show y ≤ max a (mx r)
    rcases List.mem_cons.mp h with e | e
    · omega
    · have := le_mx e
      omega
theorem mx_le : ∀ {ds : List Int} {M : Int}, 0 ≤ M → (∀ y ∈ ds, y ≤ M) → mx ds ≤ M
  | [], _, h, _ => h
  | a :: r, M, h, hu => by
    have h1 := hu a List.mem_cons_self
    have h2 := mx_le (ds := r) h fun y hy => hu y (List.mem_cons_of_mem _ hy)
    show max a (mx r) ≤ M
    omega
theorem mx_eq {ds : List Int} {M : Int} (D : Dys ds) (hM : M ∈ ds) (hMu : ∀ y ∈ ds, y ≤ M) : mx ds = M :=
  Int.le_antisymm (mx_le (by have := D.d1 M hM; omega) hMu) (le_mx hM)
theorem mx_mem : ∀ {ds : List Int}, ds ≠ [] → (∀ y ∈ ds, 0 ≤ y) → mx ds ∈ ds
  | [], h, _ => absurd rfl h
  | [a], _, h => by
    have h1 := h a (by simp)
    show max a 0 ∈ [a]
    rw [show max a 0 = a by omega]
    simp
  | a :: b :: r, _, h => by
    have ih := mx_mem (ds := b :: r) (by simp) fun y hy => h y (List.mem_cons_of_mem _ hy)
    show max a (mx (b :: r)) ∈ a :: b :: r
    by_cases c : a ≤ mx (b :: r)
    · rw [show max a (mx (b :: r)) = mx (b :: r) by omega]
      exact List.mem_cons_of_mem _ ih
    · rw [show max a (mx (b :: r)) = a by omega]
      exact List.mem_cons_self
theorem Dys.mem {ds : List Int} (D : Dys ds) : mx ds ∈ ds := mx_mem (fun e => by
  have := D.ne
  rw [e] at this
  exact absurd this (Nat.lt_irrefl _)) fun y h => by have := D.d1 y h; omega
def gq (ds : List Int) (b : Int) : Int := ((Nat.gcd ds.sum.natAbs b.natAbs : Nat) : Int)
/-- the pace's two numbers -/
def pX (ds : List Int) (b : Int) : Int := if ds.sum ≤ mx ds * b then mx ds else ds.sum / gq ds b
def pY (ds : List Int) (b : Int) : Int := if ds.sum ≤ mx ds * b then 1 else b / gq ds b
theorem gq_facts {ds : List Int} {b : Int} (h : 1 ≤ b) : 1 ≤ gq ds b ∧ gq ds b ≤ b ∧ gq ds b ∣ ds.sum ∧ gq ds b ∣ b := by
  have g0 : 0 < Nat.gcd ds.sum.natAbs b.natAbs := Nat.gcd_pos_of_pos_right _ (by omega)
  have gle : Nat.gcd ds.sum.natAbs b.natAbs ≤ b.natAbs := Nat.le_of_dvd (by omega) (Nat.gcd_dvd_right _ _)
  unfold gq
  exact ⟨by omega, by omega, Int.ofNat_dvd_left.mpr (Nat.gcd_dvd_left _ _), Int.ofNat_dvd_left.mpr (Nat.gcd_dvd_right _ _)⟩
section
variable {P : Program} {w : World} {K : PySem.W.Frag} {mg : Str → Option Value} {base : Heap}
/-! ### check_part -/
def spPart : Sp := fun vs H Q _ => ∃ (part : Str) (v l n : Addr) (ns : List Int) (lo hi f m : Int), vs = [.str part, .ref v, .ref l, .ref n] ∧ H v = some (.tup (ns.map V.int)) ∧ H l = some (.tup [.int lo, .int hi]) ∧ H n = some (.tup [.int f, .int m]) ∧
  (∀ y ∈ ns, lo ≤ y ∧ y ≤ hi) ∧ f ≤ ns.length ∧ (ns.length : Int) ≤ m ∧ ∀ H', Same H H' → Q .non H'
theorem get_int {ns : List Int} {i : Nat} {y : V} (h : (ns.map V.int)[i]? = some y) : ∃ z, ns[i]? = some z ∧ y = .int z := by
  rw [List.getElem?_map] at h
  cases e : ns[i]? with
  | none =>
    rw [e] at h
    cases h
  | some z =>
    rw [e] at h
    exact ⟨z, rfl, (Option.some.inj h).symm⟩
theorem ok_part (T : Tx K mg) : FnOk P w K mg base CX0 3 T.a_check_part T.d_check_part P_check_part spPart := by
  refine T.F_check_part.ok sc_check_part (fun vs H Q E h => ?_) (fun cdv A outer s H vs Q E hr h => ?_)
  · obtain ⟨part, v, l, n, ns, lo, hi, f, m, rfl, _⟩ := h
    rfl
  · obtain ⟨part, v, l, n, ns, lo, hi, f, m, rfl, hv, hl, hn, hall, hf, hm, q⟩ := h
    have nd := sc_check_part.nd
    refine ⟨_, pss_cons (ps_if (pt_not (pt_val (pe_callB call_isi (by rfl) T.z_isinstance (by decide +kernel) (pa_cons (pv 1) (pa_cons (pe_bltn (v := .ty "tuple") (u := .type "tuple") (by rfl) T.z_tuple (by decide +kernel) rfl) pa_nil))))) (pss_one ps_never) pss_nil)
      (pss_cons (ps_asg (pv 2) (pg_tup rfl (pgs_cons (pg_name (i := 4) nd rfl (.inl rfl)) (pgs_cons (pg_name (i := 5) nd rfl (.inl rfl)) pgs_nil))))
      (pss_cons (ps_asg (pv 3) (pg_tup rfl (pgs_cons (pg_name (i := 6) nd rfl (.inl rfl)) (pgs_cons (pg_name (i := 7) nd rfl (.inl rfl)) pgs_nil))))
      (pss_cons (ps_for PassesOwn.never rfl (pi_enumT (by rfl) T.z_enumerate (pa_cons (pv 1) pa_nil)) (pg_tup rfl (pgs_cons (pg_name (i := 8) nd rfl (.inl rfl)) (pgs_cons (pg_name (i := 9) nd rfl (.inl rfl)) pgs_nil)))
        (pss_one (ps_if (PW.pt (pw_or (pt_cmpR op_ge (pv 8) (pv 7) (nomark _)) (pw_or1 (pt_not (pt_val (pe_call (ok_lies T) hr (by rfl) T.g_lies_between T.F_lies_between.kp T.b_lies_between .nil pass0 (pa_cons (pv 9) (pa_cons (pv 4) (pa_cons (pv 5) pa_nil)))))))))
          (pss_one ps_never) pss_nil)))
      (pss_one (ps_if (pt_cmpR op_lt (pe_callB call_len_seq (by rfl) T.z_len PySem.boot_len (pa_cons (pv 1) pa_nil)) (pv 6) (nomark _)) (pss_one ps_never) pss_nil))))), ?_⟩
    -- isinstance(values, tuple)
    refine ⟨.ref v, rfl, .ref v, .ty "tuple", .type "tuple", .type "tuple", true, rfl, .ty _, .base (.tup hv), kit_ty (by decide +kernel), true, rfl, iteF ?_⟩
    -- low, high = limits; fewest, most = lengths
    refine ⟨.ref l, rfl, l, _, rfl, .of hl, rfl, _, _, rfl, _, _, rfl, rfl, ?_⟩
    refine ⟨.ref n, rfl, n, _, rfl, .of hn, rfl, _, _, rfl, _, _, rfl, rfl, ?_⟩
    -- for index, value in enumerate(values)
    refine ⟨.ref v, rfl, v, _, rfl, .of hv, for_it walk_enumT (fun i σ H' => ∃ y8 y9, σ = [some (.str part), some (.ref v), some (.ref l), some (.ref n), some (.int lo), some (.int hi), some (.int f), some (.int m), y8, y9] ∧ Same H H')
      ⟨none, none, rfl, Same.refl H⟩ (fun i σ H' _ ⟨_, _, _, sm⟩ => sq_same sm hv) ?_ ?_⟩
    · rintro i x σ H1 H2 hi1 ⟨y8, y9, rfl, sm⟩ ⟨t, a, b, rfl, nt, rfl, ha, hb⟩
      have ha' : a = .int (i : Nat) := (Option.some.inj ha).symm
      subst ha'
      obtain ⟨z, hz, rfl⟩ := get_int hb
      rw [List.length_map] at hi1
      have hz2 := hall z (List.mem_of_getElem? hz)
      refine ⟨t, _, rfl, .of upd_same, rfl, _, _, rfl, _, _, rfl, rfl, ?_⟩
      refine ⟨.int (i : Nat), rfl, .int m, rfl, _, _, rfl, rfl, _, rfl, ?_⟩
      rw [decide_eq_false (show ¬ m ≤ ((i : Nat) : Int) by omega)]
      refine iteF ?_
      refine ⟨.int z, rfl, .int lo, rfl, .int hi, rfl, z, lo, hi, rfl, _, rfl, ?_⟩
      rw [in_lim hz2.1 hz2.2]
      exact iteF ⟨_, _, rfl, sm.trans (same_upd nt)⟩
    · rintro σ H1 ⟨y8, y9, rfl, sm⟩
      refine ⟨.ref v, rfl, v, _, rfl, .inr (sq_same sm hv), .int f, rfl, _, _, rfl, rfl, _, rfl, ?_⟩
      rw [List.length_map, decide_eq_false (show ¬ (ns.length : Int) < f by omega)]
      exact iteF (q H1 sm)
/-! ### Ring.__init__ -/
def spInit (C : Addr) : Sp := fun vs H Q _ => ∃ (p dx td ts : Addr) (ds ss : List Int), vs = [.ref p, .ref td, .ref ts] ∧ H p = some (.ins C dx []) ∧ H td = some (.tup (ds.map V.int)) ∧ H ts = some (.tup (ss.map V.int)) ∧ Good ds ss ∧
  ∀ H', RingAt C H' p dx td ts ds ss → (∀ b o, H b = some o → b ≠ p → H' b = some o) → Q .non H'
theorem ok_init (T : Tx K mg) : FnOk P w K mg base CX0 4 T.a_rinit T.d_rinit P_rinit (spInit T.C) := by
  refine T.F_rinit.ok sc_rinit (fun vs H Q E h => ?_) (fun cdv A outer s H vs Q E hr h => ?_)
  · obtain ⟨p, dx, td, ts, ds, ss, rfl, _⟩ := h
    rfl
  · obtain ⟨p, dx, td, ts, ds, ss, rfl, hp, hd, hs, G, q⟩ := h
    obtain ⟨u1, c1⟩ := T.c_MOST_DAYS
    obtain ⟨u2, c2⟩ := T.c_FEWEST_READERS
    obtain ⟨u3, c3⟩ := T.c_MOST_READERS
    obtain ⟨u4, c4⟩ := T.c_MOST_BOOKS
    have l2 := G.l2
    have l8 := G.l8
    have ls := G.ls
    refine ⟨_, pss_cons (ps_expr (pe_call (ok_part T) hr (by rfl) T.g_check_part T.F_check_part.kp T.b_check_part .nil pass0 (pa_cons pe_str (pa_cons (pv 1) (pa_cons (pe_tup (pa_cons pe_int (pa_cons (pe_glob (v := .int 30) (by rfl) c1 ⟨_, rfl⟩) pa_nil))) (pa_cons (pe_tup (pa_cons (pe_glob (v := .int 2) (by rfl) c2 ⟨_, rfl⟩) (pa_cons (pe_glob (v := .int 8) (by rfl) c3 ⟨_, rfl⟩) pa_nil))) pa_nil))))))
      (pss_cons (ps_expr (pe_call (ok_part T) hr (by rfl) T.g_check_part T.F_check_part.kp T.b_check_part .nil pass0 (pa_cons pe_str (pa_cons (pv 2) (pa_cons (pe_tup (pa_cons pe_int (pa_cons (pe_glob (v := .int 12) (by rfl) c4 ⟨_, rfl⟩) pa_nil)))
        (pa_cons (pe_tup (pa_cons (pe_callB call_len_seq (by rfl) T.z_len PySem.boot_len (pa_cons (pv 1) pa_nil)) (pa_cons (pe_callB call_len_seq (by rfl) T.z_len PySem.boot_len (pa_cons (pv 1) pa_nil)) pa_nil))) pa_nil))))))
      (pss_cons (ps_if (pt_not (pt_chain op_le op_le pe_int (pe_callB (cr_sumT rfl) (by rfl) T.z_sum (by decide +kernel) (pa_cons (pv 2) pa_nil)) (pe_glob (v := .int 12) (by rfl) c4 ⟨_, rfl⟩))) (pss_one ps_never) pss_nil)
      (pss_cons (ps_fld (pv 0) (pe_callTy call_tupleT (by rfl) T.z_tuple (by decide +kernel) (pa_cons (pv 1) pa_nil)) rfl)
      (pss_one (ps_fld (pv 0) (pe_callTy call_tupleT (by rfl) T.z_tuple (by decide +kernel) (pa_cons (pv 2) pa_nil)) rfl))))), ?_⟩
    -- check_part("days", ..)
    refine ⟨.ref td, rfl, (by show 2 ≤ sizeLine; decide), fun a1 h1 => ⟨(by show 2 ≤ sizeLine; decide), fun a2 h2 => ?_⟩⟩
    have s1 := same_upd (o := .tup [.int 1, .int 30]) h1
    have s2 := same_upd (o := .tup [.int 2, .int 8]) h2
    refine ⟨_, td, a1, a2, ds, 1, 30, 2, 8, rfl, s2 _ _ (s1 _ _ hd), s2 _ _ upd_same, upd_same, G.d1, by omega, by omega, fun H1 s3 => ?_⟩
    have t1 : Same H H1 := (s1.trans s2).trans s3
    -- check_part("starts", ..)
    refine ⟨.ref ts, rfl, (by show 2 ≤ sizeLine; decide), fun a3 h3 => ?_⟩
    have s4 := same_upd (o := .tup [.int 0, .int 12]) h3
    refine ⟨.ref td, rfl, td, _, rfl, .inr (sq_same (t1.trans s4) hd), .ref td, rfl, td, _, rfl, .inr (sq_same (t1.trans s4) hd), (by show 2 ≤ sizeLine; decide), fun a4 h4 => ?_⟩
    have s5 := same_upd (o := .tup [.int ((ds.map V.int).length : Nat), .int ((ds.map V.int).length : Nat)]) h4
    refine ⟨_, ts, a3, a4, ss, 0, 12, ((ds.map V.int).length : Nat), ((ds.map V.int).length : Nat), rfl, s5 _ _ (s4 _ _ (t1 _ _ hs)), s5 _ _ upd_same, upd_same, G.s0, by rw [List.length_map]; omega, by rw [List.length_map]; omega, fun H2 s6 => ?_⟩
    have t2 : Same H H2 := ((t1.trans s4).trans s5).trans s6
    -- not 1 <= sum(starts) <= MOST_BOOKS
    refine ⟨.ref ts, rfl, ts, ss, rfl, sq_same t2 hs, _, _, rfl, rfl, _, rfl, ?_⟩
    rw [decide_eq_true G.b1]
    refine iteT ⟨_, _, rfl, rfl, _, rfl, ?_⟩
    rw [decide_eq_true G.b12]
    refine iteF ?_
    -- the two attributes
    refine ⟨.ref td, rfl, td, _, rfl, sq_same t2 hd, _, rfl, p, T.C, dx, [], rfl, t2 _ _ hp, T.cl, T.nD, (by show 0 < 1000; decide), ?_⟩
    have npt : ts ≠ p := ne_of hs hp (by intro z; cases z)
    have npd : td ≠ p := ne_of hd hp (by intro z; cases z)
    refine ⟨.ref ts, rfl, ts, ss.map V.int, rfl, .of (by rw [upd_ne npt]; exact t2 _ _ hs), _, rfl, p, T.C, dx, _, rfl, upd_same, T.cl, T.nS, (by show 1 < 1000; decide), ?_⟩
    refine q _ ⟨upd_same, by rw [upd_ne npd, upd_ne npd]; exact t2 _ _ hd, by rw [upd_ne npt, upd_ne npt]; exact t2 _ _ hs, G⟩ fun b o e hb => ?_
    rw [upd_ne hb, upd_ne hb]
    exact t2 _ _ e
end
end Rp
namespace Rp
open PySem PySem.Spec PyProof.Rows L2 Rz Rm
theorem at_ix {ds : List Int} {z : Int} (h1 : -(ds.length : Int) ≤ z) (h2 : z < ds.length) : atI (ds.map V.int) z = some (.int (at' ds z)) := by
  have hl : 0 < ds.length := by omega
  have h0 := Int.emod_nonneg z (show (ds.length : Int) ≠ 0 by omega)
  have hlt := Int.emod_lt_of_pos z (show (0 : Int) < ds.length by omega)
  have e : ixN (ds.map V.int).length z = some (z % (ds.length : Int)).toNat := by
    unfold ixN
    rw [List.length_map]
    by_cases h : 0 ≤ z
    · rw [if_pos h, if_pos h2, Int.emod_eq_of_lt h h2]
    · rw [if_neg h, if_pos h1]
      have e2 := Int.add_mul_emod_self_left z (ds.length : Int) 1
      rw [Int.mul_one, Int.emod_eq_of_lt (a := z + ds.length) (by omega) (by omega)] at e2
      rw [e2]
  unfold atI
  rw [e]
  show (ds.map V.int)[(z % (ds.length : Int)).toNat]? = _
  rw [List.getElem?_map]
  unfold at'
  rw [List.getD_eq_getElem?_getD, List.getElem?_eq_getElem (show (z % (ds.length : Int)).toNat < ds.length by omega)]
  rfl
theorem Good.ring {ds ss : List Int} (G : Good ds ss) {M : Int} (hM : M ∈ ds) (hMu : ∀ y ∈ ds, y ≤ M) : Rm.Ring ds.length (at' ds) (at' ss) ss.sum ds.sum M :=
  ring_of (by have := G.l2; omega) G.ls (fun y h => (G.d1 y h).1) (fun y h => (G.s0 y h).1) G.b1 hM hMu
theorem exists_max : ∀ {ds : List Int}, ds ≠ [] → ∃ M, M ∈ ds ∧ ∀ y ∈ ds, y ≤ M
  | [], h => absurd rfl h
  | [a], _ => ⟨a, by simp, by simp⟩
  | a :: b :: r, _ => by
    obtain ⟨M, h1, h2⟩ := exists_max (ds := b :: r) (by simp)
    by_cases h : a ≤ M
    · exact ⟨M, List.mem_cons_of_mem _ h1, fun y hy => by
        rcases List.mem_cons.mp hy with e | e
        · omega
        · exact h2 y e⟩
    · exact ⟨a, List.mem_cons_self, fun y hy => by
        rcases List.mem_cons.mp hy with e | e
        · omega
        · have := h2 y e; omega⟩
theorem Good.max {ds ss : List Int} (G : Good ds ss) : ∃ M, M ∈ ds ∧ ∀ y ∈ ds, y ≤ M := exists_max (by
  intro e
  have := G.l2
  rw [e] at this
  simp at this)
theorem sum_bounds : ∀ {ds : List Int}, (∀ y ∈ ds, 1 ≤ y ∧ y ≤ 30) → (ds.length : Int) ≤ ds.sum ∧ ds.sum ≤ 30 * ds.length
  | [], _ => by simp
  | a :: r, h => by
    have h1 := h a List.mem_cons_self
    have ih := sum_bounds (ds := r) fun y hy => h y (List.mem_cons_of_mem _ hy)
    rw [List.sum_cons, List.length_cons]
    omega
theorem max_if (i j : Int) : (if j > i then j else i) = max i j := by
  by_cases h : j > i
  · rw [if_pos h]
    omega
  · rw [if_neg h]
    omega
section
variable {P : Program} {w : World} {K : PySem.W.Frag} {mg : Str → Option Value} {base : Heap}
/-! ### end_day -/
def spEnd (C : Addr) : Sp := fun vs H Q _ => ∃ p dx td ts ds ss, ∃ r x : Int, vs = [.ref p, .int r, .int x] ∧ RingAt C H p dx td ts ds ss ∧ 0 ≤ r ∧ r < ds.length ∧ 0 ≤ x ∧ Q (.int (Rm.E (at' ds) (at' ss) r x)) H
/-- the loop's slots ahead of step i -/
def edS (p : Addr) (r x B M g L : Int) (ds ss : List Int) (i : Nat) (y10 y11 : Option V) : L2.St :=
  [some (.ref p), some (.int r), some (.int x), some (.int B), some (.int M), some (.int g), some (.int L), some (.int (sumBack (at' ds) r i)), some (.int (if i = 0 then 0 else maxBack (at' ds) r (i - 1))), some (.int (x - sumBack (at' ss) r i)), y10, y11]
theorem met_next {ds : List Int} (h1 : ∀ i, 1 ≤ at' ds i) (r : Int) (i : Nat) : (if at' ds (r - i) > (if i = 0 then 0 else maxBack (at' ds) r (i - 1)) then at' ds (r - i) else (if i = 0 then 0 else maxBack (at' ds) r (i - 1))) = maxBack (at' ds) r i := by
  rw [max_if]
  cases i with
  | zero =>
    have := h1 (r - (0 : Nat))
    show max 0 (at' ds (r - (0 : Nat))) = at' ds r
    rw [show r - ((0 : Nat) : Int) = r by omega] at this ⊢
    omega
  | succ i =>
    rw [if_neg (Nat.succ_ne_zero i)]
    show max (maxBack (at' ds) r i) (at' ds (r - (i + 1 : Nat))) = max (maxBack (at' ds) r i) (at' ds (r - (i + 1 : Nat)))
    rfl
theorem ok_end (T : Tx K mg) : FnOk P w K mg base CX0 3 T.a_end_day T.d_end_day P_end_day (spEnd T.C) := by
  refine T.F_end_day.ok sc_end_day (fun vs H Q E h => ?_) (fun cdv A outer s H vs Q E hr h => ?_)
  · obtain ⟨p, dx, td, ts, ds, ss, r, x, rfl, _⟩ := h
    rfl
  · obtain ⟨p, dx, td, ts, ds, ss, r, x, rfl, R, r0, r1, x0, q⟩ := h
    have nd := sc_end_day.nd
    have G := R.ok
    have l2 := G.l2
    have l8 := G.l8
    have ls := G.ls
    have rdD : ∀ {Q' : VK} {E' : XK}, Q' (.ref td) H → spDays T.C [.ref p] H Q' E' := fun z => ⟨p, dx, td, ts, ds, ss, rfl, R, z⟩
    have rdS : ∀ {Q' : VK} {E' : XK}, Q' (.ref ts) H → spStarts T.C [.ref p] H Q' E' := fun z => ⟨p, dx, td, ts, ds, ss, rfl, R, z⟩
    refine ⟨_, pss_cons (ps_set (i := 3) nd rfl (.inl rfl) (pe_prop (pv 0) T.cl T.q_rbooks (ok_books T) hr T.b_rbooks .nil pass0 rfl))
      (pss_cons (ps_set (i := 4) nd rfl (.inl rfl) (pe_callB (cr_maxT rfl) (by rfl) T.z_max (by decide +kernel) (pa_cons (pe_prop (pv 0) T.cl T.q_rdays (ok_days T) hr T.b_rdays .nil pass0 rfl) pa_nil)))
      (pss_cons (ps_set (i := 5) nd rfl (.inl rfl) (pe_op op_sub (pe_callB (cr_sumT rfl) (by rfl) T.z_sum (by decide +kernel) (pa_cons (pe_prop (pv 0) T.cl T.q_rdays (ok_days T) hr T.b_rdays .nil pass0 rfl) pa_nil)) (pe_op op_mul (pv 3) (pv 4))))
      (pss_cons (ps_asg3 pe_int (pg_name (i := 6) nd rfl (.inl rfl)) (pg_name (i := 7) nd rfl (.inl rfl)) (pg_name (i := 8) nd rfl (.inl rfl)))
      (pss_cons (ps_set (i := 9) nd rfl (.inl rfl) (pv 2))
      (pss_cons (ps_for PassesOwn.never rfl (pi_range1 (by rfl) T.z_range (pa_cons (pe_callB (call_lenI T.lenC T.lenF ((ok_len T).raw T.b_rlen .nil) hr pass0) (by rfl) T.z_len PySem.boot_len (pa_cons (pv 0) pa_nil)) pa_nil)) (pg_name (i := 10) nd rfl (.inl rfl))
        (pss_cons (ps_aug (i := 7) nd rfl (.inl rfl) (pe_ix ix_tup (pe_prop (pv 0) T.cl T.q_rdays (ok_days T) hr T.b_rdays .nil pass0 rfl) (pe_op op_sub (pv 1) (pv 10)) (fun _ _ => rfl)) ip_add)
        (pss_cons (ps_set (i := 8) nd rfl (.inl rfl) (pe_callB (call_max2 rfl) (by rfl) T.z_max (by decide +kernel) (pa_cons (pv 8) (pa_cons (pe_ix ix_tup (pe_prop (pv 0) T.cl T.q_rdays (ok_days T) hr T.b_rdays .nil pass0 rfl) (pe_op op_sub (pv 1) (pv 10)) (fun _ _ => rfl)) pa_nil))))
        (pss_cons (ps_set (i := 6) nd rfl (.inl rfl) (pe_callB (call_max2 rfl) (by rfl) T.z_max (by decide +kernel) (pa_cons (pv 6) (pa_cons (pe_op op_add (pv 7) (pe_op op_mul (pv 9) (pv 8))) pa_nil))))
        (pss_cons (ps_if (pt_cmpR op_ge (pv 9) (pv 3) (nomark _))
          (pss_cons (ps_set (i := 11) nd rfl (.inl rfl) (pe_ifExp (pt_cmpR op_gt (pv 5) pe_int (nomark _)) (pe_op op_fdiv (pv 9) (pv 3)) pe_int))
          (pss_one (ps_set (i := 6) nd rfl (.inl rfl) (pe_callB (call_max2 rfl) (by rfl) T.z_max (by decide +kernel) (pa_cons (pv 6) (pa_cons (pe_op op_add (pe_op op_add (pv 7) (pe_op op_mul (pv 9) (pv 4))) (pe_op op_mul (pv 11) (pv 5))) pa_nil)))))) pss_nil)
        (pss_cons (ps_aug (i := 9) nd rfl (.inl rfl) (pe_ix ix_tup (pe_prop (pv 0) T.cl T.q_rstarts (ok_starts T) hr T.b_rstarts .nil pass0 rfl) (pe_op op_sub (pv 1) (pv 10)) (fun _ _ => rfl)) ip_sub)
        (pss_one (ps_if (pt_cmpR op_lt (pv 9) pe_int (nomark _)) (pss_one ps_break) pss_nil))))))))
      (pss_one (ps_ret (pv 6)))))))), ?_⟩
    -- books, slowest, gain
    refine ⟨.ref p, rfl, p, dx, _, rfl, R.ob, p, dx, td, ts, ds, ss, rfl, R, ?_⟩
    refine ⟨.ref p, rfl, p, dx, _, rfl, R.ob, rdD ⟨td, ds, rfl, .of R.td, by omega, fun M hM hMu => ?_⟩⟩
    have RR := G.ring hM hMu
    have b1 := G.b1
    have b12 := G.b12
    have hM30 := G.d1 M hM
    have hT := sum_bounds G.d1
    have hBM : 0 ≤ ss.sum * M ∧ ss.sum * M ≤ 360 := by
      constructor
      · exact Int.mul_nonneg (by omega) (by omega)
      · have := Int.mul_le_mul_of_nonneg_right b12 (show 0 ≤ M by omega)
        omega
    refine ⟨.ref p, rfl, p, dx, _, rfl, R.ob, rdD ⟨td, ds, rfl, .of R.td, .int ss.sum, rfl, .int M, rfl, _, _, rfl, rfl, .inl ⟨by omega, by omega⟩, _, _, rfl, rfl, ?_⟩⟩
    -- latest = total = slowest_met = 0; left = number
    refine ⟨.int x, rfl, ?_⟩
    -- for step in range(len(ring))
    refine ⟨.ref p, rfl, p, dx, _, rfl, R.ob, p, dx, td, ts, ds, ss, rfl, R, (ds.length : Int), rfl, by omega, by omega, (ds.length : Int), rfl, by omega, by omega, for_range (lo := 0) (n := ((ds.length : Int) - 0).toNat)
      (fun i σ H' => H' = H ∧ ∃ L y10 y11, σ = edS p r x ss.sum M (ds.sum - ss.sum * M) L ds ss i y10 y11 ∧ sumBack (at' ss) r i ≤ x ∧ Sofar ds.length (at' ds) (at' ss) r x i L)
      ⟨rfl, 0, none, none, ?_, ?_, RR.sofar0 r x⟩ ?_ ?_⟩
    · show _ = ([some (.ref p), some (.int r), some (.int x), some (.int ss.sum), some (.int M), some (.int (ds.sum - ss.sum * M)), some (.int 0), some (.int 0), some (.int 0), some (.int (x - 0)), none, none] : L2.St)
      rw [show x - 0 = x by omega]
      rfl
    · show (0 : Int) ≤ x
      exact x0
    · rintro i σ H1 hi ⟨rfl, L, y10, y11, rfl, hle, SF⟩
      have hin : i < ds.length := by omega
      have e0 : (0 : Int) + (i : Int) = i := by omega
      have hix : atI (ds.map V.int) (r - (0 + (i : Int))) = some (.int (at' ds (r - i))) := by
        rw [e0]
        exact at_ix (by omega) (by omega)
      have hix2 : atI (ss.map V.int) (r - (0 + (i : Int))) = some (.int (at' ss (r - i))) := by
        rw [e0]
        exact at_ix (by omega) (by omega)
      -- total
      refine ⟨.int (sumBack (at' ds) r i), rfl, .ref p, rfl, p, dx, _, rfl, R.ob, rdD ⟨.int r, rfl, _, rfl, _, _, rfl, rfl, td, _, _, _, rfl, rfl, .of R.td, hix, _, _, rfl, rfl, ?_⟩⟩
      -- slowest_met
      refine ⟨_, rfl, .ref p, rfl, p, dx, _, rfl, R.ob, rdD ⟨.int r, rfl, _, rfl, _, _, rfl, rfl, td, _, _, _, rfl, rfl, .of R.td, hix, _, _, rfl, ?_⟩⟩
      rw [met_next RR.d1 r i]
      have hm1 : maxBack (at' ds) r i ≤ M := max_le RR.mu r i
      have hm0 : 1 ≤ maxBack (at' ds) r i := by
        have h1 := max_ge (f := at' ds) r (j := 0) (k := i) (Nat.zero_le _)
        have h2 := RR.d1 (r - (0 : Nat))
        omega
      -- latest
      refine ⟨.int L, rfl, .int (sumBack (at' ds) r (i + 1)), rfl, .int (x - sumBack (at' ss) r i), rfl, .int (maxBack (at' ds) r i), rfl, _, _, rfl, rfl, .inr ⟨by omega, by omega⟩, _, _, rfl, rfl, _, _, rfl, ?_⟩
      rw [max_if]
      have hch : sumBack (at' ds) r (i + 1) + (x - sumBack (at' ss) r i) * maxBack (at' ds) r i = ch (at' ds) (at' ss) r i x := rfl
      rw [hch]
      have hs : sumBack (at' ss) r (i + 1) = sumBack (at' ss) r i + at' ss (r - i) := rfl
      -- the end of a turn
      have fin : ∀ (L2 : Int) (y11' : Option V), Sofar ds.length (at' ds) (at' ss) r x (i + 1) L2 → tSeq (tAug 9 (tOp (rIxT K) (tProp T.C (spStarts T.C) [] E0 (tVar 0)) (tOp (rI0 fun i j => .int (i - j)) (tVar 1) (tVar 10))) (ipI fun i j => i - j)) (tIfS (tTest (tOp (rI0 fun i j => .bl (decide (i < j))) (tVar 9) (tC (.int 0)))) tBreak tNext)
          { nx := fun σ H' => H' = H1 ∧ ∃ L y10 y11, σ = edS p r x ss.sum M (ds.sum - ss.sum * M) L ds ss (i + 1) y10 y11 ∧ sumBack (at' ss) r (i + 1) ≤ x ∧ Sofar ds.length (at' ds) (at' ss) r x (i + 1) L,
            ct := fun σ H' => H' = H1 ∧ ∃ L y10 y11, σ = edS p r x ss.sum M (ds.sum - ss.sum * M) L ds ss (i + 1) y10 y11 ∧ sumBack (at' ss) r (i + 1) ≤ x ∧ Sofar ds.length (at' ds) (at' ss) r x (i + 1) L,
            rt := Q, bk := fun σ H' => tRet (tVar 6) { nx := fun _ H' => Q .non H', rt := Q } σ H' }
          [some (.ref p), some (.int r), some (.int x), some (.int ss.sum), some (.int M), some (.int (ds.sum - ss.sum * M)), some (.int L2), some (.int (sumBack (at' ds) r (i + 1))), some (.int (maxBack (at' ds) r i)), some (.int (x - sumBack (at' ss) r i)), some (.int (0 + (i : Int))), y11'] H1 := by
        intro L2 y11' SF2
        refine ⟨_, rfl, .ref p, rfl, p, dx, _, rfl, R.ob, rdS ⟨.int r, rfl, _, rfl, _, _, rfl, rfl, ts, _, _, _, rfl, rfl, .of R.ts, hix2, _, _, rfl, rfl, ?_⟩⟩
        have el : x - sumBack (at' ss) r i - at' ss (r - i) = x - sumBack (at' ss) r (i + 1) := by omega
        refine ⟨.int (x - sumBack (at' ss) r i - at' ss (r - i)), rfl, _, _, rfl, rfl, _, rfl, ?_⟩
        by_cases hb : x - sumBack (at' ss) r i - at' ss (r - i) < 0
        · rw [decide_eq_true hb]
          refine iteT ⟨.int L2, rfl, ?_⟩
          have := RR.E_of (RR.fin SF2 (.inr ⟨by omega, by omega⟩))
          rw [this] at q
          exact q
        · rw [decide_eq_false hb]
          refine iteF ⟨rfl, L2, some (.int (0 + (i : Int))), y11', ?_, by omega, SF2⟩
          unfold edS
          rw [← el]
          rfl
      -- if left >= books
      refine ⟨.int (x - sumBack (at' ss) r i), rfl, .int ss.sum, rfl, _, _, rfl, rfl, _, rfl, ?_⟩
      by_cases hb : ss.sum ≤ x - sumBack (at' ss) r i
      · rw [decide_eq_true hb]
        refine iteT ?_
        have go : ∀ rounds : Int, rounds = (if 0 < ds.sum - ss.sum * M then (x - sumBack (at' ss) r i) / ss.sum else 1) → _ := fun rounds hrd =>
          fin (max (max L (ch (at' ds) (at' ss) r i x)) (sumBack (at' ds) r (i + 1) + (x - sumBack (at' ss) r i) * M + rounds * (ds.sum - ss.sum * M))) (some (.int rounds)) (RR.step SF hle (by rw [if_pos hb, hrd]))
        -- rounds
        refine ⟨.int (ds.sum - ss.sum * M), rfl, _, _, rfl, rfl, _, rfl, ?_⟩
        by_cases hg : 0 < ds.sum - ss.sum * M
        · rw [decide_eq_true hg]
          refine iteT ⟨.int (x - sumBack (at' ss) r i), rfl, .int ss.sum, rfl, _, _, rfl, rfl, ⟨by omega, by omega⟩, ?_⟩
          refine ⟨_, rfl, .int (sumBack (at' ds) r (i + 1)), rfl, .int (x - sumBack (at' ss) r i), rfl, .int M, rfl, _, _, rfl, rfl, .inr ⟨by omega, by omega⟩, _, _, rfl, rfl, _, rfl, .int (ds.sum - ss.sum * M), rfl, _, _, rfl, rfl, .inr ⟨by omega, by omega⟩, _, _, rfl, rfl, _, _, rfl, ?_⟩
          rw [max_if]
          exact go _ (by rw [if_pos hg])
        · rw [decide_eq_false hg]
          refine iteF ?_
          refine ⟨_, rfl, .int (sumBack (at' ds) r (i + 1)), rfl, .int (x - sumBack (at' ss) r i), rfl, .int M, rfl, _, _, rfl, rfl, .inr ⟨by omega, by omega⟩, _, _, rfl, rfl, _, rfl, .int (ds.sum - ss.sum * M), rfl, _, _, rfl, rfl, .inr ⟨by omega, by omega⟩, _, _, rfl, rfl, _, _, rfl, ?_⟩
          rw [max_if]
          exact go _ (by rw [if_neg hg])
      · rw [decide_eq_false hb]
        refine iteF ?_
        exact fin _ y11 (RR.step SF hle (by rw [if_neg hb]))
    · rintro σ H1 ⟨rfl, L, y10, y11, rfl, hle, SF⟩
      have := RR.E_of (RR.fin SF (.inl (by omega)))
      rw [this] at q
      exact ⟨.int L, rfl, q⟩
end
end Rp
namespace Rp
open PySem PySem.Spec PyProof.Rows L2 Rz Rm
/-- readings and days of a repetition -/
def RepIs (T B M p q : Int) : Prop := (T ≤ M * B ∧ p = 1 ∧ q = M) ∨ (¬ T ≤ M * B ∧ p = B ∧ q = T)
theorem at_emod {ss : List Int} (i : Int) : at' ss (i % (ss.length : Int)) = at' ss i := by
  unfold at'
  rw [Int.emod_emod_of_dvd _ (Int.dvd_refl _)]
theorem emod_pred (z n : Int) : (z % n - 1) % n = (z - 1) % n := by
  have h := Int.emod_add_mul_ediv z n
  have e : z - 1 = (z % n - 1) + n * (z / n) := by omega
  rw [e, Int.add_mul_emod_self_left]
/-- the book of place q at reader r -/
def Bk (ss : List Int) (r q v : Int) : Prop := ∃ i : Nat, i < ss.length ∧ sumBack (at' ss) r i ≤ q ∧ q < sumBack (at' ss) r (i + 1) ∧ v = (ss.take ((r - i) % (ss.length : Int)).toNat).sum + (q - sumBack (at' ss) r i)
theorem Bk.inj {ss : List Int} (h0 : ∀ i, 0 ≤ at' ss i) {r q v v' : Int} (h : Bk ss r q v) (h' : Bk ss r q v') : v = v' := by
  obtain ⟨i, _, a1, a2, rfl⟩ := h
  obtain ⟨j, _, b1, b2, rfl⟩ := h'
  have e : i = j := by
    rcases Nat.lt_trichotomy i j with z | z | z
    · have := sum_mono h0 r (show i + 1 ≤ j by omega)
      omega
    · exact z
    · have := sum_mono h0 r (show j + 1 ≤ i by omega)
      omega
  rw [e]
section
variable {P : Program} {w : World} {K : PySem.W.Frag} {mg : Str → Option Value} {base : Heap}
/-! ### ring(reader, number) -/
def spCall (C : Addr) : Sp := fun vs H Q _ => ∃ p dx td ts ds ss, ∃ r x : Int, vs = [.ref p, .int r, .int x] ∧ RingAt C H p dx td ts ds ss ∧ 0 ≤ r ∧ r < ds.length ∧ 0 ≤ x ∧ x ≤ 1000000000000000000 ∧ Q (.int (Rm.E (at' ds) (at' ss) r x)) H
theorem ok_call (T : Tx K mg) : FnOk P w K mg base CX0 4 T.a_rcall T.d_rcall P_rcall (spCall T.C) := by
  refine T.F_rcall.ok sc_rcall (fun vs H Q E h => ?_) (fun cdv A outer s H vs Q E hr h => ?_)
  · obtain ⟨p, dx, td, ts, ds, ss, r, x, rfl, _⟩ := h
    rfl
  · obtain ⟨p, dx, td, ts, ds, ss, r, x, rfl, R, r0, r1, x0, x1, q⟩ := h
    obtain ⟨u1, c1⟩ := T.c_LATEST
    refine ⟨_, pss_cons (ps_expr (pe_call (ok_reader T) hr (by rfl) T.g_check_reader T.F_check_reader.kp T.b_check_reader .nil pass0 (pa_cons (pv 0) (pa_cons (pv 1) pa_nil))))
      (pss_cons (ps_expr (pe_call (ok_chk T) hr (by rfl) T.g_check_number T.F_check_number.kp T.b_check_number .nil pass0 (pa_cons (pv 2) (pa_cons pe_int (pa_cons (pe_glob (v := .int 1000000000000000000) (by rfl) c1 ⟨_, rfl⟩) pa_nil)))))
      (pss_one (ps_ret (pe_call (ok_end T) hr (by rfl) T.g_end_day T.F_end_day.kp T.b_end_day .nil pass0 (pa_cons (pv 0) (pa_cons (pv 1) (pa_cons (pv 2) pa_nil))))))), ?_⟩
    refine ⟨_, rfl, _, rfl, p, dx, td, ts, ds, ss, r, rfl, R, r0, r1, ?_⟩
    refine ⟨_, rfl, x, 0, 1000000000000000000, rfl, x0, x1, ?_⟩
    exact ⟨_, rfl, _, rfl, _, rfl, p, dx, td, ts, ds, ss, r, x, rfl, R, r0, r1, x0, q⟩
/-! ### reader_before -/
def spBefore (C : Addr) : Sp := fun vs H Q _ => ∃ p dx td ts ds ss, ∃ r : Int, vs = [.ref p, .int r] ∧ RingAt C H p dx td ts ds ss ∧ Q (.int ((r - 1) % (ds.length : Int))) H
theorem ok_before (T : Tx K mg) : FnOk P w K mg base CX0 3 T.a_reader_before T.d_reader_before P_reader_before (spBefore T.C) := by
  refine T.F_reader_before.ok sc_reader_before (fun vs H Q E h => ?_) (fun cdv A outer s H vs Q E hr h => ?_)
  · obtain ⟨p, dx, td, ts, ds, ss, r, rfl, _⟩ := h
    rfl
  · obtain ⟨p, dx, td, ts, ds, ss, r, rfl, R, q⟩ := h
    have l2 := R.ok.l2
    have l8 := R.ok.l8
    refine ⟨_, pss_one (ps_ret (pe_op op_mod (pe_callTy call_int1 (by rfl) T.z_int (by decide +kernel) (pa_cons (pe_op op_sub (pv 1) pe_int) pa_nil))
      (pe_callB (call_lenI T.lenC T.lenF ((ok_len T).raw T.b_rlen .nil) hr pass0) (by rfl) T.z_len PySem.boot_len (pa_cons (pv 0) pa_nil)))), ?_⟩
    exact ⟨_, rfl, _, _, rfl, rfl, .inl ⟨_, rfl, _, rfl, p, dx, _, rfl, R.ob, p, dx, td, ts, ds, ss, rfl, R, _, rfl, by omega, by omega, _, _, rfl, rfl, by show (0 : Int) < ds.length; omega, q⟩⟩
end
end Rp
namespace Rp
open PySem PySem.Spec PyProof.Rows L2 Rz Rm
theorem cut_front {xs : List V} {r : Int} (h0 : 0 ≤ r) (h1 : r < xs.length) : cutV xs none (some r) = xs.take r.toNat ∧ ¬ (HT.sIx xs.length 0 none = 0 ∧ HT.sIx xs.length xs.length (some r) = xs.length) := by
  have e : r = ((r.toNat : Nat) : Int) := by omega
  have e1 : HT.sIx xs.length xs.length (some r) = r.toNat := by
    rw [e, HT.sIx_nat]
    omega
  constructor
  · unfold cutV
    rw [HT.sIx_none, e1]
    simp
  · rw [e1]
    omega
theorem sum_le_zero : ∀ {l : List Int}, (∀ y ∈ l, y ≤ 0) → l.sum ≤ 0
  | [], _ => by simp
  | a :: r, h => by
    have h1 := h a List.mem_cons_self
    have ih := sum_le_zero (l := r) fun y hy => h y (List.mem_cons_of_mem _ hy)
    rw [List.sum_cons]
    omega
section
variable {N : Nat} {d s : Int → Int} {B T M : Int} (R : Rm.Ring N d s B T M)
include R
theorem _root_.Rm.Ring.rep_big {p q x : Int} (h : RepIs T B M p q) (hx : 4 * B + B * M ≤ x) : Rep d s p q x := by
  rw [RepIs, Int.mul_comm M B] at h
  rcases h with ⟨h1, rfl, rfl⟩ | ⟨h1, rfl, rfl⟩
  · exact R.rep_slow h1 hx
  · exact R.rep_fast (by omega) hx
theorem _root_.Rm.Ring.p1 {p q : Int} (h : RepIs T B M p q) : 1 ≤ p := by
  have := R.b1
  rcases h with ⟨_, rfl, _⟩ | ⟨_, rfl, _⟩ <;> omega
end
section
variable {P : Program} {w : World} {K : PySem.W.Frag} {mg : Str → Option Value} {base : Heap}
/-! ### book_of -/
def spBook (C : Addr) : Sp := fun vs H Q _ => ∃ p dx td ts ds ss, ∃ r x : Int, vs = [.ref p, .int r, .int x] ∧ RingAt C H p dx td ts ds ss ∧ 0 ≤ r ∧ r < ds.length ∧ 0 ≤ x ∧ x ≤ 1000000000000000000 ∧ ∀ v H', Same H H' → Bk ss r (x % ss.sum) v → Q (.int v) H'
theorem ok_book (T : Tx K mg) : FnOk P w K mg base CX0 5 T.a_book_of T.d_book_of P_book_of (spBook T.C) := by
  refine T.F_book_of.ok sc_book_of (fun vs H Q E h => ?_) (fun cdv A outer s H vs Q E hr h => ?_)
  · obtain ⟨p, dx, td, ts, ds, ss, r, x, rfl, _⟩ := h
    rfl
  · obtain ⟨p, dx, td, ts, ds, ss, r, x, rfl, R, r0, r1, x0, x1, q⟩ := h
    obtain ⟨u1, c1⟩ := T.c_LATEST
    have hr3 : Room 3 _ := hr.mono (by decide)
    have hr2 : Room 2 _ := hr.mono (by decide)
    have nd := sc_book_of.nd
    have ls := R.ok.ls
    have b1 := R.ok.b1
    obtain ⟨M, hM, hMu⟩ := R.ok.max
    have RR := R.ok.ring hM hMu
    have rdS : ∀ {Q' : VK} {E' : XK}, Q' (.ref ts) H → spStarts T.C [.ref p] H Q' E' := fun z => ⟨p, dx, td, ts, ds, ss, rfl, R, z⟩
    refine ⟨_, pss_cons (ps_expr (pe_call (ok_reader T) hr3 (by rfl) T.g_check_reader T.F_check_reader.kp T.b_check_reader .nil pass0 (pa_cons (pv 0) (pa_cons (pv 1) pa_nil))))
      (pss_cons (ps_expr (pe_call (ok_chk T) hr3 (by rfl) T.g_check_number T.F_check_number.kp T.b_check_number .nil pass0 (pa_cons (pv 2) (pa_cons pe_int (pa_cons (pe_glob (v := .int 1000000000000000000) (by rfl) c1 ⟨_, rfl⟩) pa_nil)))))
      (pss_cons (ps_set (i := 3) nd rfl (.inl rfl) (pe_op op_mod (pe_callTy call_int1 (by rfl) T.z_int (by decide +kernel) (pa_cons (pv 2) pa_nil)) (pe_prop (pv 0) T.cl T.q_rbooks (ok_books T) hr2 T.b_rbooks .nil pass0 rfl)))
      (pss_cons (ps_while PassesOwn.never (pt_cmpR op_ge (pv 3) (pe_ix ix_tup (pe_prop (pv 0) T.cl T.q_rstarts (ok_starts T) hr2 T.b_rstarts .nil pass0 rfl) (pv 1) (fun _ _ => rfl)) (nomark _))
        (pss_cons (ps_aug (i := 3) nd rfl (.inl rfl) (pe_ix ix_tup (pe_prop (pv 0) T.cl T.q_rstarts (ok_starts T) hr2 T.b_rstarts .nil pass0 rfl) (pv 1) (fun _ _ => rfl)) ip_sub)
        (pss_one (ps_set (i := 1) nd rfl (.inl rfl) (pe_call (ok_before T) hr3 (by rfl) T.g_reader_before T.F_reader_before.kp T.b_reader_before .nil pass0 (pa_cons (pv 0) (pa_cons (pv 1) pa_nil)))))))
      (pss_one (ps_ret (pe_op op_add (pe_callB (cr_sumT rfl) (by rfl) T.z_sum (by decide +kernel) (pa_cons (pe_slice sl_tup (pe_prop (pv 0) T.cl T.q_rstarts (ok_starts T) hr2 T.b_rstarts .nil pass0 rfl) po_none (po_some (pv 1))) pa_nil)) (pv 3))))))), ?_⟩
    refine ⟨_, rfl, _, rfl, p, dx, td, ts, ds, ss, r, rfl, R, r0, r1, ?_⟩
    refine ⟨_, rfl, x, 0, 1000000000000000000, rfl, x0, x1, ?_⟩
    refine ⟨_, rfl, .inl ⟨x, rfl, _, rfl, p, dx, _, rfl, R.ob, p, dx, td, ts, ds, ss, rfl, R, _, _, rfl, rfl, by show (0 : Int) < ss.sum; omega, ?_⟩⟩
    have q0 : 0 ≤ x % ss.sum := Int.emod_nonneg _ (by omega)
    have q1 : x % ss.sum < ss.sum := Int.emod_lt_of_pos _ (by omega)
    obtain ⟨y, hy⟩ : ∃ y, y = x % ss.sum := ⟨_, rfl⟩
    rw [← hy] at q q0 q1
    have rj : ∀ i : Nat, 0 ≤ (r - i) % (ss.length : Int) ∧ (r - i) % (ss.length : Int) < ss.length := fun i => ⟨Int.emod_nonneg _ (by omega), Int.emod_lt_of_pos _ (by omega)⟩
    refine ⟨fun m σ H' => H' = H ∧ ∃ i : Nat, m = ss.length - i ∧ i < ss.length ∧ σ = [some (.ref p), some (.int ((r - i) % (ss.length : Int))), some (.int x), some (.int (y - sumBack (at' ss) r i))] ∧ sumBack (at' ss) r i ≤ y, ⟨ss.length, rfl, 0, rfl, by omega, ?_, q0⟩, ?_⟩
    · show ([some (.ref p), some (.int r), some (.int x), some (.int (x % ss.sum))] : L2.St) = [some (.ref p), some (.int ((r - (0 : Nat)) % (ss.length : Int))), some (.int x), some (.int (y - 0))]
      rw [← hy, show r - ((0 : Nat) : Int) = r by omega, Int.emod_eq_of_lt r0 (by omega), show y - 0 = y by omega]
    · rintro m σ H1 ⟨rfl, i, rfl, hi, rfl, hS⟩
      have hix : atI (ss.map V.int) ((r - i) % (ss.length : Int)) = some (.int (at' ss (r - i))) := by
        rw [at_ix (by have := (rj i).1; omega) (rj i).2, at_emod]
      refine ⟨_, rfl, _, rfl, p, dx, _, rfl, R.ob, rdS ⟨_, rfl, ts, _, _, _, rfl, rfl, .of R.ts, hix, _, _, rfl, rfl, _, rfl, ?_⟩⟩
      have hs : sumBack (at' ss) r (i + 1) = sumBack (at' ss) r i + at' ss (r - i) := rfl
      by_cases hc : at' ss (r - i) ≤ y - sumBack (at' ss) r i
      · rw [decide_eq_true hc]
        have hi2 : i + 1 < ss.length := by
          have hb := RR.b r
          rw [← ls] at hb
          rcases Nat.lt_or_ge (i + 1) ss.length with z | z
          · exact z
          · have e : i + 1 = ss.length := by omega
            rw [e] at hs
            omega
        refine iteT ⟨fun σ' H' => H' = H1 ∧ σ' = [some (.ref p), some (.int ((r - (i + 1 : Nat)) % (ss.length : Int))), some (.int x), some (.int (y - sumBack (at' ss) r (i + 1)))], fun σ' H' ⟨e1, e2⟩ => ⟨ss.length - (i + 1), by omega, e1, i + 1, rfl, hi2, e2, by omega⟩, ?_⟩
        refine ⟨_, rfl, _, rfl, p, dx, _, rfl, R.ob, rdS ⟨_, rfl, ts, _, _, _, rfl, rfl, .of R.ts, hix, _, _, rfl, rfl, ?_⟩⟩
        refine ⟨_, rfl, _, rfl, p, dx, td, ts, ds, ss, _, rfl, R, rfl, ?_⟩
        show ([some (.ref p), some (.int (((r - i) % (ss.length : Int) - 1) % (ds.length : Int))), some (.int x), some (.int (y - sumBack (at' ss) r i - at' ss (r - i)))] : L2.St) = _
        rw [← ls, emod_pred, show r - (i : Int) - 1 = r - (i + 1 : Nat) by omega, show y - sumBack (at' ss) r i - at' ss (r - i) = y - sumBack (at' ss) r (i + 1) by omega]
      · rw [decide_eq_false hc]
        refine iteF ?_
        obtain ⟨hcut, hnot⟩ := cut_front (xs := ss.map V.int) (r := (r - i) % (ss.length : Int)) (rj i).1 (by rw [List.length_map]; exact (rj i).2)
        refine ⟨_, rfl, p, dx, _, rfl, R.ob, rdS ⟨_, rfl, _, rfl, ts, _, rfl, .of R.ts, hnot, fun pn np => ?_⟩⟩
        refine ⟨pn, ss.take ((r - i) % (ss.length : Int)).toNat, rfl, .of (by rw [upd_same, hcut, List.map_take]), _, rfl, _, _, rfl, rfl, ?_⟩
        exact q _ _ (same_upd np) ⟨i, hi, hS, by omega, rfl⟩
end
end Rp
namespace Rp
open PySem PySem.Spec PyProof.Rows L2 Rz Rm
/-! ### the drawn row -/
/-- all that was tracked but the row is as it was -/
def Kp (row : Addr) (H H' : Hp) : Prop := ∀ b o, H b = some o → b ≠ row → H' b = some o
theorem Kp.refl (row : Addr) (H : Hp) : Kp row H H := fun _ _ h _ => h
theorem Kp.trans {row : Addr} {H H1 H2 : Hp} (a : Kp row H H1) (b : Kp row H1 H2) : Kp row H H2 := fun c o h n => b c o (a c o h n) n
theorem Same.kp {row : Addr} {H H' : Hp} (s : Same H H') : Kp row H H' := fun b o h _ => s b o h
/-- the script stands in the written part -/
def Wr (K : PySem.W.Frag) (a : Addr) (xs : List V) : Prop := ∃ (o : Obj) (its : Array Value) (n : Nat), K.lookup a = some o ∧ o.cls = .type "list" ∧ o.dict = none ∧ o.data = .seq its n ∧ its.size ≤ sizeLine ∧ Vals xs its.toList
theorem far_of {K : PySem.W.Frag} {H : Hp} {D a : Addr} {xs : List V} (h : SqL K H a xs) (hD : H D = none) : D ≠ a ∨ Wr K a xs := by
  rcases h with (h | ⟨o, h⟩) | h
  · exact .inl fun e => by rw [e, h] at hD; cases hD
  · exact .inl fun e => by rw [e, h] at hD; cases hD
  · exact .inr h
theorem sq_upd {K : PySem.W.Frag} {H : Hp} {D a : Addr} {xs : List V} {o : HO} (h : SqL K H a xs) (f : D ≠ a ∨ Wr K a xs) : SqL K (upd H D o) a xs := by
  rcases f with f | f
  · rcases h with (h | ⟨u, h⟩) | h
    · exact .inl (.inl (by rw [upd_ne f.symm]; exact h))
    · exact .inl (.inr ⟨u, by rw [upd_ne f.symm]; exact h⟩)
    · exact .inr h
  · exact .inr f
structure RowAt (K : PySem.W.Frag) (H : Hp) (row a : Addr) (ns : List Int) : Prop where
  ob : ∃ i m q : Int, H row = some (.lst [.ref a, .int i, .int m, .int q]) ∧ 0 ≤ i
  sc : SqL K H a (ns.map V.int)
  ne : row ≠ a ∨ Wr K a (ns.map V.int)
theorem RowAt.same {K : PySem.W.Frag} {H H' : Hp} {row a : Addr} {ns : List Int} (R : RowAt K H row a ns) (s : Same H H') : RowAt K H' row a ns := by
  obtain ⟨i, m, q, h, h0⟩ := R.ob
  exact ⟨⟨i, m, q, s _ _ h, h0⟩, s.seq R.sc, R.ne⟩
theorem kp_upd {row : Addr} {H : Hp} {o : HO} : Kp row H (upd H row o) := fun b z h n => by
  rw [upd_ne n]
  exact h
/-- the row is written -/
theorem RowAt.put {K : PySem.W.Frag} {H : Hp} {row a : Addr} {ns : List Int} (R : RowAt K H row a ns) {i m q : Int} (h : 0 ≤ i) : RowAt K (upd H row (.lst [.ref a, .int i, .int m, .int q])) row a ns :=
  ⟨⟨i, m, q, upd_same, h⟩, sq_upd R.sc R.ne, R.ne⟩
theorem first_ix : ∀ {l : List Int} {m : Int}, m ∈ l → ∃ j : Nat, l[j]? = some m ∧ ∀ k z, k < j → l[k]? = some z → z ≠ m
  | a :: r, m, h => by
    by_cases e : a = m
    · exact ⟨0, by simp [e], fun k z hk => absurd hk (Nat.not_lt_zero _)⟩
    · obtain ⟨j, h1, h2⟩ := first_ix (l := r) (m := m) (by
        rcases List.mem_cons.mp h with q | q
        · exact absurd q.symm e
        · exact q)
      refine ⟨j + 1, by simpa using h1, fun k z hk hz => ?_⟩
      cases k with
      | zero =>
        simp at hz
        rw [← hz]
        exact e
      | succ k => exact h2 k z (by omega) (by simpa using hz)
theorem mem_le_sum : ∀ {l : List Int}, (∀ y ∈ l, 0 ≤ y) → ∀ x ∈ l, x ≤ l.sum
  | a :: r, h, x, hx => by
    have ha := h a List.mem_cons_self
    have hr : ∀ y ∈ r, 0 ≤ y := fun y hy => h y (List.mem_cons_of_mem _ hy)
    have hs : 0 ≤ r.sum := sum_nonneg' hr
    rw [List.sum_cons]
    rcases List.mem_cons.mp hx with e | e
    · omega
    · have := mem_le_sum hr x e
      omega
where sum_nonneg' : ∀ {l : List Int}, (∀ y ∈ l, 0 ≤ y) → 0 ≤ l.sum
  | [], _ => by simp
  | a :: r, h => by
    have h1 := h a List.mem_cons_self
    have h2 := sum_nonneg' (l := r) fun y hy => h y (List.mem_cons_of_mem _ hy)
    rw [List.sum_cons]
    omega
theorem mem_set {l : List Int} {j : Nat} {v y : Int} (h : y ∈ l.set j v) : y ∈ l ∨ y = v := List.mem_or_eq_of_mem_set h
theorem flat_ints (l : List Int) : (l.map V.int).all flatV = true := by
  rw [List.all_eq_true]
  intro x hx
  obtain ⟨i, _, rfl⟩ := List.mem_map.mp hx
  rfl
theorem lc_keep {σ : L2.St} {H : Hp} {F G : Hp → Prop} (h : F H) : tYes σ H (fun b H3 => if b = true then F H3 else G H3) := by
  show if true = true then F H else G H
  rw [if_pos rfl]
  exact h
theorem map_snoc (l : List Int) (v : Int) : l.map V.int ++ [V.int v] = (l ++ [v]).map V.int := by
  rw [List.map_append]
  rfl
theorem RowAt.upd' {K : PySem.W.Frag} {H : Hp} {D row a : Addr} {ns : List Int} {o : HO} (R : RowAt K H row a ns) (n : D ≠ row) (f : D ≠ a ∨ Wr K a (ns.map V.int)) : RowAt K (upd H D o) row a ns := by
  obtain ⟨i, m, q, h, h0⟩ := R.ob
  exact ⟨⟨i, m, q, by rw [upd_ne n.symm]; exact h, h0⟩, sq_upd R.sc f, R.ne⟩
theorem RowAt.nn {K : PySem.W.Frag} {H : Hp} {D row a : Addr} {ns : List Int} (R : RowAt K H row a ns) (h : H D = none) : D ≠ row := fun e => by
  obtain ⟨i, m, q, h2, _⟩ := R.ob
  rw [e, h2] at h
  cases h
theorem kp_new {row D : Addr} {H0 H : Hp} {o : HO} (k : Kp row H0 H) (h : H0 D = none) : Kp row H0 (upd H D o) := fun b z e n => by
  rw [upd_ne (ne_of_none e h)]
  exact k b z e n
end Rp
/-! More rules beside the layer's: a range that stands in a slot, walked; a tuple's index of an int. -/
namespace Rz
open PySem PySem.Spec PyProof.Rows L2
section
variable {X : Cx}
def iRngV (te : TE) : TI := fun σ H R => te σ H fun x H1 => ∃ a lo hi, x = .ref a ∧ H1 a = some (.rng lo hi) ∧ (-(2 ^ 62) ≤ lo ∧ lo < 2 ^ 62 ∧ -(2 ^ 62) ≤ hi ∧ hi < 2 ^ 62) ∧ R (Itr lo (hi - lo).toNat) H1
theorem pi_rngV {tg e : Expr} {te : TE} (he : PE X e te) : PI X tg e (iRngV te) := by
  refine ⟨fun pins s σ H R I h => ?_⟩
  refine thn (he.run pins s σ H _ I h) fun v s1 ⟨x, H1, I1, r1, q1⟩ => ?_
  obtain ⟨a, lo, hi, ex, ha, ⟨h1, h2, h3, h4⟩, q⟩ := q1
  subst ex
  cases r1
  obtain ⟨t, u, v, ho⟩ := (show ObjOk X.prog X.w H1 s1.heap a (.rng lo hi) from I1.hok a _ ha)
  refine wpAny_pyIter_range (show IsRange s1.heap a lo hi 1 t u v from ho) (small_one h1 h2 h3 h4) ?_
  refine ⟨s1.heap.objs.size, [s1.heap.objs.size], _, _, H1, rfl, I1.kept (t' := s1.toks) fun b o e => Heap.get?_push_of_some _ e, turn_range _ lo (hi - lo).toNat, ?_, fun b hb => ?_, q⟩
  · have e1 : lo + ((0 : Nat) : Int) * 1 = lo := by simp
    have e2 : (((hi - lo).toNat : Nat) : Int) - ((0 : Nat) : Int) = Builtin.Range.rangeSize lo hi 1 := by rw [rangeSize_one]; split <;> omega
    show IsRangeIter _ _ (lo + ((0 : Nat) : Int) * 1) ((((hi - lo).toNat : Nat) : Int) - ((0 : Nat) : Int)) 1
    rw [e1, e2]
    exact Heap.get?_push_size _ rfl
  · have e : b = s1.heap.objs.size := by simpa using hb
    subst e
    exact I1.fpOk (Nat.le_refl _) (I1.hok.fresh (Nat.le_refl _))
/-- t.index(i), the first place -/
theorem mt_tup_indexI : MtR X "tuple.index" (fun x xs H Q => ∃ p, ∃ ys : List Int, ∃ z j, x = .ref p ∧ xs = [.int z] ∧ SqT X.K H p (ys.map V.int) ∧ ys[j]? = some z ∧ (∀ m y, m < j → ys[m]? = some y → y ≠ z) ∧ Q (.int (j : Nat)) H) := by
  intro pins s σ H x xs v us Q I rx rs h
  obtain ⟨p, ys, z, j, rfl, rfl, hq, hy, hno, q⟩ := h
  cases rx
  obtain ⟨u, rfl, t, rfl⟩ := vals1 rs
  obtain ⟨its, r, pl, hz⟩ := I.tuple hq
  obtain ⟨⟨cls, dd, dt, sl⟩, ho, hc, n, hd⟩ := pl
  simp only at hc hd
  subst hc
  subst hd
  have fl : (ys.map V.int).all flatV = true := by
    rw [List.all_eq_true]
    intro x hx
    obtain ⟨i, _, rfl⟩ := List.mem_map.mp hx
    rfl
  have hl : its.toArray.size = ys.length := by rw [List.size_toArray, ← r.length, List.length_map]
  have hj : j < its.toArray.size := by rw [hl]; exact (List.getElem?_eq_some_iff.mp hy).1
  have at' : ∀ (m : Nat) (hm : m < its.toArray.size), ∃ y t', ys[m]? = some y ∧ its.toArray[m] = Value.int y t' := fun m hm => by
    have hm' : m < ys.length := by rw [← hl]; exact hm
    obtain ⟨w, hw, t', hw'⟩ := r.get (i := m) (x := .int ys[m]) (by simp [hm'])
    refine ⟨ys[m], t', List.getElem?_eq_getElem hm', ?_⟩
    have e := (List.getElem?_eq_some_iff.mp hw).2
    rw [← hw', ← e]
    simp
  refine call_meets PySem.F.slot_tuple_index ⟨_, ho, rfl⟩ PySem.F.entry_tuple_index (PySem.F.args_tuple_index_2 _ _) (TI.tuple_indexAt p its.toArray n dd sl (.int z t) (eqU (.int z)) j hj ?_ ?_)
    ⟨ho, fun w hw => mem_eqAt (x := .int z) ⟨t, rfl⟩ rfl r fl w (by simpa using hw), ⟨.int (j : Nat), H, I.tok _, ⟨_, rfl⟩, q⟩⟩
  · obtain ⟨y, t', h1, h2⟩ := at' j hj
    rw [hy] at h1
    cases h1
    rw [h2]
    show (z == z) = true
    exact beq_self_eq_true z
  · intro m hm hmj
    obtain ⟨y, t', h1, h2⟩ := at' m hm
    rw [h2]
    show (y == z) = false
    exact beq_eq_false_iff_ne.mpr (hno m y hmj h1)
end
end Rz
namespace Rp
open PySem PySem.Spec PyProof.Rows L2 Rz Rm
section
variable {K : PySem.W.Frag} {H : Hp} {Q : VK} {a b : Addr} {xs ys : List V}
theorem sl_from {k : Int} (ha : H a = some (.tup xs)) (k0 : 0 ≤ k) (k1 : k ≤ xs.length) (h : ∀ H' p, Same H H' → H' p = some (.tup (xs.drop k.toNat)) → Q (.ref p) H') : rSlA K (.ref a) (some k) none H Q := by
  have e : k = ((k.toNat : Nat) : Int) := by omega
  have e0 : HT.sIx xs.length 0 (some k) = k.toNat := by
    rw [e, HT.sIx_nat]
    omega
  have e1 : cutV xs (some k) none = xs.drop k.toNat := by
    unfold cutV
    rw [e0, HT.sIx_none, List.take_of_length_le (by rw [List.length_drop]; omega)]
  refine ⟨a, xs, rfl, .of ha, fun z => h H a (fun _ _ q => q) ?_, fun _ p hp => h _ p (same_upd hp) (by rw [upd_same, e1])⟩
  rw [e0] at z
  rw [ha, z.1]
  rfl
theorem sl_to {k : Int} (ha : H a = some (.tup xs)) (k0 : 0 ≤ k) (k1 : k ≤ xs.length) (h : ∀ H' p, Same H H' → H' p = some (.tup (xs.take k.toNat)) → Q (.ref p) H') : rSlA K (.ref a) none (some k) H Q := by
  have e : k = ((k.toNat : Nat) : Int) := by omega
  have e0 : HT.sIx xs.length xs.length (some k) = k.toNat := by
    rw [e, HT.sIx_nat]
    omega
  have e1 : cutV xs none (some k) = xs.take k.toNat := by
    unfold cutV
    rw [e0, HT.sIx_none, List.drop_zero, Nat.sub_zero]
  refine ⟨a, xs, rfl, .of ha, fun z => h H a (fun _ _ q => q) ?_, fun _ p hp => h _ p (same_upd hp) (by rw [upd_same, e1])⟩
  rw [e0] at z
  rw [ha, z.2, List.take_length]
theorem cat_any (ha : H a = some (.tup xs)) (hb : H b = some (.tup ys)) (hl : xs.length + ys.length ≤ sizeLine) (h : ∀ H' p, Same H H' → H' p = some (.tup (xs ++ ys)) → Q (.ref p) H') : rCatA K (.ref a) (.ref b) H Q := by
  refine ⟨a, b, xs, ys, rfl, rfl, .of ha, .of hb, hl, fun z => h H b (fun _ _ q => q) ?_, fun _ z => h H a (fun _ _ q => q) ?_, fun _ _ p hp => h _ p (same_upd hp) upd_same⟩
  · rw [z, hb]
    rfl
  · rw [z, ha, List.append_nil]
end
theorem noPart {σ : L2.St} {H : Hp} {Q : Option Int → Hp → Prop} (h : Q none H) : tNoPart σ H Q := h
end Rp
/-! Lambdas as values: made and kept (in lists, in slots), with or without a default value. -/
namespace Rl
open PySem PySem.Spec PyProof.Rows L2 LamX
/-- what a lambda is -/
structure LF where
  q : Str
  params : Arguments
  body : Expr
  scope : Scope
  cl : List (Str × Addr)
  dV : Value
  c : Addr
def LamO (f : Addr) (F : LF) : HO := .ext fun h => ∃ (doc pm ctv : Value), h.get? f = some (PySem.W.kdv_obj "<lambda>" F.q F.params (.expr F.body) F.scope F.cl F.dV doc pm F.c ctv)
theorem lamO_ne {f : Addr} {F : LF} (ps : Array Value) : LamO f F ≠ .tbl ps := fun z => by
  unfold LamO at z
  cases z
section
variable {X : Cx} {pins : List (Addr × Obj)} {σ : L2.St} {H : Hp} {s : Shared}
theorem inv_lam {F : LF} {o : Obj} {t' : Nat} {doc pm ctv : Value} (I : Inv X pins σ H s) (ho : o = PySem.W.kdv_obj "<lambda>" F.q F.params (.expr F.body) F.scope F.cl F.dV doc pm F.c ctv) :
    Inv X pins σ (upd H s.heap.objs.size (LamO s.heap.objs.size F)) { s with heap := s.heap.push o, toks := t' } := by
  subst ho
  have e : (s.heap.push (PySem.W.kdv_obj "<lambda>" F.q F.params (.expr F.body) F.scope F.cl F.dV doc pm F.c ctv)).get? s.heap.objs.size = some (PySem.W.kdv_obj "<lambda>" F.q F.params (.expr F.body) F.scope F.cl F.dV doc pm F.c ctv) := Heap.get?_push_size _ rfl
  exact I.laid (a := s.heap.objs.size) (fun b u g => Heap.get?_push_of_some _ g) (Nat.le_refl _) ⟨⟨doc, pm, ctv, e⟩, ⟨_, e⟩, fun h1 h2 ⟨d1, p1, v1, z⟩ st => ⟨d1, p1, v1, st _ z⟩⟩
/-- the rest of the making, the default values evaluated -/
theorem lam_tail {T : List (Addr × Str)} {c P : Addr} {params : Arguments} {body : Expr} {scope : Scope} {pos : Pos} {dV : Value} {E : Value → Shared → Prop} {Q : Value → Shared → Prop} (I : Inv X pins σ H s) (TB : TabB X.base X.mg c P) (hcode : X.env.code = .ref c)
    (hm : (P, X.env.qual ++ "<lambda>") ∈ T) (hu : ∀ p ∈ T, p.1 = P → p.2 = X.env.qual ++ "<lambda>") (hT : Tabs T H) (hfree : ∀ y ∈ scope.names, y.2 = .free → ∃ c, X.env.cells.lookup y.1 = some c)
    (h : ∀ (f c' : Addr) (H1 : Hp) (s' : Shared), Inv X pins σ H1 s' → ExtN H H1 → Tabs T H1 → H f = none → H1 f = some (LamO f ⟨X.env.qual ++ "<lambda>", params, body, scope, cloFrom X.env.cells scope.names [], dV, c'⟩) → H1 c' = some (CodeO c' (X.env.qual ++ "<lambda>")) → Q (.ref f) s') :
    wpAny (model X.prog X.w) X.A (makeTail "<lambda>" (X.env.qual ++ "<lambda>") params (.expr body) scope X.env dV .none none pos pos.line) Q E s := by
  obtain ⟨ps, hP, ht, ha⟩ := hT _ hm
  have bP : s.heap.BuiltinsAt X.mg P := TB.bm.keeps I.bk
  have gP : s.heap.get? P = some { cls := .none, data := .fields ps } := I.hok P _ hP
  cases hc : codeAmong pos ps.toList with
  | none =>
    refine PySem.W.kdv_makeTail (mg := X.mg) (c := c) (P := P) (ps := ps) (closure_ok hfree) I.ok.glob (I.mod.glob.keeps I.bk) hcode (TB.code.keeps I.bk) gP ht hc TB.gP bP fun c' ctv doc h' tk hx hge hlt hrec htb => ?_
    obtain ⟨c2, oc, vs, t, e2, r1, r2, r3⟩ := hrec
    cases e2
    have nC := I.hok.fresh hge
    have J := inv_table (t' := tk) (more := #[rawInt pos.line, rawInt pos.col, .ref c']) (h' := h') I hP (fun b o n e => hx b o n e) htb hge ⟨oc, vs, t, r1, r2, r3⟩
    obtain ⟨H1, hH1⟩ : ∃ H1, H1 = upd (upd H P (.tbl (ps ++ #[rawInt pos.line, rawInt pos.col, .ref c']))) c' (CodeO c' (X.env.qual ++ "<lambda>")) := ⟨_, rfl⟩
    have ext1 : ExtN H H1 := fun b o e n => by
      rw [hH1, upd_ne (ne_of_none e nC), upd_ne (fun z => by subst z; rw [hP] at e; exact n ps (Option.some.inj e).symm)]
      exact e
    have atC : H1 c' = some (CodeO c' (X.env.qual ++ "<lambda>")) := by rw [hH1, upd_same]
    have tabs1 : Tabs T H1 := fun p hp => by
      by_cases hb : p.1 = P
      · rw [hu p hp hb, hb]
        refine ⟨ps ++ #[rawInt pos.line, rawInt pos.col, .ref c'], by rw [hH1, upd_ne (ne_of_none hP nC), upd_same], ?_, fun p' cv hcv => ?_⟩
        · rw [Array.toList_append]
          exact PySem.TriplesOk_snoc _ _ _ _ ht
        · rw [Array.toList_append] at hcv
          rcases among_app _ ht hcv with z | z
          · obtain ⟨c0, e1, e2⟩ := ha p' cv z
            exact ⟨c0, e1, ext1 _ _ e2 codeO_ne⟩
          · exact ⟨c', z, atC⟩
      · obtain ⟨ps', a1, a2, a3⟩ := hT p hp
        refine ⟨ps', by rw [hH1, upd_ne (ne_of_none a1 nC), upd_ne hb]; exact a1, a2, fun p' cv hcv => ?_⟩
        obtain ⟨c0, e1, e2⟩ := a3 p' cv hcv
        exact ⟨c0, e1, ext1 _ _ e2 codeO_ne⟩
    rw [← hH1] at J
    have nF := J.hok.fresh (Nat.le_refl _)
    have J2 := inv_lam (F := ⟨X.env.qual ++ "<lambda>", params, body, scope, cloFrom X.env.cells scope.names [], dV, c'⟩) (t' := tk) (doc := doc) (pm := (X.mg "__name__").getD .none) (ctv := ctv) J rfl
    have kp : ∀ {b o}, H1 b = some o → (upd H1 h'.objs.size (LamO h'.objs.size ⟨X.env.qual ++ "<lambda>", params, body, scope, cloFrom X.env.cells scope.names [], dV, c'⟩)) b = some o := fun e => (upd_ne (ne_of_none e nF)).trans e
    exact h h'.objs.size c' _ _ J2 (fun b o e n => kp (ext1 b o e n)) (tabs1.ext fun b o e => kp e) (I.hok.fresh (Nat.le_trans hge (Nat.le_of_lt hlt))) upd_same (kp atC)
  | some cv =>
    obtain ⟨c', e, hco⟩ := ha pos cv hc
    subst e
    refine PySem.W.kdv_makeTailHit (mg := X.mg) (c := c) (P := P) (ps := ps) (closure_ok hfree) I.ok.glob (I.mod.glob.keeps I.bk) hcode (TB.code.keeps I.bk) gP ht hc bP fun ctv doc h' tk hx hsz => ?_
    have J : Inv X pins σ H { s with heap := h', toks := tk } := I.kept hx
    have nF : H h'.objs.size = none := J.hok.fresh (Nat.le_refl _)
    have J2 := inv_lam (F := ⟨X.env.qual ++ "<lambda>", params, body, scope, cloFrom X.env.cells scope.names [], dV, c'⟩) (t' := tk) (doc := doc) (pm := (X.mg "__name__").getD .none) (ctv := ctv) J rfl
    have kp : ∀ {b o}, H b = some o → (upd H h'.objs.size (LamO h'.objs.size ⟨X.env.qual ++ "<lambda>", params, body, scope, cloFrom X.env.cells scope.names [], dV, c'⟩)) b = some o := fun e => (upd_ne (ne_of_none e nF)).trans e
    exact h h'.objs.size c' _ _ J2 (fun b o e n => kp e) (hT.ext fun b o e => kp e) nF upd_same (kp hco)
end
/-- the value of a lambda -/
def tLamV (T : List (Addr × Str)) (mk : Addr → LF) : TE := fun _ H Q => Tabs T H ∧ ∀ (f c' : Addr) (H1 : Hp), ExtN H H1 → Tabs T H1 → H f = none → H1 f = some (LamO f (mk c')) → H1 c' = some (CodeO c' (mk c').q) → Q (.ref f) H1
/-- the same, one int by default: the tuple of the values is told, too -/
def tLamD (T : List (Addr × Str)) (d : Int) (mk : Addr → Addr → LF) : TE := fun _ H Q => Tabs T H ∧ ∀ (f c' t : Addr) (H1 : Hp), ExtN H H1 → Tabs T H1 → H f = none → H1 t = some (.tup [.int d]) → H1 f = some (LamO f (mk t c')) → H1 c' = some (CodeO c' (mk t c').q) → Q (.ref f) H1
section
variable {X : Cx} {T : List (Addr × Str)} {c P : Addr} {params : Arguments} {body : Expr} {scope : Scope} {pos : Pos}
theorem pe_lam0 (TB : TabB X.base X.mg c P) (hcode : X.env.code = .ref c) (hm : (P, X.env.qual ++ "<lambda>") ∈ T) (hu : ∀ p ∈ T, p.1 = P → p.2 = X.env.qual ++ "<lambda>")
    (hF : ∀ y ∈ scope.names, y.2 = .free → X.env.scope.names.lookup y.1 = some .cell ∨ X.env.scope.names.lookup y.1 = some .free) (hdef : defaultsOf params X.env = ([], [])) :
    PE X (.Lambda params body scope pos) (tLamV T fun c' => ⟨X.env.qual ++ "<lambda>", params, body, scope, cloFrom X.env.cells scope.names [], .none, c'⟩) := by
  refine ⟨fun pins s σ H Q I h => ?_⟩
  obtain ⟨hT, h⟩ := h
  have hfree : ∀ y ∈ scope.names, y.2 = .free → ∃ c, X.env.cells.lookup y.1 = some c := fun y hy e => (hF y hy e).elim (fun z => I.ok.has _ (.inl z)) fun z => I.ok.has _ (.inr z)
  refine PySem.W.kla_eval hdef ?_
  simp only [makeFunction_eq, List.isEmpty_nil, List.filterMap_nil, List.zip_nil_right, pure_bind, if_true]
  exact lam_tail I TB hcode hm hu hT hfree fun f c' H1 s' I1 x1 t1 hf e1 e2 => ⟨.ref f, H1, I1, rfl, h f c' H1 x1 t1 hf e1 e2⟩
theorem pe_lam1 {d : Int} {j : Nat} {dp : Pos} (TB : TabB X.base X.mg c P) (hcode : X.env.code = .ref c) (hm : (P, X.env.qual ++ "<lambda>") ∈ T) (hu : ∀ p ∈ T, p.1 = P → p.2 = X.env.qual ++ "<lambda>")
    (hF : ∀ y ∈ scope.names, y.2 = .free → X.env.scope.names.lookup y.1 = some .cell ∨ X.env.scope.names.lookup y.1 = some .free) (hd : params.defaults = [.Constant (.int d) j dp]) (hk : params.kw_defaults = []) :
    PE X (.Lambda params body scope pos) (tLamD T d fun t c' => ⟨X.env.qual ++ "<lambda>", params, body, scope, cloFrom X.env.cells scope.names [], .ref t, c'⟩) := by
  refine ⟨fun pins s σ H Q I h => ?_⟩
  obtain ⟨hT, h⟩ := h
  have hfree : ∀ y ∈ scope.names, y.2 = .free → ∃ c, X.env.cells.lookup y.1 = some c := fun y hy e => (hF y hy e).elim (fun z => I.ok.has _ (.inl z)) fun z => I.ok.has _ (.inr z)
  refine PySem.W.kdv_lam (by rw [hd]; rfl) hk ?_
  rw [hd]
  refine PySem.W.kdv_all1 (thn ((pe_int (X := X) (i := d) (j := j) (pos := dp)).run pins s σ H (fun v H1 => v = .int d ∧ H1 = H) I ⟨rfl, rfl⟩) fun u s1 ⟨v, H1, I1, rv, e1, e2⟩ => PySem.W.kdv_all0 ?_)
  subst e1
  subst e2
  obtain ⟨tk, rfl⟩ := rv
  simp only [makeFunction_eq, List.isEmpty_nil, List.isEmpty_cons, List.filterMap_nil, List.zip_nil_right, pure_bind, if_true, Bool.false_eq_true, if_false]
  refine wpAny_bind (wpAny_newTextTuple ?_)
  have nt := I1.hok.fresh (Nat.le_refl _)
  have I2 : Inv X pins σ (upd H1 s1.heap.objs.size (.tup [.int d])) { s1 with heap := s1.heap.push { cls := .type "tuple", data := .seq [Value.int d tk].toArray } } :=
    I1.laid (t' := s1.toks) (fun b u e => Heap.get?_push_of_some _ e) (Nat.le_refl _) ⟨by show 1 ≤ sizeLine; decide, [.int d tk], .cons ⟨_, rfl⟩ .nil, ⟨_, Heap.get?_push_size _ rfl, rfl, _, rfl⟩⟩
  have kp : ∀ {b o}, H1 b = some o → (upd H1 s1.heap.objs.size (.tup [.int d])) b = some o := fun e => (upd_ne (ne_of_none e nt)).trans e
  refine lam_tail I2 TB hcode hm hu (hT.ext fun b o e => kp e) hfree fun f c' H3 s' I3 x1 t1 hf e1 e2 => ⟨.ref f, H3, I3, rfl, h f c' s1.heap.objs.size H3 (fun b o e n => x1 b o (kp e) n) t1 ?_ (x1 _ _ upd_same (by intro ps z; cases z)) e1 e2⟩
  unfold upd at hf
  split at hf
  · cases hf
  · exact hf
end
end Rl
/-! A kept lambda is called, in a def that the maker calls. -/
namespace Rl
open PySem PySem.Spec PyProof.Rows L2 LamX
/-- its names: captured ones, globals, parameters that the maker's slots don't name -/
structure LamP (N : List Str) (sc scope : Scope) : Prop where
  kind : scope.kind = .function
  co : scope.isCoroutine = false
  gen : scope.isGenerator = false
  nocell : ∀ y ∈ scope.names, y.2 ≠ .cell
  own : ∀ y ∈ scope.names, y.2 = .local → y.1 ∉ N
  free : ∀ y ∈ scope.names, y.2 = .free → sc.names.lookup y.1 = some .cell ∨ sc.names.lookup y.1 = some .free
def lamPB (N : List Str) (sc scope : Scope) : Bool :=
  decide (scope.kind = .function) && !scope.isCoroutine && !scope.isGenerator && scope.names.all fun y => !decide (y.2 = .cell) && (!decide (y.2 = .local) || !decide (y.1 ∈ N)) && (!decide (y.2 = .free) || (decide (sc.names.lookup y.1 = some .cell) || decide (sc.names.lookup y.1 = some .free)))
theorem lamP_by {N : List Str} {sc scope : Scope} (h : lamPB N sc scope = true) : LamP N sc scope := by
  unfold lamPB at h
  simp only [Bool.and_eq_true, List.all_eq_true, Bool.not_eq_true', Bool.or_eq_true, decide_eq_false_iff_not, decide_eq_true_eq] at h
  obtain ⟨⟨⟨k1, k2⟩, k3⟩, k4⟩ := h
  refine ⟨k1, k2, k3, fun y hy => (k4 y hy).1.1, fun y hy e => ?_, fun y hy e => ?_⟩
  · rcases (k4 y hy).1.2 with z | z
    · exact absurd e z
    · exact z
  · rcases (k4 y hy).2 with z | z
    · exact absurd e z
    · exact z
section
variable {X : Cx} {pins : List (Addr × Obj)} {σ : L2.St} {H HZ : Hp} {s s1 : Shared}
theorem LamP.has {scope : Scope} (L : LamP X.N X.env.scope scope) (ok : X.Ok) : ∀ y ∈ scope.names, y.2 = .free → ∃ c, X.env.cells.lookup y.1 = some c := fun y hy e => (L.free y hy e).elim (fun z => ok.has _ (.inl z)) fun z => ok.has _ (.inr z)
theorem lam_enter {ex : List Addr} {A : Around} {outer : List Env} {E : XK} {scope : Scope} {f c' : Addr} {g : Heap} {tk : Nat} {m1 : Str → Option Value} (I : Inv X pins σ H s) (L : LamP X.N X.env.scope scope) (e0 : Env0 X.prog X.w X.K X.mg X.base A outer s1 HZ) (hd : A.handled = none) (hex : ∀ y d, X.env.cells.lookup y = some d → d ∉ ex)
    (un : Un (frs X.stack) ex H HZ s.heap s1.heap) (hns : g.Ns s1.heap.objs.size m1) (kp : ∀ b o, s1.heap.get? b = some o → g.get? b = some o) :
    Inv (lamCx X A outer s1 HZ E scope f c') [] σ HZ { s1 with heap := g, toks := tk } := by
  have hfree := L.has I.ok
  have back : ∀ {y d}, (cloFrom X.env.cells scope.names []).lookup y = some d → X.env.cells.lookup y = some d := fun {y d} e => NdefX.clo_cm hfree e
  have there : ∀ {y}, scope.names.lookup y = some .free → ∃ d, (cloFrom X.env.cells scope.names []).lookup y = some d := fun {y} hl => mem_lookup (cloFrom_has (cells := X.env.cells) (acc := []) (PySem.mem_of_lookup hl))
  have cellK : ∀ {d : Addr} {v : Option Value}, H d = none → d ∉ ex → s.heap.IsCell d v → g.IsCell d v := fun {d v} n nx z => by
    obtain ⟨o, ho, hv⟩ := z
    obtain ⟨sl, q⟩ := un.any ho n nx
    exact ⟨_, kp _ _ q, hv⟩
  have none1 : ∀ b : Addr, b ∉ (lamCx X A outer s1 HZ E scope f c').ex := fun b z => absurd (show b ∈ ([] : List Addr) from z) (by simp)
  refine ⟨⟨e0.mod, L.kind, rfl, rfl, Nat.le_refl _, fun y z d e1 e2 => I.ok.inj y z d (back e1) (back e2), fun y hy => ?_, fun y d z _ => ?_, fun _ => hd, Around.frames_deeper e0.frames, .inr ⟨rfl, rfl⟩, fun b z => absurd z (none1 b), e0.bs, e0.bsz, fun b _ _ => none1 b, fun b z => absurd z (none1 b), e0.funs, e0.frf⟩,
    rfl, e0.bare, Un.kept kp, ⟨_, hns, fun i y v e1 e2 e3 => ?_⟩, fun y d e => ?_, e0.hok.fresh (Nat.le_refl _), fun y d e => ?_, fun q hq => absurd (show q ∈ ([] : List (Addr × Obj)) ++ [] from hq) (by simp), e0.hok.kept kp, I.len⟩
  · have hy : scope.names.lookup y = some .cell ∨ scope.names.lookup y = some .free := hy
    rcases hy with hy | hy
    · exact absurd rfl (L.nocell _ (PySem.mem_of_lookup hy))
    · exact there hy
  · have z : false = true := z
    cases z
  · have e3 : Vis scope y := e3
    have e1 : X.N[i]? = some y := e1
    rcases e3 with k | k | k
    · exact absurd (List.mem_of_getElem? e1) (L.own _ (PySem.mem_of_lookup k) rfl)
    · exact absurd rfl (L.nocell _ (PySem.mem_of_lookup k))
    · obtain ⟨m, hn, hl⟩ := I.loc
      have vis : Vis X.env.scope y := (L.free _ (PySem.mem_of_lookup k) rfl).elim (fun z => .inr (.inl z)) fun z => .inr (.inr z)
      obtain ⟨w', r, q⟩ := hl i y v e1 e2 vis
      obtain ⟨d, h2⟩ := there k
      refine ⟨w', r, .inr ⟨.inr k, d, h2, ?_⟩⟩
      have h3 := back h2
      rcases q with ⟨k', _⟩ | ⟨_, d3, e', z⟩
      · have k' : X.env.scope.names.lookup y = some .local := k'
        rcases L.free _ (PySem.mem_of_lookup k) rfl with k2 | k2
        · rw [show X.env.scope.names.lookup y = _ from k2] at k'
          cases k'
        · rw [show X.env.scope.names.lookup y = _ from k2] at k'
          cases k'
      · rw [h3] at e'
        cases e'
        exact cellK (I.freeC y _ h3) (hex y _ h3) z
  · obtain ⟨w', z⟩ := I.cell y d (back e)
    exact ⟨w', cellK (I.freeC y d (back e)) (hex y d (back e)) z⟩
  · obtain ⟨v, o, ho, hv⟩ := I.cell y d (back e)
    exact un.free d o ho (I.freeC y d (back e)) (hex y d (back e))
/-- a(), in the def that the maker calls and that got the lambda -/
theorem un_more {fs ex : List Addr} {H H' : Hp} {h h' : Heap} (u : Un fs [] H H' h h') : Un fs ex H H' h h' :=
  ⟨fun b o e n k _ => u.keep b o e n k (by simp), fun b o e n k _ => u.slot b o e n k (by simp), fun b o e n _ => u.free b o e n (by simp), fun b o e _ => u.there b o e (by simp), u.tups, u.frzs, u.tbls⟩
theorem pe_actVB {ex : List Addr} {sC : Shared} {HC : Hp} {CXg : CXT} {Eg : XK} {Ng : List Str} {qg : Str} {sg : Scope} {g f : Addr} {cdg : Value} {k i : Nat} {a : Str} {pn : List (Addr × Obj)} {xe : Value → Shared → Prop} {W : WX} {E : L2.St → XK} {tb : XK → TE} {p1 p2 : Pos} {F : LF} {G : Hp → Prop}
    (I : Inv X pins σ H s) (hex : ∀ y d, X.env.cells.lookup y = some d → d ∉ ex) (unB : Un (frs X.stack) ex H HC s.heap sC.heap) (L : LamP X.N X.env.scope F.scope) (hcl : F.cl = cloFrom X.env.cells F.scope.names []) (hq : F.q = X.env.qual ++ "<lambda>")
    (hbind : ∀ (doc pm ctv : Value) (sZ : Shared) (HZ : Hp), HOk X.prog X.w HZ sZ.heap → G HZ → ∃ binds, BindsTo sZ (PySem.W.kdv_fn "<lambda>" F.q F.params (.expr F.body) F.scope F.cl F.dV doc pm (.ref F.c) ctv) ⟨[], []⟩ binds ∧ ∀ y ∈ binds, F.scope.names.lookup y.1 = some .local)
    (tk : Takes ((cxOf CXg X.prog X.w X.K X.mg X.base Ng qg sg g cdg X.A X.stack sC HC Eg).tr pn xe) W) (hW : ∀ cls d σ' H', E σ' cls d H' → W cls d σ' H') (hr : Room (k + 1) (X.A.deeper (envOfC qg sg sC.heap.objs.size g cdg)))
    (hbody : ∀ (E' : XK) (A : Around) (outer : List Env) (s : Shared) (H : Hp), Room k (A.deeper (lamEnv X F.scope s.heap.objs.size f F.c)) → PE (lamCx X A outer s H E' F.scope f F.c) F.body (tb E'))
    (hN : Ng[i]? = some a) (hv : Vis sg a) (hd : (a == ("__debug__" : Str)) = false := by decide) (hcd : (a == ("__classdict__" : Str)) = false := by decide) :
    PE ((cxOf CXg X.prog X.w X.K X.mg X.base Ng qg sg g cdg X.A X.stack sC HC Eg).tr pn xe) (.Call (.Name a p1) [] [] p2)
      (fun σZ HZ Q => σZ[i]? = some (some (.ref f)) ∧ HZ f = some (LamO f F) ∧ HZ F.c = some (CodeO F.c F.q) ∧ G HZ ∧ tb (E σZ) σ HZ Q) := by
  refine ⟨fun pinsZ sZ σZ HZ Q IZ h => ?_⟩
  obtain ⟨hs, hf, hc, hg, ht⟩ := h
  refine wpAny_Call_Name_kw (thn ((pe_var (pos := p1) (i := i) hN hv hd hcd).run pinsZ sZ σZ HZ (fun v H1 => v = .ref f ∧ H1 = HZ) IZ ⟨.ref f, hs, rfl, rfl⟩) fun u s2 ⟨v, H2, I2, rv, e1, e2⟩ => ?_)
  subst e1
  rw [e2] at I2
  obtain rfl : u = Value.ref f := rv
  obtain ⟨⟨doc, pm, ctv, of1⟩, _, _⟩ := I2.hok f _ hf
  obtain ⟨⟨oc, vs, t, c1, c2, c3⟩, _, _⟩ := I2.hok F.c _ hc
  refine PySem.W.callWith_F0 ⟨_, _, _, _, of1⟩ ?_
  have un : Un (frs X.stack) ex H HZ s.heap s2.heap := unB.trans (un_more I2.base)
  obtain ⟨binds, hbi, hloc⟩ := hbind doc pm ctv s2 HZ I2.hok hg
  have rc : codeAny (model X.prog X.w) (X.A.deeper (envOfC qg sg sC.heap.objs.size g cdg)) (.call (.ref f) ⟨[], []⟩) (CR (L2.CX X.prog X.w) (envOfC qg sg sC.heap.objs.size g cdg :: X.stack) X.prog X.w HZ s2 Q (E σZ)) s2 := by
    refine PySem.W.kla_callFunE hr.depth of1 rfl L.co L.gen rfl ⟨F.c, oc, vs, t, rfl, c1, c2, c3⟩ (hbi _ _ _ _ ?_)
    refine wpAny_newFunctionEnv L.nocell hloc (fun h1 hns hsb => ⟨I2.nolimit.fresh _ hsb, ?_⟩) L.kind
    have ee : PySem.W.envX F.q F.scope s2.heap.objs.size f (.ref F.c) F.cl = lamEnv X F.scope s2.heap.objs.size f F.c := by rw [hq, hcl]
    show codeAny _ _ (.expr F.body (PySem.W.envX F.q F.scope s2.heap.objs.size f (.ref F.c) F.cl)) _ _
    rw [ee]
    have kp : ∀ b o, s2.heap.get? b = some o → h1.get? b = some o := fun b o e => hsb.extBut b o (Nat.ne_of_lt (Heap.lt_size e)) (Heap.get?_push_of_some _ e)
    have J := lam_enter (E := E σZ) (scope := F.scope) (f := f) (c' := F.c) (tk := s2.toks + binds.length) I L I2.env0 hr.hd hex un hns kp
    refine PySem.W.kla_codeExpr (wpAny_mono ((hbody (E σZ) _ _ s2 HZ (hr.deeper _)).run [] _ _ HZ Q J ht) (fun v s' hh => ?_) fun e s' hh => hh)
    obtain ⟨w', H', J', r', q'⟩ := hh
    exact ⟨w', H', J'.os, J'.bare, J'.base, J'.hok, r', q'⟩
  refine wpAny_call (codeAny_mono rc fun r s' hh => ?_)
  cases r with
  | error e => exact tk e s' (XE.of_call I2 (fun cls d H' z => hW cls d σZ H' z) hh)
  | ok fl =>
    cases fl with
    | ret u => exact I2.after hh
    | next => exact hh.elim
    | brk => exact hh.elim
    | cont => exact hh.elim
/-- a(), in the def that the maker calls and that got the lambda -/
theorem pe_actV {CXg : CXT} {Eg : XK} {Ng : List Str} {qg : Str} {sg : Scope} {g f : Addr} {cdg : Value} {k i : Nat} {a : Str} {pn : List (Addr × Obj)} {xe : Value → Shared → Prop} {W : WX} {E : L2.St → XK} {tb : XK → TE} {p1 p2 : Pos} {F : LF} {G : Hp → Prop}
    (I : Inv X pins σ H s) (L : LamP X.N X.env.scope F.scope) (hcl : F.cl = cloFrom X.env.cells F.scope.names []) (hq : F.q = X.env.qual ++ "<lambda>")
    (hbind : ∀ (doc pm ctv : Value) (sZ : Shared) (HZ : Hp), HOk X.prog X.w HZ sZ.heap → G HZ → ∃ binds, BindsTo sZ (PySem.W.kdv_fn "<lambda>" F.q F.params (.expr F.body) F.scope F.cl F.dV doc pm (.ref F.c) ctv) ⟨[], []⟩ binds ∧ ∀ y ∈ binds, F.scope.names.lookup y.1 = some .local)
    (tk : Takes ((cxOf CXg X.prog X.w X.K X.mg X.base Ng qg sg g cdg X.A X.stack s H Eg).tr pn xe) W) (hW : ∀ cls d σ' H', E σ' cls d H' → W cls d σ' H') (hr : Room (k + 1) (X.A.deeper (envOfC qg sg s.heap.objs.size g cdg)))
    (hbody : ∀ (E' : XK) (A : Around) (outer : List Env) (s : Shared) (H : Hp), Room k (A.deeper (lamEnv X F.scope s.heap.objs.size f F.c)) → PE (lamCx X A outer s H E' F.scope f F.c) F.body (tb E'))
    (hN : Ng[i]? = some a) (hv : Vis sg a) (hd : (a == ("__debug__" : Str)) = false := by decide) (hcd : (a == ("__classdict__" : Str)) = false := by decide) :
    PE ((cxOf CXg X.prog X.w X.K X.mg X.base Ng qg sg g cdg X.A X.stack s H Eg).tr pn xe) (.Call (.Name a p1) [] [] p2)
      (fun σZ HZ Q => σZ[i]? = some (some (.ref f)) ∧ HZ f = some (LamO f F) ∧ HZ F.c = some (CodeO F.c F.q) ∧ G HZ ∧ tb (E σZ) σ HZ Q) :=
  pe_actVB (ex := []) I (fun _ _ _ => by simp) Un.refl L hcl hq hbind tk hW hr hbody hN hv hd hcd
end
end Rl
/-! x(e), e a kept lambda, x a def that calls what it gets. -/
namespace Rl
open PySem PySem.Spec PyProof.Rows L2 LamX
/-- the def that calls what it got: a calls it; R: what must be true of the abstract heap at the call; TT: what the def makes of the lambda's reading -/
def GivesV (X : Cx) (Ng : List Str) (x : Str) (sg : Scope) (g : Addr) (cdg : Value) (bg : List Stmt) (a : Str) (TT : (XK → Hp → VK → Prop) → Hp → VK → Prop) : Prop :=
  ∀ (f : Addr) (R : Hp → Prop) (s : Shared) (H : Hp) (Q : VK) (tl : XK → Hp → VK → Prop),
    (∀ (W : WX) (pn : List (Addr × Obj)) (xe : Value → Shared → Prop) (p1 p2 : Pos), Takes ((cxOf C8.CX0 X.prog X.w X.K X.mg X.base Ng x sg g cdg X.A X.stack s H C8.E0).tr pn xe) W →
      PE ((cxOf C8.CX0 X.prog X.w X.K X.mg X.base Ng x sg g cdg X.A X.stack s H C8.E0).tr pn xe) (.Call (.Name a p1) [] [] p2) (fun σZ HZ Q => σZ[0]? = some (some (.ref f)) ∧ R HZ ∧ tl (fun cls d H' => W cls d σZ H') HZ Q)) →
    R H → TT tl H Q →
    ∃ t, PSs (cxOf C8.CX0 X.prog X.w X.K X.mg X.base Ng x sg g cdg X.A X.stack s H C8.E0).nox bg t ∧ t { nx := fun _ H' => Q .non H', rt := Q } (L2.start Ng [.ref f]) H
/-- one of a family of lambdas, all made where X stands -/
structure Fam (X : Cx) (ι : Type) (F : ι → LF) (G : ι → Hp → Prop) : Prop where
  nm : ∀ i, LamP X.N X.env.scope (F i).scope
  cl : ∀ i, (F i).cl = cloFrom X.env.cells (F i).scope.names []
  q : ∀ i, (F i).q = X.env.qual ++ "<lambda>"
  bind : ∀ i (doc pm ctv : Value) (sZ : Shared) (HZ : Hp), HOk X.prog X.w HZ sZ.heap → G i HZ → ∃ binds, BindsTo sZ (PySem.W.kdv_fn "<lambda>" (F i).q (F i).params (.expr (F i).body) (F i).scope (F i).cl (F i).dV doc pm (.ref (F i).c) ctv) ⟨[], []⟩ binds ∧ ∀ y ∈ binds, (F i).scope.names.lookup y.1 = some .local
def tLamC {ι : Type} (F : ι → LF) (G : ι → Hp → Prop) (TT : (XK → Hp → VK → Prop) → Hp → VK → Prop) (ta : TA) (t : ι → XK → TE) : TE := fun σ H Q => ta σ H fun vs H1 => ∃ (f : Addr) (i : ι), vs = [.ref f] ∧ H1 f = some (LamO f (F i)) ∧ H1 (F i).c = some (CodeO (F i).c (F i).q) ∧ G i H1 ∧ TT (fun E H' Q' => t i E σ H' Q') H1 Q
section
variable {X : Cx}
theorem pe_lamcallV {ι : Type} {F : ι → LF} {G : ι → Hp → Prop} {TT : (XK → Hp → VK → Prop) → Hp → VK → Prop} {x a : Str} {g : Addr} {k : Nat} {pg : Arguments} {bg : List Stmt} {sg : Scope} {dV kV doc pm cdv ct oc : Value} {an od : Option Addr} {osl : Array (Option Value)} {Ng : List Str}
    {e : Expr} {ta : TA} {t : ι → XK → TE} {p pos : Pos} (hg : Gl X x) (hm : X.mg x = some (.ref g)) (hk : PySem.W.keepIn X.K (.ref g) = true)
    (lk : X.K.lookup g = some ⟨oc, od, .func (PySem.W.fnOf x x pg bg sg dV kV doc pm an cdv ct), osl⟩) (hcg : PySem.W.codeIn X.K cdv x = true) (hb : L2.Binds X.K (PySem.W.fnOf x x pg bg sg dV kV doc pm an cdv ct) [a] []) (Sg : FnScope Ng [a] sg) (hNg : Ng[0]? = some a) (hva : Vis sg a)
    (hG : GivesV X Ng x sg g cdv bg a TT) (fam : Fam X ι F G) (ha : PA X [e] ta) (hr : Room (k + 2) X.A)
    (hbody : ∀ (i : ι) (A : Around) (outer : List Env) (s : Shared) (H : Hp) (E : XK) (f : Addr), Room k (A.deeper (lamEnv X (F i).scope s.heap.objs.size f (F i).c)) → PE (lamCx X A outer s H E (F i).scope f (F i).c) (F i).body (t i E))
    (hst : starEach [e] X.env = (false, eval e X.env) :: starEach [] X.env := by rfl) (hpl : (backTo pos (starEach ([] : List Expr) X.env)).any (·.1) = false := by rfl)
    (hdb : (x == ("__debug__" : Str)) = false := by decide) (hd : (a == ("__debug__" : Str)) = false := by decide) (hcd : (a == ("__classdict__" : Str)) = false := by decide) :
    PE X (.Call (.Name x p) [e] [] pos) (tLamC F G TT ta t) := by
  refine ⟨fun pins s σ H Q I h => ?_⟩
  refine wpAny_Call_Name_kw (ld_glob I hg hm ?_ hdb)
  refine PySem.W.callWith_K (h₀ := X.base) I.ok.mod.kin hk (thn (ha.run pos pins s σ H _ I h) fun us s1 ⟨vs, H1, I1, r, q⟩ => ⟨I1.kIn, ?_⟩) hst hpl
  obtain ⟨f, i, rfl, e1, e2, e3, q⟩ := q
  rw [Vals.ref1 r]
  have rc : codeAny (model X.prog X.w) X.A (.call (.ref g) ⟨[.ref f], []⟩) (CR C8.CX0 X.stack X.prog X.w H1 s1 Q C8.E0) s1 := by
    refine run_ofS (N := Ng) (ps := [a]) (us := [.ref f]) (vs := [.ref f]) lk hcg Sg hr I1.env0 (hb s1 [.ref f] I1.kIn rfl) (.cons rfl .nil) rfl fun hr2 => ?_
    have go := hG f (fun HZ => HZ f = some (LamO f (F i)) ∧ HZ (F i).c = some (CodeO (F i).c (F i).q) ∧ G i HZ) s1 H1 Q (fun E H' Q' => t i E σ H' Q') (fun W pn xe p1 p2 tk => by
      have act := pe_actV (i := 0) (p1 := p1) (p2 := p2) (E := fun σ' cls d H' => W cls d σ' H') (tb := t i) I1 (fam.nm i) (fam.cl i) (fam.q i) (fam.bind i) tk (fun _ _ _ _ z => z) hr2 (fun E' A outer s H hr3 => hbody i A outer s H E' f hr3) hNg hva hd hcd
      exact ⟨fun pins2 s2 σ2 H2 Q2 I2 ⟨a1, ⟨a2, a3, a4⟩, a5⟩ => act.run pins2 s2 σ2 H2 Q2 I2 ⟨a1, a2, a3, a4, a5⟩⟩) ⟨e1, e2, e3⟩ q
    obtain ⟨t', ht', hq'⟩ := go
    exact ⟨t', ht'.nox, hq'⟩
  refine wpAny_call (codeAny_mono rc fun r s2 hh => ?_)
  cases r with
  | error e => exact (show False from hh).elim
  | ok fl =>
    cases fl with
    | ret u => exact I1.after hh
    | next => exact hh.elim
    | brk => exact hh.elim
    | cont => exact hh.elim
end
end Rl
/-! A comprehension whose element may use what the def's slots held when the block began: kept lambdas are called in it. -/
namespace Rl
open PySem PySem.Spec PyProof.Rows L2 LamX
section
variable {X : Cx}
/-- the block of a comprehension that begins at z -/
abbrev bCx (X : Cx) (z : Shared) (Z : Hp) (sc : Scope) (L : Addr) (cl : List (Str × Addr)) (fp : List Addr) : Cx := X.blk z Z sc (compEnvC sc cl L X.env) fp
/-- the element is read in a block that began where the def's slots are τ -/
def ElB (X : Cx) (τ : L2.St) (sc : Scope) (e : Expr) (te : TE) : Prop :=
  ∀ (pins : List (Addr × Obj)) (z : Shared) (Z : Hp) (L : Addr) (cl : List (Str × Addr)) (fp : List Addr), Inv X pins τ Z z → (∀ b ∈ fp, FpOk X pins Z b) → PE (bCx X z Z sc L cl fp) e te
theorem lcB_loop {pins : List (Addr × Obj)} {τ : L2.St} {Q : VK} {e tg it0 : Expr} {sc : Scope} {own : List (Str × Nat)} {pos : Pos} {g : TG} {te : TE} {R : Result → Shared → Prop} {it D L : Addr} {cl : List (Str × Addr)} {fp : List Addr} {tn : Nat → Heap → Prop} {J : It} {z zs : Shared} {Z : Hp}
    (hc : X.calm = true) (T : Turn X.prog X.w X.K tg J fp it tn) (IZ : Inv X pins τ Z z) (fZ : ∀ b ∈ fp, FpOk X pins Z b) (hL : (compEnvC sc cl L X.env).locals = L) (hLz : z.heap.objs.size ≤ L)
    (pg : PG (bCx X z Z sc L cl fp) tg g) (pe : PE (bCx X z Z sc L cl fp) e te)
    (IS : Inv (bCx X z Z sc L cl fp) [] (wipe τ (own.map (·.2))) Z zs) (tS : tn 0 zs.heap)
    {W : Nat → Nat → Hp → Prop} {m₀ : Nat} (w₀ : W 0 m₀ Z)
    (turn : ∀ i m H, W i m H → (J.stop i H ∧ Q (.ref D) H) ∨ (J.go i H ∧ ∃ Nx : Hp → Prop, (∀ H', Nx H' → ∃ m', m' < m ∧ W (i + 1) m' H') ∧ ∀ x H', J.yld i H x H' → g x (wipe τ (own.map (·.2))) H' fun σ2 H2 => wipe σ2 (own.map (·.2)) = wipe τ (own.map (·.2)) ∧ tYes σ2 H2 fun b H3 =>
      if b = true then te σ2 H3 fun y H4 => ∃ acc, H4 D = some (.lst acc) ∧ acc.length < sizeLine ∧ Nx (upd H4 D (.lst (acc ++ [y]))) else Nx H3))
    (fin : ∀ s' m H', Inv X pins τ H' s' → Q (.ref D) H' → s'.heap.Ns L m → FpOk X pins H' L → R (.ok .next) s') :
    codeAny (model X.prog X.w) X.A (.compLoop (.ListComp e [⟨tg, it0, [], 0⟩] sc pos) 0 (.ref it) (.ref D) (compEnvC sc cl L X.env)) R zs := by
  have ofB : ∀ {σ' : L2.St} {H' : Hp} {s' : Shared}, Inv (bCx X z Z sc L cl fp) [] σ' H' s' → (∀ b ∈ fp, H' b = none) → ∀ b ∈ fp, FpOk (bCx X z Z sc L cl fp) [] H' b := fun {σ' H' s'} J0 nn b hb =>
    ⟨nn b hb, (J0.ok.exf b hb).1, J0.ok.exfs b hb, .inl hb, fun y d k => (J0.ok.exf b hb).2 y d k, fun p hp => by
      have hp : p ∈ ([] : List (Addr × Obj)) ++ [] := hp
      simp at hp⟩
  refine compLoop_any (fun m s' => ∃ i H', Inv (bCx X z Z sc L cl fp) [] (wipe τ (own.map (·.2))) H' s' ∧ tn i s'.heap ∧ (∀ b ∈ fp, H' b = none) ∧ W i m H') ?_ m₀ ⟨0, Z, IS, tS, fun b hb => (fZ b hb).1, w₀⟩
  intro m s1 ⟨i, H1, I1, t1, n1, w1⟩
  cases turn i m H1 w1 with
  | inl hs =>
    refine thnF (T.done (bCx X z Z sc L cl fp) rfl rfl rfl hc i [] s1 _ H1 (fun _ _ => False) I1 (ofB I1 n1) t1 hs.1) fun r s2 hr => ?_
    rw [hr.1]
    have IX : Inv X pins τ H1 s2 := IZ.call' (ch := fp) hr.2.os hr.2.base hr.2.hok hr.2.bare fun b hb => by
      obtain ⟨_, q1, _, q3, q4, q5⟩ := fZ b hb
      exact ⟨q3, q1, q4, q5⟩
    have nL : H1 L = none := by
      have q := hr.2.free
      rw [show (bCx X z Z sc L cl fp).env.locals = L from hL] at q
      exact q
    obtain ⟨mm, hmm, _⟩ := hr.2.loc
    rw [show (bCx X z Z sc L cl fp).env.locals = L from hL] at hmm
    exact fin s2 mm H1 IX hs.2 hmm (IZ.fpOk hLz nL)
  | inr hg =>
    obtain ⟨hgo, Nx, hNx, hstep⟩ := hg
    refine thnF (T.item (bCx X z Z sc L cl fp) rfl rfl rfl hc i [] s1 _ H1 (fun _ _ => False) I1 (ofB I1 n1) t1 hgo) fun r s2 ⟨u, hr, q2⟩ => ?_
    rw [hr]
    refine thnF q2 fun _ s3 ⟨x, H3, I3, r3, y3, t3, n3⟩ => ?_
    refine thnF (pg.run _ s3 _ H3 x u _ (I3.pinned (ofB I3 n3) (T.obj _ _ t3)) r3 (hstep x H3 y3)) fun _ s4 ⟨σ4, H4, I4, hw, q4⟩ => ?_
    refine thnF ((pts_nil (X := bCx X z Z sc L cl fp)).run _ s4 σ4 H4 _ I4 q4) fun b s5 ⟨H5, I5, q5⟩ => ?_
    have back : ∀ {s' : Shared} {H' : Hp}, Inv (bCx X z Z sc L cl fp) ([] ++ pinsAt fp s3.heap) σ4 H' s' → Nx H' → ∃ k, k < m ∧ ∃ i H', Inv (bCx X z Z sc L cl fp) [] (wipe τ (own.map (·.2))) H' s' ∧ tn i s'.heap ∧ (∀ b ∈ fp, H' b = none) ∧ W i k H' := fun {s' H'} JJ nx => by
      obtain ⟨k, hk, wk⟩ := hNx H' nx
      have pn : ∀ b ∈ fp, ∀ o, s3.heap.get? b = some o → s'.heap.get? b = some o ∧ H' b = none := fun b hb o ho => by
        obtain ⟨p1, p2, _⟩ := JJ.pin (b, o) (List.mem_append_right _ (List.mem_append_right _ (mem_pinsAt hb ho)))
        exact ⟨p1, p2⟩
      refine ⟨k, hk, i + 1, H', (JJ.unpinned (pins := [])).weak (by rw [← hw, wipe_length]) (fun j v hj => ?_), T.keep _ _ _ t3 fun b hb o ho => (pn b hb o ho).1, fun b hb => ?_, wk⟩
      · rw [← hw] at hj
        exact (wipe_some hj).1
      · obtain ⟨o, ho, _⟩ := T.obj _ _ t3 b hb
        exact (pn b hb o ho).2
    cases b with
    | false =>
      rw [if_neg Bool.false_ne_true] at q5
      rw [if_neg Bool.false_ne_true]
      exact back I5 q5
    | true =>
      rw [if_pos rfl] at q5
      rw [if_pos rfl]
      refine thnF (pe.run _ s5 σ4 H5 _ I5 q5) fun v s6 ⟨y, H6, I6, r6, acc, hD, hz, nx⟩ => ?_
      exact app_ok (X := bCx X z Z sc L cl fp) I6 hD hz r6 fun s7 I7 => back I7 nx
theorem lcB_core {pins : List (Addr × Obj)} {s : Shared} {τ : L2.St} {H : Hp} {Q : VK} {e tg iter : Expr} {sc : Scope} {own : List (Str × Nat)} {pos pos' : Pos} {wi : TI} {g : TG} {te : TE} {use : Option (Value → Sem Unit)} {Qf : Value → Shared → Prop}
    (hc : X.calm = true) (hN : X.N.Nodup) (I : Inv X pins τ H s) (hi : PI X tg iter wi) (ok : BlkOk X.N X.env.scope sc own)
    (hg : ∀ (z : Shared) (Z : Hp) (L : Addr) (cl : List (Str × Addr)) (fp : List Addr), PG (bCx X z Z sc L cl fp) tg g) (he : ElB X τ sc e te) (hs : ∀ x, foldedSetIterable iter X.env x = pure x)
    (h : tLc wi g tYes te (own.map (·.2)) τ H Q)
    (hR : ∀ D L s' m H', Inv X pins τ H' s' → Q (.ref D) H' → s'.heap.Ns L m → FpOk X pins H' L → compPost (model X.prog X.w) X.A X.xe use Qf (.ref D) L (.ok .next) s') :
    wpAny (model X.prog X.w) X.A (comprehension (.ListComp e [⟨tg, iter, [], 0⟩] sc pos) sc X.env pos' (newList []) false (eval iter X.env) use) Qf X.xe s := by
  have hf : ∀ y ∈ sc.names, y.2 = .free → ∃ d, X.env.cells.lookup y.1 = some d := fun y hy k => (ok.free y hy k).elim (fun q => I.ok.has _ (.inl q)) fun q => I.ok.has _ (.inr q)
  refine wpAny_comprehension_free (use := use) rfl hs (closure_ok hf) ok.kind (fun y hy k => by rw [ok.uniq y hy, k]) ?_
  refine thn (hi.run pins s τ H _ I h) fun _ s1 h1 => thn h1 fun itv s2 h2 => ?_
  obtain ⟨it, fp, tn, J, H2, rfl, I2, T, t2, f2, q⟩ := h2
  refine wpAny_newObj_type (newEnv_comp ?_) (by show 0 ≤ sizeLine; decide)
  have nD : H2 s2.heap.objs.size = none := I2.hok.fresh (Nat.le_refl _)
  obtain ⟨W, ⟨m₀, w₀⟩, turn⟩ := q _ nD
  obtain ⟨D, eD⟩ : ∃ D, D = s2.heap.objs.size := ⟨_, rfl⟩
  have push : ∀ b o, s2.heap.get? b = some o → (s2.heap.push { cls := .type "list", data := .seq ([] : List Value).toArray }).get? b = some o := fun b o k => Heap.get?_push_of_some _ k
  have I3 : Inv X pins τ (upd H2 s2.heap.objs.size (.lst [])) { s2 with heap := s2.heap.push { cls := .type "list", data := .seq ([] : List Value).toArray } } :=
    I2.laid (t' := s2.toks) push (Nat.le_refl _) ⟨Nat.zero_le _, [], 0, .nil, Heap.get?_push_size _ rfl⟩
  have f3 : ∀ b ∈ fp, FpOk X pins (upd H2 s2.heap.objs.size (.lst [])) b ∧ b < (s2.heap.push { cls := .type "list", data := .seq ([] : List Value).toArray }).objs.size := fun b hb => by
    obtain ⟨o, ho, _⟩ := T.obj _ _ t2 b hb
    have lt := Heap.lt_size ho
    refine ⟨⟨?_, (f2 b hb).2⟩, ?_⟩
    · rw [upd_ne (Nat.ne_of_lt lt)]
      exact (f2 b hb).1
    · rw [Heap.size_push]
      exact Nat.lt_succ_of_lt lt
  have IS := block_start I3 ok hN f3
  have t3 := T.keep _ _ (pushCells ((s2.heap.push { cls := .type "list", data := .seq ([] : List Value).toArray }).push { cls := .type "dict", data := .dict #[] }) sc.names) t2 fun b _ o ho => pushCells_keeps _ _ _ _ (Heap.get?_push_of_some _ (push b o ho))
  have go := lcB_loop (own := own) (e := e) (it0 := iter) (pos := pos) (Q := Q) (D := s2.heap.objs.size) (R := compPost (model X.prog X.w) X.A X.xe use Qf (.ref s2.heap.objs.size) (s2.heap.push { cls := .type "list", data := .seq ([] : List Value).toArray }).objs.size) hc T I3 (fun b hb => (f3 b hb).1) rfl (Nat.le_refl _) (hg _ _ _ _ _) (he pins _ _ _ _ _ I3 fun b hb => (f3 b hb).1) IS t3 w₀ turn
    (fun s' m H' I' q' hm hl => hR _ _ s' m H' I' q' hm hl)
  exact codeAny_compStart_list go (T.self X.A 0 _ _ _ t3 go)
/-- as a value -/
theorem pe_lcB {e tg iter : Expr} {sc : Scope} {own : List (Str × Nat)} {pos : Pos} {wi : TI} {g : TG} {te : L2.St → TE} (hc : X.calm = true) (hN : X.N.Nodup) (hi : PI X tg iter wi) (ok : BlkOk X.N X.env.scope sc own)
    (hg : ∀ (z : Shared) (Z : Hp) (L : Addr) (cl : List (Str × Addr)) (fp : List Addr), PG (bCx X z Z sc L cl fp) tg g) (he : ∀ τ, ElB X τ sc e (te τ)) (hs : ∀ x, foldedSetIterable iter X.env x = pure x := by intro _; rfl) :
    PE X (.ListComp e [⟨tg, iter, [], 0⟩] sc pos) (fun σ H Q => tLc wi g tYes (te σ) (own.map (·.2)) σ H Q) := by
  refine ⟨fun pins s σ H Q I h => ?_⟩
  rw [eval_ListComp]
  refine lcB_core hc hN I hi ok hg (he σ) hs h fun D L s' m H' I' q hn f => ⟨m, hn, fun h'' sb => ?_⟩
  obtain ⟨f0, f1, _, f3, f4, f5⟩ := f
  exact ⟨.ref D, H', I'.turned (t' := s'.toks) (fun b o hb k => (sb.2 b hb).trans k) f0 f1 f3 f4 f5, rfl, q⟩
end
end Rl
/-! Kept lambdas are called in a comprehension's block: x(e) with x a def that calls what it gets, and a(). -/
namespace Rl
open PySem PySem.Spec PyProof.Rows L2 LamX
def tLamB {ι : Type} (F : ι → LF) (G : ι → Hp → Prop) (TT : (XK → Hp → VK → Prop) → Hp → VK → Prop) (ta : TA) (t : ι → XK → TE) (τ : L2.St) : TE := fun σ H Q => ta σ H fun vs H1 => ∃ (f : Addr) (i : ι), vs = [.ref f] ∧ H1 f = some (LamO f (F i)) ∧ H1 (F i).c = some (CodeO (F i).c (F i).q) ∧ G i H1 ∧ TT (fun E H' Q' => t i E τ H' Q') H1 Q
section
variable {X : Cx}
theorem el_lamB {ι : Type} {F : ι → LF} {G : ι → Hp → Prop} {TT : (XK → Hp → VK → Prop) → Hp → VK → Prop} {x a : Str} {g : Addr} {k : Nat} {pg : Arguments} {bg : List Stmt} {sg : Scope} {dV kV doc pm cdv ct oc : Value} {an od : Option Addr} {osl : Array (Option Value)} {Ng : List Str}
    {sc : Scope} {e : Expr} {ta : TA} {t : ι → XK → TE} {p pos : Pos} (hg : ∀ (z : Shared) (Z : Hp) (L : Addr) (cl : List (Str × Addr)) (fp : List Addr), Gl (bCx X z Z sc L cl fp) x) (hm : X.mg x = some (.ref g)) (hk : PySem.W.keepIn X.K (.ref g) = true)
    (lk : X.K.lookup g = some ⟨oc, od, .func (PySem.W.fnOf x x pg bg sg dV kV doc pm an cdv ct), osl⟩) (hcg : PySem.W.codeIn X.K cdv x = true) (hb : L2.Binds X.K (PySem.W.fnOf x x pg bg sg dV kV doc pm an cdv ct) [a] []) (Sg : FnScope Ng [a] sg) (hNg : Ng[0]? = some a) (hva : Vis sg a)
    (hG : GivesV X Ng x sg g cdv bg a TT) (fam : Fam X ι F G) (ha : ∀ (z : Shared) (Z : Hp) (L : Addr) (cl : List (Str × Addr)) (fp : List Addr), PA (bCx X z Z sc L cl fp) [e] ta) (hr : Room (k + 2) X.A)
    (hbody : ∀ (i : ι) (A : Around) (outer : List Env) (s : Shared) (H : Hp) (E : XK) (f : Addr), Room k (A.deeper (lamEnv X (F i).scope s.heap.objs.size f (F i).c)) → PE (lamCx X A outer s H E (F i).scope f (F i).c) (F i).body (t i E))
    (hst : ∀ (L : Addr) (cl : List (Str × Addr)), starEach [e] (compEnvC sc cl L X.env) = (false, eval e (compEnvC sc cl L X.env)) :: starEach [] (compEnvC sc cl L X.env) := by intros; rfl)
    (hpl : ∀ (L : Addr) (cl : List (Str × Addr)), (backTo pos (starEach ([] : List Expr) (compEnvC sc cl L X.env))).any (·.1) = false := by intros; rfl)
    (hdb : (x == ("__debug__" : Str)) = false := by decide) (hd : (a == ("__debug__" : Str)) = false := by decide) (hcd : (a == ("__classdict__" : Str)) = false := by decide) (τ : L2.St) :
    ElB X τ sc (.Call (.Name x p) [e] [] pos) (tLamB F G TT ta t τ) := by
  intro pinsX z Z L cl fp IX fpo
  refine ⟨fun pins s σ H Q I h => ?_⟩
  have hex : ∀ y d, X.env.cells.lookup y = some d → d ∉ fp := fun y d hy hd => (fpo d hd).2.2.2.2.1 y d hy rfl
  refine wpAny_Call_Name_kw (ld_glob I (hg z Z L cl fp) hm ?_ hdb)
  refine PySem.W.callWith_K (h₀ := X.base) I.ok.mod.kin hk (thn ((ha z Z L cl fp).run pos pins s σ H _ I h) fun us s1 ⟨vs, H1, I1, r, q⟩ => ⟨I1.kIn, ?_⟩) (hst L cl) (hpl L cl)
  obtain ⟨f, i, rfl, e1, e2, e3, q⟩ := q
  rw [Vals.ref1 r]
  have rc : codeAny (model X.prog X.w) X.A (.call (.ref g) ⟨[.ref f], []⟩) (CR C8.CX0 X.stack X.prog X.w H1 s1 Q C8.E0) s1 := by
    refine run_ofS (N := Ng) (ps := [a]) (us := [.ref f]) (vs := [.ref f]) lk hcg Sg hr I1.env0 (hb s1 [.ref f] I1.kIn rfl) (.cons rfl .nil) rfl fun hr2 => ?_
    have go := hG f (fun HZ => HZ f = some (LamO f (F i)) ∧ HZ (F i).c = some (CodeO (F i).c (F i).q) ∧ G i HZ) s1 H1 Q (fun E H' Q' => t i E τ H' Q') (fun W pn xe p1 p2 tk => by
      have act := pe_actVB (i := 0) (p1 := p1) (p2 := p2) (E := fun σ' cls d H' => W cls d σ' H') (tb := t i) IX hex I1.base (fam.nm i) (fam.cl i) (fam.q i) (fam.bind i) tk (fun _ _ _ _ z => z) hr2 (fun E' A outer s H hr3 => hbody i A outer s H E' f hr3) hNg hva hd hcd
      exact ⟨fun pins2 s2 σ2 H2 Q2 I2 ⟨a1, ⟨a2, a3, a4⟩, a5⟩ => act.run pins2 s2 σ2 H2 Q2 I2 ⟨a1, a2, a3, a4, a5⟩⟩) ⟨e1, e2, e3⟩ q
    obtain ⟨t', ht', hq'⟩ := go
    exact ⟨t', ht'.nox, hq'⟩
  refine wpAny_call (codeAny_mono rc fun r s2 hh => ?_)
  cases r with
  | error e => exact (show False from hh).elim
  | ok fl =>
    cases fl with
    | ret u => exact I1.after hh
    | next => exact hh.elim
    | brk => exact hh.elim
    | cont => exact hh.elim
/-- a() in the block, a its own name -/
theorem el_actB {ι : Type} {F : ι → LF} {G : ι → Hp → Prop} {sc : Scope} {j k : Nat} {a : Str} {t : ι → TE} {p1 p2 : Pos} (fam : Fam X ι F G) (hr : Room (k + 1) X.A)
    (hbody : ∀ (i : ι) (A : Around) (outer : List Env) (s : Shared) (H : Hp) (f : Addr), Room k (A.deeper (lamEnv X (F i).scope s.heap.objs.size f (F i).c)) → PE (lamCx X A outer s H C8.E0 (F i).scope f (F i).c) (F i).body (t i))
    (hN : X.N[j]? = some a) (hv : ∀ (L : Addr) (cl : List (Str × Addr)), Vis (compEnvC sc cl L X.env).scope a) (hd : (a == ("__debug__" : Str)) = false := by decide) (hcd : (a == ("__classdict__" : Str)) = false := by decide) (τ : L2.St) :
    ElB X τ sc (.Call (.Name a p1) [] [] p2) (fun σ H Q => ∃ (f : Addr) (i : ι), σ[j]? = some (some (.ref f)) ∧ H f = some (LamO f (F i)) ∧ H (F i).c = some (CodeO (F i).c (F i).q) ∧ G i H ∧ t i τ H Q) := by
  intro pinsX z Z L cl fp IX fpo
  refine ⟨fun pins s σ H Q I h => ?_⟩
  have hex : ∀ y d, X.env.cells.lookup y = some d → d ∉ fp := fun y d hy hd => (fpo d hd).2.2.2.2.1 y d hy rfl
  obtain ⟨f, i, hs, hf, hc, hg, ht⟩ := h
  refine wpAny_Call_Name_kw (thn ((pe_var (X := bCx X z Z sc L cl fp) (pos := p1) (i := j) hN (hv L cl) hd hcd).run pins s σ H (fun v H1 => v = .ref f ∧ H1 = H) I ⟨.ref f, hs, rfl, rfl⟩) fun u s2 ⟨v, H2, I2, rv, e1, e2⟩ => ?_)
  subst e1
  rw [e2] at I2
  obtain rfl : u = Value.ref f := rv
  obtain ⟨⟨doc, pm, ctv, of1⟩, _, _⟩ := I2.hok f _ hf
  obtain ⟨⟨oc, vs, tt, c1, c2, c3⟩, _, _⟩ := I2.hok (F i).c _ hc
  refine PySem.W.callWith_F0 ⟨_, _, _, _, of1⟩ ?_
  have un : Un (frs X.stack) fp Z H z.heap s2.heap := I2.base
  obtain ⟨binds, hbi, hloc⟩ := fam.bind i doc pm ctv s2 H I2.hok hg
  have rc : codeAny (model X.prog X.w) X.A (.call (.ref f) ⟨[], []⟩) (CR (L2.CX X.prog X.w) X.stack X.prog X.w H s2 Q C8.E0) s2 := by
    refine PySem.W.kla_callFunE hr.depth of1 rfl (fam.nm i).co (fam.nm i).gen rfl ⟨(F i).c, oc, vs, tt, rfl, c1, c2, c3⟩ (hbi _ _ _ _ ?_)
    refine wpAny_newFunctionEnv (fam.nm i).nocell hloc (fun h1 hns hsb => ⟨I2.nolimit.fresh _ hsb, ?_⟩) (fam.nm i).kind
    have ee : PySem.W.envX (F i).q (F i).scope s2.heap.objs.size f (.ref (F i).c) (F i).cl = lamEnv X (F i).scope s2.heap.objs.size f (F i).c := by rw [fam.q i, fam.cl i]
    show codeAny _ _ (.expr (F i).body (PySem.W.envX (F i).q (F i).scope s2.heap.objs.size f (.ref (F i).c) (F i).cl)) _ _
    rw [ee]
    have kp : ∀ b o, s2.heap.get? b = some o → h1.get? b = some o := fun b o q => hsb.extBut b o (Nat.ne_of_lt (Heap.lt_size q)) (Heap.get?_push_of_some _ q)
    have J := lam_enter (E := C8.E0) (scope := (F i).scope) (f := f) (c' := (F i).c) (tk := s2.toks + binds.length) IX (fam.nm i) I2.env0 hr.hd hex un hns kp
    refine PySem.W.kla_codeExpr (wpAny_mono ((hbody i _ _ s2 H f (hr.deeper _)).run [] _ _ H Q J ht) (fun v s' hh => ?_) fun q s' hh => hh)
    obtain ⟨w', H', J', r', q'⟩ := hh
    exact ⟨w', H', J'.os, J'.bare, J'.base, J'.hok, r', q'⟩
  refine wpAny_call (codeAny_mono rc fun r s3 hh => ?_)
  cases r with
  | error q =>
    obtain ⟨_, _, _, _, _, _, _, _, _, _, _, _, z⟩ := (show L2.CX X.prog X.w X.stack H s2 C8.E0 q s3 from hh)
    exact (show False from z).elim
  | ok fl =>
    cases fl with
    | ret u => exact I2.after hh
    | next => exact hh.elim
    | brk => exact hh.elim
    | cont => exact hh.elim
end
end Rl
/-! One more rule beside the layer's: ring >> int, the class's own sign. -/
namespace Rz
open PySem PySem.Spec PyProof.Rows L2
section
variable {X : Cx}
def rShO (C : Addr) (sp : Sp) (E : XK) : R2 := fun x y H Q => ∃ (a dx : Addr) (fs : List (Str × V)) (i : Int), x = .ref a ∧ y = .int i ∧ H a = some (.ins C dx fs) ∧ sp [.ref a, .int i] H (fun v H' => (∃ b : Addr, v = .ref b) ∧ Q v H') E
theorem op_shO {CX : CXT} {k : Nat} {f C : Addr} {sp : Sp} {E : XK} {fo ro : Option Value} (hc : PySem.W.selfFirst X.K C = true) (hs : PySem.W.findIn X.K (.ref C) "__rshift__" = some (some (.ref f))) (hf : PySem.W.isFn X.K (.ref f) = true)
    (hn : PySem.W.findIn X.K (.ref C) "__rrshift__" = some none) (h1 : PySem.W.findIn X.K (.type "int") "__rshift__" = some fo) (h2 : PySem.W.findIn X.K (.type "int") "__rrshift__" = some ro) (hsub : PySem.W.subIn X.K (.type "int") (.ref C) = some false)
    (F : FnR X.prog X.w X.K X.mg X.base CX k f sp) (hr : Room k X.A) (hx : Passes CX X E) : OpR X (binaryOp .RShift) (rShO C sp E) := by
  intro pins s σ H x y v u Q I rx ry h
  obtain ⟨a, dx, fs, i, rfl, rfl, ea, q⟩ := h
  obtain rfl : v = Value.ref a := rx
  obtain ⟨t, rfl⟩ := ry
  obtain ⟨mA, O, _⟩ := ins_get I.hok ea
  obtain ⟨od, J, _⟩ := O.look
  obtain ⟨m, hns, _⟩ := I.loc
  refine PySem.W.ksp_binT (op := .RShift) (T := "int") ⟨hns, I.bk, Nat.le_trans I.ok.bsz I.ok.above⟩ I.ok.mod.kin J rfl hc hs hf hn (.inl rfl) h1 h2 hsub ?_
  refine wpAny_call (codeAny_mono (F X.A X.stack s H [.ref a, .int i t] [.ref a, .int i] _ E hr I.env0 (.cons rfl (.cons ⟨_, rfl⟩ .nil)) q) fun r s' hq => ?_)
  cases r with
  | error e => exact hx pins σ H s e s' I hq
  | ok fl =>
    cases fl with
    | ret u =>
      obtain ⟨v, H', J', rv, ⟨b, rfl⟩, q'⟩ := I.after hq
      obtain rfl : u = Value.ref b := rv
      exact ⟨.ref b, H', J', rfl, q'⟩
    | next => exact False.elim hq
    | brk => exact False.elim hq
    | cont => exact False.elim hq
end
end Rz
/-! Own signs: o[i], o == x, o >> x; a class held by a local name is called. -/
namespace Rz
open PySem PySem.Spec PyProof.Rows L2
section
variable {X : Cx} {CX : CXT} {k : Nat} {f C : Addr} {sp : Sp} {E : XK} {pins : List (Addr × Obj)} {s : Shared} {σ : L2.St} {H : Hp} {Q : VK}
/-- an own def is called within one more step -/
theorem run_in1 {us : List Value} {vs : List V} (F : FnR X.prog X.w X.K X.mg X.base CX k f sp) (hr : Room (k + 1) X.A) (hx : Passes CX X E) (I : Inv X pins σ H s) (r : Vals vs us) (q : sp vs H Q E) :
    wpAny (model X.prog X.w) X.A.in1 (call (.ref f) us) (EP X pins σ Q) X.xe s := by
  have e := I.env0
  have e0 : Env0 X.prog X.w X.K X.mg X.base X.A.in1 X.stack s H := ⟨e.frames, e.mod, e.bs, e.bsz, e.funs, e.frf, e.hok, e.bare⟩
  refine wpAny_call (codeAny_mono (F X.A.in1 X.stack s H us vs _ E hr.in1 e0 r q) fun r s' hq => ?_)
  cases r with
  | error e => exact hx pins σ H s e s' I hq
  | ok fl =>
    cases fl with
    | ret u => exact I.after hq
    | next => exact False.elim hq
    | brk => exact False.elim hq
    | cont => exact False.elim hq
theorem run_here {us : List Value} {vs : List V} (F : FnR X.prog X.w X.K X.mg X.base CX k f sp) (hr : Room k X.A) (hx : Passes CX X E) (I : Inv X pins σ H s) (r : Vals vs us) (q : sp vs H Q E) :
    wpAny (model X.prog X.w) X.A (call (.ref f) us) (EP X pins σ Q) X.xe s := by
  refine wpAny_call (codeAny_mono (F X.A X.stack s H us vs _ E hr I.env0 r q) fun r s' hq => ?_)
  cases r with
  | error e => exact hx pins σ H s e s' I hq
  | ok fl =>
    cases fl with
    | ret u => exact I.after hq
    | next => exact False.elim hq
    | brk => exact False.elim hq
    | cont => exact False.elim hq
/-- o[y], o of the class at C -/
def rIxO (C : Addr) (sp : Sp) (E : XK) : R2 := fun x y H Q => ∃ (p dx : Addr) (fs : List (Str × V)), x = .ref p ∧ H p = some (.ins C dx fs) ∧ sp [.ref p, y] H Q E
theorem pe_ixO {a b : Expr} {ta tb : TE} {pos : Pos} (hs : PySem.W.findIn X.K (.ref C) "__getitem__" = some (some (.ref f))) (hf : PySem.W.fnIn X.K f = true) (hfn : PySem.W.isFn X.K (.ref f) = true)
    (F : FnR X.prog X.w X.K X.mg X.base CX k f sp) (hr : Room (k + 1) X.A) (hx : Passes CX X E) (ha : PE X a ta) (hb : PE X b tb)
    (hsl : ∀ (o : Addr) (i : Value), subscripted b true (.ref o) i = runValue (.builtin "lifetime.subscript" ⟨[.ref o, i], []⟩) := by intro _ _; with_unfolding_all rfl) : PE X (.Subscript a b pos) (tOp (rIxO C sp E) ta tb) := by
  refine ⟨fun pins s σ H Q I h => Subscript_ (binT ha hb I h fun v u s2 x y H2 I2 rx ry q => ?_)⟩
  obtain ⟨p, dx, fs, rfl, hp, q⟩ := q
  obtain rfl : v = Value.ref p := rx
  obtain ⟨mA, O, _⟩ := ins_get I2.hok hp
  obtain ⟨od, J, _⟩ := O.look
  obtain ⟨m, hns, _⟩ := I2.loc
  exact PySem.W.sub_K ⟨hns, I2.bk, Nat.le_trans I2.ok.bsz I2.ok.above⟩ I2.ok.mod.kin J hs hf hfn (run_in1 F hr hx I2 (vs := [.ref p, y]) (.cons rfl (.cons ry .nil)) q) (hsl p u)
/-- the other side of an own sign: of the same class, or of a built-in kind -/
def Oth (C : Addr) (H : Hp) (y : V) : Prop := (∃ (b dy : Addr) (gs : List (Str × V)), y = .ref b ∧ H b = some (.ins C dy gs)) ∨ ∃ (b : Addr) (xs : List V), y = .ref b ∧ H b = some (.tup xs)
def rEqO (C : Addr) (sp : Sp) (E : XK) : R2 := fun x y H Q => ∃ (a dx : Addr) (fs : List (Str × V)), x = .ref a ∧ H a = some (.ins C dx fs) ∧ Oth C H y ∧ sp [.ref a, y] H (fun v H' => (∃ k, v = .bl k) ∧ Q v H') E
theorem op_eqO (hs : PySem.W.findIn X.K (.ref C) "__eq__" = some (some (.ref f))) (hf : PySem.W.isFn X.K (.ref f) = true) (ht : PySem.W.subIn X.K (.type "tuple") (.ref C) = some false)
    (F : FnR X.prog X.w X.K X.mg X.base CX k f sp) (hr : Room k X.A) (hx : Passes CX X E) : OpR X (compareOp .Eq) (rEqO C sp E) := by
  intro pins s σ H x y v u Q I rx ry h
  obtain ⟨a, dx, fs, rfl, ha, ho, q⟩ := h
  obtain rfl : v = Value.ref a := rx
  obtain ⟨mA, O, _⟩ := ins_get I.hok ha
  obtain ⟨od, J, _⟩ := O.look
  obtain ⟨m, hF⟩ := I.fr
  have back : ∀ (w : Value) (s' : Shared), EP X pins σ (fun v H' => (∃ k, v = V.bl k) ∧ Q v H') w s' → PySem.W.CmpBack (EP X pins σ Q) w s' := fun w s' h => by
    obtain ⟨z, H', I', rz, ⟨k, rfl⟩, q'⟩ := h
    cases rz
    exact ⟨.bl k, H', I', rfl, q'⟩
  show wpAny (model X.prog X.w) X.A (richCompare .Eq (.ref a) u) (EP X pins σ Q) X.xe s
  have hu : X.A.units < cLine := hr.units0
  rcases ho with ⟨b, dy, gs, rfl, hb⟩ | ⟨b, xs, rfl, hb⟩
  · obtain rfl : u = Value.ref b := ry
    obtain ⟨mB, O', _⟩ := ins_get I.hok hb
    obtain ⟨od', J', _⟩ := O'.look
    exact PySem.W.cmp_K (op := .Eq) (tb := .ref C) hu hF I.ok.mod.kin J J'.type (by simp [PySem.W.notFirst]) hs hf (wpAny_mono (run_here F hr hx I (vs := [.ref a, .ref b]) (.cons rfl (.cons rfl .nil)) q) back fun _ _ e => e)
  · obtain rfl : u = Value.ref b := ry
    obtain ⟨its, _, p1, _⟩ := I.tuple (SqT.of (K := X.K) hb)
    have L : PySem.W.Looks (model X.prog X.w) s.heap (typeOf (.ref b)) (.type "tuple") := by
      obtain ⟨o, ho, hc, _⟩ := p1
      exact fun A Q E s k q => wpAny_typeOf_ref (k _ _ ho) (by rw [hc]; exact q)
    exact PySem.W.cmp_K (op := .Eq) (tb := .type "tuple") hu hF I.ok.mod.kin J L (by simp [PySem.W.notFirst, ht]) hs hf (wpAny_mono (run_here F hr hx I (vs := [.ref a, .ref b]) (.cons rfl (.cons rfl .nil)) q) back fun _ _ e => e)
/-- o >> y, y of the built-in kind T -/
def rShV (C : Addr) (T : String) (sp : Sp) (E : XK) : R2 := fun x y H Q => ∃ (a dx : Addr) (fs : List (Str × V)), x = .ref a ∧ H a = some (.ins C dx fs) ∧ (∀ u, RelV y u → typeOf u = pure (.type T)) ∧ sp [.ref a, y] H (fun v H' => (∃ b : Addr, v = .ref b) ∧ Q v H') E
theorem op_shV {T : String} {fo ro : Option Value} (hc : PySem.W.selfFirst X.K C = true) (hs : PySem.W.findIn X.K (.ref C) "__rshift__" = some (some (.ref f))) (hf : PySem.W.isFn X.K (.ref f) = true)
    (hn : PySem.W.findIn X.K (.ref C) "__rrshift__" = some none) (h1 : PySem.W.findIn X.K (.type T) "__rshift__" = some fo) (h2 : PySem.W.findIn X.K (.type T) "__rrshift__" = some ro) (hsub : PySem.W.subIn X.K (.type T) (.ref C) = some false)
    (F : FnR X.prog X.w X.K X.mg X.base CX k f sp) (hr : Room k X.A) (hx : Passes CX X E) : OpR X (binaryOp .RShift) (rShV C T sp E) := by
  intro pins s σ H x y v u Q I rx ry h
  obtain ⟨a, dx, fs, rfl, ea, hT, q⟩ := h
  obtain rfl : v = Value.ref a := rx
  obtain ⟨mA, O, _⟩ := ins_get I.hok ea
  obtain ⟨od, J, _⟩ := O.look
  obtain ⟨m, hns, _⟩ := I.loc
  refine PySem.W.ksp_binT (op := .RShift) (T := T) ⟨hns, I.bk, Nat.le_trans I.ok.bsz I.ok.above⟩ I.ok.mod.kin J (hT u ry) hc hs hf hn (.inl rfl) h1 h2 hsub ?_
  refine wpAny_mono (run_here F hr hx I (vs := [.ref a, y]) (.cons rfl (.cons ry .nil)) q) (fun w s' z => ?_) fun _ _ e => e
  obtain ⟨z, H', I', rz, ⟨b, rfl⟩, q'⟩ := z
  obtain rfl : w = Value.ref b := rz
  exact ⟨.ref b, H', I', rfl, q'⟩
/-- x(..), x a local name that holds the class at C -/
def tMakeL (i : Nat) (C : Addr) (sp : Sp) (E : XK) (t : TA) : TE := fun σ H Q => σ[i]? = some (some (.ref C)) ∧ StX.tMakeR C sp E t σ H Q
theorem pe_makeL {i : Nat} {x : Str} {e : Expr} {es : List Expr} {t : TA} {p pos : Pos} (M : Mk X.K C f) (F : FnR X.prog X.w X.K X.mg X.base CX k f sp) (hr : Room (k + 1) X.A) (hN : X.N[i]? = some x) (hv : Vis X.env.scope x) (hx : Passes CX X E) (ha : PA X (e :: es) t)
    (hdb : (x == ("__debug__" : Str)) = false := by decide) (hcd : (x == ("__classdict__" : Str)) = false := by decide)
    (he : starEach (e :: es) X.env = (false, eval e X.env) :: starEach es X.env := by rfl) (hpl : (backTo pos (starEach es X.env)).any (·.1) = false := by rfl) : PE X (.Call (.Name x p) (e :: es) [] pos) (tMakeL i C sp E t) := by
  refine ⟨fun pins s σ H Q I h => ?_⟩
  obtain ⟨hs, ht⟩ := h
  have look := (pe_var (pos := p) hN hv hdb hcd).run pins s σ H (fun v H1 => v = .ref C ∧ H1 = H) I ⟨.ref C, hs, rfl, rfl⟩
  refine wpAny_Call_Name_kw (thn look fun u s1 hq => ?_)
  obtain ⟨v, H1, I1, r1, rfl, rfl⟩ := hq
  cases r1
  have args := ha.run pos pins s1 σ _ _ I1 ht
  exact PySem.W.callWith_K (h₀ := X.base) I.ok.mod.kin M.kp (thn args fun us s2 hq2 => by
    obtain ⟨vs, H2, I2, r, q⟩ := hq2
    exact ⟨I2.kIn, StX.run_makeR M F hr hx I2 r q⟩) he hpl
end
end Rz
namespace Rp
open PySem PySem.Spec PyProof.Rows L2 Rz Rm
/-! ### which book, when it came -/
section
variable {ds ss : List Int} {M : Int} (RR : Rm.Ring ds.length (at' ds) (at' ss) ss.sum ds.sum M) (hl : ss.length = ds.length)
include RR hl
theorem bk_ex (k : Int) {q : Int} (q0 : 0 ≤ q) (q1 : q < ss.sum) : ∃ v, Bk ss k q v := by
  have go : ∀ n : Nat, n ≤ ss.length → q < sumBack (at' ss) k n → ∃ v, Bk ss k q v := by
    intro n
    induction n with
    | zero => intro _ h; exact absurd h (by show ¬ q < 0; omega)
    | succ n ih =>
      intro hn h
      by_cases hh : q < sumBack (at' ss) k n
      · exact ih (by omega) hh
      · exact ⟨_, n, by omega, by omega, h, rfl⟩
  refine go ss.length (Nat.le_refl _) ?_
  rw [hl, RR.b]
  exact q1
end
noncomputable def bk (ss : List Int) (k n : Int) : Int := open Classical in if h : ∃ v, Bk ss k (n % ss.sum) v then Classical.choose h else 0
noncomputable def cm (ds ss : List Int) (k n : Int) : Int := if n < at' ss k then 0 else Rm.E (at' ds) (at' ss) (k - 1) (n - at' ss k)
section
variable {ds ss : List Int} {M : Int} (RR : Rm.Ring ds.length (at' ds) (at' ss) ss.sum ds.sum M) (hl : ss.length = ds.length)
include RR hl
theorem bk_is (k n : Int) : Bk ss k (n % ss.sum) (bk ss k n) := by
  have hB := RR.b1
  have h := bk_ex RR hl k (q := n % ss.sum) (Int.emod_nonneg _ (by omega)) (Int.emod_lt_of_pos _ (by omega))
  unfold bk
  rw [dif_pos h]
  exact Classical.choose_spec h
theorem bk_of {k n v : Int} (h : Bk ss k (n % ss.sum) v) : bk ss k n = v := (bk_is RR hl k n).inj RR.s0 h
theorem s_le (k : Int) : at' ss k ≤ ss.sum := by
  have hN := RR.pos
  have h := sum_mono RR.s0 k (show 1 ≤ ds.length by omega)
  rw [RR.b] at h
  have e : sumBack (at' ss) k 1 = at' ss k := by
    show 0 + at' ss (k - (0 : Nat)) = _
    rw [show k - ((0 : Nat) : Int) = k by omega]
    omega
  omega
theorem bk_first {k : Nat} (hk : k < ds.length) {n : Int} (n0 : 0 ≤ n) (n1 : n < at' ss k) : bk ss k n = (ss.take k).sum + n := by
  have h1 := s_le RR hl k
  refine bk_of RR hl ⟨0, by omega, ?_, ?_, ?_⟩
  · show (0 : Int) ≤ _
    exact Int.emod_nonneg _ (by have := RR.b1; omega)
  · rw [Int.emod_eq_of_lt n0 (by omega)]
    show n < 0 + at' ss ((k : Int) - (0 : Nat))
    rw [show (k : Int) - ((0 : Nat) : Int) = k by omega]
    omega
  · rw [Int.emod_eq_of_lt n0 (by omega), show (k : Int) - ((0 : Nat) : Int) = k by omega, Int.emod_eq_of_lt (by omega) (by omega), Int.toNat_natCast]
    show _ = _ + (n - 0)
    omega
theorem bk_rec (k : Int) {n : Int} (h : at' ss k ≤ n) : bk ss k n = bk ss (k - 1) (n - at' ss k) := by
  have hB := RR.b1
  have hs0 := RR.s0 k
  have hsB := s_le RR hl k
  have hN := RR.pos
  symm
  apply bk_of RR hl
  have q0 : 0 ≤ n % ss.sum := Int.emod_nonneg _ (by omega)
  have q1 : n % ss.sum < ss.sum := Int.emod_lt_of_pos _ (by omega)
  have hdm := Int.emod_add_mul_ediv n ss.sum
  obtain ⟨i, hi, a1, a2, a3⟩ := bk_is RR hl k n
  have hf : ∀ j : Nat, sumBack (at' ss) k (j + 1) = at' ss k + sumBack (at' ss) (k - 1) j := fun j => sum_front (at' ss) j k
  by_cases hq : at' ss k ≤ n % ss.sum
  · have hi0 : i ≠ 0 := fun e => by
      subst e
      have := hf 0
      have e0 : sumBack (at' ss) (k - 1) 0 = 0 := rfl
      have : sumBack (at' ss) k (0 + 1) = sumBack (at' ss) k 1 := rfl
      omega
    obtain ⟨i', rfl⟩ : ∃ i', i = i' + 1 := ⟨i - 1, by omega⟩
    have em : (n - at' ss k) % ss.sum = n % ss.sum - at' ss k := by
      have e1 : n - at' ss k = (n % ss.sum - at' ss k) + ss.sum * (n / ss.sum) := by omega
      rw [e1, Int.add_mul_emod_self_left, Int.emod_eq_of_lt (by omega) (by omega)]
    have h1 := hf i'
    have h2 := hf (i' + 1)
    refine ⟨i', by omega, by omega, by omega, ?_⟩
    rw [em, a3, show k - 1 - (i' : Int) = k - ((i' + 1 : Nat) : Int) by omega]
    omega
  · have hi0 : i = 0 := by
      rcases Nat.eq_zero_or_pos i with z | z
      · exact z
      · have := sum_mono RR.s0 k (show 1 ≤ i by omega)
        have h1 := hf 0
        have e0 : sumBack (at' ss) (k - 1) 0 = 0 := rfl
        have : sumBack (at' ss) k (0 + 1) = sumBack (at' ss) k 1 := rfl
        omega
    subst hi0
    have hdiv : 1 ≤ n / ss.sum := by
      rcases Int.lt_or_le (n / ss.sum) 1 with z | z
      · have : ss.sum * (n / ss.sum) ≤ 0 := Int.mul_nonpos_of_nonneg_of_nonpos (by omega) (by omega)
        omega
      · exact z
    have em : (n - at' ss k) % ss.sum = n % ss.sum - at' ss k + ss.sum := by
      have e1 : n - at' ss k = (n % ss.sum - at' ss k + ss.sum) + ss.sum * (n / ss.sum - 1) := by
        rw [Int.mul_sub]
        omega
      rw [e1, Int.add_mul_emod_self_left, Int.emod_eq_of_lt (by omega) (by omega)]
    have hlast : sumBack (at' ss) (k - 1) (ds.length - 1 + 1) = sumBack (at' ss) (k - 1) (ds.length - 1) + at' ss (k - 1 - (ds.length - 1 : Nat)) := rfl
    rw [show ds.length - 1 + 1 = ds.length by omega, RR.b] at hlast
    have hper := RR.sper (k - ds.length) 1
    rw [show k - (ds.length : Int) + ds.length * 1 = k by omega] at hper
    rw [show k - 1 - ((ds.length - 1 : Nat) : Int) = k - ds.length by omega, ← hper] at hlast
    have hfull : sumBack (at' ss) (k - 1) (ds.length - 1 + 1) = ss.sum := by
      rw [show ds.length - 1 + 1 = ds.length by omega, RR.b]
    refine ⟨ds.length - 1, by omega, by omega, by omega, ?_⟩
    have ek : (k - 1 - ((ds.length - 1 : Nat) : Int)) % (ss.length : Int) = (k - (0 : Nat)) % (ss.length : Int) := by
      rw [show k - 1 - ((ds.length - 1 : Nat) : Int) = k + (ss.length : Int) * (-1) by omega, Int.add_mul_emod_self_left, show k - ((0 : Nat) : Int) = k by omega]
    rw [em, ek, a3]
    have e0 : sumBack (at' ss) k 0 = 0 := rfl
    omega
theorem bk_per (k t n : Int) : bk ss (k + ds.length * t) n = bk ss k n := by
  have hS : ∀ i, sumBack (at' ss) (k + ds.length * t) i = sumBack (at' ss) k i := by
    intro i
    induction i with
    | zero => rfl
    | succ i ih =>
      show sumBack (at' ss) (k + ds.length * t) i + at' ss (k + ds.length * t - i) = sumBack (at' ss) k i + at' ss (k - i)
      rw [ih, show k + ds.length * t - (i : Int) = (k - i) + ds.length * t by omega, RR.sper]
  apply bk_of RR hl
  obtain ⟨i, hi, a1, a2, a3⟩ := bk_is RR hl k n
  refine ⟨i, hi, by rw [hS]; exact a1, by rw [hS]; exact a2, ?_⟩
  rw [hS, a3, show k + ds.length * t - (i : Int) = (k - i) + ss.length * t by rw [hl]; omega, Int.add_mul_emod_self_left]
end
/-! ### what lies in heaps, on lists -/
/-- f b, f (b + 1), .. below c -/
def seg (f : Int → List Int) (b c : Int) : List (List Int) := (List.range (c - b).toNat).map fun (i : Nat) => f (b + (i : Int))
theorem seg_nil {f : Int → List Int} {b c : Int} (h : c ≤ b) : seg f b c = [] := by
  unfold seg
  rw [show (c - b).toNat = 0 by omega]
  rfl
theorem seg_snoc {f : Int → List Int} {b c : Int} (h : b ≤ c) : seg f b (c + 1) = seg f b c ++ [f c] := by
  unfold seg
  rw [show (c + 1 - b).toNat = (c - b).toNat + 1 by omega, List.range_succ, List.map_append]
  show _ ++ [f (b + ((c - b).toNat : Int))] = _
  rw [show b + ((c - b).toNat : Int) = c by omega]
theorem seg_cons {f : Int → List Int} {b c : Int} (h : b < c) : seg f b c = f b :: seg f (b + 1) c := by
  unfold seg
  rw [show (c - b).toNat = (c - (b + 1)).toNat + 1 by omega, List.range_succ_eq_map, List.map_cons, List.map_map, show b + ((0 : Nat) : Int) = b by omega]
  congr 1
  apply List.map_congr_left
  intro i _
  show f (b + ((i + 1 : Nat) : Int)) = f (b + 1 + (i : Int))
  rw [show b + ((i + 1 : Nat) : Int) = b + 1 + (i : Int) by omega]
theorem seg_length (f : Int → List Int) (b c : Int) : (seg f b c).length = (c - b).toNat := by
  unfold seg
  rw [List.length_map, List.length_range]
theorem seg_get {f : Int → List Int} {b c : Int} {i : Nat} (h : i < (c - b).toNat) : (seg f b c)[i]? = some (f (b + i)) := by
  unfold seg
  rw [List.getElem?_map, List.getElem?_range h]
  rfl
/-- tuples of ints at addresses -/
def Tups (H : Hp) : List V → List (List Int) → Prop := Paired fun v l => ∃ t, v = V.ref t ∧ H t = some (.tup (l.map V.int))
theorem Tups.snoc {H : Hp} {v : V} {l : List Int} (h2 : ∃ t, v = V.ref t ∧ H t = some (.tup (l.map V.int))) : ∀ {xs : List V} {ls : List (List Int)}, Tups H xs ls → Tups H (xs ++ [v]) (ls ++ [l])
  | _, _, .nil => .cons h2 .nil
  | _, _, .cons r t => .cons r (Tups.snoc h2 t)
theorem Tups.mono {H H' : Hp} (k : ∀ b xs, H b = some (.tup xs) → H' b = some (.tup xs)) : ∀ {xs : List V} {ls : List (List Int)}, Tups H xs ls → Tups H' xs ls
  | _, _, .nil => .nil
  | _, _, .cons ⟨t, e, h⟩ r => .cons ⟨t, e, k _ _ h⟩ (Tups.mono k r)
theorem Tups.length {H : Hp} {xs : List V} {ls : List (List Int)} (h : Tups H xs ls) : xs.length = ls.length := Paired.length h
theorem Tups.get {H : Hp} : ∀ {xs : List V} {ls : List (List Int)} {i : Nat} {l : List Int}, Tups H xs ls → ls[i]? = some l → ∃ t, xs[i]? = some (.ref t) ∧ H t = some (.tup (l.map V.int))
  | _, _, i, l, .nil, h => by simp at h
  | _, _, 0, l, .cons ⟨t, e, h2⟩ r, h => by
    simp at h
    subst h
    exact ⟨t, by rw [e]; rfl, h2⟩
  | _, _, i + 1, l, .cons _ r, h => by
    obtain ⟨t, h1, h2⟩ := Tups.get (i := i) (l := l) r (by simpa using h)
    exact ⟨t, by simpa using h1, h2⟩
/-- as data, for == -/
theorem dp_is {K : PySem.W.Frag} {H : Hp} : ∀ l : List Int, DpAll K H (l.map V.int) (l.map PyData.int)
  | [] => .nil
  | x :: r => .cons (.int x) (dp_is r)
theorem Tups.data {K : PySem.W.Frag} {H : Hp} : ∀ {xs : List V} {ls : List (List Int)}, Tups H xs ls → DpAll K H xs (ls.map fun l => PyData.tuple (l.map PyData.int))
  | _, _, .nil => .nil
  | _, _, .cons ⟨t, e, h⟩ r => .cons (by subst e; exact .tup (.of h) (dp_is _)) (Tups.data r)
theorem lay_tups : ∀ ls : List (List Int), PyData.canLayAll0 (ls.map fun l => PyData.tuple (l.map PyData.int)) = true ∧ PyData.depthAll (ls.map fun l => PyData.tuple (l.map PyData.int)) ≤ 1
  | [] => ⟨rfl, Nat.zero_le _⟩
  | l :: r => by
    obtain ⟨h1, h2⟩ := lay_tups r
    constructor
    · simp [PyData.canLayAll0, PyData.canLay0, PySem.W.ke_canLayAll0 l, h1]
    · simp only [List.map_cons, PyData.depthAll, PyData.depth, PySem.W.ke_depthAll l]
      omega
theorem shaped_tups (ls : List (List Int)) : SeqAt.shaped (.list (ls.map fun l => PyData.tuple (l.map PyData.int))) = true := by
  obtain ⟨h1, h2⟩ := lay_tups ls
  simp only [SeqAt.shaped, PyData.canLay0, PyData.depth, h1, Bool.true_and]
  exact decide_eq_true (by omega)
end Rp
namespace Rp
open PySem PySem.Spec PyProof.Rows L2 Rz Rm
def nx (N j : Nat) : Nat := if j + 1 = N then 0 else j + 1
def prv (N j : Nat) : Nat := if j = 0 then N - 1 else j - 1
theorem nx_lt {N j : Nat} (h : j < N) : nx N j < N := by
  unfold nx
  split <;> omega
theorem prv_lt {N j : Nat} (h : j < N) : prv N j < N := by
  unfold prv
  split <;> omega
theorem prv_nx {N j : Nat} (h : j < N) : prv N (nx N j) = j := by
  unfold prv nx
  split <;> split <;> omega
theorem prv_inj {N i j : Nat} (hi : i < N) (hj : j < N) (h : prv N i = j) : i = nx N j := by
  unfold prv at h
  unfold nx
  split at h <;> split <;> omega
theorem nx_mod {N j : Nat} (h : j < N) : ((j : Int) + 1) % (N : Int) = (nx N j : Int) := by
  unfold nx
  split
  · rename_i e
    rw [show (j : Int) + 1 = N by omega, Int.emod_self]
    rfl
  · rw [Int.emod_eq_of_lt (by omega) (by omega)]
    omega
noncomputable def item (ds ss : List Int) (j n : Int) : List Int := [bk ss j n, cm ds ss j n]
noncomputable def rowOf (ds ss : List Int) (j n : Int) : List Int := [Rm.E (at' ds) (at' ss) j n - at' ds j, Rm.E (at' ds) (at' ss) j n, bk ss j n, cm ds ss j n]
/-- the ends, counts of the reader before, by its index -/
theorem E_prv {ds ss : List Int} {M : Int} (RR : Rm.Ring ds.length (at' ds) (at' ss) ss.sum ds.sum M) {j : Nat} (hj : j < ds.length) (x : Int) : Rm.E (at' ds) (at' ss) (prv ds.length j : Nat) x = Rm.E (at' ds) (at' ss) ((j : Int) - 1) x := by
  unfold prv
  split
  · rename_i e
    have h := RR.E_per ((j : Int) - 1) x 1
    rw [show (j : Int) - 1 + ds.length * 1 = ((ds.length - 1 : Nat) : Int) by omega] at h
    exact h
  · rw [show ((j - 1 : Nat) : Int) = (j : Int) - 1 by omega]
theorem Cn_prv {ds ss : List Int} {M : Int} (RR : Rm.Ring ds.length (at' ds) (at' ss) ss.sum ds.sum M) {j : Nat} (hj : j < ds.length) (x : Int) : Cn (at' ds) (at' ss) (prv ds.length j : Nat) x = Cn (at' ds) (at' ss) ((j : Int) - 1) x := by
  unfold prv
  split
  · rename_i e
    have h := RR.cn_per ((j : Int) - 1) x 1
    rw [show (j : Int) - 1 + ds.length * 1 = ((ds.length - 1 : Nat) : Int) by omega] at h
    exact h
  · rw [show ((j - 1 : Nat) : Int) = (j : Int) - 1 by omega]
theorem item_next {ds ss : List Int} {M : Int} (RR : Rm.Ring ds.length (at' ds) (at' ss) ss.sum ds.sum M) (hl : ss.length = ds.length) {j : Nat} (hj : j < ds.length) {n : Int} (n0 : 0 ≤ n) :
    item ds ss (nx ds.length j : Nat) (at' ss (nx ds.length j : Nat) + n) = [bk ss j n, Rm.E (at' ds) (at' ss) j n] := by
  have hb := bk_rec RR hl (nx ds.length j : Nat) (n := at' ss (nx ds.length j : Nat) + n) (by omega)
  rw [show at' ss (nx ds.length j : Nat) + n - at' ss (nx ds.length j : Nat) = n by omega] at hb
  have hp := E_prv RR (nx_lt hj) n
  rw [prv_nx hj] at hp
  have hbp : bk ss (((nx ds.length j : Nat) : Int) - 1) n = bk ss j n := by
    unfold nx
    split
    · rename_i e
      have h := bk_per RR hl (((0 : Nat) : Int) - 1) 1 n
      rw [show ((0 : Nat) : Int) - 1 + ds.length * 1 = j by omega] at h
      exact h.symm
    · rw [show ((j + 1 : Nat) : Int) - 1 = j by omega]
  unfold item cm
  rw [if_neg (by omega), hb, hbp, show at' ss (nx ds.length j : Nat) + n - at' ss (nx ds.length j : Nat) = n by omega, hp]
/-- where the play's lists stand: apart, and new -/
structure Ad (H0 : Hp) (N : Nat) (hl rd rl sl : Addr) (ha ra : List Addr) : Prop where
  f1 : H0 hl = none
  f2 : H0 rd = none
  f3 : H0 rl = none
  f4 : H0 sl = none
  fh : ∀ a ∈ ha, H0 a = none
  fr : ∀ a ∈ ra, H0 a = none
  n1 : hl ≠ rd
  n2 : hl ≠ rl
  n3 : hl ≠ sl
  n4 : rd ≠ rl
  n5 : rd ≠ sl
  n6 : rl ≠ sl
  nh : ∀ a ∈ ha, a ≠ hl ∧ a ≠ rd ∧ a ≠ rl ∧ a ≠ sl
  nr : ∀ a ∈ ra, a ≠ hl ∧ a ≠ rd ∧ a ≠ rl ∧ a ≠ sl
  nhr : ∀ a ∈ ha, ∀ c ∈ ra, a ≠ c
  dh : ha.Nodup
  dr : ra.Nodup
  lh : ha.length = N
  lr : ra.length = N
/-- what a reader is reading -/
def RdOk (H : Hp) (ds ss : List Int) (v : V) (j : Int) (b e : Int) : Prop := (v = .non ∧ b = e) ∨ (∃ t, v = .ref t ∧ H t = some (.tup [.int (Rm.E (at' ds) (at' ss) j e), .int (bk ss j e)]) ∧ b = e + 1)
/-- the play: so many readings of each reader have begun, so many have ended -/
structure Sim (ds ss : List Int) (H0 H : Hp) (hl rd rl sl : Addr) (ha ra : List Addr) (b e : Nat → Int) : Prop where
  sm : Same H0 H
  ohl : H hl = some (.lst (ha.map V.ref))
  orl : H rl = some (.lst (ra.map V.ref))
  oh : ∀ (j : Nat) (a : Addr), ha[j]? = some a → ∃ xs, H a = some (.lst xs) ∧ Tups H xs (seg (item ds ss j) (b j) (at' ss j + e (prv ds.length j)))
  orr : ∀ (j : Nat) (a : Addr), ra[j]? = some a → ∃ xs, H a = some (.lst xs) ∧ Tups H xs (seg (rowOf ds ss j) 0 (b j))
  ord : ∃ vs, H rd = some (.lst vs) ∧ vs.length = ds.length ∧ ∀ j, j < ds.length → ∃ v, vs[j]? = some v ∧ RdOk H ds ss v j (b j) (e j)
  b0 : ∀ j, j < ds.length → 0 ≤ b j
  e0 : ∀ j, j < ds.length → 0 ≤ e j
  le : ∀ j, j < ds.length → b j ≤ at' ss j + e (prv ds.length j)
theorem RdOk.mono {H H' : Hp} {ds ss : List Int} {v : V} {j b e : Int} (k : ∀ b xs, H b = some (.tup xs) → H' b = some (.tup xs)) (h : RdOk H ds ss v j b e) : RdOk H' ds ss v j b e := by
  rcases h with h | ⟨t, h1, h2, h3⟩
  · exact .inl h
  · exact .inr ⟨t, h1, k _ _ h2, h3⟩
section
variable {ds ss : List Int} {H0 H H' : Hp} {hl rd rl sl : Addr} {ha ra : List Addr} {b e : Nat → Int}
theorem Sim.same (S : Sim ds ss H0 H hl rd rl sl ha ra b e) (s : Same H H') : Sim ds ss H0 H' hl rd rl sl ha ra b e := by
  have k : ∀ b xs, H b = some (.tup xs) → H' b = some (.tup xs) := fun b xs h => s _ _ h
  refine ⟨S.sm.trans s, s _ _ S.ohl, s _ _ S.orl, fun j a h => ?_, fun j a h => ?_, ?_, S.b0, S.e0, S.le⟩
  · obtain ⟨xs, h1, h2⟩ := S.oh j a h
    exact ⟨xs, s _ _ h1, h2.mono k⟩
  · obtain ⟨xs, h1, h2⟩ := S.orr j a h
    exact ⟨xs, s _ _ h1, h2.mono k⟩
  · obtain ⟨vs, h1, h2, h3⟩ := S.ord
    refine ⟨vs, s _ _ h1, h2, fun j hj => ?_⟩
    obtain ⟨v, a1, a2⟩ := h3 j hj
    exact ⟨v, a1, a2.mono k⟩
/-- sights are written -/
theorem Sim.sight (A : Ad H0 ds.length hl rd rl sl ha ra) (S : Sim ds ss H0 H hl rd rl sl ha ra b e) (hs : ∃ ys, H sl = some (.lst ys)) (k : ∀ x o, H x = some o → x ≠ sl → H' x = some o) : Sim ds ss H0 H' hl rd rl sl ha ra b e := by
  obtain ⟨ys, hs⟩ := hs
  have kt : ∀ b xs, H b = some (.tup xs) → H' b = some (.tup xs) := fun b xs h => k _ _ h (ne_of h hs (by intro z; cases z))
  refine ⟨fun x o h => k _ _ (S.sm _ _ h) (ne_of_none h A.f4), k _ _ S.ohl A.n3, k _ _ S.orl A.n6, fun j a h => ?_, fun j a h => ?_, ?_, S.b0, S.e0, S.le⟩
  · obtain ⟨xs, h1, h2⟩ := S.oh j a h
    exact ⟨xs, k _ _ h1 (A.nh a (List.mem_of_getElem? h)).2.2.2, h2.mono kt⟩
  · obtain ⟨xs, h1, h2⟩ := S.orr j a h
    exact ⟨xs, k _ _ h1 (A.nr a (List.mem_of_getElem? h)).2.2.2, h2.mono kt⟩
  · obtain ⟨vs, h1, h2, h3⟩ := S.ord
    refine ⟨vs, k _ _ h1 A.n5, h2, fun j hj => ?_⟩
    obtain ⟨v, a1, a2⟩ := h3 j hj
    exact ⟨v, a1, a2.mono kt⟩
/-- reader j's reading ends; the book comes to the next one -/
theorem Sim.ends {M : Int} (RR : Rm.Ring ds.length (at' ds) (at' ss) ss.sum ds.sum M) (hss : ss.length = ds.length) (A : Ad H0 ds.length hl rd rl sl ha ra) (S : Sim ds ss H0 H hl rd rl sl ha ra b e) {j : Nat} (hj : j < ds.length) (hb : b j = e j + 1)
    {a : Addr} {xs vs : List V} {t : Addr} (ga : ha[nx ds.length j]? = some a) (gx : H a = some (.lst xs)) (gv : H rd = some (.lst vs))
    (k : ∀ x o, H x = some o → x ≠ a → x ≠ rd → H' x = some o) (hx : H' a = some (.lst (xs ++ [.ref t]))) (hv : H' rd = some (.lst (vs.set j .non))) (ht : H' t = some (.tup [.int (bk ss j (e j)), .int (Rm.E (at' ds) (at' ss) j (e j))])) :
    Sim ds ss H0 H' hl rd rl sl ha ra b (fun i => if i = j then e j + 1 else e i) := by
  have kt : ∀ b xs, H b = some (.tup xs) → H' b = some (.tup xs) := fun b xs h => k _ _ h (ne_of h gx (by intro z; cases z)) (ne_of h gv (by intro z; cases z))
  have ama := List.mem_of_getElem? ga
  refine ⟨fun x o h => k _ _ (S.sm _ _ h) (ne_of_none h (A.fh a ama)) (ne_of_none h A.f2), k _ _ S.ohl (A.nh a ama).1.symm A.n1, k _ _ S.orl (A.nh a ama).2.2.1.symm A.n4.symm, fun i c h => ?_, fun i c h => ?_, ?_, S.b0, fun i hi => ?_, fun i hi => ?_⟩
  · have hi : i < ds.length := by rw [← A.lh]; exact (List.getElem?_eq_some_iff.mp h).1
    obtain ⟨ys, h1, h2⟩ := S.oh i c h
    by_cases ei : i = nx ds.length j
    · subst ei
      rw [ga] at h
      cases h
      rw [gx] at h1
      cases h1
      refine ⟨_, hx, ?_⟩
      rw [prv_nx hj] at h2 ⊢
      have hle := S.le _ hi
      rw [prv_nx hj] at hle
      show Tups H' _ (seg _ _ (_ + (if j = j then e j + 1 else e j)))
      rw [if_pos rfl, show at' ss (nx ds.length j : Nat) + (e j + 1) = at' ss (nx ds.length j : Nat) + e j + 1 by omega, seg_snoc hle, item_next RR hss hj (S.e0 j hj)]
      exact Tups.snoc ⟨t, rfl, ht⟩ (h2.mono kt)
    · have hc : c ≠ a := fun z => by
        subst z
        exact ei (nd_ix A.dh h ga)
      have hp : prv ds.length i ≠ j := fun z => ei (prv_inj hi hj z)
      refine ⟨ys, k _ _ h1 hc (A.nh c (List.mem_of_getElem? h)).2.1, ?_⟩
      show Tups H' _ (seg _ _ (_ + (if prv ds.length i = j then e j + 1 else e (prv ds.length i))))
      rw [if_neg hp]
      exact h2.mono kt
  · obtain ⟨ys, h1, h2⟩ := S.orr i c h
    have cm := List.mem_of_getElem? h
    exact ⟨ys, k _ _ h1 (A.nhr a ama c cm).symm (A.nr c cm).2.1, h2.mono kt⟩
  · obtain ⟨ws, h1, h2, h3⟩ := S.ord
    rw [gv] at h1
    cases h1
    refine ⟨_, hv, by rw [List.length_set]; exact h2, fun i hi => ?_⟩
    obtain ⟨v, a1, a2⟩ := h3 i hi
    by_cases ei : i = j
    · subst ei
      refine ⟨.non, by rw [List.getElem?_set_self (by omega)], .inl ⟨rfl, ?_⟩⟩
      show b i = if i = i then e i + 1 else e i
      rw [if_pos rfl, hb]
    · refine ⟨v, by rw [List.getElem?_set_ne (Ne.symm ei)]; exact a1, ?_⟩
      show RdOk H' ds ss v i (b i) (if i = j then e j + 1 else e i)
      rw [if_neg ei]
      exact a2.mono kt
  · show 0 ≤ if i = j then e j + 1 else e i
    have h1 := S.e0 i hi
    have h2 := S.e0 j hj
    split <;> omega
  · have h1 := S.le i hi
    show b i ≤ _ + if prv ds.length i = j then e j + 1 else e (prv ds.length i)
    split
    · rename_i z
      rw [z] at h1
      omega
    · exact h1
/-- reader j begins -/
theorem Sim.begins (A : Ad H0 ds.length hl rd rl sl ha ra) (S : Sim ds ss H0 H hl rd rl sl ha ra b e) {j : Nat} (hj : j < ds.length) (hb : b j = e j) (hlt : b j < at' ss j + e (prv ds.length j))
    {a c : Addr} {x : V} {xs vs ys : List V} {t t2 : Addr} (ga : ha[j]? = some a) (gx : H a = some (.lst (x :: xs))) (gv : H rd = some (.lst vs)) (gc : ra[j]? = some c) (gy : H c = some (.lst ys))
    (k : ∀ z o, H z = some o → z ≠ a → z ≠ rd → z ≠ c → H' z = some o) (hx : H' a = some (.lst xs)) (hv : H' rd = some (.lst (vs.set j (.ref t)))) (hy : H' c = some (.lst (ys ++ [.ref t2])))
    (ht : H' t = some (.tup [.int (Rm.E (at' ds) (at' ss) j (e j)), .int (bk ss j (e j))])) (ht2 : H' t2 = some (.tup ((rowOf ds ss j (b j)).map V.int))) :
    Sim ds ss H0 H' hl rd rl sl ha ra (fun i => if i = j then b j + 1 else b i) e := by
  have ama := List.mem_of_getElem? ga
  have cmm := List.mem_of_getElem? gc
  have kt : ∀ b xs, H b = some (.tup xs) → H' b = some (.tup xs) := fun b xs h => k _ _ h (ne_of h gx (by intro z; cases z)) (ne_of h gv (by intro z; cases z)) (ne_of h gy (by intro z; cases z))
  refine ⟨fun x o h => k _ _ (S.sm _ _ h) (ne_of_none h (A.fh a ama)) (ne_of_none h A.f2) (ne_of_none h (A.fr c cmm)), k _ _ S.ohl (A.nh a ama).1.symm A.n1 (A.nr c cmm).1.symm, k _ _ S.orl (A.nh a ama).2.2.1.symm A.n4.symm (A.nr c cmm).2.2.1.symm, fun i c' h => ?_, fun i c' h => ?_, ?_, fun i hi => ?_, S.e0, fun i hi => ?_⟩
  · have hi : i < ds.length := by rw [← A.lh]; exact (List.getElem?_eq_some_iff.mp h).1
    obtain ⟨zs, h1, h2⟩ := S.oh i c' h
    by_cases ei : i = j
    · subst ei
      rw [ga] at h
      cases h
      rw [gx] at h1
      cases h1
      refine ⟨_, hx, ?_⟩
      rw [seg_cons hlt] at h2
      show Tups H' _ (seg _ (if i = i then b i + 1 else b i) _)
      rw [if_pos rfl]
      cases h2 with
      | cons _ r => exact Tups.mono kt r
    · have hc : c' ≠ a := fun z => by
        subst z
        exact ei (nd_ix A.dh h ga)
      have m := List.mem_of_getElem? h
      refine ⟨zs, k _ _ h1 hc (A.nh c' m).2.1 (A.nhr c' m c cmm), ?_⟩
      show Tups H' _ (seg _ (if i = j then b j + 1 else b i) _)
      rw [if_neg ei]
      exact h2.mono kt
  · have hi : i < ds.length := by rw [← A.lr]; exact (List.getElem?_eq_some_iff.mp h).1
    obtain ⟨zs, h1, h2⟩ := S.orr i c' h
    by_cases ei : i = j
    · subst ei
      rw [gc] at h
      cases h
      rw [gy] at h1
      cases h1
      refine ⟨_, hy, ?_⟩
      show Tups H' _ (seg _ 0 (if i = i then b i + 1 else b i))
      rw [if_pos rfl, seg_snoc (S.b0 i hi)]
      exact Tups.snoc ⟨t2, rfl, ht2⟩ (h2.mono kt)
    · have hc : c' ≠ c := fun z => by
        subst z
        exact ei (nd_ix A.dr h gc)
      have m := List.mem_of_getElem? h
      refine ⟨zs, k _ _ h1 (A.nhr a ama c' m).symm (A.nr c' m).2.1 hc, ?_⟩
      show Tups H' _ (seg _ 0 (if i = j then b j + 1 else b i))
      rw [if_neg ei]
      exact h2.mono kt
  · obtain ⟨ws, h1, h2, h3⟩ := S.ord
    rw [gv] at h1
    cases h1
    refine ⟨_, hv, by rw [List.length_set]; exact h2, fun i hi => ?_⟩
    obtain ⟨v, a1, a2⟩ := h3 i hi
    by_cases ei : i = j
    · subst ei
      refine ⟨.ref t, by rw [List.getElem?_set_self (by omega)], .inr ⟨t, rfl, ht, ?_⟩⟩
      show (if i = i then b i + 1 else b i) = e i + 1
      rw [if_pos rfl, hb]
    · refine ⟨v, by rw [List.getElem?_set_ne (Ne.symm ei)]; exact a1, ?_⟩
      show RdOk H' ds ss v i (if i = j then b j + 1 else b i) (e i)
      rw [if_neg ei]
      exact a2.mono kt
  · show 0 ≤ if i = j then b j + 1 else b i
    have h1 := S.b0 i hi
    have h2 := S.b0 j hj
    split <;> omega
  · have h1 := S.le i hi
    show (if i = j then b j + 1 else b i) ≤ _
    split
    · rename_i z
      subst z
      omega
    · exact h1
theorem Sim.congr (S : Sim ds ss H0 H hl rd rl sl ha ra b e) {b' e' : Nat → Int} (hss : ha.length = ds.length) (hr : ra.length = ds.length) (hb : ∀ j, j < ds.length → b' j = b j) (he : ∀ j, j < ds.length → e' j = e j) : Sim ds ss H0 H hl rd rl sl ha ra b' e' := by
  have hp : ∀ j, j < ds.length → e' (prv ds.length j) = e (prv ds.length j) := fun j hj => he _ (prv_lt hj)
  refine ⟨S.sm, S.ohl, S.orl, fun j a h => ?_, fun j a h => ?_, ?_, fun j hj => by rw [hb j hj]; exact S.b0 j hj, fun j hj => by rw [he j hj]; exact S.e0 j hj, fun j hj => by rw [hb j hj, hp j hj]; exact S.le j hj⟩
  · have hj : j < ds.length := by rw [← hss]; exact (List.getElem?_eq_some_iff.mp h).1
    rw [hb j hj, hp j hj]
    exact S.oh j a h
  · have hj : j < ds.length := by rw [← hr]; exact (List.getElem?_eq_some_iff.mp h).1
    rw [hb j hj]
    exact S.orr j a h
  · obtain ⟨vs, h1, h2, h3⟩ := S.ord
    refine ⟨vs, h1, h2, fun j hj => ?_⟩
    rw [hb j hj, he j hj]
    exact h3 j hj
end
/-! ### days -/
section
variable {ds ss : List Int} {M : Int} (RR : Rm.Ring ds.length (at' ds) (at' ss) ss.sum ds.sum M)
include RR
/-- ended by D - 1; a reading ends on D or none does -/
theorem cn_day (j D : Int) : (Rm.E (at' ds) (at' ss) j (Cn (at' ds) (at' ss) j (D - 1)) = D ∧ Cn (at' ds) (at' ss) j D = Cn (at' ds) (at' ss) j (D - 1) + 1) ∨ (Rm.E (at' ds) (at' ss) j (Cn (at' ds) (at' ss) j (D - 1)) ≠ D ∧ Cn (at' ds) (at' ss) j D = Cn (at' ds) (at' ss) j (D - 1)) := by
  obtain ⟨a0, a1, a2⟩ := RR.cn j (D - 1)
  by_cases h : Rm.E (at' ds) (at' ss) j (Cn (at' ds) (at' ss) j (D - 1)) = D
  · refine .inl ⟨h, RR.cn_of ⟨by omega, .inr ?_, ?_⟩⟩
    · rw [show Cn (at' ds) (at' ss) j (D - 1) + 1 - 1 = Cn (at' ds) (at' ss) j (D - 1) by omega]
      omega
    · have := RR.next j a0
      have := RR.d1 j
      omega
  · refine .inr ⟨h, RR.cn_of ⟨a0, ?_, by omega⟩⟩
    rcases a1 with a1 | a1
    · exact .inl a1
    · exact .inr (by omega)
/-- who isn't reading and has a book begins, nobody else does -/
theorem cn_begin {j D : Int} (hD : 0 ≤ D) (h : Cn (at' ds) (at' ss) j (D - 1 + at' ds j) = Cn (at' ds) (at' ss) j D) (hlt : Cn (at' ds) (at' ss) j D < at' ss j + Cn (at' ds) (at' ss) (j - 1) D) :
    Rm.E (at' ds) (at' ss) j (Cn (at' ds) (at' ss) j D) = D + at' ds j ∧ Cn (at' ds) (at' ss) j (D + at' ds j) = Cn (at' ds) (at' ss) j D + 1 := by
  have h1 := RR.cn_reads (r := j) hD hlt
  have h2 := (RR.cn_next j D).2
  obtain ⟨a0, a1, a2⟩ := RR.cn j (D - 1 + at' ds j)
  obtain ⟨b0, b1, b2⟩ := RR.cn j (D + at' ds j)
  rw [h] at a2
  have e : Cn (at' ds) (at' ss) j (D + at' ds j) = Cn (at' ds) (at' ss) j D + 1 := by omega
  rw [e] at b1
  rcases b1 with b1 | b1
  · have := (RR.cn j D).1
    omega
  · rw [show Cn (at' ds) (at' ss) j D + 1 - 1 = Cn (at' ds) (at' ss) j D by omega] at b1
    exact ⟨by omega, e⟩
theorem cn_waits {j D : Int} (h : Cn (at' ds) (at' ss) j D = at' ss j + Cn (at' ds) (at' ss) (j - 1) D) : Cn (at' ds) (at' ss) j (D + at' ds j) = Cn (at' ds) (at' ss) j D := by
  have h1 := RR.cn_next j D
  obtain ⟨b0, b1, b2⟩ := RR.cn j (D + at' ds j)
  obtain ⟨c0, c1, c2⟩ := RR.cn (j - 1) D
  rcases b1 with b1 | b1
  · have := (RR.cn j D).1
    omega
  · rcases Int.lt_or_le (Cn (at' ds) (at' ss) j D) (Cn (at' ds) (at' ss) j (D + at' ds j)) with z | z
    · have e : Cn (at' ds) (at' ss) j (D + at' ds j) - 1 = Cn (at' ds) (at' ss) j D := by omega
      rw [e] at b1
      have h2 := RR.from j (x := Cn (at' ds) (at' ss) j D) (by omega)
      rw [show Cn (at' ds) (at' ss) j D - at' ss j = Cn (at' ds) (at' ss) (j - 1) D by omega] at h2
      omega
    · omega
/-- begun by D - 1: as many as have ended by D, or one more -/
theorem cn_busy (j D : Int) : Cn (at' ds) (at' ss) j (D - 1) ≤ Cn (at' ds) (at' ss) j (D - 1 + at' ds j) ∧ Cn (at' ds) (at' ss) j (D - 1 + at' ds j) ≤ Cn (at' ds) (at' ss) j (D - 1) + 1 := RR.cn_next j (D - 1)
end
end Rp
namespace Rp
open PySem PySem.Spec PyProof.Rows L2 Rz Rm
/-- as data, for == -/
theorem RingAt.kp {C : Addr} {K : PySem.W.Frag} {H H' : Hp} {p dx td ts row a : Addr} {ds ss ns : List Int} (R : RingAt C H p dx td ts ds ss) (RA : RowAt K H row a ns) (k : Kp row H H') : RingAt C H' p dx td ts ds ss := by
  obtain ⟨i, m, q, h, _⟩ := RA.ob
  exact ⟨k _ _ R.ob (ne_of R.ob h (by intro z; cases z)), k _ _ R.td (ne_of R.td h (by intro z; cases z)), k _ _ R.ts (ne_of R.ts h (by intro z; cases z)), R.ok⟩
theorem tup_kp {K : PySem.W.Frag} {H H' : Hp} {t row a : Addr} {xs : List V} {ns : List Int} (ht : H t = some (.tup xs)) (RA : RowAt K H row a ns) (k : Kp row H H') : H' t = some (.tup xs) := by
  obtain ⟨i, m, q, h, _⟩ := RA.ob
  exact k _ _ ht (ne_of ht h (by intro z; cases z))
theorem up {N : Nat} {d s : Int → Int} {B T M : Int} (R : Rm.Ring N d s B T M) (r : Int) {x : Int} (hx : 0 ≤ x) : Rm.E d s r x ≤ (x + 1) * T + x * M := by
  obtain ⟨k, hk, e⟩ := R.att r hx
  have hN := R.pos
  have hB := R.b1
  have hT := R.T0
  have ek : k = k % N + k / N * N := by
    have := Nat.mod_add_div k N
    rw [Nat.mul_comm] at this
    exact this.symm
  have hj := Nat.mod_lt k hN
  have hS := R.sumS r (k % N) (k / N)
  have hD := R.sumD r (k % N + 1) (k / N)
  rw [← ek] at hS
  rw [show k % N + 1 + k / N * N = k + 1 by omega] at hD
  have hm : ((k / N : Nat) : Int) ≤ x := by
    have h1 := sum_nn R.s0 r (k % N)
    have h2 : ((k / N : Nat) : Int) * 1 ≤ ((k / N : Nat) : Int) * B := Int.mul_le_mul_of_nonneg_left hB (Int.natCast_nonneg _)
    omega
  have hd0 : sumBack d r (k % N + 1) ≤ T := by
    have := sum_mono (f := d) (fun i => by have := R.d1 i; omega) r (show k % N + 1 ≤ N by omega)
    rw [R.t] at this
    exact this
  have h3 : ((k / N : Nat) : Int) * T ≤ x * T := Int.mul_le_mul_of_nonneg_right hm hT
  have h4 := max_le R.mu r k
  have h40 : 0 ≤ maxBack d r k := by
    have h1 := max_ge (f := d) r (j := 0) (k := k) (Nat.zero_le _)
    have h2 := R.d1 (r - (0 : Nat))
    omega
  have h5 : (x - sumBack s r k) * maxBack d r k ≤ x * M := by
    have a1 : (x - sumBack s r k) * maxBack d r k ≤ x * maxBack d r k := Int.mul_le_mul_of_nonneg_right (by have := sum_nn R.s0 r k; omega) h40
    have a2 : x * maxBack d r k ≤ x * M := Int.mul_le_mul_of_nonneg_left h4 hx
    omega
  unfold ch at e
  rw [Int.add_mul]
  omega
theorem and_go {c : Bool} {u : TT} {σ : L2.St} {H : Hp} {F : Bool → Hp → Prop} (G : Hp → Prop) (next : ∀ H9, G H9 → F false H9) (hH : G H) (h1 : c = true → (∀ H9, G H9 → F false H9) → u σ H F) : if c = true then u σ H F else F false H := by
  cases c with
  | true => exact iteT (h1 rfl next)
  | false => exact iteF (next H hH)
theorem dp_ints {K : PySem.W.Frag} {H : Hp} : ∀ l : List Int, DpAll K H (l.map V.int) (l.map PyData.int)
  | [] => .nil
  | x :: r => .cons (.int x) (dp_ints r)
theorem Tups.rev {H : Hp} : ∀ {xs : List V} {ls : List (List Int)}, Tups H xs ls → Tups H xs.reverse ls.reverse
  | _, _, .nil => .nil
  | _, _, .cons r t => by
    rw [List.reverse_cons, List.reverse_cons]
    exact Tups.snoc r (Tups.rev t)
theorem Tups.drop {H : Hp} : ∀ {xs : List V} {ls : List (List Int)} (k : Nat), Tups H xs ls → Tups H (xs.drop k) (ls.drop k)
  | _, _, 0, h => h
  | _, _, k + 1, .nil => .nil
  | _, _, k + 1, .cons _ t => Tups.drop k t
theorem Tups.same {H H' : Hp} (s : Same H H') {xs : List V} {ls : List (List Int)} (h : Tups H xs ls) : Tups H' xs ls := h.mono fun b xs e => s _ _ e
/-- two tuples of ints are compared -/
theorem eqv_tup (as bs : List Int) : PyData.eqv (.tuple (as.map PyData.int)) (.tuple (bs.map PyData.int)) = decide (as = bs) := PySem.W.ked_eqvAll _ _
theorem eqv_lst (as bs : List Int) : PyData.eqv (.list (as.map PyData.int)) (.list (bs.map PyData.int)) = decide (as = bs) := PySem.W.ked_eqvAll _ _
theorem shaped_tup (as : List Int) : SeqAt.shaped (.tuple (as.map PyData.int)) = true := by
  simp only [SeqAt.shaped, PyData.canLay0, PyData.depth, PySem.W.ke_canLayAll0 as, PySem.W.ke_depthAll as, Bool.true_and]
  exact decide_eq_true (by omega)
theorem shaped_lst (as : List Int) : SeqAt.shaped (.list (as.map PyData.int)) = true := by
  simp only [SeqAt.shaped, PyData.canLay0, PyData.depth, PySem.W.ke_canLayAll0 as, PySem.W.ke_depthAll as, Bool.true_and]
  exact decide_eq_true (by omega)
section
variable {K : PySem.W.Frag} {H : Hp} {a b : Addr} {as bs : List Int} {Q : VK}
theorem tup_eq (ha : H a = some (.tup (as.map V.int))) (hb : H b = some (.tup (bs.map V.int))) (q : Q (.bl (decide (as = bs))) H) : rEqD K (.ref a) (.ref b) H Q :=
  ⟨_, _, .tup (.of ha) (dp_is as), .tup (.of hb) (dp_is bs), shaped_tup as, shaped_tup bs, by rw [eqv_tup]; exact q⟩
theorem tup_ne (ha : H a = some (.tup (as.map V.int))) (hb : H b = some (.tup (bs.map V.int))) (q : Q (.bl (!decide (as = bs))) H) : rNeD K (.ref a) (.ref b) H Q :=
  ⟨_, _, .tup (.of ha) (dp_is as), .tup (.of hb) (dp_is bs), shaped_tup as, shaped_tup bs, by rw [eqv_tup]; exact q⟩
theorem lst_ne (ha : SqL K H a (as.map V.int)) (hb : SqL K H b (bs.map V.int)) (q : Q (.bl (!decide (as = bs))) H) : rNeD K (.ref a) (.ref b) H Q :=
  ⟨_, _, .lst ha (dp_is as), .lst hb (dp_is bs), shaped_lst as, shaped_lst bs, by rw [eqv_lst]; exact q⟩
theorem lst_eq (ha : SqL K H a (as.map V.int)) (hb : SqL K H b (bs.map V.int)) (q : Q (.bl (decide (as = bs))) H) : rEqD K (.ref a) (.ref b) H Q :=
  ⟨_, _, .lst ha (dp_is as), .lst hb (dp_is bs), shaped_lst as, shaped_lst bs, by rw [eqv_lst]; exact q⟩
end
end Rp
/-! Books at the readers, day by day: mathematics. -/
namespace Rp
open PySem PySem.Spec PyProof.Rows L2 Rz Rm
theorem ixN_nat {n j : Nat} (h : j < n) : ixN n (j : Int) = some j := by
  unfold ixN
  rw [if_pos (by omega), if_pos (by omega), Int.toNat_natCast]
/-- books of a heap, by the numbers of their readings -/
noncomputable def bseg (ss : List Int) (j : Nat) (b c : Int) : List Int := (List.range (c - b).toNat).map fun (i : Nat) => bk ss j (b + (i : Int))
theorem bseg_nil {ss : List Int} {j : Nat} {b c : Int} (h : c ≤ b) : bseg ss j b c = [] := by
  unfold bseg
  rw [show (c - b).toNat = 0 by omega]
  rfl
theorem bseg_snoc {ss : List Int} {j : Nat} {b c : Int} (h : b ≤ c) : bseg ss j b (c + 1) = bseg ss j b c ++ [bk ss j c] := by
  unfold bseg
  rw [show (c + 1 - b).toNat = (c - b).toNat + 1 by omega, List.range_succ, List.map_append]
  show _ ++ [bk ss j (b + ((c - b).toNat : Int))] = _
  rw [show b + ((c - b).toNat : Int) = c by omega]
theorem bseg_cons {ss : List Int} {j : Nat} {b c : Int} (h : b < c) : bseg ss j b c = bk ss j b :: bseg ss j (b + 1) c := by
  unfold bseg
  rw [show (c - b).toNat = (c - (b + 1)).toNat + 1 by omega, List.range_succ_eq_map, List.map_cons, List.map_map, show b + ((0 : Nat) : Int) = b by omega]
  congr 1
  apply List.map_congr_left
  intro i _
  show bk ss j (b + ((i + 1 : Nat) : Int)) = bk ss j (b + 1 + (i : Int))
  rw [show b + ((i + 1 : Nat) : Int) = b + 1 + (i : Int) by omega]
theorem bseg_length (ss : List Int) (j : Nat) (b c : Int) : (bseg ss j b c).length = (c - b).toNat := by
  unfold bseg
  rw [List.length_map, List.length_range]
theorem nodup_snocN {l : List Nat} {a : Nat} (h : l.Nodup) (n : a ∉ l) : (l ++ [a]).Nodup := by
  rw [List.nodup_append]
  refine ⟨h, List.nodup_cons.mpr ⟨List.not_mem_nil, List.nodup_nil⟩, fun x hx y hy e => ?_⟩
  have := List.mem_singleton.mp hy
  subst this
  subst e
  exact n hx
theorem get_snoc {α : Type} {l : List α} {x y : α} {j : Nat} (h : (l ++ [x])[j]? = some y) : l[j]? = some y ∨ (j = l.length ∧ x = y) := by
  by_cases c : j < l.length
  · rw [List.getElem?_append_left c] at h
    exact .inl h
  · rw [List.getElem?_append_right (by omega)] at h
    obtain ⟨h1, h2⟩ := List.getElem?_eq_some_iff.mp h
    rw [List.length_singleton] at h1
    refine .inr ⟨by omega, ?_⟩
    simpa [show j - l.length = 0 by omega] using h2
theorem take_mem {ks : List Nat} (nd : ks.Nodup) {n k : Nat} (h : ks[n]? = some k) : k ∉ ks.take n := fun m => by
  obtain ⟨j, hj⟩ := List.getElem?_of_mem m
  rw [List.getElem?_take] at hj
  split at hj
  · rename_i hlt
    have := nd_ix nd hj h
    omega
  · cases hj
theorem take_suc {ks : List Nat} {n k j : Nat} (h : ks[n]? = some k) : j ∈ ks.take (n + 1) ↔ j ∈ ks.take n ∨ j = k := by
  rw [List.take_add_one, h, List.mem_append]
  simp
theorem nodup_snoc {l : List Addr} {a : Addr} (h : l.Nodup) (n : a ∉ l) : (l ++ [a]).Nodup := by
  rw [List.nodup_append]
  refine ⟨h, List.nodup_cons.mpr ⟨List.not_mem_nil, List.nodup_nil⟩, fun x hx y hy e => ?_⟩
  have := List.mem_singleton.mp hy
  subst this
  subst e
  exact n hx
theorem rep_one (n : Nat) : (List.replicate n [V.non]).flatten = List.replicate n V.non := by
  induction n with
  | zero => rfl
  | succ n ih =>
    rw [List.replicate_succ, List.flatten_cons, ih, List.replicate_succ]
    rfl
theorem take_succ {l : List Int} {i : Nat} (h : i < l.length) : (l.take (i + 1)).sum = (l.take i).sum + at' l i := by
  rw [List.take_add_one, List.getElem?_eq_getElem h, List.sum_append]
  have : at' l i = l[i] := at_nat (List.getElem?_eq_getElem h)
  rw [this]
  simp
theorem take_le {l : List Int} (h0 : ∀ y ∈ l, 0 ≤ y) (i : Nat) : 0 ≤ (l.take i).sum ∧ (l.take i).sum ≤ l.sum := by
  induction l generalizing i with
  | nil => simp
  | cons a r ih =>
    have ha := h0 a List.mem_cons_self
    have hr : ∀ y ∈ r, 0 ≤ y := fun y hy => h0 y (List.mem_cons_of_mem _ hy)
    cases i with
    | zero =>
      have := (ih hr r.length).2
      have := (ih hr r.length).1
      have := mem_le_sum.sum_nonneg' hr
      simp
      omega
    | succ i =>
      have := ih hr i
      rw [List.take_succ_cons, List.sum_cons, List.sum_cons]
      omega
section
variable {ds ss : List Int} {M : Int} (RR : Rm.Ring ds.length (at' ds) (at' ss) ss.sum ds.sum M)
include RR
theorem cn_le {j D : Int} (h : 0 ≤ D) : Cn (at' ds) (at' ss) j D ≤ D := by
  obtain ⟨a0, a1, a2⟩ := RR.cn j D
  rcases a1 with a1 | a1
  · omega
  · rcases Int.lt_or_le (Cn (at' ds) (at' ss) j D) 1 with z | z
    · omega
    · have h1 := RR.low j (x := Cn (at' ds) (at' ss) j D - 1) (by omega)
      have h2 := RR.d1 j
      have h3 : (Cn (at' ds) (at' ss) j D - 1 + 1) * 1 ≤ (Cn (at' ds) (at' ss) j D - 1 + 1) * at' ds j := Int.mul_le_mul_of_nonneg_left h2 (by omega)
      omega
theorem cn_mono (j : Int) {D D' : Int} (h : D ≤ D') : Cn (at' ds) (at' ss) j D ≤ Cn (at' ds) (at' ss) j D' := by
  obtain ⟨a0, a1, a2⟩ := RR.cn j D
  obtain ⟨b0, b1, b2⟩ := RR.cn j D'
  rcases Int.lt_or_le (Cn (at' ds) (at' ss) j D') (Cn (at' ds) (at' ss) j D) with z | z
  · rcases a1 with a1 | a1
    · omega
    · have := RR.le j b0 (show Cn (at' ds) (at' ss) j D' ≤ Cn (at' ds) (at' ss) j D - 1 by omega)
      omega
  · exact z
theorem cn_zero {j D : Int} (h : D < at' ds j) : Cn (at' ds) (at' ss) j D = 0 := by
  refine RR.cn_of ⟨Int.le_refl _, .inl rfl, ?_⟩
  have := RR.E1 j (x := 0) (Int.le_refl _)
  omega
theorem cn_cap (r D : Int) : Cn (at' ds) (at' ss) r (D + at' ds r) ≤ at' ss r + Cn (at' ds) (at' ss) (r - 1) D := by
  obtain ⟨a0, a1, a2⟩ := RR.cn r (D + at' ds r)
  obtain ⟨b0, b1, b2⟩ := RR.cn (r - 1) D
  have hs := RR.s0 r
  rcases Int.lt_or_le (at' ss r + Cn (at' ds) (at' ss) (r - 1) D) (Cn (at' ds) (at' ss) r (D + at' ds r)) with z | z
  · rcases a1 with a1 | a1
    · omega
    · have h1 := RR.from r (x := Cn (at' ds) (at' ss) r (D + at' ds r) - 1) (by omega)
      have h2 := RR.le (r - 1) b0 (show Cn (at' ds) (at' ss) (r - 1) D ≤ Cn (at' ds) (at' ss) r (D + at' ds r) - 1 - at' ss r by omega)
      omega
  · exact z
/-- all that the beginning of a day needs of one reader -/
theorem at_begin {j : Nat} (hj : j < ds.length) {D : Int} (hD : 0 ≤ D) (h : Cn (at' ds) (at' ss) j (D - 1 + at' ds j) = Cn (at' ds) (at' ss) j D) :
    (Cn (at' ds) (at' ss) j D < at' ss j + Cn (at' ds) (at' ss) (prv ds.length j : Nat) D ∧ Rm.E (at' ds) (at' ss) j (Cn (at' ds) (at' ss) j D) = D + at' ds j ∧ Cn (at' ds) (at' ss) j (D + at' ds j) = Cn (at' ds) (at' ss) j D + 1) ∨
    (Cn (at' ds) (at' ss) j D = at' ss j + Cn (at' ds) (at' ss) (prv ds.length j : Nat) D ∧ Cn (at' ds) (at' ss) j (D + at' ds j) = Cn (at' ds) (at' ss) j D) := by
  rw [Cn_prv RR hj]
  have h1 := cn_cap RR j D
  have h2 := (RR.cn_next j D).1
  rcases Int.lt_or_le (Cn (at' ds) (at' ss) j D) (at' ss j + Cn (at' ds) (at' ss) (j - 1) D) with c | c
  · exact .inl ⟨c, cn_begin RR hD h c⟩
  · exact .inr ⟨by omega, cn_waits RR (by omega)⟩
end
/-- the books at a reader on a day, the one that is read first -/
noncomputable def Sv (ds ss : List Int) (D : Int) (j : Nat) : List Int := bseg ss j (Cn (at' ds) (at' ss) j D) (at' ss j + Cn (at' ds) (at' ss) (prv ds.length j : Nat) D)
/-- the day on which a reading ends, all begun -/
noncomputable def Ev (ds ss : List Int) (D : Int) (j : Nat) : V := if Cn (at' ds) (at' ss) j (D + at' ds j) = Cn (at' ds) (at' ss) j D then .non else .int (Rm.E (at' ds) (at' ss) j (Cn (at' ds) (at' ss) j D))
/-- the same, none begun that day -/
noncomputable def Fv (ds ss : List Int) (D : Int) (j : Nat) : V := if Cn (at' ds) (at' ss) j (D - 1 + at' ds j) = Cn (at' ds) (at' ss) j D then .non else .int (Rm.E (at' ds) (at' ss) j (Cn (at' ds) (at' ss) j D))
/-- a reading ends on the next day -/
noncomputable def Kd (ds ss : List Int) (D : Int) (j : Nat) : Bool := decide (Rm.E (at' ds) (at' ss) j (Cn (at' ds) (at' ss) j D) = D + 1)
/-- who ends on the next day -/
noncomputable def Kx (ds ss : List Int) (D : Int) (n : Nat) : List Nat := (List.range n).filter (Kd ds ss D)
/-- what is told of it -/
noncomputable def rec (ds ss : List Int) (D : Int) (k : Nat) : List Int := [D + 1, (k : Int), bk ss k (Cn (at' ds) (at' ss) k D)]
noncomputable def Ke (ds ss : List Int) (D : Int) : List (List Int) := (Kx ds ss D ds.length).map (rec ds ss D)
theorem kx_mem {ds ss : List Int} {D : Int} {n j : Nat} : j ∈ Kx ds ss D n ↔ j < n ∧ Kd ds ss D j = true := by
  unfold Kx
  rw [List.mem_filter, List.mem_range]
theorem kx_nodup {ds ss : List Int} {D : Int} {n : Nat} : (Kx ds ss D n).Nodup := List.Pairwise.filter _ List.nodup_range
theorem kx_succ (ds ss : List Int) (D : Int) (n : Nat) : Kx ds ss D (n + 1) = if Kd ds ss D n = true then Kx ds ss D n ++ [n] else Kx ds ss D n := by
  unfold Kx
  rw [List.range_succ, List.filter_append]
  by_cases h : Kd ds ss D n = true
  · rw [if_pos h, List.filter_cons_of_pos h]
    rfl
  · rw [if_neg h, List.filter_cons_of_neg h, List.filter_nil, List.append_nil]
section
variable {ds ss : List Int} {M : Int} (RR : Rm.Ring ds.length (at' ds) (at' ss) ss.sum ds.sum M)
include RR
theorem fv_cases {j : Nat} (hj : j < ds.length) {D : Int} (hD : 0 ≤ D) :
    (Fv ds ss D j = .non ∧ (∃ b l, Sv ds ss D j = b :: l) ∧ Ev ds ss D j = .int (D + at' ds j)) ∨ (Fv ds ss D j = .non ∧ Sv ds ss D j = [] ∧ Ev ds ss D j = .non) ∨ (∃ z, Fv ds ss D j = .int z ∧ Ev ds ss D j = .int z) := by
  unfold Fv Ev Sv
  by_cases h : Cn (at' ds) (at' ss) j (D - 1 + at' ds j) = Cn (at' ds) (at' ss) j D
  · rw [if_pos h]
    rcases at_begin RR hj hD h with ⟨h1, h2, h3⟩ | ⟨h1, h2⟩
    · rw [if_neg (by omega), h2, bseg_cons h1]
      exact .inl ⟨rfl, ⟨_, _, rfl⟩, rfl⟩
    · rw [if_pos h2, bseg_nil (by omega)]
      exact .inr (.inl ⟨rfl, rfl, rfl⟩)
  · rw [if_neg h]
    have d1 := RR.d1 j
    have h1 := cn_mono RR (j : Int) (show D ≤ D - 1 + at' ds j by omega)
    have h2 := cn_mono RR (j : Int) (show D - 1 + at' ds j ≤ D + at' ds j by omega)
    rw [if_neg (by omega)]
    exact .inr (.inr ⟨_, rfl, rfl⟩)
theorem ends_now {j : Nat} (hj : j < ds.length) {D : Int} (hD : 0 ≤ D) (h : Kd ds ss D j = true) :
    Cn (at' ds) (at' ss) j (D + 1) = Cn (at' ds) (at' ss) j D + 1 ∧ Ev ds ss D j = .int (D + 1) ∧ Sv ds ss D j = bk ss j (Cn (at' ds) (at' ss) j D) :: bseg ss j (Cn (at' ds) (at' ss) j D + 1) (at' ss j + Cn (at' ds) (at' ss) (prv ds.length j : Nat) D) ∧ Fv ds ss (D + 1) j = .non := by
  have h := of_decide_eq_true h
  have d1 := RR.d1 j
  have c1 := cn_day RR (j : Int) (D + 1)
  rw [show D + 1 - 1 = D by omega] at c1
  have c2 := RR.cn_next j D
  obtain ⟨p0, p1, p2⟩ := RR.cn j (D + at' ds j)
  have hb : Cn (at' ds) (at' ss) j (D + at' ds j) = Cn (at' ds) (at' ss) j D + 1 := by
    rcases Int.lt_or_le (Cn (at' ds) (at' ss) j D) (Cn (at' ds) (at' ss) j (D + at' ds j)) with z | z
    · omega
    · have e : Cn (at' ds) (at' ss) j (D + at' ds j) = Cn (at' ds) (at' ss) j D := by omega
      rw [e, h] at p2
      omega
  have cap := cn_cap RR j D
  rw [← Cn_prv RR hj] at cap
  rcases c1 with ⟨_, c1⟩ | ⟨c1, _⟩
  · unfold Ev Sv Fv
    refine ⟨c1, by rw [if_neg (by omega), h], bseg_cons (by omega), ?_⟩
    rw [show D + 1 - 1 = D by omega, if_pos (by omega)]
  · exact absurd h c1
theorem ends_not {j : Nat} {D : Int} (hD : 0 ≤ D) (h : ¬ Kd ds ss D j = true) :
    Cn (at' ds) (at' ss) j (D + 1) = Cn (at' ds) (at' ss) j D ∧ ¬ Ev ds ss D j = .int (D + 1) ∧ Fv ds ss (D + 1) j = Ev ds ss D j := by
  have h : ¬ Rm.E (at' ds) (at' ss) j (Cn (at' ds) (at' ss) j D) = D + 1 := fun z => h (decide_eq_true z)
  have c1 := cn_day RR (j : Int) (D + 1)
  rw [show D + 1 - 1 = D by omega] at c1
  rcases c1 with ⟨c1, _⟩ | ⟨_, c1⟩
  · exact absurd c1 h
  · unfold Ev Fv
    refine ⟨c1, ?_, by rw [show D + 1 - 1 = D by omega, c1]⟩
    split
    · intro z
      cases z
    · intro z
      exact h (V.int.inj z)
/-- a book comes to the next reader -/
theorem bk_comes (hss : ss.length = ds.length) {j : Nat} (hj : j < ds.length) {n : Int} (n0 : 0 ≤ n) : bk ss (nx ds.length j : Nat) (at' ss (nx ds.length j : Nat) + n) = bk ss j n := by
  have h := item_next RR hss hj n0
  unfold item at h
  exact (List.cons.inj h).1
theorem z_first (j : Nat) : Cn (at' ds) (at' ss) j 0 = 0 := by
  have := RR.d1 j
  exact cn_zero RR (by omega)
theorem fv_first (j : Nat) : Fv ds ss 0 j = .non := by
  unfold Fv
  rw [z_first RR, if_pos (cn_zero RR (by omega))]
theorem sv_first (hss : ss.length = ds.length) {j : Nat} (hj : j < ds.length) {b z : Int} (hb : (ss.take j).sum = b) (hz : at' ss j = z) : rgV b (b + z) = (Sv ds ss 0 j).map V.int := by
  unfold rgV Sv bseg
  rw [z_first RR, z_first RR, List.map_map, hz, show (b + z - b).toNat = (z + 0 - 0).toNat by omega]
  apply List.map_congr_left
  intro n hn
  have hn' := List.mem_range.mp hn
  show V.int (b + (n : Int)) = V.int (bk ss j (0 + (n : Int)))
  rw [bk_first RR hss hj (n := 0 + (n : Int)) (by omega) (by omega), hb, show (0 : Int) + (n : Int) = n by omega]
theorem sv_len (j : Nat) {D : Int} (hD : 0 ≤ D) (h12 : at' ss j ≤ 12) : (Sv ds ss D j).length ≤ 12 + D.toNat := by
  unfold Sv
  rw [bseg_length]
  have h1 := cn_le RR (j := (prv ds.length j : Nat)) hD
  have h2 := (RR.cn j D).1
  omega
/-- how many readings have ended, from whom they are told -/
theorem cn_ge (j : Nat) {x D : Int} (hx : 0 ≤ x) (h : Rm.E (at' ds) (at' ss) j x ≤ D) : x + 1 ≤ Cn (at' ds) (at' ss) j D := by
  have h1 := RR.cn_end j hx
  have h2 := cn_mono RR (j : Int) h
  omega
theorem E_cn (j : Nat) {x D : Int} (h0 : 0 ≤ x) (h : x < Cn (at' ds) (at' ss) j D) : Rm.E (at' ds) (at' ss) j x ≤ D := by
  obtain ⟨a0, a1, a2⟩ := RR.cn j D
  rcases a1 with a1 | a1
  · omega
  · have := RR.le j h0 (show x ≤ Cn (at' ds) (at' ss) j D - 1 by omega)
    omega
end
end Rp
/-! _law_taken, _law_pair, _law_alike. -/
namespace Rp
open PySem PySem.Spec PyProof.Rows L2 Rz Rm
section
variable {P : Program} {w : World} {K : PySem.W.Frag} {mg : Str → Option Value} {base : Heap}
def spTaken (K : PySem.W.Frag) : Sp := fun vs H Q _ => ∃ (row a : Addr) (ns : List Int) (many : Int), vs = [.ref row, .int many] ∧ RowAt K H row a ns ∧ 1 ≤ many ∧ many < 1073741824 ∧
  ∀ v H', 0 ≤ v → v < many → RowAt K H' row a ns → Kp row H H' → Q (.int v) H'
theorem ok_taken (T : Tx K mg) : FnOk P w K mg base CX0 1 T.a_ltaken T.d_ltaken P_ltaken (spTaken K) := by
  refine T.F_ltaken.ok sc_ltaken (fun vs H Q E h => ?_) (fun cdv A outer s H vs Q E hr h => ?_)
  · obtain ⟨row, a, ns, many, rfl, _⟩ := h
    rfl
  · obtain ⟨row, a, ns, many, rfl, RA, m1, m2, q⟩ := h
    obtain ⟨i, m, c, hrow, i0⟩ := RA.ob
    have nd := sc_ltaken.nd
    refine ⟨_, pss_cons (ps_if (pt_cmpR op_gt (pe_ix ix_list (pv 0) pe_int (fun _ _ => rfl)) pe_int (nomark _))
        (pss_cons (ps_set (i := 2) nd rfl (.inl rfl) (pe_op op_mod (pe_callTy call_int1 (by rfl) T.z_int (by decide +kernel) (pa_cons (pe_ix ix_list (pv 0) pe_int (fun _ _ => rfl)) pa_nil)) (pv 1)))
        (pss_cons (ps_asg (pe_op op_fdiv (pe_ix ix_list (pv 0) pe_int (fun _ _ => rfl)) (pv 1)) (pg_sub (pv 0) pe_int set_list))
        (pss_one (ps_ret (pv 2))))) pss_nil)
      (pss_cons (ps_asg (pe_op op_add (pe_ix ix_list (pv 0) pe_int (fun _ _ => rfl)) pe_int) (pg_sub (pv 0) pe_int set_list))
      (pss_cons (ps_if (pt_cmpR op_gt (pe_ix ix_list (pv 0) pe_int (fun _ _ => rfl)) (pe_callB call_len_seq (by rfl) T.z_len PySem.boot_len (pa_cons (pe_ix ix_list (pv 0) pe_int (fun _ _ => rfl)) pa_nil)) (nomark _))
        (pss_cons (ps_asg (pe_op op_mod (pe_callTy call_int1 (by rfl) T.z_int (by decide +kernel) (pa_cons (pe_op op_add (pe_op op_mul (pe_ix ix_list (pv 0) pe_int (fun _ _ => rfl)) pe_int) pe_int) pa_nil)) pe_int) (pg_sub (pv 0) pe_int set_list))
        (pss_one (ps_ret (pe_op op_mod (pe_callTy call_int1 (by rfl) T.z_int (by decide +kernel) (pa_cons (pe_op op_fdiv (pe_ix ix_list (pv 0) pe_int (fun _ _ => rfl)) pe_int) pa_nil)) (pv 1))))) pss_nil)
      (pss_cons (ps_set (i := 3) nd rfl (.inl rfl) (pe_ix ix_list (pe_ix ix_list (pv 0) pe_int (fun _ _ => rfl)) (pe_op op_sub (pe_ix ix_list (pv 0) pe_int (fun _ _ => rfl)) pe_int) (fun _ _ => rfl)))
      (pss_cons (ps_asg (pe_op op_mod (pe_callTy call_int1 (by rfl) T.z_int (by decide +kernel) (pa_cons (pe_op op_add (pe_op op_add (pe_op op_mul (pe_ix ix_list (pv 0) pe_int (fun _ _ => rfl)) pe_int) (pv 3)) pe_int) pa_nil)) pe_int) (pg_sub (pv 0) pe_int set_list))
      (pss_cons (ps_if (pt_cmpR op_ge (pv 3) (pe_op op_pow pe_int pe_int) (nomark _)) (pss_one (ps_asg (pe_op op_fdiv (pv 3) (pv 1)) (pg_sub (pv 0) pe_int set_list))) pss_nil)
      (pss_one (ps_ret (pe_op op_mod (pe_callTy call_int1 (by rfl) T.z_int (by decide +kernel) (pa_cons (pv 3) pa_nil)) (pv 1))))))))), ?_⟩
    have mod0 : ∀ z : Int, 0 ≤ z % many := fun z => Int.emod_nonneg _ (by omega)
    have mod1 : ∀ z : Int, z % many < many := fun z => Int.emod_lt_of_pos _ (by omega)
    -- if row[3] > 0
    refine ⟨_, rfl, row, _, 3, _, rfl, rfl, .of hrow, atI_nat (j := 3) rfl, _, _, rfl, rfl, _, rfl, ?_⟩
    by_cases hc : 0 < c
    · rw [decide_eq_true hc]
      refine iteT ?_
      refine ⟨_, rfl, row, _, 3, _, rfl, rfl, .of hrow, atI_nat (j := 3) rfl, .inl ⟨_, rfl, _, rfl, _, _, rfl, rfl, by show (0 : Int) < many; omega, ?_⟩⟩
      refine ⟨_, rfl, row, _, 3, _, rfl, rfl, .of hrow, atI_nat (j := 3) rfl, _, rfl, _, _, rfl, rfl, ⟨by omega, by omega⟩, ?_⟩
      refine ⟨_, rfl, row, _, 3, 3, rfl, rfl, hrow, rfl, ?_⟩
      exact ⟨_, rfl, q _ _ (mod0 c) (mod1 c) (RA.put i0) kp_upd⟩
    · rw [decide_eq_false hc]
      refine iteF ?_
      -- row[1] = row[1] + 1
      refine ⟨_, rfl, row, _, 1, _, rfl, rfl, .of hrow, atI_nat (j := 1) rfl, _, _, rfl, rfl, ?_⟩
      refine ⟨_, rfl, row, _, 1, 1, rfl, rfl, hrow, rfl, ?_⟩
      have RA1 : RowAt K (upd H row (.lst [.ref a, .int (i + 1), .int m, .int c])) row a ns := RA.put (by omega)
      have hrow1 : (upd H row (.lst [.ref a, .int (i + 1), .int m, .int c])) row = some (.lst [.ref a, .int (i + 1), .int m, .int c]) := upd_same
      have kp1 : Kp row H (upd H row (.lst [.ref a, .int (i + 1), .int m, .int c])) := kp_upd
      show tSeq _ _ _ _ (upd H row (.lst [.ref a, .int (i + 1), .int m, .int c]))
      generalize (upd H row (.lst [.ref a, .int (i + 1), .int m, .int c])) = H1 at RA1 hrow1 kp1
      -- if row[1] > len(row[0])
      refine ⟨_, rfl, row, _, 1, _, rfl, rfl, .of hrow1, atI_nat (j := 1) rfl, _, rfl, row, _, 0, _, rfl, rfl, .of hrow1, atI_nat (j := 0) rfl, a, _, rfl, .inl RA1.sc, _, _, rfl, rfl, _, rfl, ?_⟩
      rw [List.length_map]
      by_cases hl : (ns.length : Int) < i + 1
      · rw [decide_eq_true hl]
        refine iteT ?_
        refine ⟨_, rfl, row, _, 2, _, rfl, rfl, .of hrow1, atI_nat (j := 2) rfl, _, _, rfl, rfl, .inr ⟨by decide, by decide⟩, _, _, rfl, rfl, .inl ⟨_, rfl, _, _, rfl, rfl, (by show (0 : Int) < 2147483647; decide), ?_⟩⟩
        refine ⟨_, rfl, row, _, 2, 2, rfl, rfl, hrow1, rfl, ?_⟩
        refine ⟨_, rfl, row, _, 2, _, rfl, rfl, .of upd_same, atI_nat (j := 2) rfl, _, _, rfl, rfl, ⟨by decide, by decide⟩, .inl ⟨_, rfl, _, rfl, _, _, rfl, rfl, by show (0 : Int) < many; omega, ?_⟩⟩
        exact q _ _ (mod0 _) (mod1 _) (RA1.put (by omega)) (kp1.trans kp_upd)
      · rw [decide_eq_false hl]
        refine iteF ?_
        have hi : i.toNat < ns.length := by omega
        have hg : atI (ns.map V.int) (i + 1 - 1) = some (.int ns[i.toNat]) := by
          refine at_of (j := i.toNat) (by omega) ?_
          rw [List.getElem?_map, List.getElem?_eq_getElem hi]
          rfl
        refine ⟨_, rfl, row, _, 0, _, rfl, rfl, .of hrow1, atI_nat (j := 0) rfl, _, rfl, row, _, 1, _, rfl, rfl, .of hrow1, atI_nat (j := 1) rfl, _, _, rfl, rfl, a, _, _, _, rfl, rfl, RA1.sc, hg, ?_⟩
        generalize ns[i.toNat] = cell
        -- row[2] = ..
        refine ⟨_, rfl, row, _, 2, _, rfl, rfl, .of hrow1, atI_nat (j := 2) rfl, _, _, rfl, rfl, .inr ⟨by decide, by decide⟩, _, rfl, _, _, rfl, rfl, _, _, rfl, rfl, .inl ⟨_, rfl, _, _, rfl, rfl, (by show (0 : Int) < 2147483647; decide), ?_⟩⟩
        refine ⟨_, rfl, row, _, 2, 2, rfl, rfl, hrow1, rfl, ?_⟩
        -- row[3] = ..
        refine ⟨_, rfl, _, _, rfl, rfl, ⟨by decide, by decide, by decide⟩, _, _, rfl, rfl, _, rfl, ?_⟩
        refine ite2 (fun _ => ?_) (fun _ => ?_)
        · refine ⟨_, rfl, _, rfl, _, _, rfl, rfl, ⟨by omega, by omega⟩, ?_⟩
          refine ⟨_, rfl, row, _, 3, 3, rfl, rfl, upd_same, rfl, ?_⟩
          refine ⟨_, rfl, .inl ⟨_, rfl, _, rfl, _, _, rfl, rfl, by show (0 : Int) < many; omega, ?_⟩⟩
          rw [upd_upd]
          exact q _ _ (mod0 _) (mod1 _) (RA1.put (by omega)) (kp1.trans kp_upd)
        · refine ⟨_, rfl, .inl ⟨_, rfl, _, rfl, _, _, rfl, rfl, by show (0 : Int) < many; omega, ?_⟩⟩
          exact q _ _ (mod0 _) (mod1 _) (RA1.put (by omega)) (kp1.trans kp_upd)
/-- what a list being made holds -/
def Acc (K : PySem.W.Frag) (H0 : Hp) (row a D : Addr) (ns : List Int) (lo hi : Int) (i : Nat) (H : Hp) : Prop :=
  ∃ acc : List Int, acc.length = i ∧ (∀ y ∈ acc, lo ≤ y ∧ y ≤ hi) ∧ H D = some (.lst (acc.map V.int)) ∧ RowAt K H row a ns ∧ Kp row H0 H
theorem acc_next {H0 H H' : Hp} {row a D : Addr} {ns : List Int} {lo hi v : Int} {i : Nat} (hD : H0 D = none) (nD : D ≠ row) (f : D ≠ a ∨ Wr K a (ns.map V.int)) {acc : List Int} (hlen : acc.length = i) (hall : ∀ y ∈ acc, lo ≤ y ∧ y ≤ hi)
    (hacc : H D = some (.lst (acc.map V.int))) (k : Kp row H0 H) (RA : RowAt K H' row a ns) (k' : Kp row H H') (v0 : lo ≤ v) (v1 : v ≤ hi) : Acc K H0 row a D ns lo hi (i + 1) (upd H' D (.lst (acc.map V.int ++ [V.int v]))) := by
  refine ⟨acc ++ [v], by rw [List.length_append, hlen]; rfl, fun y hy => ?_, by rw [upd_same, map_snoc], RA.upd' nD f, kp_new (k.trans k') hD⟩
  rcases List.mem_append.mp hy with z | z
  · exact hall y z
  · have := List.mem_singleton.mp z
    omega
end
/-- one more at an index -/
theorem sum_set' : ∀ {l : List Int} {j : Nat} {v z : Int}, l[j]? = some z → (l.set j v).sum = l.sum + v - z
  | [], j, v, z, h => by simp at h
  | a :: r, 0, v, z, h => by
    rw [List.getElem?_cons_zero] at h
    cases h
    rw [List.set_cons_zero, List.sum_cons, List.sum_cons]
    omega
  | a :: r, j + 1, v, z, h => by
    rw [List.getElem?_cons_succ] at h
    rw [List.set_cons_succ, List.sum_cons, List.sum_cons, sum_set' h]
    omega
def rGetL (K : PySem.W.Frag) : V → V → Hp → VK → Prop := fun x y H Q => ∃ p xs i v, x = .ref p ∧ y = .int i ∧ SqL K H p xs ∧ 0 ≤ i ∧ i < 1000 ∧ xs[i.toNat]? = some v ∧ Q v H
theorem get_listP {X : Cx} : PGet X (rGetL X.K) := by
  intro pins s σ H x y v u Q I rx ry h
  obtain ⟨p, xs, i, z, rfl, rfl, hq, h0, h1, he, q⟩ := h
  cases rx
  obtain ⟨t, rfl⟩ := ry
  obtain ⟨its, r, pl, hz⟩ := I.list hq
  obtain ⟨w, ew, rw'⟩ := r.get he
  exact wpAny_getItem_list pl.isList h0 (by omega) (by simpa using ew) ⟨z, H, I, rw', q⟩
section
variable {P : Program} {w : World} {K : PySem.W.Frag} {mg : Str → Option Value} {base : Heap}
/-- two new tuples that make a ring -/
def spPair (K : PySem.W.Frag) : Sp := fun vs H Q _ => ∃ (row a : Addr) (ns : List Int) (most : Int), vs = [.ref row, .int most] ∧ RowAt K H row a ns ∧ 2 ≤ most ∧ most ≤ 8 ∧
  ∀ H' t td ts ds ss, Good ds ss → (ds.length : Int) ≤ most → RowAt K H' row a ns → Kp row H H' → H' t = some (.tup [.ref td, .ref ts]) → H' td = some (.tup (ds.map V.int)) → H' ts = some (.tup (ss.map V.int)) → Q (.ref t) H'
theorem ok_pair (T : Tx K mg) : FnOk P w K mg base CX0 2 T.a_lpair T.d_lpair P_lpair (spPair K) := by
  refine T.F_lpair.ok sc_lpair (fun vs H Q E h => ?_) (fun cdv A outer s H vs Q E hr h => ?_)
  · obtain ⟨row, a, ns, most, rfl, _⟩ := h
    rfl
  · obtain ⟨row, a, ns, most, rfl, RA, m2, m8, q⟩ := h
    have nd := sc_lpair.nd
    refine ⟨_, pss_cons (ps_set (i := 2) nd rfl (.inl rfl) (pe_op op_add pe_int (pe_call (ok_taken T) hr (by rfl) T.g_ltaken T.F_ltaken.kp T.b_ltaken .nil pass0 (pa_cons (pv 0) (pa_cons (pe_op op_sub (pv 1) pe_int) pa_nil)))))
      (pss_cons (ps_set (i := 3) nd rfl (.inl rfl) (pe_callTy call_tuple_of (by rfl) T.z_tuple (by decide +kernel) (pa_cons (pe_lc (own := [("_law_k", 5)]) rfl nd (pi_range1 (by rfl) T.z_range (pa_cons (pv 2) pa_nil)) (blkOk_by (N := N_lpair) (sc := defScope s_lpair) (by decide +kernel)) (fun _ _ _ _ _ => pg_name (i := 5) nd rfl (.inl rfl)) (fun _ _ _ _ _ => pts_nil)
          (fun _ _ _ _ _ => pe_op op_add pe_int (pe_call (ok_taken T) hr (by rfl) T.g_ltaken T.F_ltaken.kp T.b_ltaken .nil pass0 (pa_cons (pv 0) (pa_cons (pe_ix (r := rIxL K) ix_list (pe_lst (pa_cons pe_int (pa_cons pe_int (pa_cons pe_int pa_nil)))) (pe_call (ok_taken T) hr (by rfl) T.g_ltaken T.F_ltaken.kp T.b_ltaken .nil pass0 (pa_cons (pv 0) (pa_cons pe_int pa_nil))) (fun _ _ => rfl)) pa_nil))))) pa_nil)))
      (pss_cons (ps_set (i := 4) nd rfl (.inl rfl) (pe_op op_rep (pe_lst (pa_cons pe_int pa_nil)) (pv 2)))
      (pss_cons (ps_for PassesOwn.never rfl (pi_range1 (by rfl) T.z_range (pa_cons (pe_op op_add pe_int (pe_call (ok_taken T) hr (by rfl) T.g_ltaken T.F_ltaken.kp T.b_ltaken .nil pass0 (pa_cons (pv 0) (pa_cons (pe_ix ix_list (pe_lst (pa_cons pe_int (pa_cons pe_int pa_nil))) (pe_call (ok_taken T) hr (by rfl) T.g_ltaken T.F_ltaken.kp T.b_ltaken .nil pass0 (pa_cons (pv 0) (pa_cons pe_int pa_nil))) (fun _ _ => rfl)) pa_nil)))) pa_nil)) (pg_name (i := 5) nd rfl (.inl rfl))
        (pss_one (ps_augS (pv 4) (pe_call (ok_taken T) hr (by rfl) T.g_ltaken T.F_ltaken.kp T.b_ltaken .nil pass0 (pa_cons (pv 0) (pa_cons (pv 2) pa_nil))) get_listP pe_int ip_add set_list)))
      (pss_one (ps_ret (pe_tup (pa_cons (pv 3) (pa_cons (pe_callTy call_tuple_of (by rfl) T.z_tuple (by decide +kernel) (pa_cons (pv 4) pa_nil)) pa_nil)))))))), ?_⟩
    refine ⟨_, rfl, _, rfl, _, _, rfl, rfl, row, a, ns, _, rfl, RA, by omega, by omega, fun v1 H1 v10 v11 RA1 k1 => ⟨_, _, rfl, rfl, ?_⟩⟩
    -- days
    refine ⟨_, rfl, _, rfl, by omega, by omega, fun D hD => lc_range (lo := 0) (n := (2 + v1).toNat) (Acc K H1 row a D ns 1 30) ?_ ?_ ?_⟩
    · exact ⟨[], rfl, fun y hy => absurd hy (by simp), upd_same, RA1.same (same_upd hD), Same.kp (same_upd hD)⟩
    · rintro i H4 hi ⟨acc, hlen, hall, hacc, RA4, k4⟩
      have nD := RA1.nn hD
      refine ⟨rfl, lc_keep ?_⟩
      refine ⟨_, rfl, (by show 3 ≤ sizeLine; decide), fun l3 hl3 => ?_⟩
      have s1 : Same H4 (upd H4 l3 (.lst [.int 3, .int 9, .int 30])) := same_upd hl3
      have RA4' := RA4.same s1
      have nl3 := RA4.nn hl3
      refine ⟨_, rfl, row, a, ns, _, rfl, RA4', by decide, by decide, fun v2 H5 v20 v21 RA5 k5 => ?_⟩
      have hl3' : H5 l3 = some (.lst [.int 3, .int 9, .int 30]) := k5 _ _ upd_same nl3
      obtain ⟨far, hfar, f1, f30⟩ : ∃ far : Int, atI [V.int 3, V.int 9, V.int 30] v2 = some (.int far) ∧ 1 ≤ far ∧ far ≤ 30 := by
        have : v2 = 0 ∨ v2 = 1 ∨ v2 = 2 := by omega
        rcases this with rfl | rfl | rfl
        · exact ⟨3, rfl, by omega, by omega⟩
        · exact ⟨9, rfl, by omega, by omega⟩
        · exact ⟨30, rfl, by omega, by omega⟩
      refine ⟨l3, _, v2, _, rfl, rfl, .of hl3', hfar, row, a, ns, _, rfl, RA5, f1, by omega, fun v H6 v0 v1' RA6 k6 => ?_⟩
      have k46 : Kp row H4 H6 := ((Same.kp s1).trans k5).trans k6
      exact ⟨_, _, rfl, rfl, acc.map V.int, k46 _ _ hacc nD, by rw [List.length_map]; exact small1000 (by omega), acc_next hD nD (far_of RA1.sc hD) hlen hall hacc k4 RA6 k46 (by omega) (by omega)⟩
    rintro H4 ⟨ds, dlen, dall, hds, RA4, k4⟩
    have nD := RA1.nn hD
    refine ⟨D, _, rfl, .inl ⟨.of hds, fun td htd => ?_⟩⟩
    have s5 := same_upd (o := .tup (ds.map V.int)) htd
    have g5 : (upd H4 td (.tup (ds.map V.int))) td = some (.tup (ds.map V.int)) := upd_same
    have RA5 := RA4.same s5
    have k5 : Kp row H (upd H4 td (.tup (ds.map V.int))) := (k1.trans k4).trans (Same.kp s5)
    have ntd := RA4.nn htd
    show tSeq _ _ _ [some (.ref row), some (.int most), some (.int (2 + v1)), some (.ref td), none, none] (upd H4 td (.tup (ds.map V.int)))
    generalize (upd H4 td (.tup (ds.map V.int))) = H5 at g5 RA5 k5
    -- heaps
    refine ⟨(by show 1 ≤ sizeLine; decide), fun l0 hl0 => ?_⟩
    have s6 := same_upd (o := .lst [.int 0]) hl0
    have g6 : (upd H5 l0 (.lst [.int 0])) l0 = some (.lst [.int 0]) := upd_same
    have RA6 := RA5.same s6
    generalize (upd H5 l0 (.lst [.int 0])) = H6 at s6 g6 RA6
    refine ⟨_, rfl, l0, _, _, rfl, rfl, g6, by omega, by omega, ?_, fun hp hhp => ?_⟩
    · show 1 * _ ≤ sizeLine
      have := small1000 (n := 1 * (2 + v1).toNat) (by omega)
      omega
    have e0 : (List.replicate (2 + v1).toNat [V.int 0]).flatten = (List.replicate (2 + v1).toNat (0 : Int)).map V.int := by
      generalize (2 + v1).toNat = n
      induction n with
      | zero => rfl
      | succ n ih =>
        rw [List.replicate_succ, List.flatten_cons, ih, List.replicate_succ]
        rfl
    rw [e0]
    have s7 := same_upd (o := .lst ((List.replicate (2 + v1).toNat (0 : Int)).map V.int)) hhp
    have g7 : (upd H6 hp (.lst ((List.replicate (2 + v1).toNat (0 : Int)).map V.int))) hp = some (.lst ((List.replicate (2 + v1).toNat (0 : Int)).map V.int)) := upd_same
    have RA7 := RA6.same s7
    have nhp := RA6.nn hhp
    have fhp := far_of RA6.sc hhp
    have g57 := s7 _ _ (s6 _ _ g5)
    have ndh : td ≠ hp := ne_of_none (s6 _ _ g5) hhp
    have hn0 : ∀ b o, H b = some o → b ≠ row → b ≠ hp := fun b o e n => ne_of_none (s6 _ _ (k5 b o e n)) hhp
    have k7 := k5.trans (Same.kp (s6.trans s7))
    show tSeq _ _ _ [some (.ref row), some (.int most), some (.int (2 + v1)), some (.ref td), some (.ref hp), none] (upd H6 hp (.lst ((List.replicate (2 + v1).toNat (0 : Int)).map V.int)))
    generalize (upd H6 hp (.lst ((List.replicate (2 + v1).toNat (0 : Int)).map V.int))) = H7 at g7 RA7 g57 k7
    refine ⟨_, rfl, (by show 2 ≤ sizeLine; decide), fun l2 hl2 => ?_⟩
    have s8 := same_upd (o := .lst [.int 4, .int 12]) hl2
    have nl2 := RA7.nn hl2
    refine ⟨_, rfl, row, a, ns, _, rfl, RA7.same s8, by decide, by decide, fun v3 H8 v30 v31 RA8 k8 => ?_⟩
    obtain ⟨far, hfar, f1, f12⟩ : ∃ far : Int, atI [V.int 4, V.int 12] v3 = some (.int far) ∧ 1 ≤ far ∧ far ≤ 12 := by
      have : v3 = 0 ∨ v3 = 1 := by omega
      rcases this with rfl | rfl
      · exact ⟨4, rfl, by omega, by omega⟩
      · exact ⟨12, rfl, by omega, by omega⟩
    refine ⟨l2, _, v3, _, rfl, rfl, .of (k8 _ _ upd_same nl2), hfar, row, a, ns, _, rfl, RA8, f1, by omega, fun v4 H9 v40 v41 RA9 k9 => ⟨_, _, rfl, rfl, _, rfl, by omega, by omega, ?_⟩⟩
    have k79 : Kp row H7 H9 := ((Same.kp s8).trans k8).trans k9
    refine for_range (lo := 0) (n := (1 + v4).toNat) (fun i σ H' => (∃ z5, σ = [some (.ref row), some (.int most), some (.int (2 + v1)), some (.ref td), some (.ref hp), z5]) ∧ RowAt K H' row a ns ∧ Kp row H H' ∧ H' td = some (.tup (ds.map V.int)) ∧
      ∃ ss : List Int, H' hp = some (.lst (ss.map V.int)) ∧ ss.length = (2 + v1).toNat ∧ ss.sum = i ∧ ∀ y ∈ ss, 0 ≤ y)
      ⟨⟨_, rfl⟩, RA9, k7.trans k79, k79 _ _ g57 ntd, _, k79 _ _ g7 nhp, List.length_replicate, ?_, fun y hy => by rw [(List.mem_replicate.mp hy).2]; exact Int.le_refl _⟩ ?_ ?_
    · generalize (2 + v1).toNat = n
      induction n with
      | zero => rfl
      | succ n ih =>
        rw [List.replicate_succ, List.sum_cons, ih]
        rfl
    · rintro i σ H10 hi ⟨⟨z5, rfl⟩, RA10, k10, gtd, ss, gss, lss, sss, pss⟩
      refine ⟨_, rfl, _, rfl, _, rfl, row, a, ns, _, rfl, RA10, by omega, by omega, fun j H11 j0 j1 RA11 k11 => ?_⟩
      have gss' := k11 _ _ gss nhp
      obtain ⟨z, hz⟩ : ∃ z, ss[j.toNat]? = some z := ⟨_, List.getElem?_eq_getElem (by omega)⟩
      have z0 := pss z (List.mem_of_getElem? hz)
      have hixn : ixN (ss.map V.int).length j = some j.toNat := by
        unfold ixN
        rw [List.length_map, if_pos (by omega), if_pos (by omega)]
      refine ⟨hp, _, j, .int z, rfl, rfl, .of gss', j0, by omega, by rw [List.getElem?_map, hz]; rfl, _, _, rfl, rfl, hp, _, j, j.toNat, rfl, rfl, gss', hixn, ?_⟩
      refine ⟨⟨_, rfl⟩, RA11.upd' nhp (far_of RA6.sc hhp), fun b o e n => ?_, ?_, ss.set j.toNat (z + 1), by rw [upd_same, List.map_set], by rw [List.length_set]; exact lss, ?_, fun y hy => ?_⟩
      · rw [upd_ne (hn0 b o e n)]
        exact (k10.trans k11) b o e n
      · rw [upd_ne ndh]
        exact k11 _ _ gtd ntd
      · rw [sum_set' hz, sss]
        omega
      · rcases mem_set hy with h | h
        · exact pss y h
        · omega
    · rintro σ H10 ⟨⟨z5, rfl⟩, RA10, k10, gtd, ss, gss, lss, sss, pss⟩
      refine ⟨_, rfl, _, rfl, hp, _, rfl, .inl ⟨.of gss, fun ts hts => ⟨(by show 2 ≤ sizeLine; decide), fun t ht => ?_⟩⟩⟩
      have u2 := same_upd (o := .tup (ss.map V.int)) hts
      have u3 := same_upd (o := .tup [.ref td, .ref ts]) ht
      have h12 : ss.sum ≤ 12 := by omega
      exact q _ t td ts ds ss ⟨by omega, by omega, by omega, dall, fun y hy => ⟨pss y hy, Int.le_trans (mem_le_sum pss y hy) h12⟩, by omega, h12⟩ (by omega) ((RA10.same u2).same u3) ((k10.trans (Same.kp u2)).trans (Same.kp u3)) upd_same (u3 _ _ (u2 _ _ gtd)) (u3 _ _ upd_same)
end
end Rp
/-! _law_alike of equal values. -/
namespace Rp
open PySem PySem.Spec PyProof.Rows L2 Rz Rm
/-- equal values: ints, None, texts; tuples and lists of such -/
def LkD : Nat → Hp → V → V → Prop
  | 0, _, v, w => (∃ x, v = .int x ∧ w = .int x) ∨ (v = .non ∧ w = .non) ∨ (∃ x, v = .str x ∧ w = .str x)
  | n + 1, H, v, w => LkD n H v w ∨ ∃ (f g : Addr) (xs ys : List V), v = .ref f ∧ w = .ref g ∧ ((H f = some (.tup xs) ∧ H g = some (.tup ys)) ∨ (H f = some (.lst xs) ∧ H g = some (.lst ys))) ∧ ys.length = xs.length ∧ xs.length ≤ 1000 ∧
      ∀ (i : Nat) (x y : V), xs[i]? = some x → ys[i]? = some y → LkD n H x y
theorem LkD.same {H H' : Hp} (s : Same H H') : ∀ {n : Nat} {v w : V}, LkD n H v w → LkD n H' v w
  | 0, _, _, h => h
  | n + 1, _, _, h => by
    rcases h with h | ⟨f, g, xs, ys, e1, e2, ho, hl, h1, ht⟩
    · exact .inl (LkD.same s h)
    · refine .inr ⟨f, g, xs, ys, e1, e2, ?_, hl, h1, fun i x y hx hy => LkD.same s (ht i x y hx hy)⟩
      rcases ho with ⟨a, b⟩ | ⟨a, b⟩
      · exact .inl ⟨s _ _ a, s _ _ b⟩
      · exact .inr ⟨s _ _ a, s _ _ b⟩
theorem LkD.ints {H : Hp} {f g : Addr} {l : List Int} (h : (H f = some (.tup (l.map V.int)) ∧ H g = some (.tup (l.map V.int))) ∨ (H f = some (.lst (l.map V.int)) ∧ H g = some (.lst (l.map V.int)))) (hl : l.length ≤ 1000) : LkD 1 H (.ref f) (.ref g) := by
  refine .inr ⟨f, g, _, _, rfl, rfl, h, rfl, by rw [List.length_map]; exact hl, fun i x y hx hy => ?_⟩
  rw [hx] at hy
  cases hy
  rw [List.getElem?_map] at hx
  cases e : l[i]? with
  | none => rw [e] at hx; cases hx
  | some z => rw [e] at hx; cases hx; exact .inl ⟨z, rfl, rfl⟩
theorem kit_tl {K : PySem.W.Frag} {t : String} {b1 b2 : Bool} (h1 : kitB t "tuple" = some b1) (h2 : kitB t "list" = some b2) : PySem.W.kitAny K (.type t) [.type "tuple", .type "list"] = some (b1 || b2) := by
  unfold PySem.W.kitAny
  rw [kit_ty h1]
  cases b1 with
  | true => rfl
  | false =>
    unfold PySem.W.kitAny
    rw [kit_ty h2]
    cases b2 <;> rfl
def rIxQ (K : PySem.W.Frag) : R2 := fun x y H Q => rIxL K x y H Q ∨ rIxT K x y H Q
theorem ix_seq {X : Cx} : IxR X (rIxQ X.K) := ix_list.or ix_tup
section
variable {P : Program} {w : World} {K : PySem.W.Frag} {mg : Str → Option Value} {base : Heap}
def spLikeD (n : Nat) : Sp := fun vs H Q _ => ∃ v y : V, vs = [v, y] ∧ LkD n H v y ∧ ∀ H', Same H H' → Q (.bl true) H'
theorem ok_like0 (T : Tx K mg) : FnOk P w K mg base CX0 1 T.a_lalike T.d_lalike P_lalike (spLikeD 0) := by
  refine T.F_lalike.ok sc_lalike (fun vs H Q E h => ?_) (fun cdv A outer s H vs Q E hr h => ?_)
  · obtain ⟨x, y, rfl, _⟩ := h
    rfl
  · obtain ⟨v, y, rfl, hv, q⟩ := h
    refine ⟨_, pss_cons (ps_if (PW.pt (pw_and (pt_val (pe_callB call_isiT (by rfl) T.z_isinstance (by decide +kernel) (pa_cons (pv 0) (pa_cons (pe_tup (pa_cons (pe_bltn (v := .ty "tuple") (u := .type "tuple") (by rfl) T.z_tuple (by decide +kernel) rfl) (pa_cons (pe_bltn (v := .ty "list") (u := .type "list") (by rfl) T.z_list (by decide +kernel) rfl) pa_nil))) pa_nil))))
        (pw_and1 (pt_val (pe_callB call_isiT (by rfl) T.z_isinstance (by decide +kernel) (pa_cons (pv 1) (pa_cons (pe_tup (pa_cons (pe_bltn (v := .ty "tuple") (u := .type "tuple") (by rfl) T.z_tuple (by decide +kernel) rfl) (pa_cons (pe_bltn (v := .ty "list") (u := .type "list") (by rfl) T.z_list (by decide +kernel) rfl) pa_nil))) pa_nil))))))) pss_never pss_nil)
      (pss_one (ps_ret (pe_and (pe_cmpR op_eq (pv 0) (pv 1) (nomark _)) (pe_one (pe_cmpR op_eq (pe_callB call_isi (by rfl) T.z_isinstance (by decide +kernel) (pa_cons (pv 0) (pa_cons (pe_bltn (v := .ty "bool") (u := .type "bool") (by rfl) T.z_bool (by decide +kernel) rfl) pa_nil)))
        (pe_callB call_isi (by rfl) T.z_isinstance (by decide +kernel) (pa_cons (pv 1) (pa_cons (pe_bltn (v := .ty "bool") (u := .type "bool") (by rfl) T.z_bool (by decide +kernel) rfl) pa_nil))) (nomark _)))))), ?_⟩
    obtain ⟨rfl, t, ht, k1, k2, k3, hs⟩ : y = v ∧ ∃ t : String, (∀ H', TyX K H' v (.type t)) ∧ kitB t "tuple" = some false ∧ kitB t "list" = some false ∧ kitB t "bool" = some false ∧ scal v v = true := by
      rcases hv with ⟨x, rfl, rfl⟩ | ⟨rfl, rfl⟩ | ⟨x, rfl, rfl⟩
      · exact ⟨rfl, "int", fun _ => .base (.int x), by decide +kernel, by decide +kernel, by decide +kernel, rfl⟩
      · exact ⟨rfl, "NoneType", fun _ => .base .non, by decide +kernel, by decide +kernel, by decide +kernel, rfl⟩
      · exact ⟨rfl, "str", fun _ => .base (.str x), by decide +kernel, by decide +kernel, by decide +kernel, rfl⟩
    refine ⟨_, rfl, (by show 2 ≤ sizeLine; decide), fun tp htp => ?_⟩
    have s1 := same_upd (o := .tup [.ty "tuple", .ty "list"]) htp
    refine ⟨_, tp, _, .type t, _, _, rfl, upd_same, .cons (.ty _) (.cons (.ty _) .nil), ht _, kit_tl k1 k2, _, rfl, iteF (iteF ?_)⟩
    refine ⟨_, rfl, _, rfl, hs, ?_⟩
    rw [decide_eq_true rfl]
    refine ⟨_, rfl, iteT ?_⟩
    refine ⟨_, rfl, _, .ty "bool", .type t, .type "bool", false, rfl, .ty _, ht _, kit_ty k3, _, rfl, _, .ty "bool", .type t, .type "bool", false, rfl, .ty _, ht _, kit_ty k3, rfl, ?_⟩
    exact q _ s1
theorem ok_likeS {n : Nat} (T : Tx K mg) (IH : FnOk P w K mg base CX0 (n + 1) T.a_lalike T.d_lalike P_lalike (spLikeD n)) : FnOk P w K mg base CX0 (n + 2) T.a_lalike T.d_lalike P_lalike (fun vs H Q _ => ∃ (f g : Addr) (xs ys : List V), vs = [.ref f, .ref g] ∧ ((H f = some (.tup xs) ∧ H g = some (.tup ys)) ∨ (H f = some (.lst xs) ∧ H g = some (.lst ys))) ∧ ys.length = xs.length ∧ xs.length ≤ 1000 ∧
      (∀ (i : Nat) (x y : V), xs[i]? = some x → ys[i]? = some y → LkD n H x y) ∧ ∀ H', Same H H' → Q (.bl true) H') := by
  refine T.F_lalike.ok sc_lalike (fun vs H Q E h => ?_) (fun cdv A outer s H vs Q E hr h => ?_)
  · obtain ⟨f, g, xs, ys, rfl, _⟩ := h
    rfl
  · obtain ⟨f, g, xs, ys, rfl, hfg, hl, h1000, ht, q⟩ := h
    have nd := sc_lalike.nd
    refine ⟨_, pss_cons (ps_if (PW.pt (pw_and (pt_val (pe_callB call_isiT (by rfl) T.z_isinstance (by decide +kernel) (pa_cons (pv 0) (pa_cons (pe_tup (pa_cons (pe_bltn (v := .ty "tuple") (u := .type "tuple") (by rfl) T.z_tuple (by decide +kernel) rfl) (pa_cons (pe_bltn (v := .ty "list") (u := .type "list") (by rfl) T.z_list (by decide +kernel) rfl) pa_nil))) pa_nil))))
        (pw_and1 (pt_val (pe_callB call_isiT (by rfl) T.z_isinstance (by decide +kernel) (pa_cons (pv 1) (pa_cons (pe_tup (pa_cons (pe_bltn (v := .ty "tuple") (u := .type "tuple") (by rfl) T.z_tuple (by decide +kernel) rfl) (pa_cons (pe_bltn (v := .ty "list") (u := .type "list") (by rfl) T.z_list (by decide +kernel) rfl) pa_nil))) pa_nil)))))))
        (pss_cons (ps_if (PW.pt (pw_or (pt_cmpR op_ne (pe_callB call_isi (by rfl) T.z_isinstance (by decide +kernel) (pa_cons (pv 0) (pa_cons (pe_bltn (v := .ty "tuple") (u := .type "tuple") (by rfl) T.z_tuple (by decide +kernel) rfl) pa_nil)))
          (pe_callB call_isi (by rfl) T.z_isinstance (by decide +kernel) (pa_cons (pv 1) (pa_cons (pe_bltn (v := .ty "tuple") (u := .type "tuple") (by rfl) T.z_tuple (by decide +kernel) rfl) pa_nil))) (nomark _))
          (pw_or1 (pt_cmpR op_ne (pe_callB call_len_seq (by rfl) T.z_len PySem.boot_len (pa_cons (pv 0) pa_nil)) (pe_callB call_len_seq (by rfl) T.z_len PySem.boot_len (pa_cons (pv 1) pa_nil)) (nomark _))))) (pss_one (ps_ret pe_bl)) pss_nil)
        (pss_one (ps_ret (pe_cmpR (op_eqD hr.units) (pe_lc (own := [("_law_k", 2)]) rfl nd (pi_range1 (by rfl) T.z_range (pa_cons (pe_callB call_len_seq (by rfl) T.z_len PySem.boot_len (pa_cons (pv 0) pa_nil)) pa_nil)) (blkOk_by (N := N_lalike) (sc := defScope s_lalike) (by decide +kernel))
          (fun _ _ _ _ _ => pg_name (i := 2) nd rfl (.inl rfl))
          (fun _ _ _ _ _ => pts_one (pt_not (pt_val (pe_call (IH) hr (by rfl) T.g_lalike T.F_lalike.kp T.b_lalike .nil pass0 (pa_cons (pe_ix (r := rIxQ K) ix_seq (pv 0) (pv 2) (fun _ _ => rfl)) (pa_cons (pe_ix (r := rIxQ K) ix_seq (pv 1) (pv 2) (fun _ _ => rfl)) pa_nil))))))
          (fun _ _ _ _ _ => pv 2)) (pe_lst pa_nil) (nomark _))))) pss_nil) pss_never, ?_⟩
    obtain ⟨t, b1, b2, hb, hT, k1, k2, k3⟩ : ∃ (t : String) (b1 b2 : Bool), (b1 || b2) = true ∧ (∀ H', Same H H' → TyX K H' (.ref f) (.type t) ∧ TyX K H' (.ref g) (.type t) ∧ (SqL K H' f xs ∨ SqT K H' f xs) ∧ (SqL K H' g ys ∨ SqT K H' g ys)) ∧ kitB t "tuple" = some b1 ∧ kitB t "list" = some b2 ∧ True := by
      rcases hfg with ⟨a, b⟩ | ⟨a, b⟩
      · exact ⟨"tuple", true, false, rfl, fun H' s => ⟨.base (.tup (s _ _ a)), .base (.tup (s _ _ b)), .inr (.of (s _ _ a)), .inr (.of (s _ _ b))⟩, by decide +kernel, by decide +kernel, trivial⟩
      · exact ⟨"list", false, true, rfl, fun H' s => ⟨.base (.lst (s _ _ a)), .base (.lst (s _ _ b)), .inl (.of (s _ _ a)), .inl (.of (s _ _ b))⟩, by decide +kernel, by decide +kernel, trivial⟩
    refine ⟨_, rfl, (by show 2 ≤ sizeLine; decide), fun tp htp => ?_⟩
    have s1 := same_upd (o := .tup [.ty "tuple", .ty "list"]) htp
    refine ⟨_, tp, _, .type t, _, _, rfl, upd_same, .cons (.ty _) (.cons (.ty _) .nil), (hT _ s1).1, kit_tl k1 k2, _, rfl, ?_⟩
    rw [hb]
    refine iteT ?_
    refine ⟨_, rfl, (by show 2 ≤ sizeLine; decide), fun tq htq => ?_⟩
    have s2 := s1.trans (same_upd (o := .tup [.ty "tuple", .ty "list"]) htq)
    have u2 : (upd (upd H tp (.tup [.ty "tuple", .ty "list"])) tq (.tup [.ty "tuple", .ty "list"])) tq = some (.tup [.ty "tuple", .ty "list"]) := upd_same
    generalize (upd (upd H tp (.tup [.ty "tuple", .ty "list"])) tq (.tup [.ty "tuple", .ty "list"])) = H2 at s2 u2
    obtain ⟨t1, t2, q1, q2⟩ := hT _ s2
    refine ⟨_, tq, _, .type t, _, _, rfl, u2, .cons (.ty _) (.cons (.ty _) .nil), t2, kit_tl k1 k2, _, rfl, ?_⟩
    rw [hb]
    refine iteT ?_
    refine ⟨_, rfl, _, .ty "tuple", .type t, .type "tuple", b1, rfl, .ty _, t1, kit_ty k1, _, rfl, _, .ty "tuple", .type t, .type "tuple", b1, rfl, .ty _, t2, kit_ty k1, rfl, _, rfl, iteNS rfl ?_⟩
    refine ⟨_, rfl, f, _, rfl, q1, _, rfl, g, _, rfl, q2, rfl, _, rfl, iteNS (by rw [hl]) ?_⟩
    refine ⟨_, rfl, f, _, rfl, q1, _, rfl, by omega, by omega, fun D hD => lc_range (lo := 0) (n := (((xs.length : Nat) : Int)).toNat) (fun i H' => H' D = some (.lst []) ∧ Same H2 H') ⟨upd_same, same_upd hD⟩ ?_ ?_⟩
    · rintro i H3 hi ⟨h3, s3⟩
      have hi' : i < xs.length := by omega
      have hi2 : i < ys.length := by omega
      obtain ⟨_, _, p1, p2⟩ := hT _ (s2.trans s3)
      have ix : ∀ {p : Addr} {zs : List V} {z : V} {F : VK}, (SqL K H3 p zs ∨ SqT K H3 p zs) → zs[i]? = some z → F z H3 → rIxQ K (.ref p) (.int (0 + (i : Int))) H3 F := fun {p zs z F} hp hz hF => by
        rcases hp with hp | hp
        · exact .inl ⟨p, zs, _, z, rfl, rfl, hp, at_of (j := i) (by omega) hz, hF⟩
        · exact .inr ⟨p, zs, _, z, rfl, rfl, hp, at_of (j := i) (by omega) hz, hF⟩
      refine ⟨rfl, ?_⟩
      refine ⟨_, rfl, _, rfl, ix p1 (List.getElem?_eq_getElem hi') ?_⟩
      refine ⟨_, rfl, _, rfl, ix p2 (List.getElem?_eq_getElem hi2) ?_⟩
      refine ⟨_, _, rfl, (ht i _ _ (List.getElem?_eq_getElem hi') (List.getElem?_eq_getElem hi2)).same (s2.trans s3), fun H4 s4 => ⟨_, rfl, ?_⟩⟩
      exact iteF ⟨s4 _ _ h3, s3.trans s4⟩
    · rintro H3 ⟨h3, s3⟩
      refine ⟨Nat.zero_le _, fun e he => ?_⟩
      have s4 := same_upd (o := .lst []) he
      exact ⟨.list [], .list [], .lst (.of (s4 _ _ h3)) .nil, .lst (.of upd_same) .nil, rfl, rfl, q _ ((s2.trans s3).trans s4)⟩
theorem ok_likeD (T : Tx K mg) : ∀ n : Nat, FnOk P w K mg base CX0 (n + 1) T.a_lalike T.d_lalike P_lalike (spLikeD n)
  | 0 => ok_like0 T
  | n + 1 => by
    have IH := ok_likeD T n
    have h0 := IH.mono (show n + 1 ≤ n + 2 by omega)
    have hT := ok_likeS T IH
    refine ⟨fun vs H Q E h => ?_, fun A outer s H args us vs Q E hr e b r h => ?_⟩
    · obtain ⟨v, y, rfl, _⟩ := h
      rfl
    · obtain ⟨v, y, rfl, hv, q⟩ := h
      rcases hv with hv | ⟨f, g, xs, ys, rfl, rfl, ho, hl, h1, ht⟩
      · exact h0.run A outer s H args us _ Q E hr e b r ⟨v, y, rfl, hv, q⟩
      · exact hT.run A outer s H args us _ Q E hr e b r ⟨f, g, xs, ys, rfl, ho, hl, h1, ht, q⟩
end
end Rp
/-! The law's own model of a ring: a day's list is made anew. -/
namespace Rp
open PySem PySem.Spec PyProof.Rows L2 Rz Rm
/-- the model as it stands, fv: the ends -/
def MRaw (H : Hp) (m sl el td : Addr) (ha : List Addr) (ds ss : List Int) (D : Int) (fv : Nat → V) : Prop :=
  H m = some (.lst [.int D, .ref sl, .ref el, .ref td, .int ss.sum]) ∧ H sl = some (.lst (ha.map V.ref)) ∧ ha.length = ds.length ∧ H el = some (.lst ((List.range ds.length).map fv)) ∧ H td = some (.tup (ds.map V.int)) ∧
  ∀ (j : Nat) (a : Addr), ha[j]? = some a → H a = some (.lst ((Sv ds ss D j).map V.int))
def MAt (H : Hp) (m td : Addr) (ds ss : List Int) (D : Int) : Prop := ∃ (sl el : Addr) (ha : List Addr), MRaw H m sl el td ha ds ss D (Ev ds ss D)
theorem MRaw.same {H H' : Hp} {m sl el td : Addr} {ha : List Addr} {ds ss : List Int} {D : Int} {fv : Nat → V} (h : MRaw H m sl el td ha ds ss D fv) (s : Same H H') : MRaw H' m sl el td ha ds ss D fv := by
  obtain ⟨h1, h2, h3, h4, h5, h6⟩ := h
  exact ⟨s _ _ h1, s _ _ h2, h3, s _ _ h4, s _ _ h5, fun j a h => s _ _ (h6 j a h)⟩
theorem MAt.same {H H' : Hp} {m td : Addr} {ds ss : List Int} {D : Int} (h : MAt H m td ds ss D) (s : Same H H') : MAt H' m td ds ss D := by
  obtain ⟨sl, el, ha, h⟩ := h
  exact ⟨sl, el, ha, h.same s⟩
theorem get_rg {n i : Nat} {f : Nat → V} (h : i < n) : ((List.range n).map f)[i]? = some (f i) := by
  rw [List.getElem?_map, List.getElem?_range h]
  rfl
theorem at_rg {n i : Nat} {f : Nat → V} (h : i < n) : atI ((List.range n).map f) (i : Int) = some (f i) := atI_nat (get_rg h)
theorem rg_snoc (n : Nat) (f : Nat → V) : (List.range n).map f ++ [f n] = (List.range (n + 1)).map f := by
  rw [List.range_succ, List.map_append]
  rfl
theorem same_none {H H' : Hp} {x : Addr} (s : Same H H') (h : H' x = none) : H x = none := by
  cases e : H x with
  | none => rfl
  | some o =>
    have := s _ _ e
    rw [h] at this
    cases this
section
variable {P : Program} {w : World} {K : PySem.W.Frag} {mg : Str → Option Value} {base : Heap}
def spBgn : Sp := fun vs H Q _ => ∃ (m sl el td : Addr) (ha : List Addr) (ds ss : List Int) (D : Int), vs = [.ref m] ∧ MRaw H m sl el td ha ds ss D (Fv ds ss D) ∧ Good ds ss ∧ 0 ≤ D ∧ ∀ H' m' el', Same H H' → MRaw H' m' sl el' td ha ds ss D (Ev ds ss D) → H m' = none → H el' = none → Q (.ref m') H'
theorem ok_bgn (T : Tx K mg) : FnOk P w K mg base CX0 2 T.a_lbegun T.d_lbegun P_lbegun spBgn := by
  refine T.F_lbegun.ok sc_lbegun (fun vs H Q E h => ?_) (fun cdv A outer s H vs Q E hr h => ?_)
  · obtain ⟨m, sl, el, td, ha, ds, ss, D, rfl, _⟩ := h
    rfl
  · obtain ⟨m, sl, el, td, ha, ds, ss, D, rfl, ⟨hm, hsl, lha, hel, htd, hst⟩, G, d0, q⟩ := h
    have nd := sc_lbegun.nd
    refine ⟨_, pss_cons (ps_asg (pv 0) (pg_unl rfl (pgs_cons (pg_name (i := 1) nd rfl (.inl rfl)) (pgs_cons (pg_name (i := 2) nd rfl (.inl rfl)) (pgs_cons (pg_name (i := 3) nd rfl (.inl rfl)) (pgs_cons (pg_name (i := 4) nd rfl (.inl rfl)) (pgs_cons (pg_name (i := 5) nd rfl (.inl rfl)) pgs_nil)))))))
      (pss_cons (ps_set (i := 6) nd rfl (.inl rfl) (pe_lst pa_nil))
      (pss_cons (ps_for PassesOwn.never rfl (pi_range1 (by rfl) T.z_range (pa_cons (pe_callB call_len_seq (by rfl) T.z_len PySem.boot_len (pa_cons (pv 4) pa_nil)) pa_nil)) (pg_name (i := 7) nd rfl (.inl rfl))
        (pss_one (ps_expr (pe_bm PySem.F.plainAttrs_list PySem.F.slot_list_append PySem.F.type_list_append mt_append (pv 6) (pa_cons
          (pe_ifExp (PW.pt (pw_and (pt_cmpR op_isN (pe_ix ix_list (pv 3) (pv 7) (fun _ _ => rfl)) pe_non (nomark _)) (pw_and1 (pt_cmpR (op_neD hr.units) (pe_ix ix_list (pv 2) (pv 7) (fun _ _ => rfl)) (pe_lst pa_nil) (nomark _)))))
            (pe_op op_add (pv 1) (pe_ix ix_tup (pv 4) (pv 7) (fun _ _ => rfl))) (pe_ix ix_list (pv 3) (pv 7) (fun _ _ => rfl))) pa_nil)))))
      (pss_one (ps_ret (pe_lst (pa_cons (pv 1) (pa_cons (pv 2) (pa_cons (pv 6) (pa_cons (pv 4) (pa_cons (pv 5) pa_nil)))))))))), ?_⟩
    obtain ⟨M, hM, hMu⟩ := G.max
    have RR := G.ring hM hMu
    have l8 := G.l8
    refine ⟨_, rfl, m, _, rfl, .of hm, rfl, _, _, rfl, _, _, rfl, _, _, rfl, _, _, rfl, _, _, rfl, rfl, ?_⟩
    refine ⟨Nat.zero_le _, fun le hle => ?_⟩
    have s1 := same_upd (o := .lst []) hle
    have g1 : (upd H le (.lst [])) le = some (.lst []) := upd_same
    refine ⟨_, rfl, td, _, rfl, .inr (.of (s1 _ _ htd)), _, rfl, ?_, ?_, ?_⟩
    · rw [List.length_map]
      omega
    · rw [List.length_map]
      omega
    rw [List.length_map]
    refine for_range (lo := 0) (n := ((ds.length : Nat) : Int).toNat) (fun i σ H' => (∃ z7, σ = [some (.ref m), some (.int D), some (.ref sl), some (.ref el), some (.ref td), some (.int ss.sum), some (.ref le), z7]) ∧ (∀ x o, H x = some o → H' x = some o) ∧ H' le = some (.lst ((List.range i).map (Ev ds ss D))))
      ⟨⟨_, rfl⟩, s1, g1⟩ ?_ ?_
    · rintro i σ H1 hi ⟨⟨z7, rfl⟩, sm, gl⟩
      have hi' : i < ds.length := by omega
      have ei : (0 : Int) + (i : Int) = i := by omega
      show tDrop _ _ [some (.ref m), some (.int D), some (.ref sl), some (.ref el), some (.ref td), some (.int ss.sum), some (.ref le), some (.int (0 + (i : Int)))] H1
      rw [ei]
      have hat := at_rg (f := Fv ds ss D) hi'
      obtain ⟨a, ga⟩ : ∃ a, ha[i]? = some a := ⟨_, List.getElem?_eq_getElem (by rw [lha]; exact hi')⟩
      have hatA : atI (ha.map V.ref) (i : Int) = some (.ref a) := atI_nat (by rw [List.getElem?_map, ga]; rfl)
      have gx := sm _ _ (hst i a ga)
      have hatD : atI (ds.map V.int) (i : Int) = some (.int (at' ds i)) := at_ix (by omega) (by omega)
      have fin : ∀ H2, Same H1 H2 → ∀ v, v = Ev ds ss D i → (H2 le = some (.lst ((List.range i).map (Ev ds ss D))) ∧ ((List.range i).map (Ev ds ss D)).length < sizeLine ∧ ((∃ z7, ([some (.ref m), some (.int D), some (.ref sl), some (.ref el), some (.ref td), some (.int ss.sum), some (.ref le), some (.int (i : Int))] : L2.St) = [some (.ref m), some (.int D), some (.ref sl), some (.ref el), some (.ref td), some (.int ss.sum), some (.ref le), z7]) ∧ (∀ x o, H x = some o → (upd H2 le (.lst ((List.range i).map (Ev ds ss D) ++ [v]))) x = some o) ∧ (upd H2 le (.lst ((List.range i).map (Ev ds ss D) ++ [v]))) le = some (.lst ((List.range (i + 1)).map (Ev ds ss D))))) := fun H2 s2 v ev => by
        subst ev
        refine ⟨s2 _ _ gl, by rw [List.length_map, List.length_range]; exact small1000 (by omega), ⟨_, rfl⟩, fun x o h => ?_, by rw [upd_same, rg_snoc]⟩
        rw [upd_ne (ne_of_none h hle)]
        exact s2 _ _ (sm _ _ h)
      refine ⟨_, rfl, .inl ⟨rfl, _, SqL.of gl⟩, _, rfl, _, rfl, el, _, _, _, rfl, rfl, .of (sm _ _ hel), hat, rfl, _, rfl, ?_⟩
      rcases fv_cases RR hi' d0 with ⟨e1, ⟨b, l, e2⟩, e3⟩ | ⟨e1, e2, e3⟩ | ⟨z, e1, e3⟩
      · rw [e1]
        refine iteT ?_
        refine ⟨_, rfl, _, rfl, sl, _, _, _, rfl, rfl, .of (sm _ _ hsl), hatA, Nat.zero_le _, fun e he => ?_⟩
        have s2 := same_upd (o := .lst []) he
        refine ⟨.list _, .list [], .lst (.of (s2 _ _ gx)) (dp_is _), .lst (.of upd_same) .nil, PySem.W.ke_shaped_ints _, PySem.W.ke_shaped_ints [], _, rfl, ?_⟩
        rw [e2]
        refine iteT ?_
        obtain ⟨f1, f2, f3⟩ := fin _ s2 _ e3.symm
        exact ⟨_, rfl, _, rfl, _, rfl, td, _, _, _, rfl, rfl, .of (s2 _ _ (sm _ _ htd)), hatD, _, _, rfl, rfl, le, _, _, rfl, rfl, f1, f2, f3⟩
      · rw [e1] at hat ⊢
        refine iteT ?_
        refine ⟨_, rfl, _, rfl, sl, _, _, _, rfl, rfl, .of (sm _ _ hsl), hatA, Nat.zero_le _, fun e he => ?_⟩
        have s2 := same_upd (o := .lst []) he
        refine ⟨.list _, .list [], .lst (.of (s2 _ _ gx)) (dp_is _), .lst (.of upd_same) .nil, PySem.W.ke_shaped_ints _, PySem.W.ke_shaped_ints [], _, rfl, ?_⟩
        rw [e2]
        refine iteF ?_
        obtain ⟨f1, f2, f3⟩ := fin _ s2 _ e3.symm
        exact ⟨_, rfl, _, rfl, el, _, _, _, rfl, rfl, .of (s2 _ _ (sm _ _ hel)), hat, le, _, _, rfl, rfl, f1, f2, f3⟩
      · rw [e1] at hat ⊢
        refine iteF (iteF ?_)
        obtain ⟨f1, f2, f3⟩ := fin H1 (fun _ _ h => h) _ e3.symm
        exact ⟨_, rfl, _, rfl, el, _, _, _, rfl, rfl, .of (sm _ _ hel), hat, le, _, _, rfl, rfl, f1, f2, f3⟩
    · rintro σ H1 ⟨⟨z7, rfl⟩, sm, gl⟩
      rw [show ((ds.length : Nat) : Int).toNat = ds.length by omega] at gl
      refine ⟨_, rfl, _, rfl, _, rfl, _, rfl, _, rfl, (by show 5 ≤ sizeLine; decide), fun m' hm' => ?_⟩
      have s2 := same_upd (o := .lst [.int D, .ref sl, .ref le, .ref td, .int ss.sum]) hm'
      exact q _ m' le (fun x o h => s2 _ _ (sm _ _ h)) ⟨upd_same, s2 _ _ (sm _ _ hsl), lha, s2 _ _ gl, s2 _ _ (sm _ _ htd), fun j a h => s2 _ _ (sm _ _ (hst j a h))⟩ (same_none sm hm') hle
/-- the model of day 0 -/
def spFst : Sp := fun vs H Q _ => ∃ (td ts : Addr) (ds ss : List Int), vs = [.ref td, .ref ts] ∧ H td = some (.tup (ds.map V.int)) ∧ H ts = some (.tup (ss.map V.int)) ∧ Good ds ss ∧ ∀ H' m, Same H H' → MAt H' m td ds ss 0 → Q (.ref m) H'
theorem ok_fst (T : Tx K mg) : FnOk P w K mg base CX0 3 T.a_lfirst T.d_lfirst P_lfirst spFst := by
  refine T.F_lfirst.ok sc_lfirst (fun vs H Q E h => ?_) (fun cdv A outer s H vs Q E hr h => ?_)
  · obtain ⟨td, ts, ds, ss, rfl, _⟩ := h
    rfl
  · obtain ⟨td, ts, ds, ss, rfl, htd, hts, G, q⟩ := h
    have nd := sc_lfirst.nd
    refine ⟨_, pss_cons (ps_par (i := 2) (j := 3) rfl nd rfl rfl (by decide) rfl rfl (pa_cons (pe_lst pa_nil) (pa_cons pe_int pa_nil)) rfl)
      (pss_cons (ps_for PassesOwn.never rfl (pi_tup (pv 1)) (pg_name (i := 4) nd rfl (.inl rfl))
        (pss_cons (ps_expr (pe_bm PySem.F.plainAttrs_list PySem.F.slot_list_append PySem.F.type_list_append mt_append (pv 2) (pa_cons (pe_listRg rfl (by rfl) T.z_list (prg_2 (by rfl) T.z_range (pv 3) (pe_op op_add (pv 3) (pv 4)))) pa_nil)))
        (pss_one (ps_set (i := 3) nd rfl (.inl rfl) (pe_op op_add (pv 3) (pv 4))))))
      (pss_one (ps_ret (pe_call (ok_bgn T) hr (by rfl) T.g_lbegun T.F_lbegun.kp T.b_lbegun .nil pass0 (pa_cons (pe_lst (pa_cons pe_int (pa_cons (pv 2) (pa_cons (pe_op op_rep (pe_lst (pa_cons pe_non pa_nil)) (pe_callB call_len_seq (by rfl) T.z_len PySem.boot_len (pa_cons (pv 0) pa_nil))) (pa_cons (pv 0) (pa_cons (pv 3) pa_nil)))))) pa_nil))))), ?_⟩
    obtain ⟨M, hM, hMu⟩ := G.max
    have RR := G.ring hM hMu
    have l2 := G.l2
    have l8 := G.l8
    have ls := G.ls
    have b12 := G.b12
    refine ⟨Nat.zero_le _, fun hl hhl => ?_⟩
    have s1 := same_upd (o := .lst []) hhl
    have g1 : (upd H hl (.lst [])) hl = some (.lst []) := upd_same
    refine ⟨_, _, rfl, ?_⟩
    show tSeq _ _ _ [some (.ref td), some (.ref ts), some (.ref hl), some (.int 0), none] (upd H hl (.lst []))
    generalize (upd H hl (.lst [])) = H6 at s1 g1
    have hts6 := s1 _ _ hts
    refine ⟨_, rfl, ts, rfl, ⟨_, .of hts6⟩, for_tup (K := K) (a := ts) (xs := ss.map V.int) (fun i σ H' => (∃ z5, σ = [some (.ref td), some (.ref ts), some (.ref hl), some (.int (ss.take i).sum), z5]) ∧ (∀ x o, H6 x = some o → x ≠ hl → H' x = some o) ∧
      ∃ ha : List Addr, H' hl = some (.lst (ha.map V.ref)) ∧ ha.length = i ∧ ∀ (j : Nat) (a : Addr), ha[j]? = some a → a ≠ hl ∧ H' a = some (.lst ((Sv ds ss 0 j).map V.int)))
      ⟨⟨none, rfl⟩, fun x o h _ => h, [], g1, rfl, fun j a h => by simp at h⟩ (fun i σ H' _ p => .of (p.2.1 _ _ hts6 (ne_of hts6 g1 (by intro z; cases z)))) ?_ ?_⟩
    · rintro i x σ H7 hx ⟨⟨z5, rfl⟩, kp, ha, hha, lha, oha⟩
      obtain ⟨z, hz, rfl⟩ := get_int hx
      have hi : i < ss.length := (List.getElem?_eq_some_iff.mp hz).1
      have ez : at' ss i = z := at_nat hz
      have hz12 := G.s0 z (List.mem_of_getElem? hz)
      have hb := take_le (l := ss) (fun y hy => (G.s0 y hy).1) i
      obtain ⟨bk0, hbk⟩ : ∃ b, b = (ss.take i).sum := ⟨_, rfl⟩
      show tSeq _ _ _ [some (.ref td), some (.ref ts), some (.ref hl), some (.int (ss.take i).sum), some (.int z)] H7
      rw [← hbk] at hb ⊢
      refine ⟨_, rfl, .inl ⟨rfl, _, SqL.of hha⟩, _, rfl, _, rfl, _, rfl, _, _, rfl, rfl, _, _, rfl, rfl, ⟨by omega, by omega, by omega, by omega, by omega⟩, fun L hL => ?_⟩
      have s8 := same_upd (o := .lst (rgV bk0 (bk0 + z))) hL
      have eL : rgV bk0 (bk0 + z) = (Sv ds ss 0 i).map V.int := sv_first RR ls (by omega) hbk.symm ez
      have nL : L ≠ hl := (ne_of_none hha hL).symm
      refine ⟨hl, _, _, rfl, rfl, s8 _ _ hha, by rw [List.length_map]; exact small1000 (by omega), ?_⟩
      refine ⟨_, rfl, _, rfl, _, _, rfl, rfl, ?_⟩
      refine ⟨⟨_, by rw [take_succ hi, ← hbk, ez]; rfl⟩, fun x o h n => ?_, ha ++ [L], by rw [upd_same, List.map_append]; rfl, by rw [List.length_append, lha]; rfl, fun j a h => ?_⟩
      · rw [upd_ne n]
        exact s8 _ _ (kp _ _ h n)
      · rcases get_snoc h with h | ⟨h1, rfl⟩
        · obtain ⟨n1, h1⟩ := oha j a h
          rw [upd_ne n1]
          exact ⟨n1, s8 _ _ h1⟩
        · rw [upd_ne nL, upd_same, h1, lha, eL]
          exact ⟨nL, rfl⟩
    · rintro σ H7 ⟨⟨z5, rfl⟩, kp, ha, hha, lha, oha⟩
      rw [List.length_map] at lha ⊢
      have htd7 := kp _ _ (s1 _ _ htd) (ne_of (s1 _ _ htd) g1 (by intro z; cases z))
      refine ⟨_, rfl, (by show 1 ≤ sizeLine; decide), fun l0 hl0 => ?_⟩
      have s4 := same_upd (o := .lst [.non]) hl0
      have g4 : (upd H7 l0 (.lst [.non])) l0 = some (.lst [.non]) := upd_same
      generalize (upd H7 l0 (.lst [.non])) = H4 at s4 g4
      refine ⟨_, rfl, td, _, rfl, .inr (.of (s4 _ _ htd7)), l0, _, _, rfl, rfl, g4, ?_, ?_, ?_, fun rd hrd => ?_⟩
      · omega
      · rw [List.length_map]
        omega
      · rw [List.length_map]
        show 1 * _ ≤ sizeLine
        have := small1000 (n := 1 * ((ds.length : Nat) : Int).toNat) (by omega)
        omega
      rw [rep_one, List.length_map, show ((ds.length : Nat) : Int).toNat = ds.length by omega]
      have s5 := same_upd (o := .lst (List.replicate ds.length V.non)) hrd
      have g5 : (upd H4 rd (.lst (List.replicate ds.length V.non))) rd = some (.lst (List.replicate ds.length V.non)) := upd_same
      generalize (upd H4 rd (.lst (List.replicate ds.length V.non))) = H5 at s5 g5
      have s75 := s4.trans s5
      refine ⟨_, rfl, _, rfl, (by show 5 ≤ sizeLine; decide), fun m hm => ?_⟩
      have s8 := same_upd (o := .lst [.int 0, .ref hl, .ref rd, .ref td, .int (ss.take ss.length).sum]) hm
      have eR : List.replicate ds.length V.non = (List.range ds.length).map (Fv ds ss 0) := by
        refine List.ext_getElem? fun n => ?_
        by_cases hn : n < ds.length
        · rw [List.getElem?_replicate, if_pos hn, get_rg hn, fv_first RR]
        · rw [List.getElem?_eq_none (by rw [List.length_replicate]; omega), List.getElem?_eq_none (by rw [List.length_map, List.length_range]; omega)]
      refine ⟨m, hl, rd, td, ha, ds, ss, 0, rfl, ⟨?_, s8 _ _ (s75 _ _ hha), by omega, ?_, s8 _ _ (s75 _ _ htd7), fun j a h => s8 _ _ (s75 _ _ (oha j a h).2)⟩, G, Int.le_refl _, fun H' m' el' s9 M' _ _ => q _ _ (fun x o h => s9 _ _ (s8 _ _ (s75 _ _ (kp _ _ (s1 _ _ h) (ne_of_none h hhl))))) ⟨_, _, _, M'⟩⟩
      · rw [upd_same, List.take_length]
      · rw [← eR]
        exact s8 _ _ g5
end
end Rp
/-! The law's own model of a ring: the next day. -/
namespace Rp
open PySem PySem.Spec PyProof.Rows L2 Rz Rm
theorem rg_set {n k : Nat} {f : Nat → V} {v : V} (h : k < n) : ((List.range n).map f).set k v = (List.range n).map (fun j => if j = k then v else f j) := by
  refine List.ext_getElem? fun i => ?_
  by_cases hi : i < n
  · rw [get_rg hi]
    by_cases e : i = k
    · subst e
      rw [List.getElem?_set_self (by rw [List.length_map, List.length_range]; exact h), if_pos rfl]
    · rw [List.getElem?_set_ne (Ne.symm e), get_rg hi, if_neg e]
  · rw [List.getElem?_eq_none (by rw [List.length_set, List.length_map, List.length_range]; omega), List.getElem?_eq_none (by rw [List.length_map, List.length_range]; omega)]
theorem cut_tail (x : V) (xs : List V) : cutV (x :: xs) (some 1) none = xs := by
  unfold cutV
  have e0 : HT.sIx (x :: xs).length 0 (some (1 : Int)) = 1 := by
    have := HT.sIx_nat (x :: xs).length 0 1
    rw [show (1 : Int) = ((1 : Nat) : Int) from rfl, this, List.length_cons]
    omega
  rw [e0, HT.sIx_none, List.drop_succ_cons, List.drop_zero, List.length_cons, List.take_of_length_le (by omega)]
def rLof (K : PySem.W.Frag) : List V → Hp → VK → Prop := fun xs H Q => ∃ p ys, xs = [.ref p] ∧ (SqL K H p ys ∨ SqT K H p ys) ∧ ∀ l, H l = none → Q (.ref l) (upd H l (.lst ys))
theorem call_lof {X : Cx} : CallR X (.type "list") (rLof X.K) := call_list_of
theorem nodup_set {p : Addr} : ∀ {l : List Addr} {k : Nat}, l.Nodup → p ∉ l → (l.set k p).Nodup
  | [], k, h, _ => by simpa using h
  | a :: r, 0, h, n => by
    rw [List.set_cons_zero, List.nodup_cons]
    exact ⟨fun z => n (List.mem_cons_of_mem _ z), (List.nodup_cons.mp h).2⟩
  | a :: r, k + 1, h, n => by
    rw [List.set_cons_succ, List.nodup_cons]
    refine ⟨fun z => ?_, nodup_set (List.nodup_cons.mp h).2 fun z => n (List.mem_cons_of_mem _ z)⟩
    rcases List.mem_or_eq_of_mem_set z with z | z
    · exact (List.nodup_cons.mp h).1 z
    · exact n (z ▸ List.mem_cons_self)
theorem eqv_int (a b : Int) : PyData.eqv (.int a) (.int b) = decide (a = b) := by
  first | rfl | simp [PyData.eqv]
section
variable {P : Program} {w : World} {K : PySem.W.Frag} {mg : Str → Option Value} {base : Heap}
def spNxt : Sp := fun vs H Q _ => ∃ (m td : Addr) (ds ss : List Int) (D : Int), vs = [.ref m] ∧ MAt H m td ds ss D ∧ Good ds ss ∧ 0 ≤ D ∧ D ≤ 1000000 ∧
  ∀ H' t m' le xs sl el ha, Same H H' → H' t = some (.tup [.ref m', .ref le]) → MRaw H' m' sl el td ha ds ss (D + 1) (Ev ds ss (D + 1)) → H m' = none → H sl = none → H el = none → (∀ a ∈ ha, H a = none) → H' le = some (.lst xs) → H le = none → Tups H' xs (Ke ds ss D) → Q (.ref t) H'
theorem ok_nxt (T : Tx K mg) : FnOk P w K mg base CX0 3 T.a_lnext T.d_lnext P_lnext spNxt := by
  refine T.F_lnext.ok sc_lnext (fun vs H Q E h => ?_) (fun cdv A outer s H vs Q E hr h => ?_)
  · obtain ⟨m, td, ds, ss, D, rfl, _⟩ := h
    rfl
  · obtain ⟨m, td, ds, ss, D, rfl, ⟨sl0, el0, ha0, hm, hsl0, lha0, hel0, htd, hst0⟩, G, d0, d9, q⟩ := h
    have nd := sc_lnext.nd
    refine ⟨_, pss_cons (ps_asg (pv 0) (pg_unl rfl (pgs_cons (pg_name (i := 1) nd rfl (.inr rfl)) (pgs_cons (pg_name (i := 2) nd rfl (.inr rfl)) (pgs_cons (pg_name (i := 3) nd rfl (.inr rfl)) (pgs_cons (pg_name (i := 4) nd rfl (.inl rfl)) (pgs_cons (pg_name (i := 5) nd rfl (.inl rfl)) pgs_nil)))))))
      (pss_cons (ps_asg (pe_tup (pa_cons (pe_lc (own := [("_law_stack", 10)]) rfl nd (pi_list (pv 2)) (blkOk_by (N := N_lnext) (sc := defScope s_lnext) (by decide +kernel)) (fun _ _ _ _ _ => pg_name (i := 10) nd rfl (.inl rfl)) (fun _ _ _ _ _ => pts_nil)
            (fun _ _ _ _ _ => pe_callTy (T := "list") (r := rLof K) call_lof (by rfl) T.z_list (by decide +kernel) (pa_cons (pv 10) pa_nil)))
          (pa_cons (pe_callTy (T := "list") call_lof (by rfl) T.z_list (by decide +kernel) (pa_cons (pv 3) pa_nil)) pa_nil))) (pg_tup rfl (pgs_cons (pg_name (i := 2) nd rfl (.inr rfl)) (pgs_cons (pg_name (i := 3) nd rfl (.inr rfl)) pgs_nil))))
      (pss_cons (ps_setLc (i := 6) (own := [("_law_k", 8)]) rfl nd rfl rfl (sw_true rfl rfl rfl (by decide +kernel)) (pi_range1 (by rfl) T.z_range (pa_cons (pe_callB call_len_seq (by rfl) T.z_len PySem.boot_len (pa_cons (pv 4) pa_nil)) pa_nil)) (blkOk_by (N := N_lnext) (sc := defScope s_lnext) (by decide +kernel)) (fun _ _ _ _ _ => pg_name (i := 8) nd rfl (.inl rfl))
          (fun _ _ _ _ _ => pts_one (pt_cmpR (r := rEqD K) (op_eqD hr.units) (pe_ix (r := rIxL K) ix_list (pv 3) (pv 8) (fun _ _ => rfl)) (pe_op op_add (pv 1) pe_int) (nomark _)))
          (fun _ _ _ _ _ => pe_tup (pa_cons (pe_op op_add (pv 1) pe_int) (pa_cons (pv 8) (pa_cons (pe_ix (r := rIxL K) ix_list (pe_ix (r := rIxL K) ix_list (pv 2) (pv 8) (fun _ _ => rfl)) pe_int (fun _ _ => rfl)) pa_nil)))))
      (pss_cons (ps_for PassesOwn.never rfl (pi_list (pv 6)) (pg_tup rfl (pgs_cons (pg_name (i := 7) nd rfl (.inl rfl)) (pgs_cons (pg_name (i := 8) nd rfl (.inl rfl)) (pgs_cons (pg_name (i := 9) nd rfl (.inl rfl)) pgs_nil))))
        (pss_one (ps_asg (pe_tup (pa_cons (pe_slice sl_list (pe_ix ix_list (pv 2) (pv 8) (fun _ _ => rfl)) (po_some pe_int) po_none) (pa_cons pe_non pa_nil))) (pg_tup rfl (pgs_cons (pg_sub (pv 2) (pv 8) set_list) (pgs_cons (pg_sub (pv 3) (pv 8) set_list) pgs_nil))))))
      (pss_cons (ps_for PassesOwn.never rfl (pi_list (pv 6)) (pg_tup rfl (pgs_cons (pg_name (i := 7) nd rfl (.inl rfl)) (pgs_cons (pg_name (i := 8) nd rfl (.inl rfl)) (pgs_cons (pg_name (i := 9) nd rfl (.inl rfl)) pgs_nil))))
        (pss_one (ps_expr (pe_bm PySem.F.plainAttrs_list PySem.F.slot_list_append PySem.F.type_list_append mt_append (pe_ix ix_list (pv 2) (pe_op op_mod (pe_callTy call_int1 (by rfl) T.z_int (by decide +kernel) (pa_cons (pe_op op_add (pv 8) pe_int) pa_nil)) (pe_callB call_len_seq (by rfl) T.z_len PySem.boot_len (pa_cons (pv 4) pa_nil))) (fun _ _ => rfl)) (pa_cons (pv 9) pa_nil)))))
      (pss_one (ps_ret (pe_tup (pa_cons (pe_call (ok_bgn T) hr (by rfl) T.g_lbegun T.F_lbegun.kp T.b_lbegun .nil pass0 (pa_cons (pe_lst (pa_cons (pe_op op_add (pv 1) pe_int) (pa_cons (pv 2) (pa_cons (pv 3) (pa_cons (pv 4) (pa_cons (pv 5) pa_nil)))))) pa_nil)) (pa_cons (pv 6) pa_nil))))))))), ?_⟩
    obtain ⟨M, hM, hMu⟩ := G.max
    have RR := G.ring hM hMu
    have l2 := G.l2
    have l8 := G.l8
    have ls := G.ls
    have s12 : ∀ j, at' ss j ≤ 12 := fun j => (G.s0 _ (at_mem (by omega) j)).2
    refine ⟨_, rfl, m, _, rfl, .of hm, rfl, _, _, rfl, _, _, rfl, _, _, rfl, _, _, rfl, _, _, rfl, rfl, ?_⟩
    -- copies
    refine ⟨_, rfl, sl0, rfl, ⟨_, .of hsl0⟩, fun sl hsl => lc_list (xs := ha0.map V.ref) (fun i H' => Same H H' ∧ ∃ ha : List Addr, H' sl = some (.lst (ha.map V.ref)) ∧ ha.length = i ∧ ha.Nodup ∧ (∀ a ∈ ha, H a = none ∧ a ≠ sl) ∧ ∀ (j : Nat) (a : Addr), ha[j]? = some a → H' a = some (.lst ((Sv ds ss D j).map V.int)))
      ⟨same_upd hsl, [], upd_same, rfl, List.nodup_nil, fun a h => absurd h List.not_mem_nil, fun j a h => by simp at h⟩ (fun i H' _ p => .of (p.1 _ _ hsl0)) ?_ ?_⟩
    · rintro i x H1 hx ⟨s1, ha, g1, lha, dha, fha, oha⟩
      rw [List.getElem?_map] at hx
      cases ea : ha0[i]? with
      | none => rw [ea] at hx; cases hx
      | some a0 =>
        rw [ea] at hx
        cases hx
        refine ⟨rfl, lc_keep ?_⟩
        have hi : i < ds.length := by rw [← lha0]; exact (List.getElem?_eq_some_iff.mp ea).1
        refine ⟨_, rfl, a0, _, rfl, .inl (.of (s1 _ _ (hst0 i a0 ea))), fun L hL => ?_⟩
        have s2 := same_upd (o := .lst ((Sv ds ss D i).map V.int)) hL
        have nL : L ≠ sl := (ne_of_none g1 hL).symm
        refine ⟨_, s2 _ _ g1, by rw [List.length_map]; exact small1000 (by omega), fun x o h => ?_, ha ++ [L], by rw [upd_same, List.map_append]; rfl, by rw [List.length_append, lha]; rfl, nodup_snoc dha fun z => ?_, fun a h => ?_, fun j a h => ?_⟩
        · rw [upd_ne (ne_of_none h hsl)]
          exact s2 _ _ (s1 _ _ h)
        · obtain ⟨j, hj⟩ := List.getElem?_of_mem z
          have := oha j L hj
          rw [hL] at this
          cases this
        · rcases List.mem_append.mp h with h | h
          · exact fha a h
          · have := List.mem_singleton.mp h
            subst this
            exact ⟨same_none s1 hL, nL⟩
        · rcases get_snoc h with h | ⟨h1, rfl⟩
          · rw [upd_ne (fha a (List.mem_of_getElem? h)).2]
            exact s2 _ _ (oha j a h)
          · rw [upd_ne nL, upd_same, h1, lha]
    rintro H1 ⟨s1, ha, g1, lha, dha, fha, oha⟩
    rw [List.length_map, lha0] at lha
    refine ⟨_, rfl, el0, _, rfl, .inl (.of (s1 _ _ hel0)), fun el hel => ?_⟩
    have s2 := same_upd (o := .lst ((List.range ds.length).map (Ev ds ss D))) hel
    have g2 : (upd H1 el (.lst ((List.range ds.length).map (Ev ds ss D)))) el = some (.lst ((List.range ds.length).map (Ev ds ss D))) := upd_same
    have nse : sl ≠ el := ne_of_none g1 hel
    have hfe : ∀ a ∈ ha, a ≠ el := fun a h z => by
      obtain ⟨j, hj⟩ := List.getElem?_of_mem h
      have := oha j a hj
      rw [z, hel] at this
      cases this
    have fel := same_none s1 hel
    refine ⟨(by show 2 ≤ sizeLine; decide), fun t0 ht0 => ?_⟩
    have s3 := same_upd (o := .tup [.ref sl, .ref el]) ht0
    refine ⟨t0, _, rfl, .of upd_same, rfl, _, _, rfl, _, _, rfl, rfl, ?_⟩
    have sA : Same H (upd (upd H1 el (.lst ((List.range ds.length).map (Ev ds ss D)))) t0 (.tup [.ref sl, .ref el])) := (s1.trans s2).trans s3
    have gsl := s3 _ _ (s2 _ _ g1)
    have gel := s3 _ _ g2
    have gst : ∀ (j : Nat) (a : Addr), ha[j]? = some a → (upd (upd H1 el (.lst ((List.range ds.length).map (Ev ds ss D)))) t0 (.tup [.ref sl, .ref el])) a = some (.lst ((Sv ds ss D j).map V.int)) := fun j a h => s3 _ _ (s2 _ _ (oha j a h))
    show tSeq _ _ _ [some (.ref m), some (.int D), some (.ref sl), some (.ref el), some (.ref td), some (.int ss.sum), none, none, none, none, none] (upd (upd H1 el (.lst ((List.range ds.length).map (Ev ds ss D)))) t0 (.tup [.ref sl, .ref el]))
    generalize (upd (upd H1 el (.lst ((List.range ds.length).map (Ev ds ss D)))) t0 (.tup [.ref sl, .ref el])) = H2 at sA gsl gel gst
    -- who ends
    refine ⟨_, rfl, td, _, rfl, .inr (.of (sA _ _ htd)), _, rfl, by rw [List.length_map]; omega, by rw [List.length_map]; omega, fun le hle => ?_⟩
    rw [List.length_map]
    have fle := same_none sA hle
    refine lc_range (lo := 0) (n := ((ds.length : Nat) : Int).toNat) (fun i H' => Same H2 H' ∧ ∃ xs, H' le = some (.lst xs) ∧ Tups H' xs ((Kx ds ss D i).map (rec ds ss D)) ∧ xs.length ≤ i) ⟨same_upd hle, [], upd_same, .nil, Nat.le_refl _⟩ ?_ ?_
    · rintro i H3 hi ⟨s4, xs, gle, Tp, lx⟩
      have hi' : i < ds.length := by omega
      have ei : (0 : Int) + (i : Int) = i := by omega
      refine ⟨rfl, ?_⟩
      show tTest _ [some (.ref m), some (.int D), some (.ref sl), some (.ref el), some (.ref td), some (.int ss.sum), none, none, some (.int (0 + (i : Int))), none, none] H3 _
      rw [ei]
      have hat := at_rg (f := Ev ds ss D) hi'
      obtain ⟨a, ga⟩ : ∃ a, ha[i]? = some a := ⟨_, List.getElem?_eq_getElem (by rw [lha]; exact hi')⟩
      have hatA : atI (ha.map V.ref) (i : Int) = some (.ref a) := atI_nat (by rw [List.getElem?_map, ga]; rfl)
      refine ⟨_, rfl, _, rfl, el, _, _, _, rfl, rfl, .of (s4 _ _ gel), hat, _, rfl, _, _, rfl, rfl, ?_⟩
      have ek : Ev ds ss D i = .non ∨ ∃ z, Ev ds ss D i = .int z := by
        unfold Ev
        split
        · exact .inl rfl
        · exact .inr ⟨_, rfl⟩
      by_cases hk : Kd ds ss D i = true
      · obtain ⟨c1, c2, c3, c4⟩ := ends_now RR hi' d0 hk
        rw [c2]
        refine ⟨.int (D + 1), .int (D + 1), .int _, .int _, rfl, rfl, _, rfl, ?_⟩
        rw [eqv_int, decide_eq_true rfl]
        refine iteT ?_
        have gx := s4 _ _ (gst i a ga)
        rw [c3] at gx
        refine ⟨_, rfl, _, _, rfl, rfl, _, rfl, _, rfl, _, rfl, sl, _, _, _, rfl, rfl, .of (s4 _ _ gsl), hatA, a, _, 0, _, rfl, rfl, .of gx, atI_nat (j := 0) rfl, (by show 3 ≤ sizeLine; decide), fun t ht => ?_⟩
        have s5 := same_upd (o := .tup [.int (D + 1), .int i, .int (bk ss i (Cn (at' ds) (at' ss) i D))]) ht
        have nt : t ≠ le := (ne_of_none gle ht).symm
        refine ⟨xs, s5 _ _ gle, small1000 (by omega), fun x o h => ?_, xs ++ [.ref t], upd_same, ?_, by rw [List.length_append]; show xs.length + 1 ≤ _; omega⟩
        · rw [upd_ne (ne_of_none h hle)]
          exact s5 _ _ (s4 _ _ h)
        · rw [kx_succ, if_pos hk, List.map_append]
          refine Tups.snoc ⟨t, rfl, by rw [upd_ne nt, upd_same]; rfl⟩ (Tp.mono fun b ys h => ?_)
          rw [upd_ne (ne_of h gle (by intro z; cases z))]
          exact s5 _ _ h
      · obtain ⟨c1, c2, c3⟩ := ends_not RR d0 hk
        have stay : Same H2 H3 ∧ ∃ xs, H3 le = some (.lst xs) ∧ Tups H3 xs ((Kx ds ss D (i + 1)).map (rec ds ss D)) ∧ xs.length ≤ i + 1 := ⟨s4, xs, gle, by rw [kx_succ, if_neg hk]; exact Tp, by omega⟩
        rcases ek with e | ⟨z, e⟩
        · rw [e]
          exact ⟨.none, .int (D + 1), .non, .int _, rfl, rfl, _, rfl, iteF stay⟩
        · rw [e] at c2 ⊢
          refine ⟨.int z, .int (D + 1), .int _, .int _, rfl, rfl, _, rfl, ?_⟩
          rw [eqv_int, decide_eq_false (fun y => c2 (by rw [y]))]
          exact iteF stay
    rintro H3 ⟨s4, xs, gle, Tp, lx⟩
    rw [show ((ds.length : Nat) : Int).toNat = ds.length by omega] at Tp lx
    have lks : xs.length = (Kx ds ss D ds.length).length := by rw [Tp.length, List.length_map]
    have kn := kx_nodup (ds := ds) (ss := ss) (D := D) (n := ds.length)
    have km : ∀ {k}, k ∈ Kx ds ss D ds.length ↔ k < ds.length ∧ Kd ds ss D k = true := kx_mem
    have eKe : Ke ds ss D = (Kx ds ss D ds.length).map (rec ds ss D) := rfl
    rw [← eKe] at Tp
    have sB : Same H H3 := sA.trans s4
    have gsl3 := s4 _ _ gsl
    have gel3 := s4 _ _ gel
    have gst3 : ∀ (j : Nat) (a : Addr), ha[j]? = some a → H3 a = some (.lst ((Sv ds ss D j).map V.int)) := fun j a h => s4 _ _ (gst j a h)
    have nls : le ≠ sl := (ne_of_none gsl hle).symm
    have nle : le ≠ el := (ne_of_none gel hle).symm
    have nla : ∀ a ∈ ha, a ≠ le := fun a h z => by
      obtain ⟨j, hj⟩ := List.getElem?_of_mem h
      have := gst j a hj
      rw [z, hle] at this
      cases this
    obtain ⟨ks, hks⟩ : ∃ ks, ks = Kx ds ss D ds.length := ⟨_, rfl⟩
    rw [← hks] at kn km lks eKe
    have rec_at : ∀ {H' : Hp} {n : Nat} {k : Nat}, Tups H' xs (Ke ds ss D) → ks[n]? = some k → ∃ t, xs[n]? = some (.ref t) ∧ H' t = some (.tup [.int (D + 1), .int k, .int (bk ss k (Cn (at' ds) (at' ss) k D))]) := fun {H' n k} h e => by
      obtain ⟨t, h1, h2⟩ := h.get (i := n) (l := rec ds ss D k) (by rw [eKe, List.getElem?_map, e]; rfl)
      exact ⟨t, h1, h2⟩
    -- the books that end are taken away
    show tSeq _ _ _ [some (.ref m), some (.int D), some (.ref sl), some (.ref el), some (.ref td), some (.int ss.sum), some (.ref le), none, none, none, none] H3
    refine ⟨_, rfl, le, rfl, ⟨_, .of gle⟩, for_list (K := K) (a := le) (xs := xs) (fun n σ H' => (∃ z7 z8 z9, σ = [some (.ref m), some (.int D), some (.ref sl), some (.ref el), some (.ref td), some (.int ss.sum), some (.ref le), z7, z8, z9, none]) ∧ Same H H' ∧ H' le = some (.lst xs) ∧ Tups H' xs (Ke ds ss D) ∧
      H' el = some (.lst ((List.range ds.length).map fun j => if j ∈ ks.take n then .non else Ev ds ss D j)) ∧ ∃ ha : List Addr, H' sl = some (.lst (ha.map V.ref)) ∧ ha.length = ds.length ∧ ha.Nodup ∧ (∀ a ∈ ha, H a = none ∧ a ≠ sl ∧ a ≠ el ∧ a ≠ le) ∧
        ∀ (j : Nat) (a : Addr), ha[j]? = some a → H' a = some (.lst ((bseg ss j (if j ∈ ks.take n then Cn (at' ds) (at' ss) j D + 1 else Cn (at' ds) (at' ss) j D) (at' ss j + Cn (at' ds) (at' ss) (prv ds.length j : Nat) D)).map V.int)))
      ⟨⟨_, _, _, rfl⟩, sB, gle, Tp, ?_, ha, gsl3, lha, dha, fun a h => ⟨(fha a h).1, (fha a h).2, hfe a h, nla a h⟩, fun j a h => ?_⟩ (fun i σ H' _ p => .of p.2.2.1) ?_ ?_⟩
    · rw [gel3]
      simp
    · rw [gst3 j a h]
      simp [Sv]
    · rintro n x σ H4 hx ⟨⟨z7, z8, z9, rfl⟩, s5, gl4, T4, ge4, ha, gs4, lha, dha, fha, oha⟩
      have hn : n < xs.length := (List.getElem?_eq_some_iff.mp hx).1
      obtain ⟨k, hk⟩ : ∃ k, ks[n]? = some k := ⟨_, List.getElem?_eq_getElem (by omega)⟩
      obtain ⟨t, a1, a2⟩ := rec_at T4 hk
      rw [a1] at hx
      cases hx
      obtain ⟨kN, kE⟩ := km.mp (List.mem_of_getElem? hk)
      have hnot := take_mem kn hk
      obtain ⟨c1, c2, c3, c4⟩ := ends_now RR kN d0 kE
      obtain ⟨a, ga⟩ : ∃ a, ha[k]? = some a := ⟨_, List.getElem?_eq_getElem (by rw [lha]; exact kN)⟩
      have am := List.mem_of_getElem? ga
      have gx := oha k a ga
      rw [if_neg hnot] at gx
      have hlt : Cn (at' ds) (at' ss) k D < at' ss k + Cn (at' ds) (at' ss) (prv ds.length k : Nat) D := by
        have e := congrArg List.length c3
        unfold Sv at e
        rw [bseg_length, List.length_cons] at e
        omega
      rw [bseg_cons hlt] at gx
      have hatA : atI (ha.map V.ref) (k : Int) = some (.ref a) := atI_nat (by rw [List.getElem?_map, ga]; rfl)
      refine ⟨t, _, rfl, .of a2, rfl, _, _, rfl, _, _, rfl, _, _, rfl, rfl, ?_⟩
      show tAsg _ _ _ [some (.ref m), some (.int D), some (.ref sl), some (.ref el), some (.ref td), some (.int ss.sum), some (.ref le), some (.int (D + 1)), some (.int k), some (.int (bk ss k (Cn (at' ds) (at' ss) k D))), none] H4
      refine ⟨_, rfl, _, rfl, sl, _, _, _, rfl, rfl, .of gs4, hatA, 1, rfl, a, _, rfl, .of gx, fun p hp => ?_⟩
      rw [List.map_cons, cut_tail]
      have s6 := same_upd (o := .lst ((bseg ss k (Cn (at' ds) (at' ss) k D + 1) (at' ss k + Cn (at' ds) (at' ss) (prv ds.length k : Nat) D)).map V.int)) hp
      have g6 : (upd H4 p (.lst ((bseg ss k (Cn (at' ds) (at' ss) k D + 1) (at' ss k + Cn (at' ds) (at' ss) (prv ds.length k : Nat) D)).map V.int))) p = some (.lst ((bseg ss k (Cn (at' ds) (at' ss) k D + 1) (at' ss k + Cn (at' ds) (at' ss) (prv ds.length k : Nat) D)).map V.int)) := upd_same
      have np : ∀ {x o}, H4 x = some o → x ≠ p := fun h => ne_of_none h hp
      generalize (upd H4 p (.lst ((bseg ss k (Cn (at' ds) (at' ss) k D + 1) (at' ss k + Cn (at' ds) (at' ss) (prv ds.length k : Nat) D)).map V.int))) = H5 at s6 g6
      refine ⟨(by show 2 ≤ sizeLine; decide), fun t2 ht2 => ?_⟩
      have s7 := same_upd (o := .tup [.ref p, .non]) ht2
      have g7 : (upd H5 t2 (.tup [.ref p, .non])) t2 = some (.tup [.ref p, .non]) := upd_same
      generalize (upd H5 t2 (.tup [.ref p, .non])) = H6 at s7 g7
      have s46 : Same H4 H6 := s6.trans s7
      refine ⟨t2, _, rfl, .of g7, rfl, _, _, rfl, ?_⟩
      refine ⟨_, rfl, _, rfl, sl, _, _, k, rfl, rfl, s46 _ _ gs4, ixN_nat (by rw [List.length_map]; omega), ?_⟩
      have nes : el ≠ sl := Ne.symm nse
      refine ⟨_, _, rfl, ?_⟩
      refine ⟨_, rfl, _, rfl, el, _, _, k, rfl, rfl, (upd_ne nes).trans (s46 _ _ ge4), ixN_nat (by rw [List.length_map, List.length_range]; omega), rfl, ?_⟩
      have kk : ∀ {x o}, H6 x = some o → x ≠ sl → x ≠ el → (upd (upd H6 sl (.lst ((ha.map V.ref).set k (.ref p)))) el (.lst (((List.range ds.length).map fun j => if j ∈ ks.take n then V.non else Ev ds ss D j).set k .non))) x = some o := fun h n1 n2 => by
        rw [upd_ne n2, upd_ne n1]
        exact h
      have fp : H p = none := same_none s5 hp
      refine ⟨⟨_, _, _, rfl⟩, fun x o h => kk (s46 _ _ (s5 _ _ h)) (ne_of_none h hsl) (ne_of_none h fel), kk (s46 _ _ gl4) nls nle, T4.mono fun b ys h => kk (s46 _ _ h) (ne_of h gs4 (by intro z; cases z)) (ne_of h ge4 (by intro z; cases z)), ?_, ha.set k p, ?_, by rw [List.length_set]; exact lha, ?_, fun b hb => ?_, fun j b hj => ?_⟩
      · rw [upd_same, rg_set kN]
        refine congrArg (fun f => some (HO.lst ((List.range ds.length).map f))) (funext fun j => ?_)
        by_cases e1 : j = k
        · subst e1
          rw [if_pos rfl, if_pos ((take_suc hk).mpr (.inr rfl))]
        · by_cases e2 : j ∈ ks.take n
          · rw [if_neg e1, if_pos e2, if_pos ((take_suc hk).mpr (.inl e2))]
          · rw [if_neg e1, if_neg e2, if_neg (fun z => ((take_suc hk).mp z).elim e2 e1)]
      · rw [upd_ne nse, upd_same, List.map_set]
      · exact nodup_set dha fun z => by
          obtain ⟨j, hj⟩ := List.getElem?_of_mem z
          exact np (oha j p hj) rfl
      · rcases List.mem_or_eq_of_mem_set hb with hb | rfl
        · exact fha b hb
        · exact ⟨fp, (np gs4).symm, (np ge4).symm, (np gl4).symm⟩
      · have hjN : j < ds.length := by
          have := (List.getElem?_eq_some_iff.mp hj).1
          rw [List.length_set] at this
          omega
        by_cases e1 : j = k
        · subst e1
          rw [List.getElem?_set_self (by omega)] at hj
          cases hj
          rw [if_pos ((take_suc hk).mpr (.inr rfl))]
          exact kk (s7 _ _ g6) (np gs4).symm (np ge4).symm
        · rw [List.getElem?_set_ne (Ne.symm e1)] at hj
          have fb := fha b (List.mem_of_getElem? hj)
          have ob := kk (s46 _ _ (oha j b hj)) fb.2.1 fb.2.2.1
          by_cases e2 : j ∈ ks.take n
          · rw [if_pos e2] at ob
            rw [if_pos ((take_suc hk).mpr (.inl e2))]
            exact ob
          · rw [if_neg e2] at ob
            rw [if_neg (fun z => ((take_suc hk).mp z).elim e2 e1)]
            exact ob
    rintro σ H4 ⟨⟨z7, z8, z9, rfl⟩, s5, gl4, T4, ge4, ha, gs4, lha, dha, fha, oha⟩
    rw [lks, List.take_length] at ge4 oha
    have cnow : ∀ j, j < ds.length → (if j ∈ ks then Cn (at' ds) (at' ss) j D + 1 else Cn (at' ds) (at' ss) j D) = Cn (at' ds) (at' ss) j (D + 1) := fun j hj => by
      by_cases e : j ∈ ks
      · rw [if_pos e, (ends_now RR hj d0 (km.mp e).2).1]
      · rw [if_neg e, (ends_not RR d0 (fun z => e (km.mpr ⟨hj, z⟩))).1]
    have efv : ((List.range ds.length).map fun j => if j ∈ ks then .non else Ev ds ss D j) = (List.range ds.length).map (Fv ds ss (D + 1)) := by
      refine List.map_congr_left fun j hj => ?_
      have hj := List.mem_range.mp hj
      by_cases e : j ∈ ks
      · rw [if_pos e, (ends_now RR hj d0 (km.mp e).2).2.2.2]
      · rw [if_neg e, (ends_not RR d0 (fun z => e (km.mpr ⟨hj, z⟩))).2.2]
    rw [efv] at ge4
    -- they come to the next readers
    refine ⟨_, rfl, le, rfl, ⟨_, .of gl4⟩, for_list (K := K) (a := le) (xs := xs) (fun n σ H' => (∃ z7 z8 z9, σ = [some (.ref m), some (.int D), some (.ref sl), some (.ref el), some (.ref td), some (.int ss.sum), some (.ref le), z7, z8, z9, none]) ∧ Same H H' ∧ H' le = some (.lst xs) ∧ Tups H' xs (Ke ds ss D) ∧
      H' el = some (.lst ((List.range ds.length).map (Fv ds ss (D + 1)))) ∧ H' sl = some (.lst (ha.map V.ref)) ∧
        ∀ (j : Nat) (a : Addr), ha[j]? = some a → H' a = some (.lst ((bseg ss j (Cn (at' ds) (at' ss) j (D + 1)) (at' ss j + (if prv ds.length j ∈ ks.take n then Cn (at' ds) (at' ss) (prv ds.length j : Nat) D + 1 else Cn (at' ds) (at' ss) (prv ds.length j : Nat) D))).map V.int)))
      ⟨⟨_, _, _, rfl⟩, s5, gl4, T4, ge4, gs4, fun j a h => ?_⟩ (fun i σ H' _ p => .of p.2.2.1) ?_ ?_⟩
    · have hj : j < ds.length := by rw [← lha]; exact (List.getElem?_eq_some_iff.mp h).1
      rw [oha j a h, cnow j hj]
      simp
    · rintro n x σ H5 hx ⟨⟨z7, z8, z9, rfl⟩, s6, gl5, T5, ge5, gs5, oh5⟩
      have hn : n < xs.length := (List.getElem?_eq_some_iff.mp hx).1
      obtain ⟨k, hk⟩ : ∃ k, ks[n]? = some k := ⟨_, List.getElem?_eq_getElem (by omega)⟩
      obtain ⟨t, a1, a2⟩ := rec_at T5 hk
      rw [a1] at hx
      cases hx
      obtain ⟨kN, kE⟩ := km.mp (List.mem_of_getElem? hk)
      have hnot := take_mem kn hk
      have xN := nx_lt kN
      obtain ⟨a, ga⟩ : ∃ a, ha[Rp.nx ds.length k]? = some a := ⟨_, List.getElem?_eq_getElem (by rw [lha]; exact xN)⟩
      have am := List.mem_of_getElem? ga
      have gx := oh5 _ a ga
      rw [prv_nx kN, if_neg hnot] at gx
      have hatA : atI (ha.map V.ref) (((k : Int) + 1) % (ds.length : Int)) = some (.ref a) := by
        rw [nx_mod kN]
        exact atI_nat (by rw [List.getElem?_map, ga]; rfl)
      have htd5 := s6 _ _ htd
      refine ⟨t, _, rfl, .of a2, rfl, _, _, rfl, _, _, rfl, _, _, rfl, rfl, ?_⟩
      show tDrop _ _ [some (.ref m), some (.int D), some (.ref sl), some (.ref el), some (.ref td), some (.int ss.sum), some (.ref le), some (.int (D + 1)), some (.int k), some (.int (bk ss k (Cn (at' ds) (at' ss) k D))), none] H5
      have q1 := s12 (Rp.nx ds.length k : Nat)
      have q2 := cn_le RR (j := (k : Nat)) d0
      have q3 := (RR.cn (Rp.nx ds.length k : Nat) (D + 1)).1
      have hle2 : Cn (at' ds) (at' ss) (Rp.nx ds.length k : Nat) (D + 1) ≤ at' ss (Rp.nx ds.length k : Nat) + Cn (at' ds) (at' ss) k D := by
        have h1 := cnow _ xN
        have h2 := cn_mono RR ((Rp.nx ds.length k : Nat) : Int) (show D + 1 ≤ D + at' ds (Rp.nx ds.length k : Nat) by have := RR.d1 ((Rp.nx ds.length k : Nat) : Int); omega)
        have h3 := cn_cap RR ((Rp.nx ds.length k : Nat) : Int) D
        rw [← Cn_prv RR xN, prv_nx kN] at h3
        omega
      refine ⟨_, rfl, _, rfl, _, _, rfl, rfl, .inl ⟨_, rfl, _, rfl, td, _, rfl, .inr (.of htd5), _, _, rfl, rfl, by rw [List.length_map]; show (0 : Int) < ((ds.length : Nat) : Int); omega, ?_⟩⟩
      rw [List.length_map]
      refine ⟨sl, _, _, _, rfl, rfl, .of gs5, hatA, .inl ⟨rfl, _, SqL.of gx⟩, _, rfl, a, _, _, rfl, rfl, gx, ?_, ?_⟩
      · rw [List.length_map, bseg_length, sizeLine_eq]
        omega
      · have fa := fha a am
        refine ⟨⟨_, _, _, rfl⟩, fun x o h => by rw [upd_ne (ne_of_none h fa.1)]; exact s6 _ _ h, by rw [upd_ne fa.2.2.2.symm]; exact gl5, T5.mono fun b ys h => by rw [upd_ne (ne_of h gx (by intro z; cases z))]; exact h, by rw [upd_ne fa.2.2.1.symm]; exact ge5, by rw [upd_ne fa.2.1.symm]; exact gs5, fun j b hj => ?_⟩
        have hjN : j < ds.length := by rw [← lha]; exact (List.getElem?_eq_some_iff.mp hj).1
        by_cases e1 : j = Rp.nx ds.length k
        · subst e1
          rw [ga] at hj
          cases hj
          rw [upd_same, prv_nx kN, if_pos ((take_suc hk).mpr (.inr rfl)), show at' ss (Rp.nx ds.length k : Nat) + (Cn (at' ds) (at' ss) k D + 1) = at' ss (Rp.nx ds.length k : Nat) + Cn (at' ds) (at' ss) k D + 1 by omega, bseg_snoc hle2, bk_comes RR ls kN (RR.cn k D).1, List.map_append]
          rfl
        · have hb : b ≠ a := fun z => by
            subst z
            exact e1 (nd_ix dha hj ga)
          have hp : prv ds.length j ≠ k := fun z => e1 (prv_inj hjN kN z)
          rw [upd_ne hb, oh5 j b hj]
          by_cases e2 : prv ds.length j ∈ ks.take n
          · rw [if_pos e2, if_pos ((take_suc hk).mpr (.inl e2))]
          · rw [if_neg e2, if_neg (fun z => ((take_suc hk).mp z).elim e2 hp)]
    rintro σ H5 ⟨⟨z7, z8, z9, rfl⟩, s6, gl5, T5, ge5, gs5, oh5⟩
    rw [lks, List.take_length] at oh5
    have htd5 := s6 _ _ htd
    refine ⟨_, rfl, _, _, rfl, rfl, _, rfl, _, rfl, _, rfl, _, rfl, (by show 5 ≤ sizeLine; decide), fun m1 hm1 => ?_⟩
    have s7 := same_upd (o := .lst [.int (D + 1), .ref sl, .ref el, .ref td, .int ss.sum]) hm1
    refine ⟨m1, sl, el, td, ha, ds, ss, D + 1, rfl, ⟨upd_same, s7 _ _ gs5, lha, s7 _ _ ge5, s7 _ _ htd5, fun j a h => ?_⟩, G, by omega, fun H8 m2 el2 s8 M8 f1 f2 => ?_⟩
    · have hj : j < ds.length := by rw [← lha]; exact (List.getElem?_eq_some_iff.mp h).1
      rw [s7 _ _ (oh5 j a h), cnow _ (prv_lt hj)]
      rfl
    · refine ⟨_, rfl, (by show 2 ≤ sizeLine; decide), fun t ht => ?_⟩
      have s9 := same_upd (o := .tup [.ref m2, .ref le]) ht
      have s59 := (s7.trans s8).trans s9
      exact q _ t m2 le xs sl el2 ha (s6.trans s59) upd_same (M8.same s9) (same_none (s6.trans s7) f1) hsl (same_none (s6.trans s7) f2) (fun a h => (fha a h).1) (s59 _ _ gl5) fle (T5.mono fun b ys h => s59 _ _ h)
end
end Rp
/-! Kept lambdas, with and without a default value. -/
namespace Rp
open PySem PySem.Spec PyProof.Rows L2 Rl LamX
def lpA : Expr → Arguments
  | .Lambda p _ _ _ => p
  | _ => ⟨[], [], none, [], [], none, []⟩
def lpB : Expr → Expr
  | .Lambda _ b _ _ => b
  | e => e
def lpS : Expr → Scope
  | .Lambda _ _ s _ => s
  | _ => ⟨.function, [], false, false, []⟩
def dfV : Option Addr → Value
  | none => .none
  | some t => .ref t
def mkF (q : Str) (cells : List (Str × Addr)) (e : Expr) (t : Option Addr) (c : Addr) : LF := ⟨q, lpA e, lpB e, lpS e, cloFrom cells (lpS e).names [], dfV t, c⟩
/-- without parameters -/
def Bd0 (e : Expr) : Prop := ∀ (q : Str) (cl : List (Str × Addr)) (c doc pm ctv : Value) (sZ : Shared), BindsTo sZ (PySem.W.kdv_fn "<lambda>" q (lpA e) (.expr (lpB e)) (lpS e) cl .none doc pm c ctv) ⟨[], []⟩ []
/-- one parameter with a default value -/
def Bd1 (e : Expr) : Prop := ∃ x : Str, (lpS e).names.lookup x = some .local ∧ ∀ (q : Str) (cl : List (Str × Addr)) (t : Addr) (c doc pm ctv : Value) (sZ : Shared) (o : Obj) (v : Value) (n : Nat), sZ.heap.get? t = some o → o.data = .seq #[v] n →
  BindsTo sZ (PySem.W.kdv_fn "<lambda>" q (lpA e) (.expr (lpB e)) (lpS e) cl (.ref t) doc pm c ctv) ⟨[], []⟩ [(x, v)]
def GD (e : Expr) (t : Option Addr) (H : Hp) : Prop := match t with
  | none => Bd0 e
  | some t => Bd1 e ∧ H t = some (.tup [.int 0])
/-- f is the lambda e, kept -/
def KLat (q : Str) (cells : List (Str × Addr)) (H : Hp) (e : Expr) (f : Addr) : Prop := ∃ (t : Option Addr) (c : Addr), H f = some (LamO f (mkF q cells e t c)) ∧ H c = some (CodeO c q) ∧ GD e t H
theorem KLat.extN {q : Str} {cells : List (Str × Addr)} {H H' : Hp} {e : Expr} {f : Addr} (k : KLat q cells H e f) (x : ExtN H H') : KLat q cells H' e f := by
  obtain ⟨t, c, h1, h2, h3⟩ := k
  refine ⟨t, c, x _ _ h1 (lamO_ne), x _ _ h2 codeO_ne, ?_⟩
  cases t with
  | none => exact h3
  | some t => exact ⟨h3.1, x _ _ h3.2 (by intro ps z; cases z)⟩
section
variable {X : Cx}
def lFam (X : Cx) (le : Nat → Expr) : Nat × Option Addr × Addr → LF := fun i => mkF (X.env.qual ++ "<lambda>") X.env.cells (le i.1) i.2.1 i.2.2
theorem fam_ok {le : Nat → Expr} (hl : ∀ j, LamP X.N X.env.scope (lpS (le j))) : Fam X (Nat × Option Addr × Addr) (lFam X le) (fun i H => GD (le i.1) i.2.1 H) where
  nm := fun i => hl i.1
  cl := fun _ => rfl
  q := fun _ => rfl
  bind := fun ⟨j, t, c⟩ doc pm ctv sZ HZ hok hg => by
    cases t with
    | none => exact ⟨[], hg _ _ _ _ _ _ _, fun y hy => by cases hy⟩
    | some t =>
      obtain ⟨⟨x, hx, hb⟩, ht⟩ := hg
      obtain ⟨_, its, rv, o, ho, _, n, hd⟩ := hok t _ ht
      cases rv with
      | cons r1 r2 =>
        rename_i v vs
        cases r2
        exact ⟨[(x, v)], hb _ _ _ _ _ _ _ _ _ _ _ ho hd, fun y hy => by
          obtain rfl := List.mem_singleton.mp hy
          exact hx⟩
end
end Rp
/-! xs.count(y) of flat items; what a suite that knows the class of its error wants. -/
namespace Rt
open PySem PySem.Spec PyProof.Rows L2
section
variable {X : Cx}
def rCntV (K : PySem.W.Frag) : V → List V → Hp → VK → Prop := fun x xs H Q => ∃ (p : Addr) (ys : List V) (y : V), x = .ref p ∧ xs = [y] ∧ SqL K H p ys ∧ flatV y = true ∧ ys.all flatV = true ∧ Q (.int (ys.countP (fun z => eqV z y) : Nat)) H
theorem cntV_eq {y : V} : ∀ {ys : List V} {its : List Value}, Vals ys its → ys.all flatV = true → its.countP (eqU y) = ys.countP (fun z => eqV z y)
  | [], _, .nil, _ => rfl
  | z :: ys, _, .cons r rr, f => by
    simp only [List.all_cons, Bool.and_eq_true] at f
    rw [List.countP_cons, List.countP_cons, cntV_eq rr f.2, eqU_of r f.1]
theorem mt_countV : MtR X "list.count" (rCntV X.K) := by
  intro pins s σ H x xs v us Q I rx rxs h
  obtain ⟨p, ys, y, rfl, rfl, hs, fy, fys, q⟩ := h
  cases rx
  cases rxs with
  | cons ry rt =>
    rename_i uy ut
    cases rt
    obtain ⟨its, rv, ⟨⟨cls, dd, data, sl⟩, n, ho, hc, hdn, hd⟩, hlen⟩ := I.list hs
    simp only at hc hd
    subst hc hd
    refine call_meets PySem.F.slot_list_count ⟨_, ho, rfl⟩ PySem.F.entry_list_count (PySem.F.args_list_count_2 _ _)
      (SeqAt.list_countAt p its.toArray n dd sl uy (eqU y)) ⟨ho, fun u' hu' => mem_eqAt ry fy rv fys u' (by simpa using hu'), ?_⟩
    have ec : its.toArray.toList.countP (eqU y) = ys.countP (fun z => eqV z y) := cntV_eq rv fys
    rw [ec]
    exact ⟨.int _, H, I.kept (t' := s.toks + 1) fun _ _ z => z, ⟨_, rfl⟩, q⟩
/-- the classes that the suite asks for -/
structure RdS (K : PySem.W.Frag) (mg : Str → Option Value) where
  k0 : Addr
  k1 : Addr
  k2 : Addr
  k3 : Addr
  k4 : Addr
  k5 : Addr
  k6 : Addr
  k7 : Addr
  k8 : Addr
  k9 : Addr
  k10 : Addr
  cE : Addr
  g0 : mg "InvalidOperation" = some (.ref k0)
  g1 : mg "InvalidRing" = some (.ref k1)
  g2 : mg "DecodeError" = some (.ref k2)
  g3 : mg "NotationError" = some (.ref k3)
  g4 : mg "BeingRead" = some (.ref k4)
  g5 : mg "DiaryError" = some (.ref k5)
  g6 : mg "InvalidNumber" = some (.ref k6)
  g7 : mg "UnknownReader" = some (.ref k7)
  g8 : mg "UnknownBook" = some (.ref k8)
  g9 : mg "Contradiction" = some (.ref k9)
  g10 : mg "InvalidCount" = some (.ref k10)
  gE : mg "ReadingError" = some (.ref cE)
  zV : mg "ValueError" = none
  zI : mg "isinstance" = none
/-- the class at D is the j-th of them, without fields -/
structure RdR {K : PySem.W.Frag} {mg : Str → Option Value} (S : RdS K mg) (D : Addr) (j : Nat) : Prop where
  lo : 6 ≤ j
  hi : j ≤ 10
  ex : ExcC K D
  ee : PySem.W.exmOne K (.ref D) (.ref S.cE) = some true
  q0 : PySem.W.kitOne K (.ref D) (.ref S.k0) = some (decide (j = 0))
  q1 : PySem.W.kitOne K (.ref D) (.ref S.k1) = some (decide (j = 1))
  q2 : PySem.W.kitOne K (.ref D) (.ref S.k2) = some (decide (j = 2))
  q3 : PySem.W.kitOne K (.ref D) (.ref S.k3) = some (decide (j = 3))
  q4 : PySem.W.kitOne K (.ref D) (.ref S.k4) = some (decide (j = 4))
  q5 : PySem.W.kitOne K (.ref D) (.ref S.k5) = some (decide (j = 5))
  q6 : PySem.W.kitOne K (.ref D) (.ref S.k6) = some (decide (j = 6))
  q7 : PySem.W.kitOne K (.ref D) (.ref S.k7) = some (decide (j = 7))
  q8 : PySem.W.kitOne K (.ref D) (.ref S.k8) = some (decide (j = 8))
  q9 : PySem.W.kitOne K (.ref D) (.ref S.k9) = some (decide (j = 9))
  q10 : PySem.W.kitOne K (.ref D) (.ref S.k10) = some (decide (j = 10))
  qv : PySem.W.kitOne K (.ref D) (.type "ValueError") = some true
def rdNm (j : Nat) : Str := (["number", "reader", "nobook", "contradiction", "count"] : List Str).getD (j - 6) ""
/-- a def whose code object is known -/
structure FunC (K : PySem.W.Frag) (x qual : Str) (st : Stmt) (f : Addr) (fd : FuncData) (cd : Value) : Prop where
  ex : ∃ (oc : Value) (od : Option Addr) (kV doc pm : Value) (an : Option Addr) (ct : Value) (osl : Array (Option Value)),
    fd = PySem.W.fnOf x qual (defArgs st) (defBody st) (defScope st) .none kV doc pm an cd ct ∧ K.lookup f = some ⟨oc, od, .func fd, osl⟩ ∧ PySem.W.codeIn K cd qual = true
theorem FunC.ok {P : Program} {w : World} {K : PySem.W.Frag} {mg : Str → Option Value} {base : Heap} {x qual : Str} {st : Stmt} {f : Addr} {fd : FuncData} {cd : Value} {N ps : List Str} {k : Nat} {sp : Sp} (F : FunC K x qual st f fd cd) (S : FnScope N ps (defScope st)) (len : ∀ vs H Q E, sp vs H Q E → vs.length = ps.length)
    (hbody : ∀ (A : Around) (outer : List Env) (s : Shared) (H : Hp) (vs : List V) (Q : VK) (E : XK), Room k (A.deeper (envOfC qual (defScope st) s.heap.objs.size f cd)) → sp vs H Q E →
      ∃ t, PSs (cxOf CX0 P w K mg base N qual (defScope st) f cd A outer s H E).nox (defBody st) t ∧ t { nx := fun _ H' => Q .non H', rt := Q } (start N vs) H) : FnOk P w K mg base CX0 (k + 1) f fd ps sp := by
  obtain ⟨oc, od, kV, doc, pm, an, ct, osl, rfl, lk, hcd⟩ := F.ex
  refine fn_of lk hcd S len fun A outer s H vs Q E hr hsp => ?_
  obtain ⟨t, h, q⟩ := hbody A outer s H vs Q E hr hsp
  exact ⟨t, h.nox, q⟩
end
end Rt
/-! _law_raised: a kept lambda is called, the word for its error. -/
namespace Rp
open PySem PySem.Spec PyProof.Rows L2 Rz Rm Rt Rl LamX
/-- the word for it -/
def RsTold (j : Nat) (Q : VK) (H1 : Hp) : Prop := ∀ (p : Addr) (H' : Hp), (∀ b o, H1 b = some o → H' b = some o) → H1 p = none → H' p = some (.tup [.str (rdNm j)]) → Q (.ref p) H'
section
variable {X : Cx} {g f : Addr} {cdg : Value} {s : Shared} {H : Hp} {K : PySem.W.Frag} {mg : Str → Option Value}
abbrev rsCx (X : Cx) (g : Addr) (cdg : Value) (s : Shared) (H : Hp) : Cx := (cxOf C8.CX0 X.prog X.w X.K X.mg X.base N_lraised "_law_raised" (defScope s_lraised) g cdg X.A X.stack s H C8.E0).nox
abbrev rsSuite : List Stmt := match (defBody s_lraised).head? with
  | some (.Try _ [.ExceptHandler _ _ st _] _ _ _) => st
  | _ => []
def L3 (j : Nat) : List V := [.bl (decide (j = 0)), .bl (decide (j = 1)), .bl (decide (j = 2))]
def L6 (j : Nat) : List V := [.bl (decide (j = 0)), .bl (decide (j = 1)), .bl (decide (j = 2)), .bl (decide (j = 3)), .bl (decide (j = 4)), .bl (decide (j = 5))]
def L9 (j : Nat) : List V := [.bl (decide (j = 0)), .bl (decide (j = 1)), .bl (decide (j = 2)), .bl (decide (j = 3)), .bl (decide (j = 4)), .bl (decide (j = 5)), .bl (decide (j = 6)), .bl (decide (j = 7)), .bl (decide (j = 8))]
def L11 (j : Nat) : List V := [.bl (decide (j = 0)), .bl (decide (j = 1)), .bl (decide (j = 2)), .bl (decide (j = 3)), .bl (decide (j = 4)), .bl (decide (j = 5)), .bl (decide (j = 6)), .bl (decide (j = 7)), .bl (decide (j = 8)), .bl (decide (j = 9)), .bl (decide (j = 10))]
theorem raised_suite (S : RdS X.K X.mg) {D : Addr} {j : Nat} (R : RdR S D j) {a : Addr} {oe : Obj} {pn : List (Addr × Obj)} (hz : Zc (.ref D) none oe) (hf : ∃ vs, oe.data = .fields vs)
    {DD : Ends} {wv y2 y3 : Option V} {H1 : Hp} {Q : VK} (hrt : DD.rt = Q) (q : RsTold j Q H1) :
    ∃ t, PSs ((rsCx X g cdg s H).suite a ((a, oe) :: pn)) rsSuite t ∧ t DD [wv, some (.ref a), y2, y3] H1 := by
  have nd := sc_lraised.nd
  subst hrt
  refine ⟨_, pss_cons (ps_set (i := 2) nd rfl (.inl rfl) (pe_lst (pa_cons (pe_callB (call_isE R.ex hz hf) (by rfl) S.zI (by decide +kernel) (pa_cons (pv 1) (pa_cons (pe_glob (v := .ref S.k0) (by rfl) S.g0 rfl) pa_nil))) (pa_cons (pe_callB (call_isE R.ex hz hf) (by rfl) S.zI (by decide +kernel) (pa_cons (pv 1) (pa_cons (pe_glob (v := .ref S.k1) (by rfl) S.g1 rfl) pa_nil))) (pa_cons (pe_callB (call_isE R.ex hz hf) (by rfl) S.zI (by decide +kernel) (pa_cons (pv 1) (pa_cons (pe_glob (v := .ref S.k2) (by rfl) S.g2 rfl) pa_nil))) pa_nil)))))
    (pss_cons (ps_set (i := 2) nd rfl (.inl rfl) (pe_op op_cat (pv 2) (pe_lst (pa_cons (pe_callB (call_isE R.ex hz hf) (by rfl) S.zI (by decide +kernel) (pa_cons (pv 1) (pa_cons (pe_glob (v := .ref S.k3) (by rfl) S.g3 rfl) pa_nil))) (pa_cons (pe_callB (call_isE R.ex hz hf) (by rfl) S.zI (by decide +kernel) (pa_cons (pv 1) (pa_cons (pe_glob (v := .ref S.k4) (by rfl) S.g4 rfl) pa_nil))) (pa_cons (pe_callB (call_isE R.ex hz hf) (by rfl) S.zI (by decide +kernel) (pa_cons (pv 1) (pa_cons (pe_glob (v := .ref S.k5) (by rfl) S.g5 rfl) pa_nil))) pa_nil))))))
    (pss_cons (ps_set (i := 2) nd rfl (.inl rfl) (pe_op op_cat (pv 2) (pe_lst (pa_cons (pe_callB (call_isE R.ex hz hf) (by rfl) S.zI (by decide +kernel) (pa_cons (pv 1) (pa_cons (pe_glob (v := .ref S.k6) (by rfl) S.g6 rfl) pa_nil))) (pa_cons (pe_callB (call_isE R.ex hz hf) (by rfl) S.zI (by decide +kernel) (pa_cons (pv 1) (pa_cons (pe_glob (v := .ref S.k7) (by rfl) S.g7 rfl) pa_nil))) (pa_cons (pe_callB (call_isE R.ex hz hf) (by rfl) S.zI (by decide +kernel) (pa_cons (pv 1) (pa_cons (pe_glob (v := .ref S.k8) (by rfl) S.g8 rfl) pa_nil))) pa_nil))))))
    (pss_cons (ps_set (i := 2) nd rfl (.inl rfl) (pe_op op_cat (pv 2) (pe_lst (pa_cons (pe_callB (call_isE R.ex hz hf) (by rfl) S.zI (by decide +kernel) (pa_cons (pv 1) (pa_cons (pe_glob (v := .ref S.k9) (by rfl) S.g9 rfl) pa_nil))) (pa_cons (pe_callB (call_isE R.ex hz hf) (by rfl) S.zI (by decide +kernel) (pa_cons (pv 1) (pa_cons (pe_glob (v := .ref S.k10) (by rfl) S.g10 rfl) pa_nil))) pa_nil)))))
    (pss_cons (ps_if (PW.pt (pw_or (pt_cmpR op_ne (pe_bm PySem.F.plainAttrs_list PySem.F.slot_list_count PySem.F.type_list_count mt_countV (pv 2) (pa_cons pe_bl pa_nil)) pe_int (nomark _))
        (pw_or1 (pt_not (pt_val (pe_callB (call_isE R.ex hz hf) (by rfl) S.zI (by decide +kernel) (pa_cons (pv 1) (pa_cons (pe_bltn (v := .ty "ValueError") (u := .type "ValueError") (by rfl) S.zV (by decide +kernel) rfl) pa_nil)))))))) (pss_one ps_never) pss_nil)
    (pss_cons (ps_set (i := 3) nd rfl (.inl rfl) (pe_bm PySem.F.plainAttrs_list PySem.F.slot_list_index PySem.F.type_list_index mt_index (pv 2) (pa_cons pe_bl pa_nil)))
    (pss_cons (ps_if (pt_cmpR op_eq (pv 3) pe_int (nomark _)) (pss_one ps_never) pss_nil)
    (pss_cons (ps_if (pt_cmpR op_eq (pv 3) pe_int (nomark _)) (pss_one ps_never) pss_nil)
    (pss_cons (ps_if (pt_cmpR op_eq (pv 3) pe_int (nomark _)) (pss_one ps_never) pss_nil)
    (pss_cons (ps_if (pt_cmpR op_eq (pv 3) pe_int (nomark _)) (pss_one ps_never) pss_nil)
    (pss_cons (ps_if (pt_cmpR op_eq (pv 3) pe_int (nomark _)) (pss_one ps_never) pss_nil)
    (pss_cons (ps_if (pt_cmpR op_eq (pv 3) pe_int (nomark _)) (pss_one ps_never) pss_nil)
    (pss_one (ps_ret (pe_tup (pa_cons (pe_ix ix_list (pe_lst (pa_cons pe_str (pa_cons pe_str (pa_cons pe_str (pa_cons pe_str (pa_cons pe_str pa_nil)))))) (pe_op op_sub (pv 3) pe_int) (fun _ _ => rfl)) pa_nil))))))))))))))), ?_⟩
  have lo := R.lo
  have hi := R.hi
  refine ⟨.ref a, rfl, .ref S.k0, .ref S.k0, _, rfl, fun u h => h, R.q0, .ref a, rfl, .ref S.k1, .ref S.k1, _, rfl, fun u h => h, R.q1, .ref a, rfl, .ref S.k2, .ref S.k2, _, rfl, fun u h => h, R.q2, (by show 3 ≤ sizeLine; decide), fun p1 hp1 => ?_⟩
  have s1 : ∀ b o, H1 b = some o → (upd H1 p1 (.lst (L3 j))) b = some o := fun b o e => (upd_ne (ne_of_none e hp1)).trans e
  have g1 : (upd H1 p1 (.lst (L3 j))) p1 = some (.lst (L3 j)) := upd_same
  have n0 : ∀ {p : Addr} {H2 : Hp}, (∀ b o, H1 b = some o → H2 b = some o) → H2 p = none → H1 p = none := fun {p H2} k h => by
    cases e : H1 p with
    | none => rfl
    | some o =>
      have := k _ _ e
      rw [h] at this
      cases this
  show tSeq _ _ _ [wv, some (.ref a), some (.ref p1), y3] (upd H1 p1 (.lst (L3 j)))
  generalize (upd H1 p1 (.lst (L3 j))) = H2 at s1 g1 ⊢
  refine ⟨.ref p1, rfl, .ref a, rfl, .ref S.k3, .ref S.k3, _, rfl, fun u h => h, R.q3, .ref a, rfl, .ref S.k4, .ref S.k4, _, rfl, fun u h => h, R.q4, .ref a, rfl, .ref S.k5, .ref S.k5, _, rfl, fun u h => h, R.q5, (by show 3 ≤ sizeLine; decide), fun p2 hp2 => ?_⟩
  have sa0 : ∀ b o, H2 b = some o → (upd H2 p2 (.lst [.bl (decide (j = 3)), .bl (decide (j = 4)), .bl (decide (j = 5))])) b = some o := fun b o e => (upd_ne (ne_of_none e hp2)).trans e
  have ga0 : (upd H2 p2 (.lst [.bl (decide (j = 3)), .bl (decide (j = 4)), .bl (decide (j = 5))])) p2 = some (.lst [.bl (decide (j = 3)), .bl (decide (j = 4)), .bl (decide (j = 5))]) := upd_same
  generalize (upd H2 p2 (.lst [.bl (decide (j = 3)), .bl (decide (j = 4)), .bl (decide (j = 5))])) = H3 at sa0 ga0 ⊢
  refine ⟨p1, p2, _, _, rfl, rfl, sa0 _ _ g1, ga0, (by show 3 + 3 ≤ sizeLine; decide), fun p3 hp3 => ?_⟩
  have sb0 : ∀ b o, H3 b = some o → (upd H3 p3 (.lst (L6 j))) b = some o := fun b o e => (upd_ne (ne_of_none e hp3)).trans e
  have gb0 : (upd H3 p3 (.lst (L6 j))) p3 = some (.lst (L6 j)) := upd_same
  show tSeq _ _ _ [wv, some (.ref a), some (.ref p3), y3] (upd H3 p3 (.lst (L6 j)))
  generalize (upd H3 p3 (.lst (L6 j))) = H4 at sb0 gb0 ⊢
  have st0 : ∀ b o, H1 b = some o → H4 b = some o := fun b o e => sb0 _ _ (sa0 _ _ (s1 _ _ e))
  refine ⟨.ref p3, rfl, .ref a, rfl, .ref S.k6, .ref S.k6, _, rfl, fun u h => h, R.q6, .ref a, rfl, .ref S.k7, .ref S.k7, _, rfl, fun u h => h, R.q7, .ref a, rfl, .ref S.k8, .ref S.k8, _, rfl, fun u h => h, R.q8, (by show 3 ≤ sizeLine; decide), fun p4 hp4 => ?_⟩
  have sa1 : ∀ b o, H4 b = some o → (upd H4 p4 (.lst [.bl (decide (j = 6)), .bl (decide (j = 7)), .bl (decide (j = 8))])) b = some o := fun b o e => (upd_ne (ne_of_none e hp4)).trans e
  have ga1 : (upd H4 p4 (.lst [.bl (decide (j = 6)), .bl (decide (j = 7)), .bl (decide (j = 8))])) p4 = some (.lst [.bl (decide (j = 6)), .bl (decide (j = 7)), .bl (decide (j = 8))]) := upd_same
  generalize (upd H4 p4 (.lst [.bl (decide (j = 6)), .bl (decide (j = 7)), .bl (decide (j = 8))])) = H5 at sa1 ga1 ⊢
  refine ⟨p3, p4, _, _, rfl, rfl, sa1 _ _ gb0, ga1, (by show 6 + 3 ≤ sizeLine; decide), fun p5 hp5 => ?_⟩
  have sb1 : ∀ b o, H5 b = some o → (upd H5 p5 (.lst (L9 j))) b = some o := fun b o e => (upd_ne (ne_of_none e hp5)).trans e
  have gb1 : (upd H5 p5 (.lst (L9 j))) p5 = some (.lst (L9 j)) := upd_same
  show tSeq _ _ _ [wv, some (.ref a), some (.ref p5), y3] (upd H5 p5 (.lst (L9 j)))
  generalize (upd H5 p5 (.lst (L9 j))) = H6 at sb1 gb1 ⊢
  have st1 : ∀ b o, H1 b = some o → H6 b = some o := fun b o e => sb1 _ _ (sa1 _ _ (st0 _ _ e))
  refine ⟨.ref p5, rfl, .ref a, rfl, .ref S.k9, .ref S.k9, _, rfl, fun u h => h, R.q9, .ref a, rfl, .ref S.k10, .ref S.k10, _, rfl, fun u h => h, R.q10, (by show 2 ≤ sizeLine; decide), fun p6 hp6 => ?_⟩
  have sa2 : ∀ b o, H6 b = some o → (upd H6 p6 (.lst [.bl (decide (j = 9)), .bl (decide (j = 10))])) b = some o := fun b o e => (upd_ne (ne_of_none e hp6)).trans e
  have ga2 : (upd H6 p6 (.lst [.bl (decide (j = 9)), .bl (decide (j = 10))])) p6 = some (.lst [.bl (decide (j = 9)), .bl (decide (j = 10))]) := upd_same
  generalize (upd H6 p6 (.lst [.bl (decide (j = 9)), .bl (decide (j = 10))])) = H7 at sa2 ga2 ⊢
  refine ⟨p5, p6, _, _, rfl, rfl, sa2 _ _ gb1, ga2, (by show 9 + 2 ≤ sizeLine; decide), fun p7 hp7 => ?_⟩
  have sb2 : ∀ b o, H7 b = some o → (upd H7 p7 (.lst (L11 j))) b = some o := fun b o e => (upd_ne (ne_of_none e hp7)).trans e
  have gb2 : (upd H7 p7 (.lst (L11 j))) p7 = some (.lst (L11 j)) := upd_same
  show tSeq _ _ _ [wv, some (.ref a), some (.ref p7), y3] (upd H7 p7 (.lst (L11 j)))
  generalize (upd H7 p7 (.lst (L11 j))) = H8 at sb2 gb2 ⊢
  have st2 : ∀ b o, H1 b = some o → H8 b = some o := fun b o e => sb2 _ _ (sa2 _ _ (st1 _ _ e))
  have hj : j = 6 ∨ j = 7 ∨ j = 8 ∨ j = 9 ∨ j = 10 := by omega
  have hcnt : List.countP (fun z => eqV z (.bl true)) (L11 j) = 1 := by
    rcases hj with rfl | rfl | rfl | rfl | rfl <;> rfl
  have hget : (L11 j)[j]? = some (.bl true) := by
    rcases hj with rfl | rfl | rfl | rfl | rfl <;> rfl
  have hno : ∀ (m : Nat) (z' : V), m < j → (L11 j)[m]? = some z' → eqV z' (.bl true) = false := by
    intro m z' hm e
    have hm' : m = 0 ∨ m = 1 ∨ m = 2 ∨ m = 3 ∨ m = 4 ∨ m = 5 ∨ m = 6 ∨ m = 7 ∨ m = 8 ∨ m = 9 := by omega
    have ez : z' = .bl (decide (j = m)) := by
      rcases hm' with rfl | rfl | rfl | rfl | rfl | rfl | rfl | rfl | rfl | rfl <;> (cases e; rfl)
    rw [ez, decide_eq_false (by omega)]
    rfl
  have hflat : (L11 j).all flatV = true := rfl
  have hnm : atI ([.str "number", .str "reader", .str "nobook", .str "contradiction", .str "count"] : List V) ((j : Int) - 6) = some (.str (rdNm j)) := by
    rcases hj with rfl | rfl | rfl | rfl | rfl <;> rfl
  refine ⟨.ref p7, rfl, .inl ⟨rfl, _, SqL.of gb2⟩, p7, _, .bl true, rfl, rfl, SqL.of gb2, rfl, hflat, ?_⟩
  rw [hcnt]
  refine ⟨rfl, _, rfl, iteNS rfl ?_⟩
  refine ⟨.ref a, rfl, .ty "ValueError", .type "ValueError", true, rfl, fun u h => h, R.qv, true, rfl, iteF ?_⟩
  refine ⟨.ref p7, rfl, .inl ⟨rfl, _, SqL.of gb2⟩, p7, _, .bl true, j, .bl true, rfl, rfl, SqL.of gb2, rfl, hflat, hget, rfl, hno, ?_⟩
  show tSeq _ _ _ [wv, some (.ref a), some (.ref p7), some (.int (j : Int))] H8
  refine ⟨_, rfl, rfl, _, rfl, ?_⟩
  rw [decide_eq_false (show ¬ V.int (j : Int) = V.int 0 from fun z => by injection z with z; omega)]
  refine iteF ?_
  refine ⟨_, rfl, rfl, _, rfl, ?_⟩
  rw [decide_eq_false (show ¬ V.int (j : Int) = V.int 1 from fun z => by injection z with z; omega)]
  refine iteF ?_
  refine ⟨_, rfl, rfl, _, rfl, ?_⟩
  rw [decide_eq_false (show ¬ V.int (j : Int) = V.int 2 from fun z => by injection z with z; omega)]
  refine iteF ?_
  refine ⟨_, rfl, rfl, _, rfl, ?_⟩
  rw [decide_eq_false (show ¬ V.int (j : Int) = V.int 3 from fun z => by injection z with z; omega)]
  refine iteF ?_
  refine ⟨_, rfl, rfl, _, rfl, ?_⟩
  rw [decide_eq_false (show ¬ V.int (j : Int) = V.int 4 from fun z => by injection z with z; omega)]
  refine iteF ?_
  refine ⟨_, rfl, rfl, _, rfl, ?_⟩
  rw [decide_eq_false (show ¬ V.int (j : Int) = V.int 5 from fun z => by injection z with z; omega)]
  refine iteF ?_
  refine ⟨(by show 5 ≤ sizeLine; decide), fun p8 hp8 => ?_⟩
  refine ⟨_, rfl, _, _, rfl, rfl, ?_⟩
  refine ⟨p8, _, _, _, rfl, rfl, SqL.of upd_same, hnm, ?_⟩
  refine ⟨(by show 1 ≤ sizeLine; decide), fun p9 hp9 => ?_⟩
  have s5 : ∀ b o, H1 b = some o → (upd H8 p8 (.lst [.str "number", .str "reader", .str "nobook", .str "contradiction", .str "count"])) b = some o := fun b o e => (upd_ne (ne_of_none (st2 b o e) hp8)).trans (st2 b o e)
  exact q p9 _ (fun b o e => (upd_ne (ne_of_none (s5 b o e) hp9)).trans (s5 b o e)) (n0 s5 hp9) upd_same
/-- how it ends: None, or the word -/
def RsO {K : PySem.W.Frag} {mg : Str → Option Value} (S : RdS K mg) (Q : VK) : XK := fun cls d H => ∃ (D : Addr) (j : Nat), cls = .ref D ∧ d = none ∧ RdR S D j ∧ RsTold j Q H
def TRs {K : PySem.W.Frag} {mg : Str → Option Value} (S : RdS K mg) : (XK → Hp → VK → Prop) → Hp → VK → Prop := fun tl H Q => ∀ E : XK, (∀ cls d H', RsO S Q cls d H' → E cls d H') → tl E H fun _ H' => Q .non H'
theorem gives_raised {S : RdS X.K X.mg} : GivesV X N_lraised "_law_raised" (defScope s_lraised) g cdg (defBody s_lraised) "_law_work" (TRs S) := by
  intro f RR s H Q tl hact hR ht
  have nd := sc_lraised.nd
  refine ⟨_, pss_cons (ps_try_as (i := 1) (c := .ref S.cE) (Wout := fun _ _ _ _ => False)
    (ts := fun a cls d DD σ1 H1 => ∀ (oe : Obj) (pn : List (Addr × Obj)), Zc cls d oe → (∃ vs, oe.data = .fields vs) → ∃ t, PSs ((rsCx X g cdg s H).suite a ((a, oe) :: pn)) rsSuite t ∧ t DD σ1 H1)
    rfl rfl nd rfl rfl ⟨rfl, by decide, Or.inl S.gE⟩ LamX.takes0
    (fun W pn xe tk _ => pss_one (ps_expr (hact W pn xe _ _ tk)))
    (fun a oe cls d pn hz hf => ⟨fun pins s1 σ1 H1 DD I h => by
      obtain ⟨t, ht, hh⟩ := h oe pn hz hf
      exact ht.run pins s1 σ1 H1 DD I hh⟩)) (pss_one (ps_ret pe_non)), ?_⟩
  refine ⟨rfl, hR, ht _ fun cls d H' hto => ?_⟩
  obtain ⟨D, j, rfl, rfl, R, q⟩ := hto
  refine ⟨true, R.ee, fun _ a ha oe pn hz hf => ?_, fun z => Bool.noConfusion z⟩
  exact raised_suite S R hz hf rfl q
end
end Rp
/-! The diary of a ring: mathematics. -/
namespace Rp
open PySem PySem.Spec PyProof.Rows L2 Rz Rm
/-- what ends before day D + 1, and on it by readers before k -/
noncomputable def Pre (ds ss : List Int) (D k : Nat) : List (List Int) := ((List.range D).map fun (i : Nat) => Ke ds ss (i : Int)).flatten ++ (Kx ds ss (D : Int) k).map (rec ds ss (D : Int))
/-- how many readings have ended so far -/
noncomputable def cS (ds ss : List Int) (D k j : Nat) : Int := if j < k then Cn (at' ds) (at' ss) (j : Int) ((D : Int) + 1) else Cn (at' ds) (at' ss) (j : Int) (D : Int)
theorem kx_zero (ds ss : List Int) (D : Int) : Kx ds ss D 0 = [] := rfl
theorem pre_zero (ds ss : List Int) : Pre ds ss 0 0 = [] := rfl
theorem pre_row (ds ss : List Int) (D : Nat) : Pre ds ss D ds.length = Pre ds ss (D + 1) 0 := by
  unfold Pre
  rw [List.range_succ, List.map_append, List.flatten_append, kx_zero, List.map_nil, List.append_nil]
  show _ ++ Ke ds ss (D : Int) = _
  simp
theorem cS_row (ds ss : List Int) (D : Nat) {j : Nat} (h : j < ds.length) : cS ds ss D ds.length j = cS ds ss (D + 1) 0 j := by
  unfold cS
  rw [if_pos h, if_neg (by omega), show (((D + 1 : Nat)) : Int) = (D : Int) + 1 by omega]
theorem pre_not {ds ss : List Int} {D k : Nat} (h : ¬ Kd ds ss (D : Int) k = true) : Pre ds ss D (k + 1) = Pre ds ss D k := by
  unfold Pre
  rw [kx_succ, if_neg h]
theorem pre_yes {ds ss : List Int} {D k : Nat} (h : Kd ds ss (D : Int) k = true) : Pre ds ss D (k + 1) = Pre ds ss D k ++ [rec ds ss (D : Int) k] := by
  unfold Pre
  rw [kx_succ, if_pos h, List.map_append, List.append_assoc]
  rfl
section
variable {ds ss : List Int} {M : Int} (RR : Rm.Ring ds.length (at' ds) (at' ss) ss.sum ds.sum M)
include RR
theorem cS_not {D k : Nat} (h : ¬ Kd ds ss (D : Int) k = true) (j : Nat) : cS ds ss D (k + 1) j = cS ds ss D k j := by
  unfold cS
  by_cases e : j < k
  · rw [if_pos e, if_pos (by omega)]
  · by_cases e2 : j = k
    · subst e2
      rw [if_pos (by omega), if_neg e, (ends_not RR (by omega) h).1]
    · rw [if_neg (by omega), if_neg e]
theorem cS_yes {D k : Nat} (hk : k < ds.length) (h : Kd ds ss (D : Int) k = true) (j : Nat) : cS ds ss D (k + 1) j = if j = k then cS ds ss D k j + 1 else cS ds ss D k j := by
  unfold cS
  by_cases e : j < k
  · rw [if_pos e, if_pos (by omega), if_neg (by omega)]
  · by_cases e2 : j = k
    · subst e2
      rw [if_pos (by omega), if_neg e, if_pos rfl, (ends_now RR hk (by omega) h).1]
    · rw [if_neg (by omega), if_neg e, if_neg e2]
theorem cS_zero (j : Nat) : cS ds ss 0 0 j = 0 := by
  unfold cS
  rw [if_neg (by omega)]
  exact z_first RR j
theorem cS_nn (D k j : Nat) : 0 ≤ cS ds ss D k j := by
  unfold cS
  split
  · exact (RR.cn j _).1
  · exact (RR.cn j _).1
theorem cS_lo (D k j : Nat) : (D : Int) + 1 ≤ Rm.E (at' ds) (at' ss) j (cS ds ss D k j) := by
  unfold cS
  split
  · have := (RR.cn j ((D : Int) + 1)).2.2
    omega
  · have := (RR.cn j (D : Int)).2.2
    omega
theorem cS_hi {D k j : Nat} (h : j < k) : (D : Int) + 1 < Rm.E (at' ds) (at' ss) j (cS ds ss D k j) := by
  unfold cS
  rw [if_pos h]
  exact (RR.cn j ((D : Int) + 1)).2.2
theorem dfind (n0 : 0 < ds.length) : ∀ (m D k : Nat), k ≤ ds.length → (Rm.E (at' ds) (at' ss) ((0 : Nat) : Int) (cS ds ss D k 0) - D - 1).toNat * (ds.length + 1) + (ds.length - k) = m →
    ∃ D' k', k' < ds.length ∧ Kd ds ss ((D' : Nat) : Int) k' = true ∧ Pre ds ss D' k' = Pre ds ss D k ∧ ∀ j, j < ds.length → cS ds ss D' k' j = cS ds ss D k j := by
  intro m
  induction m using Nat.strongRecOn with
  | ind m ih =>
    intro D k hk hm
    by_cases e : k = ds.length
    · subst e
      have h1 := cS_hi RR (D := D) n0
      have e0 := cS_row ds ss D n0
      obtain ⟨a, ha⟩ : ∃ a, a = (Rm.E (at' ds) (at' ss) ((0 : Nat) : Int) (cS ds ss (D + 1) 0 0) - ((D + 1 : Nat) : Int) - 1).toNat := ⟨_, rfl⟩
      have h2 : (Rm.E (at' ds) (at' ss) ((0 : Nat) : Int) (cS ds ss D ds.length 0) - D - 1).toNat = a + 1 := by
        rw [ha, ← e0]
        omega
      rw [h2, Nat.succ_mul] at hm
      obtain ⟨D', k', q1, q2, q3, q4⟩ := ih (a * (ds.length + 1) + (ds.length - 0)) (by omega) (D + 1) 0 (Nat.zero_le _) (by rw [← ha])
      exact ⟨D', k', q1, q2, q3.trans (pre_row ds ss D).symm, fun j hj => (q4 j hj).trans (cS_row ds ss D hj).symm⟩
    · by_cases h : Kd ds ss ((D : Nat) : Int) k = true
      · exact ⟨D, k, by omega, h, rfl, fun _ _ => rfl⟩
      · obtain ⟨D', k', q1, q2, q3, q4⟩ := ih _ (by rw [← hm, ← cS_not RR h 0]; exact Nat.add_lt_add_left (by omega) _) D (k + 1) (by omega) rfl
        exact ⟨D', k', q1, q2, q3.trans (pre_not h), fun j hj => (q4 j hj).trans (cS_not RR h j)⟩
/-- the next reading to end -/
theorem dnext (n0 : 0 < ds.length) {D k : Nat} (hk : k ≤ ds.length) : ∃ D' k', k' < ds.length ∧ Rm.E (at' ds) (at' ss) (k' : Nat) (cS ds ss D k k') = ((D' : Nat) : Int) + 1 ∧ (∀ j, j < ds.length → ((D' : Nat) : Int) + 1 ≤ Rm.E (at' ds) (at' ss) (j : Nat) (cS ds ss D k j)) ∧
    (∀ j, j < k' → Rm.E (at' ds) (at' ss) (j : Nat) (cS ds ss D k j) ≠ ((D' : Nat) : Int) + 1) ∧ Pre ds ss D' (k' + 1) = Pre ds ss D k ++ [[((D' : Nat) : Int) + 1, (k' : Int), bk ss k' (cS ds ss D k k')]] ∧
    ∀ j, j < ds.length → cS ds ss D' (k' + 1) j = if j = k' then cS ds ss D k j + 1 else cS ds ss D k j := by
  obtain ⟨D', k', q1, q2, q3, q4⟩ := dfind RR n0 _ D k hk rfl
  have e : cS ds ss D k k' = Cn (at' ds) (at' ss) (k' : Int) (D' : Int) := by
    rw [← q4 k' q1]
    unfold cS
    rw [if_neg (by omega)]
  refine ⟨D', k', q1, ?_, fun j hj => ?_, fun j hj => ?_, ?_, fun j hj => ?_⟩
  · rw [e]
    exact of_decide_eq_true q2
  · rw [← q4 j hj]
    exact cS_lo RR D' k' j
  · rw [← q4 j (by omega)]
    have := cS_hi RR (D := D') hj
    omega
  · rw [pre_yes q2, q3, e]
    rfl
  · rw [cS_yes RR q1 q2, q4 j hj]
theorem cS_len : ∀ (D k j : Nat), k ≤ ds.length → j < ds.length → cS ds ss D k j ≤ ((Pre ds ss D k).length : Nat) := by
  have row : ∀ (D : Nat), (∀ j, j < ds.length → cS ds ss D 0 j ≤ ((Pre ds ss D 0).length : Nat)) → ∀ k, k ≤ ds.length → ∀ j, j < ds.length → cS ds ss D k j ≤ ((Pre ds ss D k).length : Nat) := by
    intro D h0 k
    induction k with
    | zero => exact fun _ => h0
    | succ k ih =>
      intro hk j hj
      have := ih (by omega) j hj
      by_cases h : Kd ds ss ((D : Nat) : Int) k = true
      · rw [pre_yes h, cS_yes RR (by omega) h, List.length_append, List.length_singleton]
        split <;> omega
      · rw [pre_not h, cS_not RR h]
        exact this
  intro D
  induction D with
  | zero => exact fun k j hk hj => row 0 (fun j _ => by rw [cS_zero RR]; omega) k hk j hj
  | succ D ih => exact fun k j hk hj => row (D + 1) (fun j hj => by rw [← pre_row, ← cS_row ds ss D hj]; exact ih _ j (Nat.le_refl _) hj) k hk j hj
end
theorem pre_up {ds ss : List Int} {D k : Nat} : ∀ {k' : Nat}, k ≤ k' → Pre ds ss D k <+: Pre ds ss D k'
  | 0, h => by
    rw [show k = 0 by omega]
    exact List.prefix_rfl
  | k' + 1, h => by
    by_cases e : k = k' + 1
    · rw [e]
      exact List.prefix_rfl
    · refine (pre_up (k' := k') (by omega)).trans ?_
      by_cases h : Kd ds ss ((D : Nat) : Int) k' = true
      · rw [pre_yes h]
        exact List.prefix_append _ _
      · rw [pre_not h]
        exact List.prefix_rfl
theorem pre_days {ds ss : List Int} {D : Nat} : ∀ {D' : Nat}, D ≤ D' → Pre ds ss D 0 <+: Pre ds ss D' 0
  | 0, h => by
    rw [show D = 0 by omega]
    exact List.prefix_rfl
  | D' + 1, h => by
    by_cases e : D = D' + 1
    · rw [e]
      exact List.prefix_rfl
    · rw [← pre_row]
      exact (pre_days (D' := D') (by omega)).trans (pre_up (Nat.zero_le _))
theorem pre_lex {ds ss : List Int} {D k D' k' : Nat} (hk : k ≤ ds.length) (h : D < D' ∨ (D = D' ∧ k ≤ k')) : Pre ds ss D k <+: Pre ds ss D' k' := by
  rcases h with h | ⟨rfl, h⟩
  · refine (pre_up hk).trans ?_
    rw [pre_row]
    exact (pre_days (by omega)).trans (pre_up (Nat.zero_le _))
  · exact pre_up h
theorem pre_take {ds ss : List Int} {D k D' k' : Nat} (hk : k ≤ ds.length) (hk' : k' ≤ ds.length) (h : (Pre ds ss D k).length ≤ (Pre ds ss D' k').length) : Pre ds ss D k = (Pre ds ss D' k').take (Pre ds ss D k).length := by
  have c : (D < D' ∨ (D = D' ∧ k ≤ k')) ∨ (D' < D ∨ (D' = D ∧ k' ≤ k)) := by omega
  rcases c with c | c
  · exact (List.prefix_iff_eq_take.mp (pre_lex hk c))
  · have p := pre_lex (ss := ss) hk' c
    have e := p.eq_of_length_le h
    rw [e, List.take_length]
/-- the entries are of three numbers -/
theorem pre_three {ds ss : List Int} {D k : Nat} {l : List Int} (h : l ∈ Pre ds ss D k) : ∃ (a : Int) (j : Nat) (b : Int), l = [a, (j : Int), b] ∧ j < max ds.length k := by
  unfold Pre at h
  rcases List.mem_append.mp h with h | h
  · obtain ⟨L, hL, hl⟩ := List.mem_flatten.mp h
    obtain ⟨i, _, rfl⟩ := List.mem_map.mp hL
    obtain ⟨j, hj, rfl⟩ := List.mem_map.mp hl
    exact ⟨_, j, _, rfl, by have := (kx_mem.mp hj).1; omega⟩
  · obtain ⟨j, hj, rfl⟩ := List.mem_map.mp h
    exact ⟨_, j, _, rfl, by have := (kx_mem.mp hj).1; omega⟩
end Rp
/-! Checks that raise, the raised class known by RxE. -/
namespace Rp
open PySem PySem.Spec PyProof.Rows L2 Rz Rm Rl
/-- the class of an error without fields, as the program raises it -/
structure RxE (K : PySem.W.Frag) (mg : Str → Option Value) (x : Str) (D : Addr) : Prop where
  g : mg x = some (.ref D)
  xF : PySem.W.excIn K D [.type "ValueError", .type "Exception", .type "BaseException", .type "object"] "ValueError.__new__" = true
  bF : PySem.W.subIn K (.ref D) (.type "BaseException") = some true
  tF : PySem.W.typeIn K (.ref D) = some (.type "type")
  kF : PySem.W.keepIn K (.ref D) = true
/-- v is a number or not -/
def NumV (K : PySem.W.Frag) (H : Hp) (v : V) (b : Bool) : Prop := (∃ i, v = .int i ∧ b = true) ∨ (∃ y, v = .bl y ∧ b = false) ∨ (∃ t : String, TyX K H v (.type t) ∧ kitB t "int" = some false ∧ b = false)
/-- v lies between lo and hi, or not -/
def LieV (K : PySem.W.Frag) (H : Hp) (v : V) (lo hi : Int) (b : Bool) : Prop := (∃ i, v = .int i ∧ b = (decide (lo ≤ i) && decide (i ≤ hi))) ∨ (NumV K H v false ∧ b = false)
section
variable {P : Program} {w : World} {K : PySem.W.Frag} {mg : Str → Option Value} {base : Heap}
def spIsNumV (K : PySem.W.Frag) : Sp := fun vs H Q _ => ∃ (v : V) (b : Bool), vs = [v] ∧ NumV K H v b ∧ Q (.bl b) H
theorem ok_is_numberV (T : Tx K mg) : FnOk P w K mg base CX0 1 T.a_is_number T.d_is_number P_is_number (spIsNumV K) := by
  refine T.F_is_number.ok sc_is_number (fun vs H Q E h => ?_) (fun cdv A outer s H vs Q E hr h => ?_)
  · obtain ⟨i, b, rfl, _⟩ := h
    rfl
  · obtain ⟨v, b, rfl, hv, q⟩ := h
    refine ⟨_, pss_one (ps_ret (pe_and (pe_callB call_isi (by rfl) T.z_isinstance (by decide +kernel) (pa_cons (pv 0) (pa_cons (pe_bltn (v := .ty "int") (u := .type "int") (by rfl) T.z_int (by decide +kernel) rfl) pa_nil)))
      (pe_one (pe_not (pe_callB call_isi (by rfl) T.z_isinstance (by decide +kernel) (pa_cons (pv 0) (pa_cons (pe_bltn (v := .ty "bool") (u := .type "bool") (by rfl) T.z_bool (by decide +kernel) rfl) pa_nil))))))), ?_⟩
    rcases hv with ⟨i, rfl, rfl⟩ | ⟨y, rfl, rfl⟩ | ⟨t, ht, hk, rfl⟩
    · refine ⟨.int i, rfl, .int i, .ty "int", .type "int", .type "int", true, rfl, .ty _, .base (.int i), kit_ty (by decide +kernel), true, rfl, iteT ?_⟩
      exact ⟨.int i, rfl, .int i, .ty "bool", .type "int", .type "bool", false, rfl, .ty _, .base (.int i), kit_ty (by decide +kernel), false, rfl, q⟩
    · refine ⟨.bl y, rfl, .bl y, .ty "int", .type "bool", .type "int", true, rfl, .ty _, .base (.bl y), kit_ty (by decide +kernel), true, rfl, iteT ?_⟩
      exact ⟨.bl y, rfl, .bl y, .ty "bool", .type "bool", .type "bool", true, rfl, .ty _, .base (.bl y), kit_ty (by decide +kernel), true, rfl, q⟩
    · exact ⟨v, rfl, v, .ty "int", .type t, .type "int", false, rfl, .ty _, ht, kit_ty hk, false, rfl, iteF q⟩
def spLiesV (K : PySem.W.Frag) : Sp := fun vs H Q _ => ∃ (v : V) (lo hi : Int) (b : Bool), vs = [v, .int lo, .int hi] ∧ LieV K H v lo hi b ∧ Q (.bl b) H
theorem ok_liesV (T : Tx K mg) : FnOk P w K mg base CX0 2 T.a_lies_between T.d_lies_between P_lies_between (spLiesV K) := by
  refine T.F_lies_between.ok sc_lies_between (fun vs H Q E h => ?_) (fun cdv A outer s H vs Q E hr h => ?_)
  · obtain ⟨v, lo, hi, b, rfl, _⟩ := h
    rfl
  · obtain ⟨v, lo, hi, b, rfl, hv, q⟩ := h
    refine ⟨_, pss_one (ps_ret (pe_and (pe_call (ok_is_numberV T) hr (by rfl) T.g_is_number T.F_is_number.kp T.b_is_number .nil pass0 (pa_cons (pv 0) pa_nil)) (pe_one (pe_chain op_le op_le (pv 1) (pv 0) (pv 2))))), ?_⟩
    rcases hv with ⟨i, rfl, rfl⟩ | ⟨hn, rfl⟩
    · refine ⟨.int i, rfl, .int i, true, rfl, .inl ⟨i, rfl, rfl⟩, true, rfl, iteT ?_⟩
      refine ⟨.int lo, rfl, .int i, rfl, lo, i, rfl, rfl, decide (lo ≤ i), rfl, ?_⟩
      by_cases h : lo ≤ i
      · rw [decide_eq_true h] at q ⊢
        exact iteT ⟨.int hi, rfl, i, hi, rfl, rfl, q⟩
      · rw [decide_eq_false h] at q ⊢
        exact iteF q
    · exact ⟨v, rfl, v, false, rfl, hn, false, rfl, iteF q⟩
/-- check_number: passes, or raises InvalidNumber -/
def spChkX (K : PySem.W.Frag) (CN : Addr) : Sp := fun vs H Q E => ∃ (v : V) (lo hi : Int) (b : Bool), vs = [v, .int lo, .int hi] ∧ LieV K H v lo hi b ∧ (b = true → Q .non H) ∧ (b = false → E (.ref CN) none H)
theorem ok_chkX {CN : Addr} (T : Tx K mg) (E4 : RxE K mg "InvalidNumber" CN) : FnOk P w K mg base (L2.CX P w) 3 T.a_check_number T.d_check_number P_check_number (spChkX K CN) := by
  refine T.F_check_number.okX sc_check_number (fun vs H Q E h => ?_) (fun cdv A outer s H vs Q E hr h => ?_)
  · obtain ⟨v, lo, hi, b, rfl, _⟩ := h
    rfl
  · obtain ⟨v, lo, hi, b, rfl, hv, q1, q2⟩ := h
    refine ⟨_, pss_one (ps_if (pt_not (pt_val (pe_call (ok_liesV T) hr (by rfl) T.g_lies_between T.F_lies_between.kp T.b_lies_between .nil pass0 (pa_cons (pv 0) (pa_cons (pv 1) (pa_cons (pv 2) pa_nil))))))
      (pss_one (ps_raise rfl (takes_of rfl rfl rfl rfl) (pmk_own PySem.F.excBase_ValueError E4.xF E4.g E4.kF (raises_own E4.bF E4.tF) (by exact rfl)))) pss_nil), ?_⟩
    refine ⟨v, rfl, .int lo, rfl, .int hi, rfl, v, lo, hi, b, rfl, hv, b, rfl, ?_⟩
    cases b with
    | true => exact iteF (q1 rfl)
    | false => exact iteT (q2 rfl)
theorem lie_int {K : PySem.W.Frag} {H : Hp} {r lo hi : Int} (h0 : lo ≤ r) (h1 : r ≤ hi) : LieV K H (.int r) lo hi true := .inl ⟨r, rfl, by rw [decide_eq_true h0, decide_eq_true h1]; rfl⟩
theorem lie_no {K : PySem.W.Frag} {H : Hp} {v : V} {lo hi : Int} (h : (∃ r, v = .int r ∧ (r < lo ∨ hi < r)) ∨ v = .non ∨ v = .bl true) : LieV K H v lo hi false := by
  rcases h with ⟨r, rfl, h⟩ | rfl | rfl
  · refine .inl ⟨r, rfl, ?_⟩
    rcases h with h | h
    · rw [decide_eq_false (by omega)]; rfl
    · rw [decide_eq_false (show ¬ r ≤ hi by omega), Bool.and_false]
  · exact .inr ⟨.inr (.inr ⟨"NoneType", .base .non, by decide +kernel, rfl⟩), rfl⟩
  · exact .inr ⟨.inr (.inl ⟨true, rfl, rfl⟩), rfl⟩
end
end Rp
/-! diary_of: the generator. -/
namespace Rp
open PySem PySem.Spec PyProof.Rows L2 Rz Rm
section
variable {P : Program} {w : World} {K : PySem.W.Frag} {mg : Str → Option Value} {base : Heap}
theorem g_nx {D : GEnds} {ys : List V} {σ : L2.St} {H : Hp} (h : D.nx ys σ H) : (D.at ys).nx σ H := h
theorem g_nm {i : Nat} {v : V} {σ : L2.St} {H : Hp} {Q : L2.St → Hp → Prop} (h : Q (σ.set i (some v)) H) : gName i v σ H Q := h
/-- over a range, in a generator -/
theorem gfor_range {lo : Int} {n : Nat} {g : TG} {tb : TGn} {D : GEnds} {ys : List V} {σ : L2.St} {H : Hp} (Pv : Nat → List V → L2.St → Hp → Prop) (h0 : Pv 0 ys σ H)
    (hs : ∀ i ys σ H, i < n → Pv i ys σ H → g (.int (lo + i)) σ H fun σ2 H2 => tb { D with nx := Pv (i + 1), ct := Pv (i + 1), bk := D.nx } ys σ2 H2) (hd : ∀ ys σ H, Pv n ys σ H → D.nx ys σ H) :
    ∃ W : Nat → Nat → List V → L2.St → Hp → Prop, (∃ m, W 0 m ys σ H) ∧ ∀ i m ys σ H, W i m ys σ H →
      ((Itr lo n).stop i H ∧ D.nx ys σ H) ∨ ((Itr lo n).go i H ∧ ∃ N : List V → L2.St → Hp → Prop, (∀ ys' σ' H', N ys' σ' H' → ∃ m', m' < m ∧ W (i + 1) m' ys' σ' H') ∧ ∀ x H', (Itr lo n).yld i H x H' → g x σ H' fun σ2 H2 => tb { D with nx := N, ct := N, bk := D.nx } ys σ2 H2) := by
  refine ⟨fun i m ys σ H => m = n - i ∧ i ≤ n ∧ Pv i ys σ H, ⟨n, by simp, Nat.zero_le _, h0⟩, ?_⟩
  rintro i m ys σ H ⟨rfl, hi, p⟩
  by_cases hlt : i < n
  · refine .inr ⟨hlt, Pv (i + 1), fun ys' σ' H' p' => ⟨n - (i + 1), by omega, rfl, hlt, p'⟩, fun x H' y => ?_⟩
    obtain ⟨e, y⟩ := y
    subst e y
    exact hs i ys σ _ hlt p
  · have e : i = n := by omega
    subst e
    exact .inl ⟨Nat.le_refl _, hd ys σ H p⟩
theorem get_rgI {n i : Nat} {f : Nat → Int} (h : i < n) : (((List.range n).map f).map V.int)[i]? = some (.int (f i)) := by
  rw [List.map_map, List.getElem?_map, List.getElem?_range h]
  rfl
theorem rg_setI {n k : Nat} {f : Nat → Int} {z : Int} (h : k < n) : (((List.range n).map f).map V.int).set k (.int z) = ((List.range n).map fun j => if j = k then z else f j).map V.int := by
  refine List.ext_getElem? fun i => ?_
  by_cases hi : i < n
  · rw [get_rgI hi]
    by_cases e : i = k
    · subst e
      rw [List.getElem?_set_self (by rw [List.length_map, List.length_map, List.length_range]; exact h), if_pos rfl]
    · rw [List.getElem?_set_ne (Ne.symm e), get_rgI hi, if_neg e]
  · rw [List.getElem?_eq_none (by rw [List.length_set, List.length_map, List.length_map, List.length_range]; omega), List.getElem?_eq_none (by rw [List.length_map, List.length_map, List.length_range]; omega)]
theorem rg_eq {n : Nat} {f g : Nat → Int} (h : ∀ j, j < n → f j = g j) : (List.range n).map f = (List.range n).map g := List.map_congr_left fun j hj => h j (List.mem_range.mp hj)
theorem rep_zero (n : Nat) : (List.replicate n [V.int 0]).flatten = ((List.range n).map fun _ => (0 : Int)).map V.int := by
  induction n with
  | zero => rfl
  | succ n ih =>
    rw [List.replicate_succ', List.flatten_append, ih, List.range_succ, List.map_append, List.map_append]
    rfl
/-- a generator def by its body -/
theorem okG {x qual : Str} {st : Stmt} {f : Addr} {fd : FuncData} {N ps : List Str} {k : Nat} {sp : SpG} (F : Fun K x qual st f fd) (S : GScope N ps (defScope st)) (len : ∀ vs H Q E, sp vs H Q E → vs.length = ps.length)
    (hbody : ∀ (cdv : Value) (A : Around) (outer : List Env) (s : Shared) (H : Hp) (vs : List V) (Q : List V → Hp → Prop) (E : XK) (pn : List (Addr × Obj)), Room k (A.deeper (envOfC qual (defScope st) s.heap.objs.size f cdv)) → sp vs H Q E →
      ∃ t, GSs (gcxOf P w K mg base N qual (defScope st) f cdv A outer s H E pn) (defBody st) t ∧ t { nx := fun ys _ H' => Q ys H', rt := fun ys v H' => v = .non ∧ Q ys H' } [] (start N vs) H) : GFn P w K mg base (k + 1) f fd ps sp := by
  obtain ⟨oc, od, kV, doc, pm, an, cdv, ct, osl, rfl, lk, hcd⟩ := F.ex
  exact gfn_of lk hcd S len fun A outer s H vs Q E pn hr hsp => hbody cdv A outer s H vs Q E pn hr hsp
def spDia (K : PySem.W.Frag) (C CN : Addr) : SpG := fun vs H Q E => ∃ (p dx td ts : Addr) (ds ss : List Int) (c : V), vs = [.ref p, c] ∧ RingAt C H p dx td ts ds ss ∧
  ((∃ n : Nat, c = .int n ∧ n ≤ 500 ∧ ∀ ys H' D k, k ≤ ds.length → (Pre ds ss D k).length = n → Same H H' → Tups H' ys (Pre ds ss D k) → Q ys H') ∨ (LieV K H c 0 500 false ∧ E (.ref CN) none H))
theorem ok_dia {CN : Addr} (T : Tx K mg) (E4 : RxE K mg "InvalidNumber" CN) : GFn P w K mg base 6 T.a_diary_of T.d_diary_of P_diary_of (spDia K T.C CN) := by
  refine okG T.F_diary_of sc_diary_of (fun vs H Q E h => ?_) (fun cdv A outer s H vs Q E pn hr h => ?_)
  · obtain ⟨p, dx, td, ts, ds, ss, c, rfl, _⟩ := h
    rfl
  · obtain ⟨p, dx, td, ts, ds, ss, c, rfl, R, hc⟩ := h
    have nd := sc_diary_of.nd
    obtain ⟨u1, c1⟩ := T.c_MOST_ENTRIES
    have hr2 := hr.mono (by decide : 2 ≤ 5)
    have hr3 := hr.mono (by decide : 3 ≤ 5)
    refine ⟨_, gss_cons (gs_ps (ps_expr (pe_callS (ok_chkX T E4) hr3 (by rfl) T.g_check_number T.F_check_number.kp T.b_check_number (fun σ => passAt takes_gcx σ) (pa_cons (pv 1) (pa_cons pe_int (pa_cons (pe_glob (v := .int 500) (by rfl) c1 ⟨_, rfl⟩) pa_nil))))))
      (gss_cons (gs_ps (ps_set (i := 2) nd rfl (.inl rfl) (pe_op op_rep (pe_lst (pa_cons pe_int pa_nil)) (pe_callB (call_lenI T.lenC T.lenF ((ok_len T).raw T.b_rlen .nil) hr2 pass0) (by rfl) T.z_len PySem.boot_len (pa_cons (pv 0) pa_nil)))))
      (gss_cons (gs_ps (ps_setLc (i := 3) (own := [("reader", 6)]) rfl nd rfl rfl (sw_true rfl rfl rfl (by decide +kernel)) (pi_range1 (by rfl) T.z_range (pa_cons (pe_callB (call_lenI T.lenC T.lenF ((ok_len T).raw T.b_rlen .nil) hr2 pass0) (by rfl) T.z_len PySem.boot_len (pa_cons (pv 0) pa_nil)) pa_nil)) (blkOk_by (N := N_diary_of) (sc := defScope s_diary_of) (by decide +kernel)) (fun _ _ _ _ _ => pg_name (i := 6) nd rfl (.inl rfl))
          (fun _ _ _ _ _ => pts_nil)
          (fun _ _ _ _ _ => pe_call (ok_end T) hr3 (by rfl) T.g_end_day T.F_end_day.kp T.b_end_day .nil pass0 (pa_cons (pv 0) (pa_cons (pv 6) (pa_cons pe_int pa_nil))))))
      (gss_cons (gs_for owns_gcx rfl (pi_range1 (by rfl) T.z_range (pa_cons (pv 1) pa_nil)) (pg_name (i := 4) nd rfl (.inl rfl))
        (gss_cons (gs_ps (ps_set (i := 5) nd rfl (.inl rfl) (pe_callB (cr_min rfl) (by rfl) T.z_min (by decide +kernel) (pa_cons (pv 3) pa_nil))))
        (gss_cons (gs_ps (ps_set (i := 6) nd rfl (.inl rfl) (pe_bm PySem.F.plainAttrs_list PySem.F.slot_list_index PySem.F.type_list_index mt_index (pv 3) (pa_cons (pv 5) pa_nil))))
        (gss_cons (gs_yield (pe_tup (pa_cons (pv 5) (pa_cons (pv 6) (pa_cons (pe_call (ok_book T) hr (by rfl) T.g_book_of T.F_book_of.kp T.b_book_of .nil pass0 (pa_cons (pv 0) (pa_cons (pv 6) (pa_cons (pe_ix ix_list (pv 2) (pv 6) (fun _ _ => rfl)) pa_nil)))) pa_nil)))))
        (gss_cons (gs_ps (ps_augS (pv 2) (pv 6) get_listP pe_int ip_add set_list))
        (gss_cons (gs_ps (ps_asg (pe_call (ok_end T) hr3 (by rfl) T.g_end_day T.F_end_day.kp T.b_end_day .nil pass0 (pa_cons (pv 0) (pa_cons (pv 6) (pa_cons (pe_ix ix_list (pv 2) (pv 6) (fun _ _ => rfl)) pa_nil)))) (pg_sub (pv 3) (pv 6) set_list)))
        gss_nil)))))) gss_nil))), ?_⟩
    obtain ⟨M, hM, hMu⟩ := R.ok.max
    have RR := R.ok.ring hM hMu
    rcases hc with ⟨n, rfl, hn, q⟩ | ⟨hv, q⟩
    · refine ⟨_, rfl, _, 0, 500, true, rfl, lie_int (by omega) (by omega), fun _ => ?_, fun z => Bool.noConfusion z⟩
      refine ⟨(by show 1 ≤ sizeLine; decide), fun l0 hl0 => ?_⟩
      have l2 := R.ok.l2
      have l8 := R.ok.l8
      have s1 := same_upd (o := .lst [.int 0]) hl0
      have g1 : (upd H l0 (.lst [.int 0])) l0 = some (.lst [.int 0]) := upd_same
      have R1 := R.same s1
      generalize (upd H l0 (.lst [.int 0])) = H1 at s1 g1 R1
      refine ⟨.ref p, rfl, p, dx, _, rfl, R1.ob, p, dx, td, ts, ds, ss, rfl, R1, (ds.length : Int), rfl, by omega, by omega, l0, _, _, rfl, rfl, g1, by omega, by omega, ?_, fun nl hnl => ?_⟩
      · show 1 * _ ≤ sizeLine
        have := small1000 (n := 1 * ((ds.length : Nat) : Int).toNat) (by omega)
        omega
      rw [show ((ds.length : Nat) : Int).toNat = ds.length by omega, rep_zero]
      have s2 := same_upd (o := .lst (((List.range ds.length).map fun _ => (0 : Int)).map V.int)) hnl
      have g2 : (upd H1 nl (.lst (((List.range ds.length).map fun _ => (0 : Int)).map V.int))) nl = some (.lst (((List.range ds.length).map fun _ => (0 : Int)).map V.int)) := upd_same
      have R2 := R1.same s2
      have nl0 := same_none s1 hnl
      have s12 := s1.trans s2
      refine g_nm (g_nx ?_)
      show tGThen _ _ _ [] [some (.ref p), some (.int n), some (.ref nl), none, none, none, none] (upd H1 nl (.lst (((List.range ds.length).map fun _ => (0 : Int)).map V.int)))
      generalize (upd H1 nl (.lst (((List.range ds.length).map fun _ => (0 : Int)).map V.int))) = H2 at s2 g2 R2 s12
      refine ⟨.ref p, rfl, p, dx, _, rfl, R2.ob, p, dx, td, ts, ds, ss, rfl, R2, (ds.length : Int), rfl, by omega, by omega, _, rfl, by omega, by omega, fun el hel => lc_range (lo := 0) (n := ((ds.length : Nat) : Int).toNat) (fun i H' => Same H2 H' ∧ H' el = some (.lst (((List.range i).map fun (j : Nat) => Rm.E (at' ds) (at' ss) (j : Int) 0).map V.int))) ⟨same_upd hel, upd_same⟩ ?_ ?_⟩
      · rintro i H3 hi ⟨s3, g3⟩
        refine ⟨rfl, lc_keep ?_⟩
        refine ⟨_, rfl, _, rfl, p, dx, td, ts, ds, ss, _, 0, rfl, R2.same s3, by omega, by omega, by omega, ?_⟩
        refine ⟨_, g3, by rw [List.length_map, List.length_map, List.length_range]; exact small1000 (by omega), fun x o h => ?_, ?_⟩
        · rw [upd_ne (ne_of_none h hel)]
          exact s3 _ _ h
        · rw [upd_same, List.range_succ, List.map_append, List.map_append, show (0 : Int) + (i : Int) = i by omega]
          rfl
      rintro H3 ⟨s3, g3⟩
      rw [show ((ds.length : Nat) : Int).toNat = ds.length by omega] at g3
      have el0 : H el = none := same_none s12 hel
      have nne : nl ≠ el := ne_of_none g2 hel
      refine ⟨_, rfl, _, rfl, by omega, by omega, ?_⟩
      refine gfor_range (lo := 0) (n := ((n : Nat) : Int).toNat) (fun i ys σ H' => (∃ z4 z5 z6, σ = [some (.ref p), some (.int n), some (.ref nl), some (.ref el), z4, z5, z6]) ∧ Same H H' ∧ ∃ D k, k ≤ ds.length ∧ (Pre ds ss D k).length = i ∧ Tups H' ys (Pre ds ss D k) ∧
        H' nl = some (.lst (((List.range ds.length).map (cS ds ss D k)).map V.int)) ∧ H' el = some (.lst (((List.range ds.length).map fun (j : Nat) => Rm.E (at' ds) (at' ss) (j : Int) (cS ds ss D k j)).map V.int)))
        ⟨⟨_, _, _, rfl⟩, s12.trans s3, 0, 0, Nat.zero_le _, rfl, .nil, ?_, ?_⟩ ?_ ?_
      · rw [s3 _ _ g2, rg_eq fun j _ => (cS_zero RR j).symm]
      · rw [g3, rg_eq fun j _ => by rw [← cS_zero RR j]]
      · rintro i ys σ H4 hi ⟨⟨z4, z5, z6, rfl⟩, s4, D, k, hk, hlen, T4, gn, ge⟩
        have i500 : i < 500 := by omega
        obtain ⟨D', k', k1, e1, e2, e3, e4, e5⟩ := dnext RR (by omega) (D := D) hk
        have c0 := cS_nn RR D k k'
        have c1 := cS_len RR D k k' hk k1
        rw [hlen] at c1
        have R4 := R.same s4
        show tGThen _ _ _ ys [some (.ref p), some (.int n), some (.ref nl), some (.ref el), some (.int (0 + (i : Int))), z5, z6] H4
        refine ⟨_, rfl, el, _, rfl, .of ge, by rw [List.length_map, List.length_range]; omega, fun m hm hle => ?_⟩
        have em : m = ((D' : Nat) : Int) + 1 := by
          obtain ⟨j, hj, rfl⟩ := List.mem_map.mp hm
          have h1 := e2 j (List.mem_range.mp hj)
          have h2 := hle _ (List.mem_map.mpr ⟨k', List.mem_range.mpr k1, rfl⟩)
          rw [e1] at h2
          omega
        subst em
        refine g_nm (g_nx ?_)
        show tGThen _ _ _ ys [some (.ref p), some (.int n), some (.ref nl), some (.ref el), some (.int (0 + (i : Int))), some (.int (((D' : Nat) : Int) + 1)), z6] H4
        refine ⟨.ref el, rfl, .inl ⟨rfl, _, SqL.of ge⟩, _, rfl, el, _, .int (((D' : Nat) : Int) + 1), k', .int (((D' : Nat) : Int) + 1), rfl, rfl, SqL.of ge, rfl, ?_, by rw [get_rgI k1, e1], ?_, fun j z hj hz => ?_, ?_⟩
        · rw [List.all_eq_true]
          intro x hx
          obtain ⟨y, _, rfl⟩ := List.mem_map.mp hx
          rfl
        · show (((D' : Nat) : Int) + 1 == ((D' : Nat) : Int) + 1) = true
          exact beq_self_eq_true _
        · rw [get_rgI (by omega)] at hz
          cases hz
          show (_ == _) = false
          exact beq_eq_false_iff_ne.mpr (e3 j hj)
        refine g_nm (g_nx ?_)
        show tGThen _ _ _ ys [some (.ref p), some (.int n), some (.ref nl), some (.ref el), some (.int (0 + (i : Int))), some (.int (((D' : Nat) : Int) + 1)), some (.int (k' : Int))] H4
        have ly := T4.length
        refine ⟨by rw [ly, hlen]; exact small1000 (by omega), ?_⟩
        refine ⟨_, rfl, _, rfl, _, rfl, _, rfl, _, rfl, _, rfl, nl, _, _, _, rfl, rfl, .of gn, atI_nat (get_rgI k1), p, dx, td, ts, ds, ss, _, _, rfl, R4, by omega, by omega, c0, by omega, fun v H5 s5 hb => ⟨(by show 3 ≤ sizeLine; decide), fun t ht => ?_⟩⟩
        have ev := bk_of RR R.ok.ls hb
        subst ev
        have s6 := same_upd (o := .tup [.int (((D' : Nat) : Int) + 1), .int (k' : Int), .int (bk ss k' (cS ds ss D k k'))]) ht
        have g6 : (upd H5 t (.tup [.int (((D' : Nat) : Int) + 1), .int (k' : Int), .int (bk ss k' (cS ds ss D k k'))])) t = some (.tup [.int (((D' : Nat) : Int) + 1), .int (k' : Int), .int (bk ss k' (cS ds ss D k k'))]) := upd_same
        have s46 := s5.trans s6
        show tGThen _ _ _ (ys ++ [V.ref t]) [some (.ref p), some (.int n), some (.ref nl), some (.ref el), some (.int (0 + (i : Int))), some (.int (((D' : Nat) : Int) + 1)), some (.int (k' : Int))] (upd H5 t (.tup [.int (((D' : Nat) : Int) + 1), .int (k' : Int), .int (bk ss k' (cS ds ss D k k'))]))
        generalize (upd H5 t (.tup [.int (((D' : Nat) : Int) + 1), .int (k' : Int), .int (bk ss k' (cS ds ss D k k'))])) = H6 at s6 g6 s46
        have gn6 := s46 _ _ gn
        have ge6 := s46 _ _ ge
        have lnum : ∀ {f : Nat → Int}, k' < (((List.range ds.length).map f).map V.int).length := by
          intro f
          rw [List.length_map, List.length_map, List.length_range]
          exact k1
        refine ⟨_, rfl, _, rfl, nl, _, (k' : Int), _, rfl, rfl, .of gn6, by omega, by omega, by rw [Int.toNat_natCast]; exact get_rgI k1, _, _, rfl, rfl, nl, _, _, k', rfl, rfl, gn6, ixN_nat lnum, ?_⟩
        rw [rg_setI k1]
        have kn : ∀ {x o o'}, H6 x = some o → x ≠ nl → (upd H6 nl o') x = some o := fun h n1 => by
          rw [upd_ne n1]
          exact h
        have fn : ∀ {x o}, H x = some o → x ≠ nl := fun h => ne_of_none h nl0
        have fe : ∀ {x o}, H x = some o → x ≠ el := fun h => ne_of_none h el0
        have ge7 := kn (o' := .lst (((List.range ds.length).map fun j => if j = k' then cS ds ss D k k' + 1 else cS ds ss D k j).map V.int)) ge6 (Ne.symm nne)
        have g7 : (upd H6 nl (.lst (((List.range ds.length).map fun j => if j = k' then cS ds ss D k k' + 1 else cS ds ss D k j).map V.int))) nl = some (.lst (((List.range ds.length).map fun j => if j = k' then cS ds ss D k k' + 1 else cS ds ss D k j).map V.int)) := upd_same
        have R7 : RingAt T.C (upd H6 nl (.lst (((List.range ds.length).map fun j => if j = k' then cS ds ss D k k' + 1 else cS ds ss D k j).map V.int))) p dx td ts ds ss :=
          ⟨kn (s46 _ _ (s4 _ _ R.ob)) (fn R.ob), kn (s46 _ _ (s4 _ _ R.td)) (fn R.td), kn (s46 _ _ (s4 _ _ R.ts)) (fn R.ts), R.ok⟩
        have k7 : ∀ {x o}, H x = some o → (upd H6 nl (.lst (((List.range ds.length).map fun j => if j = k' then cS ds ss D k k' + 1 else cS ds ss D k j).map V.int))) x = some o := fun h => kn (s46 _ _ (s4 _ _ h)) (fn h)
        have T7 : Tups (upd H6 nl (.lst (((List.range ds.length).map fun j => if j = k' then cS ds ss D k k' + 1 else cS ds ss D k j).map V.int))) (ys ++ [V.ref t]) (Pre ds ss D' (k' + 1)) := by
          rw [e4]
          refine Tups.snoc (l := [((D' : Nat) : Int) + 1, (k' : Int), bk ss k' (cS ds ss D k k')]) ⟨t, rfl, kn g6 (ne_of g6 gn6 (by intro z; cases z))⟩ (T4.mono fun b xs h => kn (s46 _ _ h) (ne_of (s46 _ _ h) gn6 (by intro z; cases z)))
        refine g_nx ?_
        show tGThen _ _ _ (ys ++ [V.ref t]) [some (.ref p), some (.int n), some (.ref nl), some (.ref el), some (.int (0 + (i : Int))), some (.int (((D' : Nat) : Int) + 1)), some (.int (k' : Int))] (upd H6 nl (.lst (((List.range ds.length).map fun j => if j = k' then cS ds ss D k k' + 1 else cS ds ss D k j).map V.int)))
        generalize (upd H6 nl (.lst (((List.range ds.length).map fun j => if j = k' then cS ds ss D k k' + 1 else cS ds ss D k j).map V.int))) = H7 at ge7 g7 R7 k7 T7
        refine ⟨_, rfl, _, rfl, _, rfl, _, rfl, nl, _, _, _, rfl, rfl, .of g7, atI_nat (get_rgI k1), p, dx, td, ts, ds, ss, _, _, rfl, R7, by omega, by omega, ?_, ?_⟩
        · rw [if_pos rfl]
          omega
        refine ⟨_, rfl, _, rfl, el, _, _, k', rfl, rfl, ge7, ixN_nat lnum, ?_⟩
        rw [rg_setI k1, if_pos rfl]
        refine ⟨⟨_, _, _, rfl⟩, fun x o h => by rw [upd_ne (fe h)]; exact k7 h, D', k' + 1, k1, by rw [e4, List.length_append, hlen]; rfl, T7.mono fun b xs h => by rw [upd_ne (ne_of h ge7 (by intro z; cases z))]; exact h, ?_, ?_⟩
        · rw [upd_ne nne, g7]
          refine congrArg (fun l => some (HO.lst (l.map V.int))) (rg_eq fun j hj => ?_)
          rw [e5 j hj]
          split
          · rename_i e
            rw [e]
          · rfl
        · rw [upd_same]
          refine congrArg (fun l => some (HO.lst (l.map V.int))) (rg_eq fun j hj => ?_)
          rw [e5 j hj]
          split
          · rename_i e
            rw [e]
          · rfl
      · rintro ys σ H4 ⟨⟨z4, z5, z6, rfl⟩, s4, D, k, hk, hlen, T4, gn, ge⟩
        exact q ys H4 D k hk (by omega) s4 T4
    · exact ⟨c, rfl, c, 0, 500, false, rfl, hv, fun z => Bool.noConfusion z, fun _ => q⟩
end
end Rp
/-! isinstance of a caught error of an own class that has a dict of its own. -/
namespace Rp
open PySem PySem.Spec PySem.Calls PyProof.Rows PySem.W
theorem kit_exc {K : Frag} {e D : Addr} {oe : Obj} {od : Option Obj} (C : L2.ExcC K D) : KitX K (.ref e) (.ref D) (fun h => InstAt h e oe D od) :=
  kitx_exc (by obtain ⟨cd, hcd, _⟩ := any_some C.hd; exact Option.isSome_iff_exists.mpr ⟨cd, hcd⟩) C.hg C.hk C.hs C.ha C.hn C.ht C.hm
end Rp
namespace Rp
open PySem PySem.Spec PyProof.Rows L2
/-- isinstance(e, c), e the exception that the suite holds, its dict at dd -/
theorem call_isF {X : Cx} {a D dd : Addr} {oe : Obj} {pn : List (Addr × Obj)} (C : ExcC X.K D) (hz : Zc (.ref D) (some dd) oe) (hf : ∃ vs, oe.data = .fields vs) :
    CallR (X.suite a ((a, oe) :: pn)) (.builtin "isinstance") (fun xs H Q => (∃ fs, H dd = some (.xd fs)) ∧ rIsE X.K D a xs H Q) := by
  intro pins s σ H xs us Q I r h
  obtain ⟨⟨fs, hd⟩, c, cv, b, rfl, hcv, e, q⟩ := h
  match us, r with
  | [_, _], .cons rx (.cons rt .nil) =>
    cases rx
    have ec := hcv _ rt
    subst ec
    obtain ⟨at0, _⟩ := I.pin (a, oe) (List.mem_append.mpr (.inl List.mem_cons_self))
    obtain ⟨mA, hns, _⟩ := (show ObjOk X.prog X.w H s.heap dd (.xd fs) from I.hok dd _ hd)
    obtain ⟨o2, ho2, _⟩ := lookIn_ns hns
    obtain ⟨vs, hv⟩ := hf
    have J : PySem.W.InstAt s.heap a oe D (some o2) := ⟨at0, hz.1, by unfold PySem.W.notCls; rw [hv] <;> rfl, by rw [hz.2]; exact ho2⟩
    exact PySem.W.kia_one (kit_exc C) I.kIn J e (fun z => nomatch z) fun tk => ⟨.bl b, H, I.kept (t' := tk) fun _ _ z => z, rfl, q⟩
end Rp
/-! DiaryError(entry): made, raised. -/
namespace Rp
open PySem PySem.Spec PyProof.Rows L2 Rz Rm Rt Rl LamX
/-- what ReadingError.__init__ is, and that DiaryError has no class field entry -/
structure RdF {K : PySem.W.Frag} {mg : Str → Option Value} (S : RdS K mg) : Prop where
  rd : ClX.CRead K S.cE (.type "type")
  vi : PySem.W.findCls K (.ref S.cE) (.type "type") "__init__" = some (.val (.builtin "ValueError.__init__"))
  nx : PySem.W.findIn K (.ref S.k5) "entry" = some none
  xf : XfC K S.k5
  rs : PySem.W.subIn K (.ref S.k5) (.type "BaseException") = some true ∧ PySem.W.typeIn K (.ref S.k5) = some (.type "type")
  ex : ExcC K S.k5
  ee : PySem.W.exmOne K (.ref S.k5) (.ref S.cE) = some true
  q0 : PySem.W.kitOne K (.ref S.k5) (.ref S.k0) = some false
  q1 : PySem.W.kitOne K (.ref S.k5) (.ref S.k1) = some false
  q2 : PySem.W.kitOne K (.ref S.k5) (.ref S.k2) = some false
  q3 : PySem.W.kitOne K (.ref S.k5) (.ref S.k3) = some false
  q4 : PySem.W.kitOne K (.ref S.k5) (.ref S.k4) = some false
  q5 : PySem.W.kitOne K (.ref S.k5) (.ref S.k5) = some true
  q6 : PySem.W.kitOne K (.ref S.k5) (.ref S.k6) = some false
  q7 : PySem.W.kitOne K (.ref S.k5) (.ref S.k7) = some false
  q8 : PySem.W.kitOne K (.ref S.k5) (.ref S.k8) = some false
  q9 : PySem.W.kitOne K (.ref S.k5) (.ref S.k9) = some false
  q10 : PySem.W.kitOne K (.ref S.k5) (.ref S.k10) = some false
  qv : PySem.W.kitOne K (.ref S.k5) (.type "ValueError") = some true
theorem txt_len (a b : Str) : (a ++ b).length = a.length + b.length := strLen_append a b
section
variable {P : Program} {w : World} {K : PySem.W.Frag} {mg : Str → Option Value} {base : Heap}
/-- DiaryError.__init__ -/
def spDe (c : Addr) : Sp := fun vs H Q _ => ∃ (a : Addr) (i : Int), vs = [.ref a, .int i] ∧ H a = some (exo a c none) ∧ 0 ≤ i ∧ i < 1900 ∧ ∀ dx, H dx = none → dx ≠ a → Q .non (upd (upd H dx (exd dx [("entry", .int i)])) a (exo a c (some dx)))
theorem ok_de {S : RdS K mg} (T : Tx K mg) (B : RdF S) (eq : T.c_iDiaryError = S.k5) : FnOk P w K mg base CX0 1 T.a_iDiaryError T.d_iDiaryError P_iDiaryError (spDe S.k5) := by
  refine T.F_iDiaryError.ok sc_iDiaryError (fun vs H Q E h => ?_) (fun cdv A outer s H vs Q E hr h => ?_)
  · obtain ⟨a, i, rfl, _⟩ := h
    rfl
  · obtain ⟨a, i, rfl, ha, i0, i1, q⟩ := h
    have OX : OexC K S.k5 := by rw [← eq]; exact oxB_ok T.io_iDiaryError
    refine ⟨_, pss_cons (ps_expr (pe_reinit (by rfl) S.gE B.rd B.vi (pa_cons (pv 0) (pa_cons (pe_joined (.cons pe_str (.cons (pe_fmt (pv 1)) .nil))) pa_nil))))
      (pss_one (ps_ost (pv 0) (pv 1))), ?_⟩
    have hl : i.natAbs.log2 < 1920 := Nat.lt_of_le_of_lt (Nat.log2_le_self _) (by omega)
    have ht := PyProof.Rows.int_text_len_1921 hl
    refine ⟨_, rfl, _, rfl, by decide, _, rfl, .inr ⟨i, rfl, hl, _, rfl, ?_, a, S.k5, _, rfl, by show 1 ≤ 1000; decide, OX, ha, ?_⟩⟩
    · rw [txt_len]
      refine Nat.le_trans (Nat.add_le_add (by decide +kernel : _ ≤ 100) ht) (by rw [sizeLine_eq]; decide)
    · exact ⟨_, rfl, _, rfl, a, S.k5, rfl, OX, B.nx, .inl ⟨ha, fun dx n ne => q dx n ne⟩⟩
theorem de_go {C : Addr} {H1 : Hp} {Q : XK} {i : Int} (i0 : 0 ≤ i) (i1 : i < 1900) (q : ∀ (dd : Addr) (H2 : Hp), Same H1 H2 → H2 dd = some (.xd [("entry", .int i)]) → Q (.ref C) (some dd) H2) :
    ([V.int i] : List V).length ≤ 1000 ∧ ∀ a, H1 a = none → spDe C (.ref a :: ([V.int i] ++ [])) (upd H1 a (exo a C none))
      (fun v H2 => v = .non ∧ ∃ (d : Addr) (fs : List (Str × V)), H2 a = some (exo a C (some d)) ∧ H2 d = some (exd d fs) ∧ H1 d = none ∧ Q (.ref C) (some d) (upd (del H2 a) d (.xd fs))) (fun _ _ _ => False) := by
  refine ⟨by show 1 ≤ 1000; decide, fun a ha => ⟨a, i, rfl, upd_same, i0, i1, fun dx hdx ne => ?_⟩⟩
  rw [upd_ne ne] at hdx
  refine ⟨rfl, dx, _, upd_same, (upd_ne ne).trans upd_same, hdx, q dx _ (fun b o e => ?_) upd_same⟩
  have n1 : b ≠ a := ne_of_none e ha
  have n2 : b ≠ dx := ne_of_none e hdx
  rw [upd_ne n2, del_ne n1, upd_ne n1, upd_ne n2, upd_ne n1]
  exact e
end
end Rp
/-! _law_raised: DiaryError with its entry. -/
namespace Rp
open PySem PySem.Spec PyProof.Rows L2 Rz Rm Rt Rl LamX
section
variable {X : Cx} {g f : Addr} {cdg : Value} {s : Shared} {H : Hp} {K : PySem.W.Frag} {mg : Str → Option Value}
/-- the word for DiaryError(entry) -/
def DeTold (v : V) (Q : VK) (H1 : Hp) : Prop := ∀ (p : Addr) (H' : Hp), (∀ b o, H1 b = some o → H' b = some o) → H1 p = none → H' p = some (.tup [.str "diary", v]) → Q (.ref p) H'
theorem raised_suite1 {S : RdS X.K X.mg} (B : RdF S) {a dd : Addr} {oe : Obj} {pn : List (Addr × Obj)} (hz : Zc (.ref S.k5) (some dd) oe) (hf : ∃ vs, oe.data = .fields vs)
    {DD : Ends} {wv y2 y3 : Option V} {H1 : Hp} {Q : VK} {v : V} (hrt : DD.rt = Q) (hd : H1 dd = some (.xd [("entry", v)])) (q : DeTold v Q H1) :
    ∃ t, PSs ((rsCx X g cdg s H).suite a ((a, oe) :: pn)) rsSuite t ∧ t DD [wv, some (.ref a), y2, y3] H1 := by
  have nd := sc_lraised.nd
  subst hrt
  refine ⟨_, pss_cons (ps_set (i := 2) nd rfl (.inl rfl) (pe_lst (pa_cons (pe_callB (call_isF B.ex hz hf) (by rfl) S.zI (by decide +kernel) (pa_cons (pv 1) (pa_cons (pe_glob (v := .ref S.k0) (by rfl) S.g0 rfl) pa_nil))) (pa_cons (pe_callB (call_isF B.ex hz hf) (by rfl) S.zI (by decide +kernel) (pa_cons (pv 1) (pa_cons (pe_glob (v := .ref S.k1) (by rfl) S.g1 rfl) pa_nil))) (pa_cons (pe_callB (call_isF B.ex hz hf) (by rfl) S.zI (by decide +kernel) (pa_cons (pv 1) (pa_cons (pe_glob (v := .ref S.k2) (by rfl) S.g2 rfl) pa_nil))) pa_nil)))))
    (pss_cons (ps_set (i := 2) nd rfl (.inl rfl) (pe_op op_cat (pv 2) (pe_lst (pa_cons (pe_callB (call_isF B.ex hz hf) (by rfl) S.zI (by decide +kernel) (pa_cons (pv 1) (pa_cons (pe_glob (v := .ref S.k3) (by rfl) S.g3 rfl) pa_nil))) (pa_cons (pe_callB (call_isF B.ex hz hf) (by rfl) S.zI (by decide +kernel) (pa_cons (pv 1) (pa_cons (pe_glob (v := .ref S.k4) (by rfl) S.g4 rfl) pa_nil))) (pa_cons (pe_callB (call_isF B.ex hz hf) (by rfl) S.zI (by decide +kernel) (pa_cons (pv 1) (pa_cons (pe_glob (v := .ref S.k5) (by rfl) S.g5 rfl) pa_nil))) pa_nil))))))
    (pss_cons (ps_set (i := 2) nd rfl (.inl rfl) (pe_op op_cat (pv 2) (pe_lst (pa_cons (pe_callB (call_isF B.ex hz hf) (by rfl) S.zI (by decide +kernel) (pa_cons (pv 1) (pa_cons (pe_glob (v := .ref S.k6) (by rfl) S.g6 rfl) pa_nil))) (pa_cons (pe_callB (call_isF B.ex hz hf) (by rfl) S.zI (by decide +kernel) (pa_cons (pv 1) (pa_cons (pe_glob (v := .ref S.k7) (by rfl) S.g7 rfl) pa_nil))) (pa_cons (pe_callB (call_isF B.ex hz hf) (by rfl) S.zI (by decide +kernel) (pa_cons (pv 1) (pa_cons (pe_glob (v := .ref S.k8) (by rfl) S.g8 rfl) pa_nil))) pa_nil))))))
    (pss_cons (ps_set (i := 2) nd rfl (.inl rfl) (pe_op op_cat (pv 2) (pe_lst (pa_cons (pe_callB (call_isF B.ex hz hf) (by rfl) S.zI (by decide +kernel) (pa_cons (pv 1) (pa_cons (pe_glob (v := .ref S.k9) (by rfl) S.g9 rfl) pa_nil))) (pa_cons (pe_callB (call_isF B.ex hz hf) (by rfl) S.zI (by decide +kernel) (pa_cons (pv 1) (pa_cons (pe_glob (v := .ref S.k10) (by rfl) S.g10 rfl) pa_nil))) pa_nil)))))
    (pss_cons (ps_if (PW.pt (pw_or (pt_cmpR op_ne (pe_bm PySem.F.plainAttrs_list PySem.F.slot_list_count PySem.F.type_list_count mt_countV (pv 2) (pa_cons pe_bl pa_nil)) pe_int (nomark _))
        (pw_or1 (pt_not (pt_val (pe_callB (call_isF B.ex hz hf) (by rfl) S.zI (by decide +kernel) (pa_cons (pv 1) (pa_cons (pe_bltn (v := .ty "ValueError") (u := .type "ValueError") (by rfl) S.zV (by decide +kernel) rfl) pa_nil)))))))) (pss_one ps_never) pss_nil)
    (pss_cons (ps_set (i := 3) nd rfl (.inl rfl) (pe_bm PySem.F.plainAttrs_list PySem.F.slot_list_index PySem.F.type_list_index mt_index (pv 2) (pa_cons pe_bl pa_nil)))
    (pss_cons (ps_if (pt_cmpR op_eq (pv 3) pe_int (nomark _)) (pss_one ps_never) pss_nil)
    (pss_cons (ps_if (pt_cmpR op_eq (pv 3) pe_int (nomark _)) (pss_one ps_never) pss_nil)
    (pss_cons (ps_if (pt_cmpR op_eq (pv 3) pe_int (nomark _)) (pss_one ps_never) pss_nil)
    (pss_cons (ps_if (pt_cmpR op_eq (pv 3) pe_int (nomark _)) (pss_one ps_never) pss_nil)
    (pss_cons (ps_if (pt_cmpR op_eq (pv 3) pe_int (nomark _)) (pss_one ps_never) pss_nil)
    (pss_cons (ps_if (pt_cmpR op_eq (pv 3) pe_int (nomark _)) (pss_one (ps_ret (pe_tup (pa_cons pe_str (pa_cons (pe_xf B.xf B.nx hz hf (pv 1)) pa_nil))))) pss_nil)
    pss_never))))))))))), ?_⟩
  refine ⟨.ref a, rfl, ⟨_, hd⟩, .ref S.k0, .ref S.k0, _, rfl, fun u h => h, B.q0, .ref a, rfl, ⟨_, hd⟩, .ref S.k1, .ref S.k1, _, rfl, fun u h => h, B.q1, .ref a, rfl, ⟨_, hd⟩, .ref S.k2, .ref S.k2, _, rfl, fun u h => h, B.q2, (by show 3 ≤ sizeLine; decide), fun p1 hp1 => ?_⟩
  have s1 : ∀ b o, H1 b = some o → (upd H1 p1 (.lst (L3 5))) b = some o := fun b o e => (upd_ne (ne_of_none e hp1)).trans e
  have g1 : (upd H1 p1 (.lst (L3 5))) p1 = some (.lst (L3 5)) := upd_same
  have n0 : ∀ {p : Addr} {H2 : Hp}, (∀ b o, H1 b = some o → H2 b = some o) → H2 p = none → H1 p = none := fun {p H2} k h => by
    cases e : H1 p with
    | none => rfl
    | some o =>
      have := k _ _ e
      rw [h] at this
      cases this
  show tSeq _ _ _ [wv, some (.ref a), some (.ref p1), y3] (upd H1 p1 (.lst (L3 5)))
  generalize (upd H1 p1 (.lst (L3 5))) = H2 at s1 g1 ⊢
  refine ⟨.ref p1, rfl, .ref a, rfl, ⟨_, s1 _ _ hd⟩, .ref S.k3, .ref S.k3, _, rfl, fun u h => h, B.q3, .ref a, rfl, ⟨_, s1 _ _ hd⟩, .ref S.k4, .ref S.k4, _, rfl, fun u h => h, B.q4, .ref a, rfl, ⟨_, s1 _ _ hd⟩, .ref S.k5, .ref S.k5, _, rfl, fun u h => h, B.q5, (by show 3 ≤ sizeLine; decide), fun p2 hp2 => ?_⟩
  have sa0 : ∀ b o, H2 b = some o → (upd H2 p2 (.lst [.bl false, .bl false, .bl true])) b = some o := fun b o e => (upd_ne (ne_of_none e hp2)).trans e
  have ga0 : (upd H2 p2 (.lst [.bl false, .bl false, .bl true])) p2 = some (.lst [.bl false, .bl false, .bl true]) := upd_same
  generalize (upd H2 p2 (.lst [.bl false, .bl false, .bl true])) = H3 at sa0 ga0 ⊢
  refine ⟨p1, p2, _, _, rfl, rfl, sa0 _ _ g1, ga0, (by show 3 + 3 ≤ sizeLine; decide), fun p3 hp3 => ?_⟩
  have sb0 : ∀ b o, H3 b = some o → (upd H3 p3 (.lst (L6 5))) b = some o := fun b o e => (upd_ne (ne_of_none e hp3)).trans e
  have gb0 : (upd H3 p3 (.lst (L6 5))) p3 = some (.lst (L6 5)) := upd_same
  show tSeq _ _ _ [wv, some (.ref a), some (.ref p3), y3] (upd H3 p3 (.lst (L6 5)))
  generalize (upd H3 p3 (.lst (L6 5))) = H4 at sb0 gb0 ⊢
  have st0 : ∀ b o, H1 b = some o → H4 b = some o := fun b o e => sb0 _ _ (sa0 _ _ (s1 _ _ e))
  refine ⟨.ref p3, rfl, .ref a, rfl, ⟨_, st0 _ _ hd⟩, .ref S.k6, .ref S.k6, _, rfl, fun u h => h, B.q6, .ref a, rfl, ⟨_, st0 _ _ hd⟩, .ref S.k7, .ref S.k7, _, rfl, fun u h => h, B.q7, .ref a, rfl, ⟨_, st0 _ _ hd⟩, .ref S.k8, .ref S.k8, _, rfl, fun u h => h, B.q8, (by show 3 ≤ sizeLine; decide), fun p4 hp4 => ?_⟩
  have sa1 : ∀ b o, H4 b = some o → (upd H4 p4 (.lst [.bl false, .bl false, .bl false])) b = some o := fun b o e => (upd_ne (ne_of_none e hp4)).trans e
  have ga1 : (upd H4 p4 (.lst [.bl false, .bl false, .bl false])) p4 = some (.lst [.bl false, .bl false, .bl false]) := upd_same
  generalize (upd H4 p4 (.lst [.bl false, .bl false, .bl false])) = H5 at sa1 ga1 ⊢
  refine ⟨p3, p4, _, _, rfl, rfl, sa1 _ _ gb0, ga1, (by show 6 + 3 ≤ sizeLine; decide), fun p5 hp5 => ?_⟩
  have sb1 : ∀ b o, H5 b = some o → (upd H5 p5 (.lst (L9 5))) b = some o := fun b o e => (upd_ne (ne_of_none e hp5)).trans e
  have gb1 : (upd H5 p5 (.lst (L9 5))) p5 = some (.lst (L9 5)) := upd_same
  show tSeq _ _ _ [wv, some (.ref a), some (.ref p5), y3] (upd H5 p5 (.lst (L9 5)))
  generalize (upd H5 p5 (.lst (L9 5))) = H6 at sb1 gb1 ⊢
  have st1 : ∀ b o, H1 b = some o → H6 b = some o := fun b o e => sb1 _ _ (sa1 _ _ (st0 _ _ e))
  refine ⟨.ref p5, rfl, .ref a, rfl, ⟨_, st1 _ _ hd⟩, .ref S.k9, .ref S.k9, _, rfl, fun u h => h, B.q9, .ref a, rfl, ⟨_, st1 _ _ hd⟩, .ref S.k10, .ref S.k10, _, rfl, fun u h => h, B.q10, (by show 2 ≤ sizeLine; decide), fun p6 hp6 => ?_⟩
  have sa2 : ∀ b o, H6 b = some o → (upd H6 p6 (.lst [.bl false, .bl false])) b = some o := fun b o e => (upd_ne (ne_of_none e hp6)).trans e
  have ga2 : (upd H6 p6 (.lst [.bl false, .bl false])) p6 = some (.lst [.bl false, .bl false]) := upd_same
  generalize (upd H6 p6 (.lst [.bl false, .bl false])) = H7 at sa2 ga2 ⊢
  refine ⟨p5, p6, _, _, rfl, rfl, sa2 _ _ gb1, ga2, (by show 9 + 2 ≤ sizeLine; decide), fun p7 hp7 => ?_⟩
  have sb2 : ∀ b o, H7 b = some o → (upd H7 p7 (.lst (L11 5))) b = some o := fun b o e => (upd_ne (ne_of_none e hp7)).trans e
  have gb2 : (upd H7 p7 (.lst (L11 5))) p7 = some (.lst (L11 5)) := upd_same
  show tSeq _ _ _ [wv, some (.ref a), some (.ref p7), y3] (upd H7 p7 (.lst (L11 5)))
  generalize (upd H7 p7 (.lst (L11 5))) = H8 at sb2 gb2 ⊢
  have st2 : ∀ b o, H1 b = some o → H8 b = some o := fun b o e => sb2 _ _ (sa2 _ _ (st1 _ _ e))
  have hcnt : List.countP (fun z => eqV z (.bl true)) (L11 5) = 1 := rfl
  have hget : (L11 5)[5]? = some (.bl true) := rfl
  have hno : ∀ (m : Nat) (z' : V), m < 5 → (L11 5)[m]? = some z' → eqV z' (.bl true) = false := by
    intro m z' hm e
    have hm' : m = 0 ∨ m = 1 ∨ m = 2 ∨ m = 3 ∨ m = 4 := by omega
    rcases hm' with rfl | rfl | rfl | rfl | rfl <;> (cases e; rfl)
  have hflat : (L11 5).all flatV = true := rfl
  refine ⟨.ref p7, rfl, .inl ⟨rfl, _, SqL.of gb2⟩, p7, _, .bl true, rfl, rfl, SqL.of gb2, rfl, hflat, ?_⟩
  rw [hcnt]
  refine ⟨rfl, _, rfl, iteNS rfl ?_⟩
  refine ⟨.ref a, rfl, ⟨_, st2 _ _ hd⟩, .ty "ValueError", .type "ValueError", true, rfl, fun u h => h, B.qv, true, rfl, iteF ?_⟩
  refine ⟨.ref p7, rfl, .inl ⟨rfl, _, SqL.of gb2⟩, p7, _, .bl true, 5, .bl true, rfl, rfl, SqL.of gb2, rfl, hflat, hget, rfl, hno, ?_⟩
  show tSeq _ _ _ [wv, some (.ref a), some (.ref p7), some (.int ((5 : Nat) : Int))] H8
  refine ⟨_, rfl, rfl, _, rfl, iteF ?_⟩
  refine ⟨_, rfl, rfl, _, rfl, iteF ?_⟩
  refine ⟨_, rfl, rfl, _, rfl, iteF ?_⟩
  refine ⟨_, rfl, rfl, _, rfl, iteF ?_⟩
  refine ⟨_, rfl, rfl, _, rfl, iteF ?_⟩
  refine ⟨_, rfl, rfl, _, rfl, iteT ?_⟩
  refine ⟨.ref a, rfl, rfl, rfl, dd, _, v, rfl, st2 _ _ hd, rfl, (by show 2 ≤ sizeLine; decide), fun p9 hp9 => ?_⟩
  exact q p9 _ (fun b o e => (upd_ne (ne_of_none (st2 b o e) hp9)).trans (st2 b o e)) (n0 st2 hp9) upd_same
/-- how it ends: None, or the word, with or without a field -/
def RsO1 {K : PySem.W.Frag} {mg : Str → Option Value} (S : RdS K mg) (Q : VK) : XK := fun cls d H => RsO S Q cls d H ∨ ∃ (dd : Addr) (v : V), cls = .ref S.k5 ∧ d = some dd ∧ H dd = some (.xd [("entry", v)]) ∧ DeTold v Q H
def TRs1 {K : PySem.W.Frag} {mg : Str → Option Value} (S : RdS K mg) : (XK → Hp → VK → Prop) → Hp → VK → Prop := fun tl H Q => ∀ E : XK, (∀ cls d H', RsO1 S Q cls d H' → E cls d H') → tl E H fun _ H' => Q .non H'
theorem gives_raised1 {S : RdS X.K X.mg} (B : RdF S) : GivesV X N_lraised "_law_raised" (defScope s_lraised) g cdg (defBody s_lraised) "_law_work" (TRs1 S) := by
  intro f RR s H Q tl hact hR ht
  have nd := sc_lraised.nd
  refine ⟨_, pss_cons (ps_try_as (i := 1) (c := .ref S.cE) (Wout := fun _ _ _ _ => False)
    (ts := fun a cls d DD σ1 H1 => ∀ (oe : Obj) (pn : List (Addr × Obj)), Zc cls d oe → (∃ vs, oe.data = .fields vs) → ∃ t, PSs ((rsCx X g cdg s H).suite a ((a, oe) :: pn)) rsSuite t ∧ t DD σ1 H1)
    rfl rfl nd rfl rfl ⟨rfl, by decide, Or.inl S.gE⟩ LamX.takes0
    (fun W pn xe tk _ => pss_one (ps_expr (hact W pn xe _ _ tk)))
    (fun a oe cls d pn hz hf => ⟨fun pins s1 σ1 H1 DD I h => by
      obtain ⟨t, ht, hh⟩ := h oe pn hz hf
      exact ht.run pins s1 σ1 H1 DD I hh⟩)) (pss_one (ps_ret pe_non)), ?_⟩
  refine ⟨rfl, hR, ht _ fun cls d H' hto => ?_⟩
  rcases hto with ⟨D, j, rfl, rfl, R, q⟩ | ⟨dd, v, rfl, rfl, hd, q⟩
  · refine ⟨true, R.ee, fun _ a ha oe pn hz hf => ?_, fun z => Bool.noConfusion z⟩
    exact raised_suite S R hz hf rfl q
  · refine ⟨true, B.ee, fun _ a ha oe pn hz hf => ?_, fun z => Bool.noConfusion z⟩
    exact raised_suite1 B hz hf rfl hd q
end
end Rp
/-! is_same_number, can_be. -/
namespace Rp
open PySem PySem.Spec PyProof.Rows L2 Rz Rm Rl LamX
open RZ (ItzT pi_zipA iZipA)
/-- a comprehension over zip of two tuples -/
theorem lc_zipT {K : PySem.W.Frag} {a b : Addr} {xs ys : List V} {g : TG} {tt : TT} {te : TE} {vs : List Nat} {σ : L2.St} {H1 : Hp} {D : Addr} {Qd : Hp → Prop} (hlen : xs.length = ys.length) (Pv : Nat → Hp → Prop) (h0 : Pv 0 (upd H1 D (.lst []))) (hl : ∀ i H, i ≤ xs.length → Pv i H → SqT K H a xs ∧ SqT K H b ys)
    (hs : ∀ (i : Nat) (x y : V) (T : Addr) (H : Hp), xs[i]? = some x → ys[i]? = some y → Pv i H → H T = none → g (.ref T) (wipe σ vs) (upd H T (.tup [x, y])) fun σ2 H2 => wipe σ2 vs = wipe σ vs ∧ tt σ2 H2 fun b H3 =>
      if b = true then te σ2 H3 fun y H4 => ∃ acc, H4 D = some (.lst acc) ∧ acc.length < sizeLine ∧ Pv (i + 1) (upd H4 D (.lst (acc ++ [y]))) else Pv (i + 1) H3) (hd : ∀ H, Pv xs.length H → Qd H) :
    ∃ W : Nat → Nat → Hp → Prop, (∃ m, W 0 m (upd H1 D (.lst []))) ∧ ∀ i m H, W i m H →
      ((ItzT K a b).stop i H ∧ Qd H) ∨ ((ItzT K a b).go i H ∧ ∃ Nx : Hp → Prop, (∀ H', Nx H' → ∃ m', m' < m ∧ W (i + 1) m' H') ∧ ∀ x H', (ItzT K a b).yld i H x H' → g x (wipe σ vs) H' fun σ2 H2 => wipe σ2 vs = wipe σ vs ∧ tt σ2 H2 fun b H3 =>
        if b = true then te σ2 H3 fun y H4 => ∃ acc, H4 D = some (.lst acc) ∧ acc.length < sizeLine ∧ Nx (upd H4 D (.lst (acc ++ [y]))) else Nx H3) := by
  refine ⟨fun i m H => m = xs.length - i ∧ i ≤ xs.length ∧ Pv i H, ⟨xs.length, by simp, Nat.zero_le _, h0⟩, ?_⟩
  rintro i m H ⟨rfl, hi, p⟩
  obtain ⟨q1, q2⟩ := hl i H hi p
  by_cases hlt : i < xs.length
  · have hlt2 : i < ys.length := by omega
    refine .inr ⟨⟨xs, ys, xs[i], ys[i], q1, q2, by simp [hlt], by simp [hlt2]⟩, Pv (i + 1), fun H' p' => ⟨xs.length - (i + 1), by omega, rfl, hlt, p'⟩, fun x H' y => ?_⟩
    obtain ⟨T, x', y', rfl, hT, rfl, f1, f2⟩ := y
    exact hs i x' y' T H (f1 xs q1) (f2 ys q2) p hT
  · have e : i = xs.length := by omega
    subst e
    exact .inl ⟨⟨xs, ys, q1, q2, .inl (Nat.le_refl _)⟩, hd H p⟩
theorem pg_two {X : Cx} {K : PySem.W.Frag} {x y : Str} {p1 p2 pos : Pos} {k i j : Nat} (hc : X.calm = true) (hN : X.N.Nodup) (hi : X.N[i]? = some x) (hj : X.N[j]? = some y) (hx : X.env.scope.names.lookup x = some .local) (hy : X.env.scope.names.lookup y = some .local) (hK : X.K = K) :
    PG X (.Tuple [.Name x p1, .Name y p2] k pos) (gTup K 2 (gCons (gName i) (gCons (gName j) gNil))) := by
  subst hK
  exact pg_tup hc (pgs_cons (pg_name hN hi (.inl hx) (.inr hx)) (pgs_cons (pg_name hN hj (.inl hy) (.inr hy)) pgs_nil))
/-- what may stand in an entry -/
def ItV (v : V) : Prop := v = .non ∨ (∃ i, v = .int i) ∨ (∃ b, v = .bl b) ∨ ∃ s, v = .str s
/-- just this number -/
def sameI : V → Int → Bool
  | .int i, y => decide (i = y)
  | _, _ => false
/-- torn out, or just this number -/
def okI : V → Int → Bool
  | .non, _ => true
  | v, y => sameI v y
def canT (xs : List V) (l : List Int) : Bool := decide (xs.length = l.length) && ((xs.zip l).map fun z => okI z.1 z.2).all id
/-- a value can be an entry l, or not -/
def CanV (H : Hp) (v : V) (l : List Int) (b : Bool) : Prop := (∃ (t : Addr) (xs : List V), v = .ref t ∧ H t = some (.tup xs) ∧ (∀ x ∈ xs, ItV x) ∧ xs.length ≤ 10 ∧ b = canT xs l) ∨ ((v = .non ∨ ∃ (p : Addr) (xs : List V), v = .ref p ∧ H p = some (.lst xs)) ∧ b = false)
theorem CanV.same {H H' : Hp} (s : Same H H') {v : V} {l : List Int} {b : Bool} (h : CanV H v l b) : CanV H' v l b := by
  rcases h with ⟨t, xs, h1, h2, h3⟩ | ⟨h1 | ⟨p, xs, h1, h2⟩, h3⟩
  · exact .inl ⟨t, xs, h1, s _ _ h2, h3⟩
  · exact .inr ⟨.inl h1, h3⟩
  · exact .inr ⟨.inr ⟨p, xs, h1, s _ _ h2⟩, h3⟩
section
variable {P : Program} {w : World} {K : PySem.W.Frag} {mg : Str → Option Value} {base : Heap}
def spSnV : Sp := fun vs H Q _ => ∃ (v : V) (y : Int), vs = [v, .int y] ∧ ItV v ∧ Q (.bl (sameI v y)) H
theorem ok_snV (T : Tx K mg) : FnOk P w K mg base CX0 2 T.a_is_same_number T.d_is_same_number P_is_same_number spSnV := by
  refine T.F_is_same_number.ok sc_is_same_number (fun vs H Q E h => ?_) (fun cdv A outer s H vs Q E hr h => ?_)
  · obtain ⟨x, y, rfl, _⟩ := h
    rfl
  · obtain ⟨v, y, rfl, hv, q⟩ := h
    refine ⟨_, pss_one (ps_ret (pe_and (pe_call (ok_is_numberV T) hr (by rfl) T.g_is_number T.F_is_number.kp T.b_is_number .nil pass0 (pa_cons (pv 0) pa_nil)) (pe_one (pe_cmpR op_eq (pv 0) (pv 1) (nomark _))))), ?_⟩
    rcases hv with rfl | ⟨x, rfl⟩ | ⟨b, rfl⟩ | ⟨x, rfl⟩
    · exact ⟨_, rfl, _, false, rfl, .inr (.inr ⟨"NoneType", .base .non, by decide +kernel, rfl⟩), false, rfl, iteF q⟩
    · refine ⟨_, rfl, _, true, rfl, .inl ⟨x, rfl, rfl⟩, true, rfl, iteT ⟨_, rfl, _, rfl, rfl, ?_⟩⟩
      have e : decide (V.int x = V.int y) = sameI (.int x) y := by
        show _ = decide (x = y)
        by_cases h : x = y
        · rw [h, decide_eq_true rfl, decide_eq_true rfl]
        · rw [decide_eq_false h, decide_eq_false fun z => h (V.int.inj z)]
      rw [e]
      exact q
    · exact ⟨_, rfl, _, false, rfl, .inr (.inl ⟨b, rfl, rfl⟩), false, rfl, iteF q⟩
    · exact ⟨_, rfl, _, false, rfl, .inr (.inr ⟨"str", .base (.str x), by decide +kernel, rfl⟩), false, rfl, iteF q⟩
def spCan : Sp := fun vs H Q _ => ∃ (v : V) (e : Addr) (l : List Int) (b : Bool), vs = [v, .ref e] ∧ H e = some (.tup (l.map V.int)) ∧ CanV H v l b ∧ ∀ H', Same H H' → Q (.bl b) H'
theorem ok_can (T : Tx K mg) : FnOk P w K mg base CX0 3 T.a_can_be T.d_can_be P_can_be spCan := by
  refine T.F_can_be.ok sc_can_be (fun vs H Q E h => ?_) (fun cdv A outer s H vs Q E hr h => ?_)
  · obtain ⟨v, e, l, b, rfl, _⟩ := h
    rfl
  · obtain ⟨v, e, l, b, rfl, he, hv, q⟩ := h
    have nd := sc_can_be.nd
    refine ⟨_, pss_cons (ps_if (PW.pt (pw_or (pt_not (pt_val (pe_callB call_isi (by rfl) T.z_isinstance (by decide +kernel) (pa_cons (pv 0) (pa_cons (pe_bltn (v := .ty "tuple") (u := .type "tuple") (by rfl) T.z_tuple (by decide +kernel) rfl) pa_nil)))))
        (pw_or1 (pt_cmpR op_ne (pe_callB call_len_seq (by rfl) T.z_len PySem.boot_len (pa_cons (pv 0) pa_nil)) (pe_callB call_len_seq (by rfl) T.z_len PySem.boot_len (pa_cons (pv 1) pa_nil)) (nomark _))))) (pss_one (ps_ret pe_bl)) pss_nil)
      (pss_one (ps_ret (pe_callB (cr_all rfl) (by rfl) T.z_all (by decide +kernel) (pa_cons (pe_lc (own := [("item", 2), ("number", 3)]) rfl nd (pi_zipA (by rfl) T.z_zip (pa_cons (pv 0) (pa_cons (pv 1) pa_nil))) (blkOk_by (N := N_can_be) (sc := defScope s_can_be) (by decide +kernel))
          (fun _ _ _ _ _ => pg_two (K := K) (i := 2) (j := 3) rfl nd rfl rfl rfl rfl rfl) (fun _ _ _ _ _ => pts_nil)
          (fun _ _ _ _ _ => pe_or (pe_cmpR op_isN (pv 2) pe_non (nomark _)) (pe_one (pe_call (ok_snV T) hr (by rfl) T.g_is_same_number T.F_is_same_number.kp T.b_is_same_number .nil pass0 (pa_cons (pv 2) (pa_cons (pv 3) pa_nil)))))) pa_nil)))), ?_⟩
    rcases hv with ⟨t, xs, rfl, ht, hit, l10, rfl⟩ | ⟨hv, rfl⟩
    · refine ⟨.ref t, rfl, .ref t, .ty "tuple", .type "tuple", .type "tuple", true, rfl, .ty _, .base (.tup ht), kit_ty (by decide +kernel), true, rfl, iteF ?_⟩
      refine ⟨_, rfl, t, _, rfl, .inr (.of ht), _, rfl, e, _, rfl, .inr (.of he), rfl, _, rfl, ?_⟩
      unfold canT at q
      rw [List.length_map]
      by_cases hl : xs.length = l.length
      · rw [decide_eq_true hl, Bool.true_and] at q
        refine iteNS (by rw [hl]) ?_
        refine ⟨_, rfl, _, rfl, t, e, xs, _, rfl, .inr ⟨.of ht, .of he, fun D hD => ?_⟩⟩
        refine lc_zipT (xs := xs) (ys := l.map V.int) (by rw [List.length_map]; exact hl) (fun i H' => Same H H' ∧ H' D = some (.lst ((((xs.zip l).take i).map fun z => okI z.1 z.2).map V.bl))) ⟨same_upd hD, upd_same⟩ (fun i H' _ p => ⟨.of (p.1 _ _ ht), .of (p.1 _ _ he)⟩) ?_ ?_
        · rintro i x y Tz H1 hx hy ⟨s1, g1⟩ hT
          obtain ⟨z, hz, rfl⟩ := get_int hy
          have ix := hit x (List.mem_of_getElem? hx)
          have li : i < xs.length := (List.getElem?_eq_some_iff.mp hx).1
          have s2 := same_upd (o := .tup [x, V.int z]) hT
          have g2 := s2 _ _ g1
          have hz2 : (xs.zip l)[i]? = some (x, z) := by
            rw [List.getElem?_zip_eq_some]
            exact ⟨hx, hz⟩
          have nxt : ∀ H3, Same (upd H1 Tz (.tup [x, V.int z])) H3 → ∃ acc, H3 D = some (.lst acc) ∧ acc.length < sizeLine ∧ (Same H (upd H3 D (.lst (acc ++ [V.bl (okI x z)]))) ∧ (upd H3 D (.lst (acc ++ [V.bl (okI x z)]))) D = some (.lst ((((xs.zip l).take (i + 1)).map fun z => okI z.1 z.2).map V.bl))) := fun H3 s3 => by
            refine ⟨_, s3 _ _ g2, ?_, fun c o h => ?_, ?_⟩
            · rw [List.length_map, List.length_map, List.length_take, List.length_zip]
              exact small1000 (by omega)
            · rw [upd_ne (ne_of_none h hD)]
              exact s3 _ _ (s2 _ _ (s1 _ _ h))
            · rw [upd_same, List.take_add_one, hz2, List.map_append, List.map_append]
              rfl
          refine ⟨Tz, _, rfl, .of upd_same, rfl, _, _, rfl, _, _, rfl, rfl, ?_⟩
          refine ⟨rfl, lc_keep ?_⟩
          rcases ix with rfl | ⟨a, rfl⟩ | ⟨a, rfl⟩ | ⟨a, rfl⟩
          · exact ⟨_, rfl, rfl, true, rfl, iteT (nxt _ (Same.refl _))⟩
          · exact ⟨_, rfl, rfl, false, rfl, iteF ⟨_, rfl, _, rfl, _, _, rfl, .inr (.inl ⟨a, rfl⟩), nxt _ (Same.refl _)⟩⟩
          · exact ⟨_, rfl, rfl, false, rfl, iteF ⟨_, rfl, _, rfl, _, _, rfl, .inr (.inr (.inl ⟨a, rfl⟩)), nxt _ (Same.refl _)⟩⟩
          · exact ⟨_, rfl, rfl, false, rfl, iteF ⟨_, rfl, _, rfl, _, _, rfl, .inr (.inr (.inr ⟨a, rfl⟩)), nxt _ (Same.refl _)⟩⟩
        · rintro H1 ⟨s1, g1⟩
          rw [List.take_of_length_le (by rw [List.length_zip]; omega)] at g1
          exact ⟨D, _, rfl, .of g1, q _ s1⟩
      · rw [decide_eq_false hl, Bool.false_and] at q
        rw [show (!decide (V.int ((xs.length : Nat) : Int) = V.int ((l.length : Nat) : Int))) = true by rw [decide_eq_false fun z => hl (by injection z with z; omega)]; rfl]
        refine iteT ?_
        exact q H (Same.refl H)
    · rcases hv with rfl | ⟨p, xs, rfl, hp⟩
      · exact ⟨_, rfl, _, .ty "tuple", .type "NoneType", .type "tuple", false, rfl, .ty _, .base .non, kit_ty (by decide +kernel), false, rfl, iteT (q H (Same.refl H))⟩
      · exact ⟨_, rfl, _, .ty "tuple", .type "list", .type "tuple", false, rfl, .ty _, .base (.lst hp), kit_ty (by decide +kernel), false, rfl, iteT (q H (Same.refl H))⟩
end
end Rp
/-! mended. -/
namespace Rp
open PySem PySem.Spec PyProof.Rows L2 Rz Rm Rt Rl LamX
/-- how mending ends: well, or at an entry -/
def MdC (H : Hp) (xs : List V) (ls : List (List Int)) : Option Nat → Prop
  | none => xs.length ≤ 500 ∧ ∀ (i : Nat) (x : V) (l : List Int), xs[i]? = some x → ls[i]? = some l → CanV H x l true
  | some i => i < xs.length ∧ i ≤ 500 ∧ (i < 500 → ∃ x l, xs[i]? = some x ∧ ls[i]? = some l ∧ CanV H x l false) ∧ ∀ (j : Nat) (x : V) (l : List Int), j < i → xs[j]? = some x → ls[j]? = some l → CanV H x l true
theorem MdC.same {H H' : Hp} (s : Same H H') {xs : List V} {ls : List (List Int)} : ∀ {o : Option Nat}, MdC H xs ls o → MdC H' xs ls o
  | none, h => ⟨h.1, fun i x l h1 h2 => (h.2 i x l h1 h2).same s⟩
  | some i, h => ⟨h.1, h.2.1, fun z => let ⟨x, l, a, b, c⟩ := h.2.2.1 z; ⟨x, l, a, b, c.same s⟩, fun j x l hj h1 h2 => (h.2.2.2 j x l hj h1 h2).same s⟩
section
variable {P : Program} {w : World} {K : PySem.W.Frag} {mg : Str → Option Value} {base : Heap}
def spMd (K : PySem.W.Frag) (C C5 : Addr) : Sp := fun vs H Q E => ∃ (p dx td ts : Addr) (ds ss : List Int) (v : V), vs = [.ref p, v] ∧ RingAt C H p dx td ts ds ss ∧
  (((∃ t : String, TyX K H v (.type t) ∧ kitB t "list" = some false) ∧ ∀ (dd : Addr) (H' : Hp), Same H H' → H' dd = some (.xd [("entry", .int 0)]) → E (.ref C5) (some dd) H') ∨
   ∃ (L : Addr) (xs : List V) (o : Option Nat), v = .ref L ∧ H L = some (.lst xs) ∧ xs.length ≤ 600 ∧ (∀ D k, k ≤ ds.length → (Pre ds ss D k).length = min xs.length 500 → MdC H xs (Pre ds ss D k) o) ∧
     (∀ i, o = some i → ∀ (dd : Addr) (H' : Hp), Same H H' → H' dd = some (.xd [("entry", .int (i : Nat))]) → E (.ref C5) (some dd) H') ∧
     (o = none → ∀ (H' : Hp) (M : Addr) (ys : List V) (D k : Nat), k ≤ ds.length → (Pre ds ss D k).length = xs.length → Same H H' → H M = none → H' M = some (.lst ys) → Tups H' ys (Pre ds ss D k) → Q (.ref M) H'))
theorem ok_md {CN : Addr} {S : RdS K mg} (T : Tx K mg) (E4 : RxE K mg "InvalidNumber" CN) (B : RdF S) : FnOk P w K mg base (L2.CX P w) 10 T.a_mended T.d_mended P_mended (spMd K T.C S.k5) := by
  refine T.F_mended.okX sc_mended (fun vs H Q E h => ?_) (fun cdv A outer s H vs Q E hr h => ?_)
  · obtain ⟨p, dx, td, ts, ds, ss, v, rfl, _⟩ := h
    rfl
  · obtain ⟨p, dx, td, ts, ds, ss, v, rfl, R, hv⟩ := h
    have eq : T.c_iDiaryError = S.k5 := by
      have e := T.gc_iDiaryError.symm.trans S.g5
      injection e with e
      injection e
    have OX : OexC K S.k5 := by rw [← eq]; exact oxB_ok T.io_iDiaryError
    have ic : PySem.W.findIn K (.ref S.k5) "__init__" = some (some (.ref T.a_iDiaryError)) := by rw [← eq]; exact T.ic_iDiaryError
    have hr2 : Room 2 _ := hr.mono (by decide : 2 ≤ 9)
    have hr3 : Room 3 _ := hr.mono (by decide : 3 ≤ 9)
    have hr6 : Room 6 _ := hr.mono (by decide : 6 ≤ 9)
    obtain ⟨u1, c1⟩ := T.c_MOST_ENTRIES
    have nd := sc_mended.nd
    refine ⟨_, pss_cons (ps_if (pt_not (pt_val (pe_callB call_isi (by rfl) T.z_isinstance (by decide +kernel) (pa_cons (pv 1) (pa_cons (pe_bltn (v := .ty "list") (u := .type "list") (by rfl) T.z_list (by decide +kernel) rfl) pa_nil)))))
        (pss_one (ps_raise rfl (takes_of rfl rfl rfl rfl) (pmk_oex OX ic T.it_iDiaryError (ok_de T B eq) hr2 T.b_iDiaryError .nil pass0 (by rfl) S.g5 (pa_cons pe_int pa_nil)))) pss_nil)
      (pss_cons (ps_set (i := 2) nd rfl (.inl rfl) (pe_callB (call_min2 rfl) (by rfl) T.z_min (by decide +kernel) (pa_cons (pe_callB call_len_seq (by rfl) T.z_len PySem.boot_len (pa_cons (pv 1) pa_nil)) (pa_cons (pe_glob (v := .int 500) (by rfl) c1 ⟨_, rfl⟩) pa_nil))))
      (pss_cons (ps_set (i := 3) nd rfl (.inl rfl) (pe_listG (pgen_call (E := E0) (ok_dia T E4) hr6 (by rfl) T.g_diary_of T.F_diary_of.kp T.b_diary_of .nil (pa_cons (pv 0) (pa_cons (pv 2) pa_nil))) (passes_call (takes_of rfl rfl rfl rfl) (fun _ _ _ _ h => h.elim)) (fun _ _ _ h => h.elim) hr (by rfl) T.z_list (by decide +kernel)))
      (pss_cons (ps_for (passes_of rfl) rfl (pi_enum (by rfl) T.z_enumerate (pa_cons (pv 1) pa_nil)) (pg_tup rfl (pgs_cons (pg_name (i := 4) nd rfl (.inl rfl)) (pgs_cons (pg_name (i := 5) nd rfl (.inl rfl)) pgs_nil)))
        (pss_one (ps_if (PW.pt (pw_or (pt_cmpR op_ge (pv 4) (pe_glob (v := .int 500) (by rfl) c1 ⟨_, rfl⟩) (nomark _)) (pw_or1 (pt_not (pt_val (pe_call (ok_can T) hr3 (by rfl) T.g_can_be T.F_can_be.kp T.b_can_be .nil pass0 (pa_cons (pv 5) (pa_cons (pe_ix ix_list (pv 3) (pv 4) (fun _ _ => rfl)) pa_nil))))))))
          (pss_one (ps_raise rfl (takes_of rfl rfl rfl rfl) (pmk_oex OX ic T.it_iDiaryError (ok_de T B eq) hr2 T.b_iDiaryError .nil pass0 (by rfl) S.g5 (pa_cons (pv 4) pa_nil)))) pss_nil)))
      (pss_one (ps_ret (pv 3)))))), ?_⟩
    rcases hv with ⟨⟨t, ht, hk⟩, q⟩ | ⟨L, xs, o, rfl, hL, hlen, hm, qe, q⟩
    · refine ⟨v, rfl, v, .ty "list", .type t, .type "list", false, rfl, .ty _, ht, kit_ty hk, false, rfl, iteT ?_⟩
      exact de_go (by decide) (by decide) fun dd H2 s2 hd => q dd H2 s2 hd
    · refine ⟨.ref L, rfl, .ref L, .ty "list", .type "list", .type "list", true, rfl, .ty _, .base (.lst hL), kit_ty (by decide +kernel), true, rfl, iteF ?_⟩
      refine ⟨_, rfl, L, _, rfl, .inl (.of hL), _, _, rfl, ?_⟩
      have em : (if (500 : Int) < ((xs.length : Nat) : Int) then (500 : Int) else ((xs.length : Nat) : Int)) = ((min xs.length 500 : Nat) : Int) := by
        split <;> omega
      rw [em]
      refine ⟨_, rfl, _, rfl, p, dx, td, ts, ds, ss, _, rfl, R, .inl ⟨_, rfl, by omega, fun ys H1 D k hk hl1 s1 T1 M hM => ?_⟩⟩
      have mc := hm D k hk hl1
      have lp : (Pre ds ss D k).length = min xs.length 500 := hl1
      have s2 := same_upd (o := .lst ys) hM
      have g2 : (upd H1 M (.lst ys)) M = some (.lst ys) := upd_same
      have s12 := s1.trans s2
      have T2 : Tups (upd H1 M (.lst ys)) ys (Pre ds ss D k) := T1.mono fun b zs h => s2 _ _ h
      have hM0 : H M = none := same_none s1 hM
      show tSeq _ _ _ [some (.ref p), some (.ref L), some (.int ((min xs.length 500 : Nat) : Int)), some (.ref M), none, none] (upd H1 M (.lst ys))
      generalize (upd H1 M (.lst ys)) = H2 at s2 g2 s12 T2
      refine ⟨.ref L, rfl, L, _, rfl, .of (s12 _ _ hL), for_it walk_enum (fun i σ H' => (∃ y4 y5, σ = [some (.ref p), some (.ref L), some (.int ((min xs.length 500 : Nat) : Int)), some (.ref M), y4, y5]) ∧ Same H2 H' ∧ ∀ m, o = some m → i ≤ m) ⟨⟨none, none, rfl⟩, Same.refl H2, fun _ _ => Nat.zero_le _⟩ (fun i σ H' _ h => .of (h.2.1 _ _ (s12 _ _ hL))) ?_ ?_⟩
      · rintro i z σ H3 H4 hi1 ⟨⟨y4, y5, rfl⟩, sm, ho⟩ ⟨t, a, b, rfl, nt, rfl, ha, hb⟩
        have ha' : a = .int (i : Nat) := (Option.some.inj ha).symm
        subst ha'
        have hb : xs[i]? = some b := hb
        have s3 : Same H2 (upd H3 t (.tup [.int (i : Nat), b])) := sm.trans (same_upd nt)
        have ht2 : (upd H3 t (.tup [.int (i : Nat), b])) t = some (.tup [.int (i : Nat), b]) := upd_same
        refine ⟨t, _, rfl, .of ht2, rfl, _, _, rfl, _, _, rfl, rfl, ?_⟩
        generalize (upd H3 t (.tup [.int (i : Nat), b])) = H5 at s3 ht2 ⊢
        have s05 := s12.trans s3
        have raise : o = some i → ∀ (dd : Addr) (H6 : Hp), Same H5 H6 → H6 dd = some (.xd [("entry", .int (i : Nat))]) → E (.ref S.k5) (some dd) H6 := fun hno dd H6 s6 hd =>
          qe i hno dd H6 (s05.trans s6) hd
        refine ⟨_, rfl, _, _, rfl, rfl, _, rfl, ?_⟩
        by_cases hn : (500 : Int) ≤ ((i : Nat) : Int)
        · rw [decide_eq_true hn]
          refine iteT ?_
          refine ⟨_, rfl, de_go (by omega) (by omega) (raise ?_)⟩
          cases o with
          | none =>
            have := mc.1
            omega
          | some m =>
            have h1 := ho m rfl
            have h2 : m ≤ 500 := mc.2.1
            rw [show m = i by omega]
        rw [decide_eq_false hn]
        refine iteF ?_
        obtain ⟨l, hl⟩ : ∃ l, (Pre ds ss D k)[i]? = some l := ⟨_, List.getElem?_eq_getElem (by omega)⟩
        obtain ⟨te, hy, he⟩ := T2.get hl
        obtain ⟨c, hc, h1, h2⟩ : ∃ c, CanV H b l c ∧ (c = false → o = some i) ∧ (c = true → ∀ m, o = some m → i + 1 ≤ m) := by
          cases o with
          | none => exact ⟨true, mc.2 i b l hb hl, fun z => Bool.noConfusion z, fun _ m z => by cases z⟩
          | some m =>
            have h1 := ho m rfl
            obtain ⟨m1, m2, m3, m4⟩ := mc
            by_cases e : i = m
            · subst e
              obtain ⟨x, l', a1, a2, a3⟩ := m3 (by omega)
              rw [hb] at a1
              rw [hl] at a2
              cases a1
              cases a2
              exact ⟨false, a3, fun _ => rfl, fun z => Bool.noConfusion z⟩
            · exact ⟨true, m4 i b l (by omega) hb hl, fun z => Bool.noConfusion z, fun _ m' z => by
                cases z
                omega⟩
        refine ⟨_, rfl, _, rfl, _, rfl, M, _, _, _, rfl, rfl, .of (s3 _ _ g2), atI_nat hy, _, te, l, c, rfl, s3 _ _ he, hc.same s05, fun H6 s6 => ?_⟩
        refine ⟨_, rfl, ?_⟩
        cases c with
        | false =>
          refine iteT ?_
          exact ⟨_, rfl, de_go (by omega) (by omega) fun dd H7 s7 hd => raise (h1 rfl) dd H7 (s6.trans s7) hd⟩
        | true =>
          refine iteF ?_
          exact ⟨⟨_, _, rfl⟩, s3.trans s6, h2 rfl⟩
      · rintro σ H3 ⟨⟨y4, y5, rfl⟩, sm, ho⟩
        have e : o = none := by
          cases o with
          | none => rfl
          | some m =>
            have h1 := ho m rfl
            have h2 : m < xs.length := mc.1
            omega
        subst e
        have h5 : xs.length ≤ 500 := mc.1
        exact ⟨_, rfl, q rfl H3 M ys D k hk (by omega) (s12.trans sm) hM0 (sm _ _ g2) (T2.mono fun b zs h => sm _ _ h)⟩
end
end Rp
/-! _law_torn. -/
namespace Rp
open PySem PySem.Spec PyProof.Rows L2 Rz Rm
theorem canT_of {xs : List V} {l : List Int} (hl : xs.length = l.length) (h : ∀ (m : Nat) (x : V) (z : Int), xs[m]? = some x → l[m]? = some z → okI x z = true) : canT xs l = true := by
  unfold canT
  rw [decide_eq_true hl, Bool.true_and, List.all_eq_true]
  intro b hb
  obtain ⟨z, hz, rfl⟩ := List.mem_map.mp hb
  obtain ⟨m, hm⟩ := List.getElem?_of_mem hz
  obtain ⟨h1, h2⟩ := List.getElem?_zip_eq_some.mp hm
  exact h m _ _ h1 h2
theorem CanV.tups {H H' : Hp} (k : ∀ b ys, H b = some (.tup ys) → H' b = some (.tup ys)) {v : V} {l : List Int} (h : CanV H v l true) : CanV H' v l true := by
  rcases h with ⟨t, xs, h1, h2, h3⟩ | ⟨_, h3⟩
  · exact .inl ⟨t, xs, h1, k _ _ h2, h3⟩
  · cases h3
theorem RowAt.tups {K : PySem.W.Frag} {H H' : Hp} {row a : Addr} {ns : List Int} (R : RowAt K H row a ns) (k : Kp row H H') : ∀ b ys, H b = some (.tup ys) → H' b = some (.tup ys) := fun b ys h => k _ _ h fun e => by
  obtain ⟨i, m, q, h2, _⟩ := R.ob
  rw [e, h2] at h
  cases h
section
variable {P : Program} {w : World} {K : PySem.W.Frag} {mg : Str → Option Value} {base : Heap}
def spTorn (K : PySem.W.Frag) : Sp := fun vs H Q _ => ∃ (row a L : Addr) (ns : List Int) (xs : List V) (ls : List (List Int)), vs = [.ref row, .ref L] ∧ RowAt K H row a ns ∧ L ≠ row ∧ H L = some (.lst xs) ∧ Tups H xs ls ∧ xs.length ≤ 100 ∧ (∀ l ∈ ls, l.length ≤ 10) ∧
  ∀ H' F zs, RowAt K H' row a ns → Kp row H H' → H F = none → H' F = some (.lst zs) → zs.length = xs.length → (∀ (i : Nat) (x : V) (l : List Int), zs[i]? = some x → ls[i]? = some l → CanV H' x l true) → Q (.ref F) H'
theorem ok_torn (T : Tx K mg) : FnOk P w K mg base CX0 2 T.a_ltorn T.d_ltorn P_ltorn (spTorn K) := by
  refine T.F_ltorn.ok sc_ltorn (fun vs H Q E h => ?_) (fun cdv A outer s H vs Q E hr h => ?_)
  · obtain ⟨row, a, L, ns, xs, ls, rfl, _⟩ := h
    rfl
  · obtain ⟨row, a, L, ns, xs, ls, rfl, RA, nL, hL, TT, l100, l10, q⟩ := h
    have nd := sc_ltorn.nd
    refine ⟨_, pss_cons (ps_set (i := 2) nd rfl (.inl rfl) (pe_lst pa_nil))
      (pss_cons (ps_for PassesOwn.never rfl (pi_list (pv 1)) (pg_name (i := 3) nd rfl (.inl rfl))
        (pss_one (ps_expr (pe_bm PySem.F.plainAttrs_list PySem.F.slot_list_append PySem.F.type_list_append mt_append (pv 2) (pa_cons (pe_callTy call_tuple_of (by rfl) T.z_tuple (by decide +kernel) (pa_cons (pe_lc (own := [("_law_number", 4)]) rfl nd (pi_tup (pv 3)) (blkOk_by (N := N_ltorn) (sc := defScope s_ltorn) (by decide +kernel)) (fun _ _ _ _ _ => pg_name (i := 4) nd rfl (.inl rfl)) (fun _ _ _ _ _ => pts_nil)
            (fun _ _ _ _ _ => pe_ifExp (pt_cmpR op_eq (pe_call (ok_taken T) hr (by rfl) T.g_ltaken T.F_ltaken.kp T.b_ltaken .nil pass0 (pa_cons (pv 0) (pa_cons pe_int pa_nil))) pe_int (nomark _)) pe_non (pv 4))) pa_nil)) pa_nil)))))
      (pss_one (ps_ret (pv 2)))), ?_⟩
    refine ⟨Nat.zero_le _, fun F hF => ?_⟩
    have s1 := same_upd (o := .lst []) hF
    have g1 : (upd H F (.lst [])) F = some (.lst []) := upd_same
    have nF := RA.nn hF
    have RA1 := RA.same s1
    have ft := far_of RA.sc hF
    have k01 : Kp row H (upd H F (.lst [])) := Same.kp s1
    show tSeq _ _ _ [some (.ref row), some (.ref L), some (.ref F), none, none] (upd H F (.lst []))
    generalize (upd H F (.lst [])) = H1 at s1 g1 RA1 k01
    refine ⟨_, rfl, L, rfl, ⟨_, .of (s1 _ _ hL)⟩, for_list (K := K) (a := L) (xs := xs) (fun i σ H' => (∃ z3, σ = [some (.ref row), some (.ref L), some (.ref F), z3, none]) ∧ RowAt K H' row a ns ∧ Kp row H H' ∧ ∃ zs, H' F = some (.lst zs) ∧ zs.length = i ∧ ∀ (j : Nat) (x : V) (l : List Int), zs[j]? = some x → ls[j]? = some l → CanV H' x l true)
      ⟨⟨none, rfl⟩, RA1, k01, [], g1, rfl, fun j x l h => by simp at h⟩ (fun i σ H' _ p => .of (p.2.2.1 _ _ hL nL)) ?_ ?_⟩
    · rintro i x σ H2 hx ⟨⟨z3, rfl⟩, RA2, k2, zs, gz, lz, hz⟩
      have li : i < xs.length := (List.getElem?_eq_some_iff.mp hx).1
      obtain ⟨l, hl⟩ : ∃ l, ls[i]? = some l := ⟨_, List.getElem?_eq_getElem (by rw [← TT.length]; exact li)⟩
      obtain ⟨t, e1, ht⟩ := TT.get hl
      rw [hx] at e1
      cases e1
      have ht2 := RA.tups k2 _ _ ht
      have ll := l10 l (List.mem_of_getElem? hl)
      show tDrop _ _ [some (.ref row), some (.ref L), some (.ref F), some (.ref t), none] H2
      refine ⟨_, rfl, .inl ⟨rfl, _, SqL.of gz⟩, _, rfl, t, rfl, ⟨_, .of ht2⟩, fun D hD => lc_tup (K := K) (a := t) (xs := l.map V.int) (fun j H' => RowAt K H' row a ns ∧ Kp row H2 H' ∧ ∃ ws, H' D = some (.lst ws) ∧ ws.length = j ∧ ∀ (m : Nat) (x : V), ws[m]? = some x → ItV x ∧ ∀ z, l[m]? = some z → okI x z = true)
        ⟨RA2.same (same_upd hD), Same.kp (same_upd hD), [], upd_same, rfl, fun m x h => by simp at h⟩ (fun j H' _ p => .of (RA2.tups p.2.1 _ _ ht2)) ?_ ?_⟩
      · rintro j y H3 hy ⟨RA3, k3, ws, gw, lw, hw⟩
        obtain ⟨z, hz1, rfl⟩ := get_int hy
        have lj : j < l.length := (List.getElem?_eq_some_iff.mp hz1).1
        have nD := RA2.nn hD
        have fD := far_of RA2.sc hD
        refine ⟨rfl, lc_keep ?_⟩
        refine ⟨_, rfl, row, a, ns, _, rfl, RA3, by decide, by decide, fun v H4 v0 v1 RA4 k4 => ?_⟩
        have nxt : ∀ u : V, ItV u → okI u z = true → ∃ acc, H4 D = some (.lst acc) ∧ acc.length < sizeLine ∧ (RowAt K (upd H4 D (.lst (acc ++ [u]))) row a ns ∧ Kp row H2 (upd H4 D (.lst (acc ++ [u]))) ∧ ∃ ws, (upd H4 D (.lst (acc ++ [u]))) D = some (.lst ws) ∧ ws.length = j + 1 ∧ ∀ (m : Nat) (x : V), ws[m]? = some x → ItV x ∧ ∀ z, l[m]? = some z → okI x z = true) := fun u hu ok => by
          refine ⟨ws, k4 _ _ gw nD, small1000 (by omega), RA4.upd' nD fD, kp_new (k3.trans k4) hD, ws ++ [u], upd_same, by rw [List.length_append, lw]; rfl, fun m x h => ?_⟩
          rcases get_snoc h with h | ⟨rfl, rfl⟩
          · exact hw m x h
          · refine ⟨hu, fun z' hz' => ?_⟩
            rw [lw, hz1] at hz'
            cases hz'
            exact ok
        refine ⟨rfl, _, rfl, ?_⟩
        by_cases hv : v = 0
        · subst hv
          exact iteT (nxt .non (.inl rfl) rfl)
        · rw [decide_eq_false (show ¬ V.int v = V.int 0 from fun y => hv (V.int.inj y))]
          exact iteF ⟨_, rfl, nxt (.int z) (.inr (.inl ⟨z, rfl⟩)) (decide_eq_true rfl)⟩
      · rintro H3 ⟨RA3, k3, ws, gw, lw, hw⟩
        rw [List.length_map] at lw
        refine ⟨D, _, rfl, .inl ⟨.of gw, fun t2 ht2 => ?_⟩⟩
        have s4 := same_upd (o := .tup ws) ht2
        have g4 : (upd H3 t2 (.tup ws)) t2 = some (.tup ws) := upd_same
        have RA4 := RA3.same s4
        have k24 := k3.trans (Same.kp s4)
        generalize (upd H3 t2 (.tup ws)) = H4 at s4 g4 RA4 k24
        have gz4 := k24 _ _ gz nF
        have t24 := RA2.tups k24
        have up : ∀ b ys, H4 b = some (.tup ys) → (upd H4 F (.lst (zs ++ [V.ref t2]))) b = some (.tup ys) := fun b ys h => by
          rw [upd_ne (ne_of h gz4 (by intro z; cases z))]
          exact h
        refine ⟨F, _, _, rfl, rfl, gz4, small1000 (by omega), ⟨_, rfl⟩, RA4.upd' nF ft, kp_new (k2.trans k24) hF, zs ++ [V.ref t2], upd_same, by rw [List.length_append, lz]; rfl, fun j x l' h hl' => ?_⟩
        rcases get_snoc h with h | ⟨rfl, rfl⟩
        · exact ((hz j x l' h hl').tups t24).tups up
        · rw [lz, hl] at hl'
          cases hl'
          refine .inl ⟨t2, ws, rfl, up _ _ g4, fun x hx => ?_, by omega, (canT_of lw fun m x z h1 h2 => (hw m x h1).2 z h2).symm⟩
          obtain ⟨m, hm⟩ := List.getElem?_of_mem hx
          exact (hw m x hm).1
    · rintro σ H2 ⟨⟨z3, rfl⟩, RA2, k2, zs, gz, lz, hz⟩
      exact ⟨_, rfl, q H2 F zs RA2 k2 hF gz lz hz⟩
end
end Rp
/-! _law_changed. -/
namespace Rp
open PySem PySem.Spec PyProof.Rows L2 Rz Rm
theorem cut_to (xs : List V) {k : Nat} (h : k ≤ xs.length) : cutV xs none (some (k : Int)) = xs.take k := by
  unfold cutV
  have e0 : HT.sIx xs.length xs.length (some (k : Int)) = k := by
    rw [HT.sIx_nat]
    omega
  rw [e0, HT.sIx_none, List.drop_zero, Nat.sub_zero]
theorem cut_from (xs : List V) {k : Nat} (h : k ≤ xs.length) : cutV xs (some (k : Int)) none = xs.drop k := by
  unfold cutV
  have e0 : HT.sIx xs.length 0 (some (k : Int)) = k := by
    rw [HT.sIx_nat]
    omega
  rw [e0, HT.sIx_none, List.take_of_length_le (by rw [List.length_drop]; omega)]
theorem CanV.kp {K : PySem.W.Frag} {H H' : Hp} {row a : Addr} {ns : List Int} (R : RowAt K H row a ns) (R' : RowAt K H' row a ns) (k : Kp row H H') {v : V} {l : List Int} {b : Bool} (h : CanV H v l b) : CanV H' v l b := by
  rcases h with ⟨t, xs, h1, h2, h3⟩ | ⟨h1 | ⟨p, xs, h1, h2⟩, h3⟩
  · exact .inl ⟨t, xs, h1, R.tups k _ _ h2, h3⟩
  · exact .inr ⟨.inl h1, h3⟩
  · by_cases e : p = row
    · subst e
      obtain ⟨i, m, q, h4, _⟩ := R'.ob
      exact .inr ⟨.inr ⟨p, _, h1, h4⟩, h3⟩
    · exact .inr ⟨.inr ⟨p, xs, h1, k _ _ h2 e⟩, h3⟩
theorem kp_none {K : PySem.W.Frag} {H H' : Hp} {row a : Addr} {ns : List Int} (R : RowAt K H' row a ns) (k : Kp row H H') {x : Addr} (h : H' x = none) : H x = none := by
  cases e : H x with
  | none => rfl
  | some o =>
    have := k _ _ e (R.nn h)
    rw [h] at this
    cases this
theorem set_cut (xs : List V) (v : V) {k : Nat} (h : k < xs.length) : xs.take k ++ [v] ++ xs.drop (k + 1) = xs.set k v := by
  rw [List.append_assoc, List.set_eq_take_append_cons_drop, if_pos h]
  rfl
/-- whether such a change is wrong -/
def wrI (w : Int) : Bool := !inV (.int w) [.int 2, .int 9]
section
variable {P : Program} {w : World} {K : PySem.W.Frag} {mg : Str → Option Value} {base : Heap}
def spChg (K : PySem.W.Frag) : Sp := fun vs H Q _ => ∃ (row c L : Addr) (ns : List Int) (xs : List V) (ls : List (List Int)) (k r : Nat) (a b : Int), vs = [.ref row, .ref L, .int k] ∧ RowAt K H row c ns ∧ L ≠ row ∧ H L = some (.lst xs) ∧ Tups H xs ls ∧ xs.length ≤ 100 ∧ ls[k]? = some [a, (r : Int), b] ∧ 0 ≤ a ∧ a ≤ 1000000 ∧
  ∀ H' t M v wr, RowAt K H' row c ns → Kp row H H' → H' t = some (.tup [.ref M, .bl wr]) → H M = none → H' M = some (.lst (xs.set k v)) → CanV H' v [a, (r : Int), b] (!wr) → Q (.ref t) H'
theorem ok_chg (T : Tx K mg) : FnOk P w K mg base CX0 2 T.a_lchanged T.d_lchanged P_lchanged (spChg K) := by
  refine T.F_lchanged.ok sc_lchanged (fun vs H Q E h => ?_) (fun cdv A outer s H vs Q E hr h => ?_)
  · obtain ⟨row, c, L, ns, xs, ls, k, r, a, b, rfl, _⟩ := h
    rfl
  · obtain ⟨row, c, L, ns, xs, ls, k, r, a, b, rfl, RA, nL, hL, TT, l100, hk, a0, a1, q⟩ := h
    have nd := sc_lchanged.nd
    have lk : k < xs.length := by rw [TT.length]; exact (List.getElem?_eq_some_iff.mp hk).1
    obtain ⟨te, hx, hte⟩ := TT.get hk

    refine ⟨_, pss_cons (ps_asg (pe_ix ix_list (pv 1) (pv 2) (fun _ _ => rfl)) (pg_tup rfl (pgs_cons (pg_name (i := 3) nd rfl (.inl rfl)) (pgs_cons (pg_name (i := 4) nd rfl (.inl rfl)) (pgs_cons (pg_name (i := 5) nd rfl (.inl rfl)) pgs_nil)))))
      (pss_cons (ps_set (i := 6) nd rfl (.inl rfl) (pe_lst (pa_cons (pe_tup (pa_cons (pe_op op_add (pv 3) pe_int) (pa_cons (pv 4) (pa_cons (pv 5) pa_nil)))) (pa_cons (pe_tup (pa_cons (pv 3) (pa_cons (pe_op op_add (pv 4) pe_int) (pa_cons (pv 5) pa_nil)))) (pa_cons (pe_tup (pa_cons (pv 3) (pa_cons (pv 4) (pa_cons pe_non pa_nil)))) (pa_cons (pe_tup (pa_cons (pv 3) (pa_cons pe_non (pa_cons (pe_op op_add (pv 5) pe_int) pa_nil)))) (pa_cons (pe_tup (pa_cons (pv 3) (pa_cons (pv 4) pa_nil))) pa_nil)))))))
      (pss_cons (ps_set (i := 6) nd rfl (.inl rfl) (pe_op op_cat (pv 6) (pe_lst (pa_cons (pe_lst (pa_cons (pv 3) (pa_cons (pv 4) (pa_cons (pv 5) pa_nil)))) (pa_cons pe_non (pa_cons (pe_tup (pa_cons (pv 3) (pa_cons (pv 4) (pa_cons (pv 5) (pa_cons pe_int pa_nil))))) (pa_cons (pe_tup (pa_cons (pe_callTy call_str_int (by rfl) T.z_str (by decide +kernel) (pa_cons (pv 3) pa_nil)) (pa_cons (pv 4) (pa_cons (pv 5) pa_nil)))) (pa_cons (pe_tup (pa_cons pe_non (pa_cons pe_non (pa_cons pe_non pa_nil)))) pa_nil))))))))
      (pss_cons (ps_expr (pe_bm PySem.F.plainAttrs_list PySem.F.slot_list_append PySem.F.type_list_append mt_append (pv 6) (pa_cons (pe_ifExp (pt_cmpR op_lt (pv 4) pe_int (nomark _)) (pe_tup (pa_cons (pv 3) (pa_cons (pe_ix ix_list (pe_lst (pa_cons pe_bl (pa_cons pe_bl pa_nil))) (pv 4) (fun _ _ => rfl)) (pa_cons (pv 5) pa_nil)))) (pe_tup (pa_cons pe_non (pa_cons pe_bl (pa_cons pe_non pa_nil))))) pa_nil)))
      (pss_cons (ps_set (i := 7) nd rfl (.inl rfl) (pe_call (ok_taken T) hr (by rfl) T.g_ltaken T.F_ltaken.kp T.b_ltaken .nil pass0 (pa_cons (pv 0) (pa_cons (pe_callB call_len_seq (by rfl) T.z_len PySem.boot_len (pa_cons (pv 6) pa_nil)) pa_nil))))
      (pss_one (ps_ret (pe_tup (pa_cons (pe_op op_cat (pe_op op_cat (pe_slice sl_list (pv 1) po_none (po_some (pv 2))) (pe_lst (pa_cons (pe_ix ix_list (pv 6) (pv 7) (fun _ _ => rfl)) pa_nil))) (pe_slice sl_list (pv 1) (po_some (pe_op op_add (pv 2) pe_int)) po_none))
        (pa_cons (pe_cmpR op_notIn_seq (pv 7) (pe_tup (pa_cons pe_int (pa_cons pe_int pa_nil))) (by rfl)) pa_nil))))))))), ?_⟩
    refine ⟨_, rfl, _, rfl, L, _, _, _, rfl, rfl, .of hL, atI_nat hx, te, _, rfl, .of hte, rfl, _, _, rfl, _, _, rfl, _, _, rfl, rfl, ?_⟩
    refine ⟨_, rfl, _, _, rfl, rfl, _, rfl, _, rfl, (by show 3 ≤ sizeLine; decide), fun t0 ht0 => ?_⟩
    have st0 := same_upd (o := .tup [.int (a + 1), .int (r : Int), .int b]) ht0
    have gt0 : (upd H t0 (.tup [.int (a + 1), .int (r : Int), .int b])) t0 = some (.tup [.int (a + 1), .int (r : Int), .int b]) := upd_same
    generalize (upd H t0 (.tup [.int (a + 1), .int (r : Int), .int b])) = Ht0 at st0 gt0 ⊢
    refine ⟨_, rfl, _, rfl, _, _, rfl, rfl, _, rfl, (by show 3 ≤ sizeLine; decide), fun t1 ht1 => ?_⟩
    have st1 := same_upd (o := .tup [.int a, .int ((r : Int) + 1), .int b]) ht1
    have gt1 : (upd Ht0 t1 (.tup [.int a, .int ((r : Int) + 1), .int b])) t1 = some (.tup [.int a, .int ((r : Int) + 1), .int b]) := upd_same
    generalize (upd Ht0 t1 (.tup [.int a, .int ((r : Int) + 1), .int b])) = Ht1 at st1 gt1 ⊢
    refine ⟨_, rfl, _, rfl, (by show 3 ≤ sizeLine; decide), fun t2 ht2 => ?_⟩
    have st2 := same_upd (o := .tup [.int a, .int (r : Int), .non]) ht2
    have gt2 : (upd Ht1 t2 (.tup [.int a, .int (r : Int), .non])) t2 = some (.tup [.int a, .int (r : Int), .non]) := upd_same
    generalize (upd Ht1 t2 (.tup [.int a, .int (r : Int), .non])) = Ht2 at st2 gt2 ⊢
    refine ⟨_, rfl, _, rfl, _, _, rfl, rfl, (by show 3 ≤ sizeLine; decide), fun t3 ht3 => ?_⟩
    have st3 := same_upd (o := .tup [.int a, .non, .int (b + 1)]) ht3
    have gt3 : (upd Ht2 t3 (.tup [.int a, .non, .int (b + 1)])) t3 = some (.tup [.int a, .non, .int (b + 1)]) := upd_same
    generalize (upd Ht2 t3 (.tup [.int a, .non, .int (b + 1)])) = Ht3 at st3 gt3 ⊢
    refine ⟨_, rfl, _, rfl, (by show 2 ≤ sizeLine; decide), fun t4 ht4 => ?_⟩
    have st4 := same_upd (o := .tup [.int a, .int (r : Int)]) ht4
    have gt4 : (upd Ht3 t4 (.tup [.int a, .int (r : Int)])) t4 = some (.tup [.int a, .int (r : Int)]) := upd_same
    generalize (upd Ht3 t4 (.tup [.int a, .int (r : Int)])) = Ht4 at st4 gt4 ⊢
    refine ⟨(by show 5 ≤ sizeLine; decide), fun l1 hl1 => ?_⟩
    have sl1 := same_upd (o := .lst [.ref t0, .ref t1, .ref t2, .ref t3, .ref t4]) hl1
    have gl1 : (upd Ht4 l1 (.lst [.ref t0, .ref t1, .ref t2, .ref t3, .ref t4])) l1 = some (.lst [.ref t0, .ref t1, .ref t2, .ref t3, .ref t4]) := upd_same
    show tSeq _ _ _ [some (.ref row), some (.ref L), some (.int (k : Int)), some (.int a), some (.int (r : Int)), some (.int b), some (.ref l1), none] (upd Ht4 l1 (.lst [.ref t0, .ref t1, .ref t2, .ref t3, .ref t4]))
    generalize (upd Ht4 l1 (.lst [.ref t0, .ref t1, .ref t2, .ref t3, .ref t4])) = Hl1 at sl1 gl1 ⊢
    have la : a.natAbs.log2 < 1920 := by
      have h1 : a.natAbs < 2 ^ 1919 := Nat.lt_of_le_of_lt (show a.natAbs ≤ 1000000 by omega) (by decide +kernel)
      by_cases z : a.natAbs = 0
      · rw [z]
        decide
      · exact Nat.lt_of_lt_of_le ((Nat.log2_lt z).mpr h1) (by decide)
    refine ⟨_, rfl, _, rfl, _, rfl, _, rfl, (by show 3 ≤ sizeLine; decide), fun t5 ht5 => ?_⟩
    have st5 := same_upd (o := .lst [.int a, .int (r : Int), .int b]) ht5
    have gt5 : (upd Hl1 t5 (.lst [.int a, .int (r : Int), .int b])) t5 = some (.lst [.int a, .int (r : Int), .int b]) := upd_same
    generalize (upd Hl1 t5 (.lst [.int a, .int (r : Int), .int b])) = Ht5 at st5 gt5 ⊢
    refine ⟨_, rfl, _, rfl, _, rfl, (by show 4 ≤ sizeLine; decide), fun t7 ht7 => ?_⟩
    have st7 := same_upd (o := .tup [.int a, .int (r : Int), .int b, .int 0]) ht7
    have gt7 : (upd Ht5 t7 (.tup [.int a, .int (r : Int), .int b, .int 0])) t7 = some (.tup [.int a, .int (r : Int), .int b, .int 0]) := upd_same
    generalize (upd Ht5 t7 (.tup [.int a, .int (r : Int), .int b, .int 0])) = Ht7 at st7 gt7 ⊢
    refine ⟨_, rfl, _, rfl, la, _, rfl, _, rfl, (by show 3 ≤ sizeLine; decide), fun t8 ht8 => ?_⟩
    have st8 := same_upd (o := .tup [.str (toString a), .int (r : Int), .int b]) ht8
    have gt8 : (upd Ht7 t8 (.tup [.str (toString a), .int (r : Int), .int b])) t8 = some (.tup [.str (toString a), .int (r : Int), .int b]) := upd_same
    generalize (upd Ht7 t8 (.tup [.str (toString a), .int (r : Int), .int b])) = Ht8 at st8 gt8 ⊢
    refine ⟨(by show 3 ≤ sizeLine; decide), fun t9 ht9 => ?_⟩
    have st9 := same_upd (o := .tup [.non, .non, .non]) ht9
    have gt9 : (upd Ht8 t9 (.tup [.non, .non, .non])) t9 = some (.tup [.non, .non, .non]) := upd_same
    generalize (upd Ht8 t9 (.tup [.non, .non, .non])) = Ht9 at st9 gt9 ⊢
    refine ⟨(by show 5 ≤ sizeLine; decide), fun l2 hl2 => ?_⟩
    have sl2 := same_upd (o := .lst [.ref t5, .non, .ref t7, .ref t8, .ref t9]) hl2
    have gl2 : (upd Ht9 l2 (.lst [.ref t5, .non, .ref t7, .ref t8, .ref t9])) l2 = some (.lst [.ref t5, .non, .ref t7, .ref t8, .ref t9]) := upd_same
    generalize (upd Ht9 l2 (.lst [.ref t5, .non, .ref t7, .ref t8, .ref t9])) = Hl2 at sl2 gl2 ⊢
    refine ⟨l1, l2, _, _, rfl, rfl, (sl2 _ _ (st9 _ _ (st8 _ _ (st7 _ _ (st5 _ _ gl1))))), gl2, (by show 5 + 5 ≤ sizeLine; decide), fun l3 hl3 => ?_⟩
    have sl3 := same_upd (o := .lst [.ref t0, .ref t1, .ref t2, .ref t3, .ref t4, .ref t5, .non, .ref t7, .ref t8, .ref t9]) hl3
    have gl3 : (upd Hl2 l3 (.lst [.ref t0, .ref t1, .ref t2, .ref t3, .ref t4, .ref t5, .non, .ref t7, .ref t8, .ref t9])) l3 = some (.lst [.ref t0, .ref t1, .ref t2, .ref t3, .ref t4, .ref t5, .non, .ref t7, .ref t8, .ref t9]) := upd_same
    show tSeq _ _ _ [some (.ref row), some (.ref L), some (.int (k : Int)), some (.int a), some (.int (r : Int)), some (.int b), some (.ref l3), none] (upd Hl2 l3 (.lst [.ref t0, .ref t1, .ref t2, .ref t3, .ref t4, .ref t5, .non, .ref t7, .ref t8, .ref t9]))
    generalize (upd Hl2 l3 (.lst [.ref t0, .ref t1, .ref t2, .ref t3, .ref t4, .ref t5, .non, .ref t7, .ref t8, .ref t9])) = Hl3 at sl3 gl3 ⊢
    have sA : Same H Hl3 := (((((((((((st0.trans st1).trans st2).trans st3).trans st4).trans sl1).trans st5).trans st7).trans st8).trans st9).trans sl2).trans sl3)
    have ft0 := (sl3 _ _ (sl2 _ _ (st9 _ _ (st8 _ _ (st7 _ _ (st5 _ _ (sl1 _ _ (st4 _ _ (st3 _ _ (st2 _ _ (st1 _ _ gt0)))))))))))
    have ft1 := (sl3 _ _ (sl2 _ _ (st9 _ _ (st8 _ _ (st7 _ _ (st5 _ _ (sl1 _ _ (st4 _ _ (st3 _ _ (st2 _ _ gt1))))))))))
    have ft2 := (sl3 _ _ (sl2 _ _ (st9 _ _ (st8 _ _ (st7 _ _ (st5 _ _ (sl1 _ _ (st4 _ _ (st3 _ _ gt2)))))))))
    have ft3 := (sl3 _ _ (sl2 _ _ (st9 _ _ (st8 _ _ (st7 _ _ (st5 _ _ (sl1 _ _ (st4 _ _ gt3))))))))
    have ft4 := (sl3 _ _ (sl2 _ _ (st9 _ _ (st8 _ _ (st7 _ _ (st5 _ _ (sl1 _ _ gt4)))))))
    have ft5 := (sl3 _ _ (sl2 _ _ (st9 _ _ (st8 _ _ (st7 _ _ gt5)))))
    have ft7 := (sl3 _ _ (sl2 _ _ (st9 _ _ (st8 _ _ gt7))))
    have ft8 := (sl3 _ _ (sl2 _ _ (st9 _ _ gt8)))
    have ft9 := (sl3 _ _ (sl2 _ _ gt9))
    have RA1 := RA.same sA
    have hl30 : H l3 = none := same_none (((((((((((st0.trans st1).trans st2).trans st3).trans st4).trans sl1).trans st5).trans st7).trans st8).trans st9).trans sl2)) hl3
    have nl3 := RA.nn hl30
    have fl3 := far_of RA.sc hl30
    have n5 : t5 ≠ l3 := ne_of_none (sl2 _ _ (st9 _ _ (st8 _ _ (st7 _ _ gt5)))) hl3
    refine ⟨_, rfl, .inl ⟨rfl, _, SqL.of gl3⟩, _, rfl, _, _, rfl, rfl, _, rfl, ?_⟩
    by_cases r2 : (r : Int) < 2
    · rw [decide_eq_true r2]
      refine iteT ?_
      refine ⟨_, rfl, (by show 2 ≤ sizeLine; decide), fun lb hlb => ?_⟩
      have slb := same_upd (o := .lst [.bl false, .bl true]) hlb
      have glb : (upd Hl3 lb (.lst [.bl false, .bl true])) lb = some (.lst [.bl false, .bl true]) := upd_same
      generalize (upd Hl3 lb (.lst [.bl false, .bl true])) = Hlb at slb glb ⊢
      obtain ⟨z, hz⟩ : ∃ z, atI ([.bl false, .bl true] : List V) (r : Int) = some (.bl z) := by
        have cr : r = 0 ∨ r = 1 := by omega
        rcases cr with rfl | rfl
        · exact ⟨false, rfl⟩
        · exact ⟨true, rfl⟩
      refine ⟨_, rfl, lb, _, _, _, rfl, rfl, .of glb, hz, _, rfl, (by show 3 ≤ sizeLine; decide), fun t10 h10 => ?_⟩
      have s10 := same_upd (o := .tup [.int a, .bl z, .int b]) h10
      have g10 : (upd Hlb t10 (.tup [.int a, .bl z, .int b])) t10 = some (.tup [.int a, .bl z, .int b]) := upd_same
      have sx := slb.trans s10
      generalize (upd Hlb t10 (.tup [.int a, .bl z, .int b])) = Hx at s10 g10 sx ⊢
      have g3x := sx _ _ gl3
      refine ⟨l3, _, _, rfl, rfl, g3x, (by show 10 < sizeLine; decide), ?_⟩
      have kx : ∀ {x o}, Hx x = some o → x ≠ l3 → (upd Hx l3 (.lst [.ref t0, .ref t1, .ref t2, .ref t3, .ref t4, .ref t5, .non, .ref t7, .ref t8, .ref t9, .ref t10])) x = some o := fun h n1 => by
        rw [upd_ne n1]
        exact h
      have gy : (upd Hx l3 (.lst [.ref t0, .ref t1, .ref t2, .ref t3, .ref t4, .ref t5, .non, .ref t7, .ref t8, .ref t9, .ref t10])) l3 = some (.lst [.ref t0, .ref t1, .ref t2, .ref t3, .ref t4, .ref t5, .non, .ref t7, .ref t8, .ref t9, .ref t10]) := upd_same
      have yt0 := kx (sx _ _ ft0) (ne_of (sx _ _ ft0) g3x (by intro z; cases z))
      have yt1 := kx (sx _ _ ft1) (ne_of (sx _ _ ft1) g3x (by intro z; cases z))
      have yt2 := kx (sx _ _ ft2) (ne_of (sx _ _ ft2) g3x (by intro z; cases z))
      have yt3 := kx (sx _ _ ft3) (ne_of (sx _ _ ft3) g3x (by intro z; cases z))
      have yt4 := kx (sx _ _ ft4) (ne_of (sx _ _ ft4) g3x (by intro z; cases z))
      have yt7 := kx (sx _ _ ft7) (ne_of (sx _ _ ft7) g3x (by intro z; cases z))
      have yt8 := kx (sx _ _ ft8) (ne_of (sx _ _ ft8) g3x (by intro z; cases z))
      have yt9 := kx (sx _ _ ft9) (ne_of (sx _ _ ft9) g3x (by intro z; cases z))
      have yt5 := kx (sx _ _ ft5) n5
      have yt10 := kx g10 (ne_of g10 g3x (by intro z; cases z))
      have RAy : RowAt K (upd Hx l3 (.lst [.ref t0, .ref t1, .ref t2, .ref t3, .ref t4, .ref t5, .non, .ref t7, .ref t8, .ref t9, .ref t10])) row c ns := (RA1.same sx).upd' nl3 fl3
      have kHy : Kp row H (upd Hx l3 (.lst [.ref t0, .ref t1, .ref t2, .ref t3, .ref t4, .ref t5, .non, .ref t7, .ref t8, .ref t9, .ref t10])) := kp_new (Same.kp (sA.trans sx)) hl30
      show tSeq _ _ _ [some (.ref row), some (.ref L), some (.int (k : Int)), some (.int a), some (.int (r : Int)), some (.int b), some (.ref l3), none] (upd Hx l3 (.lst [.ref t0, .ref t1, .ref t2, .ref t3, .ref t4, .ref t5, .non, .ref t7, .ref t8, .ref t9, .ref t10]))
      generalize (upd Hx l3 (.lst [.ref t0, .ref t1, .ref t2, .ref t3, .ref t4, .ref t5, .non, .ref t7, .ref t8, .ref t9, .ref t10])) = Hy at gy yt0 yt1 yt2 yt3 yt4 yt5 yt7 yt8 yt9 yt10 RAy kHy ⊢
      refine ⟨_, rfl, _, rfl, l3, _, rfl, .inl (.of gy), row, c, ns, _, rfl, RAy, (by show (1 : Int) ≤ 11; decide), (by show (11 : Int) < 1073741824; decide), fun wy Hw w0 w1 RAw kw => ?_⟩
      have w1' : wy < 11 := w1
      obtain ⟨v, hv, cv⟩ : ∃ v, atI ([.ref t0, .ref t1, .ref t2, .ref t3, .ref t4, .ref t5, .non, .ref t7, .ref t8, .ref t9, .ref t10] : List V) wy = some v ∧ CanV Hy v [a, (r : Int), b] (!wrI wy) := by
        have cw : wy = 0 ∨ wy = 1 ∨ wy = 2 ∨ wy = 3 ∨ wy = 4 ∨ wy = 5 ∨ wy = 6 ∨ wy = 7 ∨ wy = 8 ∨ wy = 9 ∨ wy = 10 := by omega
        rcases cw with rfl | rfl | rfl | rfl | rfl | rfl | rfl | rfl | rfl | rfl | rfl
        · exact ⟨_, rfl, .inl ⟨t0, _, rfl, yt0, (fun x hx => by simp at hx; rcases hx with rfl | rfl | rfl <;> simp [ItV]), (by simp), (show _ = canT _ _ by have e1 : ¬ a + 1 = a := (by omega); have e2 : ¬ ((r : Int) + 1 = (r : Int)) := (by omega); have e3 : ¬ b + 1 = b := (by omega); simp [canT, okI, sameI, wrI, inV, eqV, e1, e2, e3])⟩⟩
        · exact ⟨_, rfl, .inl ⟨t1, _, rfl, yt1, (fun x hx => by simp at hx; rcases hx with rfl | rfl | rfl <;> simp [ItV]), (by simp), (show _ = canT _ _ by have e1 : ¬ a + 1 = a := (by omega); have e2 : ¬ ((r : Int) + 1 = (r : Int)) := (by omega); have e3 : ¬ b + 1 = b := (by omega); simp [canT, okI, sameI, wrI, inV, eqV, e1, e2, e3])⟩⟩
        · exact ⟨_, rfl, .inl ⟨t2, _, rfl, yt2, (fun x hx => by simp at hx; rcases hx with rfl | rfl | rfl <;> simp [ItV]), (by simp), (show _ = canT _ _ by have e1 : ¬ a + 1 = a := (by omega); have e2 : ¬ ((r : Int) + 1 = (r : Int)) := (by omega); have e3 : ¬ b + 1 = b := (by omega); simp [canT, okI, sameI, wrI, inV, eqV, e1, e2, e3])⟩⟩
        · exact ⟨_, rfl, .inl ⟨t3, _, rfl, yt3, (fun x hx => by simp at hx; rcases hx with rfl | rfl | rfl <;> simp [ItV]), (by simp), (show _ = canT _ _ by have e1 : ¬ a + 1 = a := (by omega); have e2 : ¬ ((r : Int) + 1 = (r : Int)) := (by omega); have e3 : ¬ b + 1 = b := (by omega); simp [canT, okI, sameI, wrI, inV, eqV, e1, e2, e3])⟩⟩
        · exact ⟨_, rfl, .inl ⟨t4, _, rfl, yt4, (fun x hx => by simp at hx; rcases hx with rfl | rfl <;> simp [ItV]), (by simp), (show _ = canT _ _ by have e1 : ¬ a + 1 = a := (by omega); have e2 : ¬ ((r : Int) + 1 = (r : Int)) := (by omega); have e3 : ¬ b + 1 = b := (by omega); simp [canT, okI, sameI, wrI, inV, eqV, e1, e2, e3])⟩⟩
        · exact ⟨_, rfl, .inr ⟨.inr ⟨t5, _, rfl, yt5⟩, rfl⟩⟩
        · exact ⟨_, rfl, .inr ⟨.inl rfl, rfl⟩⟩
        · exact ⟨_, rfl, .inl ⟨t7, _, rfl, yt7, (fun x hx => by simp at hx; rcases hx with rfl | rfl | rfl | rfl <;> simp [ItV]), (by simp), (show _ = canT _ _ by have e1 : ¬ a + 1 = a := (by omega); have e2 : ¬ ((r : Int) + 1 = (r : Int)) := (by omega); have e3 : ¬ b + 1 = b := (by omega); simp [canT, okI, sameI, wrI, inV, eqV, e1, e2, e3])⟩⟩
        · exact ⟨_, rfl, .inl ⟨t8, _, rfl, yt8, (fun x hx => by simp at hx; rcases hx with rfl | rfl | rfl <;> simp [ItV]), (by simp), (show _ = canT _ _ by have e1 : ¬ a + 1 = a := (by omega); have e2 : ¬ ((r : Int) + 1 = (r : Int)) := (by omega); have e3 : ¬ b + 1 = b := (by omega); simp [canT, okI, sameI, wrI, inV, eqV, e1, e2, e3])⟩⟩
        · exact ⟨_, rfl, .inl ⟨t9, _, rfl, yt9, (fun x hx => by simp at hx; rw [hx]; simp [ItV]), (by simp), (show _ = canT _ _ by have e1 : ¬ a + 1 = a := (by omega); have e2 : ¬ ((r : Int) + 1 = (r : Int)) := (by omega); have e3 : ¬ b + 1 = b := (by omega); simp [canT, okI, sameI, wrI, inV, eqV, e1, e2, e3])⟩⟩
        · exact ⟨_, rfl, .inl ⟨t10, _, rfl, yt10, (fun x hx => by simp at hx; rcases hx with rfl | rfl | rfl <;> simp [ItV]), (by simp), (show _ = canT _ _ by simp [canT, okI, sameI, wrI, inV, eqV])⟩⟩
      have cvw := cv.kp RAy RAw kw
      have hLw := (kHy.trans kw) _ _ hL nL
      have g3w := kw _ _ gy nl3
      refine ⟨_, rfl, _, rfl, _, rfl, L, xs, rfl, .of hLw, fun p1 hp1 => ?_⟩
      rw [cut_to xs (by omega)]
      have u1 := same_upd (o := .lst (xs.take k)) hp1
      have d1 : (upd Hw p1 (.lst (xs.take k))) p1 = some (.lst (xs.take k)) := upd_same
      generalize (upd Hw p1 (.lst (xs.take k))) = H1 at u1 d1 ⊢
      refine ⟨_, rfl, _, rfl, l3, _, _, v, rfl, rfl, .of (u1 _ _ g3w), hv, (by show 1 ≤ sizeLine; decide), fun p2 hp2 => ?_⟩
      have u2 := same_upd (o := .lst [v]) hp2
      have d2 : (upd H1 p2 (.lst [v])) p2 = some (.lst [v]) := upd_same
      generalize (upd H1 p2 (.lst [v])) = H2 at u2 d2 ⊢
      refine ⟨p1, p2, _, _, rfl, rfl, u2 _ _ d1, d2, Nat.le_of_lt (small1000 (by rw [List.length_take]; show min k xs.length + 1 ≤ 1000; omega)), fun p3 hp3 => ?_⟩
      have u3 := same_upd (o := .lst (xs.take k ++ [v])) hp3
      have d3 : (upd H2 p3 (.lst (xs.take k ++ [v]))) p3 = some (.lst (xs.take k ++ [v])) := upd_same
      generalize (upd H2 p3 (.lst (xs.take k ++ [v]))) = H3 at u3 d3 ⊢
      refine ⟨_, rfl, _, rfl, _, _, rfl, rfl, _, rfl, L, xs, rfl, .of (u3 _ _ (u2 _ _ (u1 _ _ hLw))), fun p4 hp4 => ?_⟩
      rw [show ((k : Int) + 1) = (((k + 1 : Nat)) : Int) by omega, cut_from xs (by omega)]
      have u4 := same_upd (o := .lst (xs.drop (k + 1))) hp4
      have d4 : (upd H3 p4 (.lst (xs.drop (k + 1)))) p4 = some (.lst (xs.drop (k + 1))) := upd_same
      generalize (upd H3 p4 (.lst (xs.drop (k + 1)))) = H4 at u4 d4 ⊢
      refine ⟨p3, p4, _, _, rfl, rfl, u4 _ _ d3, d4, Nat.le_of_lt (small1000 (by rw [List.length_append, List.length_take, List.length_drop]; show min k xs.length + 1 + _ ≤ 1000; omega)), fun p5 hp5 => ?_⟩
      rw [set_cut xs v lk]
      have u5 := same_upd (o := .lst (xs.set k v)) hp5
      have d5 : (upd H4 p5 (.lst (xs.set k v))) p5 = some (.lst (xs.set k v)) := upd_same
      have uw4 := ((u1.trans u2).trans u3).trans u4
      have hp50 : H p5 = none := kp_none (RAw.same uw4) ((kHy.trans kw).trans (Same.kp uw4)) hp5
      generalize (upd H4 p5 (.lst (xs.set k v))) = H5 at u5 d5 ⊢
      refine ⟨_, rfl, (by show 2 ≤ sizeLine; decide), fun p6 hp6 => ?_⟩
      have u6 := same_upd (o := .tup [.int 2, .int 9]) hp6
      refine ⟨p6, _, rfl, .inr (.of upd_same), rfl, rfl, (by show 2 ≤ sizeLine; decide), fun t ht => ?_⟩
      have u7 := same_upd (o := .tup [.ref p5, .bl (wrI wy)]) ht
      have uw := (uw4.trans u5).trans (u6.trans u7)
      exact q _ t p5 v (wrI wy) (RAw.same uw) ((kHy.trans kw).trans (Same.kp uw)) upd_same hp50 ((u6.trans u7) _ _ d5) (cvw.same uw)
    · rw [decide_eq_false r2]
      refine iteF ?_
      refine ⟨(by show 3 ≤ sizeLine; decide), fun t10 h10 => ?_⟩
      have sx := same_upd (o := .tup [.non, .bl true, .non]) h10
      have g10 : (upd Hl3 t10 (.tup [.non, .bl true, .non])) t10 = some (.tup [.non, .bl true, .non]) := upd_same
      generalize (upd Hl3 t10 (.tup [.non, .bl true, .non])) = Hx at g10 sx ⊢
      have g3x := sx _ _ gl3
      refine ⟨l3, _, _, rfl, rfl, g3x, (by show 10 < sizeLine; decide), ?_⟩
      have kx : ∀ {x o}, Hx x = some o → x ≠ l3 → (upd Hx l3 (.lst [.ref t0, .ref t1, .ref t2, .ref t3, .ref t4, .ref t5, .non, .ref t7, .ref t8, .ref t9, .ref t10])) x = some o := fun h n1 => by
        rw [upd_ne n1]
        exact h
      have gy : (upd Hx l3 (.lst [.ref t0, .ref t1, .ref t2, .ref t3, .ref t4, .ref t5, .non, .ref t7, .ref t8, .ref t9, .ref t10])) l3 = some (.lst [.ref t0, .ref t1, .ref t2, .ref t3, .ref t4, .ref t5, .non, .ref t7, .ref t8, .ref t9, .ref t10]) := upd_same
      have yt0 := kx (sx _ _ ft0) (ne_of (sx _ _ ft0) g3x (by intro z; cases z))
      have yt1 := kx (sx _ _ ft1) (ne_of (sx _ _ ft1) g3x (by intro z; cases z))
      have yt2 := kx (sx _ _ ft2) (ne_of (sx _ _ ft2) g3x (by intro z; cases z))
      have yt3 := kx (sx _ _ ft3) (ne_of (sx _ _ ft3) g3x (by intro z; cases z))
      have yt4 := kx (sx _ _ ft4) (ne_of (sx _ _ ft4) g3x (by intro z; cases z))
      have yt7 := kx (sx _ _ ft7) (ne_of (sx _ _ ft7) g3x (by intro z; cases z))
      have yt8 := kx (sx _ _ ft8) (ne_of (sx _ _ ft8) g3x (by intro z; cases z))
      have yt9 := kx (sx _ _ ft9) (ne_of (sx _ _ ft9) g3x (by intro z; cases z))
      have yt5 := kx (sx _ _ ft5) n5
      have yt10 := kx g10 (ne_of g10 g3x (by intro z; cases z))
      have RAy : RowAt K (upd Hx l3 (.lst [.ref t0, .ref t1, .ref t2, .ref t3, .ref t4, .ref t5, .non, .ref t7, .ref t8, .ref t9, .ref t10])) row c ns := (RA1.same sx).upd' nl3 fl3
      have kHy : Kp row H (upd Hx l3 (.lst [.ref t0, .ref t1, .ref t2, .ref t3, .ref t4, .ref t5, .non, .ref t7, .ref t8, .ref t9, .ref t10])) := kp_new (Same.kp (sA.trans sx)) hl30
      show tSeq _ _ _ [some (.ref row), some (.ref L), some (.int (k : Int)), some (.int a), some (.int (r : Int)), some (.int b), some (.ref l3), none] (upd Hx l3 (.lst [.ref t0, .ref t1, .ref t2, .ref t3, .ref t4, .ref t5, .non, .ref t7, .ref t8, .ref t9, .ref t10]))
      generalize (upd Hx l3 (.lst [.ref t0, .ref t1, .ref t2, .ref t3, .ref t4, .ref t5, .non, .ref t7, .ref t8, .ref t9, .ref t10])) = Hy at gy yt0 yt1 yt2 yt3 yt4 yt5 yt7 yt8 yt9 yt10 RAy kHy ⊢
      refine ⟨_, rfl, _, rfl, l3, _, rfl, .inl (.of gy), row, c, ns, _, rfl, RAy, (by show (1 : Int) ≤ 11; decide), (by show (11 : Int) < 1073741824; decide), fun wy Hw w0 w1 RAw kw => ?_⟩
      have w1' : wy < 11 := w1
      obtain ⟨v, hv, cv⟩ : ∃ v, atI ([.ref t0, .ref t1, .ref t2, .ref t3, .ref t4, .ref t5, .non, .ref t7, .ref t8, .ref t9, .ref t10] : List V) wy = some v ∧ CanV Hy v [a, (r : Int), b] (!wrI wy) := by
        have cw : wy = 0 ∨ wy = 1 ∨ wy = 2 ∨ wy = 3 ∨ wy = 4 ∨ wy = 5 ∨ wy = 6 ∨ wy = 7 ∨ wy = 8 ∨ wy = 9 ∨ wy = 10 := by omega
        rcases cw with rfl | rfl | rfl | rfl | rfl | rfl | rfl | rfl | rfl | rfl | rfl
        · exact ⟨_, rfl, .inl ⟨t0, _, rfl, yt0, (fun x hx => by simp at hx; rcases hx with rfl | rfl | rfl <;> simp [ItV]), (by simp), (show _ = canT _ _ by have e1 : ¬ a + 1 = a := (by omega); have e2 : ¬ ((r : Int) + 1 = (r : Int)) := (by omega); have e3 : ¬ b + 1 = b := (by omega); simp [canT, okI, sameI, wrI, inV, eqV, e1, e2, e3])⟩⟩
        · exact ⟨_, rfl, .inl ⟨t1, _, rfl, yt1, (fun x hx => by simp at hx; rcases hx with rfl | rfl | rfl <;> simp [ItV]), (by simp), (show _ = canT _ _ by have e1 : ¬ a + 1 = a := (by omega); have e2 : ¬ ((r : Int) + 1 = (r : Int)) := (by omega); have e3 : ¬ b + 1 = b := (by omega); simp [canT, okI, sameI, wrI, inV, eqV, e1, e2, e3])⟩⟩
        · exact ⟨_, rfl, .inl ⟨t2, _, rfl, yt2, (fun x hx => by simp at hx; rcases hx with rfl | rfl | rfl <;> simp [ItV]), (by simp), (show _ = canT _ _ by have e1 : ¬ a + 1 = a := (by omega); have e2 : ¬ ((r : Int) + 1 = (r : Int)) := (by omega); have e3 : ¬ b + 1 = b := (by omega); simp [canT, okI, sameI, wrI, inV, eqV, e1, e2, e3])⟩⟩
        · exact ⟨_, rfl, .inl ⟨t3, _, rfl, yt3, (fun x hx => by simp at hx; rcases hx with rfl | rfl | rfl <;> simp [ItV]), (by simp), (show _ = canT _ _ by have e1 : ¬ a + 1 = a := (by omega); have e2 : ¬ ((r : Int) + 1 = (r : Int)) := (by omega); have e3 : ¬ b + 1 = b := (by omega); simp [canT, okI, sameI, wrI, inV, eqV, e1, e2, e3])⟩⟩
        · exact ⟨_, rfl, .inl ⟨t4, _, rfl, yt4, (fun x hx => by simp at hx; rcases hx with rfl | rfl <;> simp [ItV]), (by simp), (show _ = canT _ _ by have e1 : ¬ a + 1 = a := (by omega); have e2 : ¬ ((r : Int) + 1 = (r : Int)) := (by omega); have e3 : ¬ b + 1 = b := (by omega); simp [canT, okI, sameI, wrI, inV, eqV, e1, e2, e3])⟩⟩
        · exact ⟨_, rfl, .inr ⟨.inr ⟨t5, _, rfl, yt5⟩, rfl⟩⟩
        · exact ⟨_, rfl, .inr ⟨.inl rfl, rfl⟩⟩
        · exact ⟨_, rfl, .inl ⟨t7, _, rfl, yt7, (fun x hx => by simp at hx; rcases hx with rfl | rfl | rfl | rfl <;> simp [ItV]), (by simp), (show _ = canT _ _ by have e1 : ¬ a + 1 = a := (by omega); have e2 : ¬ ((r : Int) + 1 = (r : Int)) := (by omega); have e3 : ¬ b + 1 = b := (by omega); simp [canT, okI, sameI, wrI, inV, eqV, e1, e2, e3])⟩⟩
        · exact ⟨_, rfl, .inl ⟨t8, _, rfl, yt8, (fun x hx => by simp at hx; rcases hx with rfl | rfl | rfl <;> simp [ItV]), (by simp), (show _ = canT _ _ by have e1 : ¬ a + 1 = a := (by omega); have e2 : ¬ ((r : Int) + 1 = (r : Int)) := (by omega); have e3 : ¬ b + 1 = b := (by omega); simp [canT, okI, sameI, wrI, inV, eqV, e1, e2, e3])⟩⟩
        · exact ⟨_, rfl, .inl ⟨t9, _, rfl, yt9, (fun x hx => by simp at hx; rw [hx]; simp [ItV]), (by simp), (show _ = canT _ _ by have e1 : ¬ a + 1 = a := (by omega); have e2 : ¬ ((r : Int) + 1 = (r : Int)) := (by omega); have e3 : ¬ b + 1 = b := (by omega); simp [canT, okI, sameI, wrI, inV, eqV, e1, e2, e3])⟩⟩
        · exact ⟨_, rfl, .inl ⟨t10, _, rfl, yt10, (fun x hx => by simp at hx; rcases hx with rfl | rfl | rfl <;> simp [ItV]), (by simp), (show _ = canT _ _ by simp [canT, okI, sameI, wrI, inV, eqV])⟩⟩
      have cvw := cv.kp RAy RAw kw
      have hLw := (kHy.trans kw) _ _ hL nL
      have g3w := kw _ _ gy nl3
      refine ⟨_, rfl, _, rfl, _, rfl, L, xs, rfl, .of hLw, fun p1 hp1 => ?_⟩
      rw [cut_to xs (by omega)]
      have u1 := same_upd (o := .lst (xs.take k)) hp1
      have d1 : (upd Hw p1 (.lst (xs.take k))) p1 = some (.lst (xs.take k)) := upd_same
      generalize (upd Hw p1 (.lst (xs.take k))) = H1 at u1 d1 ⊢
      refine ⟨_, rfl, _, rfl, l3, _, _, v, rfl, rfl, .of (u1 _ _ g3w), hv, (by show 1 ≤ sizeLine; decide), fun p2 hp2 => ?_⟩
      have u2 := same_upd (o := .lst [v]) hp2
      have d2 : (upd H1 p2 (.lst [v])) p2 = some (.lst [v]) := upd_same
      generalize (upd H1 p2 (.lst [v])) = H2 at u2 d2 ⊢
      refine ⟨p1, p2, _, _, rfl, rfl, u2 _ _ d1, d2, Nat.le_of_lt (small1000 (by rw [List.length_take]; show min k xs.length + 1 ≤ 1000; omega)), fun p3 hp3 => ?_⟩
      have u3 := same_upd (o := .lst (xs.take k ++ [v])) hp3
      have d3 : (upd H2 p3 (.lst (xs.take k ++ [v]))) p3 = some (.lst (xs.take k ++ [v])) := upd_same
      generalize (upd H2 p3 (.lst (xs.take k ++ [v]))) = H3 at u3 d3 ⊢
      refine ⟨_, rfl, _, rfl, _, _, rfl, rfl, _, rfl, L, xs, rfl, .of (u3 _ _ (u2 _ _ (u1 _ _ hLw))), fun p4 hp4 => ?_⟩
      rw [show ((k : Int) + 1) = (((k + 1 : Nat)) : Int) by omega, cut_from xs (by omega)]
      have u4 := same_upd (o := .lst (xs.drop (k + 1))) hp4
      have d4 : (upd H3 p4 (.lst (xs.drop (k + 1)))) p4 = some (.lst (xs.drop (k + 1))) := upd_same
      generalize (upd H3 p4 (.lst (xs.drop (k + 1)))) = H4 at u4 d4 ⊢
      refine ⟨p3, p4, _, _, rfl, rfl, u4 _ _ d3, d4, Nat.le_of_lt (small1000 (by rw [List.length_append, List.length_take, List.length_drop]; show min k xs.length + 1 + _ ≤ 1000; omega)), fun p5 hp5 => ?_⟩
      rw [set_cut xs v lk]
      have u5 := same_upd (o := .lst (xs.set k v)) hp5
      have d5 : (upd H4 p5 (.lst (xs.set k v))) p5 = some (.lst (xs.set k v)) := upd_same
      have uw4 := ((u1.trans u2).trans u3).trans u4
      have hp50 : H p5 = none := kp_none (RAw.same uw4) ((kHy.trans kw).trans (Same.kp uw4)) hp5
      generalize (upd H4 p5 (.lst (xs.set k v))) = H5 at u5 d5 ⊢
      refine ⟨_, rfl, (by show 2 ≤ sizeLine; decide), fun p6 hp6 => ?_⟩
      have u6 := same_upd (o := .tup [.int 2, .int 9]) hp6
      refine ⟨p6, _, rfl, .inr (.of upd_same), rfl, rfl, (by show 2 ≤ sizeLine; decide), fun t ht => ?_⟩
      have u7 := same_upd (o := .tup [.ref p5, .bl (wrI wy)]) ht
      have uw := (uw4.trans u5).trans (u6.trans u7)
      exact q _ t p5 v (wrI wy) (RAw.same uw) ((kHy.trans kw).trans (Same.kp uw)) upd_same hp50 ((u6.trans u7) _ _ d5) (cvw.same uw)
end
end Rp
/-! _law_raised(lambda: ..); the law's statements as terms. -/
namespace Rp
open PySem PySem.Spec PyProof.Rows L2 Rz Rm Rt Rl LamX
section
variable {X : Cx}
/-- _law_raised(lambda: e), t being e's reading -/
def tRs1 {K : PySem.W.Frag} {mg : Str → Option Value} (S : RdS K mg) (Tb : List (Addr × Str)) (t : XK → TE) : TE := fun σ H Q => Tabs Tb H ∧ ∀ H1, ExtN H H1 → Tabs Tb H1 → ∀ E : XK, (∀ cls d H', RsO1 S Q cls d H' → E cls d H') → t E σ H1 fun _ H' => Q .non H'
theorem pe_rs1 {c PT : Addr} {k : Nat} {params : Arguments} {body : Expr} {scope : Scope} {p lp pos : Pos} {t : XK → TE} (T : Tx X.K X.mg) {S : RdS X.K X.mg} (B : RdF S) (TB : TabB X.base X.mg c PT) (hcode : X.env.code = .ref c) (hg : Gl X "_law_raised")
    (L : LamP X.N X.env.scope scope) (hdef : defaultsOf params X.env = ([], [])) (hno : ∀ (q : Str) (cl : List (Str × Addr)) (c' : Addr) (doc pm ctv : Value) (sZ : Shared), BindsTo sZ (PySem.W.kdv_fn "<lambda>" q params (.expr body) scope cl .none doc pm (.ref c') ctv) ⟨[], []⟩ []) (hr : Room (k + 2) X.A)
    (hbody : ∀ (A : Around) (outer : List Env) (s : Shared) (H : Hp) (E : XK) (f c' : Addr), Room k (A.deeper (lamEnv X scope s.heap.objs.size f c')) → PE (lamCx X A outer s H E scope f c') body (t E))
    (hst : starEach [.Lambda params body scope lp] X.env = (false, eval (.Lambda params body scope lp) X.env) :: starEach [] X.env := by rfl) (hpl : (backTo pos (starEach ([] : List Expr) X.env)).any (·.1) = false := by rfl) :
    PE X (.Call (.Name "_law_raised" p) [.Lambda params body scope lp] [] pos) (tRs1 S [(PT, X.env.qual ++ "<lambda>")] t) := by
  obtain ⟨oc, od, kV, doc, pm, an, cdv, ct, osl, e, lk, hcd⟩ := T.F_lraised.ex
  have bt := T.b_lraised
  rw [e] at lk bt
  have go := pe_lamcallV (X := X) (ι := Addr) (F := fun c' => ⟨X.env.qual ++ "<lambda>", params, body, scope, cloFrom X.env.cells scope.names [], .none, c'⟩) (G := fun _ _ => True) (TT := TRs1 S) (x := "_law_raised") (a := "_law_work") (k := k) (t := fun _ => t) (p := p) (pos := pos)
    hg T.g_lraised T.F_lraised.kp lk hcd bt sc_lraised rfl (.inl rfl) (gives_raised1 B)
    ⟨fun _ => L, fun _ => rfl, fun _ => rfl, fun i doc pm ctv sZ HZ _ _ => ⟨[], hno _ _ _ _ _ _ _, fun y hy => by cases hy⟩⟩
    (pa_cons (pe_lam0 (pos := lp) TB hcode (List.mem_singleton.mpr rfl) (fun q hq _ => by rw [List.mem_singleton.mp hq]) (fun y hy z => L.free y hy z) hdef) pa_nil) hr
    (fun i A outer s H E f hr2 => hbody A outer s H E f i hr2) hst hpl
  refine ⟨fun pins s σ H Q I h => go.run pins s σ H Q I ?_⟩
  obtain ⟨hT, h⟩ := h
  exact ⟨hT, fun f c' H1 x1 t1 hf e1 e2 => ⟨f, c', rfl, e1, e2, True.intro, fun E hE => h H1 x1 t1 E hE⟩⟩
theorem pass0G {X : Cx} : Passes (L2.CX X.prog X.w) X E0 := fun pins σ H s e s' I c => by
  obtain ⟨_, _, _, _, _, _, _, _, _, _, _, _, no⟩ := c
  exact no.elim
end
theorem fn_calm {P : Program} {w : World} {K : PySem.W.Frag} {mg : Str → Option Value} {base : Heap} {k : Nat} {f : Addr} {fd : FuncData} {ps : List Str} {sp : Sp} (F : FnOk P w K mg base (L2.CX P w) k f fd ps sp) :
    FnOk P w K mg base CX0 k f fd ps (fun vs H Q _ => sp vs H Q fun _ _ _ => False) := by
  refine ⟨fun vs H Q E h => F.len vs H Q _ h, fun A outer s H args us vs Q E hr e0 b r h => ?_⟩
  refine codeAny_mono (F.run A outer s H args us vs Q _ hr e0 b r h) fun res s' z => ?_
  cases res with
  | ok fl => cases fl <;> exact z
  | error e =>
    obtain ⟨_, _, _, _, _, _, _, _, _, _, _, _, no⟩ := z
    exact no.elim
theorem Tabs_kp {K : PySem.W.Frag} {H H' : Hp} {row a : Addr} {ns : List Int} {Tb : List (Addr × Str)} (RA : RowAt K H row a ns) (k : Kp row H H') (t : Tabs Tb H) : Tabs Tb H' := fun p hp => by
  obtain ⟨_, _, _, hrow, _⟩ := RA.ob
  obtain ⟨ps, h1, h2, h3⟩ := t p hp
  refine ⟨ps, k _ _ h1 (fun e => by rw [e, hrow] at h1; cases h1), h2, fun pos cv hc => ?_⟩
  obtain ⟨c, e1, e2⟩ := h3 pos cv hc
  refine ⟨c, e1, k _ _ e2 (fun e => ?_)⟩
  rw [e, hrow] at e2
  unfold CodeO at e2
  cases e2
theorem kp_of {K : PySem.W.Frag} {H H' : Hp} {row a b : Addr} {ns : List Int} {o : HO} (RA : RowAt K H row a ns) (k : Kp row H H') (h : H b = some o) (n : ∀ i m q : Int, o ≠ .lst [.ref a, .int i, .int m, .int q]) : H' b = some o := by
  obtain ⟨i, m, q, hrow, _⟩ := RA.ob
  refine k _ _ h fun e => ?_
  rw [e, hrow] at h
  exact n i m q (Option.some.inj h).symm
theorem RowAt.extN {K : PySem.W.Frag} {H H' : Hp} {row a : Addr} {ns : List Int} (R : RowAt K H row a ns) (s : ExtN H H') : RowAt K H' row a ns := by
  obtain ⟨i, m, q, h, h0⟩ := R.ob
  refine ⟨⟨i, m, q, s _ _ h (by intro ps z; cases z), h0⟩, ?_, R.ne⟩
  rcases R.sc with (z | ⟨o, z⟩) | z
  · exact .inl (.inl (s _ _ z (by intro ps z; cases z)))
  · exact .inl (.inr ⟨o, s _ _ z (by intro ps z; cases z)⟩)
  · exact .inr z
theorem RingAt.kp8 {K : PySem.W.Frag} {C : Addr} {H H' : Hp} {row a p dx td ts : Addr} {ns ds ss : List Int} (RA : RowAt K H row a ns) (k : Kp row H H') (R : RingAt C H p dx td ts ds ss) : RingAt C H' p dx td ts ds ss :=
  ⟨kp_of RA k R.ob (fun _ _ _ z => by cases z), kp_of RA k R.td (fun _ _ _ z => by cases z), kp_of RA k R.ts (fun _ _ _ z => by cases z), R.ok⟩
theorem RingAt.extN {C : Addr} {H H' : Hp} {p dx td ts : Addr} {ds ss : List Int} (R : RingAt C H p dx td ts ds ss) (s : ExtN H H') : RingAt C H' p dx td ts ds ss :=
  ⟨s _ _ R.ob (by intro ps z; cases z), s _ _ R.td (by intro ps z; cases z), s _ _ R.ts (by intro ps z; cases z), R.ok⟩
abbrev p0 : Pos := ⟨0, 0, 0, 0⟩
def stBody : Stmt → List Stmt
  | .For _ _ b _ _ => b
  | .While _ b _ _ => b
  | _ => []
abbrev bs (j : Nat) : Stmt := (defBody s_law).getD j (.Pass ⟨0, 0, 0, 0⟩)
abbrev fl (i j : Nat) : Stmt := (stBody (bs i)).getD j (.Pass ⟨0, 0, 0, 0⟩)
/-- the lambda that a test calls -/
def raE : Stmt → Expr
  | .If (.Compare (.Call _ (e :: _) _ _) _ _ _) _ _ _ => e
  | e => .Name "" p0
abbrev le1 : Expr := raE (fl 7 3)
abbrev le2 : Expr := raE (fl 8 0)
abbrev le3 : Expr := raE (bs 9)
abbrev le4 : Expr := raE (fl 10 0)
abbrev XL (P : Program) (w : World) (K : PySem.W.Frag) (mg : Str → Option Value) (base : Heap) (f : Addr) (cdv : Value) (A : Around) (outer : List Env) (s : Shared) (H0 : Hp) (E : XK) : Cx := (cxOf CX0 P w K mg base N_law "law" (defScope s_law) f cdv A outer s H0 E).nox
section
variable {P : Program} {w : World} {K : PySem.W.Frag} {mg : Str → Option Value} {base : Heap}
variable {f : Addr} {cT PT CN : Addr} {A : Around} {outer : List Env} {s : Shared} {H0 : Hp} {E : XK}


def L1R (K : PySem.W.Frag) (C C5 : Addr) (E' : XK) : TE := fun σ H Q => ∃ (rl p : Addr) (v : V), σ[14]? = some (some (.ref rl)) ∧ σ[4]? = some (some (.ref p)) ∧ σ[12]? = some (some v) ∧ (∃ zs, H rl = some (.lst zs)) ∧
  spMd K C C5 [.ref p, v] H (fun x H' => ∃ zs, H' rl = some (.lst zs) ∧ zs.length < sizeLine ∧ Q .non (upd H' rl (.lst (zs ++ [x])))) E'
def L2R (K : PySem.W.Frag) (C C5 : Addr) (E' : XK) : TE := fun σ H Q => ∃ (p : Addr) (v : V), σ[4]? = some (some (.ref p)) ∧ σ[15]? = some (some v) ∧ spMd K C C5 [.ref p, v] H Q E'
def L3R (K : PySem.W.Frag) (C C5 : Addr) (E' : XK) : TE := fun σ H Q => ∃ (p : Addr), σ[4]? = some (some (.ref p)) ∧ ∀ (H1 : Hp) (l t : Addr), Same H H1 → H1 t = some (.tup [.non, .non, .non]) → H1 l = some (.lst (List.replicate 501 (.ref t))) → spMd K C C5 [.ref p, .ref l] H1 Q E'
def L4R (K : PySem.W.Frag) (C CN : Addr) (E' : XK) : TE := fun σ H Q => ∃ (p : Addr) (v : V), σ[4]? = some (some (.ref p)) ∧ σ[15]? = some (some v) ∧ spDia K C CN [.ref p, v] H (fun out H2 => ∀ q, H2 q = none → Q (.ref q) (upd H2 q (.lst out))) (fun cls d H' => E' cls d H' ∧ cls = .ref CN)
theorem rep_ref (n : Nat) (t : Addr) : (List.replicate n [V.ref t]).flatten = List.replicate n (V.ref t) := by
  induction n with
  | zero => rfl
  | succ n ih =>
    rw [List.replicate_succ, List.flatten_cons, ih, List.replicate_succ]
    rfl
section
variable {A' : Around} {outer' : List Env} {s' : Shared} {H' : Hp} {E' : XK} {f' c' : Addr}
theorem h1 (T : Tx K mg) {S : RdS K mg} (E4 : RxE K mg "InvalidNumber" S.k6) (B : RdF S) (hr : Room 10 (A'.deeper (lamEnv (XL P w K mg base f (.ref cT) A outer s H0 E) (lpS le1) s'.heap.objs.size f' c'))) : PE (lamCx (XL P w K mg base f (.ref cT) A outer s H0 E) A' outer' s' H' E' (lpS le1) f' c') (lpB le1) (L1R K T.C S.k5 E') := by
  have go : PE (lamCx (XL P w K mg base f (.ref cT) A outer s H0 E) A' outer' s' H' E' (lpS le1) f' c') (lpB le1) _ := pe_bm PySem.F.plainAttrs_list PySem.F.slot_list_append PySem.F.type_list_append mt_append (pv 14) (pa_cons ((pe_call (E := E') (ok_md T E4 B) hr (by rfl) T.g_mended T.F_mended.kp T.b_mended .nil (passes_call (takes_of rfl rfl rfl rfl) (fun _ _ _ _ z => z)) (pa_cons (pv 4) (pa_cons (pv 12) pa_nil)))) pa_nil)
  refine ⟨fun pins s σ H Q I h => go.run pins s σ H Q I ?_⟩
  obtain ⟨rl, p, v, e1, e2, e3, ⟨zs, hz⟩, sp⟩ := h
  obtain ⟨p', dx, td, ts, ds, ss, v', ev, R, hv⟩ := sp
  cases ev
  refine ⟨_, e1, .inl ⟨rfl, _, SqL.of hz⟩, _, e2, _, e3, p, dx, td, ts, ds, ss, v, rfl, R, ?_⟩
  rcases hv with hv | ⟨L, xs, o, h1, h2, h3, h4, h5, h6⟩
  · exact .inl hv
  · refine .inr ⟨L, xs, o, h1, h2, h3, h4, h5, fun eo H1 M ys D k a1 a2 a3 a4 a5 a6 => ?_⟩
    obtain ⟨zs, b1, b2, b3⟩ := h6 eo H1 M ys D k a1 a2 a3 a4 a5 a6
    exact ⟨rl, _, _, rfl, rfl, b1, b2, b3⟩
theorem h2 (T : Tx K mg) {S : RdS K mg} (E4 : RxE K mg "InvalidNumber" S.k6) (B : RdF S) (hr : Room 10 (A'.deeper (lamEnv (XL P w K mg base f (.ref cT) A outer s H0 E) (lpS le2) s'.heap.objs.size f' c'))) : PE (lamCx (XL P w K mg base f (.ref cT) A outer s H0 E) A' outer' s' H' E' (lpS le2) f' c') (lpB le2) (L2R K T.C S.k5 E') := by
  have go : PE (lamCx (XL P w K mg base f (.ref cT) A outer s H0 E) A' outer' s' H' E' (lpS le2) f' c') (lpB le2) _ := (pe_call (E := E') (ok_md T E4 B) hr (by rfl) T.g_mended T.F_mended.kp T.b_mended .nil (passes_call (takes_of rfl rfl rfl rfl) (fun _ _ _ _ z => z)) (pa_cons (pv 4) (pa_cons (pv 15) pa_nil)))
  refine ⟨fun pins s σ H Q I h => go.run pins s σ H Q I ?_⟩
  obtain ⟨p, v, e2, e3, sp⟩ := h
  exact ⟨_, e2, _, e3, sp⟩
theorem h3 (T : Tx K mg) {S : RdS K mg} (E4 : RxE K mg "InvalidNumber" S.k6) (B : RdF S) (hr : Room 10 (A'.deeper (lamEnv (XL P w K mg base f (.ref cT) A outer s H0 E) (lpS le3) s'.heap.objs.size f' c'))) : PE (lamCx (XL P w K mg base f (.ref cT) A outer s H0 E) A' outer' s' H' E' (lpS le3) f' c') (lpB le3) (L3R K T.C S.k5 E') := by
  have go : PE (lamCx (XL P w K mg base f (.ref cT) A outer s H0 E) A' outer' s' H' E' (lpS le3) f' c') (lpB le3) _ := (pe_call (E := E') (ok_md T E4 B) hr (by rfl) T.g_mended T.F_mended.kp T.b_mended .nil (passes_call (takes_of rfl rfl rfl rfl) (fun _ _ _ _ z => z)) (pa_cons (pv 4) (pa_cons (pe_op op_rep (pe_lst (pa_cons (pe_tup (pa_cons pe_non (pa_cons pe_non (pa_cons pe_non pa_nil)))) pa_nil)) pe_int) pa_nil)))
  refine ⟨fun pins s σ H Q I h => go.run pins s σ H Q I ?_⟩
  obtain ⟨p, e2, sp⟩ := h
  refine ⟨_, e2, (by show 3 ≤ sizeLine; decide), fun t ht => ⟨(by show 1 ≤ sizeLine; decide), fun l0 hl0 => ?_⟩⟩
  have s1 := same_upd (o := .tup [.non, .non, .non]) ht
  have g1 : (upd H t (.tup [.non, .non, .non])) t = some (.tup [.non, .non, .non]) := upd_same
  generalize (upd H t (.tup [.non, .non, .non])) = H1 at s1 g1 hl0 ⊢
  have s2 := same_upd (o := .lst [.ref t]) hl0
  have g2 : (upd H1 l0 (.lst [.ref t])) l0 = some (.lst [.ref t]) := upd_same
  generalize (upd H1 l0 (.lst [.ref t])) = H2 at s2 g2 ⊢
  refine ⟨l0, _, _, rfl, rfl, g2, by decide, by decide, ?_, fun l hl => ?_⟩
  · show 1 * 501 ≤ sizeLine
    have := small1000 (n := 501) (by omega)
    omega
  have s3 := same_upd (o := .lst (List.replicate 501 (.ref t))) hl
  show spMd K T.C S.k5 _ (upd H2 l (.lst (List.replicate 501 [V.ref t]).flatten)) _ _
  rw [rep_ref]
  exact sp _ l t ((s1.trans s2).trans s3) (s3 _ _ (s2 _ _ g1)) upd_same
theorem h4 (T : Tx K mg) {S : RdS K mg} (E4 : RxE K mg "InvalidNumber" S.k6) (hst : PySem.W.subIn K (.ref S.k6) (.type "StopIteration") = some false) (hr : Room 10 (A'.deeper (lamEnv (XL P w K mg base f (.ref cT) A outer s H0 E) (lpS le4) s'.heap.objs.size f' c'))) : PE (lamCx (XL P w K mg base f (.ref cT) A outer s H0 E) A' outer' s' H' E' (lpS le4) f' c') (lpB le4) (L4R K T.C S.k6 E') := by
  have go : PE (lamCx (XL P w K mg base f (.ref cT) A outer s H0 E) A' outer' s' H' E' (lpS le4) f' c') (lpB le4) _ := pe_listG (pgen_call (E := fun cls d H' => E' cls d H' ∧ cls = .ref S.k6) (ok_dia T E4) (hr.mono (by decide : 6 ≤ 10)) (by rfl) T.g_diary_of T.F_diary_of.kp T.b_diary_of .nil (pa_cons (pv 4) (pa_cons (pv 15) pa_nil))) (passes_call (takes_of rfl rfl rfl rfl) (fun _ _ _ _ z => z.1)) (fun cls d H z => by rw [z.2]; exact hst) (hr.mono (by decide : 9 ≤ 10)) (by rfl) T.z_list (by decide +kernel)
  refine ⟨fun pins s σ H Q I h => go.run pins s σ H Q I ?_⟩
  obtain ⟨p, v, e2, e3, sp⟩ := h
  exact ⟨_, e2, _, e3, sp⟩
end
theorem t73 (T : Tx K mg) {S : RdS K mg} (E4 : RxE K mg "InvalidNumber" S.k6) (B : RdF S) (TB : TabB base mg cT PT)  (hr : Room 13 (A.deeper (envOfC "law" (defScope s_law) s.heap.objs.size f (.ref cT)))) : ∃ t, PS (XL P w K mg base f (.ref cT) A outer s H0 E) (fl 7 3) t :=
  ⟨_, ps_if (pt_cmpR (op_neD hr.units) (pe_rs1 (X := XL P w K mg base f (.ref cT) A outer s H0 E) (k := 10) T B TB rfl (by rfl) (lamP_by (N := N_law) (sc := defScope s_law) (by decide +kernel)) rfl (fun _ _ _ _ _ _ _ => .of_eq rfl) (hr.mono (by decide : 12 ≤ 13)) (fun A' outer' s' H' E' f' c' hr => h1 T E4 B hr)) (pe_ifExp (pt_val (pv 13)) (pe_tup (pa_cons pe_str (pa_cons (pv 11) pa_nil))) pe_non) (nomark _)) (pss_one (ps_ret pe_bl)) pss_nil⟩
theorem t80 (T : Tx K mg) {S : RdS K mg} (E4 : RxE K mg "InvalidNumber" S.k6) (B : RdF S) (TB : TabB base mg cT PT)  (hr : Room 13 (A.deeper (envOfC "law" (defScope s_law) s.heap.objs.size f (.ref cT)))) : ∃ t, PS (XL P w K mg base f (.ref cT) A outer s H0 E) (fl 8 0) t :=
  ⟨_, ps_if (pt_cmpR (op_neD hr.units) (pe_rs1 (X := XL P w K mg base f (.ref cT) A outer s H0 E) (k := 10) T B TB rfl (by rfl) (lamP_by (N := N_law) (sc := defScope s_law) (by decide +kernel)) rfl (fun _ _ _ _ _ _ _ => .of_eq rfl) (hr.mono (by decide : 12 ≤ 13)) (fun A' outer' s' H' E' f' c' hr => h2 T E4 B hr)) (pe_tup (pa_cons pe_str (pa_cons pe_int pa_nil))) (nomark _)) (pss_one (ps_ret pe_bl)) pss_nil⟩
theorem t9 (T : Tx K mg) {S : RdS K mg} (E4 : RxE K mg "InvalidNumber" S.k6) (B : RdF S) (TB : TabB base mg cT PT)  (hr : Room 13 (A.deeper (envOfC "law" (defScope s_law) s.heap.objs.size f (.ref cT)))) : ∃ t, PS (XL P w K mg base f (.ref cT) A outer s H0 E) (bs 9) t :=
  ⟨_, ps_if (pt_cmpR (op_neD hr.units) (pe_rs1 (X := XL P w K mg base f (.ref cT) A outer s H0 E) (k := 10) T B TB rfl (by rfl) (lamP_by (N := N_law) (sc := defScope s_law) (by decide +kernel)) rfl (fun _ _ _ _ _ _ _ => .of_eq rfl) (hr.mono (by decide : 12 ≤ 13)) (fun A' outer' s' H' E' f' c' hr => h3 T E4 B hr)) (pe_tup (pa_cons pe_str (pa_cons pe_int pa_nil))) (nomark _)) (pss_one (ps_ret pe_bl)) pss_nil⟩
theorem t100 (T : Tx K mg) {S : RdS K mg} (E4 : RxE K mg "InvalidNumber" S.k6) (B : RdF S) (TB : TabB base mg cT PT) (hst : PySem.W.subIn K (.ref S.k6) (.type "StopIteration") = some false)  (hr : Room 13 (A.deeper (envOfC "law" (defScope s_law) s.heap.objs.size f (.ref cT)))) : ∃ t, PS (XL P w K mg base f (.ref cT) A outer s H0 E) (fl 10 0) t :=
  ⟨_, ps_if (pt_cmpR (op_neD hr.units) (pe_rs1 (X := XL P w K mg base f (.ref cT) A outer s H0 E) (k := 10) T B TB rfl (by rfl) (lamP_by (N := N_law) (sc := defScope s_law) (by decide +kernel)) rfl (fun _ _ _ _ _ _ _ => .of_eq rfl) (hr.mono (by decide : 12 ≤ 13)) (fun A' outer' s' H' E' f' c' hr => h4 T E4 hst hr)) (pe_tup (pa_cons pe_str pa_nil)) (nomark _)) (pss_one (ps_ret pe_bl)) pss_nil⟩
end
end Rp
/-! What the law has at hand. -/
namespace Rp
open PySem PySem.Spec PyProof.Rows L2 Rz Rm Rt Rl LamX
theorem pre_ent {ds ss : List Int} {D : Nat} {l : List Int} (h : l ∈ Pre ds ss D 0) : ∃ (i j : Nat) (b : Int), i < D ∧ l = [(i : Int) + 1, (j : Int), b] := by
  unfold Pre at h
  rw [kx_zero, List.map_nil, List.append_nil] at h
  obtain ⟨L, hL, hl⟩ := List.mem_flatten.mp h
  obtain ⟨i, hi, rfl⟩ := List.mem_map.mp hL
  obtain ⟨j, hj, rfl⟩ := List.mem_map.mp hl
  exact ⟨i, j, _, List.mem_range.mp hi, rfl⟩
theorem pre_len {ds ss : List Int} {D k : Nat} {l : List Int} (h : l ∈ Pre ds ss D k) : l.length = 3 := by
  obtain ⟨a, j, b, rfl, _⟩ := pre_three h
  rfl
theorem can_self (H : Hp) {t : Addr} {l : List Int} (h : H t = some (.tup (l.map V.int))) (hl : l.length ≤ 10) : CanV H (.ref t) l true :=
  .inl ⟨t, _, rfl, h, fun x hx => by
    obtain ⟨y, _, rfl⟩ := List.mem_map.mp hx
    exact .inr (.inl ⟨y, rfl⟩), by rw [List.length_map]; exact hl, (canT_of (List.length_map ..) fun m x z h1 h2 => by
      rw [List.getElem?_map, h2] at h1
      cases h1
      exact decide_eq_true rfl).symm⟩
theorem can_none (H : Hp) {t : Addr} {l : List Int} (h : H t = some (.tup [.non, .non, .non])) (hl : l.length = 3) : CanV H (.ref t) l true :=
  .inl ⟨t, _, rfl, h, fun x hx => by
    simp at hx
    exact .inl hx, by simp, (canT_of (by simp [hl]) fun m x z h1 _ => by
      have : x = .non := by
        have := List.mem_of_getElem? h1
        simpa using this
      rw [this]
      rfl).symm⟩
theorem tups_take {H : Hp} : ∀ {xs : List V} {ls : List (List Int)} (n : Nat), Tups H xs ls → Tups H (xs.take n) (ls.take n)
  | _, _, 0, _ => .nil
  | _, _, _ + 1, .nil => .nil
  | _, _, n + 1, .cons r t => .cons r (tups_take n t)
/-- two lists of equal tuples are alike -/
theorem like_tups {H : Hp} {l m : Addr} {xs ys : List V} {ls : List (List Int)} (h1 : H l = some (.lst xs)) (h2 : H m = some (.lst ys)) (t1 : Tups H xs ls) (t2 : Tups H ys ls) (h3 : ∀ z ∈ ls, z.length ≤ 1000) (hl : ls.length ≤ 1000) : LkD 2 H (.ref l) (.ref m) := by
  refine .inr ⟨l, m, xs, ys, rfl, rfl, .inr ⟨h1, h2⟩, by rw [t1.length, t2.length], by rw [t1.length]; exact hl, fun i x y hx hy => ?_⟩
  obtain ⟨z, hz⟩ : ∃ z, ls[i]? = some z := ⟨_, List.getElem?_eq_getElem (by rw [← t1.length]; exact (List.getElem?_eq_some_iff.mp hx).1)⟩
  obtain ⟨a, e1, k1⟩ := t1.get hz
  obtain ⟨b, e2, k2⟩ := t2.get hz
  rw [hx] at e1
  rw [hy] at e2
  cases e1
  cases e2
  exact LkD.ints (.inl ⟨k1, k2⟩) (h3 z (List.mem_of_getElem? hz))
theorem sh_diary (k : Int) : SeqAt.shaped (.tuple [.str "diary", .int k]) = true := by
  first
    | rfl
    | (simp [SeqAt.shaped, PyData.canLay0, PyData.depth, PyData.canLayAll0, PyData.depthAll]; decide +kernel)
theorem sh_number : SeqAt.shaped (.tuple [.str "number"]) = true := by decide +kernel
theorem sh_none : SeqAt.shaped .none = true := by decide +kernel
theorem eq_diary (k : Int) : PyData.eqv (.tuple [.str "diary", .int k]) (.tuple [.str "diary", .int k]) = true := by
  first
    | exact eqv_refl _ (by simp [PyData.canLay0])
    | exact PySem.eqv_refl _ (by simp [PyData.canLay0])
    | exact PySem.PyData.eqv_refl _ (by simp [PyData.canLay0])
    | (simp [PyData.eqv, PyData.eqvAll]; done)
    | (show (_ && (_ && true)) = true; simp)
structure Lq where
  (a row p dx td ts en : Addr)
  (ns ds ss : List Int)
  xs : List V
  D : Nat
structure LD (K : PySem.W.Frag) (C : Addr) (Tb : List (Addr × Str)) (H : Hp) (q : Lq) : Prop where
  RA : RowAt K H q.row q.a q.ns
  tb : Tabs Tb H
  R : RingAt C H q.p q.dx q.td q.ts q.ds q.ss
  en : H q.en = some (.lst q.xs)
  ee : Tups H q.xs (Pre q.ds q.ss q.D 0)
  nr : q.en ≠ q.row
  lo : 25 ≤ q.xs.length
  hi : q.xs.length ≤ 40
  dd : q.D ≤ 10000
section
variable {K : PySem.W.Frag} {C : Addr} {Tb : List (Addr × Str)} {H H' : Hp} {q : Lq}
theorem LD.same (b : LD K C Tb H q) (s : Same H H') : LD K C Tb H' q := ⟨b.RA.same s, b.tb.ext s, b.R.same s, s _ _ b.en, b.ee.mono fun _ _ h => s _ _ h, b.nr, b.lo, b.hi, b.dd⟩
theorem LD.kp (b : LD K C Tb H q) (k : Kp q.row H H') (RA' : RowAt K H' q.row q.a q.ns) : LD K C Tb H' q :=
  ⟨RA', Tabs_kp b.RA k b.tb, b.R.kp8 b.RA k, k _ _ b.en b.nr, b.ee.mono (b.RA.tups k), b.nr, b.lo, b.hi, b.dd⟩
theorem LD.extN (b : LD K C Tb H q) (s : ExtN H H') (t : Tabs Tb H') : LD K C Tb H' q :=
  ⟨b.RA.extN s, t, b.R.extN s, s _ _ b.en (by intro ps z; cases z), b.ee.mono fun _ _ h => s _ _ h (by intro ps z; cases z), b.nr, b.lo, b.hi, b.dd⟩
/-- a list of its own is written -/
theorem LD.upd (b : LD K C Tb H q) {rl : Addr} {zs ws : List V} (h : H rl = some (.lst zs)) (n1 : rl ≠ q.row) (n2 : rl ≠ q.a ∨ Wr K q.a (q.ns.map V.int)) (n3 : q.en ≠ rl) : LD K C Tb (upd H rl (.lst ws)) q := by
  have kx : ∀ {x o}, H x = some o → (∀ l, o ≠ .lst l) → (L2.upd H rl (.lst ws)) x = some o := fun {x o} e n => (upd_ne fun z => by
    rw [z, h] at e
    exact n _ (Option.some.inj e).symm).trans e
  refine ⟨b.RA.upd' n1 n2, fun p hp => ?_, ⟨kx b.R.ob (fun _ z => by cases z), kx b.R.td (fun _ z => by cases z), kx b.R.ts (fun _ z => by cases z), b.R.ok⟩, (upd_ne n3).trans b.en, b.ee.mono fun _ _ e => kx e (fun _ z => by cases z), b.nr, b.lo, b.hi, b.dd⟩
  obtain ⟨ps, h1, h2, h3⟩ := b.tb p hp
  refine ⟨ps, kx h1 (fun _ z => by cases z), h2, fun pos cv hc => ?_⟩
  obtain ⟨c, e1, e2⟩ := h3 pos cv hc
  exact ⟨c, e1, kx e2 fun l z => by
    unfold CodeO at z
    cases z⟩
/-- what a diary of the ring with so many entries is -/
theorem LD.pre (b : LD K C Tb H q) {D k n : Nat} (hk : k ≤ q.ds.length) (hn : n ≤ q.xs.length) (h : (Pre q.ds q.ss D k).length = n) : Pre q.ds q.ss D k = (Pre q.ds q.ss q.D 0).take n := by
  have e := pre_take (ss := q.ss) hk (Nat.zero_le _) (D' := q.D) (k' := 0) (by rw [h, ← b.ee.length]; exact hn)
  rw [h] at e
  exact e
end
abbrev sg (q : Lq) (z2 z3 z5 z6 z8 z9 z10 z11 z12 z13 z14 z15 : Option V) : L2.St := [some (.ref q.a), some (.ref q.row), z2, z3, some (.ref q.p), z5, z6, some (.ref q.en), z8, z9, z10, z11, z12, z13, z14, z15]
end Rp
namespace Rp
open PySem PySem.Spec PyProof.Rows L2 Rz Rm Rt Rl LamX
theorem CanV.extN {H H' : Hp} (s : ExtN H H') {v : V} {l : List Int} {b : Bool} (h : CanV H v l b) : CanV H' v l b := by
  rcases h with ⟨t, xs, h1, h2, h3⟩ | ⟨h1 | ⟨p, xs, h1, h2⟩, h3⟩
  · exact .inl ⟨t, xs, h1, s _ _ h2 (by intro ps z; cases z), h3⟩
  · exact .inr ⟨.inl h1, h3⟩
  · exact .inr ⟨.inr ⟨p, xs, h1, s _ _ h2 (by intro ps z; cases z)⟩, h3⟩
theorem iteEqv {d e : PyData} {A B : Prop} (hc : PyData.eqv d e = true) (h : B) : if (!PyData.eqv d e) = true then A else B := by
  rw [hc]
  exact iteF h
/-- what is not a list -/
def NoL (H : Hp) (v : V) : Prop := v = .non ∨ (∃ i, v = .int i) ∨ (∃ x, v = .str x) ∨ ∃ t xs, v = .ref t ∧ H t = some (.tup xs)
theorem NoL.ty {K : PySem.W.Frag} {H : Hp} {v : V} (h : NoL H v) : ∃ t : String, TyX K H v (.type t) ∧ kitB t "list" = some false := by
  rcases h with rfl | ⟨i, rfl⟩ | ⟨x, rfl⟩ | ⟨t, xs, rfl, h⟩
  · exact ⟨"NoneType", .base .non, by decide +kernel⟩
  · exact ⟨"int", .base (.int i), by decide +kernel⟩
  · exact ⟨"str", .base (.str x), by decide +kernel⟩
  · exact ⟨"tuple", .base (.tup h), by decide +kernel⟩
theorem NoL.extN {H H' : Hp} (s : ExtN H H') {v : V} (h : NoL H v) : NoL H' v := by
  rcases h with h | h | h | ⟨t, xs, h1, h⟩
  · exact .inl h
  · exact .inr (.inl h)
  · exact .inr (.inr (.inl h))
  · exact .inr (.inr (.inr ⟨t, xs, h1, s _ _ h (by intro ps z; cases z)⟩))
theorem md_chg {K : PySem.W.Frag} {C : Addr} {Tb : List (Addr × Str)} {H : Hp} {q : Lq} (b : LD K C Tb H q) {k : Nat} {v : V} {l : List Int} {wr : Bool} (hk : k < 20) (hl : ((Pre q.ds q.ss q.D 0).take 20)[k]? = some l) (cv : CanV H v l (!wr)) :
    ((q.xs.take 20).set k v).length = 20 ∧ ∀ D2 k2, k2 ≤ q.ds.length → (Pre q.ds q.ss D2 k2).length = min ((q.xs.take 20).set k v).length 500 → Pre q.ds q.ss D2 k2 = (Pre q.ds q.ss q.D 0).take 20 ∧ MdC H ((q.xs.take 20).set k v) (Pre q.ds q.ss D2 k2) (if wr = true then some k else none) := by
  have lo := b.lo
  have e20 : ((q.xs.take 20).set k v).length = 20 := by rw [List.length_set, List.length_take]; omega
  refine ⟨e20, fun D2 k2 h2 hl2 => ?_⟩
  rw [e20] at hl2
  have ep := b.pre (n := 20) h2 (by omega) (hl2.trans rfl)
  refine ⟨ep, ?_⟩
  have tt := tups_take 20 b.ee
  have oth : ∀ (j : Nat) (x : V) (l' : List Int), j ≠ k → ((q.xs.take 20).set k v)[j]? = some x → (Pre q.ds q.ss D2 k2)[j]? = some l' → CanV H x l' true := fun j x l' n h1 h3 => by
    rw [List.getElem?_set_ne (Ne.symm n)] at h1
    rw [ep] at h3
    obtain ⟨t, e1, e2⟩ := tt.get h3
    rw [h1] at e1
    cases e1
    exact can_self H e2 (by rw [pre_len (List.mem_of_mem_take (List.mem_of_getElem? h3))]; decide)
  have own : ((q.xs.take 20).set k v)[k]? = some v := List.getElem?_set_self (by rw [List.length_take]; omega)
  cases wr with
  | true =>
    rw [if_pos rfl]
    exact ⟨by omega, by omega, fun _ => ⟨v, l, own, by rw [ep]; exact hl, cv⟩, fun j x l' hj => oth j x l' (by omega)⟩
  | false =>
    rw [if_neg (by decide)]
    refine ⟨by omega, fun j x l' h1 h3 => ?_⟩
    by_cases e : j = k
    · subst e
      rw [own] at h1
      rw [ep, hl] at h3
      cases h1
      cases h3
      exact cv
    · exact oth j x l' e h1 h3
section
variable {P : Program} {w : World} {K : PySem.W.Frag} {mg : Str → Option Value} {base : Heap}
variable {f : Addr} {cT PT : Addr} {A : Around} {outer : List Env} {s : Shared} {H0 : Hp} {E : XK}
theorem y_f80 (T : Tx K mg) {S : RdS K mg} (E4 : RxE K mg "InvalidNumber" S.k6) (B : RdF S) (TB : TabB base mg cT PT) (hst : PySem.W.subIn K (.ref S.k6) (.type "StopIteration") = some false) (hr : Room 13 (A.deeper (envOfC "law" (defScope s_law) s.heap.objs.size f (.ref cT)))) (R6 : RdR S S.k6 6) : ∃ t, PS (XL P w K mg base f (.ref cT) A outer s H0 E) (fl 8 0) t ∧ ∀ (D : Ends) (H : Hp) (q : Lq) (z2 z3 z5 z6 z8 z9 z10 z11 z12 z13 z14 z15 : Option V), ∀ v, z15 = some v → LD K T.C [(PT, (XL P w K mg base f (.ref cT) A outer s H0 E).env.qual ++ "<lambda>")] H q → NoL H v → (∀ H', ExtN H H' → LD K T.C [(PT, (XL P w K mg base f (.ref cT) A outer s H0 E).env.qual ++ "<lambda>")] H' q → D.nx (sg q z2 z3 z5 z6 z8 z9 z10 z11 z12 z13 z14 z15) H') → t D (sg q z2 z3 z5 z6 z8 z9 z10 z11 z12 z13 z14 z15) H := by
  have nd := sc_law.nd
  refine ⟨_, ps_if (pt_cmpR (op_neD hr.units) (pe_rs1 (X := XL P w K mg base f (.ref cT) A outer s H0 E) (k := 10) T B TB rfl (by rfl) (lamP_by (N := N_law) (sc := defScope s_law) (by decide +kernel)) rfl (fun _ _ _ _ _ _ _ => .of_eq rfl) (hr.mono (by decide : 12 ≤ 13)) (fun A' outer' s' H' E' f' c' hr => h2 T E4 B hr)) (pe_tup (pa_cons pe_str (pa_cons pe_int pa_nil))) (nomark _)) (pss_one (ps_ret pe_bl)) pss_nil, ?_⟩
  rintro D H q z2 z3 z5 z6 z8 z9 z10 z11 z12 z13 z14 z15 v rfl b hn nx
  refine ⟨b.tb, fun H1 x1 t1 E' hE => ?_⟩
  have b1 := b.extN x1 t1
  refine ⟨q.p, v, rfl, rfl, q.p, q.dx, q.td, q.ts, q.ds, q.ss, v, rfl, b1.R, .inl ⟨(hn.extN x1).ty, fun dd H2 s2 hd => hE _ _ _ (.inr ⟨dd, .int 0, rfl, rfl, hd, fun p3 H3 k3 n3 h3 => ?_⟩)⟩⟩
  refine ⟨(by show 2 ≤ sizeLine; decide), fun t4 h4 => ?_⟩
  have u4 := same_upd (o := .tup [.str "diary", .int 0]) h4
  exact ⟨_, _, .tup (.of (u4 _ _ h3)) (.cons (.str _) (.cons (.int _) .nil)), .tup (.of upd_same) (.cons (.str _) (.cons (.int _) .nil)), sh_diary _, sh_diary _, _, rfl, iteEqv (eq_diary _) (nx _ (x1.trans (ExtN.of ((Same.trans s2 k3).trans u4))) (((b1.same s2).same k3).same u4))⟩
theorem y_b9 (T : Tx K mg) {S : RdS K mg} (E4 : RxE K mg "InvalidNumber" S.k6) (B : RdF S) (TB : TabB base mg cT PT) (hst : PySem.W.subIn K (.ref S.k6) (.type "StopIteration") = some false) (hr : Room 13 (A.deeper (envOfC "law" (defScope s_law) s.heap.objs.size f (.ref cT)))) (R6 : RdR S S.k6 6) : ∃ t, PS (XL P w K mg base f (.ref cT) A outer s H0 E) (bs 9) t ∧ ∀ (D : Ends) (H : Hp) (q : Lq) (z2 z3 z5 z6 z8 z9 z10 z11 z12 z13 z14 z15 : Option V), LD K T.C [(PT, (XL P w K mg base f (.ref cT) A outer s H0 E).env.qual ++ "<lambda>")] H q → (∀ H', ExtN H H' → LD K T.C [(PT, (XL P w K mg base f (.ref cT) A outer s H0 E).env.qual ++ "<lambda>")] H' q → D.nx (sg q z2 z3 z5 z6 z8 z9 z10 z11 z12 z13 z14 z15) H') → t D (sg q z2 z3 z5 z6 z8 z9 z10 z11 z12 z13 z14 z15) H := by
  have nd := sc_law.nd
  refine ⟨_, ps_if (pt_cmpR (op_neD hr.units) (pe_rs1 (X := XL P w K mg base f (.ref cT) A outer s H0 E) (k := 10) T B TB rfl (by rfl) (lamP_by (N := N_law) (sc := defScope s_law) (by decide +kernel)) rfl (fun _ _ _ _ _ _ _ => .of_eq rfl) (hr.mono (by decide : 12 ≤ 13)) (fun A' outer' s' H' E' f' c' hr => h3 T E4 B hr)) (pe_tup (pa_cons pe_str (pa_cons pe_int pa_nil))) (nomark _)) (pss_one (ps_ret pe_bl)) pss_nil, ?_⟩
  rintro D H q z2 z3 z5 z6 z8 z9 z10 z11 z12 z13 z14 z15 b nx
  refine ⟨b.tb, fun H1 x1 t1 E' hE => ?_⟩
  have b1 := b.extN x1 t1
  refine ⟨q.p, rfl, fun H2 l t s12 ht hl => ?_⟩
  refine ⟨q.p, q.dx, q.td, q.ts, q.ds, q.ss, .ref l, rfl, b1.R.same s12, .inr ⟨l, _, some 500, rfl, hl, (by rw [List.length_replicate]; decide), fun D2 k2 hk2 hl2 => ?_, fun i ei dd H3 s23 hd => hE _ _ _ (.inr ⟨dd, .int 500, rfl, rfl, ?_, fun p3 H4 k3 n3 h3 => ?_⟩), fun e => by cases e⟩⟩
  · refine ⟨by rw [List.length_replicate]; decide, Nat.le_refl _, fun z => absurd z (Nat.lt_irrefl _), fun j x l' hj hx hl' => ?_⟩
    rw [List.getElem?_replicate] at hx
    split at hx
    · cases hx
      exact can_none _ ht (pre_len (List.mem_of_getElem? hl'))
    · cases hx
  · cases ei
    exact hd
  have s2 := s12.trans s23
  refine ⟨(by show 2 ≤ sizeLine; decide), fun t4 h4 => ?_⟩
  have u4 := same_upd (o := .tup [.str "diary", .int 500]) h4
  exact ⟨_, _, .tup (.of (u4 _ _ h3)) (.cons (.str _) (.cons (.int _) .nil)), .tup (.of upd_same) (.cons (.str _) (.cons (.int _) .nil)), sh_diary _, sh_diary _, _, rfl, iteEqv (eq_diary _) (nx _ (x1.trans (ExtN.of ((Same.trans s2 k3).trans u4))) (((b1.same s2).same k3).same u4))⟩
theorem y_f100 (T : Tx K mg) {S : RdS K mg} (E4 : RxE K mg "InvalidNumber" S.k6) (B : RdF S) (TB : TabB base mg cT PT) (hst : PySem.W.subIn K (.ref S.k6) (.type "StopIteration") = some false) (hr : Room 13 (A.deeper (envOfC "law" (defScope s_law) s.heap.objs.size f (.ref cT)))) (R6 : RdR S S.k6 6) : ∃ t, PS (XL P w K mg base f (.ref cT) A outer s H0 E) (fl 10 0) t ∧ ∀ (D : Ends) (H : Hp) (q : Lq) (z2 z3 z5 z6 z8 z9 z10 z11 z12 z13 z14 z15 : Option V), ∀ v, z15 = some v → LD K T.C [(PT, (XL P w K mg base f (.ref cT) A outer s H0 E).env.qual ++ "<lambda>")] H q → LieV K H v 0 500 false → (∀ H1, LieV K H1 v 0 500 false) → (∀ H', ExtN H H' → LD K T.C [(PT, (XL P w K mg base f (.ref cT) A outer s H0 E).env.qual ++ "<lambda>")] H' q → D.nx (sg q z2 z3 z5 z6 z8 z9 z10 z11 z12 z13 z14 z15) H') → t D (sg q z2 z3 z5 z6 z8 z9 z10 z11 z12 z13 z14 z15) H := by
  have nd := sc_law.nd
  refine ⟨_, ps_if (pt_cmpR (op_neD hr.units) (pe_rs1 (X := XL P w K mg base f (.ref cT) A outer s H0 E) (k := 10) T B TB rfl (by rfl) (lamP_by (N := N_law) (sc := defScope s_law) (by decide +kernel)) rfl (fun _ _ _ _ _ _ _ => .of_eq rfl) (hr.mono (by decide : 12 ≤ 13)) (fun A' outer' s' H' E' f' c' hr => h4 T E4 hst hr)) (pe_tup (pa_cons pe_str pa_nil)) (nomark _)) (pss_one (ps_ret pe_bl)) pss_nil, ?_⟩
  rintro D H q z2 z3 z5 z6 z8 z9 z10 z11 z12 z13 z14 z15 v rfl b _ hv nx
  refine ⟨b.tb, fun H1 x1 t1 E' hE => ?_⟩
  have b1 := b.extN x1 t1
  refine ⟨q.p, v, rfl, rfl, q.p, q.dx, q.td, q.ts, q.ds, q.ss, v, rfl, b1.R, .inr ⟨hv H1, hE _ _ _ (.inl ⟨S.k6, 6, rfl, rfl, R6, fun p3 H3 k3 n3 h3 => ?_⟩), rfl⟩⟩
  refine ⟨(by show 1 ≤ sizeLine; decide), fun t4 h4 => ?_⟩
  have u4 := same_upd (o := .tup [.str "number"]) h4
  exact ⟨_, _, .tup (.of (u4 _ _ h3)) (.cons (.str _) .nil), .tup (.of upd_same) (.cons (.str _) .nil), sh_number, sh_number, _, rfl, iteEqv (by decide +kernel) (nx _ (x1.trans (ExtN.of (Same.trans k3 u4))) ((b1.same k3).same u4))⟩
theorem y_f73 (T : Tx K mg) {S : RdS K mg} (E4 : RxE K mg "InvalidNumber" S.k6) (B : RdF S) (TB : TabB base mg cT PT) (hst : PySem.W.subIn K (.ref S.k6) (.type "StopIteration") = some false) (hr : Room 13 (A.deeper (envOfC "law" (defScope s_law) s.heap.objs.size f (.ref cT)))) (R6 : RdR S S.k6 6) : ∃ t, PS (XL P w K mg base f (.ref cT) A outer s H0 E) (fl 7 3) t ∧ ∀ (D : Ends) (H : Hp) (q : Lq) (z2 z3 z5 z6 z8 z9 z10 z11 z12 z13 z14 z15 : Option V), ∀ (k : Nat) (M rl : Addr) (wr : Bool) (v : V) (l : List Int), z11 = some (.int (k : Int)) → z12 = some (.ref M) → z13 = some (.bl wr) → z14 = some (.ref rl) → LD K T.C [(PT, (XL P w K mg base f (.ref cT) A outer s H0 E).env.qual ++ "<lambda>")] H q → k < 20 → ((Pre q.ds q.ss q.D 0).take 20)[k]? = some l → CanV H v l (!wr) → H M = some (.lst ((q.xs.take 20).set k v)) → H rl = some (.lst []) → rl ≠ q.row → (rl ≠ q.a ∨ Wr K q.a (q.ns.map V.int)) → q.en ≠ rl → (∀ H', LD K T.C [(PT, (XL P w K mg base f (.ref cT) A outer s H0 E).env.qual ++ "<lambda>")] H' q → (wr = false → ∃ M2 ys, H' rl = some (.lst [.ref M2]) ∧ H' M2 = some (.lst ys) ∧ Tups H' ys ((Pre q.ds q.ss q.D 0).take 20)) → D.nx (sg q z2 z3 z5 z6 z8 z9 z10 z11 z12 z13 z14 z15) H') → t D (sg q z2 z3 z5 z6 z8 z9 z10 z11 z12 z13 z14 z15) H := by
  have nd := sc_law.nd
  refine ⟨_, ps_if (pt_cmpR (op_neD hr.units) (pe_rs1 (X := XL P w K mg base f (.ref cT) A outer s H0 E) (k := 10) T B TB rfl (by rfl) (lamP_by (N := N_law) (sc := defScope s_law) (by decide +kernel)) rfl (fun _ _ _ _ _ _ _ => .of_eq rfl) (hr.mono (by decide : 12 ≤ 13)) (fun A' outer' s' H' E' f' c' hr => h1 T E4 B hr)) (pe_ifExp (pt_val (pv 13)) (pe_tup (pa_cons pe_str (pa_cons (pv 11) pa_nil))) pe_non) (nomark _)) (pss_one (ps_ret pe_bl)) pss_nil, ?_⟩
  rintro D H q z2 z3 z5 z6 z8 z9 z10 z11 z12 z13 z14 z15 k M rl wr v l rfl rfl rfl rfl b hk hl cv hM hrl n1 n2 n3 nx
  refine ⟨b.tb, fun H1 x1 t1 E' hE => ?_⟩
  have b1 := b.extN x1 t1
  have hM1 := x1 _ _ hM (by intro ps z; cases z)
  have hrl1 := x1 _ _ hrl (by intro ps z; cases z)
  obtain ⟨e20, mdc⟩ := md_chg b1 hk hl (cv.extN x1)
  refine ⟨rl, q.p, .ref M, rfl, rfl, rfl, ⟨_, hrl1⟩, q.p, q.dx, q.td, q.ts, q.ds, q.ss, .ref M, rfl, b1.R, .inr ⟨M, _, _, rfl, hM1, by rw [e20]; decide, fun D2 k2 h2 hl2 => (mdc D2 k2 h2 hl2).2, fun i ei dd H2 s2 hd => hE _ _ _ (.inr ⟨dd, .int (k : Int), rfl, rfl, ?_, fun p3 H3 k3 n3' h3 => ?_⟩), fun eo H2 M2 ys D2 k2 h2 hl2 s2 hM2 hM22 T2 => ?_⟩⟩
  · cases wr with
    | true =>
      rw [if_pos rfl] at ei
      cases ei
      exact hd
    | false =>
      rw [if_neg (by decide)] at ei
      cases ei
  · cases wr with
    | true =>
      refine ⟨_, rfl, true, rfl, iteT ?_⟩
      refine ⟨_, rfl, (by show 2 ≤ sizeLine; decide), fun t4 h4 => ?_⟩
      have u4 := same_upd (o := .tup [.str "diary", .int (k : Int)]) h4
      exact ⟨_, _, .tup (.of (u4 _ _ h3)) (.cons (.str _) (.cons (.int _) .nil)), .tup (.of upd_same) (.cons (.str _) (.cons (.int _) .nil)), sh_diary _, sh_diary _, _, rfl, iteEqv (eq_diary _) (nx _ (((b1.same s2).same k3).same u4) fun z => Bool.noConfusion z)⟩
    | false =>
      rw [if_neg (by decide)] at ei
      cases ei
  · cases wr with
    | true =>
      rw [if_pos rfl] at eo
      cases eo
    | false =>
      have hrl2 := s2 _ _ hrl1
      have nM : M2 ≠ rl := Ne.symm (ne_of_none hrl1 hM2)
      obtain ⟨ep, _⟩ := mdc D2 k2 h2 (by rw [hl2, e20]; decide)
      rw [ep] at T2
      refine ⟨_, hrl2, (by show 0 < sizeLine; decide), ?_⟩
      have b3 := (b1.same s2).upd (ws := [V.ref M2]) hrl2 n1 n2 n3
      refine ⟨_, rfl, false, rfl, iteF ?_⟩
      exact ⟨.none, .none, .non, .non, sh_none, sh_none, _, rfl, iteEqv rfl (nx _ b3 fun _ => ⟨M2, ys, upd_same, (upd_ne nM).trans hM22, T2.mono fun c zs e => (upd_ne fun z => by
        rw [z, hrl2] at e
        cases e).trans e⟩)⟩
end
end Rp
namespace Rp
open PySem PySem.Spec PyProof.Rows L2 Rz Rm Rt Rl LamX
theorem sum_upto {f : Int → Int} {c : Int} (h : ∀ i, f i ≤ c) (r : Int) : ∀ n : Nat, sumBack f r n ≤ n * c
  | 0 => by simp [sumBack]
  | n + 1 => by
    have h1 := sum_upto h r n
    have h2 := h (r - n)
    have e : ((n + 1 : Nat) : Int) * c = n * c + c := by rw [show ((n + 1 : Nat) : Int) = (n : Int) + 1 by omega, Int.add_mul, Int.one_mul]
    unfold sumBack
    omega
section
variable {ds ss : List Int} {M : Int} (RR : Rm.Ring ds.length (at' ds) (at' ss) ss.sum ds.sum M)
include RR
theorem E_le (h30 : ∀ i, at' ds i ≤ 30) (r : Int) {x : Int} (hx : 0 ≤ x) : Rm.E (at' ds) (at' ss) r x ≤ 30 * (((x.toNat + 1) * ds.length : Nat) : Int) + x * 30 := by
  obtain ⟨k, h1, h2⟩ := RR.att r hx
  have hk : k < (x.toNat + 1) * ds.length := by
    rcases Nat.lt_or_ge k ((x.toNat + 1) * ds.length) with z | z
    · exact z
    · have a1 := sum_mono RR.s0 r z
      have a2 := RR.sumS r 0 (x.toNat + 1)
      rw [Nat.zero_add] at a2
      have a3 : ((x.toNat + 1 : Nat) : Int) * 1 ≤ ((x.toNat + 1 : Nat) : Int) * ss.sum := Int.mul_le_mul_of_nonneg_left RR.b1 (by omega)
      have a4 : sumBack (at' ss) r 0 = 0 := rfl
      omega
  have h3 := sum_upto h30 r (k + 1)
  have h4 := max_le h30 r k
  have h5 := sum_nn RR.s0 r k
  have h6 : (x - sumBack (at' ss) r k) * maxBack (at' ds) r k ≤ x * 30 := by
    have b1 : (x - sumBack (at' ss) r k) * maxBack (at' ds) r k ≤ (x - sumBack (at' ss) r k) * 30 := Int.mul_le_mul_of_nonneg_left h4 (by omega)
    have b2 : (x - sumBack (at' ss) r k) * 30 ≤ x * 30 := by omega
    omega
  rw [← h2]
  unfold ch
  have h7 : ((k + 1 : Nat) : Int) * 30 ≤ 30 * (((x.toNat + 1) * ds.length : Nat) : Int) := by omega
  omega
end
theorem pre_succ (ds ss : List Int) (D : Nat) : Pre ds ss (D + 1) 0 = Pre ds ss D 0 ++ Ke ds ss (D : Int) := by
  rw [← pre_row]
  unfold Pre
  rw [kx_zero, List.map_nil, List.append_nil]
  rfl
theorem tups_app {H : Hp} : ∀ {xs ys : List V} {ls ms : List (List Int)}, Tups H xs ls → Tups H ys ms → Tups H (xs ++ ys) (ls ++ ms)
  | _, _, _, _, .nil, t => t
  | _, _, _, _, .cons r t, u => .cons r (tups_app t u)
def WL (K : PySem.W.Frag) (C : Addr) (Tb : List (Addr × Str)) (a row p dx td ts : Addr) (ns ds ss : List Int) (z2 z3 z5 z9 z10 z11 z12 z13 z14 z15 : Option V) (n : Nat) (σ : L2.St) (H' : Hp) : Prop :=
  ∃ (m en : Addr) (xs : List V) (d : Nat) (z8 : Option V), σ = [some (.ref a), some (.ref row), z2, z3, some (.ref p), z5, some (.ref m), some (.ref en), z8, z9, z10, z11, z12, z13, z14, z15] ∧ RowAt K H' row a ns ∧ Tabs Tb H' ∧ RingAt C H' p dx td ts ds ss ∧ MAt H' m td ds ss (d : Int) ∧ H' en = some (.lst xs) ∧ en ≠ row ∧ Tups H' xs (Pre ds ss d 0) ∧ xs.length ≤ 40 ∧ d ≤ 7000 ∧ n = (7001 - d : Nat)
theorem ke_le (ds ss : List Int) (D : Int) : (Ke ds ss D).length ≤ ds.length := by
  unfold Ke Kx
  rw [List.length_map]
  exact Nat.le_trans (List.length_filter_le _ _) (by rw [List.length_range]; exact Nat.le_refl _)
section
variable {P : Program} {w : World} {K : PySem.W.Frag} {mg : Str → Option Value} {base : Heap}
variable {f : Addr} {cT PT : Addr} {A : Around} {outer : List Env} {s : Shared} {H0 : Hp} {E : XK}
theorem y_b4 (T : Tx K mg) {S : RdS K mg} (E4 : RxE K mg "InvalidNumber" S.k6) (B : RdF S) (TB : TabB base mg cT PT) (hst : PySem.W.subIn K (.ref S.k6) (.type "StopIteration") = some false) (hr : Room 13 (A.deeper (envOfC "law" (defScope s_law) s.heap.objs.size f (.ref cT)))) : ∃ t, PS (XL P w K mg base f (.ref cT) A outer s H0 E) (bs 4) t ∧ ∀ (D : Ends) (H : Hp) (a row p dx td ts m en : Addr) (ns ds ss : List Int) (z2 z3 z5 z8 z9 z10 z11 z12 z13 z14 z15 : Option V), RowAt K H row a ns → Tabs [(PT, (XL P w K mg base f (.ref cT) A outer s H0 E).env.qual ++ "<lambda>")] H → RingAt T.C H p dx td ts ds ss → MAt H m td ds ss 0 → H en = some (.lst []) → en ≠ row →
  (∀ H' (q : Lq) z6 z8, q.a = a → q.row = row → q.p = p → LD K T.C [(PT, (XL P w K mg base f (.ref cT) A outer s H0 E).env.qual ++ "<lambda>")] H' q → D.nx (sg q z2 z3 z5 z6 z8 z9 z10 z11 z12 z13 z14 z15) H') → t D [some (.ref a), some (.ref row), z2, z3, some (.ref p), z5, some (.ref m), some (.ref en), z8, z9, z10, z11, z12, z13, z14, z15] H := by
  have nd := sc_law.nd
  refine ⟨_, ps_while PassesOwn.never (pt_cmpR op_lt (pe_callB call_len_seq (by rfl) T.z_len PySem.boot_len (pa_cons (pv 7) pa_nil)) pe_int (nomark _)) (pss_cons (ps_asg (pe_call (ok_nxt T) (hr.mono (by decide : 3 ≤ 13)) (by rfl) T.g_lnext T.F_lnext.kp T.b_lnext .nil pass0 (pa_cons (pv 6) pa_nil)) (pg_tup rfl (pgs_cons (pg_name (i := 6) nd rfl (.inl rfl)) (pgs_cons (pg_name (i := 8) nd rfl (.inl rfl)) pgs_nil)))) (pss_one (ps_set (i := 7) nd rfl (.inl rfl) (pe_op op_cat (pv 7) (pv 8))))), ?_⟩
  rintro D H a row p dx td ts m en ns ds ss z2 z3 z5 z8 z9 z10 z11 z12 z13 z14 z15 RA tb R M0 hen nen nx
  obtain ⟨M, hM, hMu⟩ := R.ok.max
  have RR := R.ok.ring hM hMu
  have l2 := R.ok.l2
  have l8 := R.ok.l8
  have h30 : ∀ i, at' ds i ≤ 30 := fun i => (R.ok.d1 _ (at_mem (by omega) i)).2
  have eE := E_le RR h30 ((0 : Nat) : Int) (x := 24) (by omega)
  have eB : Rm.E (at' ds) (at' ss) ((0 : Nat) : Int) 24 ≤ 7000 := by
    have h1 : (((24 : Int).toNat + 1) * ds.length : Nat) ≤ 200 := by
      show 25 * ds.length ≤ 200
      omega
    omega
  obtain ⟨e24, he24⟩ : ∃ e, e = Rm.E (at' ds) (at' ss) ((0 : Nat) : Int) 24 := ⟨_, rfl⟩
  rw [← he24] at eB
  refine ⟨WL K T.C [(PT, (XL P w K mg base f (.ref cT) A outer s H0 E).env.qual ++ "<lambda>")] a row p dx td ts ns ds ss z2 z3 z5 z9 z10 z11 z12 z13 z14 z15,
    ⟨7001, m, en, [], 0, z8, rfl, RA, tb, R, M0, hen, nen, .nil, by decide, by omega, by omega⟩, ?_⟩
  rintro n σ H1 ⟨m, en, xs, d, z8, rfl, RA, tb, R, M1, hen, nen, TT, x40, d7, rfl⟩
  refine ⟨_, rfl, en, xs, rfl, .inl (.of hen), _, _, rfl, rfl, _, rfl, ?_⟩
  by_cases hc : ((xs.length : Nat) : Int) < 25
  · rw [decide_eq_true hc]
    have dlt : (d : Int) < e24 := by
      rcases Int.lt_or_le (d : Int) e24 with z | z
      · exact z
      · have h1 := cn_ge RR 0 (x := 24) (D := (d : Int)) (by omega) (by rw [← he24]; exact z)
        have h2 := cS_len RR d 0 0 (Nat.zero_le _) (by omega)
        rw [← TT.length] at h2
        unfold cS at h2
        rw [if_neg (by omega)] at h2
        omega
    refine iteT ⟨WL K T.C [(PT, (XL P w K mg base f (.ref cT) A outer s H0 E).env.qual ++ "<lambda>")] a row p dx td ts ns ds ss z2 z3 z5 z9 z10 z11 z12 z13 z14 z15 (7001 - (d + 1)), fun σ' H' h => ⟨7001 - (d + 1), by omega, h⟩, ?_⟩
    · refine ⟨_, rfl, m, td, ds, ss, (d : Int), rfl, M1, R.ok, by omega, by omega, fun H2 t m' le ys sl el ha s1 ht MR n1 n2 n3 n4 hle nle TK => ⟨t, _, rfl, .of ht, rfl, _, _, rfl, _, _, rfl, rfl, ?_⟩⟩
      have hen2 := s1 _ _ hen
      have lk := ke_le ds ss (d : Int)
      refine ⟨_, rfl, _, rfl, en, le, xs, ys, rfl, rfl, hen2, hle, Nat.le_of_lt (small1000 (by rw [TK.length]; omega)), fun np hnp => ?_⟩
      have s2 := same_upd (o := .lst (xs ++ ys)) hnp
      have s12 := s1.trans s2
      exact ⟨m', np, xs ++ ys, d + 1, some (.ref le), rfl, RA.same s12, tb.ext s12, R.same s12, ⟨sl, el, ha, by rw [show (((d + 1 : Nat)) : Int) = (d : Int) + 1 by omega]; exact MR.same s2⟩, upd_same, Ne.symm (fun z => RA.nn (same_none s1 hnp) z.symm), by
        rw [pre_succ]
        exact (tups_app (TT.mono fun _ _ h => s1 _ _ h) TK).mono fun _ _ h => s2 _ _ h, by rw [List.length_append, TK.length]; omega, by omega, rfl⟩
  · rw [decide_eq_false hc]
    refine iteF ?_
    exact nx H1 ⟨a, row, p, dx, td, ts, en, ns, ds, ss, xs, d⟩ (some (.ref m)) z8 rfl rfl rfl ⟨RA, tb, R, hen, TT, nen, by show 25 ≤ xs.length; omega, x40, by show d ≤ 10000; omega⟩
end
end Rp
namespace Rp
open PySem PySem.Spec PyProof.Rows L2 Rz Rm Rt Rl LamX
theorem like_two {H : Hp} {l m : Addr} {xs ys : List V} (h1 : H l = some (.lst xs)) (h2 : H m = some (.lst ys)) (hl : ys.length = xs.length) (h3 : xs.length ≤ 1000) (h : ∀ (i : Nat) (x y : V), xs[i]? = some x → ys[i]? = some y → LkD 2 H x y) : LkD 3 H (.ref l) (.ref m) :=
  .inr ⟨l, m, xs, ys, rfl, rfl, .inr ⟨h1, h2⟩, hl, h3, h⟩
theorem pre_small {ds ss : List Int} {D n : Nat} : ∀ z ∈ (Pre ds ss D 0).take n, z.length ≤ 10 := fun z hz => by
  rw [pre_len (List.mem_of_mem_take hz)]
  decide
section
variable {P : Program} {w : World} {K : PySem.W.Frag} {mg : Str → Option Value} {base : Heap}
variable {f : Addr} {cT PT : Addr} {A : Around} {outer : List Env} {s : Shared} {H0 : Hp} {E : XK}
theorem y_b5 (T : Tx K mg) {S : RdS K mg} (E4 : RxE K mg "InvalidNumber" S.k6) (B : RdF S) (TB : TabB base mg cT PT) (hst : PySem.W.subIn K (.ref S.k6) (.type "StopIteration") = some false) (hr : Room 13 (A.deeper (envOfC "law" (defScope s_law) s.heap.objs.size f (.ref cT)))) : ∃ t, PS (XL P w K mg base f (.ref cT) A outer s H0 E) (bs 5) t ∧ ∀ (D : Ends) (H : Hp) (q : Lq) (z2 z3 z5 z6 z8 z9 z10 z11 z12 z13 z14 z15 : Option V) (cnt : Nat), z5 = some (.int (cnt : Int)) → cnt < 20 → LD K T.C [(PT, (XL P w K mg base f (.ref cT) A outer s H0 E).env.qual ++ "<lambda>")] H q → (∀ H' tl l1 l2 ys1 ys2, LD K T.C [(PT, (XL P w K mg base f (.ref cT) A outer s H0 E).env.qual ++ "<lambda>")] H' q → H' tl = some (.lst [.ref l1, .ref l2]) → H' l1 = some (.lst ys1) → Tups H' ys1 ((Pre q.ds q.ss q.D 0).take cnt) → H' l2 = some (.lst ys2) → Tups H' ys2 ((Pre q.ds q.ss q.D 0).take cnt) → D.nx (sg q z2 z3 z5 z6 z8 (some (.ref tl)) z10 z11 z12 z13 z14 z15) H') → t D (sg q z2 z3 z5 z6 z8 z9 z10 z11 z12 z13 z14 z15) H := by
  have nd := sc_law.nd
  refine ⟨_, ps_set (i := 9) nd rfl (.inl rfl) (pe_lst (pa_cons (pe_listG (pgen_call (E := E0) (ok_dia T E4) (hr.mono (by decide : 6 ≤ 13)) (by rfl) T.g_diary_of T.F_diary_of.kp T.b_diary_of .nil (pa_cons (pv 4) (pa_cons (pv 5) pa_nil))) pass0G (fun _ _ _ h => h.elim) (hr.mono (by decide : 9 ≤ 13)) (by rfl) T.z_list (by decide +kernel)) (pa_cons (pe_call (fn_calm (ok_md T E4 B)) (hr.mono (by decide : 10 ≤ 13)) (by rfl) T.g_mended T.F_mended.kp T.b_mended .nil pass0 (pa_cons (pv 4) (pa_cons (pe_call (ok_torn T) (hr.mono (by decide : 2 ≤ 13)) (by rfl) T.g_ltorn T.F_ltorn.kp T.b_ltorn .nil pass0 (pa_cons (pv 1) (pa_cons (pe_slice sl_list (pv 7) po_none (po_some (pv 5))) pa_nil))) pa_nil))) pa_nil))), ?_⟩
  rintro D H q z2 z3 z5 z6 z8 z9 z10 z11 z12 z13 z14 z15 cnt rfl hc b nx
  have lo := b.lo
  refine ⟨_, rfl, _, rfl, q.p, q.dx, q.td, q.ts, q.ds, q.ss, _, rfl, b.R, .inl ⟨cnt, rfl, by omega, fun ys1 H1 D1 k1 hk1 hl1 s1 T1 l1 hl1' => ?_⟩⟩
  have e1 := b.pre (n := cnt) hk1 (by omega) hl1
  rw [e1] at T1
  have b1 := b.same s1
  have u1 := same_upd (o := .lst ys1) hl1'
  have g1 : (upd H1 l1 (.lst ys1)) l1 = some (.lst ys1) := upd_same
  have n1 := b1.RA.nn hl1'
  have b2 := b1.same u1
  have T2 : Tups (upd H1 l1 (.lst ys1)) ys1 ((Pre q.ds q.ss q.D 0).take cnt) := T1.mono fun _ _ h => u1 _ _ h
  generalize (upd H1 l1 (.lst ys1)) = H2 at u1 g1 b2 T2 ⊢
  refine ⟨_, rfl, _, rfl, _, rfl, _, rfl, _, rfl, q.en, q.xs, rfl, .of b2.en, fun p1 hp1 => ?_⟩
  rw [cut_to q.xs (by omega)]
  have u3 := same_upd (o := .lst (q.xs.take cnt)) hp1
  have g3 : (upd H2 p1 (.lst (q.xs.take cnt))) p1 = some (.lst (q.xs.take cnt)) := upd_same
  have n3 := b2.RA.nn hp1
  have b3 := b2.same u3
  have g13 := u3 _ _ g1
  have T3 : Tups (upd H2 p1 (.lst (q.xs.take cnt))) ys1 ((Pre q.ds q.ss q.D 0).take cnt) := T2.mono fun _ _ h => u3 _ _ h
  generalize (upd H2 p1 (.lst (q.xs.take cnt))) = H3 at u3 g3 b3 g13 T3 ⊢
  have lc : (q.xs.take cnt).length = cnt := by rw [List.length_take]; omega
  refine ⟨q.row, q.a, p1, q.ns, q.xs.take cnt, ((Pre q.ds q.ss q.D 0).take cnt), rfl, b3.RA, n3, g3, tups_take cnt b3.ee, by rw [lc]; omega, pre_small, fun H4 F zs RA4 k4 hF hF4 lz hz => ?_⟩
  have b4 := b3.kp k4 RA4
  have lz' : zs.length = cnt := by rw [lz, lc]
  have g14 := k4 _ _ g13 n1
  have T4 := T3.mono (b3.RA.tups k4)
  refine ⟨q.p, q.dx, q.td, q.ts, q.ds, q.ss, .ref F, rfl, b4.R, .inr ⟨F, zs, none, rfl, hF4, by omega, fun D2 k2 hk2 hl2 => ⟨by omega, fun i x l hx hl => ?_⟩, (fun i e => by cases e), fun _ H5 M ys2 D2 k2 hk2 hl2 s5 hM hM5 T5 => ⟨(by show 2 ≤ sizeLine; decide), fun tl htl => ?_⟩⟩⟩
  · rw [b.pre (n := cnt) hk2 (by omega) (by rw [hl2, lz']; omega)] at hl
    exact hz i x l hx hl
  rw [b.pre (n := cnt) hk2 (by omega) (by rw [hl2, lz'])] at T5
  have u6 := same_upd (o := .lst [.ref l1, .ref M]) htl
  exact nx _ tl l1 M ys1 ys2 ((b4.same s5).same u6) upd_same (u6 _ _ (s5 _ _ g14)) ((T4.mono fun _ _ h => s5 _ _ h).mono fun _ _ h => u6 _ _ h) (u6 _ _ hM5) (T5.mono fun _ _ h => u6 _ _ h)
theorem y_b6 (T : Tx K mg) {S : RdS K mg} (E4 : RxE K mg "InvalidNumber" S.k6) (B : RdF S) (TB : TabB base mg cT PT) (hst : PySem.W.subIn K (.ref S.k6) (.type "StopIteration") = some false) (hr : Room 13 (A.deeper (envOfC "law" (defScope s_law) s.heap.objs.size f (.ref cT)))) : ∃ t, PS (XL P w K mg base f (.ref cT) A outer s H0 E) (bs 6) t ∧ ∀ (D : Ends) (H : Hp) (q : Lq) (z2 z3 z5 z6 z8 z9 z10 z11 z12 z13 z14 z15 : Option V) (cnt : Nat) (tl l1 l2 : Addr) (ys1 ys2 : List V), z5 = some (.int (cnt : Int)) → z9 = some (.ref tl) → cnt < 20 → LD K T.C [(PT, (XL P w K mg base f (.ref cT) A outer s H0 E).env.qual ++ "<lambda>")] H q → H tl = some (.lst [.ref l1, .ref l2]) → H l1 = some (.lst ys1) → Tups H ys1 ((Pre q.ds q.ss q.D 0).take cnt) → H l2 = some (.lst ys2) → Tups H ys2 ((Pre q.ds q.ss q.D 0).take cnt) → (∀ H', LD K T.C [(PT, (XL P w K mg base f (.ref cT) A outer s H0 E).env.qual ++ "<lambda>")] H' q → D.nx (sg q z2 z3 z5 z6 z8 z9 z10 z11 z12 z13 z14 z15) H') → t D (sg q z2 z3 z5 z6 z8 z9 z10 z11 z12 z13 z14 z15) H := by
  have nd := sc_law.nd
  refine ⟨_, ps_if (pt_not (pt_val (pe_call (ok_likeD T 3) (hr.mono (by decide : 4 ≤ 13)) (by rfl) T.g_lalike T.F_lalike.kp T.b_lalike .nil pass0 (pa_cons (pv 9) (pa_cons (pe_op op_rep (pe_lst (pa_cons (pe_slice sl_list (pv 7) po_none (po_some (pv 5))) pa_nil)) pe_int) pa_nil))))) (pss_one (ps_ret pe_bl)) pss_nil, ?_⟩
  rintro D H q z2 z3 z5 z6 z8 z9 z10 z11 z12 z13 z14 z15 cnt tl l1 l2 ys1 ys2 rfl rfl hc b htl h1 T1 h2 T2 nx
  have lo := b.lo
  refine ⟨_, rfl, _, rfl, _, rfl, _, rfl, q.en, q.xs, rfl, .of b.en, fun p1 hp1 => ?_⟩
  rw [cut_to q.xs (by omega)]
  have u3 := same_upd (o := .lst (q.xs.take cnt)) hp1
  have g3 : (upd H p1 (.lst (q.xs.take cnt))) p1 = some (.lst (q.xs.take cnt)) := upd_same
  have b3 := b.same u3
  generalize (upd H p1 (.lst (q.xs.take cnt))) = H3 at u3 g3 b3 ⊢
  refine ⟨(by show 1 ≤ sizeLine; decide), fun l0 hl0 => ?_⟩
  have u4 := same_upd (o := .lst [.ref p1]) hl0
  have g4 : (upd H3 l0 (.lst [.ref p1])) l0 = some (.lst [.ref p1]) := upd_same
  generalize (upd H3 l0 (.lst [.ref p1])) = H4 at u4 g4 ⊢
  refine ⟨l0, _, _, rfl, rfl, g4, by decide, by decide, (by show 1 * 2 ≤ sizeLine; decide), fun lr hlr => ?_⟩
  have u5 := same_upd (o := .lst [.ref p1, .ref p1]) hlr
  have g5 : (upd H4 lr (.lst [.ref p1, .ref p1])) lr = some (.lst [.ref p1, .ref p1]) := upd_same
  have u := (u3.trans u4).trans u5
  have b5 := (b3.same u4).same u5
  have g35 := u5 _ _ (u4 _ _ g3)
  have T5 := tups_take cnt b5.ee
  have ls1 : ∀ z ∈ ((Pre q.ds q.ss q.D 0).take cnt), z.length ≤ 1000 := fun z hz => Nat.le_trans (pre_small z hz) (by decide)
  have ls2 : ((Pre q.ds q.ss q.D 0).take cnt).length ≤ 1000 := by rw [List.length_take]; omega
  refine ⟨_, _, rfl, like_two (u _ _ htl) g5 rfl (by show 2 ≤ 1000; decide) (fun i x y hx hy => ?_), fun H6 s6 => ⟨_, rfl, iteF (nx _ (b5.same s6))⟩⟩
  match i, hx, hy with
  | 0, hx, hy =>
    cases hx
    cases hy
    exact like_tups (u _ _ h1) g35 (T1.mono fun _ _ h => u _ _ h) T5 ls1 ls2
  | 1, hx, hy =>
    cases hx
    cases hy
    exact like_tups (u _ _ h2) g35 (T2.mono fun _ _ h => u _ _ h) T5 ls1 ls2
  | n + 2, hx, hy => cases hx
theorem y_f70 (T : Tx K mg) {S : RdS K mg} (E4 : RxE K mg "InvalidNumber" S.k6) (B : RdF S) (TB : TabB base mg cT PT) (hst : PySem.W.subIn K (.ref S.k6) (.type "StopIteration") = some false) (hr : Room 13 (A.deeper (envOfC "law" (defScope s_law) s.heap.objs.size f (.ref cT)))) : ∃ t, PS (XL P w K mg base f (.ref cT) A outer s H0 E) (fl 7 0) t ∧ ∀ (D : Ends) (H : Hp) (q : Lq) (z2 z3 z5 z6 z8 z9 z10 z11 z12 z13 z14 z15 : Option V) , LD K T.C [(PT, (XL P w K mg base f (.ref cT) A outer s H0 E).env.qual ++ "<lambda>")] H q → (∀ H' (k : Nat), LD K T.C [(PT, (XL P w K mg base f (.ref cT) A outer s H0 E).env.qual ++ "<lambda>")] H' q → k < 20 → D.nx (sg q z2 z3 z5 z6 z8 z9 z10 (some (.int (k : Int))) z12 z13 z14 z15) H') → t D (sg q z2 z3 z5 z6 z8 z9 z10 z11 z12 z13 z14 z15) H := by
  have nd := sc_law.nd
  refine ⟨_, ps_set (i := 11) nd rfl (.inl rfl) (pe_call (ok_taken T) (hr.mono (by decide : 1 ≤ 13)) (by rfl) T.g_ltaken T.F_ltaken.kp T.b_ltaken .nil pass0 (pa_cons (pv 1) (pa_cons pe_int pa_nil))), ?_⟩
  rintro D H q z2 z3 z5 z6 z8 z9 z10 z11 z12 z13 z14 z15 b nx
  refine ⟨_, rfl, q.row, q.a, q.ns, 20, rfl, b.RA, by decide, by decide, fun v H1 v0 v1 RA1 k1 => ?_⟩
  obtain ⟨k, rfl⟩ : ∃ k : Nat, v = (k : Int) := ⟨v.toNat, by omega⟩
  exact nx H1 k (b.kp k1 RA1) (by omega)
theorem y_f71 (T : Tx K mg) {S : RdS K mg} (E4 : RxE K mg "InvalidNumber" S.k6) (B : RdF S) (TB : TabB base mg cT PT) (hst : PySem.W.subIn K (.ref S.k6) (.type "StopIteration") = some false) (hr : Room 13 (A.deeper (envOfC "law" (defScope s_law) s.heap.objs.size f (.ref cT)))) : ∃ t, PS (XL P w K mg base f (.ref cT) A outer s H0 E) (fl 7 1) t ∧ ∀ (D : Ends) (H : Hp) (q : Lq) (z2 z3 z5 z6 z8 z9 z10 z11 z12 z13 z14 z15 : Option V) (k : Nat), z11 = some (.int (k : Int)) → k < 20 → LD K T.C [(PT, (XL P w K mg base f (.ref cT) A outer s H0 E).env.qual ++ "<lambda>")] H q → (∀ H' M wr v l, LD K T.C [(PT, (XL P w K mg base f (.ref cT) A outer s H0 E).env.qual ++ "<lambda>")] H' q → ((Pre q.ds q.ss q.D 0).take 20)[k]? = some l → CanV H' v l (!wr) → H' M = some (.lst ((q.xs.take 20).set k v)) → D.nx (sg q z2 z3 z5 z6 z8 z9 z10 z11 (some (.ref M)) (some (.bl wr)) z14 z15) H') → t D (sg q z2 z3 z5 z6 z8 z9 z10 z11 z12 z13 z14 z15) H := by
  have nd := sc_law.nd
  refine ⟨_, ps_asg (pe_call (ok_chg T) (hr.mono (by decide : 2 ≤ 13)) (by rfl) T.g_lchanged T.F_lchanged.kp T.b_lchanged .nil pass0 (pa_cons (pv 1) (pa_cons (pe_slice sl_list (pv 7) po_none (po_some pe_int)) (pa_cons (pv 11) pa_nil)))) (pg_tup rfl (pgs_cons (pg_name (i := 12) nd rfl (.inr rfl)) (pgs_cons (pg_name (i := 13) nd rfl (.inl rfl)) pgs_nil))), ?_⟩
  rintro D H q z2 z3 z5 z6 z8 z9 z10 z11 z12 z13 z14 z15 k rfl hk b nx
  have lo := b.lo
  refine ⟨_, rfl, _, rfl, _, rfl, q.en, q.xs, rfl, .of b.en, fun p1 hp1 => ?_⟩
  have ct := cut_to q.xs (k := 20) (by omega)
  rw [show (((20 : Nat)) : Int) = 20 from rfl] at ct
  rw [ct]
  have u3 := same_upd (o := .lst (q.xs.take 20)) hp1
  have g3 : (upd H p1 (.lst (q.xs.take 20))) p1 = some (.lst (q.xs.take 20)) := upd_same
  have n3 := b.RA.nn hp1
  have b3 := b.same u3
  generalize (upd H p1 (.lst (q.xs.take 20))) = H3 at u3 g3 b3 ⊢
  have T3 := tups_take 20 b3.ee
  have l20 : (q.xs.take 20).length = 20 := by rw [List.length_take]; omega
  obtain ⟨l, hl⟩ : ∃ l, ((Pre q.ds q.ss q.D 0).take 20)[k]? = some l := ⟨_, List.getElem?_eq_getElem (by rw [← T3.length, l20]; exact hk)⟩
  obtain ⟨i, j, c, hi, rfl⟩ := pre_ent (List.mem_of_mem_take (List.mem_of_getElem? hl))
  have dd := b.dd
  refine ⟨_, rfl, q.row, q.a, p1, q.ns, q.xs.take 20, ((Pre q.ds q.ss q.D 0).take 20), k, j, (i : Int) + 1, c, rfl, b3.RA, n3, g3, T3, by rw [l20]; decide, hl, by omega, by omega, fun H4 t M v wr RA4 k4 ht hM0 hM cv => ?_⟩
  exact ⟨t, _, rfl, .of ht, rfl, _, _, rfl, _, _, rfl, rfl, nx H4 M wr v _ (b3.kp k4 RA4) hl cv hM⟩
theorem y_f72 (T : Tx K mg) {S : RdS K mg} (E4 : RxE K mg "InvalidNumber" S.k6) (B : RdF S) (TB : TabB base mg cT PT) (hst : PySem.W.subIn K (.ref S.k6) (.type "StopIteration") = some false) (hr : Room 13 (A.deeper (envOfC "law" (defScope s_law) s.heap.objs.size f (.ref cT)))) : ∃ t, PS (XL P w K mg base f (.ref cT) A outer s H0 E) (fl 7 2) t ∧ ∀ (D : Ends) (H : Hp) (q : Lq) (z2 z3 z5 z6 z8 z9 z10 z11 z12 z13 z14 z15 : Option V) , (∀ H' rl, Same H H' → H rl = none → H' rl = some (.lst []) → D.nx (sg q z2 z3 z5 z6 z8 z9 z10 z11 z12 z13 (some (.ref rl)) z15) H') → t D (sg q z2 z3 z5 z6 z8 z9 z10 z11 z12 z13 z14 z15) H := by
  have nd := sc_law.nd
  refine ⟨_, ps_set (i := 14) nd rfl (.inr rfl) (pe_lst pa_nil), ?_⟩
  rintro D H q z2 z3 z5 z6 z8 z9 z10 z11 z12 z13 z14 z15 nx
  exact ⟨Nat.zero_le _, fun rl hrl => nx _ rl (same_upd hrl) hrl upd_same⟩
theorem y_f74 (T : Tx K mg) {S : RdS K mg} (E4 : RxE K mg "InvalidNumber" S.k6) (B : RdF S) (TB : TabB base mg cT PT) (hst : PySem.W.subIn K (.ref S.k6) (.type "StopIteration") = some false) (hr : Room 13 (A.deeper (envOfC "law" (defScope s_law) s.heap.objs.size f (.ref cT)))) : ∃ t, PS (XL P w K mg base f (.ref cT) A outer s H0 E) (fl 7 4) t ∧ ∀ (D : Ends) (H : Hp) (q : Lq) (z2 z3 z5 z6 z8 z9 z10 z11 z12 z13 z14 z15 : Option V) (wr : Bool) (rl : Addr), z13 = some (.bl wr) → z14 = some (.ref rl) → LD K T.C [(PT, (XL P w K mg base f (.ref cT) A outer s H0 E).env.qual ++ "<lambda>")] H q → (wr = false → ∃ M2 ys, H rl = some (.lst [.ref M2]) ∧ H M2 = some (.lst ys) ∧ Tups H ys ((Pre q.ds q.ss q.D 0).take 20)) → (∀ H', LD K T.C [(PT, (XL P w K mg base f (.ref cT) A outer s H0 E).env.qual ++ "<lambda>")] H' q → D.nx (sg q z2 z3 z5 z6 z8 z9 z10 z11 z12 z13 z14 z15) H') → t D (sg q z2 z3 z5 z6 z8 z9 z10 z11 z12 z13 z14 z15) H := by
  have nd := sc_law.nd
  refine ⟨_, ps_if (PW.pt (pw_and (pt_not (pt_val (pv 13))) (pw_and1 (pt_not (pt_val (pe_call (ok_likeD T 3) (hr.mono (by decide : 4 ≤ 13)) (by rfl) T.g_lalike T.F_lalike.kp T.b_lalike .nil pass0 (pa_cons (pv 14) (pa_cons (pe_lst (pa_cons (pe_slice sl_list (pv 7) po_none (po_some pe_int)) pa_nil)) pa_nil)))))))) (pss_one (ps_ret pe_bl)) pss_nil, ?_⟩
  rintro D H q z2 z3 z5 z6 z8 z9 z10 z11 z12 z13 z14 z15 wr rl rfl rfl b hm nx
  have lo := b.lo
  cases wr with
  | true => exact ⟨_, rfl, true, rfl, iteF (iteF (nx H b))⟩
  | false =>
    obtain ⟨M2, ys, h1, h2, T2⟩ := hm rfl
    refine ⟨_, rfl, false, rfl, iteT ?_⟩
    refine ⟨_, rfl, _, rfl, _, rfl, q.en, q.xs, rfl, .of b.en, fun p1 hp1 => ?_⟩
    have ct := cut_to q.xs (k := 20) (by omega)
    rw [show (((20 : Nat)) : Int) = 20 from rfl] at ct
    rw [ct]
    have u3 := same_upd (o := .lst (q.xs.take 20)) hp1
    have g3 : (upd H p1 (.lst (q.xs.take 20))) p1 = some (.lst (q.xs.take 20)) := upd_same
    have b3 := b.same u3
    generalize (upd H p1 (.lst (q.xs.take 20))) = H3 at u3 g3 b3 ⊢
    refine ⟨(by show 1 ≤ sizeLine; decide), fun l0 hl0 => ?_⟩
    have u4 := same_upd (o := .lst [.ref p1]) hl0
    have u := u3.trans u4
    have b4 := b3.same u4
    have ls1 : ∀ z ∈ ((Pre q.ds q.ss q.D 0).take 20), z.length ≤ 1000 := fun z hz => Nat.le_trans (pre_small z hz) (by decide)
    have ls2 : ((Pre q.ds q.ss q.D 0).take 20).length ≤ 1000 := by rw [List.length_take]; omega
    refine ⟨_, _, rfl, like_two (u _ _ h1) upd_same rfl (by show 1 ≤ 1000; decide) (fun i x y hx hy => ?_), fun H6 s6 => ⟨_, rfl, iteF (nx _ (b4.same s6))⟩⟩
    match i, hx, hy with
    | 0, hx, hy =>
      cases hx
      cases hy
      exact like_tups (u _ _ h2) (u4 _ _ g3) (T2.mono fun _ _ h => u _ _ h) (tups_take 20 b4.ee) ls1 ls2
    | n + 1, hx, hy => cases hx
theorem y_b11 (T : Tx K mg) {S : RdS K mg} (E4 : RxE K mg "InvalidNumber" S.k6) (B : RdF S) (TB : TabB base mg cT PT) (hst : PySem.W.subIn K (.ref S.k6) (.type "StopIteration") = some false) (hr : Room 13 (A.deeper (envOfC "law" (defScope s_law) s.heap.objs.size f (.ref cT)))) : ∃ t, PS (XL P w K mg base f (.ref cT) A outer s H0 E) (bs 11) t ∧ ∀ (D : Ends) (H : Hp) (q : Lq) (z2 z3 z5 z6 z8 z9 z10 z11 z12 z13 z14 z15 : Option V) , LD K T.C [(PT, (XL P w K mg base f (.ref cT) A outer s H0 E).env.qual ++ "<lambda>")] H q → (∀ H', D.rt (.bl true) H') → t D (sg q z2 z3 z5 z6 z8 z9 z10 z11 z12 z13 z14 z15) H := by
  have nd := sc_law.nd
  refine ⟨_, ps_ret (pe_cmpR op_eq (pe_callB call_len_seq (by rfl) T.z_len PySem.boot_len (pa_cons (pe_listG (pgen_call (E := E0) (ok_dia T E4) (hr.mono (by decide : 6 ≤ 13)) (by rfl) T.g_diary_of T.F_diary_of.kp T.b_diary_of .nil (pa_cons (pv 4) (pa_cons pe_int pa_nil))) pass0G (fun _ _ _ h => h.elim) (hr.mono (by decide : 9 ≤ 13)) (by rfl) T.z_list (by decide +kernel)) pa_nil)) pe_int (nomark _)), ?_⟩
  rintro D H q z2 z3 z5 z6 z8 z9 z10 z11 z12 z13 z14 z15 b nx
  refine ⟨_, rfl, q.p, q.dx, q.td, q.ts, q.ds, q.ss, _, rfl, b.R, .inl ⟨500, rfl, by decide, fun ys H1 D1 k1 hk1 hl1 s1 T1 l hl => ?_⟩⟩
  refine ⟨l, _, rfl, .inl (.of upd_same), rfl, ?_⟩
  rw [T1.length, hl1]
  exact nx _
end
end Rp
namespace Rp
open PySem PySem.Spec PyProof.Rows L2 Rz Rm Rt Rl LamX
theorem same_new {H : Hp} {C x z : Addr} (nx : H x = none) (nz : H z = none) : Same H (upd (upd H z (.own x)) x (.ins C z [])) := fun b o e => by
  rw [upd_ne (ne_of_none e nx), upd_ne (ne_of_none e nz)]
  exact e
theorem sn_made {C x z : Addr} {H H' : Hp} (nx : H x = none) (nz : H z = none) (k : ∀ b o, (upd (upd H z (.own x)) x (.ins C z [])) b = some o → b ≠ x → H' b = some o) : Same H H' := fun b o e => k b o (same_new nx nz b o e) (ne_of_none e nx)
section
variable {P : Program} {w : World} {K : PySem.W.Frag} {mg : Str → Option Value} {base : Heap}
def spLawL (K : PySem.W.Frag) (PT : Addr) : Sp := fun vs H Q _ => ∃ (a : Addr) (ns : List Int), vs = [.ref a] ∧ SqL K H a (ns.map V.int) ∧ ns.length ≤ 63 ∧ H PT = some (.tbl #[]) ∧ ∀ H', Q (.bl true) H'
theorem ok_law {cT PT : Addr} (T : Tx K mg) (S : RdS K mg) (B : RdF S) (hst : PySem.W.subIn K (.ref S.k6) (.type "StopIteration") = some false) (R6 : RdR S S.k6 6) (E4 : RxE K mg "InvalidNumber" S.k6) (TB : TabB base mg cT PT) (FC : FunC K "law" "law" s_law T.a_law T.d_law (.ref cT)) : FnOk P w K mg base CX0 14 T.a_law T.d_law P_law (spLawL K PT) := by
  refine FC.ok sc_law (fun vs H Q E h => ?_) (fun A outer s H vs Q E hr h => ?_)
  · obtain ⟨a, ns, rfl, _⟩ := h
    rfl
  · obtain ⟨a, ns, rfl, hS, hlen, hP, qq⟩ := h
    have nd := sc_law.nd
    obtain ⟨u4, q4, v4⟩ := y_b4 (P := P) (w := w) (K := K) (mg := mg) (base := base) (f := T.a_law) (cT := cT) (PT := PT) (A := A) (outer := outer) (s := s) (H0 := H) (E := E) T E4 B TB hst hr
    obtain ⟨u5, q5, v5⟩ := y_b5 (P := P) (w := w) (K := K) (mg := mg) (base := base) (f := T.a_law) (cT := cT) (PT := PT) (A := A) (outer := outer) (s := s) (H0 := H) (E := E) T E4 B TB hst hr
    obtain ⟨u6, q6, v6⟩ := y_b6 (P := P) (w := w) (K := K) (mg := mg) (base := base) (f := T.a_law) (cT := cT) (PT := PT) (A := A) (outer := outer) (s := s) (H0 := H) (E := E) T E4 B TB hst hr
    obtain ⟨u70, q70, v70⟩ := y_f70 (P := P) (w := w) (K := K) (mg := mg) (base := base) (f := T.a_law) (cT := cT) (PT := PT) (A := A) (outer := outer) (s := s) (H0 := H) (E := E) T E4 B TB hst hr
    obtain ⟨u71, q71, v71⟩ := y_f71 (P := P) (w := w) (K := K) (mg := mg) (base := base) (f := T.a_law) (cT := cT) (PT := PT) (A := A) (outer := outer) (s := s) (H0 := H) (E := E) T E4 B TB hst hr
    obtain ⟨u72, q72, v72⟩ := y_f72 (P := P) (w := w) (K := K) (mg := mg) (base := base) (f := T.a_law) (cT := cT) (PT := PT) (A := A) (outer := outer) (s := s) (H0 := H) (E := E) T E4 B TB hst hr
    obtain ⟨u73, q73, v73⟩ := y_f73 (P := P) (w := w) (K := K) (mg := mg) (base := base) (f := T.a_law) (cT := cT) (PT := PT) (A := A) (outer := outer) (s := s) (H0 := H) (E := E) T E4 B TB hst hr R6
    obtain ⟨u74, q74, v74⟩ := y_f74 (P := P) (w := w) (K := K) (mg := mg) (base := base) (f := T.a_law) (cT := cT) (PT := PT) (A := A) (outer := outer) (s := s) (H0 := H) (E := E) T E4 B TB hst hr
    obtain ⟨u80, q80, v80⟩ := y_f80 (P := P) (w := w) (K := K) (mg := mg) (base := base) (f := T.a_law) (cT := cT) (PT := PT) (A := A) (outer := outer) (s := s) (H0 := H) (E := E) T E4 B TB hst hr R6
    obtain ⟨u9, q9, v9⟩ := y_b9 (P := P) (w := w) (K := K) (mg := mg) (base := base) (f := T.a_law) (cT := cT) (PT := PT) (A := A) (outer := outer) (s := s) (H0 := H) (E := E) T E4 B TB hst hr R6
    obtain ⟨u100, q100, v100⟩ := y_f100 (P := P) (w := w) (K := K) (mg := mg) (base := base) (f := T.a_law) (cT := cT) (PT := PT) (A := A) (outer := outer) (s := s) (H0 := H) (E := E) T E4 B TB hst hr R6
    obtain ⟨u11, q11, v11⟩ := y_b11 (P := P) (w := w) (K := K) (mg := mg) (base := base) (f := T.a_law) (cT := cT) (PT := PT) (A := A) (outer := outer) (s := s) (H0 := H) (E := E) T E4 B TB hst hr
    refine ⟨_, pss_cons (ps_set (i := 1) nd rfl (.inl rfl) (pe_lst (pa_cons (pv 0) (pa_cons pe_int (pa_cons pe_int (pa_cons pe_int pa_nil)))))) (pss_cons (ps_asg (pe_call (ok_pair T) (hr.mono (by decide : 2 ≤ 13)) (by rfl) T.g_lpair T.F_lpair.kp T.b_lpair .nil pass0 (pa_cons (pv 1) (pa_cons pe_int pa_nil))) (pg_tup rfl (pgs_cons (pg_name (i := 2) nd rfl (.inl rfl)) (pgs_cons (pg_name (i := 3) nd rfl (.inl rfl)) pgs_nil)))) (pss_cons (ps_asg (pe_tup (pa_cons (pe_make T.mkR (ok_init T) (hr.mono (by decide : 5 ≤ 13)) (by rfl) T.gC T.b_rinit .nil pass0 (pa_cons (pv 2) (pa_cons (pv 3) pa_nil))) (pa_cons (pe_call (ok_taken T) (hr.mono (by decide : 1 ≤ 13)) (by rfl) T.g_ltaken T.F_ltaken.kp T.b_ltaken .nil pass0 (pa_cons (pv 1) (pa_cons pe_int pa_nil))) pa_nil))) (pg_tup rfl (pgs_cons (pg_name (i := 4) nd rfl (.inr rfl)) (pgs_cons (pg_name (i := 5) nd rfl (.inl rfl)) pgs_nil)))) (pss_cons (ps_par (i := 6) (j := 7) rfl nd rfl rfl (by decide) rfl rfl (pa_cons (pe_call (ok_fst T) (hr.mono (by decide : 3 ≤ 13)) (by rfl) T.g_lfirst T.F_lfirst.kp T.b_lfirst .nil pass0 (pa_cons (pv 2) (pa_cons (pv 3) pa_nil))) (pa_cons (pe_lst pa_nil) pa_nil)) rfl) (pss_cons q4 (pss_cons q5 (pss_cons q6 (pss_cons (ps_for PassesOwn.never rfl (pi_range1 (by rfl) T.z_range (pa_cons pe_int pa_nil)) (pg_name (i := 10) nd rfl (.inl rfl)) (pss_cons q70 (pss_cons q71 (pss_cons q72 (pss_cons q73 (pss_one q74)))))) (pss_cons (ps_for PassesOwn.never rfl (pi_tup (pe_tup (pa_cons pe_non (pa_cons (pe_tup pa_nil) (pa_cons pe_int (pa_cons pe_str pa_nil)))))) (pg_name (i := 15) nd rfl (.inr rfl)) (pss_one q80)) (pss_cons q9 (pss_cons (ps_for PassesOwn.never rfl (pi_tup (pe_tup (pa_cons (pe_op op_sub pe_int pe_int) (pa_cons pe_int (pa_cons pe_non (pa_cons pe_bl pa_nil)))))) (pg_name (i := 15) nd rfl (.inr rfl)) (pss_one q100)) (pss_one q11))))))))))), ?_⟩
    have tb0 : Tabs [(PT, (XL P w K mg base T.a_law (.ref cT) A outer s H E).env.qual ++ "<lambda>")] H := fun p hp => by
      cases List.mem_singleton.mp hp
      exact TabS.nil hP
    refine ⟨_, rfl, (by show 4 ≤ sizeLine; decide), fun row hrow => ?_⟩
    have s0 := same_upd (o := .lst [.ref a, .int 0, .int 0, .int 0]) hrow
    have RA0 : RowAt K (upd H row (.lst [.ref a, .int 0, .int 0, .int 0])) row a ns := ⟨⟨0, 0, 0, upd_same, Int.le_refl _⟩, s0.seq hS, far_of hS hrow⟩
    have tb1 := tb0.ext s0
    show tSeq _ _ _ [some (.ref a), some (.ref row), none, none, none, none, none, none, none, none, none, none, none, none, none, none] (upd H row (.lst [.ref a, .int 0, .int 0, .int 0]))
    generalize (upd H row (.lst [.ref a, .int 0, .int 0, .int 0])) = Ha at RA0 tb1 ⊢
    refine ⟨_, rfl, row, a, ns, 6, rfl, RA0, by decide, by decide, fun H1 t td ts ds ss G l6 RA1 k1 ht hd hs => ⟨t, _, rfl, .of ht, rfl, _, _, rfl, _, _, rfl, rfl, ?_⟩⟩
    have tb2 := Tabs_kp RA0 k1 tb1
    show tSeq _ _ _ [some (.ref a), some (.ref row), some (.ref td), some (.ref ts), none, none, none, none, none, none, none, none, none, none, none, none] H1
    refine ⟨_, rfl, _, rfl, fun p dp np ndp ne => ?_⟩
    have s9 := same_new (C := T.C) np ndp
    refine ⟨p, dp, td, ts, ds, ss, rfl, upd_same, s9 _ _ hd, s9 _ _ hs, G, fun H2 R2 k2 => ⟨rfl, ?_⟩⟩
    have s2 : Same H1 H2 := sn_made np ndp k2
    have RA2 := RA1.same s2
    have tb2' := tb2.ext s2
    refine ⟨_, rfl, row, a, ns, 20, rfl, RA2, by decide, by decide, fun cv H3 c0 c1 RA3 k3 => ⟨(by show 2 ≤ sizeLine; decide), fun tp htp => ?_⟩⟩
    obtain ⟨cnt, rfl⟩ : ∃ n : Nat, cv = (n : Int) := ⟨cv.toNat, by omega⟩
    have s4 := same_upd (o := .tup [.ref p, .int (cnt : Int)]) htp
    refine ⟨tp, _, rfl, .of upd_same, rfl, _, _, rfl, _, _, rfl, rfl, ?_⟩
    have RA4 := RA3.same s4
    have R4 := (R2.kp8 RA2 k3).same s4
    have tb4 := (Tabs_kp RA2 k3 tb2').ext s4
    show tSeq _ _ _ [some (.ref a), some (.ref row), some (.ref td), some (.ref ts), some (.ref p), some (.int (cnt : Int)), none, none, none, none, none, none, none, none, none, none] (upd H3 tp (.tup [.ref p, .int (cnt : Int)]))
    generalize (upd H3 tp (.tup [.ref p, .int (cnt : Int)])) = H4 at RA4 R4 tb4 ⊢
    refine ⟨_, rfl, _, rfl, td, ts, ds, ss, rfl, R4.td, R4.ts, G, fun H5 m s5 M5 => ⟨Nat.zero_le _, fun en hen => ⟨_, _, rfl, ?_⟩⟩⟩
    have s6 := same_upd (o := .lst []) hen
    have s56 := s5.trans s6
    have nen := (RA4.same s5).nn hen
    refine v4 _ _ a row p dp td ts m en ns ds ss _ _ _ _ _ _ _ _ _ _ _ (RA4.same s56) (tb4.ext s56) (R4.same s56) (M5.same s6) upd_same nen fun H6 q z6 z8 ea er ep b => ?_
    refine v5 _ H6 q _ _ _ _ _ _ _ _ _ _ _ _ cnt rfl (by omega) b fun H7 tl l1 l2 ys1 ys2 b htl h1 T1 h2 T2 => ?_
    refine v6 _ H7 q _ _ _ _ _ _ _ _ _ _ _ _ cnt tl l1 l2 ys1 ys2 rfl rfl (by omega) b htl h1 T1 h2 T2 fun H8 b => ?_
    refine ⟨_, rfl, by decide, by decide, ?_⟩
    refine for_range (lo := 0) (n := ((4 : Int)).toNat) (fun i σ H' => (∃ z2 z3 z5 z6 z8 z9 z10 z11 z12 z13 z14 z15, σ = sg q z2 z3 z5 z6 z8 z9 z10 z11 z12 z13 z14 z15) ∧ LD K T.C [(PT, (XL P w K mg base T.a_law (.ref cT) A outer s H E).env.qual ++ "<lambda>")] H' q) ⟨⟨_, _, _, _, _, _, _, _, _, _, _, _, rfl⟩, b⟩ ?_ ?_
    · rintro i σ H9 hi ⟨⟨z2, z3, z5, z6, z8, z9, z10, z11, z12, z13, z14, z15, rfl⟩, b⟩
      show tSeq _ _ _ (sg q z2 z3 z5 z6 z8 z9 (some (.int (0 + (i : Int)))) z11 z12 z13 z14 z15) H9
      refine v70 _ H9 q _ _ _ _ _ _ _ _ _ _ _ _ b fun H10 k b k20 => ?_
      refine v71 _ H10 q _ _ _ _ _ _ _ _ _ _ _ _ k rfl k20 b fun H11 M wr v l b hl cv hM => ?_
      refine v72 _ H11 q _ _ _ _ _ _ _ _ _ _ _ _ fun H12 rl s12 hrl grl => ?_
      refine v73 _ H12 q _ _ _ _ _ _ _ _ _ _ _ _ k M rl wr v l rfl rfl rfl rfl (b.same s12) k20 hl (cv.same s12) (s12 _ _ hM) grl (b.RA.nn hrl) (far_of b.RA.sc hrl) (ne_of_none b.en hrl) fun H13 b hm => ?_
      refine v74 _ H13 q _ _ _ _ _ _ _ _ _ _ _ _ wr rl rfl rfl b hm fun H14 b => ?_
      exact ⟨⟨_, _, _, _, _, _, _, _, _, _, _, _, rfl⟩, b⟩
    rintro σ H9 ⟨⟨z2, z3, z5, z6, z8, z9, z10, z11, z12, z13, z14, z15, rfl⟩, b⟩
    refine ⟨Nat.zero_le _, fun te hte => ⟨(by show 4 ≤ sizeLine; decide), fun tt htt => ?_⟩⟩
    have w1 := same_upd (o := .tup []) hte
    have ge : (upd H9 te (.tup [])) te = some (.tup []) := upd_same
    have b := b.same w1
    generalize (upd H9 te (.tup [])) = H10 at w1 ge b htt ⊢
    have w2 := same_upd (o := .tup [.non, .ref te, .int 5, .str "a"]) htt
    have gt : (upd H10 tt (.tup [.non, .ref te, .int 5, .str "a"])) tt = some (.tup [.non, .ref te, .int 5, .str "a"]) := upd_same
    have b := b.same w2
    have ge := w2 _ _ ge
    generalize (upd H10 tt (.tup [.non, .ref te, .int 5, .str "a"])) = H11 at w2 gt b ge ⊢
    refine ⟨tt, rfl, ⟨_, .of gt⟩, for_tup (K := K) (a := tt) (xs := [.non, .ref te, .int 5, .str "a"]) (fun i σ H' => (∃ z2 z3 z5 z6 z8 z9 z10 z11 z12 z13 z14 z15, σ = sg q z2 z3 z5 z6 z8 z9 z10 z11 z12 z13 z14 z15) ∧ LD K T.C [(PT, (XL P w K mg base T.a_law (.ref cT) A outer s H E).env.qual ++ "<lambda>")] H' q ∧ H' tt = some (.tup [.non, .ref te, .int 5, .str "a"]) ∧ H' te = some (.tup []))
      ⟨⟨_, _, _, _, _, _, _, _, _, _, _, _, rfl⟩, b, gt, ge⟩ (fun i σ H' _ z => .of z.2.2.1) ?_ ?_⟩
    · rintro i x σ H12 hx ⟨⟨z2, z3, z5, z6, z8, z9, z10, z11, z12, z13, z14, z15, rfl⟩, b, gt, ge⟩
      have nx : NoL H12 x := by
        have hm := List.mem_of_getElem? hx
        simp only [List.mem_cons, List.not_mem_nil, or_false] at hm
        rcases hm with rfl | rfl | rfl | rfl
        · exact .inl rfl
        · exact .inr (.inr (.inr ⟨te, _, rfl, ge⟩))
        · exact .inr (.inl ⟨_, rfl⟩)
        · exact .inr (.inr (.inl ⟨_, rfl⟩))
      refine v80 _ H12 q _ _ _ _ _ _ _ _ _ _ _ _ x rfl b nx fun H13 x13 b => ?_
      exact ⟨⟨_, _, _, _, _, _, _, _, _, _, _, _, rfl⟩, b, x13 _ _ gt (by intro ps z; cases z), x13 _ _ ge (by intro ps z; cases z)⟩
    rintro σ H12 ⟨⟨z2, z3, z5, z6, z8, z9, z10, z11, z12, z13, z14, z15, rfl⟩, b, _, _⟩
    refine v9 _ H12 q _ _ _ _ _ _ _ _ _ _ _ _ b fun H13 _ b => ?_
    refine ⟨_, _, rfl, rfl, (by show 4 ≤ sizeLine; decide), fun tt htt => ?_⟩
    have w2 := same_upd (o := .tup [.int (0 - 1), .int 501, .non, .bl true]) htt
    have gt : (upd H13 tt (.tup [.int (0 - 1), .int 501, .non, .bl true])) tt = some (.tup [.int (0 - 1), .int 501, .non, .bl true]) := upd_same
    have b := b.same w2
    generalize (upd H13 tt (.tup [.int (0 - 1), .int 501, .non, .bl true])) = H14 at w2 gt b ⊢
    refine ⟨tt, rfl, ⟨_, .of gt⟩, for_tup (K := K) (a := tt) (xs := [.int (0 - 1), .int 501, .non, .bl true]) (fun i σ H' => (∃ z2 z3 z5 z6 z8 z9 z10 z11 z12 z13 z14 z15, σ = sg q z2 z3 z5 z6 z8 z9 z10 z11 z12 z13 z14 z15) ∧ LD K T.C [(PT, (XL P w K mg base T.a_law (.ref cT) A outer s H E).env.qual ++ "<lambda>")] H' q ∧ H' tt = some (.tup [.int (0 - 1), .int 501, .non, .bl true]))
      ⟨⟨_, _, _, _, _, _, _, _, _, _, _, _, rfl⟩, b, gt⟩ (fun i σ H' _ z => .of z.2.2) ?_ ?_⟩
    · rintro i x σ H15 hx ⟨⟨z2, z3, z5, z6, z8, z9, z10, z11, z12, z13, z14, z15, rfl⟩, b, gt⟩
      have nx : ∀ H1, LieV K H1 x 0 500 false := fun H1 => by
        have hm := List.mem_of_getElem? hx
        simp only [List.mem_cons, List.not_mem_nil, or_false] at hm
        rcases hm with rfl | rfl | rfl | rfl
        · exact lie_no (.inl ⟨_, rfl, .inl (by decide)⟩)
        · exact lie_no (.inl ⟨_, rfl, .inr (by decide)⟩)
        · exact lie_no (.inr (.inl rfl))
        · exact lie_no (.inr (.inr rfl))
      refine v100 _ H15 q _ _ _ _ _ _ _ _ _ _ _ _ x rfl b (nx _) nx fun H16 x16 b => ?_
      exact ⟨⟨_, _, _, _, _, _, _, _, _, _, _, _, rfl⟩, b, x16 _ _ gt (by intro ps z; cases z)⟩
    rintro σ H15 ⟨⟨z2, z3, z5, z6, z8, z9, z10, z11, z12, z13, z14, z15, rfl⟩, b, _⟩
    exact v11 _ H15 q _ _ _ _ _ _ _ _ _ _ _ _ b fun H' => qq H'
end
end Rp
namespace Rp
open PySem PySem.Spec PyProof.Rows L2 Rz Rm Rt Rl LamX
theorem all_mk {l : PySem.W.OpenLaw} {w : World} {K : PySem.W.Frag} {h : Heap} {mg : Str → Option Value} {fa C : Addr} (X : K.In h) (G : h.Ns mainGlobals mg) (hfa : mg "law" = some (.ref fa))
    {f_iDiaryError : Addr} {od_iDiaryError an_iDiaryError : Option Addr} {sl_iDiaryError : Array (Option Value)} {oc_iDiaryError kV_iDiaryError dc_iDiaryError pm_iDiaryError cd_iDiaryError ct_iDiaryError : Value}
    {ec_iDiaryError : Addr}
    {f_is_number : Addr} {od_is_number an_is_number : Option Addr} {sl_is_number : Array (Option Value)} {oc_is_number kV_is_number dc_is_number pm_is_number cd_is_number ct_is_number : Value}
    {f_lies_between : Addr} {od_lies_between an_lies_between : Option Addr} {sl_lies_between : Array (Option Value)} {oc_lies_between kV_lies_between dc_lies_between pm_lies_between cd_lies_between ct_lies_between : Value}
    {f_check_number : Addr} {od_check_number an_check_number : Option Addr} {sl_check_number : Array (Option Value)} {oc_check_number kV_check_number dc_check_number pm_check_number cd_check_number ct_check_number : Value}
    {f_check_reader : Addr} {od_check_reader an_check_reader : Option Addr} {sl_check_reader : Array (Option Value)} {oc_check_reader kV_check_reader dc_check_reader pm_check_reader cd_check_reader ct_check_reader : Value}
    {f_rinit : Addr} {od_rinit an_rinit : Option Addr} {sl_rinit : Array (Option Value)} {oc_rinit kV_rinit dc_rinit pm_rinit cd_rinit ct_rinit : Value}
    {f_rdays : Addr} {od_rdays an_rdays : Option Addr} {sl_rdays : Array (Option Value)} {oc_rdays kV_rdays dc_rdays pm_rdays cd_rdays ct_rdays : Value}
    {pp_rdays : Addr} {re_rdays : List Value}
    {f_rstarts : Addr} {od_rstarts an_rstarts : Option Addr} {sl_rstarts : Array (Option Value)} {oc_rstarts kV_rstarts dc_rstarts pm_rstarts cd_rstarts ct_rstarts : Value}
    {pp_rstarts : Addr} {re_rstarts : List Value}
    {f_rbooks : Addr} {od_rbooks an_rbooks : Option Addr} {sl_rbooks : Array (Option Value)} {oc_rbooks kV_rbooks dc_rbooks pm_rbooks cd_rbooks ct_rbooks : Value}
    {pp_rbooks : Addr} {re_rbooks : List Value}
    {f_rpace : Addr} {od_rpace an_rpace : Option Addr} {sl_rpace : Array (Option Value)} {oc_rpace kV_rpace dc_rpace pm_rpace cd_rpace ct_rpace : Value}
    {pp_rpace : Addr} {re_rpace : List Value}
    {f_rlen : Addr} {od_rlen an_rlen : Option Addr} {sl_rlen : Array (Option Value)} {oc_rlen kV_rlen dc_rlen pm_rlen cd_rlen ct_rlen : Value}
    {f_rcall : Addr} {od_rcall an_rcall : Option Addr} {sl_rcall : Array (Option Value)} {oc_rcall kV_rcall dc_rcall pm_rcall cd_rcall ct_rcall : Value}
    {f_check_part : Addr} {od_check_part an_check_part : Option Addr} {sl_check_part : Array (Option Value)} {oc_check_part kV_check_part dc_check_part pm_check_part cd_check_part ct_check_part : Value}
    {f_end_day : Addr} {od_end_day an_end_day : Option Addr} {sl_end_day : Array (Option Value)} {oc_end_day kV_end_day dc_end_day pm_end_day cd_end_day ct_end_day : Value}
    {f_book_of : Addr} {od_book_of an_book_of : Option Addr} {sl_book_of : Array (Option Value)} {oc_book_of kV_book_of dc_book_of pm_book_of cd_book_of ct_book_of : Value}
    {f_reader_before : Addr} {od_reader_before an_reader_before : Option Addr} {sl_reader_before : Array (Option Value)} {oc_reader_before kV_reader_before dc_reader_before pm_reader_before cd_reader_before ct_reader_before : Value}
    {f_diary_of : Addr} {od_diary_of an_diary_of : Option Addr} {sl_diary_of : Array (Option Value)} {oc_diary_of kV_diary_of dc_diary_of pm_diary_of cd_diary_of ct_diary_of : Value}
    {f_mended : Addr} {od_mended an_mended : Option Addr} {sl_mended : Array (Option Value)} {oc_mended kV_mended dc_mended pm_mended cd_mended ct_mended : Value}
    {f_can_be : Addr} {od_can_be an_can_be : Option Addr} {sl_can_be : Array (Option Value)} {oc_can_be kV_can_be dc_can_be pm_can_be cd_can_be ct_can_be : Value}
    {f_is_same_number : Addr} {od_is_same_number an_is_same_number : Option Addr} {sl_is_same_number : Array (Option Value)} {oc_is_same_number kV_is_same_number dc_is_same_number pm_is_same_number cd_is_same_number ct_is_same_number : Value}
    {f_ltaken : Addr} {od_ltaken an_ltaken : Option Addr} {sl_ltaken : Array (Option Value)} {oc_ltaken kV_ltaken dc_ltaken pm_ltaken cd_ltaken ct_ltaken : Value}
    {f_lalike : Addr} {od_lalike an_lalike : Option Addr} {sl_lalike : Array (Option Value)} {oc_lalike kV_lalike dc_lalike pm_lalike cd_lalike ct_lalike : Value}
    {f_lraised : Addr} {od_lraised an_lraised : Option Addr} {sl_lraised : Array (Option Value)} {oc_lraised kV_lraised dc_lraised pm_lraised cd_lraised ct_lraised : Value}
    {f_lpair : Addr} {od_lpair an_lpair : Option Addr} {sl_lpair : Array (Option Value)} {oc_lpair kV_lpair dc_lpair pm_lpair cd_lpair ct_lpair : Value}
    {f_lbegun : Addr} {od_lbegun an_lbegun : Option Addr} {sl_lbegun : Array (Option Value)} {oc_lbegun kV_lbegun dc_lbegun pm_lbegun cd_lbegun ct_lbegun : Value}
    {f_lfirst : Addr} {od_lfirst an_lfirst : Option Addr} {sl_lfirst : Array (Option Value)} {oc_lfirst kV_lfirst dc_lfirst pm_lfirst cd_lfirst ct_lfirst : Value}
    {f_lnext : Addr} {od_lnext an_lnext : Option Addr} {sl_lnext : Array (Option Value)} {oc_lnext kV_lnext dc_lnext pm_lnext cd_lnext ct_lnext : Value}
    {f_ltorn : Addr} {od_ltorn an_ltorn : Option Addr} {sl_ltorn : Array (Option Value)} {oc_ltorn kV_ltorn dc_ltorn pm_ltorn cd_ltorn ct_ltorn : Value}
    {f_lchanged : Addr} {od_lchanged an_lchanged : Option Addr} {sl_lchanged : Array (Option Value)} {oc_lchanged kV_lchanged dc_lchanged pm_lchanged cd_lchanged ct_lchanged : Value}
    {f_law : Addr} {od_law an_law : Option Addr} {sl_law : Array (Option Value)} {oc_law kV_law dc_law pm_law cd_law ct_law : Value}
    {t_LATEST : Tok}
    {t_MOST_ENTRIES : Tok}
    {t_FEWEST_READERS : Tok}
    {t_MOST_READERS : Tok}
    {t_MOST_DAYS : Tok}
    {t_MOST_BOOKS : Tok}
    (aC : PySem.W.nsIn K mainGlobals "Ring" = some (some (.ref C)))
    (xc_iDiaryError : PySem.W.nsIn K mainGlobals "DiaryError" = some (some (.ref ec_iDiaryError)))
    (x_iDiaryError : PySem.W.findIn K (.ref ec_iDiaryError) "__init__" = some (some (.ref f_iDiaryError)))
    (xt_iDiaryError : PySem.W.typeIn K (.ref f_iDiaryError) = some (.type "function"))
    (xo_iDiaryError : oxB K ec_iDiaryError = true)
    (l_iDiaryError : K.lookup f_iDiaryError = some ⟨oc_iDiaryError, od_iDiaryError, .func (PySem.W.fnOf "__init__" "DiaryError.__init__" (defArgs s_iDiaryError) (defBody s_iDiaryError) (defScope s_iDiaryError) .none kV_iDiaryError dc_iDiaryError pm_iDiaryError an_iDiaryError cd_iDiaryError ct_iDiaryError), sl_iDiaryError⟩)
    (c_iDiaryError : PySem.W.codeIn K cd_iDiaryError "DiaryError.__init__" = true)
    (k_iDiaryError : PySem.W.keepIn K (.ref f_iDiaryError) = true)
    (x_is_number : PySem.W.nsIn K mainGlobals "is_number" = some (some (.ref f_is_number)))
    (l_is_number : K.lookup f_is_number = some ⟨oc_is_number, od_is_number, .func (PySem.W.fnOf "is_number" "is_number" (defArgs s_is_number) (defBody s_is_number) (defScope s_is_number) .none kV_is_number dc_is_number pm_is_number an_is_number cd_is_number ct_is_number), sl_is_number⟩)
    (c_is_number : PySem.W.codeIn K cd_is_number "is_number" = true)
    (k_is_number : PySem.W.keepIn K (.ref f_is_number) = true)
    (x_lies_between : PySem.W.nsIn K mainGlobals "lies_between" = some (some (.ref f_lies_between)))
    (l_lies_between : K.lookup f_lies_between = some ⟨oc_lies_between, od_lies_between, .func (PySem.W.fnOf "lies_between" "lies_between" (defArgs s_lies_between) (defBody s_lies_between) (defScope s_lies_between) .none kV_lies_between dc_lies_between pm_lies_between an_lies_between cd_lies_between ct_lies_between), sl_lies_between⟩)
    (c_lies_between : PySem.W.codeIn K cd_lies_between "lies_between" = true)
    (k_lies_between : PySem.W.keepIn K (.ref f_lies_between) = true)
    (x_check_number : PySem.W.nsIn K mainGlobals "check_number" = some (some (.ref f_check_number)))
    (l_check_number : K.lookup f_check_number = some ⟨oc_check_number, od_check_number, .func (PySem.W.fnOf "check_number" "check_number" (defArgs s_check_number) (defBody s_check_number) (defScope s_check_number) .none kV_check_number dc_check_number pm_check_number an_check_number cd_check_number ct_check_number), sl_check_number⟩)
    (c_check_number : PySem.W.codeIn K cd_check_number "check_number" = true)
    (k_check_number : PySem.W.keepIn K (.ref f_check_number) = true)
    (x_check_reader : PySem.W.nsIn K mainGlobals "check_reader" = some (some (.ref f_check_reader)))
    (l_check_reader : K.lookup f_check_reader = some ⟨oc_check_reader, od_check_reader, .func (PySem.W.fnOf "check_reader" "check_reader" (defArgs s_check_reader) (defBody s_check_reader) (defScope s_check_reader) .none kV_check_reader dc_check_reader pm_check_reader an_check_reader cd_check_reader ct_check_reader), sl_check_reader⟩)
    (c_check_reader : PySem.W.codeIn K cd_check_reader "check_reader" = true)
    (k_check_reader : PySem.W.keepIn K (.ref f_check_reader) = true)
    (x_rinit : PySem.W.findIn K (.ref C) "__init__" = some (some (.ref f_rinit)))
    (i_rinit : PySem.W.isFn K (.ref f_rinit) = true)
    (l_rinit : K.lookup f_rinit = some ⟨oc_rinit, od_rinit, .func (PySem.W.fnOf "__init__" "Ring.__init__" (defArgs s_rinit) (defBody s_rinit) (defScope s_rinit) .none kV_rinit dc_rinit pm_rinit an_rinit cd_rinit ct_rinit), sl_rinit⟩)
    (c_rinit : PySem.W.codeIn K cd_rinit "Ring.__init__" = true)
    (k_rinit : PySem.W.keepIn K (.ref f_rinit) = true)
    (pa_rdays : PySem.W.findIn K (.ref C) "days" = some (some (.ref pp_rdays)))
    (pg_rdays : PySem.W.specialIn K (.ref pp_rdays) "__get__" = some (some (.builtin "property.__get__")))
    (pt_rdays : PySem.W.takesIn K (.ref pp_rdays) = some true)
    (pr_rdays : PySem.W.recIn K pp_rdays "property" = some (.ref f_rdays :: re_rdays))
    (l_rdays : K.lookup f_rdays = some ⟨oc_rdays, od_rdays, .func (PySem.W.fnOf "days" "Ring.days" (defArgs s_rdays) (defBody s_rdays) (defScope s_rdays) .none kV_rdays dc_rdays pm_rdays an_rdays cd_rdays ct_rdays), sl_rdays⟩)
    (c_rdays : PySem.W.codeIn K cd_rdays "Ring.days" = true)
    (k_rdays : PySem.W.keepIn K (.ref f_rdays) = true)
    (pa_rstarts : PySem.W.findIn K (.ref C) "starts" = some (some (.ref pp_rstarts)))
    (pg_rstarts : PySem.W.specialIn K (.ref pp_rstarts) "__get__" = some (some (.builtin "property.__get__")))
    (pt_rstarts : PySem.W.takesIn K (.ref pp_rstarts) = some true)
    (pr_rstarts : PySem.W.recIn K pp_rstarts "property" = some (.ref f_rstarts :: re_rstarts))
    (l_rstarts : K.lookup f_rstarts = some ⟨oc_rstarts, od_rstarts, .func (PySem.W.fnOf "starts" "Ring.starts" (defArgs s_rstarts) (defBody s_rstarts) (defScope s_rstarts) .none kV_rstarts dc_rstarts pm_rstarts an_rstarts cd_rstarts ct_rstarts), sl_rstarts⟩)
    (c_rstarts : PySem.W.codeIn K cd_rstarts "Ring.starts" = true)
    (k_rstarts : PySem.W.keepIn K (.ref f_rstarts) = true)
    (pa_rbooks : PySem.W.findIn K (.ref C) "books" = some (some (.ref pp_rbooks)))
    (pg_rbooks : PySem.W.specialIn K (.ref pp_rbooks) "__get__" = some (some (.builtin "property.__get__")))
    (pt_rbooks : PySem.W.takesIn K (.ref pp_rbooks) = some true)
    (pr_rbooks : PySem.W.recIn K pp_rbooks "property" = some (.ref f_rbooks :: re_rbooks))
    (l_rbooks : K.lookup f_rbooks = some ⟨oc_rbooks, od_rbooks, .func (PySem.W.fnOf "books" "Ring.books" (defArgs s_rbooks) (defBody s_rbooks) (defScope s_rbooks) .none kV_rbooks dc_rbooks pm_rbooks an_rbooks cd_rbooks ct_rbooks), sl_rbooks⟩)
    (c_rbooks : PySem.W.codeIn K cd_rbooks "Ring.books" = true)
    (k_rbooks : PySem.W.keepIn K (.ref f_rbooks) = true)
    (pa_rpace : PySem.W.findIn K (.ref C) "pace" = some (some (.ref pp_rpace)))
    (pg_rpace : PySem.W.specialIn K (.ref pp_rpace) "__get__" = some (some (.builtin "property.__get__")))
    (pt_rpace : PySem.W.takesIn K (.ref pp_rpace) = some true)
    (pr_rpace : PySem.W.recIn K pp_rpace "property" = some (.ref f_rpace :: re_rpace))
    (l_rpace : K.lookup f_rpace = some ⟨oc_rpace, od_rpace, .func (PySem.W.fnOf "pace" "Ring.pace" (defArgs s_rpace) (defBody s_rpace) (defScope s_rpace) .none kV_rpace dc_rpace pm_rpace an_rpace cd_rpace ct_rpace), sl_rpace⟩)
    (c_rpace : PySem.W.codeIn K cd_rpace "Ring.pace" = true)
    (k_rpace : PySem.W.keepIn K (.ref f_rpace) = true)
    (x_rlen : PySem.W.findIn K (.ref C) "__len__" = some (some (.ref f_rlen)))
    (i_rlen : PySem.W.isFn K (.ref f_rlen) = true)
    (l_rlen : K.lookup f_rlen = some ⟨oc_rlen, od_rlen, .func (PySem.W.fnOf "__len__" "Ring.__len__" (defArgs s_rlen) (defBody s_rlen) (defScope s_rlen) .none kV_rlen dc_rlen pm_rlen an_rlen cd_rlen ct_rlen), sl_rlen⟩)
    (c_rlen : PySem.W.codeIn K cd_rlen "Ring.__len__" = true)
    (k_rlen : PySem.W.keepIn K (.ref f_rlen) = true)
    (x_rcall : PySem.W.findIn K (.ref C) "__call__" = some (some (.ref f_rcall)))
    (i_rcall : PySem.W.isFn K (.ref f_rcall) = true)
    (j_rcall : PySem.W.fnIn K f_rcall = true)
    (l_rcall : K.lookup f_rcall = some ⟨oc_rcall, od_rcall, .func (PySem.W.fnOf "__call__" "Ring.__call__" (defArgs s_rcall) (defBody s_rcall) (defScope s_rcall) .none kV_rcall dc_rcall pm_rcall an_rcall cd_rcall ct_rcall), sl_rcall⟩)
    (c_rcall : PySem.W.codeIn K cd_rcall "Ring.__call__" = true)
    (k_rcall : PySem.W.keepIn K (.ref f_rcall) = true)
    (x_check_part : PySem.W.nsIn K mainGlobals "check_part" = some (some (.ref f_check_part)))
    (l_check_part : K.lookup f_check_part = some ⟨oc_check_part, od_check_part, .func (PySem.W.fnOf "check_part" "check_part" (defArgs s_check_part) (defBody s_check_part) (defScope s_check_part) .none kV_check_part dc_check_part pm_check_part an_check_part cd_check_part ct_check_part), sl_check_part⟩)
    (c_check_part : PySem.W.codeIn K cd_check_part "check_part" = true)
    (k_check_part : PySem.W.keepIn K (.ref f_check_part) = true)
    (x_end_day : PySem.W.nsIn K mainGlobals "end_day" = some (some (.ref f_end_day)))
    (l_end_day : K.lookup f_end_day = some ⟨oc_end_day, od_end_day, .func (PySem.W.fnOf "end_day" "end_day" (defArgs s_end_day) (defBody s_end_day) (defScope s_end_day) .none kV_end_day dc_end_day pm_end_day an_end_day cd_end_day ct_end_day), sl_end_day⟩)
    (c_end_day : PySem.W.codeIn K cd_end_day "end_day" = true)
    (k_end_day : PySem.W.keepIn K (.ref f_end_day) = true)
    (x_book_of : PySem.W.nsIn K mainGlobals "book_of" = some (some (.ref f_book_of)))
    (l_book_of : K.lookup f_book_of = some ⟨oc_book_of, od_book_of, .func (PySem.W.fnOf "book_of" "book_of" (defArgs s_book_of) (defBody s_book_of) (defScope s_book_of) .none kV_book_of dc_book_of pm_book_of an_book_of cd_book_of ct_book_of), sl_book_of⟩)
    (c_book_of : PySem.W.codeIn K cd_book_of "book_of" = true)
    (k_book_of : PySem.W.keepIn K (.ref f_book_of) = true)
    (x_reader_before : PySem.W.nsIn K mainGlobals "reader_before" = some (some (.ref f_reader_before)))
    (l_reader_before : K.lookup f_reader_before = some ⟨oc_reader_before, od_reader_before, .func (PySem.W.fnOf "reader_before" "reader_before" (defArgs s_reader_before) (defBody s_reader_before) (defScope s_reader_before) .none kV_reader_before dc_reader_before pm_reader_before an_reader_before cd_reader_before ct_reader_before), sl_reader_before⟩)
    (c_reader_before : PySem.W.codeIn K cd_reader_before "reader_before" = true)
    (k_reader_before : PySem.W.keepIn K (.ref f_reader_before) = true)
    (x_diary_of : PySem.W.nsIn K mainGlobals "diary_of" = some (some (.ref f_diary_of)))
    (l_diary_of : K.lookup f_diary_of = some ⟨oc_diary_of, od_diary_of, .func (PySem.W.fnOf "diary_of" "diary_of" (defArgs s_diary_of) (defBody s_diary_of) (defScope s_diary_of) .none kV_diary_of dc_diary_of pm_diary_of an_diary_of cd_diary_of ct_diary_of), sl_diary_of⟩)
    (c_diary_of : PySem.W.codeIn K cd_diary_of "diary_of" = true)
    (k_diary_of : PySem.W.keepIn K (.ref f_diary_of) = true)
    (x_mended : PySem.W.nsIn K mainGlobals "mended" = some (some (.ref f_mended)))
    (l_mended : K.lookup f_mended = some ⟨oc_mended, od_mended, .func (PySem.W.fnOf "mended" "mended" (defArgs s_mended) (defBody s_mended) (defScope s_mended) .none kV_mended dc_mended pm_mended an_mended cd_mended ct_mended), sl_mended⟩)
    (c_mended : PySem.W.codeIn K cd_mended "mended" = true)
    (k_mended : PySem.W.keepIn K (.ref f_mended) = true)
    (x_can_be : PySem.W.nsIn K mainGlobals "can_be" = some (some (.ref f_can_be)))
    (l_can_be : K.lookup f_can_be = some ⟨oc_can_be, od_can_be, .func (PySem.W.fnOf "can_be" "can_be" (defArgs s_can_be) (defBody s_can_be) (defScope s_can_be) .none kV_can_be dc_can_be pm_can_be an_can_be cd_can_be ct_can_be), sl_can_be⟩)
    (c_can_be : PySem.W.codeIn K cd_can_be "can_be" = true)
    (k_can_be : PySem.W.keepIn K (.ref f_can_be) = true)
    (x_is_same_number : PySem.W.nsIn K mainGlobals "is_same_number" = some (some (.ref f_is_same_number)))
    (l_is_same_number : K.lookup f_is_same_number = some ⟨oc_is_same_number, od_is_same_number, .func (PySem.W.fnOf "is_same_number" "is_same_number" (defArgs s_is_same_number) (defBody s_is_same_number) (defScope s_is_same_number) .none kV_is_same_number dc_is_same_number pm_is_same_number an_is_same_number cd_is_same_number ct_is_same_number), sl_is_same_number⟩)
    (c_is_same_number : PySem.W.codeIn K cd_is_same_number "is_same_number" = true)
    (k_is_same_number : PySem.W.keepIn K (.ref f_is_same_number) = true)
    (x_ltaken : PySem.W.nsIn K mainGlobals "_law_taken" = some (some (.ref f_ltaken)))
    (l_ltaken : K.lookup f_ltaken = some ⟨oc_ltaken, od_ltaken, .func (PySem.W.fnOf "_law_taken" "_law_taken" (defArgs s_ltaken) (defBody s_ltaken) (defScope s_ltaken) .none kV_ltaken dc_ltaken pm_ltaken an_ltaken cd_ltaken ct_ltaken), sl_ltaken⟩)
    (c_ltaken : PySem.W.codeIn K cd_ltaken "_law_taken" = true)
    (k_ltaken : PySem.W.keepIn K (.ref f_ltaken) = true)
    (x_lalike : PySem.W.nsIn K mainGlobals "_law_alike" = some (some (.ref f_lalike)))
    (l_lalike : K.lookup f_lalike = some ⟨oc_lalike, od_lalike, .func (PySem.W.fnOf "_law_alike" "_law_alike" (defArgs s_lalike) (defBody s_lalike) (defScope s_lalike) .none kV_lalike dc_lalike pm_lalike an_lalike cd_lalike ct_lalike), sl_lalike⟩)
    (c_lalike : PySem.W.codeIn K cd_lalike "_law_alike" = true)
    (k_lalike : PySem.W.keepIn K (.ref f_lalike) = true)
    (x_lraised : PySem.W.nsIn K mainGlobals "_law_raised" = some (some (.ref f_lraised)))
    (l_lraised : K.lookup f_lraised = some ⟨oc_lraised, od_lraised, .func (PySem.W.fnOf "_law_raised" "_law_raised" (defArgs s_lraised) (defBody s_lraised) (defScope s_lraised) .none kV_lraised dc_lraised pm_lraised an_lraised cd_lraised ct_lraised), sl_lraised⟩)
    (c_lraised : PySem.W.codeIn K cd_lraised "_law_raised" = true)
    (k_lraised : PySem.W.keepIn K (.ref f_lraised) = true)
    (x_lpair : PySem.W.nsIn K mainGlobals "_law_pair" = some (some (.ref f_lpair)))
    (l_lpair : K.lookup f_lpair = some ⟨oc_lpair, od_lpair, .func (PySem.W.fnOf "_law_pair" "_law_pair" (defArgs s_lpair) (defBody s_lpair) (defScope s_lpair) .none kV_lpair dc_lpair pm_lpair an_lpair cd_lpair ct_lpair), sl_lpair⟩)
    (c_lpair : PySem.W.codeIn K cd_lpair "_law_pair" = true)
    (k_lpair : PySem.W.keepIn K (.ref f_lpair) = true)
    (x_lbegun : PySem.W.nsIn K mainGlobals "_law_begun" = some (some (.ref f_lbegun)))
    (l_lbegun : K.lookup f_lbegun = some ⟨oc_lbegun, od_lbegun, .func (PySem.W.fnOf "_law_begun" "_law_begun" (defArgs s_lbegun) (defBody s_lbegun) (defScope s_lbegun) .none kV_lbegun dc_lbegun pm_lbegun an_lbegun cd_lbegun ct_lbegun), sl_lbegun⟩)
    (c_lbegun : PySem.W.codeIn K cd_lbegun "_law_begun" = true)
    (k_lbegun : PySem.W.keepIn K (.ref f_lbegun) = true)
    (x_lfirst : PySem.W.nsIn K mainGlobals "_law_first" = some (some (.ref f_lfirst)))
    (l_lfirst : K.lookup f_lfirst = some ⟨oc_lfirst, od_lfirst, .func (PySem.W.fnOf "_law_first" "_law_first" (defArgs s_lfirst) (defBody s_lfirst) (defScope s_lfirst) .none kV_lfirst dc_lfirst pm_lfirst an_lfirst cd_lfirst ct_lfirst), sl_lfirst⟩)
    (c_lfirst : PySem.W.codeIn K cd_lfirst "_law_first" = true)
    (k_lfirst : PySem.W.keepIn K (.ref f_lfirst) = true)
    (x_lnext : PySem.W.nsIn K mainGlobals "_law_next" = some (some (.ref f_lnext)))
    (l_lnext : K.lookup f_lnext = some ⟨oc_lnext, od_lnext, .func (PySem.W.fnOf "_law_next" "_law_next" (defArgs s_lnext) (defBody s_lnext) (defScope s_lnext) .none kV_lnext dc_lnext pm_lnext an_lnext cd_lnext ct_lnext), sl_lnext⟩)
    (c_lnext : PySem.W.codeIn K cd_lnext "_law_next" = true)
    (k_lnext : PySem.W.keepIn K (.ref f_lnext) = true)
    (x_ltorn : PySem.W.nsIn K mainGlobals "_law_torn" = some (some (.ref f_ltorn)))
    (l_ltorn : K.lookup f_ltorn = some ⟨oc_ltorn, od_ltorn, .func (PySem.W.fnOf "_law_torn" "_law_torn" (defArgs s_ltorn) (defBody s_ltorn) (defScope s_ltorn) .none kV_ltorn dc_ltorn pm_ltorn an_ltorn cd_ltorn ct_ltorn), sl_ltorn⟩)
    (c_ltorn : PySem.W.codeIn K cd_ltorn "_law_torn" = true)
    (k_ltorn : PySem.W.keepIn K (.ref f_ltorn) = true)
    (x_lchanged : PySem.W.nsIn K mainGlobals "_law_changed" = some (some (.ref f_lchanged)))
    (l_lchanged : K.lookup f_lchanged = some ⟨oc_lchanged, od_lchanged, .func (PySem.W.fnOf "_law_changed" "_law_changed" (defArgs s_lchanged) (defBody s_lchanged) (defScope s_lchanged) .none kV_lchanged dc_lchanged pm_lchanged an_lchanged cd_lchanged ct_lchanged), sl_lchanged⟩)
    (c_lchanged : PySem.W.codeIn K cd_lchanged "_law_changed" = true)
    (k_lchanged : PySem.W.keepIn K (.ref f_lchanged) = true)
    (x_law : PySem.W.nsIn K mainGlobals "law" = some (some (.ref f_law)))
    (l_law : K.lookup f_law = some ⟨oc_law, od_law, .func (PySem.W.fnOf "law" "law" (defArgs s_law) (defBody s_law) (defScope s_law) .none kV_law dc_law pm_law an_law cd_law ct_law), sl_law⟩)
    (c_law : PySem.W.codeIn K cd_law "law" = true)
    (k_law : PySem.W.keepIn K (.ref f_law) = true)
    (pgC : PySem.W.plainGet K C Str.empty = true)
    (hdC : PySem.W.hasDictIn K C = true)
    (poC : PySem.W.plainOver K C = true)
    (saC : PySem.W.findIn K (.ref C) "__setattr__" = some (some (.builtin "object.__setattr__")))
    (mkC : PySem.W.makesIn K C = true)
    (kC : PySem.W.keepIn K (.ref C) = true)
    (nD : PySem.W.findIn K (.ref C) "_days" = some none)
    (nS : PySem.W.findIn K (.ref C) "_starts" = some none)
    (v_LATEST : PySem.W.nsIn K mainGlobals "LATEST" = some (some (.int 1000000000000000000 t_LATEST)))
    (v_MOST_ENTRIES : PySem.W.nsIn K mainGlobals "MOST_ENTRIES" = some (some (.int 500 t_MOST_ENTRIES)))
    (v_FEWEST_READERS : PySem.W.nsIn K mainGlobals "FEWEST_READERS" = some (some (.int 2 t_FEWEST_READERS)))
    (v_MOST_READERS : PySem.W.nsIn K mainGlobals "MOST_READERS" = some (some (.int 8 t_MOST_READERS)))
    (v_MOST_DAYS : PySem.W.nsIn K mainGlobals "MOST_DAYS" = some (some (.int 30 t_MOST_DAYS)))
    (v_MOST_BOOKS : PySem.W.nsIn K mainGlobals "MOST_BOOKS" = some (some (.int 12 t_MOST_BOOKS)))
    (z_len : PySem.W.nsIn K mainGlobals "len" = some none)
    (z_sum : PySem.W.nsIn K mainGlobals "sum" = some none)
    (z_max : PySem.W.nsIn K mainGlobals "max" = some none)
    (z_min : PySem.W.nsIn K mainGlobals "min" = some none)
    (z_range : PySem.W.nsIn K mainGlobals "range" = some none)
    (z_int : PySem.W.nsIn K mainGlobals "int" = some none)
    (z_bool : PySem.W.nsIn K mainGlobals "bool" = some none)
    (z_isinstance : PySem.W.nsIn K mainGlobals "isinstance" = some none)
    (z_tuple : PySem.W.nsIn K mainGlobals "tuple" = some none)
    (z_enumerate : PySem.W.nsIn K mainGlobals "enumerate" = some none)
    (z_list : PySem.W.nsIn K mainGlobals "list" = some none)
    (z_str : PySem.W.nsIn K mainGlobals "str" = some none)
    (z_sorted : PySem.W.nsIn K mainGlobals "sorted" = some none)
    (z_zip : PySem.W.nsIn K mainGlobals "zip" = some none)
    (z_all : PySem.W.nsIn K mainGlobals "all" = some none)
    (own : LamX.OwnTab K fa h)
    {c_tb P_tb : Addr} {e_tb : Value} {dd_tb : Option Addr} {vs_tb : Array Value} {sl_tb : Array (Option Value)}
    {e0 e1 e2 e3 e4 e5 e6 e7 e8 e9 e10 eE : Addr}
    (tb_c : cd_law = .ref c_tb)
    (tb_l : K.lookup c_tb = some ⟨e_tb, dd_tb, .fields vs_tb, sl_tb⟩)
    (tb_p : vs_tb[11]? = some (.ref P_tb))
    (tb_h : PySem.W.codeHdIn K c_tb P_tb = true)
    (tb_n : K.lookup P_tb = none)
    (x_e0 : PySem.W.nsIn K mainGlobals "InvalidOperation" = some (some (.ref e0)))
    (x_e1 : PySem.W.nsIn K mainGlobals "InvalidRing" = some (some (.ref e1)))
    (x_e2 : PySem.W.nsIn K mainGlobals "DecodeError" = some (some (.ref e2)))
    (x_e3 : PySem.W.nsIn K mainGlobals "NotationError" = some (some (.ref e3)))
    (x_e4 : PySem.W.nsIn K mainGlobals "BeingRead" = some (some (.ref e4)))
    (x_e5 : PySem.W.nsIn K mainGlobals "DiaryError" = some (some (.ref e5)))
    (x_e6 : PySem.W.nsIn K mainGlobals "InvalidNumber" = some (some (.ref e6)))
    (x_e7 : PySem.W.nsIn K mainGlobals "UnknownReader" = some (some (.ref e7)))
    (x_e8 : PySem.W.nsIn K mainGlobals "UnknownBook" = some (some (.ref e8)))
    (x_e9 : PySem.W.nsIn K mainGlobals "Contradiction" = some (some (.ref e9)))
    (x_e10 : PySem.W.nsIn K mainGlobals "InvalidCount" = some (some (.ref e10)))
    (x_eE : PySem.W.nsIn K mainGlobals "ReadingError" = some (some (.ref eE)))
    (z_VE : PySem.W.nsIn K mainGlobals "ValueError" = some none)
    (xc_n : PySem.W.specialIn K (.builtin "object.__class__") "__get__" = some (some (.builtin "getset_descriptor.__get__")))
    (xc_t : PySem.W.takesIn K (.builtin "object.__class__") = some true)
    (xg6 : PySem.W.findIn K (.ref e6) "__getattribute__" = some (some (.builtin "BaseException.__getattribute__")))
    (xk6 : PySem.W.findIn K (.ref e6) "__getattr__" = some none)
    (xs6 : PySem.W.subIn K (.ref e6) (.type "BaseException") = some true)
    (xd6 : PySem.W.hasDictIn K e6 = true)
    (xa6 : PySem.W.findIn K (.ref e6) "__class__" = some (some (.builtin "object.__class__")))
    (xm6 : PySem.W.mroIn K e6 (.type "object") = some true)
    (xx6 : PySem.W.exmOne K (.ref e6) (.ref eE) = some true)
    (xq6_0 : PySem.W.kitOne K (.ref e6) (.ref e0) = some false)
    (xq6_1 : PySem.W.kitOne K (.ref e6) (.ref e1) = some false)
    (xq6_2 : PySem.W.kitOne K (.ref e6) (.ref e2) = some false)
    (xq6_3 : PySem.W.kitOne K (.ref e6) (.ref e3) = some false)
    (xq6_4 : PySem.W.kitOne K (.ref e6) (.ref e4) = some false)
    (xq6_5 : PySem.W.kitOne K (.ref e6) (.ref e5) = some false)
    (xq6_6 : PySem.W.kitOne K (.ref e6) (.ref e6) = some true)
    (xq6_7 : PySem.W.kitOne K (.ref e6) (.ref e7) = some false)
    (xq6_8 : PySem.W.kitOne K (.ref e6) (.ref e8) = some false)
    (xq6_9 : PySem.W.kitOne K (.ref e6) (.ref e9) = some false)
    (xq6_10 : PySem.W.kitOne K (.ref e6) (.ref e10) = some false)
    (xv6 : PySem.W.kitOne K (.ref e6) (.type "ValueError") = some true)
    (xi6 : PySem.W.excIn K e6 [.type "ValueError", .type "Exception", .type "BaseException", .type "object"] "ValueError.__new__" = true)
    (xt6 : PySem.W.typeIn K (.ref e6) = some (.type "type"))
    (xp6 : PySem.W.keepIn K (.ref e6) = true)
    (xg5 : PySem.W.findIn K (.ref e5) "__getattribute__" = some (some (.builtin "BaseException.__getattribute__")))
    (xk5 : PySem.W.findIn K (.ref e5) "__getattr__" = some none)
    (xs5 : PySem.W.subIn K (.ref e5) (.type "BaseException") = some true)
    (xd5 : PySem.W.hasDictIn K e5 = true)
    (xa5 : PySem.W.findIn K (.ref e5) "__class__" = some (some (.builtin "object.__class__")))
    (xm5 : PySem.W.mroIn K e5 (.type "object") = some true)
    (xx5 : PySem.W.exmOne K (.ref e5) (.ref eE) = some true)
    (xq5_0 : PySem.W.kitOne K (.ref e5) (.ref e0) = some false)
    (xq5_1 : PySem.W.kitOne K (.ref e5) (.ref e1) = some false)
    (xq5_2 : PySem.W.kitOne K (.ref e5) (.ref e2) = some false)
    (xq5_3 : PySem.W.kitOne K (.ref e5) (.ref e3) = some false)
    (xq5_4 : PySem.W.kitOne K (.ref e5) (.ref e4) = some false)
    (xq5_5 : PySem.W.kitOne K (.ref e5) (.ref e5) = some true)
    (xq5_6 : PySem.W.kitOne K (.ref e5) (.ref e6) = some false)
    (xq5_7 : PySem.W.kitOne K (.ref e5) (.ref e7) = some false)
    (xq5_8 : PySem.W.kitOne K (.ref e5) (.ref e8) = some false)
    (xq5_9 : PySem.W.kitOne K (.ref e5) (.ref e9) = some false)
    (xq5_10 : PySem.W.kitOne K (.ref e5) (.ref e10) = some false)
    (xv5 : PySem.W.kitOne K (.ref e5) (.type "ValueError") = some true)
    (xt5 : PySem.W.typeIn K (.ref e5) = some (.type "type"))
    (xn5 : PySem.W.findIn K (.ref e5) "entry" = some none)
    (xr1 : PySem.W.readsIn K eE (.type "type") = true)
    (xr2 : PySem.W.specialIn K (.ref eE) "__getattribute__" = some (some (.builtin "type.__getattribute__")))
    (xr3 : PySem.W.findCls K (.ref eE) (.type "type") "__init__" = some (.val (.builtin "ValueError.__init__")))
    (xst : PySem.W.subIn K (.ref e6) (.type "StopIteration") = some false)
    : LamX.LawAtS l w K CX0 14 63 "_law_script" mg fa h := by
  have e := hfa.symm.trans (PySem.W.mg_of X G x_law)
  cases e
  have F_iDiaryError := fun_mk (st := s_iDiaryError) l_iDiaryError c_iDiaryError k_iDiaryError
  have b_iDiaryError := F_iDiaryError.binds (ps := P_iDiaryError) fun _ _ _ _ _ _ us hl => match us, hl with | [_, _], _ => rfl
  have F_is_number := fun_mk (st := s_is_number) l_is_number c_is_number k_is_number
  have b_is_number := F_is_number.binds (ps := P_is_number) fun _ _ _ _ _ _ us hl => match us, hl with | [_], _ => rfl
  have F_lies_between := fun_mk (st := s_lies_between) l_lies_between c_lies_between k_lies_between
  have b_lies_between := F_lies_between.binds (ps := P_lies_between) fun _ _ _ _ _ _ us hl => match us, hl with | [_, _, _], _ => rfl
  have F_check_number := fun_mk (st := s_check_number) l_check_number c_check_number k_check_number
  have b_check_number := F_check_number.binds (ps := P_check_number) fun _ _ _ _ _ _ us hl => match us, hl with | [_, _, _], _ => rfl
  have F_check_reader := fun_mk (st := s_check_reader) l_check_reader c_check_reader k_check_reader
  have b_check_reader := F_check_reader.binds (ps := P_check_reader) fun _ _ _ _ _ _ us hl => match us, hl with | [_, _], _ => rfl
  have F_rinit := fun_mk (st := s_rinit) l_rinit c_rinit k_rinit
  have b_rinit := F_rinit.binds (ps := P_rinit) fun _ _ _ _ _ _ us hl => match us, hl with | [_, _, _], _ => rfl
  have F_rdays := fun_mk (st := s_rdays) l_rdays c_rdays k_rdays
  have b_rdays := F_rdays.binds (ps := P_rdays) fun _ _ _ _ _ _ us hl => match us, hl with | [_], _ => rfl
  have F_rstarts := fun_mk (st := s_rstarts) l_rstarts c_rstarts k_rstarts
  have b_rstarts := F_rstarts.binds (ps := P_rstarts) fun _ _ _ _ _ _ us hl => match us, hl with | [_], _ => rfl
  have F_rbooks := fun_mk (st := s_rbooks) l_rbooks c_rbooks k_rbooks
  have b_rbooks := F_rbooks.binds (ps := P_rbooks) fun _ _ _ _ _ _ us hl => match us, hl with | [_], _ => rfl
  have F_rpace := fun_mk (st := s_rpace) l_rpace c_rpace k_rpace
  have b_rpace := F_rpace.binds (ps := P_rpace) fun _ _ _ _ _ _ us hl => match us, hl with | [_], _ => rfl
  have F_rlen := fun_mk (st := s_rlen) l_rlen c_rlen k_rlen
  have b_rlen := F_rlen.binds (ps := P_rlen) fun _ _ _ _ _ _ us hl => match us, hl with | [_], _ => rfl
  have F_rcall := fun_mk (st := s_rcall) l_rcall c_rcall k_rcall
  have b_rcall := F_rcall.binds (ps := P_rcall) fun _ _ _ _ _ _ us hl => match us, hl with | [_, _, _], _ => rfl
  have F_check_part := fun_mk (st := s_check_part) l_check_part c_check_part k_check_part
  have b_check_part := F_check_part.binds (ps := P_check_part) fun _ _ _ _ _ _ us hl => match us, hl with | [_, _, _, _], _ => rfl
  have F_end_day := fun_mk (st := s_end_day) l_end_day c_end_day k_end_day
  have b_end_day := F_end_day.binds (ps := P_end_day) fun _ _ _ _ _ _ us hl => match us, hl with | [_, _, _], _ => rfl
  have F_book_of := fun_mk (st := s_book_of) l_book_of c_book_of k_book_of
  have b_book_of := F_book_of.binds (ps := P_book_of) fun _ _ _ _ _ _ us hl => match us, hl with | [_, _, _], _ => rfl
  have F_reader_before := fun_mk (st := s_reader_before) l_reader_before c_reader_before k_reader_before
  have b_reader_before := F_reader_before.binds (ps := P_reader_before) fun _ _ _ _ _ _ us hl => match us, hl with | [_, _], _ => rfl
  have F_diary_of := fun_mk (st := s_diary_of) l_diary_of c_diary_of k_diary_of
  have b_diary_of := F_diary_of.binds (ps := P_diary_of) fun _ _ _ _ _ _ us hl => match us, hl with | [_, _], _ => rfl
  have F_mended := fun_mk (st := s_mended) l_mended c_mended k_mended
  have b_mended := F_mended.binds (ps := P_mended) fun _ _ _ _ _ _ us hl => match us, hl with | [_, _], _ => rfl
  have F_can_be := fun_mk (st := s_can_be) l_can_be c_can_be k_can_be
  have b_can_be := F_can_be.binds (ps := P_can_be) fun _ _ _ _ _ _ us hl => match us, hl with | [_, _], _ => rfl
  have F_is_same_number := fun_mk (st := s_is_same_number) l_is_same_number c_is_same_number k_is_same_number
  have b_is_same_number := F_is_same_number.binds (ps := P_is_same_number) fun _ _ _ _ _ _ us hl => match us, hl with | [_, _], _ => rfl
  have F_ltaken := fun_mk (st := s_ltaken) l_ltaken c_ltaken k_ltaken
  have b_ltaken := F_ltaken.binds (ps := P_ltaken) fun _ _ _ _ _ _ us hl => match us, hl with | [_, _], _ => rfl
  have F_lalike := fun_mk (st := s_lalike) l_lalike c_lalike k_lalike
  have b_lalike := F_lalike.binds (ps := P_lalike) fun _ _ _ _ _ _ us hl => match us, hl with | [_, _], _ => rfl
  have F_lraised := fun_mk (st := s_lraised) l_lraised c_lraised k_lraised
  have b_lraised := F_lraised.binds (ps := P_lraised) fun _ _ _ _ _ _ us hl => match us, hl with | [_], _ => rfl
  have F_lpair := fun_mk (st := s_lpair) l_lpair c_lpair k_lpair
  have b_lpair := F_lpair.binds (ps := P_lpair) fun _ _ _ _ _ _ us hl => match us, hl with | [_, _], _ => rfl
  have F_lbegun := fun_mk (st := s_lbegun) l_lbegun c_lbegun k_lbegun
  have b_lbegun := F_lbegun.binds (ps := P_lbegun) fun _ _ _ _ _ _ us hl => match us, hl with | [_], _ => rfl
  have F_lfirst := fun_mk (st := s_lfirst) l_lfirst c_lfirst k_lfirst
  have b_lfirst := F_lfirst.binds (ps := P_lfirst) fun _ _ _ _ _ _ us hl => match us, hl with | [_, _], _ => rfl
  have F_lnext := fun_mk (st := s_lnext) l_lnext c_lnext k_lnext
  have b_lnext := F_lnext.binds (ps := P_lnext) fun _ _ _ _ _ _ us hl => match us, hl with | [_], _ => rfl
  have F_ltorn := fun_mk (st := s_ltorn) l_ltorn c_ltorn k_ltorn
  have b_ltorn := F_ltorn.binds (ps := P_ltorn) fun _ _ _ _ _ _ us hl => match us, hl with | [_, _], _ => rfl
  have F_lchanged := fun_mk (st := s_lchanged) l_lchanged c_lchanged k_lchanged
  have b_lchanged := F_lchanged.binds (ps := P_lchanged) fun _ _ _ _ _ _ us hl => match us, hl with | [_, _, _], _ => rfl
  have F_law := fun_mk (st := s_law) l_law c_law k_law
  have b_law := F_law.binds (ps := P_law) fun _ _ _ _ _ _ us hl => match us, hl with | [_], _ => rfl
  cases tb_c
  refine ⟨PySem.W.fnOf "law" "law" (defArgs s_law) (defBody s_law) (defScope s_law) .none kV_law dc_law pm_law an_law (.ref c_tb) ct_law, [(c_tb, P_tb)], spLawL K P_tb, fun p hp => ?_, fun p hp => ?_, fun p hp => ?_, fun s v => .of_eq rfl, fun H a ns hl hb ht hS => ?_, fun base _ _ hTB => ?_⟩
  · cases List.mem_singleton.mp hp
    exact own _ _ _ _ _ _ _ _ l_law rfl rfl tb_l tb_p
  · cases List.mem_singleton.mp hp
    exact tb_n
  · cases List.mem_singleton.mp hp
    exact PySem.W.codeHd_of_K X tb_h
  · exact ⟨a, ns, rfl, hS, hl, ht _ (List.mem_singleton.mpr rfl), fun _ => rfl⟩
  · exact ok_law (mg := mg) (cT := c_tb) (PT := P_tb)
     {
    C := C,
    a_iDiaryError := f_iDiaryError, d_iDiaryError := _, F_iDiaryError := F_iDiaryError, b_iDiaryError := b_iDiaryError,
    c_iDiaryError := ec_iDiaryError, gc_iDiaryError := PySem.W.mg_of X G xc_iDiaryError, ic_iDiaryError := x_iDiaryError, it_iDiaryError := xt_iDiaryError, io_iDiaryError := xo_iDiaryError,
    a_is_number := f_is_number, d_is_number := _, F_is_number := F_is_number, b_is_number := b_is_number,
    g_is_number := PySem.W.mg_of X G x_is_number,
    a_lies_between := f_lies_between, d_lies_between := _, F_lies_between := F_lies_between, b_lies_between := b_lies_between,
    g_lies_between := PySem.W.mg_of X G x_lies_between,
    a_check_number := f_check_number, d_check_number := _, F_check_number := F_check_number, b_check_number := b_check_number,
    g_check_number := PySem.W.mg_of X G x_check_number,
    a_check_reader := f_check_reader, d_check_reader := _, F_check_reader := F_check_reader, b_check_reader := b_check_reader,
    g_check_reader := PySem.W.mg_of X G x_check_reader,
    a_rinit := f_rinit, d_rinit := _, F_rinit := F_rinit, b_rinit := b_rinit,
    a_rdays := f_rdays, d_rdays := _, F_rdays := F_rdays, b_rdays := b_rdays,
    a_rstarts := f_rstarts, d_rstarts := _, F_rstarts := F_rstarts, b_rstarts := b_rstarts,
    a_rbooks := f_rbooks, d_rbooks := _, F_rbooks := F_rbooks, b_rbooks := b_rbooks,
    a_rpace := f_rpace, d_rpace := _, F_rpace := F_rpace, b_rpace := b_rpace,
    a_rlen := f_rlen, d_rlen := _, F_rlen := F_rlen, b_rlen := b_rlen,
    a_rcall := f_rcall, d_rcall := _, F_rcall := F_rcall, b_rcall := b_rcall,
    a_check_part := f_check_part, d_check_part := _, F_check_part := F_check_part, b_check_part := b_check_part,
    g_check_part := PySem.W.mg_of X G x_check_part,
    a_end_day := f_end_day, d_end_day := _, F_end_day := F_end_day, b_end_day := b_end_day,
    g_end_day := PySem.W.mg_of X G x_end_day,
    a_book_of := f_book_of, d_book_of := _, F_book_of := F_book_of, b_book_of := b_book_of,
    g_book_of := PySem.W.mg_of X G x_book_of,
    a_reader_before := f_reader_before, d_reader_before := _, F_reader_before := F_reader_before, b_reader_before := b_reader_before,
    g_reader_before := PySem.W.mg_of X G x_reader_before,
    a_diary_of := f_diary_of, d_diary_of := _, F_diary_of := F_diary_of, b_diary_of := b_diary_of,
    g_diary_of := PySem.W.mg_of X G x_diary_of,
    a_mended := f_mended, d_mended := _, F_mended := F_mended, b_mended := b_mended,
    g_mended := PySem.W.mg_of X G x_mended,
    a_can_be := f_can_be, d_can_be := _, F_can_be := F_can_be, b_can_be := b_can_be,
    g_can_be := PySem.W.mg_of X G x_can_be,
    a_is_same_number := f_is_same_number, d_is_same_number := _, F_is_same_number := F_is_same_number, b_is_same_number := b_is_same_number,
    g_is_same_number := PySem.W.mg_of X G x_is_same_number,
    a_ltaken := f_ltaken, d_ltaken := _, F_ltaken := F_ltaken, b_ltaken := b_ltaken,
    g_ltaken := PySem.W.mg_of X G x_ltaken,
    a_lalike := f_lalike, d_lalike := _, F_lalike := F_lalike, b_lalike := b_lalike,
    g_lalike := PySem.W.mg_of X G x_lalike,
    a_lraised := f_lraised, d_lraised := _, F_lraised := F_lraised, b_lraised := b_lraised,
    g_lraised := PySem.W.mg_of X G x_lraised,
    a_lpair := f_lpair, d_lpair := _, F_lpair := F_lpair, b_lpair := b_lpair,
    g_lpair := PySem.W.mg_of X G x_lpair,
    a_lbegun := f_lbegun, d_lbegun := _, F_lbegun := F_lbegun, b_lbegun := b_lbegun,
    g_lbegun := PySem.W.mg_of X G x_lbegun,
    a_lfirst := f_lfirst, d_lfirst := _, F_lfirst := F_lfirst, b_lfirst := b_lfirst,
    g_lfirst := PySem.W.mg_of X G x_lfirst,
    a_lnext := f_lnext, d_lnext := _, F_lnext := F_lnext, b_lnext := b_lnext,
    g_lnext := PySem.W.mg_of X G x_lnext,
    a_ltorn := f_ltorn, d_ltorn := _, F_ltorn := F_ltorn, b_ltorn := b_ltorn,
    g_ltorn := PySem.W.mg_of X G x_ltorn,
    a_lchanged := f_lchanged, d_lchanged := _, F_lchanged := F_lchanged, b_lchanged := b_lchanged,
    g_lchanged := PySem.W.mg_of X G x_lchanged,
    a_law := _, d_law := _, F_law := F_law, b_law := b_law,
    g_law := PySem.W.mg_of X G x_law,
    cl := ⟨pgC, hdC, poC, saC⟩, nD := nD, nS := nS, mkR := ⟨mkC, x_rinit, i_rinit, kC⟩, gC := PySem.W.mg_of X G aC,
    p_rdays := pp_rdays, q_rdays := ⟨pa_rdays, pg_rdays, pt_rdays, ⟨_, pr_rdays⟩⟩,
    p_rstarts := pp_rstarts, q_rstarts := ⟨pa_rstarts, pg_rstarts, pt_rstarts, ⟨_, pr_rstarts⟩⟩,
    p_rbooks := pp_rbooks, q_rbooks := ⟨pa_rbooks, pg_rbooks, pt_rbooks, ⟨_, pr_rbooks⟩⟩,
    p_rpace := pp_rpace, q_rpace := ⟨pa_rpace, pg_rpace, pt_rpace, ⟨_, pr_rpace⟩⟩,
    lenC := x_rlen, lenF := i_rlen, callC := ⟨x_rcall, i_rcall, j_rcall⟩,
    c_LATEST := ⟨_, PySem.W.mg_of X G v_LATEST⟩,
    c_MOST_ENTRIES := ⟨_, PySem.W.mg_of X G v_MOST_ENTRIES⟩,
    c_FEWEST_READERS := ⟨_, PySem.W.mg_of X G v_FEWEST_READERS⟩,
    c_MOST_READERS := ⟨_, PySem.W.mg_of X G v_MOST_READERS⟩,
    c_MOST_DAYS := ⟨_, PySem.W.mg_of X G v_MOST_DAYS⟩,
    c_MOST_BOOKS := ⟨_, PySem.W.mg_of X G v_MOST_BOOKS⟩,
    z_len := PySem.W.mg_none_of X G z_len,
    z_sum := PySem.W.mg_none_of X G z_sum,
    z_max := PySem.W.mg_none_of X G z_max,
    z_min := PySem.W.mg_none_of X G z_min,
    z_range := PySem.W.mg_none_of X G z_range,
    z_int := PySem.W.mg_none_of X G z_int,
    z_bool := PySem.W.mg_none_of X G z_bool,
    z_isinstance := PySem.W.mg_none_of X G z_isinstance,
    z_tuple := PySem.W.mg_none_of X G z_tuple,
    z_enumerate := PySem.W.mg_none_of X G z_enumerate,
    z_list := PySem.W.mg_none_of X G z_list,
    z_str := PySem.W.mg_none_of X G z_str,
    z_sorted := PySem.W.mg_none_of X G z_sorted,
    z_zip := PySem.W.mg_none_of X G z_zip,
    z_all := PySem.W.mg_none_of X G z_all }
     { k0 := e0, k1 := e1, k2 := e2, k3 := e3, k4 := e4, k5 := e5, k6 := e6, k7 := e7, k8 := e8, k9 := e9, k10 := e10, cE := eE, g0 := PySem.W.mg_of X G x_e0, g1 := PySem.W.mg_of X G x_e1, g2 := PySem.W.mg_of X G x_e2, g3 := PySem.W.mg_of X G x_e3, g4 := PySem.W.mg_of X G x_e4, g5 := PySem.W.mg_of X G x_e5, g6 := PySem.W.mg_of X G x_e6, g7 := PySem.W.mg_of X G x_e7, g8 := PySem.W.mg_of X G x_e8, g9 := PySem.W.mg_of X G x_e9, g10 := PySem.W.mg_of X G x_e10, gE := PySem.W.mg_of X G x_eE, zV := PySem.W.mg_none_of X G z_VE, zI := PySem.W.mg_none_of X G z_isinstance }
     ⟨⟨xr1, xr2⟩, xr3, xn5, ⟨xg5, xk5, xs5, xd5⟩, ⟨xs5, xt5⟩, ⟨xg5, xk5, xs5, xd5, xa5, xc_n, xc_t, xm5⟩, xx5, xq5_0, xq5_1, xq5_2, xq5_3, xq5_4, xq5_5, xq5_6, xq5_7, xq5_8, xq5_9, xq5_10, xv5⟩
     xst
     ⟨by decide, by decide, ⟨xg6, xk6, xs6, xd6, xa6, xc_n, xc_t, xm6⟩, xx6, xq6_0, xq6_1, xq6_2, xq6_3, xq6_4, xq6_5, xq6_6, xq6_7, xq6_8, xq6_9, xq6_10, xv6⟩
     ⟨PySem.W.mg_of X G x_e6, xi6, xs6, xt6, xp6⟩
     (hTB _ (List.mem_singleton.mpr rfl))
     ⟨⟨_, _, _, _, _, _, _, _, rfl, l_law, c_law⟩⟩

end Rp
open PySem PySem.W PyProof.Rows
set_option maxRecDepth 100000 in
set_option maxHeartbeats 0 in
theorem PySem.Challenge.cw_readingring_k43_diaries_holds : PySem.Challenge.rw_readingring_k43_diaries.Holds := by
  w_on; o_law; k_head; (case hw => w_witness2)
  k_fill
  refine LamX.walk_ofOwn (l := PySem.Challenge.rw_readingring_k43_diaries) (n := 63) (k := 14) (x := "_law_script") (CX := fun _ => L2.CX0) rfl (by decide) rfl ⟨rfl, by decide, by decide⟩ (by decide +kernel) (fun w h Y => PySem.W.km_in_of Y) ?F (fun _ _ _ _ _ h => h)
  case F =>
    intro w mg fa h Y KX G hmg own
    refine' Rp.all_mk KX G hmg ?aC ?xc_iDiaryError ?x_iDiaryError ?xt_iDiaryError ?xo_iDiaryError ?l_iDiaryError ?c_iDiaryError ?k_iDiaryError ?x_is_number ?l_is_number ?c_is_number ?k_is_number ?x_lies_between ?l_lies_between ?c_lies_between ?k_lies_between ?x_check_number ?l_check_number ?c_check_number ?k_check_number ?x_check_reader ?l_check_reader ?c_check_reader ?k_check_reader ?x_rinit ?i_rinit ?l_rinit ?c_rinit ?k_rinit ?pa_rdays ?pg_rdays ?pt_rdays ?pr_rdays ?l_rdays ?c_rdays ?k_rdays ?pa_rstarts ?pg_rstarts ?pt_rstarts ?pr_rstarts ?l_rstarts ?c_rstarts ?k_rstarts ?pa_rbooks ?pg_rbooks ?pt_rbooks ?pr_rbooks ?l_rbooks ?c_rbooks ?k_rbooks ?pa_rpace ?pg_rpace ?pt_rpace ?pr_rpace ?l_rpace ?c_rpace ?k_rpace ?x_rlen ?i_rlen ?l_rlen ?c_rlen ?k_rlen ?x_rcall ?i_rcall ?j_rcall ?l_rcall ?c_rcall ?k_rcall ?x_check_part ?l_check_part ?c_check_part ?k_check_part ?x_end_day ?l_end_day ?c_end_day ?k_end_day ?x_book_of ?l_book_of ?c_book_of ?k_book_of ?x_reader_before ?l_reader_before ?c_reader_before ?k_reader_before ?x_diary_of ?l_diary_of ?c_diary_of ?k_diary_of ?x_mended ?l_mended ?c_mended ?k_mended ?x_can_be ?l_can_be ?c_can_be ?k_can_be ?x_is_same_number ?l_is_same_number ?c_is_same_number ?k_is_same_number ?x_ltaken ?l_ltaken ?c_ltaken ?k_ltaken ?x_lalike ?l_lalike ?c_lalike ?k_lalike ?x_lraised ?l_lraised ?c_lraised ?k_lraised ?x_lpair ?l_lpair ?c_lpair ?k_lpair ?x_lbegun ?l_lbegun ?c_lbegun ?k_lbegun ?x_lfirst ?l_lfirst ?c_lfirst ?k_lfirst ?x_lnext ?l_lnext ?c_lnext ?k_lnext ?x_ltorn ?l_ltorn ?c_ltorn ?k_ltorn ?x_lchanged ?l_lchanged ?c_lchanged ?k_lchanged ?x_law ?l_law ?c_law ?k_law ?pgC ?hdC ?poC ?saC ?mkC ?kC ?nD ?nS ?v_LATEST ?v_MOST_ENTRIES ?v_FEWEST_READERS ?v_MOST_READERS ?v_MOST_DAYS ?v_MOST_BOOKS ?z_len ?z_sum ?z_max ?z_min ?z_range ?z_int ?z_bool ?z_isinstance ?z_tuple ?z_enumerate ?z_list ?z_str ?z_sorted ?z_zip ?z_all own ?tb_c ?tb_l ?tb_p ?tb_h ?tb_n ?x_e0 ?x_e1 ?x_e2 ?x_e3 ?x_e4 ?x_e5 ?x_e6 ?x_e7 ?x_e8 ?x_e9 ?x_e10 ?x_eE ?z_VE ?xc_n ?xc_t ?xg6 ?xk6 ?xs6 ?xd6 ?xa6 ?xm6 ?xx6 ?xq6_0 ?xq6_1 ?xq6_2 ?xq6_3 ?xq6_4 ?xq6_5 ?xq6_6 ?xq6_7 ?xq6_8 ?xq6_9 ?xq6_10 ?xv6 ?xi6 ?xt6 ?xp6 ?xg5 ?xk5 ?xs5 ?xd5 ?xa5 ?xm5 ?xx5 ?xq5_0 ?xq5_1 ?xq5_2 ?xq5_3 ?xq5_4 ?xq5_5 ?xq5_6 ?xq5_7 ?xq5_8 ?xq5_9 ?xq5_10 ?xv5 ?xt5 ?xn5 ?xr1 ?xr2 ?xr3 ?xst
    (case aC => k_is); (case xc_iDiaryError => k_is); (case x_iDiaryError => k_is); (case xt_iDiaryError => k_is); (case xo_iDiaryError => first | exact rfl | decide +kernel); (case l_iDiaryError => k_is); (case c_iDiaryError => k_is); (case k_iDiaryError => k_is)
    (case x_is_number => k_is); (case l_is_number => k_is); (case c_is_number => k_is); (case k_is_number => k_is); (case x_lies_between => k_is); (case l_lies_between => k_is); (case c_lies_between => k_is); (case k_lies_between => k_is)
    (case x_check_number => k_is); (case l_check_number => k_is); (case c_check_number => k_is); (case k_check_number => k_is); (case x_check_reader => k_is); (case l_check_reader => k_is); (case c_check_reader => k_is); (case k_check_reader => k_is)
    (case x_rinit => k_is); (case i_rinit => k_is); (case l_rinit => k_is); (case c_rinit => k_is); (case k_rinit => k_is); (case pa_rdays => k_is); (case pg_rdays => k_is); (case pt_rdays => k_is)
    (case pr_rdays => k_is); (case l_rdays => k_is); (case c_rdays => k_is); (case k_rdays => k_is); (case pa_rstarts => k_is); (case pg_rstarts => k_is); (case pt_rstarts => k_is); (case pr_rstarts => k_is)
    (case l_rstarts => k_is); (case c_rstarts => k_is); (case k_rstarts => k_is); (case pa_rbooks => k_is); (case pg_rbooks => k_is); (case pt_rbooks => k_is); (case pr_rbooks => k_is); (case l_rbooks => k_is)
    (case c_rbooks => k_is); (case k_rbooks => k_is); (case pa_rpace => k_is); (case pg_rpace => k_is); (case pt_rpace => k_is); (case pr_rpace => k_is); (case l_rpace => k_is); (case c_rpace => k_is)
    (case k_rpace => k_is); (case x_rlen => k_is); (case i_rlen => k_is); (case l_rlen => k_is); (case c_rlen => k_is); (case k_rlen => k_is); (case x_rcall => k_is); (case i_rcall => k_is)
    (case j_rcall => k_is); (case l_rcall => k_is); (case c_rcall => k_is); (case k_rcall => k_is); (case x_check_part => k_is); (case l_check_part => k_is); (case c_check_part => k_is); (case k_check_part => k_is)
    (case x_end_day => k_is); (case l_end_day => k_is); (case c_end_day => k_is); (case k_end_day => k_is); (case x_book_of => k_is); (case l_book_of => k_is); (case c_book_of => k_is); (case k_book_of => k_is)
    (case x_reader_before => k_is); (case l_reader_before => k_is); (case c_reader_before => k_is); (case k_reader_before => k_is); (case x_diary_of => k_is); (case l_diary_of => k_is); (case c_diary_of => k_is); (case k_diary_of => k_is)
    (case x_mended => k_is); (case l_mended => k_is); (case c_mended => k_is); (case k_mended => k_is); (case x_can_be => k_is); (case l_can_be => k_is); (case c_can_be => k_is); (case k_can_be => k_is)
    (case x_is_same_number => k_is); (case l_is_same_number => k_is); (case c_is_same_number => k_is); (case k_is_same_number => k_is); (case x_ltaken => k_is); (case l_ltaken => k_is); (case c_ltaken => k_is); (case k_ltaken => k_is)
    (case x_lalike => k_is); (case l_lalike => k_is); (case c_lalike => k_is); (case k_lalike => k_is); (case x_lraised => k_is); (case l_lraised => k_is); (case c_lraised => k_is); (case k_lraised => k_is)
    (case x_lpair => k_is); (case l_lpair => k_is); (case c_lpair => k_is); (case k_lpair => k_is); (case x_lbegun => k_is); (case l_lbegun => k_is); (case c_lbegun => k_is); (case k_lbegun => k_is)
    (case x_lfirst => k_is); (case l_lfirst => k_is); (case c_lfirst => k_is); (case k_lfirst => k_is); (case x_lnext => k_is); (case l_lnext => k_is); (case c_lnext => k_is); (case k_lnext => k_is)
    (case x_ltorn => k_is); (case l_ltorn => k_is); (case c_ltorn => k_is); (case k_ltorn => k_is); (case x_lchanged => k_is); (case l_lchanged => k_is); (case c_lchanged => k_is); (case k_lchanged => k_is)
    (case x_law => k_is); (case l_law => k_is); (case c_law => k_is); (case k_law => k_is); (case pgC => k_is); (case hdC => k_is); (case poC => k_is); (case saC => k_is)
    (case mkC => k_is); (case kC => k_is); (case nD => k_is); (case nS => k_is); (case v_LATEST => k_is); (case v_MOST_ENTRIES => k_is); (case v_FEWEST_READERS => k_is); (case v_MOST_READERS => k_is)
    (case v_MOST_DAYS => k_is); (case v_MOST_BOOKS => k_is); (case z_len => k_is); (case z_sum => k_is); (case z_max => k_is); (case z_min => k_is); (case z_range => k_is); (case z_int => k_is)
    (case z_bool => k_is); (case z_isinstance => k_is); (case z_tuple => k_is); (case z_enumerate => k_is); (case z_list => k_is); (case z_str => k_is); (case z_sorted => k_is); (case z_zip => k_is)
    (case z_all => k_is)
    (case tb_c => first | exact rfl | k_is | k_exc | decide +kernel)
    (case tb_l => first | exact rfl | k_is | k_exc | decide +kernel)
    (case tb_p => first | exact rfl | k_is | k_exc | decide +kernel)
    (case tb_h => first | exact rfl | k_is | k_exc | decide +kernel)
    (case tb_n => first | exact rfl | k_is | k_exc | decide +kernel)
    (case x_e0 => first | exact rfl | k_is | k_exc | decide +kernel)
    (case x_e1 => first | exact rfl | k_is | k_exc | decide +kernel)
    (case x_e2 => first | exact rfl | k_is | k_exc | decide +kernel)
    (case x_e3 => first | exact rfl | k_is | k_exc | decide +kernel)
    (case x_e4 => first | exact rfl | k_is | k_exc | decide +kernel)
    (case x_e5 => first | exact rfl | k_is | k_exc | decide +kernel)
    (case x_e6 => first | exact rfl | k_is | k_exc | decide +kernel)
    (case x_e7 => first | exact rfl | k_is | k_exc | decide +kernel)
    (case x_e8 => first | exact rfl | k_is | k_exc | decide +kernel)
    (case x_e9 => first | exact rfl | k_is | k_exc | decide +kernel)
    (case x_e10 => first | exact rfl | k_is | k_exc | decide +kernel)
    (case x_eE => first | exact rfl | k_is | k_exc | decide +kernel)
    (case z_VE => first | exact rfl | k_is | k_exc | decide +kernel)
    (case xc_n => first | exact rfl | k_is | k_exc | decide +kernel)
    (case xc_t => first | exact rfl | k_is | k_exc | decide +kernel)
    (case xg6 => first | exact rfl | k_is | k_exc | decide +kernel)
    (case xk6 => first | exact rfl | k_is | k_exc | decide +kernel)
    (case xs6 => first | exact rfl | k_is | k_exc | decide +kernel)
    (case xd6 => first | exact rfl | k_is | k_exc | decide +kernel)
    (case xa6 => first | exact rfl | k_is | k_exc | decide +kernel)
    (case xm6 => first | exact rfl | k_is | k_exc | decide +kernel)
    (case xx6 => first | exact rfl | k_is | k_exc | decide +kernel)
    (case xq6_0 => first | exact rfl | k_is | k_exc | decide +kernel)
    (case xq6_1 => first | exact rfl | k_is | k_exc | decide +kernel)
    (case xq6_2 => first | exact rfl | k_is | k_exc | decide +kernel)
    (case xq6_3 => first | exact rfl | k_is | k_exc | decide +kernel)
    (case xq6_4 => first | exact rfl | k_is | k_exc | decide +kernel)
    (case xq6_5 => first | exact rfl | k_is | k_exc | decide +kernel)
    (case xq6_6 => first | exact rfl | k_is | k_exc | decide +kernel)
    (case xq6_7 => first | exact rfl | k_is | k_exc | decide +kernel)
    (case xq6_8 => first | exact rfl | k_is | k_exc | decide +kernel)
    (case xq6_9 => first | exact rfl | k_is | k_exc | decide +kernel)
    (case xq6_10 => first | exact rfl | k_is | k_exc | decide +kernel)
    (case xv6 => first | exact rfl | k_is | k_exc | decide +kernel)
    (case xi6 => first | exact rfl | k_is | k_exc | decide +kernel)
    (case xt6 => first | exact rfl | k_is | k_exc | decide +kernel)
    (case xp6 => first | exact rfl | k_is | k_exc | decide +kernel)
    (case xg5 => first | exact rfl | k_is | k_exc | decide +kernel)
    (case xk5 => first | exact rfl | k_is | k_exc | decide +kernel)
    (case xs5 => first | exact rfl | k_is | k_exc | decide +kernel)
    (case xd5 => first | exact rfl | k_is | k_exc | decide +kernel)
    (case xa5 => first | exact rfl | k_is | k_exc | decide +kernel)
    (case xm5 => first | exact rfl | k_is | k_exc | decide +kernel)
    (case xx5 => first | exact rfl | k_is | k_exc | decide +kernel)
    (case xq5_0 => first | exact rfl | k_is | k_exc | decide +kernel)
    (case xq5_1 => first | exact rfl | k_is | k_exc | decide +kernel)
    (case xq5_2 => first | exact rfl | k_is | k_exc | decide +kernel)
    (case xq5_3 => first | exact rfl | k_is | k_exc | decide +kernel)
    (case xq5_4 => first | exact rfl | k_is | k_exc | decide +kernel)
    (case xq5_5 => first | exact rfl | k_is | k_exc | decide +kernel)
    (case xq5_6 => first | exact rfl | k_is | k_exc | decide +kernel)
    (case xq5_7 => first | exact rfl | k_is | k_exc | decide +kernel)
    (case xq5_8 => first | exact rfl | k_is | k_exc | decide +kernel)
    (case xq5_9 => first | exact rfl | k_is | k_exc | decide +kernel)
    (case xq5_10 => first | exact rfl | k_is | k_exc | decide +kernel)
    (case xv5 => first | exact rfl | k_is | k_exc | decide +kernel)
    (case xt5 => first | exact rfl | k_is | k_exc | decide +kernel)
    (case xn5 => first | exact rfl | k_is | k_exc | decide +kernel)
    (case xr1 => first | exact rfl | k_is | k_exc | decide +kernel)
    (case xr2 => first | exact rfl | k_is | k_exc | decide +kernel)
    (case xr3 => first | exact rfl | k_is | k_exc | decide +kernel)
    (case xst => first | exact rfl | k_is | k_exc | decide +kernel)
