import PyProof.Rows.All
import Wide.All
import OpenK.AllK
import Wide.FinOn
import HandS.GenList
import HandS.ExcInit
import HandS.ClsMeth
import HandS.FStr
import PyProof.EqAt
import PyProof.EqKinds
import PyProof.TupleCall
import HandS.ForMost
import HandS.Walk
import HandS.Property
import HandS.Star
import HandS.IsInst
import HandS.Gcd
import HandS.Flow
import KE.KTupSum
import KE.GoesEnum
import HandS.Strs
import HandS.Conv
import HandS.Sort
import HandS.TupAny
import KE.KEqDeep
import HandS.Style
import HandS.NoneIn
import HandS.CallLocal
import HandS.More
import KE.KUnpackStar
import HandS.WordsExc
import KE.KOpsOwn
import HandS.OwnEq
import OpenK.KMeth
import HandS.Nested
import HandS.Lambda
import KE.KDflt
import HandS.EndOwn
import HandS.ExcIs
import KE.KExcIs
import HandS.ExcField
import HandS.List
import HandS.SetFor
import HandS.Words
import HandS.ExcCtx
import PyProof.Rows.RegStrFacts
import HandS.Zip
import HandS.HeadHook3
import PySem.Challenge.RW_readingring_k51_whole_diaries
set_option Elab.async false
set_option linter.all false
set_option maxRecDepth 100000
set_option maxHeartbeats 8000000
/-! Rgf: `for` in a generator's body. -/
namespace Rz
open PySem PySem.Spec PyProof.Rows L2

section
variable {M : Model} {A : Around} {R : GenEnd} {Y : Protocol} {n : Nat} {s₀ s : Shared} {c : Code} {fs : List Frame} {env : Env} {K : Flow → Sem PySem.Fin} {J : Value → Sem PySem.Fin} {gd : Bool → Bool} {lv : List Value → List Value}
theorem seg_For {target iter : Expr} {body orelse : List Stmt} {pos : Pos}
    (h : wpAny M (A.over c fs) (eval iter env) (fun x s1 => wpAny M (A.over c fs) (pyIter x) (fun it s2 => ∀ p, Seg M A R Y n s₀ (.forLoop target it body orelse env) (M.den (.forLoop target it body orelse env))
      (.ret (fun r => ((match r with | .ok f => (.pure f : Sem Flow) | .error e => .raise e).onRaise fun (x : Value) => do
        if (← field x 1) == Value.none then unsupported "frame.own-activation:exception-without-traceback"
        setFlight x env.frame).wrap K J gd lv) none (gd false) (lv []) c p [] :: fs) s2) (fun x s' => Seg M A R Y n s₀ c (J x) fs s') s1) (fun x s' => Seg M A R Y n s₀ c (J x) fs s') s)
    (hs : ∀ x, foldedSetIterable iter env x = pure x := by intro _; rfl) : Seg M A R Y n s₀ c ((exec (.For target iter body orelse pos) env).wrap K J gd lv) fs s := by
  rw [exec_For]
  refine seg_bind_wrap (wpAny_standAt ?_)
  refine seg_bind_wrap (wpAny_mono h (fun x s1 h1 => ?_) fun _ _ z => z)
  refine seg_bind_wrap (wpAny_of_eq (hs x) ?_)
  refine seg_bind_wrap (wpAny_standAt ?_)
  refine seg_bind_wrap (wpAny_holding (wpAny_mono h1 (fun it s2 h2 => ?_) fun _ _ z => z))
  exact seg_call h2
end

section
variable {prog : Program} {w : World} {A : Around} {R : GenEnd} {Y : Protocol} {n : Nat} {s₀ s : Shared} {fs : List Frame} {env : Env}
theorem seg_forLoop {target : Expr} {it : Value} {body orelse : List Stmt} {EE : Value → Shared → Prop}
    (hE : ∀ x s', EE x s' → Seg (model prog w) A R Y n s₀ (.forLoop target it body orelse env) ((do noteFrame x env; theTreesLotGoes x : Sem Unit).wrap (fun _ => .raise x) .raise id id) fs s')
    (h : wpAny (model prog w) (A.over (.forLoop target it body orelse env) fs) (pyNext it) (fun r s1 => match r with
      | none => Seg (model prog w) A R Y n s₀ (.forLoop target it body orelse env) (.pure (.again (.block orelse env))) fs s1
      | some v => wpAny (model prog w) (A.over (.forLoop target it body orelse env) fs) (letOwnedTupleGo target it v) (fun _ s2 => wpAny (model prog w) (A.over (.forLoop target it body orelse env) fs) (assign target env v) (fun _ s3 =>
          Seg (model prog w) A R Y n s₀ (.forLoop target it body orelse env) ((execs body env).wrap (fun f => match f with
            | .next | .cont => .pure (.again (.forLoop target it body orelse env))
            | .brk => .pure (.done .next)
            | .ret v => .pure (.done (.ret v))) (fun e => (do noteFrame e env; theTreesLotGoes e : Sem Unit).wrap (fun _ => .raise e) .raise id id) id id) fs s3) EE s2) EE s1) EE s) :
    Seg (model prog w) A R Y n s₀ (.forLoop target it body orelse env) ((model prog w).den (.forLoop target it body orelse env)) fs s := by
  have hE' : ∀ x s', EE x s' → Seg (model prog w) A R Y n s₀ (.forLoop target it body orelse env) ((do noteFrame x env; theTreesLotGoes x : Sem Unit).bind fun _ => .raise x) fs s' := fun x s' hx => by
    rw [Sem.bind_eq_wrap]; exact hE x s' hx
  show Seg _ A R Y n s₀ _ ((forTurn target it body orelse env).onRaise (fun x => do noteFrame x env; theTreesLotGoes x)) fs s
  unfold forTurn
  rw [Sem.onRaise_eq_wrap]
  refine seg_bind_wrap (wpAny_standAt ?_)
  refine seg_bind_wrap (wpAny_onRaise (wpAny_mono h (fun r s1 h1 => ?_) fun x s' hx => wpAny_standAt (hE' x s' hx)))
  cases r with
  | none => exact h1
  | some v =>
    refine seg_bind_wrap (wpAny_mono h1 (fun _ s2 h2 => ?_) hE')
    refine seg_bind_wrap (wpAny_mono h2 (fun _ s3 h3 => ?_) hE')
    rw [Sem.bind_eq_wrap', Sem.wrap_wrap]
    rw [Sem.wrap_congr (execs body env) _ _ (K' := fun f => match f with
          | .next | .cont => .pure (.again (.forLoop target it body orelse env))
          | .brk => .pure (.done .next)
          | .ret v => .pure (.done (.ret v))) (H' := (fun e => (do noteFrame e env; theTreesLotGoes e : Sem Unit).wrap (fun _ => .raise e) .raise id id))
      (fun f => by cases f <;> rfl)
      (fun e => by first | exact Sem.bind_eq_wrap _ _ | (show (do noteFrame e env; theTreesLotGoes e : Sem Unit).bind (fun _ => .raise e) = _; rw [Sem.bind_eq_wrap]))]
    exact h3
theorem seg_block_nil {c : Code} (h : Seg (model prog w) A R Y n s₀ (.block [] env) (.pure (.done .next)) fs s) : Seg (model prog w) A R Y n s₀ c (.pure (.again (.block [] env))) fs s :=
  seg_again rfl h
end

section
variable {X : Cx}
def tGFor (wi : TI) (g : TG) (tb : TGn) : TGn := fun D ys σ H => wi σ H fun J H1 => ∃ W : Nat → Nat → List V → L2.St → Hp → Prop, (∃ m, W 0 m ys σ H1) ∧ ∀ i m ys σ H, W i m ys σ H →
  (J.stop i H ∧ D.nx ys σ H) ∨ (J.go i H ∧ ∃ N : List V → L2.St → Hp → Prop, (∀ ys' σ' H', N ys' σ' H' → ∃ m', m' < m ∧ W (i + 1) m' ys' σ' H') ∧ ∀ x H', J.yld i H x H' → g x σ H' fun σ2 H2 => tb { D with nx := N, ct := N, bk := D.nx } ys σ2 H2)
theorem gs_for {tg iter : Expr} {body : List Stmt} {wi : TI} {g : TG} {tb : TGn} {pos : Pos} (hp : PassesOwn (model X.prog X.w) X.A X.env X.xe) (hc : X.calm = true) (hi : PI X tg iter wi) (hg : PG X tg g) (hb : GSs X body tb)
    (hs : ∀ x, foldedSetIterable iter X.env x = pure x := by intro _; rfl) : GS X (.For tg iter body [] pos) (tGFor wi g tb) := by
  refine ⟨fun A S ip R n ys s₀ c fs K J gd lv s σ H D g0 hn k hI ht => ?_⟩
  obtain ⟨acc, cc, r, I⟩ := hI
  refine seg_For ?_ hs
  rw [g0.over]
  refine wpAny_mono (hi.run _ s σ H _ I ht) (fun v s1 h1 => wpAny_mono h1 (fun itv s2 h2 p => ?_) fun x s' hx => k.exc n s₀ x s' hx) fun x s' hx => k.exc n s₀ x s' hx
  obtain ⟨it, fp, tn, Jt, H2, e, I2, T, st2, f2, W, ⟨m0, w0⟩, turn⟩ := h2
  subst e
  have fpS : ∀ b ∈ fp, b ≠ S := fun b hb z => (f2 b hb).2.2.2.2.2 (S, lstObj acc cc) (List.mem_append_right _ List.mem_cons_self) z.symm
  have stat : ∀ {H' : Hp} (acc' : Array Value) (c' : Nat), (∀ b ∈ fp, H' b = none) → ∀ b ∈ fp, FpOk X ((S, lstObj acc' c') :: ip) H' b := fun {H'} acc' c' hnn b hb => by
    obtain ⟨_, q1, q2, q3, q4, q5⟩ := f2 b hb
    refine ⟨hnn b hb, q1, q2, q3, q4, fun p hp => ?_⟩
    rcases List.mem_append.mp hp with z | z
    · exact q5 p (List.mem_append_left _ z)
    · rcases List.mem_cons.mp z with z | z
      · rw [z]; exact Ne.symm (fpS b hb)
      · exact q5 p (List.mem_append_right _ (List.mem_cons_of_mem _ z))
  have gl := fun (kk : Result → Sem PySem.Fin) => gc_loop (k := kk) (c' := .forLoop tg (.ref it) body [] X.env) (l := lv []) (kp := []) (p := p) g0 rfl rfl
  have loop : ∀ (m i n : Nat) (ys : List V) (s₀ s : Shared) (σ : L2.St) (H : Hp), n + ys.length = sizeLine → W i m ys σ H → GI X S ip ys σ H s → tn i s.heap → (∀ b ∈ fp, H b = none) →
      Seg (model X.prog X.w) A R (GY X S) n s₀ (.forLoop tg (.ref it) body [] X.env) ((model X.prog X.w).den (.forLoop tg (.ref it) body [] X.env))
        (.ret (fun r => ((match r with | .ok f => (.pure f : Sem Flow) | .error e => .raise e).onRaise (cameBack X.env)).wrap K J gd lv) none (gd false) (lv []) c p [] :: fs) s := by
    intro m
    induction m using Nat.strongRecOn with
    | ind m ih =>
      intro i n ys s₀ s σ H hn w hI st fr
      have ee : ∀ (n : Nat) (s₀ : Shared) (x : Value) (s' : Shared), X.xe x s' → Seg (model X.prog X.w) A R (GY X S) n s₀ (.forLoop tg (.ref it) body [] X.env)
          ((do noteFrame x X.env; theTreesLotGoes x : Sem Unit).wrap (fun _ => .raise x) .raise id id)
          (.ret (fun r => ((match r with | .ok f => (.pure f : Sem Flow) | .error e => .raise e).onRaise (cameBack X.env)).wrap K J gd lv) none (gd false) (lv []) c p [] :: fs) s' := fun n s₀ x s' hx => by
        refine seg_wrap ?_
        rw [(gl _).over]
        refine wpAny_bind (wpAny_mono (hp x s' hx) (fun _ s'' hcb => wpAny_theTreesLotGoes ?_) fun y s'' hcb => ?_)
        · exact seg_leaf (.error x) (seg_cameBack g0 k hcb)
        · exact seg_leaf (.error y) (seg_cameBack g0 k hcb)
      obtain ⟨acc, cc, r, I⟩ := hI
      refine seg_forLoop (EE := X.xe) (ee n s₀) ?_
      rw [(gl _).over]
      rcases turn i m ys σ H w with ⟨stop, qn⟩ | ⟨go, N, hN, step⟩
      · refine wpAny_mono (T.done X rfl rfl rfl hc i _ s σ H X.xe I (stat acc cc fr) st stop) (fun r' s4 ⟨hr, I4⟩ => ?_) fun _ _ z => z
        subst hr
        exact seg_block_nil (seg_leaf (.ok .next) (k.ok n ys s₀ s4 .next hn ⟨σ, H, ⟨acc, cc, r, I4⟩, qn⟩))
      · refine wpAny_mono (T.item X rfl rfl rfl hc i _ s σ H X.xe I (stat acc cc fr) st go) (fun r' s4 ⟨u, hr, h4⟩ => ?_) fun _ _ z => z
        subst hr
        refine wpAny_mono h4 (fun _ s5 ⟨x, H5, I5, r5, y5, st5, fr5⟩ => ?_) fun _ _ z => z
        have I5' := I5.pinned (stat acc cc fr5) (T.obj _ _ st5)
        refine wpAny_mono (hg.run _ s5 σ H5 x u _ I5' r5 (step x H5 y5)) (fun _ s6 ⟨σ6, H6, I6, q6⟩ => ?_) fun _ _ z => z
        have out : ∀ {zs : List V} {σ7 : L2.St} {H7 : Hp} {s7 : Shared}, GI X S (ip ++ pinsAt fp s5.heap) zs σ7 H7 s7 → GI X S ip zs σ7 H7 s7 := fun {zs σ7 H7 s7} ⟨a7, c7, r7, I7⟩ => ⟨a7, c7, r7, Inv.unpinned (pins := (S, lstObj a7 c7) :: ip) I7⟩
        have again : ∀ {zs : List V} {σ7 : L2.St} {H7 : Hp} {n' : Nat} {s₀' s7 : Shared}, n' + zs.length = sizeLine → GI X S (ip ++ pinsAt fp s5.heap) zs σ7 H7 s7 → N zs σ7 H7 →
            Seg (model X.prog X.w) A R (GY X S) n' s₀' (.forLoop tg (.ref it) body [] X.env) (.pure (.again (.forLoop tg (.ref it) body [] X.env)))
              (.ret (fun r => ((match r with | .ok f => (.pure f : Sem Flow) | .error e => .raise e).onRaise (cameBack X.env)).wrap K J gd lv) none (gd false) (lv []) c p [] :: fs) s7 := fun {zs σ7 H7 n' s₀' s7} hn' I7 n7 => by
          obtain ⟨m', hm, w7⟩ := hN zs σ7 H7 n7
          have pin7 : ∀ b ∈ fp, ∀ o, s5.heap.get? b = some o → s7.heap.get? b = some o ∧ H7 b = none := fun b hb o e => by
            obtain ⟨a7, c7, r7, I7⟩ := I7
            have q := I7.pin (b, o) (List.mem_append_right _ (List.mem_cons_of_mem _ (List.mem_append_right _ (mem_pinsAt hb e))))
            exact ⟨q.1, q.2.1⟩
          refine seg_again rfl (ih m' hm (i + 1) n' zs s₀' s7 σ7 H7 hn' w7 (out I7) (T.keep _ _ _ st5 fun b hb o e => (pin7 b hb o e).1) fun b hb => ?_)
          obtain ⟨o, e, _⟩ := T.obj _ _ st5 b hb
          exact (pin7 b hb o e).2
        refine hb.run A S (ip ++ pinsAt fp s5.heap) R n ys s₀ _ _ _ _ id id s6 σ6 H6 { D with nx := N, ct := N, bk := D.nx } ⟨g0.pn, fun p hp => ?_, g0.apart, (gl _).over, (gl _).split, (gl _).guard, rfl⟩ hn ⟨fun n' ys' s₀' s3 f hn' hs => ?_, fun n' s₀' x s3 hx => ee n' s₀' x s3 hx⟩ ⟨acc, cc, r, I6⟩ q6
        · rcases List.mem_append.mp hp with z | z
          · exact g0.ip p z
          · exact fpS p.1 (of_pinsAt z).1
        cases f with
        | next =>
          obtain ⟨σ3, H3, I3, n3⟩ := hs
          exact again hn' I3 n3
        | cont =>
          obtain ⟨σ3, H3, I3, n3⟩ := hs
          exact again hn' I3 n3
        | brk =>
          obtain ⟨σ3, H3, I3, n3⟩ := hs
          exact seg_leaf (.ok .next) (k.ok n' ys' s₀' s3 .next hn' ⟨σ3, H3, out I3, n3⟩)
        | ret v =>
          obtain ⟨v3, σ3, H3, I3, r3, n3⟩ := hs
          exact seg_leaf (.ok (.ret v)) (k.ok n' ys' s₀' s3 (.ret v) hn' ⟨v3, σ3, H3, out I3, r3, n3⟩)
  exact loop m0 0 n ys s₀ s2 σ H2 hn w0 ⟨acc, cc, r, I2⟩ st2 fun b hb => (f2 b hb).1
end
end Rz
/-! An own exception class with its own __init__, which calls its own base's. -/
namespace Rp
open PySem PySem.Spec PyProof.Rows L2
/-- the slots that a class over ValueError has -/
def oxS : List (Option Value) → Bool
  | [_, _, _, _, some (.builtin n), _] => n == "ValueError.__new__"
  | _ => false
/-- the record of such a class -/
def oxO (C : Addr) : Obj → Bool
  | ⟨.type t, _, .cls cd, sl⟩ => t == "type" && cd.hasDict && !cd.hasDel && oxS sl.toList && (match cd.mro with
    | .ref c :: r => c == C && PySem.HandSPX.refsVE r
    | _ => false)
  | _ => false
def oxB (K : PySem.W.Frag) (C : Addr) : Bool := (K.lookup C).any (oxO C) && (decide (PySem.W.findIn K (.ref C) "__setattr__" = some (some (.builtin "object.__setattr__"))) && (decide (PySem.W.subIn K (.ref C) (.type "BaseException") = some true) && (decide (PySem.W.typeIn K (.ref C) = some (.type "type")) && PySem.W.keepIn K (.ref C))))
theorem oxB_ok {K : PySem.W.Frag} {C : Addr} (h : oxB K C = true) : OexC K C := by
  unfold oxB at h
  simp only [Bool.and_eq_true, decide_eq_true_eq] at h
  obtain ⟨h0, h1, h2, h3, h4⟩ := h
  refine ⟨?_, h1, h2, h3, h4⟩
  cases e : K.lookup C with
  | none => rw [e] at h0; cases h0
  | some o =>
    rw [e] at h0
    have h0 : oxO C o = true := h0
    unfold oxO at h0
    split at h0
    · rename_i t dd cd sl q0
      simp only [Bool.and_eq_true, beq_iff_eq, Bool.not_eq_true'] at h0
      obtain ⟨⟨⟨⟨rfl, hd⟩, hl⟩, hs⟩, hm⟩ := h0
      unfold oxS at hs
      split at hs
      · rename_i k0 k1 k2 k3 n k5 es
        have hn : n = "ValueError.__new__" := beq_iff_eq.mp hs
        subst hn
        split at hm
        · rename_i c r em
          simp only [Bool.and_eq_true, beq_iff_eq] at hm
          obtain ⟨rfl, hr⟩ := hm
          obtain ⟨nm, bs, mro, ns, qn, hdct, sn, sub, ab, col, del⟩ := cd
          have hd : hdct = true := hd
          have hl : del = false := hl
          have em : mro = _ := em
          subst hd hl em
          have esl : sl = #[k0, k1, k2, k3, some (.builtin "ValueError.__new__"), k5] := by
            obtain ⟨l⟩ := sl
            simp only at es
            rw [es]
          subst esl
          exact ⟨nm, qn, ns, bs, r, sn, sub, ab, col, dd, k0, k1, k2, k3, k5, rfl, hr⟩
        · cases hm
      · cases hs
    · cases h0
section
variable {X : Cx} {e : Expr} {es : List Expr} {ta : TA} {p1 p2 pos : Pos}
/-- Base.__init__(self, ..), Base an own class over ValueError -/
theorem pe_reinit {pl : Sem Bool} {x : Str} {B : Addr} {mc : Value} (hg : Gl X x) (hm : X.mg x = some (.ref B)) (r : ClX.CRead X.K B mc) (vV : PySem.W.findCls X.K (.ref B) mc "__init__" = some (.val (.builtin "ValueError.__init__"))) (ha : PA X (e :: es) ta)
    (hc : eval (.Call (.Attribute (.Name x p1) "__init__" p2) (e :: es) [] pos) X.env = (do
      let ov ← eval (.Name x p1) X.env
      standAt p2.atName
      let (f, first) ← holding [ov] (getMethod ov "__init__" pl)
      callWith pos f first (backTo pos (starEach (e :: es) X.env)) (backToKw pos (keywordEach [] X.env))) := by rfl)
    (hdb : (x == ("__debug__" : Str)) = false := by decide) (he : starEach (e :: es) X.env = (false, eval e X.env) :: starEach es X.env := by rfl) (hpl : (backTo pos (starEach es X.env)).any (·.1) = false := by rfl) :
    PE X (.Call (.Attribute (.Name x p1) "__init__" p2) (e :: es) [] pos) (tVeI X.K ta) := by
  refine ⟨fun pins s σ H Q I h => ?_⟩
  refine PySem.W.methodCall_KW (ld_glob I hg hm ?_ hdb) hc
  refine PySem.W.method_cls I.kIn r.ga (PySem.W.cls_value I.kIn r.rd vV (by decide +kernel) ?_)
  show wpAny _ _ (callWith pos (Value.builtin "ValueError.__init__") [] (backTo pos (starEach (e :: es) X.env)) []) _ _ _
  refine PyProof.Rows.callWith_method1 (thn (ha.run pos pins _ σ H _ (I.tok _) h) fun us s1 ⟨vs, H1, I1, r1, a, C, ws, ev, hl, T, ea, q⟩ => ?_) he hpl
  subst ev
  cases r1 with
  | @cons _ u0 _ ur ra rw' =>
    obtain rfl : u0 = Value.ref a := ra
    exact oinit_ok T I1 ea (by rw [← Paired.length rw', sizeLine_eq]; omega) fun s' J => ⟨.non, H1, J, rfl, q⟩
end
end Rp
/-! Rules beside the layer's: len of an own instance, enumerate over a tuple, sum and max of a tuple. -/
namespace Rz
open PySem PySem.Spec PyProof.Rows L2

section
variable {X : Cx}
/-! ### len(o), o an instance whose class defines it -/
def rLenI (C : Addr) (sp : Sp) (E : XK) : List V → Hp → VK → Prop := fun xs H Q => ∃ a dx fs, xs = [.ref a] ∧ H a = some (.ins C dx fs) ∧
  sp [.ref a] H (fun v H' => ∃ n : Int, v = .int n ∧ 0 ≤ n ∧ n < 2 ^ 63 ∧ Q (.int n) H') E
theorem call_lenI {CX : CXT} {k : Nat} {f C : Addr} {sp : Sp} {E : XK} (hs : PySem.W.findIn X.K (.ref C) "__len__" = some (some (.ref f))) (hf : PySem.W.isFn X.K (.ref f) = true)
    (F : FnR X.prog X.w X.K X.mg X.base CX k f sp) (hr : Room (k + 1) X.A) (hx : Passes CX X E) : CallR X (.builtin "len") (rLenI C sp E) := by
  intro pins s σ H xs us Q I r h
  obtain ⟨a, dx, fs, rfl, ea, q⟩ := h
  rw [Vals.ref1 r]
  obtain ⟨mA, O, _⟩ := ins_get I.hok ea
  obtain ⟨od, J, _⟩ := O.look
  have hc : wpAny (model X.prog X.w) X.A.in1 (call (.ref f) [.ref a]) (EP X pins σ (fun v H' => ∃ n : Int, v = .int n ∧ 0 ≤ n ∧ n < 2 ^ 63 ∧ Q (.int n) H')) X.xe s := by
    refine wpAny_call (codeAny_mono (F X.A.in1 X.stack s H [.ref a] [.ref a] _ E hr.in1 I.env0.in1 (.cons rfl .nil) q) fun r s' hq => ?_)
    cases r with
    | error e => exact hx pins σ H s e s' I hq
    | ok fl =>
      cases fl with
      | ret u => exact I.after hq
      | next => exact False.elim hq
      | brk => exact False.elim hq
      | cont => exact False.elim hq
  refine Calls.call_function_entry kind_len plain_len entry_len (args_len1 _) ?_
  unfold Builtin.«len»
  refine wpAny_bind (m := oneArg "len" _) (wpAny_pure ?_)
  refine wpAny_bind (m := callSpecial? (.ref a) (Str.ofString "__len__")) (PySem.W.special_fn I.kIn J hs (beq_iff_eq.mp hf) (wpAny_mono hc (fun r s' hr => ?_) fun _ _ y => y))
  obtain ⟨v, H', I', rv, n, rfl, h0, h1, hq⟩ := hr
  obtain ⟨t, rfl⟩ := rv
  refine wpAny_bind (wpAny_holding (wpAny_pure ?_))
  refine wpAny_bind (wpAny_letGo ?_)
  show wpAny _ _ (if n < 0 then _ else _) _ _ _
  rw [if_neg (by omega)]
  show wpAny _ _ (if n ≥ 2 ^ 63 then _ else _) _ _ _
  rw [if_neg (by omega)]
  exact wpAny_bind (wpAny_mkInt (wpAny_pure ⟨_, rfl, ⟨.int n, H', I'.tok _, ⟨_, rfl⟩, hq⟩⟩))

/-! ### sum, max of a tuple of ints -/
def rSumT (K : PySem.W.Frag) : List V → Hp → VK → Prop := fun vs H Q => ∃ (a : Addr) (ns : List Int), vs = [V.ref a] ∧ SqT K H a (ns.map V.int) ∧ Q (.int ns.sum) H
def rMaxT (K : PySem.W.Frag) : List V → Hp → VK → Prop := fun vs H Q => ∃ (a : Addr) (ns : List Int), vs = [V.ref a] ∧ SqT K H a (ns.map V.int) ∧ 0 < ns.length ∧
  ∀ m, m ∈ ns → (∀ y, y ∈ ns → y ≤ m) → Q (.int m) H
theorem cr_sumT (hc : X.calm = true) : CallR X (.builtin "sum") (rSumT X.K) := by
  intro pins s σ H vs us Q I r h
  obtain ⟨a, ns, rfl, hs, q⟩ := h
  obtain ⟨its, rv, hl, _⟩ := I.tuple hs
  rw [Vals.ref1 r]
  have hi := rv.ints
  have hl' : s.heap.IsTuple a its.toArray := hl
  obtain ⟨xs, e⟩ := hi.allInts.items
  have hn : numsOf (intItems xs).toList = ns := by rw [← e]; exact hi.numsOf
  rw [nums_intItems] at hn
  rw [e] at hl'
  refine PySem.W.ktm_sumG (I.ok.hd hc) hl' fun h' tk t' hk => ?_
  have J : Inv X pins σ H { s with heap := h', toks := tk } := I.kept hk
  refine ⟨.int ns.sum, H, J, ⟨t', ?_⟩, q⟩
  rw [preSum_eq, List.take_of_length_le (by simp), hn]
theorem max_tup {prog : Program} {w : World} {A : Around} {E : Value → Shared → Prop} {s : Shared} {l : Addr} {xs : Array (Int × Tok)} {Q : Value → Shared → Prop} (hh : A.handled = none) (ht : s.heap.IsTuple l (intItems xs)) (hne : 0 < xs.size)
    (h : ∀ v h' tk, (intItems xs)[argBest (fun i j => decide (numAt xs i > numAt xs j)) (xs.size - 1)]? = some v → (∀ b o, s.heap.get? b = some o → h'.get? b = some o) → Q v { s with heap := h', toks := tk }) :
    wpAny (model prog w) A (call (.builtin "max") [.ref l]) Q E s := by
  obtain ⟨o, ho, hc, n, hd⟩ := id ht
  have hlt : l < s.heap.objs.size := Heap.lt_size ho
  refine call_max_walk (wpAny_pyIter_tuple ht ?_)
  refine ⟨s.heap.objs.size, _, _, _, _, _, _, rfl, Walks.tuple (A := A.in1) hh _ l (Nat.ne_of_lt hlt) (intItems xs), ⟨⟨_, Heap.get?_push_size _ rfl, rfl, rfl⟩, ht.at fun o e => Heap.get?_push_of_some _ e⟩, fun b hb => ?_, by simpa [intItems] using hne,
    CmpOf.ints_gt (numAt xs) (fun _ _ => intItems_at), fun v h' tk hP hk => ?_⟩
  · rcases List.mem_cons.mp hb with rfl | hb
    · exact Heap.lt_size (Heap.get?_push_size _ rfl)
    · obtain rfl := List.mem_singleton.mp hb
      exact Heap.lt_size (Heap.get?_push_of_some _ ho)
  · refine h v h' tk (by simpa [intItems] using hP) fun b o e => ?_
    refine hk b o (fun hm => ?_) (Heap.get?_push_of_some _ e)
    have := List.mem_singleton.mp hm
    exact absurd (this ▸ Heap.lt_size e) (Nat.lt_irrefl _)
theorem cr_maxT (hc : X.calm = true) : CallR X (.builtin "max") (rMaxT X.K) := by
  intro pins s σ H vs us Q I r h
  obtain ⟨a, ns, rfl, hs, hne, q⟩ := h
  obtain ⟨its, rv, hl, _⟩ := I.tuple hs
  rw [Vals.ref1 r]
  have hi := rv.ints
  have hl' : s.heap.IsTuple a its.toArray := hl
  obtain ⟨xs, e⟩ := hi.allInts.items
  have hn : numsOf (intItems xs).toList = ns := by rw [← e]; exact hi.numsOf
  rw [nums_intItems] at hn
  subst hn
  rw [e] at hl'
  have hsz : 0 < xs.size := by simpa using hne
  refine max_tup (I.ok.hd hc) hl' hsz fun v h' tk hv hk => ?_
  obtain ⟨t, rfl⟩ := intItems_at hv
  obtain ⟨h1, h2⟩ := argBest_gt (numAt xs) (xs.size - 1)
  refine ⟨.int _, H, I.kept hk, ⟨t, rfl⟩, q _ ?_ fun a ha => ?_⟩
  · rw [numAt_eq]; exact PySem.getD_mem (by rw [List.length_map, Array.length_toList]; omega)
  · obtain ⟨j, hj, rfl⟩ := mem_getD ha
    rw [List.length_map, Array.length_toList] at hj
    rw [← numAt_eq]; exact h2 j (by omega)
end

/-! ### enumerate(t), t a tuple -/
theorem meets_enumerate_newT (l : Addr) (items : Array Value) (n : Nat) (dct : Option Addr) (sl : Array (Option Value)) :
    Meets (Builtin.«enumerate.__new__» ⟨[.type "enumerate", .ref l], []⟩) (fun _ R s => s.heap.get? l = some { cls := .type "tuple", dict := dct, data := .seq items n, slots := sl } ∧
      R (.ok (.ret (.ref (s.heap.push { cls := .type "tuple_iterator", data := .fields #[.ref l, .int 0 0] }).objs.size)))
        { s with heap := (s.heap.push { cls := .type "tuple_iterator", data := .fields #[.ref l, .int 0 0] }).push { cls := .type "enumerate", data := .fields #[.none, .bool false, .ref s.heap.objs.size, rawInt 0, .none, .none] } }) :=
  .of_wp fun prog w A R s h => by
    obtain ⟨hp, g, d, tk, os⟩ := s; obtain ⟨hl, h⟩ := h
    have hsub := sub_enumerate
    have hL : Heap.IsTuple (Shared.heap ⟨hp, g, d, tk, os⟩) l items := ⟨_, hl, rfl, n, rfl⟩
    wp_walk using AutoSeq1.wpAny_loadPart' hl
    refine wpAny_stack_any fun st => wpAny_pure ?_
    split
    · rename_i c _ _ _ _ _
      cases (c == Value.type "enumerate")
      · wp_walk using AutoSeq1.wpAny_loadPart' hl, wpAny_pyIter_tuple hL
        exact ⟨_, rfl, h⟩
      · wp_walk using AutoSeq1.wpAny_loadPart' hl, wpAny_pyIter_tuple hL
        exact ⟨_, rfl, h⟩
    · wp_walk using AutoSeq1.wpAny_loadPart' hl, wpAny_pyIter_tuple hL
      exact ⟨_, rfl, h⟩
theorem call_enumerate_tuple {prog : Program} {w : World} {A : Around} {E : Value → Shared → Prop} {s : Shared} {l : Addr} {items : Array Value} {Q : Value → Shared → Prop} (hL : s.heap.IsTuple l items)
    (h : ∀ h', IsEnum h' (s.heap.objs.size + 1) s.heap.objs.size 0 .none → h'.IsTupleIter s.heap.objs.size l 0 → h'.objs.size = s.heap.objs.size + 2 →
      (∀ b o, s.heap.get? b = some o → h'.get? b = some o) → Q (.ref (s.heap.objs.size + 1)) { s with heap := h' }) :
    wpAny (model prog w) A (call (.type "enumerate") [.ref l]) Q E s := by
  obtain ⟨⟨c, dct, dt, sl⟩, hl, hc, n, hd⟩ := hL
  replace hc : c = .type "tuple" := hc
  replace hd : dt = .seq items n := hd
  subst hc hd
  refine callType_new F.called_enumerate (by decide) (F.typeCall_enumerate_1 _) (F.newCall_enumerate_1 _) (fun obj => F.args_object_init_2 obj _) F.entry_enumerate_new
    (meets_enumerate_newT l items n dct sl) ⟨hl, ?_⟩
  have hz : (s.heap.push { cls := .type "tuple_iterator", data := .fields #[.ref l, .int 0 0] }).objs.size = s.heap.objs.size + 1 := Heap.size_push ..
  show _ ∧ _
  rw [hz]
  have he : IsEnum ((s.heap.push { cls := .type "tuple_iterator", data := .fields #[.ref l, .int 0 0] }).push
      { cls := .type "enumerate", data := .fields #[.none, .bool false, .ref s.heap.objs.size, rawInt 0, .none, .none] }) (s.heap.objs.size + 1) s.heap.objs.size 0 .none := by
    have := Heap.get?_push_size (s.heap.push { cls := .type "tuple_iterator", data := .fields #[.ref l, .int 0 0] })
      (o := { cls := .type "enumerate", data := .fields #[.none, .bool false, .ref s.heap.objs.size, rawInt 0, .none, .none] }) rfl
    rw [hz] at this; exact this
  refine ⟨⟨_, he, rfl⟩, h _ he ⟨_, Heap.get?_push_of_some _ (Heap.get?_push_size _ rfl), rfl, rfl⟩ (by rw [Heap.size_push, hz]) fun b o x => Heap.get?_push_of_some _ (Heap.get?_push_of_some _ x)⟩

/-- the tuple at a, each item in a new pair with its number -/
def IteT (K : PySem.W.Frag) (a : Addr) : It :=
  ⟨fun i H => ∃ (xs : List V) (x : V), SqT K H a xs ∧ xs[i]? = some x, fun i H v H' => ∃ T x, v = .ref T ∧ H T = none ∧ H' = upd H T (.tup [.int (i : Nat), x]) ∧ ∀ xs, SqT K H a xs → xs[i]? = some x, fun i H => ∃ xs : List V, SqT K H a xs ∧ xs.length = i⟩
theorem turn_enumT {P : Program} {w : World} {K : PySem.W.Frag} {elts : List Expr} {kk : Nat} {tpos : Pos} (a e it : Addr) :
    Turn P w K (.Tuple elts kk tpos) (IteT K a) [e, it] e (fun i h => (∃ old, IsEnum h e it ((i : Nat) : Int) old) ∧ h.IsTupleIter it a i ∧ e ≠ it ∧ e ≠ a ∧ it ≠ a) where
  mem := by simp
  obj := fun i h st b hb => by
    obtain ⟨⟨old, he⟩, ⟨o, ho, hc, hd⟩, _⟩ := st
    have e' : b = e ∨ b = it := by simpa using hb
    rcases e' with z | z
    · rw [z]; exact ⟨_, he, fun v q => nomatch q⟩
    · rw [z]; exact ⟨o, ho, fun v q => by rw [hd] at q; cases q⟩
  keep := fun i h h' st k => let ⟨⟨old, he⟩, hi, hne⟩ := st; ⟨⟨old, k e (by simp) _ he⟩, hi.at fun o q => k it (by simp) o q, hne⟩
  item := by
    intro X hP hw hK hc i pins s σ H E I hf st hg
    subst hP hw hK
    obtain ⟨⟨old, he⟩, hit, hne, hea, hia⟩ := st
    obtain ⟨xs, x, hq, hx⟩ := hg
    obtain ⟨its, rv, p, hz⟩ := I.tuple hq
    obtain ⟨u, hu, ru⟩ := rv.get hx
    have hel : e < s.heap.objs.size := Heap.lt_size he
    have hil : it < s.heap.objs.size := by obtain ⟨_, q, _⟩ := hit; exact Heap.lt_size q
    have hlt : i < its.toArray.size := by
      have := (List.getElem?_eq_some_iff.mp hu).1
      simpa using this
    refine wpAny_pyNext_enum_itemC (Draws.tuple (prog := X.prog) (w := X.w) (A := X.A.in1) (I.ok.hd hc) it a (Ne.symm hia) its.toArray) he ⟨hit, p⟩ hlt hne (by simp [hne, hea]) fun x' h' tk hPx ho hst' hT hsz hk => ?_
    have ex : x' = u := by
      have h1 : its.toArray[i]? = some u := by simpa using hu
      exact Option.some.inj (hPx.symm.trans h1)
    subst ex
    obtain ⟨hit', _⟩ := hst'
    refine ⟨_, rfl, wpAny_letOwnedTupleGo_enum (s := { s with heap := h', toks := tk + 1 }) ho fun h'' he' sb => ?_⟩
    have hT2 : h''.get? s.heap.objs.size = some { cls := .type "tuple", data := .seq #[.int i tk, x'] } := (sb.2 _ (Nat.ne_of_gt hel)).trans hT
    have new : ObjOk X.prog X.w (upd H s.heap.objs.size (.tup [.int (i : Nat), x])) h'' s.heap.objs.size (.tup [.int (i : Nat), x]) :=
      ⟨by show 2 ≤ sizeLine; decide, [.int i tk, x'], .cons ⟨_, rfl⟩ (.cons ru .nil), ⟨_, hT2, rfl, _, rfl⟩⟩
    have I1 : Inv X pins σ (upd H s.heap.objs.size (.tup [.int (i : Nat), x])) { s with heap := h'', toks := tk + 1 } :=
      I.turnedNew (ch := [e, it]) (fun b ob hb q => (sb.2 b (fun z => hb (by simp [z]))).trans (hk b ob (fun z => hb (by simp [z])) (fun z => hb (by simp [z])) q)) hf (Nat.le_refl _) new
    refine ⟨.ref s.heap.objs.size, _, I1, rfl, ⟨_, x, rfl, I.hok.fresh (Nat.le_refl _), rfl, fun ys hy => by rw [I.tuple_inj hy hq]; exact hx⟩, ⟨⟨x', ?_⟩, hit'.at fun o q => (sb.2 it (Ne.symm hne)).trans q, hne, hea, hia⟩, fun b hb => ?_⟩
    · have e1 : ((i + 1 : Nat) : Int) = (i : Int) + 1 := by omega
      rw [e1]; exact he'
    · have hb' : b < s.heap.objs.size := by
        have e' : b = e ∨ b = it := by simpa using hb
        rcases e' with z | z
        · rw [z]; exact hel
        · rw [z]; exact hil
      rw [upd_ne (Nat.ne_of_lt hb')]
      exact (hf b hb).1
  done := by
    intro X hP hw hK hc i pins s σ H E I hf st hg
    subst hP hw hK
    obtain ⟨⟨old, he⟩, hit, hne, hea, hia⟩ := st
    obtain ⟨xs, hq, hx⟩ := hg
    obtain ⟨its, rv, p, hz⟩ := I.tuple hq
    obtain ⟨f0, f1, f2, f3, f4, f5⟩ := hf it (by simp)
    have hl := rv.length
    have hn : i = its.toArray.size := by simp; omega
    subst hn
    exact wpAny_pyNext_enum_endD (Draws.tuple (prog := X.prog) (w := X.w) (A := X.A.in1) (I.ok.hd hc) it a (Ne.symm hia) its.toArray) he ⟨hit, p⟩ fun h' eb => ⟨rfl, I.turned (t' := s.toks) (fun b o hb q => eb b o hb q) f0 f1 f3 f4 f5⟩
  self := fun A i s Q E st h => let ⟨⟨_, he⟩, _⟩ := st; wpAny_pyIter_enum he h
def iEnumT (K : PySem.W.Frag) (ta : TA) : TI := fun σ H R => ta σ H fun vs H1 => ∃ a xs, vs = [.ref a] ∧ SqT K H1 a xs ∧ R (IteT K a) H1
theorem pi_enumT {X : Cx} {e : Expr} {ta : TA} {p pos tpos : Pos} {elts : List Expr} {kk : Nat} (hg : Gl X "enumerate") (hm : X.mg "enumerate" = none) (ha : PA X [e] ta) (hs : starEach [e] X.env = [(false, eval e X.env)] := by rfl) :
    PI X (.Tuple elts kk tpos) (.Call (.Name "enumerate" p) [e] [] pos) (iEnumT X.K ta) := by
  refine ⟨fun pins s σ H R I h => ?_⟩
  refine Call_ (ld_blt I hg hm boot_enumerate (PyProof.Rows.callWith_type1 (thn (ha.run pos pins s σ H _ I h) fun us s1 ⟨vs, H1, I1, r1, q1⟩ => ?_) hs rfl))
  obtain ⟨a, xs, ex, hq, q⟩ := q1
  subst ex
  cases r1 with
  | cons r rr =>
    cases rr
    cases r
    obtain ⟨its, rv, p', hz⟩ := I1.tuple hq
    have la : a < s1.heap.objs.size := by obtain ⟨_, y, _⟩ := p'; exact Heap.lt_size y
    refine call_enumerate_tuple (show s1.heap.IsTuple a its.toArray from p') fun h' he hit hsz hk => wpAny_pyIter_enum he ?_
    have I2 : Inv X pins σ H1 { s1 with heap := h' } := I1.kept (t' := s1.toks) hk
    refine ⟨s1.heap.objs.size + 1, [s1.heap.objs.size + 1, s1.heap.objs.size], _, _, H1, rfl, I2, turn_enumT a (s1.heap.objs.size + 1) s1.heap.objs.size, ⟨⟨.none, he⟩, hit, Nat.succ_ne_self _, Nat.ne_of_gt (Nat.lt_succ_of_lt la), Nat.ne_of_gt la⟩, fun b hb => ?_, q⟩
    have e' : b = s1.heap.objs.size + 1 ∨ b = s1.heap.objs.size := by simpa using hb
    have hle : s1.heap.objs.size ≤ b := by
      rcases e' with z | z
      · rw [z]; exact Nat.le_add_right _ _
      · rw [z]; exact Nat.le_refl _
    exact I1.fpOk hle (I1.hok.fresh hle)
theorem walk_enumT {K : PySem.W.Frag} {a : Addr} {xs : List V} : Walk (IteT K a) xs.length (fun H => SqT K H a xs) (YPair (fun i => some (.int (i : Nat))) (fun i => xs[i]?)) := by
  refine ⟨fun i _ hi q => ⟨xs, xs[i], q, by simp [hi]⟩, fun _ q => ⟨xs, q, rfl⟩, fun i H v H' _ q y => ?_⟩
  obtain ⟨T, x, h1, h2, h3, h4⟩ := y
  exact ⟨T, .int (i : Nat), x, h1, h2, h3, rfl, h4 xs q⟩
/-! ### f(e, ..), f an instance: a reading that speaks of no context -/
def tCallI (C : Addr) (sp : Sp) (E : XK) (tf : TE) (t : TA) : TE := fun σ H Q => tf σ H fun y H1 => ∃ a, y = V.ref a ∧ t σ H1 fun vs H2 => (∃ dx fs, H2 a = some (.ins C dx fs)) ∧ sp (V.ref a :: vs) H2 Q E
theorem pe_callI {X : Cx} {CX : CXT} {k : Nat} {C g : Addr} {sp : Sp} {E : XK} {fe e : Expr} {es : List Expr} {tf : TE} {t : TA} {pos : Pos} (hf : PE X fe tf) (c : StX.CallO X.K C g) (F : FnR X.prog X.w X.K X.mg X.base CX k g sp) (hr : Room k X.A) (hx : Passes CX X E) (ha : PA X (e :: es) t)
    (ht : eval (.Call fe (e :: es) [] pos) X.env = (do callWith pos (← eval fe X.env) [] (backTo pos (starEach (e :: es) X.env)) (backToKw pos (keywordEach [] X.env))) := by rfl)
    (he : starEach (e :: es) X.env = (false, eval e X.env) :: starEach es X.env := by rfl) (hpl : (backTo pos (starEach es X.env)).any (·.1) = false := by rfl) : PE X (.Call fe (e :: es) [] pos) (tCallI C sp E tf t) := by
  refine ⟨fun pins s σ H Q I h => ?_⟩
  refine Call_ (thn (hf.run pins s σ H _ I h) fun u s1 ⟨y, H1, I1, ry, a, ey, q⟩ => ?_) ht
  subst ey
  obtain rfl : u = Value.ref a := ry
  refine StX.callO_with (thn (ha.run pos pins s1 σ H1 _ I1 q) fun us s2 ⟨vs, H2, I2, r, hi, q2⟩ => ?_) he hpl
  have hi' : StX.InsC X H2 a C := .inr hi
  obtain ⟨ox, od, J, hd⟩ := StX.insC_at I2 hi'
  exact ⟨⟨C, ox, od, J, hd⟩, StX.run_callO c F hr hx I2 hi' r q2⟩
end Rz
/-! The mathematics of a ring: the ends as the greatest sum over chains, Bellman's equation, where ends repeat. -/
namespace Rm
/-- f r + f (r - 1) + .. , k terms -/
def sumBack (f : Int → Int) (r : Int) : Nat → Int
  | 0 => 0
  | k + 1 => sumBack f r k + f (r - k)
/-- the greatest of f r .. f (r - k) -/
def maxBack (f : Int → Int) (r : Int) : Nat → Int
  | 0 => f r
  | k + 1 => max (maxBack f r k) (f (r - (k + 1 : Nat)))
theorem sum_front (f : Int → Int) : ∀ (k : Nat) (r : Int), sumBack f r (k + 1) = f r + sumBack f (r - 1) k
  | 0, r => by simp [sumBack]
  | k + 1, r => by
    show sumBack f r (k + 1) + f (r - (k + 1 : Nat)) = f r + (sumBack f (r - 1) k + f (r - 1 - k))
    rw [sum_front f k r, show r - ((k + 1 : Nat) : Int) = r - 1 - k by omega]
    omega
theorem max_front (f : Int → Int) : ∀ (k : Nat) (r : Int), maxBack f r (k + 1) = max (f r) (maxBack f (r - 1) k)
  | 0, r => by simp [maxBack]
  | k + 1, r => by
    show max (maxBack f r (k + 1)) (f (r - (k + 1 + 1 : Nat))) = max (f r) (max (maxBack f (r - 1) k) (f (r - 1 - (k + 1 : Nat))))
    rw [max_front f k r, show r - ((k + 1 + 1 : Nat) : Int) = r - 1 - (k + 1 : Nat) by omega]
    omega
theorem sum_add (f : Int → Int) (r : Int) (k : Nat) : ∀ n : Nat, sumBack f r (k + n) = sumBack f r k + sumBack f (r - k) n
  | 0 => by simp [sumBack]
  | n + 1 => by
    show sumBack f r (k + n) + f (r - (k + n : Nat)) = sumBack f r k + (sumBack f (r - k) n + f (r - k - n))
    rw [sum_add f r k n, show r - ((k + n : Nat) : Int) = r - k - n by omega]
    omega
theorem sum_mono {f : Int → Int} (h : ∀ i, 0 ≤ f i) (r : Int) {j k : Nat} (hjk : j ≤ k) : sumBack f r j ≤ sumBack f r k := by
  induction k with
  | zero =>
    have : j = 0 := by omega
    subst this
    exact Int.le_refl _
  | succ k ih =>
    by_cases e : j = k + 1
    · subst e
      exact Int.le_refl _
    · have := ih (by omega)
      have h2 := h (r - k)
      show sumBack f r j ≤ sumBack f r k + f (r - k)
      omega
theorem sum_nn {f : Int → Int} (h : ∀ i, 0 ≤ f i) (r : Int) (k : Nat) : 0 ≤ sumBack f r k := sum_mono h r (Nat.zero_le k)
theorem max_ge {f : Int → Int} (r : Int) : ∀ {j k : Nat}, j ≤ k → f (r - j) ≤ maxBack f r k
  | j, 0, h => by
    have : j = 0 := by omega
    subst this
    simp [maxBack]
  | j, k + 1, h => by
    show f (r - j) ≤ max (maxBack f r k) (f (r - (k + 1 : Nat)))
    by_cases e : j = k + 1
    · subst e
      omega
    · have := max_ge (f := f) r (j := j) (k := k) (by omega)
      omega
theorem max_le {f : Int → Int} {M : Int} (h : ∀ i, f i ≤ M) (r : Int) : ∀ k : Nat, maxBack f r k ≤ M
  | 0 => h r
  | k + 1 => by
    have h1 := max_le h r k
    have h2 := h (r - (k + 1 : Nat))
    show max (maxBack f r k) (f (r - (k + 1 : Nat))) ≤ M
    omega
theorem max_mono {f : Int → Int} (r : Int) {j k : Nat} (h : j ≤ k) : maxBack f r j ≤ maxBack f r k := by
  induction k with
  | zero =>
    have : j = 0 := by omega
    subst this
    exact Int.le_refl _
  | succ k ih =>
    by_cases e : j = k + 1
    · subst e
      exact Int.le_refl _
    · have := ih (by omega)
      show maxBack f r j ≤ max (maxBack f r k) (f (r - (k + 1 : Nat)))
      omega

/-- readers in a ring: days, books at first, all books, all days, the slowest -/
structure Ring (N : Nat) (d s : Int → Int) (B T M : Int) : Prop where
  pos : 0 < N
  dper : ∀ i t : Int, d (i + N * t) = d i
  sper : ∀ i t : Int, s (i + N * t) = s i
  d1 : ∀ i, 1 ≤ d i
  s0 : ∀ i, 0 ≤ s i
  b : ∀ r, sumBack s r N = B
  b1 : 1 ≤ B
  t : ∀ r, sumBack d r N = T
  mu : ∀ i, d i ≤ M
  ma : ∃ i, d i = M

/-- the sum of the chain from reading x of reader r that goes k readers back -/
def ch (d s : Int → Int) (r : Int) (k : Nat) (x : Int) : Int := sumBack d r (k + 1) + (x - sumBack s r k) * maxBack d r k
/-- e is the greatest of them -/
def IsEnd (d s : Int → Int) (r x e : Int) : Prop := (∀ k, sumBack s r k ≤ x → ch d s r k x ≤ e) ∧ ∃ k, sumBack s r k ≤ x ∧ ch d s r k x = e
theorem IsEnd.inj {d s : Int → Int} {r x e e' : Int} (h : IsEnd d s r x e) (h' : IsEnd d s r x e') : e = e' := by
  obtain ⟨k, h1, h2⟩ := h.2
  obtain ⟨k', h1', h2'⟩ := h'.2
  have := h.1 k' h1'
  have := h'.1 k h1
  omega

section
variable {N : Nat} {d s : Int → Int} {B T M : Int} (R : Ring N d s B T M)
include R
theorem Ring.sumS (r : Int) (k : Nat) : ∀ m : Nat, sumBack s r (k + m * N) = sumBack s r k + m * B
  | 0 => by simp
  | m + 1 => by
    rw [show k + (m + 1) * N = k + m * N + N by rw [Nat.add_mul, Nat.one_mul, Nat.add_assoc], sum_add, Ring.sumS r k m, R.b, show ((m + 1 : Nat) : Int) = (m : Int) + 1 by omega, Int.add_mul]
    omega
theorem Ring.sumD (r : Int) (k : Nat) : ∀ m : Nat, sumBack d r (k + m * N) = sumBack d r k + m * T
  | 0 => by simp
  | m + 1 => by
    rw [show k + (m + 1) * N = k + m * N + N by rw [Nat.add_mul, Nat.one_mul, Nat.add_assoc], sum_add, Ring.sumD r k m, R.t, show ((m + 1 : Nat) : Int) = (m : Int) + 1 by omega, Int.add_mul]
    omega
theorem Ring.maxM (r : Int) {k : Nat} (h : N ≤ k + 1) : maxBack d r k = M := by
  obtain ⟨i, hi⟩ := R.ma
  have hN := R.pos
  have h0 : 0 ≤ (r - i) % (N : Int) := Int.emod_nonneg _ (by omega)
  have h1 : (r - i) % (N : Int) < N := Int.emod_lt_of_pos _ (by omega)
  have e : r - (((r - i) % (N : Int)).toNat : Nat) = i + N * ((r - i) / (N : Int)) := by
    have := Int.emod_add_mul_ediv (r - i) (N : Int)
    omega
  have h2 := max_ge (f := d) r (j := ((r - i) % (N : Int)).toNat) (k := k) (by omega)
  rw [e, R.dper, hi] at h2
  have h3 := max_le R.mu r k
  omega
theorem Ring.M1 : 1 ≤ M := by
  obtain ⟨i, hi⟩ := R.ma
  have := R.d1 i
  omega
theorem Ring.round (r x : Int) (k : Nat) {m : Nat} (hm : 1 ≤ m) : ch d s r (k + m * N) x = sumBack d r (k + 1) + (x - sumBack s r k) * M + m * (T - B * M) := by
  unfold ch
  have e1 : sumBack d r (k + m * N + 1) = sumBack d r (k + 1) + m * T := by
    rw [show k + m * N + 1 = k + 1 + m * N by omega, R.sumD]
  have e2 : N ≤ k + m * N + 1 := by
    have : 1 * N ≤ m * N := Nat.mul_le_mul_right N hm
    omega
  rw [e1, R.sumS, R.maxM r e2]
  have e3 : (x - (sumBack s r k + m * B)) * M = (x - sumBack s r k) * M - m * (B * M) := by
    rw [show x - (sumBack s r k + m * B) = (x - sumBack s r k) - m * B by omega, Int.sub_mul, Int.mul_assoc]
  rw [e3, Int.mul_sub]
  omega
end

/-- what the loop over the first i readers back has found -/
def Sofar (N : Nat) (d s : Int → Int) (r x : Int) (i : Nat) (L : Int) : Prop :=
  (∀ j m : Nat, j < i → sumBack s r (j + m * N) ≤ x → ch d s r (j + m * N) x ≤ L) ∧ ((i = 0 ∧ L = 0) ∨ ∃ k, sumBack s r k ≤ x ∧ ch d s r k x = L)
section
variable {N : Nat} {d s : Int → Int} {B T M : Int} (R : Ring N d s B T M)
include R
theorem Ring.ch_pos (r x : Int) (k : Nat) (h : sumBack s r k ≤ x) : 1 ≤ ch d s r k x := by
  unfold ch
  have h1 : d (r - k) ≤ sumBack d r (k + 1) := by
    have := sum_nn (f := d) (fun i => by have := R.d1 i; omega) r k
    show d (r - k) ≤ sumBack d r k + d (r - k)
    omega
  have h2 := R.d1 (r - k)
  have h3 : 0 ≤ maxBack d r k := by
    have := max_ge (f := d) r (j := 0) (k := k) (Nat.zero_le _)
    have := R.d1 (r - (0 : Nat))
    omega
  have h4 := Int.mul_nonneg (show 0 ≤ x - sumBack s r k by omega) h3
  omega
theorem Ring.step {r x L : Int} {i : Nat} (P : Sofar N d s r x i L) (hl : sumBack s r i ≤ x) {L2 : Int}
    (h2 : L2 = if B ≤ x - sumBack s r i then max (max L (ch d s r i x)) (sumBack d r (i + 1) + (x - sumBack s r i) * M + (if 0 < T - B * M then (x - sumBack s r i) / B else 1) * (T - B * M)) else max L (ch d s r i x)) :
    Sofar N d s r x (i + 1) L2 := by
  have P1 := P.1
  have hB := R.b1
  have hge : max L (ch d s r i x) ≤ L2 := by
    rw [h2]
    split <;> omega
  have key : ∀ m : Nat, 1 ≤ m → sumBack s r (i + m * N) ≤ x → ch d s r (i + m * N) x ≤ L2 := by
    intro m hm hv
    rw [R.round r x i hm]
    rw [R.sumS] at hv
    have hmB : (1 : Int) * B ≤ m * B := Int.mul_le_mul_of_nonneg_right (by omega) (by omega)
    have hBl : B ≤ x - sumBack s r i := by omega
    rw [if_pos hBl] at h2
    have hc : (m : Int) * (T - B * M) ≤ (if 0 < T - B * M then (x - sumBack s r i) / B else 1) * (T - B * M) := by
      split
      · rename_i hg
        refine Int.mul_le_mul_of_nonneg_right ?_ (by omega)
        exact (Int.le_ediv_iff_mul_le (by omega)).mpr (by omega)
      · rename_i hg
        have h5 : (0 : Int) ≤ ((m : Int) - 1) * (-(T - B * M)) := Int.mul_nonneg (by omega) (by omega)
        rw [Int.sub_mul, Int.mul_neg] at h5
        omega
    omega
  refine ⟨fun j m hj hv => ?_, ?_⟩
  · by_cases e : j = i
    · subst e
      cases m with
      | zero =>
        have e0 : j + 0 * N = j := by omega
        rw [e0]
        omega
      | succ m => exact key (m + 1) (by omega) hv
    · have := P1 j m (by omega) hv
      omega
  · right
    have hcp := R.ch_pos r x i hl
    have hL : ∃ k, sumBack s r k ≤ x ∧ ch d s r k x = max L (ch d s r i x) := by
      rcases P.2 with ⟨h0, hL0⟩ | ⟨k, hk, hk2⟩
      · exact ⟨i, hl, by omega⟩
      · by_cases hh : ch d s r i x ≤ L
        · exact ⟨k, hk, by omega⟩
        · exact ⟨i, hl, by omega⟩
    by_cases hBl : B ≤ x - sumBack s r i
    · rw [if_pos hBl] at h2
      -- the candidate of whole rounds is a chain too
      have hcand : ∃ k, sumBack s r k ≤ x ∧ ch d s r k x = sumBack d r (i + 1) + (x - sumBack s r i) * M + (if 0 < T - B * M then (x - sumBack s r i) / B else 1) * (T - B * M) := by
        by_cases hg : 0 < T - B * M
        · rw [if_pos hg]
          have hq1 : 1 ≤ (x - sumBack s r i) / B := (Int.le_ediv_iff_mul_le (by omega)).mpr (by omega)
          have hq2 : (x - sumBack s r i) / B * B ≤ x - sumBack s r i := Int.ediv_mul_le _ (by omega)
          have hqn : ((((x - sumBack s r i) / B).toNat : Nat) : Int) = (x - sumBack s r i) / B := by omega
          refine ⟨i + ((x - sumBack s r i) / B).toNat * N, ?_, ?_⟩
          · rw [R.sumS, hqn]
            omega
          · rw [R.round r x i (by omega), hqn]
        · rw [if_neg hg]
          refine ⟨i + 1 * N, ?_, ?_⟩
          · rw [R.sumS]
            omega
          · rw [R.round r x i (by omega)]
            simp
      obtain ⟨k1, a1, a2⟩ := hL
      obtain ⟨k2, c1, c2⟩ := hcand
      by_cases hh : max L (ch d s r i x) ≤ sumBack d r (i + 1) + (x - sumBack s r i) * M + (if 0 < T - B * M then (x - sumBack s r i) / B else 1) * (T - B * M)
      · exact ⟨k2, c1, by rw [c2, h2]; omega⟩
      · exact ⟨k1, a1, by rw [a2, h2]; omega⟩
    · rw [if_neg hBl] at h2
      rw [h2]
      exact hL
theorem Ring.fin {r x L : Int} {i : Nat} (P : Sofar N d s r x i L) (hi : i = N ∨ (0 < i ∧ x < sumBack s r i)) : IsEnd d s r x L := by
  have P1 := P.1
  have hN := R.pos
  refine ⟨fun k hk => ?_, ?_⟩
  · have ek : k = k % N + k / N * N := by
      have := Nat.mod_add_div k N
      rw [Nat.mul_comm] at this
      exact this.symm
    rw [ek] at hk ⊢
    refine P1 _ _ ?_ hk
    rcases hi with hi | ⟨_, hi⟩
    · rw [hi]
      exact Nat.mod_lt _ hN
    · rcases Nat.lt_or_ge (k % N) i with h | h
      · exact h
      · have := sum_mono R.s0 r h
        have h2 := R.sumS r (k % N) (k / N)
        have h3 : (0 : Int) ≤ ((k / N : Nat) : Int) * B := Int.mul_nonneg (Int.natCast_nonneg _) (by have := R.b1; omega)
        omega
  · rcases P.2 with ⟨h0, _⟩ | h
    · rcases hi with hi | ⟨hi, _⟩ <;> omega
    · exact h
theorem Ring.sofar0 (r x : Int) : Sofar N d s r x 0 0 := ⟨fun _ _ h => absurd h (Nat.not_lt_zero _), .inl ⟨rfl, rfl⟩⟩
theorem Ring.ends (r : Int) {x : Int} (hx : 0 ≤ x) : ∃ e, IsEnd d s r x e := by
  have go : ∀ n i L, i + n = N → sumBack s r i ≤ x → Sofar N d s r x i L → ∃ e, IsEnd d s r x e := by
    intro n
    induction n with
    | zero =>
      intro i L hi _ P
      exact ⟨L, R.fin P (.inl (by omega))⟩
    | succ n ih =>
      intro i L hi hl P
      have P' := R.step P hl rfl
      by_cases h : sumBack s r (i + 1) ≤ x
      · exact ih (i + 1) _ (by omega) h P'
      · exact ⟨_, R.fin P' (.inr ⟨by omega, by omega⟩)⟩
  exact go N 0 0 (by omega) (by show (0 : Int) ≤ x; exact hx) (R.sofar0 r x)
end
/-- the day on which reading x of reader r ends -/
noncomputable def E (d s : Int → Int) (r x : Int) : Int := open Classical in if h : ∃ e, IsEnd d s r x e then Classical.choose h else 0
section
variable {N : Nat} {d s : Int → Int} {B T M : Int} (R : Ring N d s B T M)
include R
theorem Ring.isE (r : Int) {x : Int} (hx : 0 ≤ x) : IsEnd d s r x (E d s r x) := by
  have h := R.ends r hx
  unfold E
  rw [dif_pos h]
  exact Classical.choose_spec h
theorem Ring.E_of {r x e : Int} (h : IsEnd d s r x e) : E d s r x = e := by
  have h' : ∃ e, IsEnd d s r x e := ⟨e, h⟩
  unfold E
  rw [dif_pos h']
  exact (Classical.choose_spec h').inj h
theorem Ring.E_per (r x t : Int) : E d s (r + N * t) x = E d s r x := by
  have hs : ∀ k, sumBack s (r + N * t) k = sumBack s r k := by
    intro k
    induction k with
    | zero => rfl
    | succ k ih =>
      show sumBack s (r + N * t) k + s (r + N * t - k) = sumBack s r k + s (r - k)
      rw [ih, show r + N * t - k = (r - k) + N * t by omega, R.sper]
  have hd : ∀ k, sumBack d (r + N * t) k = sumBack d r k := by
    intro k
    induction k with
    | zero => rfl
    | succ k ih =>
      show sumBack d (r + N * t) k + d (r + N * t - k) = sumBack d r k + d (r - k)
      rw [ih, show r + N * t - k = (r - k) + N * t by omega, R.dper]
  have hm : ∀ k, maxBack d (r + N * t) k = maxBack d r k := by
    intro k
    induction k with
    | zero => exact R.dper r t
    | succ k ih =>
      show max (maxBack d (r + N * t) k) (d (r + N * t - (k + 1 : Nat))) = max (maxBack d r k) (d (r - (k + 1 : Nat)))
      rw [ih, show r + N * t - ((k + 1 : Nat) : Int) = (r - (k + 1 : Nat)) + N * t by omega, R.dper]
  have he : IsEnd d s (r + N * t) x = IsEnd d s r x := by
    funext e
    unfold IsEnd ch
    simp only [hs, hd, hm]
  unfold E
  rw [he]
theorem Ring.E_mod (r x : Int) : E d s (r % N) x = E d s r x := by
  have h := R.E_per (r % N) x (r / N)
  rw [Int.emod_add_mul_ediv] at h
  exact h.symm
theorem Ring.ub (r : Int) {x : Int} (hx : 0 ≤ x) (k : Nat) (h : sumBack s r k ≤ x) : ch d s r k x ≤ E d s r x := (R.isE r hx).1 k h
theorem Ring.att (r : Int) {x : Int} (hx : 0 ≤ x) : ∃ k, sumBack s r k ≤ x ∧ ch d s r k x = E d s r x := (R.isE r hx).2
theorem Ring.low (r : Int) {x : Int} (hx : 0 ≤ x) : (x + 1) * d r ≤ E d s r x := by
  have h := R.ub r hx 0 hx
  have e : ch d s r 0 x = (x + 1) * d r := by
    unfold ch
    show 0 + d (r - (0 : Nat)) + (x - 0) * d r = _
    rw [show r - ((0 : Nat) : Int) = r by omega, Int.add_mul]
    simp
    omega
  omega
theorem Ring.E1 (r : Int) {x : Int} (hx : 0 ≤ x) : d r ≤ E d s r x := by
  have h := R.low r hx
  have h2 : (0 : Int) ≤ x * d r := Int.mul_nonneg hx (by have := R.d1 r; omega)
  rw [Int.add_mul] at h
  omega
/-- Bellman, from below -/
theorem Ring.next (r : Int) {x : Int} (hx : 0 ≤ x) : E d s r x + d r ≤ E d s r (x + 1) := by
  obtain ⟨k, hk, e⟩ := R.att r hx
  have h := R.ub r (x := x + 1) (by omega) k (by omega)
  have h2 := max_ge (f := d) r (j := 0) (k := k) (Nat.zero_le _)
  rw [show r - ((0 : Nat) : Int) = r by omega] at h2
  unfold ch at h e
  have e3 : (x + 1 - sumBack s r k) * maxBack d r k = (x - sumBack s r k) * maxBack d r k + maxBack d r k := by
    rw [show x + 1 - sumBack s r k = (x - sumBack s r k) + 1 by omega, Int.add_mul]
    omega
  omega
theorem Ring.from (r : Int) {x : Int} (hs : s r ≤ x) : E d s (r - 1) (x - s r) + d r ≤ E d s r x := by
  have hx : 0 ≤ x - s r := by omega
  have hx0 : 0 ≤ x := by have := R.s0 r; omega
  obtain ⟨k, hk, e⟩ := R.att (r - 1) hx
  have hS : sumBack s r (k + 1) = s r + sumBack s (r - 1) k := sum_front s k r
  have h := R.ub r hx0 (k + 1) (by omega)
  unfold ch at h e
  rw [sum_front d (k + 1) r, hS, max_front d k r] at h
  have e2 : x - (s r + sumBack s (r - 1) k) = x - s r - sumBack s (r - 1) k := by omega
  rw [e2] at h
  have h4 : (x - s r - sumBack s (r - 1) k) * maxBack d (r - 1) k ≤ (x - s r - sumBack s (r - 1) k) * max (d r) (maxBack d (r - 1) k) :=
    Int.mul_le_mul_of_nonneg_left (by omega) (by omega)
  omega
/-- .. from above -/
theorem Ring.bell (r : Int) {x : Int} (hx : 0 ≤ x) : E d s r x = d r ∨ (1 ≤ x ∧ E d s r x = E d s r (x - 1) + d r) ∨ (s r ≤ x ∧ E d s r x = E d s (r - 1) (x - s r) + d r) := by
  obtain ⟨k, hk, e⟩ := R.att r hx
  cases k with
  | zero =>
    have e0 : ch d s r 0 x = d r + x * d r := by
      unfold ch
      show 0 + d (r - (0 : Nat)) + (x - 0) * d r = _
      rw [show r - ((0 : Nat) : Int) = r by omega]
      simp
    by_cases h0 : x = 0
    · left
      subst h0
      simp at e0
      omega
    · right; left
      refine ⟨by omega, ?_⟩
      have h1 := R.ub r (x := x - 1) (by omega) 0 (by show (0 : Int) ≤ x - 1; omega)
      have e1 : ch d s r 0 (x - 1) = x * d r := by
        unfold ch
        show 0 + d (r - (0 : Nat)) + (x - 1 - 0) * d r = _
        rw [show r - ((0 : Nat) : Int) = r by omega, show x - 1 - 0 = x - 1 by omega, Int.sub_mul]
        omega
      have h2 := R.next r (x := x - 1) (by omega)
      rw [show x - 1 + 1 = x by omega] at h2
      omega
  | succ k =>
    have hS : sumBack s r (k + 1) = s r + sumBack s (r - 1) k := sum_front s k r
    have hnn := sum_nn R.s0 (r - 1) k
    have hsr : s r ≤ x := by omega
    have h1 := R.ub (r - 1) (x := x - s r) (by omega) k (by omega)
    have h3 := R.from r hsr
    have e' := e
    unfold ch at e' h1
    rw [sum_front d (k + 1) r, hS, max_front d k r, show x - (s r + sumBack s (r - 1) k) = x - s r - sumBack s (r - 1) k by omega] at e'
    by_cases hm : d r ≤ maxBack d (r - 1) k
    · right; right
      refine ⟨hsr, ?_⟩
      rw [show max (d r) (maxBack d (r - 1) k) = maxBack d (r - 1) k by omega] at e'
      omega
    · rw [show max (d r) (maxBack d (r - 1) k) = d r by omega] at e'
      by_cases hl : x - s r - sumBack s (r - 1) k = 0
      · right; right
        refine ⟨hsr, ?_⟩
        rw [hl] at e' h1
        simp at e' h1
        omega
      · right; left
        have hx1 : 1 ≤ x := by have := R.s0 r; omega
        refine ⟨hx1, ?_⟩
        have h5 := R.ub r (x := x - 1) (by omega) (k + 1) (by omega)
        unfold ch at h5
        rw [sum_front d (k + 1) r, hS, max_front d k r, show max (d r) (maxBack d (r - 1) k) = d r by omega,
          show x - 1 - (s r + sumBack s (r - 1) k) = (x - s r - sumBack s (r - 1) k) - 1 by omega, Int.sub_mul] at h5
        have h2 := R.next r (x := x - 1) (by omega)
        rw [show x - 1 + 1 = x by omega] at h2
        omega
end
end Rm
/-! Where ends repeat; counts by a day; heaps. -/
namespace Rm
def Rep (d s : Int → Int) (p q x : Int) : Prop := ∀ r, E d s r (x + p) = E d s r x + q
section
variable {N : Nat} {d s : Int → Int} {B T M : Int} (R : Ring N d s B T M)
include R
theorem Ring.T0 : 0 ≤ T := by
  have h := sum_nn (f := d) (fun i => by have := R.d1 i; omega) 0 N
  rw [R.t] at h
  exact h
theorem Ring.BM0 : 0 ≤ B * M := Int.mul_nonneg (by have := R.b1; omega) (by have := R.M1; omega)
theorem Ring.S_le (r : Int) {k m : Nat} (h : k ≤ m * N) : sumBack s r k ≤ m * B := by
  have h1 := sum_mono R.s0 r h
  have h2 := R.sumS r 0 m
  rw [Nat.zero_add] at h2
  rw [h2] at h1
  show sumBack s r k ≤ m * B
  have : sumBack s r 0 = 0 := rfl
  omega
/-- one more unit of x -/
theorem ch_succ (d s : Int → Int) (r : Int) (k : Nat) (x y : Int) : ch d s r k (x + y) = ch d s r k x + y * maxBack d r k := by
  unfold ch
  rw [show x + y - sumBack s r k = (x - sumBack s r k) + y by omega, Int.add_mul]
  omega
theorem Ring.rep_slow (hg : T ≤ B * M) {x : Int} (hx : 4 * B + B * M ≤ x) : Rep d s 1 M x := by
  intro r
  have hB := R.b1
  have hT := R.T0
  have hBM := R.BM0
  have hM := R.M1
  have hx0 : 0 ≤ x := by omega
  apply Int.le_antisymm
  · obtain ⟨k, hk, e⟩ := R.att r (x := x + 1) (by omega)
    by_cases hv : sumBack s r k ≤ x
    · have h1 := R.ub r hx0 k hv
      rw [ch_succ R d s r k x 1] at e
      have h2 := max_le R.mu r k
      omega
    · have hkN : 2 * N ≤ k := by
        rcases Nat.lt_or_ge k (2 * N) with h | h
        · have := R.S_le r (k := k) (m := 2) (by omega)
          omega
        · exact h
      obtain ⟨k', rfl⟩ : ∃ k', k = k' + 1 * N := ⟨k - 1 * N, by omega⟩
      rw [R.round r (x + 1) k' (by omega)] at e
      rw [R.sumS] at hk hv
      have h1 := R.ub r hx0 k' (by omega)
      unfold ch at h1
      rw [R.maxM r (k := k') (by omega)] at h1
      rw [show x + 1 - sumBack s r k' = (x - sumBack s r k') + 1 by omega, Int.add_mul] at e
      omega
  · obtain ⟨k, hk, e⟩ := R.att r hx0
    by_cases hm : maxBack d r k = M
    · have h1 := R.ub r (x := x + 1) (by omega) k (by omega)
      rw [ch_succ R d s r k x 1, hm] at h1
      omega
    · have hkN : k + 1 < N := by
        rcases Nat.lt_or_ge (k + 1) N with h | h
        · exact h
        · exact absurd (R.maxM r h) hm
      have hS := R.S_le r (k := k) (m := 1) (by omega)
      have h1 := R.ub r (x := x + 1) (by omega) (k + 1 * N) (by rw [R.sumS]; omega)
      rw [R.round r (x + 1) k (by omega)] at h1
      have h2 := max_le R.mu r k
      unfold ch at e
      have h3 : (x - sumBack s r k) * (maxBack d r k + 1) ≤ (x - sumBack s r k) * M := Int.mul_le_mul_of_nonneg_left (by omega) (by omega)
      rw [Int.mul_add] at h3
      rw [show x + 1 - sumBack s r k = (x - sumBack s r k) + 1 by omega, Int.add_mul] at h1
      omega
theorem Ring.rep_fast (hg : B * M < T) {x : Int} (hx : 4 * B + B * M ≤ x) : Rep d s B T x := by
  intro r
  have hB := R.b1
  have hBM := R.BM0
  have hx0 : 0 ≤ x := by omega
  apply Int.le_antisymm
  · obtain ⟨k, hk, e⟩ := R.att r (x := x + B) (by omega)
    by_cases hkN : 2 * N ≤ k + 1
    · obtain ⟨k', rfl⟩ : ∃ k', k = k' + 1 * N := ⟨k - 1 * N, by have := R.pos; omega⟩
      rw [R.round r (x + B) k' (by omega)] at e
      rw [R.sumS] at hk
      have h1 := R.ub r hx0 k' (by omega)
      unfold ch at h1
      rw [R.maxM r (k := k') (by omega)] at h1
      rw [show x + B - sumBack s r k' = (x - sumBack s r k') + B by omega, Int.add_mul] at e
      omega
    · have hS := R.S_le r (k := k) (m := 2) (by omega)
      have h1 := R.ub r hx0 (k + 1 * N) (by rw [R.sumS]; omega)
      rw [R.round r x k (by omega)] at h1
      unfold ch at e
      have h2 := max_le R.mu r k
      have h3 : (x + B - sumBack s r k) * maxBack d r k ≤ (x + B - sumBack s r k) * M := Int.mul_le_mul_of_nonneg_left h2 (by omega)
      rw [show x + B - sumBack s r k = (x - sumBack s r k) + B by omega, Int.add_mul, Int.add_mul] at h3
      rw [show x + B - sumBack s r k = (x - sumBack s r k) + B by omega, Int.add_mul] at e
      omega
  · obtain ⟨k, hk, e⟩ := R.att r hx0
    have h1 := R.ub r (x := x + B) (by omega) (k + 1 * N) (by rw [R.sumS]; omega)
    rw [R.round r (x + B) k (by omega)] at h1
    have h2 := max_le R.mu r k
    unfold ch at e
    have h3 : (x - sumBack s r k) * maxBack d r k ≤ (x - sumBack s r k) * M := Int.mul_le_mul_of_nonneg_left h2 (by omega)
    rw [show x + B - sumBack s r k = (x - sumBack s r k) + B by omega, Int.add_mul] at h1
    omega
theorem Ring.claim {p q m r : Int} (hp : 1 ≤ p) (hm : 1 ≤ m) (hsm : s r ≤ m) (h1 : E d s r (m - 1 + p) = E d s r (m - 1) + q) (h2 : E d s (r - 1) (m - s r + p) = E d s (r - 1) (m - s r) + q) : E d s r (m + p) = E d s r m + q := by
  have n1 := R.next r (x := m - 1) (by omega)
  have n2 := R.next r (x := m - 1 + p) (by omega)
  have f1 := R.from r (x := m) hsm
  have f2 := R.from r (x := m + p) (by omega)
  have b1 := R.bell r (x := m) (by omega)
  have b2 := R.bell r (x := m + p) (by omega)
  have e1 := R.E1 r (x := m - 1) (by omega)
  have e2 := R.E1 r (x := m - 1 + p) (by omega)
  have d1 := R.d1 r
  rw [show m - 1 + 1 = m by omega] at n1
  rw [show m - 1 + p + 1 = m + p by omega] at n2
  rw [show m + p - s r = m - s r + p by omega] at f2 b2
  rw [show m + p - 1 = m - 1 + p by omega] at b2
  rcases b1 with b1 | ⟨_, b1⟩ | ⟨_, b1⟩ <;> rcases b2 with b2 | ⟨_, b2⟩ | ⟨_, b2⟩ <;> omega
/-- as many in a row as the greatest number of books at first: then all later ones -/
theorem Ring.later {w p q n : Int} (hw : ∀ i, s i ≤ w) (hw1 : ∃ i, s i = w) (w1 : 1 ≤ w) (hp : 1 ≤ p) (hn : 0 ≤ n) (h : ∀ j, 0 ≤ j → j < w → Rep d s p q (n + j)) : ∀ m, n ≤ m → Rep d s p q m := by
  have go : ∀ k : Nat, ∀ m, n ≤ m → m - n < k → Rep d s p q m := by
    intro k
    induction k with
    | zero => intro m h1 h2; omega
    | succ k ih =>
      intro m h1 h2
      by_cases hmw : m < n + w
      · have := h (m - n) (by omega) (by omega)
        rw [show n + (m - n) = m by omega] at this
        exact this
      · obtain ⟨r0, hr0⟩ := hw1
        -- around the ring from r0
        have around : ∀ j : Nat, E d s (r0 + j) (m + p) = E d s (r0 + j) m + q := by
          intro j
          induction j with
          | zero =>
            have hs := hw r0
            refine R.claim hp (by omega) (by rw [show r0 + ((0 : Nat) : Int) = r0 by omega]; omega) (ih (m - 1) (by omega) (by omega) _) ?_
            rw [show r0 + ((0 : Nat) : Int) = r0 by omega]
            exact ih (m - s r0) (by omega) (by omega) _
          | succ j ihj =>
            have hs := hw (r0 + (j + 1 : Nat))
            have hs0 := R.s0 (r0 + (j + 1 : Nat))
            refine R.claim hp (by omega) (by omega) (ih (m - 1) (by omega) (by omega) _) ?_
            rw [show r0 + ((j + 1 : Nat) : Int) - 1 = r0 + j by omega]
            by_cases hz : s (r0 + (j + 1 : Nat)) = 0
            · rw [hz, show m - 0 = m by omega]
              exact ihj
            · exact ih (m - s (r0 + (j + 1 : Nat))) (by omega) (by omega) _
        intro r
        have hN := R.pos
        have a0 : 0 ≤ (r - r0) % (N : Int) := Int.emod_nonneg _ (by omega)
        have h3 := around ((r - r0) % (N : Int)).toNat
        have e3 : r0 + ((((r - r0) % (N : Int)).toNat : Nat) : Int) = r + N * (-((r - r0) / (N : Int))) := by
          have := Int.emod_add_mul_ediv (r - r0) (N : Int)
          rw [Int.mul_neg]
          omega
        rw [e3, R.E_per, R.E_per] at h3
        exact h3
  intro m hm
  exact go ((m - n).toNat + 1) m hm (by omega)
theorem Ring.rounds {p q n : Int} (hp : 1 ≤ p) (h : ∀ m, n ≤ m → Rep d s p q m) (r : Int) {x : Int} (hx : n ≤ x) : ∀ k : Nat, E d s r (x + k * p) = E d s r x + k * q
  | 0 => by simp
  | k + 1 => by
    have ih := Ring.rounds hp h r hx k
    have h0 : (0 : Int) ≤ (k : Int) * p := Int.mul_nonneg (Int.natCast_nonneg _) (by omega)
    have h1 := h (x + k * p) (by omega) r
    rw [show ((k + 1 : Nat) : Int) = (k : Int) + 1 by omega, Int.add_mul, Int.add_mul, Int.one_mul, Int.one_mul, ← Int.add_assoc, h1, ih]
    omega
theorem Ring.mono (r : Int) {x : Int} (hx : 0 ≤ x) : ∀ k : Nat, E d s r x + (k + 1) * d r ≤ E d s r (x + (k + 1))
  | 0 => by
    have := R.next r hx
    simpa using this
  | k + 1 => by
    have ih := Ring.mono r hx k
    have h1 := R.next r (x := x + (k + 1)) (by omega)
    rw [show ((k + 1 : Nat) : Int) = (k : Int) + 1 by omega, show x + ((k : Int) + 1 + 1) = x + ((k : Int) + 1) + 1 by omega, Int.add_mul ((k : Int) + 1) 1]
    omega
theorem Ring.lt (r : Int) {x y : Int} (hx : 0 ≤ x) (h : x < y) : E d s r x + d r ≤ E d s r y := by
  have h1 := R.mono r hx (y - x - 1).toNat
  rw [show ((((y - x - 1).toNat : Nat) : Int) + 1) = y - x by omega, show x + (y - x) = y by omega] at h1
  have h2 : (1 : Int) * d r ≤ (y - x) * d r := Int.mul_le_mul_of_nonneg_right (by omega) (by have := R.d1 r; omega)
  omega
theorem Ring.le (r : Int) {x y : Int} (hx : 0 ≤ x) (h : x ≤ y) : E d s r x ≤ E d s r y := by
  by_cases e : x = y
  · subst e
    exact Int.le_refl _
  · have := R.lt r hx (show x < y by omega)
    have := R.d1 r
    omega
end

/-- c readings of reader r have ended by day D -/
def Cnt (d s : Int → Int) (r D c : Int) : Prop := 0 ≤ c ∧ (c = 0 ∨ E d s r (c - 1) ≤ D) ∧ D < E d s r c
noncomputable def Cn (d s : Int → Int) (r D : Int) : Int := open Classical in if h : ∃ c, Cnt d s r D c then Classical.choose h else 0
section
variable {N : Nat} {d s : Int → Int} {B T M : Int} (R : Ring N d s B T M)
include R
theorem Ring.cnt_inj {r D c c' : Int} (h : Cnt d s r D c) (h' : Cnt d s r D c') : c = c' := by
  obtain ⟨a0, a1, a2⟩ := h
  obtain ⟨b0, b1, b2⟩ := h'
  rcases Int.lt_trichotomy c c' with z | z | z
  · have := R.le r (x := c) (y := c' - 1) a0 (by omega)
    omega
  · exact z
  · have := R.le r (x := c') (y := c - 1) b0 (by omega)
    omega
theorem Ring.cnt_ex (r D : Int) : ∃ c, Cnt d s r D c := by
  have go : ∀ n : Nat, D < E d s r n → ∃ c, Cnt d s r D c := by
    intro n
    induction n with
    | zero => intro h; exact ⟨0, by omega, .inl rfl, h⟩
    | succ n ih =>
      intro h
      by_cases hh : E d s r n ≤ D
      · exact ⟨((n + 1 : Nat) : Int), by omega, .inr (by rw [show ((n + 1 : Nat) : Int) - 1 = n by omega]; exact hh), h⟩
      · exact ih (by omega)
  refine go D.toNat ?_
  have h := R.low r (x := (D.toNat : Nat)) (by omega)
  have h2 : (((D.toNat : Nat) : Int) + 1) * 1 ≤ (((D.toNat : Nat) : Int) + 1) * d r := Int.mul_le_mul_of_nonneg_left (R.d1 r) (by omega)
  omega
theorem Ring.cn (r D : Int) : Cnt d s r D (Cn d s r D) := by
  have h := R.cnt_ex r D
  unfold Cn
  rw [dif_pos h]
  exact Classical.choose_spec h
theorem Ring.cn_of {r D c : Int} (h : Cnt d s r D c) : Cn d s r D = c := R.cnt_inj (R.cn r D) h
theorem Ring.cn_per (r D t : Int) : Cn d s (r + N * t) D = Cn d s r D := by
  refine R.cn_of ?_
  have h := R.cn r D
  unfold Cnt at h ⊢
  rw [R.E_per, R.E_per]
  exact h
theorem Ring.cn_mod (r D : Int) : Cn d s (r % N) D = Cn d s r D := by
  have h := R.cn_per (r % N) D (r / N)
  rw [Int.emod_add_mul_ediv] at h
  exact h.symm
theorem Ring.cn_end (r : Int) {x : Int} (hx : 0 ≤ x) : Cn d s r (E d s r x) = x + 1 := by
  refine R.cn_of ⟨by omega, .inr (by rw [show x + 1 - 1 = x by omega]; exact Int.le_refl _), ?_⟩
  have := R.lt r hx (show x < x + 1 by omega)
  have := R.d1 r
  omega
theorem Ring.cn_before (r : Int) {x : Int} (hx : 0 ≤ x) : Cn d s r (E d s r x - 1) = x := by
  refine R.cn_of ⟨hx, ?_, by omega⟩
  by_cases h : x = 0
  · exact .inl h
  · right
    have := R.lt r (x := x - 1) (y := x) (by omega) (by omega)
    have := R.d1 r
    omega
theorem Ring.cn_next (r D : Int) : Cn d s r D ≤ Cn d s r (D + d r) ∧ Cn d s r (D + d r) ≤ Cn d s r D + 1 := by
  obtain ⟨a0, a1, a2⟩ := R.cn r D
  obtain ⟨b0, b1, b2⟩ := R.cn r (D + d r)
  have d1 := R.d1 r
  constructor
  · rcases Int.lt_or_le (Cn d s r (D + d r)) (Cn d s r D) with z | z
    · rcases a1 with a1 | a1
      · omega
      · have := R.le r (x := Cn d s r (D + d r)) (y := Cn d s r D - 1) b0 (by omega)
        omega
    · exact z
  · rcases Int.lt_or_le (Cn d s r D + 1) (Cn d s r (D + d r)) with z | z
    · rcases b1 with b1 | b1
      · omega
      · have := R.lt r (x := Cn d s r D) (y := Cn d s r (D + d r) - 1) a0 (by omega)
        omega
    · exact z
/-- a reader who has a book and is not reading begins -/
theorem Ring.cn_reads {r D : Int} (hD : 0 ≤ D) (h : Cn d s r D < s r + Cn d s (r - 1) D) : Cn d s r D + 1 ≤ Cn d s r (D + d r) := by
  obtain ⟨a0, a1, a2⟩ := R.cn r D
  obtain ⟨b0, b1, b2⟩ := R.cn r (D + d r)
  obtain ⟨c0, c1, c2⟩ := R.cn (r - 1) D
  have hs := R.s0 r
  rcases Int.lt_or_le (Cn d s r (D + d r)) (Cn d s r D + 1) with z | z
  · have h1 := R.le r (x := Cn d s r (D + d r)) (y := Cn d s r D) b0 (by omega)
    have b := R.bell r (x := Cn d s r D) a0
    rcases b with b | ⟨h2, b⟩ | ⟨h2, b⟩
    · omega
    · rcases a1 with a1 | a1 <;> omega
    · rcases c1 with c1 | c1
      · omega
      · have h3 := R.le (r - 1) (x := Cn d s r D - s r) (y := Cn d s (r - 1) D - 1) (by omega) (by omega)
        omega
  · exact z
end
theorem sum_lin (f g h : Int → Int) (r : Int) : ∀ n : Nat, sumBack (fun j => f j + g (j - 1) - h j) r n = sumBack f r n + sumBack g (r - 1) n - sumBack h r n
  | 0 => by simp [sumBack]
  | n + 1 => by
    show sumBack (fun j => f j + g (j - 1) - h j) r n + (f (r - n) + g (r - n - 1) - h (r - n)) = sumBack f r n + f (r - n) + (sumBack g (r - 1) n + g (r - 1 - n)) - (sumBack h r n + h (r - n))
    rw [sum_lin f g h r n, show r - 1 - (n : Int) = r - n - 1 by omega]
    omega
theorem sum_win {f : Int → Int} {N : Nat} (hp : ∀ i t : Int, f (i + N * t) = f i) (r : Int) : sumBack f (r - 1) N = sumBack f r N := by
  have h1 := sum_front f N r
  have h2 : sumBack f r (N + 1) = sumBack f r N + f (r - N) := rfl
  have h3 := hp (r - N) 1
  rw [show r - (N : Int) + N * 1 = r by omega] at h3
  omega
theorem sum_le {f g : Int → Int} (h : ∀ i, f i ≤ g i) (r : Int) : ∀ n : Nat, sumBack f r n ≤ sumBack g r n
  | 0 => Int.le_refl _
  | n + 1 => by
    have h1 := sum_le h r n
    have h2 := h (r - n)
    show sumBack f r n + f (r - n) ≤ sumBack g r n + g (r - n)
    omega
theorem sum_lt {f g : Int → Int} (h : ∀ i, f i ≤ g i) (r : Int) : ∀ {n j : Nat}, j < n → f (r - j) < g (r - j) → sumBack f r n < sumBack g r n
  | 0, j, hj, _ => absurd hj (Nat.not_lt_zero _)
  | n + 1, j, hj, hh => by
    show sumBack f r n + f (r - n) < sumBack g r n + g (r - n)
    by_cases e : j = n
    · subst e
      have := sum_le h r j
      omega
    · have h1 := sum_lt h r (n := n) (j := j) (by omega) hh
      have h2 := h (r - n)
      omega
theorem sum_shift (f : Int → Int) (r c : Int) : ∀ n : Nat, sumBack (fun i => f i + c) r n = sumBack f r n + n * c
  | 0 => by simp [sumBack]
  | n + 1 => by
    show sumBack (fun i => f i + c) r n + (f (r - n) + c) = sumBack f r n + f (r - n) + ((n + 1 : Nat) : Int) * c
    rw [sum_shift f r c n, show ((n + 1 : Nat) : Int) = (n : Int) + 1 by omega, Int.add_mul]
    omega
section
variable {N : Nat} {d s : Int → Int} {B T M : Int} (R : Ring N d s B T M)
include R
/-- the heaps of a day, all together: fewer than all books, as at least one is being read; at most one a reader is -/
theorem Ring.heaps {D : Int} (hD : 0 ≤ D) (r : Int) : B - N ≤ sumBack (fun j => s j + Cn d s (j - 1) D - Cn d s j (D + d j)) r N ∧ sumBack (fun j => s j + Cn d s (j - 1) D - Cn d s j (D + d j)) r N < B := by
  rw [sum_lin s (fun j => Cn d s j D) (fun j => Cn d s j (D + d j)) r N, R.b, sum_win (f := fun j => Cn d s j D) (N := N) (fun i t => R.cn_per i D t)]
  have h1 := sum_le (f := fun j => Cn d s j D) (g := fun j => Cn d s j (D + d j)) (fun i => (R.cn_next i D).1) r N
  have h2 := sum_le (f := fun j => Cn d s j (D + d j)) (g := fun j => Cn d s j D + 1) (fun i => (R.cn_next i D).2) r N
  rw [sum_shift (fun j => Cn d s j D) r 1 N] at h2
  refine ⟨by omega, ?_⟩
  -- someone reads
  have some_reads : ∃ j : Nat, j < N ∧ Cn d s (r - j) D < Cn d s (r - j) (D + d (r - j)) := by
    apply Classical.byContradiction
    intro hno
    have hall : ∀ j : Nat, j < N → s (r - j) + Cn d s (r - j - 1) D ≤ Cn d s (r - j) D := by
      intro j hj
      apply Classical.byContradiction
      intro hh
      have := R.cn_reads (r := r - j) hD (by omega)
      exact hno ⟨j, hj, by omega⟩
    have go : ∀ n : Nat, n ≤ N → sumBack s r n + sumBack (fun j => Cn d s j D) (r - 1) n ≤ sumBack (fun j => Cn d s j D) r n := by
      intro n
      induction n with
      | zero => intro _; show (0 : Int) + 0 ≤ 0; omega
      | succ n ih =>
        intro hn
        have h3 := ih (by omega)
        have h4 := hall n (by omega)
        show sumBack s r n + s (r - n) + (sumBack (fun j => Cn d s j D) (r - 1) n + Cn d s (r - 1 - n) D) ≤ sumBack (fun j => Cn d s j D) r n + Cn d s (r - n) D
        rw [show r - 1 - (n : Int) = r - n - 1 by omega]
        omega
    have h5 := go N (Nat.le_refl _)
    rw [R.b, sum_win (f := fun j => Cn d s j D) (N := N) (fun i t => R.cn_per i D t)] at h5
    have := R.b1
    omega
  obtain ⟨j, hj, hjr⟩ := some_reads
  have h6 := sum_lt (f := fun j => Cn d s j D) (g := fun j => Cn d s j (D + d j)) (fun i => (R.cn_next i D).1) r hj hjr
  omega
end

/-! ### from lists -/
/-- round the list, from any index -/
def at' (l : List Int) (i : Int) : Int := l.getD (i % (l.length : Int)).toNat 0
theorem at_per (l : List Int) (i t : Int) : at' l (i + (l.length : Int) * t) = at' l i := by
  unfold at'
  rw [Int.add_mul_emod_self_left]
theorem at_nat {l : List Int} {j : Nat} {v : Int} (h : l[j]? = some v) : at' l (j : Int) = v := by
  have hj := (List.getElem?_eq_some_iff.mp h).1
  unfold at'
  rw [Int.emod_eq_of_lt (by omega) (by omega), List.getD_eq_getElem?_getD, Int.toNat_natCast, h]
  rfl
theorem at_mem {l : List Int} (hl : 0 < l.length) (i : Int) : at' l i ∈ l := by
  unfold at'
  have h0 : 0 ≤ i % (l.length : Int) := Int.emod_nonneg _ (by omega)
  have h1 : i % (l.length : Int) < l.length := Int.emod_lt_of_pos _ (by omega)
  rw [List.getD_eq_getElem?_getD, List.getElem?_eq_getElem (show (i % (l.length : Int)).toNat < l.length by omega)]
  exact List.getElem_mem _
theorem mem_at {l : List Int} {v : Int} (h : v ∈ l) : ∃ i, at' l i = v := by
  obtain ⟨j, hj, e⟩ := List.getElem_of_mem h
  exact ⟨j, at_nat (by rw [List.getElem?_eq_getElem hj, e])⟩
theorem sum_list (l : List Int) : sumBack (at' l) ((l.length : Int) - 1) l.length = l.sum := by
  have go : ∀ n : Nat, n ≤ l.length → sumBack (at' l) ((n : Int) - 1) n = (l.take n).sum := by
    intro n
    induction n with
    | zero => intro _; simp [sumBack]
    | succ n ih =>
      intro hn
      rw [show ((n + 1 : Nat) : Int) - 1 = n by omega, sum_front, ih (by omega), List.take_add_one, List.sum_append, at_nat (List.getElem?_eq_getElem (show n < l.length by omega)), List.getElem?_eq_getElem (show n < l.length by omega)]
      simp
      omega
  have h := go l.length (Nat.le_refl _)
  rw [List.take_length] at h
  exact h
theorem sum_any {f : Int → Int} {N : Nat} (hp : ∀ i t : Int, f (i + N * t) = f i) (p q : Int) : sumBack f p N = sumBack f q N := by
  have go : ∀ (n : Nat) (r : Int), sumBack f (r - n) N = sumBack f r N := by
    intro n
    induction n with
    | zero => intro r; rw [show r - ((0 : Nat) : Int) = r by omega]
    | succ n ih =>
      intro r
      rw [show r - ((n + 1 : Nat) : Int) = r - n - 1 by omega, sum_win hp, ih]
  rcases Int.le_total p q with h | h
  · have := go (q - p).toNat q
    rw [show q - ((q - p).toNat : Int) = p by omega] at this
    exact this
  · have := go (p - q).toNat p
    rw [show p - ((p - q).toNat : Int) = q by omega] at this
    exact this.symm
theorem ring_of {ds ss : List Int} {M : Int} (hl : 0 < ds.length) (hls : ss.length = ds.length) (h1 : ∀ y ∈ ds, 1 ≤ y) (h2 : ∀ y ∈ ss, 0 ≤ y) (hB : 1 ≤ ss.sum) (hM : M ∈ ds) (hMu : ∀ y ∈ ds, y ≤ M) :
    Ring ds.length (at' ds) (at' ss) ss.sum ds.sum M where
  pos := hl
  dper := at_per ds
  sper := by rw [← hls]; exact at_per ss
  d1 := fun i => h1 _ (at_mem hl i)
  s0 := fun i => h2 _ (at_mem (by omega) i)
  b := fun r => by
    rw [sum_any (f := at' ss) (N := ds.length) (by rw [← hls]; exact at_per ss) r ((ss.length : Int) - 1), ← hls]
    exact sum_list ss
  b1 := hB
  t := fun r => by
    rw [sum_any (f := at' ds) (N := ds.length) (at_per ds) r ((ds.length : Int) - 1)]
    exact sum_list ds
  mu := fun i => hMu _ (at_mem hl i)
  ma := mem_at hM
end Rm
namespace Rp
open PySem PySem.Spec PyProof.Rows L2
def topS (i : Nat) : Stmt := PySem.Challenge.pw_readingring_k51_whole_diaries.main.body.getD i (.Pass ⟨0, 0, 0, 0⟩)
abbrev s_iDiaryError : Stmt := inClass (topS 10) 0
abbrev s_is_number : Stmt := topS 14
abbrev s_lies_between : Stmt := topS 15
abbrev s_check_number : Stmt := topS 16
abbrev s_check_reader : Stmt := topS 17
abbrev s_rinit : Stmt := inClass (topS 23) 0
abbrev s_rdays : Stmt := inClass (topS 23) 2
abbrev s_rstarts : Stmt := inClass (topS 23) 3
abbrev s_rbooks : Stmt := inClass (topS 23) 4
abbrev s_rpace : Stmt := inClass (topS 23) 5
abbrev s_rlen : Stmt := inClass (topS 23) 7
abbrev s_rcall : Stmt := inClass (topS 23) 10
abbrev s_check_part : Stmt := topS 24
abbrev s_end_day : Stmt := topS 25
abbrev s_book_of : Stmt := topS 27
abbrev s_reader_before : Stmt := topS 28
abbrev s_reader_after : Stmt := topS 29
abbrev s_diary_of : Stmt := topS 32
abbrev s_mended : Stmt := topS 33
abbrev s_can_be : Stmt := topS 34
abbrev s_is_same_number : Stmt := topS 35
abbrev s_tinit : Stmt := inClass (topS 38) 0
abbrev s_first_table : Stmt := topS 39
abbrev s_copied_table : Stmt := topS 40
abbrev s_begin_readings : Stmt := topS 45
abbrev s_end_readings : Stmt := topS 46
abbrev s_put_book : Stmt := topS 47
abbrev s_let_pass : Stmt := topS 48
abbrev s_is_operation : Stmt := topS 54
abbrev s_carry_out : Stmt := topS 55
abbrev s_cinit : Stmt := inClass (topS 57) 0
abbrev s_vinit : Stmt := inClass (topS 58) 0
abbrev s_vpass_days : Stmt := inClass (topS 58) 6
abbrev s_vapply : Stmt := inClass (topS 58) 12
abbrev s_executed : Stmt := topS 59
abbrev s_ltaken : Stmt := topS 61
abbrev s_lparts : Stmt := topS 62
abbrev s_lbegin : Stmt := topS 63
abbrev s_lfirst : Stmt := topS 64
abbrev s_lday : Stmt := topS 65
abbrev s_ldiary : Stmt := topS 66
abbrev s_lraised : Stmt := topS 67
abbrev s_law : Stmt := topS 68
abbrev N_iDiaryError : List Str := ["self", "entry"]
abbrev P_iDiaryError : List Str := ["self", "entry"]
theorem sc_iDiaryError : FnScope N_iDiaryError P_iDiaryError (defScope s_iDiaryError) := ⟨rfl, rfl, rfl, by decide +kernel, rfl, by decide +kernel, by decide +kernel⟩
abbrev N_is_number : List Str := ["value"]
abbrev P_is_number : List Str := ["value"]
theorem sc_is_number : FnScope N_is_number P_is_number (defScope s_is_number) := ⟨rfl, rfl, rfl, by decide +kernel, rfl, by decide +kernel, by decide +kernel⟩
abbrev N_lies_between : List Str := ["value", "low", "high"]
abbrev P_lies_between : List Str := ["value", "low", "high"]
theorem sc_lies_between : FnScope N_lies_between P_lies_between (defScope s_lies_between) := ⟨rfl, rfl, rfl, by decide +kernel, rfl, by decide +kernel, by decide +kernel⟩
abbrev N_check_number : List Str := ["value", "low", "high"]
abbrev P_check_number : List Str := ["value", "low", "high"]
theorem sc_check_number : FnScope N_check_number P_check_number (defScope s_check_number) := ⟨rfl, rfl, rfl, by decide +kernel, rfl, by decide +kernel, by decide +kernel⟩
abbrev N_check_reader : List Str := ["ring", "reader"]
abbrev P_check_reader : List Str := ["ring", "reader"]
theorem sc_check_reader : FnScope N_check_reader P_check_reader (defScope s_check_reader) := ⟨rfl, rfl, rfl, by decide +kernel, rfl, by decide +kernel, by decide +kernel⟩
abbrev N_rinit : List Str := ["self", "days", "starts"]
abbrev P_rinit : List Str := ["self", "days", "starts"]
theorem sc_rinit : FnScope N_rinit P_rinit (defScope s_rinit) := ⟨rfl, rfl, rfl, by decide +kernel, rfl, by decide +kernel, by decide +kernel⟩
abbrev N_rdays : List Str := ["self"]
abbrev P_rdays : List Str := ["self"]
theorem sc_rdays : FnScope N_rdays P_rdays (defScope s_rdays) := ⟨rfl, rfl, rfl, by decide +kernel, rfl, by decide +kernel, by decide +kernel⟩
abbrev N_rstarts : List Str := ["self"]
abbrev P_rstarts : List Str := ["self"]
theorem sc_rstarts : FnScope N_rstarts P_rstarts (defScope s_rstarts) := ⟨rfl, rfl, rfl, by decide +kernel, rfl, by decide +kernel, by decide +kernel⟩
abbrev N_rbooks : List Str := ["self"]
abbrev P_rbooks : List Str := ["self"]
theorem sc_rbooks : FnScope N_rbooks P_rbooks (defScope s_rbooks) := ⟨rfl, rfl, rfl, by decide +kernel, rfl, by decide +kernel, by decide +kernel⟩
abbrev N_rpace : List Str := ["self"]
abbrev P_rpace : List Str := ["self"]
theorem sc_rpace : FnScope N_rpace P_rpace (defScope s_rpace) := ⟨rfl, rfl, rfl, by decide +kernel, rfl, by decide +kernel, by decide +kernel⟩
abbrev N_rlen : List Str := ["self"]
abbrev P_rlen : List Str := ["self"]
theorem sc_rlen : FnScope N_rlen P_rlen (defScope s_rlen) := ⟨rfl, rfl, rfl, by decide +kernel, rfl, by decide +kernel, by decide +kernel⟩
abbrev N_rcall : List Str := ["self", "reader", "number"]
abbrev P_rcall : List Str := ["self", "reader", "number"]
theorem sc_rcall : FnScope N_rcall P_rcall (defScope s_rcall) := ⟨rfl, rfl, rfl, by decide +kernel, rfl, by decide +kernel, by decide +kernel⟩
abbrev N_check_part : List Str := ["part", "values", "limits", "lengths", "low", "high", "fewest", "most", "index", "value"]
abbrev P_check_part : List Str := ["part", "values", "limits", "lengths"]
theorem sc_check_part : FnScope N_check_part P_check_part (defScope s_check_part) := ⟨rfl, rfl, rfl, by decide +kernel, rfl, by decide +kernel, by decide +kernel⟩
abbrev N_end_day : List Str := ["ring", "reader", "number", "books", "slowest", "gain", "latest", "total", "slowest_met", "left", "step", "rounds"]
abbrev P_end_day : List Str := ["ring", "reader", "number"]
theorem sc_end_day : FnScope N_end_day P_end_day (defScope s_end_day) := ⟨rfl, rfl, rfl, by decide +kernel, rfl, by decide +kernel, by decide +kernel⟩
abbrev N_book_of : List Str := ["ring", "reader", "number", "place"]
abbrev P_book_of : List Str := ["ring", "reader", "number"]
theorem sc_book_of : FnScope N_book_of P_book_of (defScope s_book_of) := ⟨rfl, rfl, rfl, by decide +kernel, rfl, by decide +kernel, by decide +kernel⟩
abbrev N_reader_before : List Str := ["ring", "reader"]
abbrev P_reader_before : List Str := ["ring", "reader"]
theorem sc_reader_before : FnScope N_reader_before P_reader_before (defScope s_reader_before) := ⟨rfl, rfl, rfl, by decide +kernel, rfl, by decide +kernel, by decide +kernel⟩
abbrev N_reader_after : List Str := ["ring", "reader"]
abbrev P_reader_after : List Str := ["ring", "reader"]
theorem sc_reader_after : FnScope N_reader_after P_reader_after (defScope s_reader_after) := ⟨rfl, rfl, rfl, by decide +kernel, rfl, by decide +kernel, by decide +kernel⟩
abbrev N_diary_of : List Str := ["ring", "count", "numbers", "ends", "_", "day", "reader"]
abbrev P_diary_of : List Str := ["ring", "count"]
theorem sc_diary_of : GScope N_diary_of P_diary_of (defScope s_diary_of) := ⟨rfl, rfl, rfl, by decide +kernel, rfl, by decide +kernel, by decide +kernel⟩
abbrev N_mended : List Str := ["ring", "diary", "many", "entries", "index", "torn"]
abbrev P_mended : List Str := ["ring", "diary"]
theorem sc_mended : FnScope N_mended P_mended (defScope s_mended) := ⟨rfl, rfl, rfl, by decide +kernel, rfl, by decide +kernel, by decide +kernel⟩
abbrev N_can_be : List Str := ["torn", "entry", "item", "number"]
abbrev P_can_be : List Str := ["torn", "entry"]
theorem sc_can_be : FnScope N_can_be P_can_be (defScope s_can_be) := ⟨rfl, rfl, rfl, by decide +kernel, rfl, by decide +kernel, by decide +kernel⟩
abbrev N_is_same_number : List Str := ["value", "number"]
abbrev P_is_same_number : List Str := ["value", "number"]
theorem sc_is_same_number : FnScope N_is_same_number P_is_same_number (defScope s_is_same_number) := ⟨rfl, rfl, rfl, by decide +kernel, rfl, by decide +kernel, by decide +kernel⟩
abbrev N_tinit : List Str := ["self", "ring", "day", "heaps", "current", "coming"]
abbrev P_tinit : List Str := ["self", "ring", "day", "heaps", "current", "coming"]
theorem sc_tinit : FnScope N_tinit P_tinit (defScope s_tinit) := ⟨rfl, rfl, rfl, by decide +kernel, rfl, by decide +kernel, by decide +kernel⟩
abbrev N_first_table : List Str := ["ring", "heaps", "coming", "many", "table"]
abbrev P_first_table : List Str := ["ring"]
theorem sc_first_table : FnScope N_first_table P_first_table (defScope s_first_table) := ⟨rfl, rfl, rfl, by decide +kernel, rfl, by decide +kernel, by decide +kernel⟩
abbrev N_copied_table : List Str := ["table"]
abbrev P_copied_table : List Str := ["table"]
theorem sc_copied_table : FnScope N_copied_table P_copied_table (defScope s_copied_table) := ⟨rfl, rfl, rfl, by decide +kernel, rfl, by decide +kernel, by decide +kernel⟩
abbrev N_begin_readings : List Str := ["table", "reader", "needed", "heap"]
abbrev P_begin_readings : List Str := ["table"]
theorem sc_begin_readings : FnScope N_begin_readings P_begin_readings (defScope s_begin_readings) := ⟨rfl, rfl, rfl, by decide +kernel, rfl, by decide +kernel, by decide +kernel⟩
abbrev N_end_readings : List Str := ["table", "ended", "reader", "reading"]
abbrev P_end_readings : List Str := ["table"]
theorem sc_end_readings : FnScope N_end_readings P_end_readings (defScope s_end_readings) := ⟨rfl, rfl, rfl, by decide +kernel, rfl, by decide +kernel, by decide +kernel⟩
abbrev N_put_book : List Str := ["table", "reader", "book"]
abbrev P_put_book : List Str := ["table", "reader", "book"]
theorem sc_put_book : FnScope N_put_book P_put_book (defScope s_put_book) := ⟨rfl, rfl, rfl, by decide +kernel, rfl, by decide +kernel, by decide +kernel⟩
abbrev N_let_pass : List Str := ["table", "count", "ended", "_"]
abbrev P_let_pass : List Str := ["table", "count"]
theorem sc_let_pass : FnScope N_let_pass P_let_pass (defScope s_let_pass) := ⟨rfl, rfl, rfl, by decide +kernel, rfl, by decide +kernel, by decide +kernel⟩
abbrev N_is_operation : List Str := ["value"]
abbrev P_is_operation : List Str := ["value"]
theorem sc_is_operation : FnScope N_is_operation P_is_operation (defScope s_is_operation) := ⟨rfl, rfl, rfl, by decide +kernel, rfl, by decide +kernel, by decide +kernel⟩
abbrev N_carry_out : List Str := ["table", "operation", "name", "arguments", "action"]
abbrev P_carry_out : List Str := ["table", "operation"]
theorem sc_carry_out : FnScope N_carry_out P_carry_out (defScope s_carry_out) := ⟨rfl, rfl, rfl, by decide +kernel, rfl, by decide +kernel, by decide +kernel⟩
abbrev N_cinit : List Str := ["self", "tables", "operations", "undone"]
abbrev P_cinit : List Str := ["self", "tables", "operations", "undone"]
theorem sc_cinit : FnScope N_cinit P_cinit (defScope s_cinit) := ⟨rfl, rfl, rfl, by decide +kernel, rfl, by decide +kernel, by decide +kernel⟩
abbrev N_vinit : List Str := ["self", "ring"]
abbrev P_vinit : List Str := ["self", "ring"]
theorem sc_vinit : FnScope N_vinit P_vinit (defScope s_vinit) := ⟨rfl, rfl, rfl, by decide +kernel, rfl, by decide +kernel, by decide +kernel⟩
abbrev N_vpass_days : List Str := ["self", "count"]
abbrev P_vpass_days : List Str := ["self", "count"]
theorem sc_vpass_days : FnScope N_vpass_days P_vpass_days (defScope s_vpass_days) := ⟨rfl, rfl, rfl, by decide +kernel, rfl, by decide +kernel, by decide +kernel⟩
abbrev N_vapply : List Str := ["self", "operations", "index", "operation", "course", "results", "result"]
abbrev P_vapply : List Str := ["self", "operations"]
theorem sc_vapply : FnScope N_vapply P_vapply (defScope s_vapply) := ⟨rfl, rfl, rfl, by decide +kernel, rfl, by decide +kernel, by decide +kernel⟩
abbrev N_executed : List Str := ["course", "operation", "table", "result"]
abbrev P_executed : List Str := ["course", "operation"]
theorem sc_executed : FnScope N_executed P_executed (defScope s_executed) := ⟨rfl, rfl, rfl, by decide +kernel, rfl, by decide +kernel, by decide +kernel⟩
abbrev N_ltaken : List Str := ["_law_row", "_law_many", "_law_found", "_law_cell"]
abbrev P_ltaken : List Str := ["_law_row", "_law_many"]
theorem sc_ltaken : FnScope N_ltaken P_ltaken (defScope s_ltaken) := ⟨rfl, rfl, rfl, by decide +kernel, rfl, by decide +kernel, by decide +kernel⟩
abbrev N_lparts : List Str := ["_law_row", "_law_most", "_law_size", "_law_far", "_law_days", "_law_starts", "_law_k"]
abbrev P_lparts : List Str := ["_law_row", "_law_most"]
theorem sc_lparts : FnScope N_lparts P_lparts (defScope s_lparts) := ⟨rfl, rfl, rfl, by decide +kernel, rfl, by decide +kernel, by decide +kernel⟩
abbrev N_lbegin : List Str := ["_law_h", "_law_k"]
abbrev P_lbegin : List Str := ["_law_h"]
theorem sc_lbegin : FnScope N_lbegin P_lbegin (defScope s_lbegin) := ⟨rfl, rfl, rfl, by decide +kernel, rfl, by decide +kernel, by decide +kernel⟩
abbrev N_lfirst : List Str := ["_law_parts_here", "_law_days", "_law_starts", "_law_h", "_law_number", "_law_many"]
abbrev P_lfirst : List Str := ["_law_parts_here"]
theorem sc_lfirst : FnScope N_lfirst P_lfirst (defScope s_lfirst) := ⟨rfl, rfl, rfl, by decide +kernel, rfl, by decide +kernel, by decide +kernel⟩
abbrev N_lday : List Str := ["_law_h", "_law_ended", "_law_size", "_law_k", "_law_day_here", "_law_book"]
abbrev P_lday : List Str := ["_law_h"]
theorem sc_lday : FnScope N_lday P_lday (defScope s_lday) := ⟨rfl, rfl, rfl, by decide +kernel, rfl, by decide +kernel, by decide +kernel⟩
abbrev N_ldiary : List Str := ["_law_parts_here", "_law_days", "_law_h", "_law_found", "_law_day_here"]
abbrev P_ldiary : List Str := ["_law_parts_here", "_law_days"]
theorem sc_ldiary : FnScope N_ldiary P_ldiary (defScope s_ldiary) := ⟨rfl, rfl, rfl, by decide +kernel, rfl, by decide +kernel, by decide +kernel⟩
abbrev N_lraised : List Str := ["_law_work", "e", "_law_kinds"]
abbrev P_lraised : List Str := ["_law_work"]
theorem sc_lraised : FnScope N_lraised P_lraised (defScope s_lraised) := ⟨rfl, rfl, rfl, by decide +kernel, rfl, by decide +kernel, by decide +kernel⟩
abbrev N_law : List Str := ["_law_script", "_law_row", "_law_parts_here", "_law_count", "_law_ring", "_law_due", "_law_torn", "_law_entry", "_law_k", "_law_bad", "_law_live", "_law_early", "_law_part"]
abbrev P_law : List Str := ["_law_script"]
theorem sc_law : FnScope N_law P_law (defScope s_law) := ⟨rfl, rfl, rfl, by decide +kernel, rfl, by decide +kernel, by decide +kernel⟩
/-- what the top has written: the defs where they stand, the class, constants, built-ins that are still so -/
structure Tx (K : PySem.W.Frag) (mg : Str → Option Value) where
  C : Addr
  a_iDiaryError : Addr
  d_iDiaryError : FuncData
  F_iDiaryError : Fun K "__init__" "DiaryError.__init__" s_iDiaryError a_iDiaryError d_iDiaryError
  b_iDiaryError : Binds K d_iDiaryError P_iDiaryError []
  c_iDiaryError : Addr
  gc_iDiaryError : mg "DiaryError" = some (.ref c_iDiaryError)
  ic_iDiaryError : PySem.W.findIn K (.ref c_iDiaryError) "__init__" = some (some (.ref a_iDiaryError))
  it_iDiaryError : PySem.W.typeIn K (.ref a_iDiaryError) = some (.type "function")
  io_iDiaryError : oxB K c_iDiaryError = true
  a_is_number : Addr
  d_is_number : FuncData
  F_is_number : Fun K "is_number" "is_number" s_is_number a_is_number d_is_number
  b_is_number : Binds K d_is_number P_is_number []
  g_is_number : mg "is_number" = some (.ref a_is_number)
  a_lies_between : Addr
  d_lies_between : FuncData
  F_lies_between : Fun K "lies_between" "lies_between" s_lies_between a_lies_between d_lies_between
  b_lies_between : Binds K d_lies_between P_lies_between []
  g_lies_between : mg "lies_between" = some (.ref a_lies_between)
  a_check_number : Addr
  d_check_number : FuncData
  F_check_number : Fun K "check_number" "check_number" s_check_number a_check_number d_check_number
  b_check_number : Binds K d_check_number P_check_number []
  g_check_number : mg "check_number" = some (.ref a_check_number)
  a_check_reader : Addr
  d_check_reader : FuncData
  F_check_reader : Fun K "check_reader" "check_reader" s_check_reader a_check_reader d_check_reader
  b_check_reader : Binds K d_check_reader P_check_reader []
  g_check_reader : mg "check_reader" = some (.ref a_check_reader)
  a_rinit : Addr
  d_rinit : FuncData
  F_rinit : Fun K "__init__" "Ring.__init__" s_rinit a_rinit d_rinit
  b_rinit : Binds K d_rinit P_rinit []
  a_rdays : Addr
  d_rdays : FuncData
  F_rdays : Fun K "days" "Ring.days" s_rdays a_rdays d_rdays
  b_rdays : Binds K d_rdays P_rdays []
  a_rstarts : Addr
  d_rstarts : FuncData
  F_rstarts : Fun K "starts" "Ring.starts" s_rstarts a_rstarts d_rstarts
  b_rstarts : Binds K d_rstarts P_rstarts []
  a_rbooks : Addr
  d_rbooks : FuncData
  F_rbooks : Fun K "books" "Ring.books" s_rbooks a_rbooks d_rbooks
  b_rbooks : Binds K d_rbooks P_rbooks []
  a_rpace : Addr
  d_rpace : FuncData
  F_rpace : Fun K "pace" "Ring.pace" s_rpace a_rpace d_rpace
  b_rpace : Binds K d_rpace P_rpace []
  a_rlen : Addr
  d_rlen : FuncData
  F_rlen : Fun K "__len__" "Ring.__len__" s_rlen a_rlen d_rlen
  b_rlen : Binds K d_rlen P_rlen []
  a_rcall : Addr
  d_rcall : FuncData
  F_rcall : Fun K "__call__" "Ring.__call__" s_rcall a_rcall d_rcall
  b_rcall : Binds K d_rcall P_rcall []
  a_check_part : Addr
  d_check_part : FuncData
  F_check_part : Fun K "check_part" "check_part" s_check_part a_check_part d_check_part
  b_check_part : Binds K d_check_part P_check_part []
  g_check_part : mg "check_part" = some (.ref a_check_part)
  a_end_day : Addr
  d_end_day : FuncData
  F_end_day : Fun K "end_day" "end_day" s_end_day a_end_day d_end_day
  b_end_day : Binds K d_end_day P_end_day []
  g_end_day : mg "end_day" = some (.ref a_end_day)
  a_book_of : Addr
  d_book_of : FuncData
  F_book_of : Fun K "book_of" "book_of" s_book_of a_book_of d_book_of
  b_book_of : Binds K d_book_of P_book_of []
  g_book_of : mg "book_of" = some (.ref a_book_of)
  a_reader_before : Addr
  d_reader_before : FuncData
  F_reader_before : Fun K "reader_before" "reader_before" s_reader_before a_reader_before d_reader_before
  b_reader_before : Binds K d_reader_before P_reader_before []
  g_reader_before : mg "reader_before" = some (.ref a_reader_before)
  a_reader_after : Addr
  d_reader_after : FuncData
  F_reader_after : Fun K "reader_after" "reader_after" s_reader_after a_reader_after d_reader_after
  b_reader_after : Binds K d_reader_after P_reader_after []
  g_reader_after : mg "reader_after" = some (.ref a_reader_after)
  a_diary_of : Addr
  d_diary_of : FuncData
  F_diary_of : Fun K "diary_of" "diary_of" s_diary_of a_diary_of d_diary_of
  b_diary_of : Binds K d_diary_of P_diary_of []
  g_diary_of : mg "diary_of" = some (.ref a_diary_of)
  a_mended : Addr
  d_mended : FuncData
  F_mended : Fun K "mended" "mended" s_mended a_mended d_mended
  b_mended : Binds K d_mended P_mended []
  g_mended : mg "mended" = some (.ref a_mended)
  a_can_be : Addr
  d_can_be : FuncData
  F_can_be : Fun K "can_be" "can_be" s_can_be a_can_be d_can_be
  b_can_be : Binds K d_can_be P_can_be []
  g_can_be : mg "can_be" = some (.ref a_can_be)
  a_is_same_number : Addr
  d_is_same_number : FuncData
  F_is_same_number : Fun K "is_same_number" "is_same_number" s_is_same_number a_is_same_number d_is_same_number
  b_is_same_number : Binds K d_is_same_number P_is_same_number []
  g_is_same_number : mg "is_same_number" = some (.ref a_is_same_number)
  a_tinit : Addr
  d_tinit : FuncData
  F_tinit : Fun K "__init__" "Table.__init__" s_tinit a_tinit d_tinit
  b_tinit : Binds K d_tinit P_tinit []
  a_first_table : Addr
  d_first_table : FuncData
  F_first_table : Fun K "first_table" "first_table" s_first_table a_first_table d_first_table
  b_first_table : Binds K d_first_table P_first_table []
  g_first_table : mg "first_table" = some (.ref a_first_table)
  a_copied_table : Addr
  d_copied_table : FuncData
  F_copied_table : Fun K "copied_table" "copied_table" s_copied_table a_copied_table d_copied_table
  b_copied_table : Binds K d_copied_table P_copied_table []
  g_copied_table : mg "copied_table" = some (.ref a_copied_table)
  a_begin_readings : Addr
  d_begin_readings : FuncData
  F_begin_readings : Fun K "begin_readings" "begin_readings" s_begin_readings a_begin_readings d_begin_readings
  b_begin_readings : Binds K d_begin_readings P_begin_readings []
  g_begin_readings : mg "begin_readings" = some (.ref a_begin_readings)
  a_end_readings : Addr
  d_end_readings : FuncData
  F_end_readings : Fun K "end_readings" "end_readings" s_end_readings a_end_readings d_end_readings
  b_end_readings : Binds K d_end_readings P_end_readings []
  g_end_readings : mg "end_readings" = some (.ref a_end_readings)
  a_put_book : Addr
  d_put_book : FuncData
  F_put_book : Fun K "put_book" "put_book" s_put_book a_put_book d_put_book
  b_put_book : Binds K d_put_book P_put_book []
  g_put_book : mg "put_book" = some (.ref a_put_book)
  a_let_pass : Addr
  d_let_pass : FuncData
  F_let_pass : Fun K "let_pass" "let_pass" s_let_pass a_let_pass d_let_pass
  b_let_pass : Binds K d_let_pass P_let_pass []
  g_let_pass : mg "let_pass" = some (.ref a_let_pass)
  a_is_operation : Addr
  d_is_operation : FuncData
  F_is_operation : Fun K "is_operation" "is_operation" s_is_operation a_is_operation d_is_operation
  b_is_operation : Binds K d_is_operation P_is_operation []
  g_is_operation : mg "is_operation" = some (.ref a_is_operation)
  a_carry_out : Addr
  d_carry_out : FuncData
  F_carry_out : Fun K "carry_out" "carry_out" s_carry_out a_carry_out d_carry_out
  b_carry_out : Binds K d_carry_out P_carry_out []
  g_carry_out : mg "carry_out" = some (.ref a_carry_out)
  a_cinit : Addr
  d_cinit : FuncData
  F_cinit : Fun K "__init__" "Course.__init__" s_cinit a_cinit d_cinit
  b_cinit : Binds K d_cinit P_cinit []
  a_vinit : Addr
  d_vinit : FuncData
  F_vinit : Fun K "__init__" "LiveRing.__init__" s_vinit a_vinit d_vinit
  b_vinit : Binds K d_vinit P_vinit []
  a_vpass_days : Addr
  d_vpass_days : FuncData
  F_vpass_days : Fun K "pass_days" "LiveRing.pass_days" s_vpass_days a_vpass_days d_vpass_days
  b_vpass_days : Binds K d_vpass_days P_vpass_days []
  a_vapply : Addr
  d_vapply : FuncData
  F_vapply : Fun K "apply" "LiveRing.apply" s_vapply a_vapply d_vapply
  a_executed : Addr
  d_executed : FuncData
  F_executed : Fun K "executed" "executed" s_executed a_executed d_executed
  b_executed : Binds K d_executed P_executed []
  g_executed : mg "executed" = some (.ref a_executed)
  a_ltaken : Addr
  d_ltaken : FuncData
  F_ltaken : Fun K "_law_taken" "_law_taken" s_ltaken a_ltaken d_ltaken
  b_ltaken : Binds K d_ltaken P_ltaken []
  g_ltaken : mg "_law_taken" = some (.ref a_ltaken)
  a_lparts : Addr
  d_lparts : FuncData
  F_lparts : Fun K "_law_parts" "_law_parts" s_lparts a_lparts d_lparts
  b_lparts : Binds K d_lparts P_lparts []
  g_lparts : mg "_law_parts" = some (.ref a_lparts)
  a_lbegin : Addr
  d_lbegin : FuncData
  F_lbegin : Fun K "_law_begin" "_law_begin" s_lbegin a_lbegin d_lbegin
  b_lbegin : Binds K d_lbegin P_lbegin []
  g_lbegin : mg "_law_begin" = some (.ref a_lbegin)
  a_lfirst : Addr
  d_lfirst : FuncData
  F_lfirst : Fun K "_law_first" "_law_first" s_lfirst a_lfirst d_lfirst
  b_lfirst : Binds K d_lfirst P_lfirst []
  g_lfirst : mg "_law_first" = some (.ref a_lfirst)
  a_lday : Addr
  d_lday : FuncData
  F_lday : Fun K "_law_day" "_law_day" s_lday a_lday d_lday
  b_lday : Binds K d_lday P_lday []
  g_lday : mg "_law_day" = some (.ref a_lday)
  a_ldiary : Addr
  d_ldiary : FuncData
  F_ldiary : Fun K "_law_diary" "_law_diary" s_ldiary a_ldiary d_ldiary
  b_ldiary : Binds K d_ldiary P_ldiary []
  g_ldiary : mg "_law_diary" = some (.ref a_ldiary)
  a_lraised : Addr
  d_lraised : FuncData
  F_lraised : Fun K "_law_raised" "_law_raised" s_lraised a_lraised d_lraised
  b_lraised : Binds K d_lraised P_lraised []
  g_lraised : mg "_law_raised" = some (.ref a_lraised)
  a_law : Addr
  d_law : FuncData
  F_law : Fun K "law" "law" s_law a_law d_law
  b_law : Binds K d_law P_law []
  g_law : mg "law" = some (.ref a_law)
  cl : Cls K C
  nD : NoAttr K C "_days"
  nS : NoAttr K C "_starts"
  mkR : Mk K C a_rinit
  gC : mg "Ring" = some (.ref C)
  tC : Addr
  clt : Cls K tC
  nt_ring : NoAttr K tC "ring"
  nt_day : NoAttr K tC "day"
  nt_heaps : NoAttr K tC "heaps"
  nt_current : NoAttr K tC "current"
  nt_coming : NoAttr K tC "coming"
  mkt : Mk K tC a_tinit
  gtC : mg "Table" = some (.ref tC)
  cC : Addr
  clc : Cls K cC
  nc_tables : NoAttr K cC "tables"
  nc_operations : NoAttr K cC "operations"
  nc_undone : NoAttr K cC "undone"
  mkc : Mk K cC a_cinit
  gcC : mg "Course" = some (.ref cC)
  vC : Addr
  clv : Cls K vC
  nv__course : NoAttr K vC "_course"
  nv__kept : NoAttr K vC "_kept"
  mkv : Mk K vC a_vinit
  gvC : mg "LiveRing" = some (.ref vC)
  mv_pass_days : Meth K vC "pass_days" a_vpass_days
  mv_apply : Meth K vC "apply" a_vapply
  p_rdays : Addr
  q_rdays : PropOf K C "days" p_rdays a_rdays
  p_rstarts : Addr
  q_rstarts : PropOf K C "starts" p_rstarts a_rstarts
  p_rbooks : Addr
  q_rbooks : PropOf K C "books" p_rbooks a_rbooks
  p_rpace : Addr
  q_rpace : PropOf K C "pace" p_rpace a_rpace
  lenC : PySem.W.findIn K (.ref C) "__len__" = some (some (.ref a_rlen))
  lenF : PySem.W.isFn K (.ref a_rlen) = true
  callC : StX.CallO K C a_rcall
  c_LATEST : ∃ t, mg "LATEST" = some (.int 1000000000000000000 t)
  c_MOST_ENTRIES : ∃ t, mg "MOST_ENTRIES" = some (.int 500 t)
  c_MOST_PASSED : ∃ t, mg "MOST_PASSED" = some (.int 400 t)
  c_FEWEST_READERS : ∃ t, mg "FEWEST_READERS" = some (.int 2 t)
  c_MOST_READERS : ∃ t, mg "MOST_READERS" = some (.int 8 t)
  c_MOST_DAYS : ∃ t, mg "MOST_DAYS" = some (.int 30 t)
  c_MOST_BOOKS : ∃ t, mg "MOST_BOOKS" = some (.int 12 t)
  z_len : mg "len" = none
  z_sum : mg "sum" = none
  z_max : mg "max" = none
  z_min : mg "min" = none
  z_range : mg "range" = none
  z_int : mg "int" = none
  z_bool : mg "bool" = none
  z_isinstance : mg "isinstance" = none
  z_tuple : mg "tuple" = none
  z_enumerate : mg "enumerate" = none
  z_list : mg "list" = none
  z_str : mg "str" = none
  z_sorted : mg "sorted" = none
  z_zip : mg "zip" = none
  z_all : mg "all" = none
end Rp
namespace Rp
open PySem PySem.Spec PyProof.Rows L2 Rz Rm
/-! ### a ring as it stands -/
theorem ds_ne : ¬ (("_days" : Str) = "_starts") := by decide +kernel
def flds (td ts : Addr) : List (Str × V) := putF "_starts" (.ref ts) (putF "_days" (.ref td) [])
theorem flds_days (td ts : Addr) : (flds td ts).lookup ("_days" : Str) = some (.ref td) := by
  unfold flds
  rw [lookup_putF, if_neg ds_ne, lookup_putF, if_pos rfl]
theorem flds_starts (td ts : Addr) : (flds td ts).lookup ("_starts" : Str) = some (.ref ts) := by
  unfold flds
  rw [lookup_putF, if_pos rfl]
/-- days and books at first that make a ring -/
structure Good (ds ss : List Int) : Prop where
  l2 : 2 ≤ ds.length
  l8 : ds.length ≤ 8
  ls : ss.length = ds.length
  d1 : ∀ y ∈ ds, 1 ≤ y ∧ y ≤ 30
  s0 : ∀ y ∈ ss, 0 ≤ y ∧ y ≤ 12
  b1 : 1 ≤ ss.sum
  b12 : ss.sum ≤ 12
structure RingAt (C : Addr) (H : Hp) (p dx td ts : Addr) (ds ss : List Int) : Prop where
  ob : H p = some (.ins C dx (flds td ts))
  td : H td = some (.tup (ds.map V.int))
  ts : H ts = some (.tup (ss.map V.int))
  ok : Good ds ss
theorem RingAt.same {C : Addr} {H H' : Hp} {p dx td ts : Addr} {ds ss : List Int} (R : RingAt C H p dx td ts ds ss) (s : Same H H') : RingAt C H' p dx td ts ds ss :=
  ⟨s _ _ R.ob, s _ _ R.td, s _ _ R.ts, R.ok⟩
theorem sq_same {K : PySem.W.Frag} {H H' : Hp} {a : Addr} {xs : List V} (e : Same H H') (h : H a = some (.tup xs)) : SqT K H' a xs := .of (e _ _ h)
theorem same_upd {H : Hp} {p : Addr} {o : HO} (h : H p = none) : Same H (upd H p o) := fun b x e => by
  rw [upd_ne (ne_of_none e h)]
  exact e
section
variable {P : Program} {w : World} {K : PySem.W.Frag} {mg : Str → Option Value} {base : Heap}
/-! ### checks -/
/-- a number is one -/
def spIsNum : Sp := fun vs H Q _ => ∃ i : Int, vs = [.int i] ∧ Q (.bl true) H
theorem ok_is_number (T : Tx K mg) : FnOk P w K mg base CX0 1 T.a_is_number T.d_is_number P_is_number spIsNum := by
  refine T.F_is_number.ok sc_is_number (fun vs H Q E h => ?_) (fun cdv A outer s H vs Q E hr h => ?_)
  · obtain ⟨i, rfl, _⟩ := h
    rfl
  · obtain ⟨i, rfl, q⟩ := h
    refine ⟨_, pss_one (ps_ret (pe_and (pe_callB call_isi (by rfl) T.z_isinstance (by decide +kernel) (pa_cons (pv 0) (pa_cons (pe_bltn (v := .ty "int") (u := .type "int") (by rfl) T.z_int (by decide +kernel) rfl) pa_nil)))
      (pe_one (pe_not (pe_callB call_isi (by rfl) T.z_isinstance (by decide +kernel) (pa_cons (pv 0) (pa_cons (pe_bltn (v := .ty "bool") (u := .type "bool") (by rfl) T.z_bool (by decide +kernel) rfl) pa_nil))))))), ?_⟩
    refine ⟨.int i, rfl, .int i, .ty "int", .type "int", .type "int", true, rfl, .ty _, .base (.int i), kit_ty (by decide +kernel), true, rfl, iteT ?_⟩
    exact ⟨.int i, rfl, .int i, .ty "bool", .type "int", .type "bool", false, rfl, .ty _, .base (.int i), kit_ty (by decide +kernel), false, rfl, q⟩
def spLies : Sp := fun vs H Q _ => ∃ v lo hi : Int, vs = [.int v, .int lo, .int hi] ∧ Q (.bl (decide (lo ≤ v) && decide (v ≤ hi))) H
theorem ok_lies (T : Tx K mg) : FnOk P w K mg base CX0 2 T.a_lies_between T.d_lies_between P_lies_between spLies := by
  refine T.F_lies_between.ok sc_lies_between (fun vs H Q E h => ?_) (fun cdv A outer s H vs Q E hr h => ?_)
  · obtain ⟨v, lo, hi, rfl, _⟩ := h
    rfl
  · obtain ⟨v, lo, hi, rfl, q⟩ := h
    refine ⟨_, pss_one (ps_ret (pe_and (pe_call (ok_is_number T) hr (by rfl) T.g_is_number T.F_is_number.kp T.b_is_number .nil pass0 (pa_cons (pv 0) pa_nil)) (pe_one (pe_chain op_le op_le (pv 1) (pv 0) (pv 2))))), ?_⟩
    refine ⟨.int v, rfl, v, rfl, true, rfl, iteT ?_⟩
    refine ⟨.int lo, rfl, .int v, rfl, lo, v, rfl, rfl, decide (lo ≤ v), rfl, ?_⟩
    by_cases h : lo ≤ v
    · rw [decide_eq_true h] at q ⊢
      exact iteT ⟨.int hi, rfl, v, hi, rfl, rfl, q⟩
    · rw [decide_eq_false h] at q ⊢
      exact iteF q
theorem in_lim {v lo hi : Int} (h1 : lo ≤ v) (h2 : v ≤ hi) : (decide (lo ≤ v) && decide (v ≤ hi)) = true := by
  rw [decide_eq_true h1, decide_eq_true h2] <;> rfl
def spChk : Sp := fun vs H Q _ => ∃ v lo hi : Int, vs = [.int v, .int lo, .int hi] ∧ lo ≤ v ∧ v ≤ hi ∧ Q .non H
theorem ok_chk (T : Tx K mg) : FnOk P w K mg base CX0 3 T.a_check_number T.d_check_number P_check_number spChk := by
  refine T.F_check_number.ok sc_check_number (fun vs H Q E h => ?_) (fun cdv A outer s H vs Q E hr h => ?_)
  · obtain ⟨v, lo, hi, rfl, _⟩ := h
    rfl
  · obtain ⟨v, lo, hi, rfl, h1, h2, q⟩ := h
    refine ⟨_, pss_one (ps_if (pt_not (pt_val (pe_call (ok_lies T) hr (by rfl) T.g_lies_between T.F_lies_between.kp T.b_lies_between .nil pass0 (pa_cons (pv 0) (pa_cons (pv 1) (pa_cons (pv 2) pa_nil)))))) (pss_one ps_never) pss_nil), ?_⟩
    refine ⟨.int v, rfl, .int lo, rfl, .int hi, rfl, v, lo, hi, rfl, _, rfl, ?_⟩
    rw [in_lim h1 h2]
    exact iteF q
/-! ### the ring's own -/
def spLen (C : Addr) : Sp := fun vs H Q _ => ∃ p dx td ts ds ss, vs = [.ref p] ∧ RingAt C H p dx td ts ds ss ∧ Q (.int ds.length) H
theorem ok_len (T : Tx K mg) : FnOk P w K mg base CX0 1 T.a_rlen T.d_rlen P_rlen (spLen T.C) := by
  refine T.F_rlen.ok sc_rlen (fun vs H Q E h => ?_) (fun cdv A outer s H vs Q E hr h => ?_)
  · obtain ⟨p, dx, td, ts, ds, ss, rfl, _⟩ := h
    rfl
  · obtain ⟨p, dx, td, ts, ds, ss, rfl, R, q⟩ := h
    refine ⟨_, pss_one (ps_ret (pe_callB call_len_seq (by rfl) T.z_len PySem.boot_len (pa_cons (pe_fld (pv 0) rfl) pa_nil))), ?_⟩
    refine ⟨_, rfl, p, _, dx, _, _, rfl, R.ob, T.cl, T.nD, flds_days _ _, td, _, rfl, .inr (.of R.td), ?_⟩
    rw [List.length_map]
    exact q
def spDays (C : Addr) : Sp := fun vs H Q _ => ∃ p dx td ts ds ss, vs = [.ref p] ∧ RingAt C H p dx td ts ds ss ∧ Q (.ref td) H
def spStarts (C : Addr) : Sp := fun vs H Q _ => ∃ p dx td ts ds ss, vs = [.ref p] ∧ RingAt C H p dx td ts ds ss ∧ Q (.ref ts) H
def spBooks (C : Addr) : Sp := fun vs H Q _ => ∃ p dx td ts ds ss, vs = [.ref p] ∧ RingAt C H p dx td ts ds ss ∧ Q (.int ss.sum) H
theorem ok_days (T : Tx K mg) : FnOk P w K mg base CX0 1 T.a_rdays T.d_rdays P_rdays (spDays T.C) := by
  refine T.F_rdays.ok sc_rdays (fun vs H Q E h => ?_) (fun cdv A outer s H vs Q E hr h => ?_)
  · obtain ⟨p, dx, td, ts, ds, ss, rfl, _⟩ := h
    rfl
  · obtain ⟨p, dx, td, ts, ds, ss, rfl, R, q⟩ := h
    refine ⟨_, pss_one (ps_ret (pe_fld (pv 0) rfl)), ?_⟩
    exact ⟨_, rfl, p, _, dx, _, _, rfl, R.ob, T.cl, T.nD, flds_days _ _, q⟩
theorem ok_starts (T : Tx K mg) : FnOk P w K mg base CX0 1 T.a_rstarts T.d_rstarts P_rstarts (spStarts T.C) := by
  refine T.F_rstarts.ok sc_rstarts (fun vs H Q E h => ?_) (fun cdv A outer s H vs Q E hr h => ?_)
  · obtain ⟨p, dx, td, ts, ds, ss, rfl, _⟩ := h
    rfl
  · obtain ⟨p, dx, td, ts, ds, ss, rfl, R, q⟩ := h
    refine ⟨_, pss_one (ps_ret (pe_fld (pv 0) rfl)), ?_⟩
    exact ⟨_, rfl, p, _, dx, _, _, rfl, R.ob, T.cl, T.nS, flds_starts _ _, q⟩
theorem ok_books (T : Tx K mg) : FnOk P w K mg base CX0 1 T.a_rbooks T.d_rbooks P_rbooks (spBooks T.C) := by
  refine T.F_rbooks.ok sc_rbooks (fun vs H Q E h => ?_) (fun cdv A outer s H vs Q E hr h => ?_)
  · obtain ⟨p, dx, td, ts, ds, ss, rfl, _⟩ := h
    rfl
  · obtain ⟨p, dx, td, ts, ds, ss, rfl, R, q⟩ := h
    refine ⟨_, pss_one (ps_ret (pe_callB (cr_sumT rfl) (by rfl) T.z_sum (by decide +kernel) (pa_cons (pe_fld (pv 0) rfl) pa_nil))), ?_⟩
    exact ⟨_, rfl, p, _, dx, _, _, rfl, R.ob, T.cl, T.nS, flds_starts _ _, ts, ss, rfl, .of R.ts, q⟩
/-! ### check_reader -/
def spReader (C : Addr) : Sp := fun vs H Q _ => ∃ p dx td ts ds ss, ∃ r : Int, vs = [.ref p, .int r] ∧ RingAt C H p dx td ts ds ss ∧ 0 ≤ r ∧ r < ds.length ∧ Q .non H
theorem ok_reader (T : Tx K mg) : FnOk P w K mg base CX0 3 T.a_check_reader T.d_check_reader P_check_reader (spReader T.C) := by
  refine T.F_check_reader.ok sc_check_reader (fun vs H Q E h => ?_) (fun cdv A outer s H vs Q E hr h => ?_)
  · obtain ⟨p, dx, td, ts, ds, ss, r, rfl, _⟩ := h
    rfl
  · obtain ⟨p, dx, td, ts, ds, ss, r, rfl, R, h1, h2, q⟩ := h
    refine ⟨_, pss_one (ps_if (pt_not (pt_val (pe_call (ok_lies T) hr (by rfl) T.g_lies_between T.F_lies_between.kp T.b_lies_between .nil pass0
      (pa_cons (pv 1) (pa_cons pe_int (pa_cons (pe_op op_sub (pe_callB (call_lenI T.lenC T.lenF ((ok_len T).raw T.b_rlen .nil) hr pass0) (by rfl) T.z_len PySem.boot_len (pa_cons (pv 0) pa_nil)) pe_int) pa_nil)))))) (pss_one ps_never) pss_nil), ?_⟩
    have hl := R.ok.l8
    refine ⟨.int r, rfl, .ref p, rfl, p, dx, _, rfl, R.ob, p, dx, td, ts, ds, ss, rfl, R, (ds.length : Int), rfl, by omega, by omega, _, _, rfl, rfl, ?_⟩
    refine ⟨r, 0, (ds.length : Int) - 1, rfl, _, rfl, ?_⟩
    rw [in_lim h1 (show r ≤ (ds.length : Int) - 1 by omega)]
    exact iteF q
end
end Rp
namespace Rp
open PySem PySem.Spec PyProof.Rows L2 Rz Rm
/-! ### the pace -/
/-- days that readers need -/
structure Dys (ds : List Int) : Prop where
  ne : 0 < ds.length
  d1 : ∀ y ∈ ds, 1 ≤ y
theorem Good.dys {ds ss : List Int} (G : Good ds ss) : Dys ds := ⟨by have := G.l2; omega, fun y h => (G.d1 y h).1⟩
def mx (ds : List Int) : Int := ds.foldr max 0
theorem mx_nn : ∀ ds : List Int, 0 ≤ mx ds
  | [] => Int.le_refl _
  | a :: r => by
    have := mx_nn r
    show 0 ≤ max a (mx r)
    omega
theorem le_mx : ∀ {ds : List Int} {y : Int}, y ∈ ds → y ≤ mx ds
  | a :: r, y, h => by
    show y ≤ max a (mx r)
    rcases List.mem_cons.mp h with e | e
    · omega
    · have := le_mx e
      omega
theorem mx_le : ∀ {ds : List Int} {M : Int}, 0 ≤ M → (∀ y ∈ ds, y ≤ M) → mx ds ≤ M
  | [], _, h, _ => h
  | a :: r, M, h, hu => by
    have h1 := hu a List.mem_cons_self
    have h2 := mx_le (ds := r) h fun y hy => hu y (List.mem_cons_of_mem _ hy)
    show max a (mx r) ≤ M
    omega
theorem mx_eq {ds : List Int} {M : Int} (D : Dys ds) (hM : M ∈ ds) (hMu : ∀ y ∈ ds, y ≤ M) : mx ds = M :=
  Int.le_antisymm (mx_le (by have := D.d1 M hM; omega) hMu) (le_mx hM)
theorem mx_mem : ∀ {ds : List Int}, ds ≠ [] → (∀ y ∈ ds, 0 ≤ y) → mx ds ∈ ds
  | [], h, _ => absurd rfl h
  | [a], _, h => by
    have h1 := h a (by simp)
    show max a 0 ∈ [a]
    rw [show max a 0 = a by omega]
    simp
  | a :: b :: r, _, h => by
    have ih := mx_mem (ds := b :: r) (by simp) fun y hy => h y (List.mem_cons_of_mem _ hy)
    show max a (mx (b :: r)) ∈ a :: b :: r
    by_cases c : a ≤ mx (b :: r)
    · rw [show max a (mx (b :: r)) = mx (b :: r) by omega]
      exact List.mem_cons_of_mem _ ih
    · rw [show max a (mx (b :: r)) = a by omega]
      exact List.mem_cons_self
theorem Dys.mem {ds : List Int} (D : Dys ds) : mx ds ∈ ds := mx_mem (fun e => by
  have := D.ne
  rw [e] at this
  exact absurd this (Nat.lt_irrefl _)) fun y h => by have := D.d1 y h; omega
def gq (ds : List Int) (b : Int) : Int := ((Nat.gcd ds.sum.natAbs b.natAbs : Nat) : Int)
/-- the pace's two numbers -/
def pX (ds : List Int) (b : Int) : Int := if ds.sum ≤ mx ds * b then mx ds else ds.sum / gq ds b
def pY (ds : List Int) (b : Int) : Int := if ds.sum ≤ mx ds * b then 1 else b / gq ds b
theorem gq_facts {ds : List Int} {b : Int} (h : 1 ≤ b) : 1 ≤ gq ds b ∧ gq ds b ≤ b ∧ gq ds b ∣ ds.sum ∧ gq ds b ∣ b := by
  have g0 : 0 < Nat.gcd ds.sum.natAbs b.natAbs := Nat.gcd_pos_of_pos_right _ (by omega)
  have gle : Nat.gcd ds.sum.natAbs b.natAbs ≤ b.natAbs := Nat.le_of_dvd (by omega) (Nat.gcd_dvd_right _ _)
  unfold gq
  exact ⟨by omega, by omega, Int.ofNat_dvd_left.mpr (Nat.gcd_dvd_left _ _), Int.ofNat_dvd_left.mpr (Nat.gcd_dvd_right _ _)⟩
section
variable {P : Program} {w : World} {K : PySem.W.Frag} {mg : Str → Option Value} {base : Heap}
/-! ### check_part -/
def spPart : Sp := fun vs H Q _ => ∃ (part : Str) (v l n : Addr) (ns : List Int) (lo hi f m : Int), vs = [.str part, .ref v, .ref l, .ref n] ∧ H v = some (.tup (ns.map V.int)) ∧ H l = some (.tup [.int lo, .int hi]) ∧ H n = some (.tup [.int f, .int m]) ∧
  (∀ y ∈ ns, lo ≤ y ∧ y ≤ hi) ∧ f ≤ ns.length ∧ (ns.length : Int) ≤ m ∧ ∀ H', Same H H' → Q .non H'
theorem get_int {ns : List Int} {i : Nat} {y : V} (h : (ns.map V.int)[i]? = some y) : ∃ z, ns[i]? = some z ∧ y = .int z := by
  rw [List.getElem?_map] at h
  cases e : ns[i]? with
  | none =>
    rw [e] at h
    cases h
  | some z =>
    rw [e] at h
    exact ⟨z, rfl, (Option.some.inj h).symm⟩
theorem ok_part (T : Tx K mg) : FnOk P w K mg base CX0 3 T.a_check_part T.d_check_part P_check_part spPart := by
  refine T.F_check_part.ok sc_check_part (fun vs H Q E h => ?_) (fun cdv A outer s H vs Q E hr h => ?_)
  · obtain ⟨part, v, l, n, ns, lo, hi, f, m, rfl, _⟩ := h
    rfl
  · obtain ⟨part, v, l, n, ns, lo, hi, f, m, rfl, hv, hl, hn, hall, hf, hm, q⟩ := h
    have nd := sc_check_part.nd
    refine ⟨_, pss_cons (ps_if (pt_not (pt_val (pe_callB call_isi (by rfl) T.z_isinstance (by decide +kernel) (pa_cons (pv 1) (pa_cons (pe_bltn (v := .ty "tuple") (u := .type "tuple") (by rfl) T.z_tuple (by decide +kernel) rfl) pa_nil))))) (pss_one ps_never) pss_nil)
      (pss_cons (ps_asg (pv 2) (pg_tup rfl (pgs_cons (pg_name (i := 4) nd rfl (.inl rfl)) (pgs_cons (pg_name (i := 5) nd rfl (.inl rfl)) pgs_nil))))
      (pss_cons (ps_asg (pv 3) (pg_tup rfl (pgs_cons (pg_name (i := 6) nd rfl (.inl rfl)) (pgs_cons (pg_name (i := 7) nd rfl (.inl rfl)) pgs_nil))))
      (pss_cons (ps_for PassesOwn.never rfl (pi_enumT (by rfl) T.z_enumerate (pa_cons (pv 1) pa_nil)) (pg_tup rfl (pgs_cons (pg_name (i := 8) nd rfl (.inl rfl)) (pgs_cons (pg_name (i := 9) nd rfl (.inl rfl)) pgs_nil)))
        (pss_one (ps_if (PW.pt (pw_or (pt_cmpR op_ge (pv 8) (pv 7) (nomark _)) (pw_or1 (pt_not (pt_val (pe_call (ok_lies T) hr (by rfl) T.g_lies_between T.F_lies_between.kp T.b_lies_between .nil pass0 (pa_cons (pv 9) (pa_cons (pv 4) (pa_cons (pv 5) pa_nil)))))))))
          (pss_one ps_never) pss_nil)))
      (pss_one (ps_if (pt_cmpR op_lt (pe_callB call_len_seq (by rfl) T.z_len PySem.boot_len (pa_cons (pv 1) pa_nil)) (pv 6) (nomark _)) (pss_one ps_never) pss_nil))))), ?_⟩
    -- isinstance(values, tuple)
    refine ⟨.ref v, rfl, .ref v, .ty "tuple", .type "tuple", .type "tuple", true, rfl, .ty _, .base (.tup hv), kit_ty (by decide +kernel), true, rfl, iteF ?_⟩
    -- low, high = limits; fewest, most = lengths
    refine ⟨.ref l, rfl, l, _, rfl, .of hl, rfl, _, _, rfl, _, _, rfl, rfl, ?_⟩
    refine ⟨.ref n, rfl, n, _, rfl, .of hn, rfl, _, _, rfl, _, _, rfl, rfl, ?_⟩
    -- for index, value in enumerate(values)
    refine ⟨.ref v, rfl, v, _, rfl, .of hv, for_it walk_enumT (fun i σ H' => ∃ y8 y9, σ = [some (.str part), some (.ref v), some (.ref l), some (.ref n), some (.int lo), some (.int hi), some (.int f), some (.int m), y8, y9] ∧ Same H H')
      ⟨none, none, rfl, Same.refl H⟩ (fun i σ H' _ ⟨_, _, _, sm⟩ => sq_same sm hv) ?_ ?_⟩
    · rintro i x σ H1 H2 hi1 ⟨y8, y9, rfl, sm⟩ ⟨t, a, b, rfl, nt, rfl, ha, hb⟩
      have ha' : a = .int (i : Nat) := (Option.some.inj ha).symm
      subst ha'
      obtain ⟨z, hz, rfl⟩ := get_int hb
      rw [List.length_map] at hi1
      have hz2 := hall z (List.mem_of_getElem? hz)
      refine ⟨t, _, rfl, .of upd_same, rfl, _, _, rfl, _, _, rfl, rfl, ?_⟩
      refine ⟨.int (i : Nat), rfl, .int m, rfl, _, _, rfl, rfl, _, rfl, ?_⟩
      rw [decide_eq_false (show ¬ m ≤ ((i : Nat) : Int) by omega)]
      refine iteF ?_
      refine ⟨.int z, rfl, .int lo, rfl, .int hi, rfl, z, lo, hi, rfl, _, rfl, ?_⟩
      rw [in_lim hz2.1 hz2.2]
      exact iteF ⟨_, _, rfl, sm.trans (same_upd nt)⟩
    · rintro σ H1 ⟨y8, y9, rfl, sm⟩
      refine ⟨.ref v, rfl, v, _, rfl, .inr (sq_same sm hv), .int f, rfl, _, _, rfl, rfl, _, rfl, ?_⟩
      rw [List.length_map, decide_eq_false (show ¬ (ns.length : Int) < f by omega)]
      exact iteF (q H1 sm)
/-! ### Ring.__init__ -/
def spInit (C : Addr) : Sp := fun vs H Q _ => ∃ (p dx td ts : Addr) (ds ss : List Int), vs = [.ref p, .ref td, .ref ts] ∧ H p = some (.ins C dx []) ∧ H td = some (.tup (ds.map V.int)) ∧ H ts = some (.tup (ss.map V.int)) ∧ Good ds ss ∧
  ∀ H', RingAt C H' p dx td ts ds ss → (∀ b o, H b = some o → b ≠ p → H' b = some o) → Q .non H'
theorem ok_init (T : Tx K mg) : FnOk P w K mg base CX0 4 T.a_rinit T.d_rinit P_rinit (spInit T.C) := by
  refine T.F_rinit.ok sc_rinit (fun vs H Q E h => ?_) (fun cdv A outer s H vs Q E hr h => ?_)
  · obtain ⟨p, dx, td, ts, ds, ss, rfl, _⟩ := h
    rfl
  · obtain ⟨p, dx, td, ts, ds, ss, rfl, hp, hd, hs, G, q⟩ := h
    obtain ⟨u1, c1⟩ := T.c_MOST_DAYS
    obtain ⟨u2, c2⟩ := T.c_FEWEST_READERS
    obtain ⟨u3, c3⟩ := T.c_MOST_READERS
    obtain ⟨u4, c4⟩ := T.c_MOST_BOOKS
    have l2 := G.l2
    have l8 := G.l8
    have ls := G.ls
    refine ⟨_, pss_cons (ps_expr (pe_call (ok_part T) hr (by rfl) T.g_check_part T.F_check_part.kp T.b_check_part .nil pass0 (pa_cons pe_str (pa_cons (pv 1) (pa_cons (pe_tup (pa_cons pe_int (pa_cons (pe_glob (v := .int 30) (by rfl) c1 ⟨_, rfl⟩) pa_nil))) (pa_cons (pe_tup (pa_cons (pe_glob (v := .int 2) (by rfl) c2 ⟨_, rfl⟩) (pa_cons (pe_glob (v := .int 8) (by rfl) c3 ⟨_, rfl⟩) pa_nil))) pa_nil))))))
      (pss_cons (ps_expr (pe_call (ok_part T) hr (by rfl) T.g_check_part T.F_check_part.kp T.b_check_part .nil pass0 (pa_cons pe_str (pa_cons (pv 2) (pa_cons (pe_tup (pa_cons pe_int (pa_cons (pe_glob (v := .int 12) (by rfl) c4 ⟨_, rfl⟩) pa_nil)))
        (pa_cons (pe_tup (pa_cons (pe_callB call_len_seq (by rfl) T.z_len PySem.boot_len (pa_cons (pv 1) pa_nil)) (pa_cons (pe_callB call_len_seq (by rfl) T.z_len PySem.boot_len (pa_cons (pv 1) pa_nil)) pa_nil))) pa_nil))))))
      (pss_cons (ps_if (pt_not (pt_chain op_le op_le pe_int (pe_callB (cr_sumT rfl) (by rfl) T.z_sum (by decide +kernel) (pa_cons (pv 2) pa_nil)) (pe_glob (v := .int 12) (by rfl) c4 ⟨_, rfl⟩))) (pss_one ps_never) pss_nil)
      (pss_cons (ps_fld (pv 0) (pe_callTy call_tupleT (by rfl) T.z_tuple (by decide +kernel) (pa_cons (pv 1) pa_nil)) rfl)
      (pss_one (ps_fld (pv 0) (pe_callTy call_tupleT (by rfl) T.z_tuple (by decide +kernel) (pa_cons (pv 2) pa_nil)) rfl))))), ?_⟩
    -- check_part("days", ..)
    refine ⟨.ref td, rfl, (by show 2 ≤ sizeLine; decide), fun a1 h1 => ⟨(by show 2 ≤ sizeLine; decide), fun a2 h2 => ?_⟩⟩
    have s1 := same_upd (o := .tup [.int 1, .int 30]) h1
    have s2 := same_upd (o := .tup [.int 2, .int 8]) h2
    refine ⟨_, td, a1, a2, ds, 1, 30, 2, 8, rfl, s2 _ _ (s1 _ _ hd), s2 _ _ upd_same, upd_same, G.d1, by omega, by omega, fun H1 s3 => ?_⟩
    have t1 : Same H H1 := (s1.trans s2).trans s3
    -- check_part("starts", ..)
    refine ⟨.ref ts, rfl, (by show 2 ≤ sizeLine; decide), fun a3 h3 => ?_⟩
    have s4 := same_upd (o := .tup [.int 0, .int 12]) h3
    refine ⟨.ref td, rfl, td, _, rfl, .inr (sq_same (t1.trans s4) hd), .ref td, rfl, td, _, rfl, .inr (sq_same (t1.trans s4) hd), (by show 2 ≤ sizeLine; decide), fun a4 h4 => ?_⟩
    have s5 := same_upd (o := .tup [.int ((ds.map V.int).length : Nat), .int ((ds.map V.int).length : Nat)]) h4
    refine ⟨_, ts, a3, a4, ss, 0, 12, ((ds.map V.int).length : Nat), ((ds.map V.int).length : Nat), rfl, s5 _ _ (s4 _ _ (t1 _ _ hs)), s5 _ _ upd_same, upd_same, G.s0, by rw [List.length_map]; omega, by rw [List.length_map]; omega, fun H2 s6 => ?_⟩
    have t2 : Same H H2 := ((t1.trans s4).trans s5).trans s6
    -- not 1 <= sum(starts) <= MOST_BOOKS
    refine ⟨.ref ts, rfl, ts, ss, rfl, sq_same t2 hs, _, _, rfl, rfl, _, rfl, ?_⟩
    rw [decide_eq_true G.b1]
    refine iteT ⟨_, _, rfl, rfl, _, rfl, ?_⟩
    rw [decide_eq_true G.b12]
    refine iteF ?_
    -- the two attributes
    refine ⟨.ref td, rfl, td, _, rfl, sq_same t2 hd, _, rfl, p, T.C, dx, [], rfl, t2 _ _ hp, T.cl, T.nD, (by show 0 < 1000; decide), ?_⟩
    have npt : ts ≠ p := ne_of hs hp (by intro z; cases z)
    have npd : td ≠ p := ne_of hd hp (by intro z; cases z)
    refine ⟨.ref ts, rfl, ts, ss.map V.int, rfl, .of (by rw [upd_ne npt]; exact t2 _ _ hs), _, rfl, p, T.C, dx, _, rfl, upd_same, T.cl, T.nS, (by show 1 < 1000; decide), ?_⟩
    refine q _ ⟨upd_same, by rw [upd_ne npd, upd_ne npd]; exact t2 _ _ hd, by rw [upd_ne npt, upd_ne npt]; exact t2 _ _ hs, G⟩ fun b o e hb => ?_
    rw [upd_ne hb, upd_ne hb]
    exact t2 _ _ e
end
end Rp
namespace Rp
open PySem PySem.Spec PyProof.Rows L2 Rz Rm
theorem at_ix {ds : List Int} {z : Int} (h1 : -(ds.length : Int) ≤ z) (h2 : z < ds.length) : atI (ds.map V.int) z = some (.int (at' ds z)) := by
  have hl : 0 < ds.length := by omega
  have h0 := Int.emod_nonneg z (show (ds.length : Int) ≠ 0 by omega)
  have hlt := Int.emod_lt_of_pos z (show (0 : Int) < ds.length by omega)
  have e : ixN (ds.map V.int).length z = some (z % (ds.length : Int)).toNat := by
    unfold ixN
    rw [List.length_map]
    by_cases h : 0 ≤ z
    · rw [if_pos h, if_pos h2, Int.emod_eq_of_lt h h2]
    · rw [if_neg h, if_pos h1]
      have e2 := Int.add_mul_emod_self_left z (ds.length : Int) 1
      rw [Int.mul_one, Int.emod_eq_of_lt (a := z + ds.length) (by omega) (by omega)] at e2
      rw [e2]
  unfold atI
  rw [e]
  show (ds.map V.int)[(z % (ds.length : Int)).toNat]? = _
  rw [List.getElem?_map]
  unfold at'
  rw [List.getD_eq_getElem?_getD, List.getElem?_eq_getElem (show (z % (ds.length : Int)).toNat < ds.length by omega)]
  rfl
theorem Good.ring {ds ss : List Int} (G : Good ds ss) {M : Int} (hM : M ∈ ds) (hMu : ∀ y ∈ ds, y ≤ M) : Rm.Ring ds.length (at' ds) (at' ss) ss.sum ds.sum M :=
  ring_of (by have := G.l2; omega) G.ls (fun y h => (G.d1 y h).1) (fun y h => (G.s0 y h).1) G.b1 hM hMu
theorem exists_max : ∀ {ds : List Int}, ds ≠ [] → ∃ M, M ∈ ds ∧ ∀ y ∈ ds, y ≤ M
  | [], h => absurd rfl h
  | [a], _ => ⟨a, by simp, by simp⟩
  | a :: b :: r, _ => by
    obtain ⟨M, h1, h2⟩ := exists_max (ds := b :: r) (by simp)
    by_cases h : a ≤ M
    · exact ⟨M, List.mem_cons_of_mem _ h1, fun y hy => by
        rcases List.mem_cons.mp hy with e | e
        · omega
        · exact h2 y e⟩
    · exact ⟨a, List.mem_cons_self, fun y hy => by
        rcases List.mem_cons.mp hy with e | e
        · omega
        · have := h2 y e; omega⟩
theorem Good.max {ds ss : List Int} (G : Good ds ss) : ∃ M, M ∈ ds ∧ ∀ y ∈ ds, y ≤ M := exists_max (by
  intro e
  have := G.l2
  rw [e] at this
  simp at this)
theorem sum_bounds : ∀ {ds : List Int}, (∀ y ∈ ds, 1 ≤ y ∧ y ≤ 30) → (ds.length : Int) ≤ ds.sum ∧ ds.sum ≤ 30 * ds.length
  | [], _ => by simp
  | a :: r, h => by
    have h1 := h a List.mem_cons_self
    have ih := sum_bounds (ds := r) fun y hy => h y (List.mem_cons_of_mem _ hy)
    rw [List.sum_cons, List.length_cons]
    omega
theorem max_if (i j : Int) : (if j > i then j else i) = max i j := by
  by_cases h : j > i
  · rw [if_pos h]
    omega
  · rw [if_neg h]
    omega
section
variable {P : Program} {w : World} {K : PySem.W.Frag} {mg : Str → Option Value} {base : Heap}
/-! ### end_day -/
def spEnd (C : Addr) : Sp := fun vs H Q _ => ∃ p dx td ts ds ss, ∃ r x : Int, vs = [.ref p, .int r, .int x] ∧ RingAt C H p dx td ts ds ss ∧ 0 ≤ r ∧ r < ds.length ∧ 0 ≤ x ∧ Q (.int (Rm.E (at' ds) (at' ss) r x)) H
/-- the loop's slots ahead of step i -/
def edS (p : Addr) (r x B M g L : Int) (ds ss : List Int) (i : Nat) (y10 y11 : Option V) : L2.St :=
  [some (.ref p), some (.int r), some (.int x), some (.int B), some (.int M), some (.int g), some (.int L), some (.int (sumBack (at' ds) r i)), some (.int (if i = 0 then 0 else maxBack (at' ds) r (i - 1))), some (.int (x - sumBack (at' ss) r i)), y10, y11]
theorem met_next {ds : List Int} (h1 : ∀ i, 1 ≤ at' ds i) (r : Int) (i : Nat) : (if at' ds (r - i) > (if i = 0 then 0 else maxBack (at' ds) r (i - 1)) then at' ds (r - i) else (if i = 0 then 0 else maxBack (at' ds) r (i - 1))) = maxBack (at' ds) r i := by
  rw [max_if]
  cases i with
  | zero =>
    have := h1 (r - (0 : Nat))
    show max 0 (at' ds (r - (0 : Nat))) = at' ds r
    rw [show r - ((0 : Nat) : Int) = r by omega] at this ⊢
    omega
  | succ i =>
    rw [if_neg (Nat.succ_ne_zero i)]
    show max (maxBack (at' ds) r i) (at' ds (r - (i + 1 : Nat))) = max (maxBack (at' ds) r i) (at' ds (r - (i + 1 : Nat)))
    rfl
theorem ok_end (T : Tx K mg) : FnOk P w K mg base CX0 3 T.a_end_day T.d_end_day P_end_day (spEnd T.C) := by
  refine T.F_end_day.ok sc_end_day (fun vs H Q E h => ?_) (fun cdv A outer s H vs Q E hr h => ?_)
  · obtain ⟨p, dx, td, ts, ds, ss, r, x, rfl, _⟩ := h
    rfl
  · obtain ⟨p, dx, td, ts, ds, ss, r, x, rfl, R, r0, r1, x0, q⟩ := h
    have nd := sc_end_day.nd
    have G := R.ok
    have l2 := G.l2
    have l8 := G.l8
    have ls := G.ls
    have rdD : ∀ {Q' : VK} {E' : XK}, Q' (.ref td) H → spDays T.C [.ref p] H Q' E' := fun z => ⟨p, dx, td, ts, ds, ss, rfl, R, z⟩
    have rdS : ∀ {Q' : VK} {E' : XK}, Q' (.ref ts) H → spStarts T.C [.ref p] H Q' E' := fun z => ⟨p, dx, td, ts, ds, ss, rfl, R, z⟩
    refine ⟨_, pss_cons (ps_set (i := 3) nd rfl (.inl rfl) (pe_prop (pv 0) T.cl T.q_rbooks (ok_books T) hr T.b_rbooks .nil pass0 rfl))
      (pss_cons (ps_set (i := 4) nd rfl (.inl rfl) (pe_callB (cr_maxT rfl) (by rfl) T.z_max (by decide +kernel) (pa_cons (pe_prop (pv 0) T.cl T.q_rdays (ok_days T) hr T.b_rdays .nil pass0 rfl) pa_nil)))
      (pss_cons (ps_set (i := 5) nd rfl (.inl rfl) (pe_op op_sub (pe_callB (cr_sumT rfl) (by rfl) T.z_sum (by decide +kernel) (pa_cons (pe_prop (pv 0) T.cl T.q_rdays (ok_days T) hr T.b_rdays .nil pass0 rfl) pa_nil)) (pe_op op_mul (pv 3) (pv 4))))
      (pss_cons (ps_asg3 pe_int (pg_name (i := 6) nd rfl (.inl rfl)) (pg_name (i := 7) nd rfl (.inl rfl)) (pg_name (i := 8) nd rfl (.inl rfl)))
      (pss_cons (ps_set (i := 9) nd rfl (.inl rfl) (pv 2))
      (pss_cons (ps_for PassesOwn.never rfl (pi_range1 (by rfl) T.z_range (pa_cons (pe_callB (call_lenI T.lenC T.lenF ((ok_len T).raw T.b_rlen .nil) hr pass0) (by rfl) T.z_len PySem.boot_len (pa_cons (pv 0) pa_nil)) pa_nil)) (pg_name (i := 10) nd rfl (.inl rfl))
        (pss_cons (ps_aug (i := 7) nd rfl (.inl rfl) (pe_ix ix_tup (pe_prop (pv 0) T.cl T.q_rdays (ok_days T) hr T.b_rdays .nil pass0 rfl) (pe_op op_sub (pv 1) (pv 10)) (fun _ _ => rfl)) ip_add)
        (pss_cons (ps_set (i := 8) nd rfl (.inl rfl) (pe_callB (call_max2 rfl) (by rfl) T.z_max (by decide +kernel) (pa_cons (pv 8) (pa_cons (pe_ix ix_tup (pe_prop (pv 0) T.cl T.q_rdays (ok_days T) hr T.b_rdays .nil pass0 rfl) (pe_op op_sub (pv 1) (pv 10)) (fun _ _ => rfl)) pa_nil))))
        (pss_cons (ps_set (i := 6) nd rfl (.inl rfl) (pe_callB (call_max2 rfl) (by rfl) T.z_max (by decide +kernel) (pa_cons (pv 6) (pa_cons (pe_op op_add (pv 7) (pe_op op_mul (pv 9) (pv 8))) pa_nil))))
        (pss_cons (ps_if (pt_cmpR op_ge (pv 9) (pv 3) (nomark _))
          (pss_cons (ps_set (i := 11) nd rfl (.inl rfl) (pe_ifExp (pt_cmpR op_gt (pv 5) pe_int (nomark _)) (pe_op op_fdiv (pv 9) (pv 3)) pe_int))
          (pss_one (ps_set (i := 6) nd rfl (.inl rfl) (pe_callB (call_max2 rfl) (by rfl) T.z_max (by decide +kernel) (pa_cons (pv 6) (pa_cons (pe_op op_add (pe_op op_add (pv 7) (pe_op op_mul (pv 9) (pv 4))) (pe_op op_mul (pv 11) (pv 5))) pa_nil)))))) pss_nil)
        (pss_cons (ps_aug (i := 9) nd rfl (.inl rfl) (pe_ix ix_tup (pe_prop (pv 0) T.cl T.q_rstarts (ok_starts T) hr T.b_rstarts .nil pass0 rfl) (pe_op op_sub (pv 1) (pv 10)) (fun _ _ => rfl)) ip_sub)
        (pss_one (ps_if (pt_cmpR op_lt (pv 9) pe_int (nomark _)) (pss_one ps_break) pss_nil))))))))
      (pss_one (ps_ret (pv 6)))))))), ?_⟩
    -- books, slowest, gain
    refine ⟨.ref p, rfl, p, dx, _, rfl, R.ob, p, dx, td, ts, ds, ss, rfl, R, ?_⟩
    refine ⟨.ref p, rfl, p, dx, _, rfl, R.ob, rdD ⟨td, ds, rfl, .of R.td, by omega, fun M hM hMu => ?_⟩⟩
    have RR := G.ring hM hMu
    have b1 := G.b1
    have b12 := G.b12
    have hM30 := G.d1 M hM
    have hT := sum_bounds G.d1
    have hBM : 0 ≤ ss.sum * M ∧ ss.sum * M ≤ 360 := by
      constructor
      · exact Int.mul_nonneg (by omega) (by omega)
      · have := Int.mul_le_mul_of_nonneg_right b12 (show 0 ≤ M by omega)
        omega
    refine ⟨.ref p, rfl, p, dx, _, rfl, R.ob, rdD ⟨td, ds, rfl, .of R.td, .int ss.sum, rfl, .int M, rfl, _, _, rfl, rfl, .inl ⟨by omega, by omega⟩, _, _, rfl, rfl, ?_⟩⟩
    -- latest = total = slowest_met = 0; left = number
    refine ⟨.int x, rfl, ?_⟩
    -- for step in range(len(ring))
    refine ⟨.ref p, rfl, p, dx, _, rfl, R.ob, p, dx, td, ts, ds, ss, rfl, R, (ds.length : Int), rfl, by omega, by omega, (ds.length : Int), rfl, by omega, by omega, for_range (lo := 0) (n := ((ds.length : Int) - 0).toNat)
      (fun i σ H' => H' = H ∧ ∃ L y10 y11, σ = edS p r x ss.sum M (ds.sum - ss.sum * M) L ds ss i y10 y11 ∧ sumBack (at' ss) r i ≤ x ∧ Sofar ds.length (at' ds) (at' ss) r x i L)
      ⟨rfl, 0, none, none, ?_, ?_, RR.sofar0 r x⟩ ?_ ?_⟩
    · show _ = ([some (.ref p), some (.int r), some (.int x), some (.int ss.sum), some (.int M), some (.int (ds.sum - ss.sum * M)), some (.int 0), some (.int 0), some (.int 0), some (.int (x - 0)), none, none] : L2.St)
      rw [show x - 0 = x by omega]
      rfl
    · show (0 : Int) ≤ x
      exact x0
    · rintro i σ H1 hi ⟨rfl, L, y10, y11, rfl, hle, SF⟩
      have hin : i < ds.length := by omega
      have e0 : (0 : Int) + (i : Int) = i := by omega
      have hix : atI (ds.map V.int) (r - (0 + (i : Int))) = some (.int (at' ds (r - i))) := by
        rw [e0]
        exact at_ix (by omega) (by omega)
      have hix2 : atI (ss.map V.int) (r - (0 + (i : Int))) = some (.int (at' ss (r - i))) := by
        rw [e0]
        exact at_ix (by omega) (by omega)
      -- total
      refine ⟨.int (sumBack (at' ds) r i), rfl, .ref p, rfl, p, dx, _, rfl, R.ob, rdD ⟨.int r, rfl, _, rfl, _, _, rfl, rfl, td, _, _, _, rfl, rfl, .of R.td, hix, _, _, rfl, rfl, ?_⟩⟩
      -- slowest_met
      refine ⟨_, rfl, .ref p, rfl, p, dx, _, rfl, R.ob, rdD ⟨.int r, rfl, _, rfl, _, _, rfl, rfl, td, _, _, _, rfl, rfl, .of R.td, hix, _, _, rfl, ?_⟩⟩
      rw [met_next RR.d1 r i]
      have hm1 : maxBack (at' ds) r i ≤ M := max_le RR.mu r i
      have hm0 : 1 ≤ maxBack (at' ds) r i := by
        have h1 := max_ge (f := at' ds) r (j := 0) (k := i) (Nat.zero_le _)
        have h2 := RR.d1 (r - (0 : Nat))
        omega
      -- latest
      refine ⟨.int L, rfl, .int (sumBack (at' ds) r (i + 1)), rfl, .int (x - sumBack (at' ss) r i), rfl, .int (maxBack (at' ds) r i), rfl, _, _, rfl, rfl, .inr ⟨by omega, by omega⟩, _, _, rfl, rfl, _, _, rfl, ?_⟩
      rw [max_if]
      have hch : sumBack (at' ds) r (i + 1) + (x - sumBack (at' ss) r i) * maxBack (at' ds) r i = ch (at' ds) (at' ss) r i x := rfl
      rw [hch]
      have hs : sumBack (at' ss) r (i + 1) = sumBack (at' ss) r i + at' ss (r - i) := rfl
      -- the end of a turn
      have fin : ∀ (L2 : Int) (y11' : Option V), Sofar ds.length (at' ds) (at' ss) r x (i + 1) L2 → tSeq (tAug 9 (tOp (rIxT K) (tProp T.C (spStarts T.C) [] E0 (tVar 0)) (tOp (rI0 fun i j => .int (i - j)) (tVar 1) (tVar 10))) (ipI fun i j => i - j)) (tIfS (tTest (tOp (rI0 fun i j => .bl (decide (i < j))) (tVar 9) (tC (.int 0)))) tBreak tNext)
          { nx := fun σ H' => H' = H1 ∧ ∃ L y10 y11, σ = edS p r x ss.sum M (ds.sum - ss.sum * M) L ds ss (i + 1) y10 y11 ∧ sumBack (at' ss) r (i + 1) ≤ x ∧ Sofar ds.length (at' ds) (at' ss) r x (i + 1) L,
            ct := fun σ H' => H' = H1 ∧ ∃ L y10 y11, σ = edS p r x ss.sum M (ds.sum - ss.sum * M) L ds ss (i + 1) y10 y11 ∧ sumBack (at' ss) r (i + 1) ≤ x ∧ Sofar ds.length (at' ds) (at' ss) r x (i + 1) L,
            rt := Q, bk := fun σ H' => tRet (tVar 6) { nx := fun _ H' => Q .non H', rt := Q } σ H' }
          [some (.ref p), some (.int r), some (.int x), some (.int ss.sum), some (.int M), some (.int (ds.sum - ss.sum * M)), some (.int L2), some (.int (sumBack (at' ds) r (i + 1))), some (.int (maxBack (at' ds) r i)), some (.int (x - sumBack (at' ss) r i)), some (.int (0 + (i : Int))), y11'] H1 := by
        intro L2 y11' SF2
        refine ⟨_, rfl, .ref p, rfl, p, dx, _, rfl, R.ob, rdS ⟨.int r, rfl, _, rfl, _, _, rfl, rfl, ts, _, _, _, rfl, rfl, .of R.ts, hix2, _, _, rfl, rfl, ?_⟩⟩
        have el : x - sumBack (at' ss) r i - at' ss (r - i) = x - sumBack (at' ss) r (i + 1) := by omega
        refine ⟨.int (x - sumBack (at' ss) r i - at' ss (r - i)), rfl, _, _, rfl, rfl, _, rfl, ?_⟩
        by_cases hb : x - sumBack (at' ss) r i - at' ss (r - i) < 0
        · rw [decide_eq_true hb]
          refine iteT ⟨.int L2, rfl, ?_⟩
          have := RR.E_of (RR.fin SF2 (.inr ⟨by omega, by omega⟩))
          rw [this] at q
          exact q
        · rw [decide_eq_false hb]
          refine iteF ⟨rfl, L2, some (.int (0 + (i : Int))), y11', ?_, by omega, SF2⟩
          unfold edS
          rw [← el]
          rfl
      -- if left >= books
      refine ⟨.int (x - sumBack (at' ss) r i), rfl, .int ss.sum, rfl, _, _, rfl, rfl, _, rfl, ?_⟩
      by_cases hb : ss.sum ≤ x - sumBack (at' ss) r i
      · rw [decide_eq_true hb]
        refine iteT ?_
        have go : ∀ rounds : Int, rounds = (if 0 < ds.sum - ss.sum * M then (x - sumBack (at' ss) r i) / ss.sum else 1) → _ := fun rounds hrd =>
          fin (max (max L (ch (at' ds) (at' ss) r i x)) (sumBack (at' ds) r (i + 1) + (x - sumBack (at' ss) r i) * M + rounds * (ds.sum - ss.sum * M))) (some (.int rounds)) (RR.step SF hle (by rw [if_pos hb, hrd]))
        -- rounds
        refine ⟨.int (ds.sum - ss.sum * M), rfl, _, _, rfl, rfl, _, rfl, ?_⟩
        by_cases hg : 0 < ds.sum - ss.sum * M
        · rw [decide_eq_true hg]
          refine iteT ⟨.int (x - sumBack (at' ss) r i), rfl, .int ss.sum, rfl, _, _, rfl, rfl, ⟨by omega, by omega⟩, ?_⟩
          refine ⟨_, rfl, .int (sumBack (at' ds) r (i + 1)), rfl, .int (x - sumBack (at' ss) r i), rfl, .int M, rfl, _, _, rfl, rfl, .inr ⟨by omega, by omega⟩, _, _, rfl, rfl, _, rfl, .int (ds.sum - ss.sum * M), rfl, _, _, rfl, rfl, .inr ⟨by omega, by omega⟩, _, _, rfl, rfl, _, _, rfl, ?_⟩
          rw [max_if]
          exact go _ (by rw [if_pos hg])
        · rw [decide_eq_false hg]
          refine iteF ?_
          refine ⟨_, rfl, .int (sumBack (at' ds) r (i + 1)), rfl, .int (x - sumBack (at' ss) r i), rfl, .int M, rfl, _, _, rfl, rfl, .inr ⟨by omega, by omega⟩, _, _, rfl, rfl, _, rfl, .int (ds.sum - ss.sum * M), rfl, _, _, rfl, rfl, .inr ⟨by omega, by omega⟩, _, _, rfl, rfl, _, _, rfl, ?_⟩
          rw [max_if]
          exact go _ (by rw [if_neg hg])
      · rw [decide_eq_false hb]
        refine iteF ?_
        exact fin _ y11 (RR.step SF hle (by rw [if_neg hb]))
    · rintro σ H1 ⟨rfl, L, y10, y11, rfl, hle, SF⟩
      have := RR.E_of (RR.fin SF (.inl (by omega)))
      rw [this] at q
      exact ⟨.int L, rfl, q⟩
end
end Rp
namespace Rp
open PySem PySem.Spec PyProof.Rows L2 Rz Rm
/-- readings and days of a repetition -/
def RepIs (T B M p q : Int) : Prop := (T ≤ M * B ∧ p = 1 ∧ q = M) ∨ (¬ T ≤ M * B ∧ p = B ∧ q = T)
theorem at_emod {ss : List Int} (i : Int) : at' ss (i % (ss.length : Int)) = at' ss i := by
  unfold at'
  rw [Int.emod_emod_of_dvd _ (Int.dvd_refl _)]
theorem emod_pred (z n : Int) : (z % n - 1) % n = (z - 1) % n := by
  have h := Int.emod_add_mul_ediv z n
  have e : z - 1 = (z % n - 1) + n * (z / n) := by omega
  rw [e, Int.add_mul_emod_self_left]
/-- the book of place q at reader r -/
def Bk (ss : List Int) (r q v : Int) : Prop := ∃ i : Nat, i < ss.length ∧ sumBack (at' ss) r i ≤ q ∧ q < sumBack (at' ss) r (i + 1) ∧ v = (ss.take ((r - i) % (ss.length : Int)).toNat).sum + (q - sumBack (at' ss) r i)
theorem Bk.inj {ss : List Int} (h0 : ∀ i, 0 ≤ at' ss i) {r q v v' : Int} (h : Bk ss r q v) (h' : Bk ss r q v') : v = v' := by
  obtain ⟨i, _, a1, a2, rfl⟩ := h
  obtain ⟨j, _, b1, b2, rfl⟩ := h'
  have e : i = j := by
    rcases Nat.lt_trichotomy i j with z | z | z
    · have := sum_mono h0 r (show i + 1 ≤ j by omega)
      omega
    · exact z
    · have := sum_mono h0 r (show j + 1 ≤ i by omega)
      omega
  rw [e]
section
variable {P : Program} {w : World} {K : PySem.W.Frag} {mg : Str → Option Value} {base : Heap}
/-! ### ring(reader, number) -/
def spCall (C : Addr) : Sp := fun vs H Q _ => ∃ p dx td ts ds ss, ∃ r x : Int, vs = [.ref p, .int r, .int x] ∧ RingAt C H p dx td ts ds ss ∧ 0 ≤ r ∧ r < ds.length ∧ 0 ≤ x ∧ x ≤ 1000000000000000000 ∧ Q (.int (Rm.E (at' ds) (at' ss) r x)) H
theorem ok_call (T : Tx K mg) : FnOk P w K mg base CX0 4 T.a_rcall T.d_rcall P_rcall (spCall T.C) := by
  refine T.F_rcall.ok sc_rcall (fun vs H Q E h => ?_) (fun cdv A outer s H vs Q E hr h => ?_)
  · obtain ⟨p, dx, td, ts, ds, ss, r, x, rfl, _⟩ := h
    rfl
  · obtain ⟨p, dx, td, ts, ds, ss, r, x, rfl, R, r0, r1, x0, x1, q⟩ := h
    obtain ⟨u1, c1⟩ := T.c_LATEST
    refine ⟨_, pss_cons (ps_expr (pe_call (ok_reader T) hr (by rfl) T.g_check_reader T.F_check_reader.kp T.b_check_reader .nil pass0 (pa_cons (pv 0) (pa_cons (pv 1) pa_nil))))
      (pss_cons (ps_expr (pe_call (ok_chk T) hr (by rfl) T.g_check_number T.F_check_number.kp T.b_check_number .nil pass0 (pa_cons (pv 2) (pa_cons pe_int (pa_cons (pe_glob (v := .int 1000000000000000000) (by rfl) c1 ⟨_, rfl⟩) pa_nil)))))
      (pss_one (ps_ret (pe_call (ok_end T) hr (by rfl) T.g_end_day T.F_end_day.kp T.b_end_day .nil pass0 (pa_cons (pv 0) (pa_cons (pv 1) (pa_cons (pv 2) pa_nil))))))), ?_⟩
    refine ⟨_, rfl, _, rfl, p, dx, td, ts, ds, ss, r, rfl, R, r0, r1, ?_⟩
    refine ⟨_, rfl, x, 0, 1000000000000000000, rfl, x0, x1, ?_⟩
    exact ⟨_, rfl, _, rfl, _, rfl, p, dx, td, ts, ds, ss, r, x, rfl, R, r0, r1, x0, q⟩
/-! ### reader_before -/
def spBefore (C : Addr) : Sp := fun vs H Q _ => ∃ p dx td ts ds ss, ∃ r : Int, vs = [.ref p, .int r] ∧ RingAt C H p dx td ts ds ss ∧ Q (.int ((r - 1) % (ds.length : Int))) H
theorem ok_before (T : Tx K mg) : FnOk P w K mg base CX0 3 T.a_reader_before T.d_reader_before P_reader_before (spBefore T.C) := by
  refine T.F_reader_before.ok sc_reader_before (fun vs H Q E h => ?_) (fun cdv A outer s H vs Q E hr h => ?_)
  · obtain ⟨p, dx, td, ts, ds, ss, r, rfl, _⟩ := h
    rfl
  · obtain ⟨p, dx, td, ts, ds, ss, r, rfl, R, q⟩ := h
    have l2 := R.ok.l2
    have l8 := R.ok.l8
    refine ⟨_, pss_one (ps_ret (pe_op op_mod (pe_callTy call_int1 (by rfl) T.z_int (by decide +kernel) (pa_cons (pe_op op_sub (pv 1) pe_int) pa_nil))
      (pe_callB (call_lenI T.lenC T.lenF ((ok_len T).raw T.b_rlen .nil) hr pass0) (by rfl) T.z_len PySem.boot_len (pa_cons (pv 0) pa_nil)))), ?_⟩
    exact ⟨_, rfl, _, _, rfl, rfl, .inl ⟨_, rfl, _, rfl, p, dx, _, rfl, R.ob, p, dx, td, ts, ds, ss, rfl, R, _, rfl, by omega, by omega, _, _, rfl, rfl, by show (0 : Int) < ds.length; omega, q⟩⟩
end
end Rp
namespace Rp
open PySem PySem.Spec PyProof.Rows L2 Rz Rm
theorem cut_front {xs : List V} {r : Int} (h0 : 0 ≤ r) (h1 : r < xs.length) : cutV xs none (some r) = xs.take r.toNat ∧ ¬ (HT.sIx xs.length 0 none = 0 ∧ HT.sIx xs.length xs.length (some r) = xs.length) := by
  have e : r = ((r.toNat : Nat) : Int) := by omega
  have e1 : HT.sIx xs.length xs.length (some r) = r.toNat := by
    rw [e, HT.sIx_nat]
    omega
  constructor
  · unfold cutV
    rw [HT.sIx_none, e1]
    simp
  · rw [e1]
    omega
theorem sum_le_zero : ∀ {l : List Int}, (∀ y ∈ l, y ≤ 0) → l.sum ≤ 0
  | [], _ => by simp
  | a :: r, h => by
    have h1 := h a List.mem_cons_self
    have ih := sum_le_zero (l := r) fun y hy => h y (List.mem_cons_of_mem _ hy)
    rw [List.sum_cons]
    omega
section
variable {N : Nat} {d s : Int → Int} {B T M : Int} (R : Rm.Ring N d s B T M)
include R
theorem _root_.Rm.Ring.rep_big {p q x : Int} (h : RepIs T B M p q) (hx : 4 * B + B * M ≤ x) : Rep d s p q x := by
  rw [RepIs, Int.mul_comm M B] at h
  rcases h with ⟨h1, rfl, rfl⟩ | ⟨h1, rfl, rfl⟩
  · exact R.rep_slow h1 hx
  · exact R.rep_fast (by omega) hx
theorem _root_.Rm.Ring.p1 {p q : Int} (h : RepIs T B M p q) : 1 ≤ p := by
  have := R.b1
  rcases h with ⟨_, rfl, _⟩ | ⟨_, rfl, _⟩ <;> omega
end
section
variable {P : Program} {w : World} {K : PySem.W.Frag} {mg : Str → Option Value} {base : Heap}
/-! ### book_of -/
def spBook (C : Addr) : Sp := fun vs H Q _ => ∃ p dx td ts ds ss, ∃ r x : Int, vs = [.ref p, .int r, .int x] ∧ RingAt C H p dx td ts ds ss ∧ 0 ≤ r ∧ r < ds.length ∧ 0 ≤ x ∧ x ≤ 1000000000000000000 ∧ ∀ v H', Same H H' → Bk ss r (x % ss.sum) v → Q (.int v) H'
theorem ok_book (T : Tx K mg) : FnOk P w K mg base CX0 5 T.a_book_of T.d_book_of P_book_of (spBook T.C) := by
  refine T.F_book_of.ok sc_book_of (fun vs H Q E h => ?_) (fun cdv A outer s H vs Q E hr h => ?_)
  · obtain ⟨p, dx, td, ts, ds, ss, r, x, rfl, _⟩ := h
    rfl
  · obtain ⟨p, dx, td, ts, ds, ss, r, x, rfl, R, r0, r1, x0, x1, q⟩ := h
    obtain ⟨u1, c1⟩ := T.c_LATEST
    have hr3 : Room 3 _ := hr.mono (by decide)
    have hr2 : Room 2 _ := hr.mono (by decide)
    have nd := sc_book_of.nd
    have ls := R.ok.ls
    have b1 := R.ok.b1
    obtain ⟨M, hM, hMu⟩ := R.ok.max
    have RR := R.ok.ring hM hMu
    have rdS : ∀ {Q' : VK} {E' : XK}, Q' (.ref ts) H → spStarts T.C [.ref p] H Q' E' := fun z => ⟨p, dx, td, ts, ds, ss, rfl, R, z⟩
    refine ⟨_, pss_cons (ps_expr (pe_call (ok_reader T) hr3 (by rfl) T.g_check_reader T.F_check_reader.kp T.b_check_reader .nil pass0 (pa_cons (pv 0) (pa_cons (pv 1) pa_nil))))
      (pss_cons (ps_expr (pe_call (ok_chk T) hr3 (by rfl) T.g_check_number T.F_check_number.kp T.b_check_number .nil pass0 (pa_cons (pv 2) (pa_cons pe_int (pa_cons (pe_glob (v := .int 1000000000000000000) (by rfl) c1 ⟨_, rfl⟩) pa_nil)))))
      (pss_cons (ps_set (i := 3) nd rfl (.inl rfl) (pe_op op_mod (pe_callTy call_int1 (by rfl) T.z_int (by decide +kernel) (pa_cons (pv 2) pa_nil)) (pe_prop (pv 0) T.cl T.q_rbooks (ok_books T) hr2 T.b_rbooks .nil pass0 rfl)))
      (pss_cons (ps_while PassesOwn.never (pt_cmpR op_ge (pv 3) (pe_ix ix_tup (pe_prop (pv 0) T.cl T.q_rstarts (ok_starts T) hr2 T.b_rstarts .nil pass0 rfl) (pv 1) (fun _ _ => rfl)) (nomark _))
        (pss_cons (ps_aug (i := 3) nd rfl (.inl rfl) (pe_ix ix_tup (pe_prop (pv 0) T.cl T.q_rstarts (ok_starts T) hr2 T.b_rstarts .nil pass0 rfl) (pv 1) (fun _ _ => rfl)) ip_sub)
        (pss_one (ps_set (i := 1) nd rfl (.inl rfl) (pe_call (ok_before T) hr3 (by rfl) T.g_reader_before T.F_reader_before.kp T.b_reader_before .nil pass0 (pa_cons (pv 0) (pa_cons (pv 1) pa_nil)))))))
      (pss_one (ps_ret (pe_op op_add (pe_callB (cr_sumT rfl) (by rfl) T.z_sum (by decide +kernel) (pa_cons (pe_slice sl_tup (pe_prop (pv 0) T.cl T.q_rstarts (ok_starts T) hr2 T.b_rstarts .nil pass0 rfl) po_none (po_some (pv 1))) pa_nil)) (pv 3))))))), ?_⟩
    refine ⟨_, rfl, _, rfl, p, dx, td, ts, ds, ss, r, rfl, R, r0, r1, ?_⟩
    refine ⟨_, rfl, x, 0, 1000000000000000000, rfl, x0, x1, ?_⟩
    refine ⟨_, rfl, .inl ⟨x, rfl, _, rfl, p, dx, _, rfl, R.ob, p, dx, td, ts, ds, ss, rfl, R, _, _, rfl, rfl, by show (0 : Int) < ss.sum; omega, ?_⟩⟩
    have q0 : 0 ≤ x % ss.sum := Int.emod_nonneg _ (by omega)
    have q1 : x % ss.sum < ss.sum := Int.emod_lt_of_pos _ (by omega)
    obtain ⟨y, hy⟩ : ∃ y, y = x % ss.sum := ⟨_, rfl⟩
    rw [← hy] at q q0 q1
    have rj : ∀ i : Nat, 0 ≤ (r - i) % (ss.length : Int) ∧ (r - i) % (ss.length : Int) < ss.length := fun i => ⟨Int.emod_nonneg _ (by omega), Int.emod_lt_of_pos _ (by omega)⟩
    refine ⟨fun m σ H' => H' = H ∧ ∃ i : Nat, m = ss.length - i ∧ i < ss.length ∧ σ = [some (.ref p), some (.int ((r - i) % (ss.length : Int))), some (.int x), some (.int (y - sumBack (at' ss) r i))] ∧ sumBack (at' ss) r i ≤ y, ⟨ss.length, rfl, 0, rfl, by omega, ?_, q0⟩, ?_⟩
    · show ([some (.ref p), some (.int r), some (.int x), some (.int (x % ss.sum))] : L2.St) = [some (.ref p), some (.int ((r - (0 : Nat)) % (ss.length : Int))), some (.int x), some (.int (y - 0))]
      rw [← hy, show r - ((0 : Nat) : Int) = r by omega, Int.emod_eq_of_lt r0 (by omega), show y - 0 = y by omega]
    · rintro m σ H1 ⟨rfl, i, rfl, hi, rfl, hS⟩
      have hix : atI (ss.map V.int) ((r - i) % (ss.length : Int)) = some (.int (at' ss (r - i))) := by
        rw [at_ix (by have := (rj i).1; omega) (rj i).2, at_emod]
      refine ⟨_, rfl, _, rfl, p, dx, _, rfl, R.ob, rdS ⟨_, rfl, ts, _, _, _, rfl, rfl, .of R.ts, hix, _, _, rfl, rfl, _, rfl, ?_⟩⟩
      have hs : sumBack (at' ss) r (i + 1) = sumBack (at' ss) r i + at' ss (r - i) := rfl
      by_cases hc : at' ss (r - i) ≤ y - sumBack (at' ss) r i
      · rw [decide_eq_true hc]
        have hi2 : i + 1 < ss.length := by
          have hb := RR.b r
          rw [← ls] at hb
          rcases Nat.lt_or_ge (i + 1) ss.length with z | z
          · exact z
          · have e : i + 1 = ss.length := by omega
            rw [e] at hs
            omega
        refine iteT ⟨fun σ' H' => H' = H1 ∧ σ' = [some (.ref p), some (.int ((r - (i + 1 : Nat)) % (ss.length : Int))), some (.int x), some (.int (y - sumBack (at' ss) r (i + 1)))], fun σ' H' ⟨e1, e2⟩ => ⟨ss.length - (i + 1), by omega, e1, i + 1, rfl, hi2, e2, by omega⟩, ?_⟩
        refine ⟨_, rfl, _, rfl, p, dx, _, rfl, R.ob, rdS ⟨_, rfl, ts, _, _, _, rfl, rfl, .of R.ts, hix, _, _, rfl, rfl, ?_⟩⟩
        refine ⟨_, rfl, _, rfl, p, dx, td, ts, ds, ss, _, rfl, R, rfl, ?_⟩
        show ([some (.ref p), some (.int (((r - i) % (ss.length : Int) - 1) % (ds.length : Int))), some (.int x), some (.int (y - sumBack (at' ss) r i - at' ss (r - i)))] : L2.St) = _
        rw [← ls, emod_pred, show r - (i : Int) - 1 = r - (i + 1 : Nat) by omega, show y - sumBack (at' ss) r i - at' ss (r - i) = y - sumBack (at' ss) r (i + 1) by omega]
      · rw [decide_eq_false hc]
        refine iteF ?_
        obtain ⟨hcut, hnot⟩ := cut_front (xs := ss.map V.int) (r := (r - i) % (ss.length : Int)) (rj i).1 (by rw [List.length_map]; exact (rj i).2)
        refine ⟨_, rfl, p, dx, _, rfl, R.ob, rdS ⟨_, rfl, _, rfl, ts, _, rfl, .of R.ts, hnot, fun pn np => ?_⟩⟩
        refine ⟨pn, ss.take ((r - i) % (ss.length : Int)).toNat, rfl, .of (by rw [upd_same, hcut, List.map_take]), _, rfl, _, _, rfl, rfl, ?_⟩
        exact q _ _ (same_upd np) ⟨i, hi, hS, by omega, rfl⟩
end
end Rp
namespace Rp
open PySem PySem.Spec PyProof.Rows L2 Rz Rm
/-! ### the drawn row -/
/-- all that was tracked but the row is as it was -/
def Kp (row : Addr) (H H' : Hp) : Prop := ∀ b o, H b = some o → b ≠ row → H' b = some o
theorem Kp.refl (row : Addr) (H : Hp) : Kp row H H := fun _ _ h _ => h
theorem Kp.trans {row : Addr} {H H1 H2 : Hp} (a : Kp row H H1) (b : Kp row H1 H2) : Kp row H H2 := fun c o h n => b c o (a c o h n) n
theorem Same.kp {row : Addr} {H H' : Hp} (s : Same H H') : Kp row H H' := fun b o h _ => s b o h
/-- the script stands in the written part -/
def Wr (K : PySem.W.Frag) (a : Addr) (xs : List V) : Prop := ∃ (o : Obj) (its : Array Value) (n : Nat), K.lookup a = some o ∧ o.cls = .type "list" ∧ o.dict = none ∧ o.data = .seq its n ∧ its.size ≤ sizeLine ∧ Vals xs its.toList
theorem far_of {K : PySem.W.Frag} {H : Hp} {D a : Addr} {xs : List V} (h : SqL K H a xs) (hD : H D = none) : D ≠ a ∨ Wr K a xs := by
  rcases h with (h | ⟨o, h⟩) | h
  · exact .inl fun e => by rw [e, h] at hD; cases hD
  · exact .inl fun e => by rw [e, h] at hD; cases hD
  · exact .inr h
theorem sq_upd {K : PySem.W.Frag} {H : Hp} {D a : Addr} {xs : List V} {o : HO} (h : SqL K H a xs) (f : D ≠ a ∨ Wr K a xs) : SqL K (upd H D o) a xs := by
  rcases f with f | f
  · rcases h with (h | ⟨u, h⟩) | h
    · exact .inl (.inl (by rw [upd_ne f.symm]; exact h))
    · exact .inl (.inr ⟨u, by rw [upd_ne f.symm]; exact h⟩)
    · exact .inr h
  · exact .inr f
structure RowAt (K : PySem.W.Frag) (H : Hp) (row a : Addr) (ns : List Int) : Prop where
  ob : ∃ i m q : Int, H row = some (.lst [.ref a, .int i, .int m, .int q]) ∧ 0 ≤ i
  sc : SqL K H a (ns.map V.int)
  ne : row ≠ a ∨ Wr K a (ns.map V.int)
theorem RowAt.same {K : PySem.W.Frag} {H H' : Hp} {row a : Addr} {ns : List Int} (R : RowAt K H row a ns) (s : Same H H') : RowAt K H' row a ns := by
  obtain ⟨i, m, q, h, h0⟩ := R.ob
  exact ⟨⟨i, m, q, s _ _ h, h0⟩, s.seq R.sc, R.ne⟩
theorem kp_upd {row : Addr} {H : Hp} {o : HO} : Kp row H (upd H row o) := fun b z h n => by
  rw [upd_ne n]
  exact h
/-- the row is written -/
theorem RowAt.put {K : PySem.W.Frag} {H : Hp} {row a : Addr} {ns : List Int} (R : RowAt K H row a ns) {i m q : Int} (h : 0 ≤ i) : RowAt K (upd H row (.lst [.ref a, .int i, .int m, .int q])) row a ns :=
  ⟨⟨i, m, q, upd_same, h⟩, sq_upd R.sc R.ne, R.ne⟩
theorem first_ix : ∀ {l : List Int} {m : Int}, m ∈ l → ∃ j : Nat, l[j]? = some m ∧ ∀ k z, k < j → l[k]? = some z → z ≠ m
  | a :: r, m, h => by
    by_cases e : a = m
    · exact ⟨0, by simp [e], fun k z hk => absurd hk (Nat.not_lt_zero _)⟩
    · obtain ⟨j, h1, h2⟩ := first_ix (l := r) (m := m) (by
        rcases List.mem_cons.mp h with q | q
        · exact absurd q.symm e
        · exact q)
      refine ⟨j + 1, by simpa using h1, fun k z hk hz => ?_⟩
      cases k with
      | zero =>
        simp at hz
        rw [← hz]
        exact e
      | succ k => exact h2 k z (by omega) (by simpa using hz)
theorem mem_le_sum : ∀ {l : List Int}, (∀ y ∈ l, 0 ≤ y) → ∀ x ∈ l, x ≤ l.sum
  | a :: r, h, x, hx => by
    have ha := h a List.mem_cons_self
    have hr : ∀ y ∈ r, 0 ≤ y := fun y hy => h y (List.mem_cons_of_mem _ hy)
    have hs : 0 ≤ r.sum := sum_nonneg' hr
    rw [List.sum_cons]
    rcases List.mem_cons.mp hx with e | e
    · omega
    · have := mem_le_sum hr x e
      omega
where sum_nonneg' : ∀ {l : List Int}, (∀ y ∈ l, 0 ≤ y) → 0 ≤ l.sum
  | [], _ => by simp
  | a :: r, h => by
    have h1 := h a List.mem_cons_self
    have h2 := sum_nonneg' (l := r) fun y hy => h y (List.mem_cons_of_mem _ hy)
    rw [List.sum_cons]
    omega
theorem mem_set {l : List Int} {j : Nat} {v y : Int} (h : y ∈ l.set j v) : y ∈ l ∨ y = v := List.mem_or_eq_of_mem_set h
theorem flat_ints (l : List Int) : (l.map V.int).all flatV = true := by
  rw [List.all_eq_true]
  intro x hx
  obtain ⟨i, _, rfl⟩ := List.mem_map.mp hx
  rfl
theorem lc_keep {σ : L2.St} {H : Hp} {F G : Hp → Prop} (h : F H) : tYes σ H (fun b H3 => if b = true then F H3 else G H3) := by
  show if true = true then F H else G H
  rw [if_pos rfl]
  exact h
theorem map_snoc (l : List Int) (v : Int) : l.map V.int ++ [V.int v] = (l ++ [v]).map V.int := by
  rw [List.map_append]
  rfl
theorem RowAt.upd' {K : PySem.W.Frag} {H : Hp} {D row a : Addr} {ns : List Int} {o : HO} (R : RowAt K H row a ns) (n : D ≠ row) (f : D ≠ a ∨ Wr K a (ns.map V.int)) : RowAt K (upd H D o) row a ns := by
  obtain ⟨i, m, q, h, h0⟩ := R.ob
  exact ⟨⟨i, m, q, by rw [upd_ne n.symm]; exact h, h0⟩, sq_upd R.sc f, R.ne⟩
theorem RowAt.nn {K : PySem.W.Frag} {H : Hp} {D row a : Addr} {ns : List Int} (R : RowAt K H row a ns) (h : H D = none) : D ≠ row := fun e => by
  obtain ⟨i, m, q, h2, _⟩ := R.ob
  rw [e, h2] at h
  cases h
theorem kp_new {row D : Addr} {H0 H : Hp} {o : HO} (k : Kp row H0 H) (h : H0 D = none) : Kp row H0 (upd H D o) := fun b z e n => by
  rw [upd_ne (ne_of_none e h)]
  exact k b z e n
end Rp
namespace Rp
open PySem PySem.Spec PyProof.Rows L2 Rz Rm
section
variable {P : Program} {w : World} {K : PySem.W.Frag} {mg : Str → Option Value} {base : Heap}
def spTaken (K : PySem.W.Frag) : Sp := fun vs H Q _ => ∃ (row a : Addr) (ns : List Int) (many : Int), vs = [.ref row, .int many] ∧ RowAt K H row a ns ∧ 1 ≤ many ∧ many < 1073741824 ∧
  ∀ v H', 0 ≤ v → v < many → RowAt K H' row a ns → Kp row H H' → Q (.int v) H'
theorem ok_taken (T : Tx K mg) : FnOk P w K mg base CX0 1 T.a_ltaken T.d_ltaken P_ltaken (spTaken K) := by
  refine T.F_ltaken.ok sc_ltaken (fun vs H Q E h => ?_) (fun cdv A outer s H vs Q E hr h => ?_)
  · obtain ⟨row, a, ns, many, rfl, _⟩ := h
    rfl
  · obtain ⟨row, a, ns, many, rfl, RA, m1, m2, q⟩ := h
    obtain ⟨i, m, c, hrow, i0⟩ := RA.ob
    have nd := sc_ltaken.nd
    refine ⟨_, pss_cons (ps_if (pt_cmpR op_gt (pe_ix ix_list (pv 0) pe_int (fun _ _ => rfl)) pe_int (nomark _))
        (pss_cons (ps_set (i := 2) nd rfl (.inl rfl) (pe_op op_mod (pe_callTy call_int1 (by rfl) T.z_int (by decide +kernel) (pa_cons (pe_ix ix_list (pv 0) pe_int (fun _ _ => rfl)) pa_nil)) (pv 1)))
        (pss_cons (ps_asg (pe_op op_fdiv (pe_ix ix_list (pv 0) pe_int (fun _ _ => rfl)) (pv 1)) (pg_sub (pv 0) pe_int set_list))
        (pss_one (ps_ret (pv 2))))) pss_nil)
      (pss_cons (ps_asg (pe_op op_add (pe_ix ix_list (pv 0) pe_int (fun _ _ => rfl)) pe_int) (pg_sub (pv 0) pe_int set_list))
      (pss_cons (ps_if (pt_cmpR op_gt (pe_ix ix_list (pv 0) pe_int (fun _ _ => rfl)) (pe_callB call_len_seq (by rfl) T.z_len PySem.boot_len (pa_cons (pe_ix ix_list (pv 0) pe_int (fun _ _ => rfl)) pa_nil)) (nomark _))
        (pss_cons (ps_asg (pe_op op_mod (pe_callTy call_int1 (by rfl) T.z_int (by decide +kernel) (pa_cons (pe_op op_add (pe_op op_mul (pe_ix ix_list (pv 0) pe_int (fun _ _ => rfl)) pe_int) pe_int) pa_nil)) pe_int) (pg_sub (pv 0) pe_int set_list))
        (pss_one (ps_ret (pe_op op_mod (pe_callTy call_int1 (by rfl) T.z_int (by decide +kernel) (pa_cons (pe_op op_fdiv (pe_ix ix_list (pv 0) pe_int (fun _ _ => rfl)) pe_int) pa_nil)) (pv 1))))) pss_nil)
      (pss_cons (ps_set (i := 3) nd rfl (.inl rfl) (pe_ix ix_list (pe_ix ix_list (pv 0) pe_int (fun _ _ => rfl)) (pe_op op_sub (pe_ix ix_list (pv 0) pe_int (fun _ _ => rfl)) pe_int) (fun _ _ => rfl)))
      (pss_cons (ps_asg (pe_op op_mod (pe_callTy call_int1 (by rfl) T.z_int (by decide +kernel) (pa_cons (pe_op op_add (pe_op op_add (pe_op op_mul (pe_ix ix_list (pv 0) pe_int (fun _ _ => rfl)) pe_int) (pv 3)) pe_int) pa_nil)) pe_int) (pg_sub (pv 0) pe_int set_list))
      (pss_cons (ps_asg (pe_ifExp (pt_cmpR op_ge (pv 3) (pe_op op_pow pe_int pe_int) (nomark _)) (pe_op op_fdiv (pv 3) (pv 1)) pe_int) (pg_sub (pv 0) pe_int set_list))
      (pss_one (ps_ret (pe_op op_mod (pe_callTy call_int1 (by rfl) T.z_int (by decide +kernel) (pa_cons (pv 3) pa_nil)) (pv 1))))))))), ?_⟩
    have mod0 : ∀ z : Int, 0 ≤ z % many := fun z => Int.emod_nonneg _ (by omega)
    have mod1 : ∀ z : Int, z % many < many := fun z => Int.emod_lt_of_pos _ (by omega)
    -- if row[3] > 0
    refine ⟨_, rfl, row, _, 3, _, rfl, rfl, .of hrow, atI_nat (j := 3) rfl, _, _, rfl, rfl, _, rfl, ?_⟩
    by_cases hc : 0 < c
    · rw [decide_eq_true hc]
      refine iteT ?_
      refine ⟨_, rfl, row, _, 3, _, rfl, rfl, .of hrow, atI_nat (j := 3) rfl, .inl ⟨_, rfl, _, rfl, _, _, rfl, rfl, by show (0 : Int) < many; omega, ?_⟩⟩
      refine ⟨_, rfl, row, _, 3, _, rfl, rfl, .of hrow, atI_nat (j := 3) rfl, _, rfl, _, _, rfl, rfl, ⟨by omega, by omega⟩, ?_⟩
      refine ⟨_, rfl, row, _, 3, 3, rfl, rfl, hrow, rfl, ?_⟩
      exact ⟨_, rfl, q _ _ (mod0 c) (mod1 c) (RA.put i0) kp_upd⟩
    · rw [decide_eq_false hc]
      refine iteF ?_
      -- row[1] = row[1] + 1
      refine ⟨_, rfl, row, _, 1, _, rfl, rfl, .of hrow, atI_nat (j := 1) rfl, _, _, rfl, rfl, ?_⟩
      refine ⟨_, rfl, row, _, 1, 1, rfl, rfl, hrow, rfl, ?_⟩
      have RA1 : RowAt K (upd H row (.lst [.ref a, .int (i + 1), .int m, .int c])) row a ns := RA.put (by omega)
      have hrow1 : (upd H row (.lst [.ref a, .int (i + 1), .int m, .int c])) row = some (.lst [.ref a, .int (i + 1), .int m, .int c]) := upd_same
      have kp1 : Kp row H (upd H row (.lst [.ref a, .int (i + 1), .int m, .int c])) := kp_upd
      show tSeq _ _ _ _ (upd H row (.lst [.ref a, .int (i + 1), .int m, .int c]))
      generalize (upd H row (.lst [.ref a, .int (i + 1), .int m, .int c])) = H1 at RA1 hrow1 kp1
      -- if row[1] > len(row[0])
      refine ⟨_, rfl, row, _, 1, _, rfl, rfl, .of hrow1, atI_nat (j := 1) rfl, _, rfl, row, _, 0, _, rfl, rfl, .of hrow1, atI_nat (j := 0) rfl, a, _, rfl, .inl RA1.sc, _, _, rfl, rfl, _, rfl, ?_⟩
      rw [List.length_map]
      by_cases hl : (ns.length : Int) < i + 1
      · rw [decide_eq_true hl]
        refine iteT ?_
        refine ⟨_, rfl, row, _, 2, _, rfl, rfl, .of hrow1, atI_nat (j := 2) rfl, _, _, rfl, rfl, .inr ⟨by decide, by decide⟩, _, _, rfl, rfl, .inl ⟨_, rfl, _, _, rfl, rfl, (by show (0 : Int) < 2147483647; decide), ?_⟩⟩
        refine ⟨_, rfl, row, _, 2, 2, rfl, rfl, hrow1, rfl, ?_⟩
        refine ⟨_, rfl, row, _, 2, _, rfl, rfl, .of upd_same, atI_nat (j := 2) rfl, _, _, rfl, rfl, ⟨by decide, by decide⟩, .inl ⟨_, rfl, _, rfl, _, _, rfl, rfl, by show (0 : Int) < many; omega, ?_⟩⟩
        exact q _ _ (mod0 _) (mod1 _) (RA1.put (by omega)) (kp1.trans kp_upd)
      · rw [decide_eq_false hl]
        refine iteF ?_
        have hi : i.toNat < ns.length := by omega
        have hg : atI (ns.map V.int) (i + 1 - 1) = some (.int ns[i.toNat]) := by
          refine at_of (j := i.toNat) (by omega) ?_
          rw [List.getElem?_map, List.getElem?_eq_getElem hi]
          rfl
        refine ⟨_, rfl, row, _, 0, _, rfl, rfl, .of hrow1, atI_nat (j := 0) rfl, _, rfl, row, _, 1, _, rfl, rfl, .of hrow1, atI_nat (j := 1) rfl, _, _, rfl, rfl, a, _, _, _, rfl, rfl, RA1.sc, hg, ?_⟩
        generalize ns[i.toNat] = cell
        -- row[2] = ..
        refine ⟨_, rfl, row, _, 2, _, rfl, rfl, .of hrow1, atI_nat (j := 2) rfl, _, _, rfl, rfl, .inr ⟨by decide, by decide⟩, _, rfl, _, _, rfl, rfl, _, _, rfl, rfl, .inl ⟨_, rfl, _, _, rfl, rfl, (by show (0 : Int) < 2147483647; decide), ?_⟩⟩
        refine ⟨_, rfl, row, _, 2, 2, rfl, rfl, hrow1, rfl, ?_⟩
        -- row[3] = ..
        refine ⟨_, rfl, _, _, rfl, rfl, ⟨by decide, by decide, by decide⟩, _, _, rfl, rfl, _, rfl, ?_⟩
        refine ite2 (fun _ => ?_) (fun _ => ?_)
        · refine ⟨_, rfl, _, rfl, _, _, rfl, rfl, ⟨by omega, by omega⟩, ?_⟩
          refine ⟨_, rfl, row, _, 3, 3, rfl, rfl, upd_same, rfl, ?_⟩
          refine ⟨_, rfl, .inl ⟨_, rfl, _, rfl, _, _, rfl, rfl, by show (0 : Int) < many; omega, ?_⟩⟩
          rw [upd_upd]
          exact q _ _ (mod0 _) (mod1 _) (RA1.put (by omega)) (kp1.trans kp_upd)
        · refine ⟨_, rfl, row, _, 3, 3, rfl, rfl, upd_same, rfl, ?_⟩
          refine ⟨_, rfl, .inl ⟨_, rfl, _, rfl, _, _, rfl, rfl, by show (0 : Int) < many; omega, ?_⟩⟩
          rw [upd_upd]
          exact q _ _ (mod0 _) (mod1 _) (RA1.put (by omega)) (kp1.trans kp_upd)
end
section
variable {P : Program} {w : World} {K : PySem.W.Frag} {mg : Str → Option Value} {base : Heap}
/-- two new tuples that make a ring -/
def spParts (K : PySem.W.Frag) : Sp := fun vs H Q _ => ∃ (row a : Addr) (ns : List Int) (most : Int), vs = [.ref row, .int most] ∧ RowAt K H row a ns ∧ 2 ≤ most ∧ most ≤ 8 ∧
  ∀ H' t td ts ds ss, Good ds ss → RowAt K H' row a ns → Kp row H H' → H' t = some (.tup [.ref td, .ref ts]) → H' td = some (.tup (ds.map V.int)) → H' ts = some (.tup (ss.map V.int)) → Q (.ref t) H'
/-- what a list being made holds -/
def Acc (K : PySem.W.Frag) (H0 : Hp) (row a D : Addr) (ns : List Int) (lo hi : Int) (i : Nat) (H : Hp) : Prop :=
  ∃ acc : List Int, acc.length = i ∧ (∀ y ∈ acc, lo ≤ y ∧ y ≤ hi) ∧ H D = some (.lst (acc.map V.int)) ∧ RowAt K H row a ns ∧ Kp row H0 H
theorem acc_next {H0 H H' : Hp} {row a D : Addr} {ns : List Int} {lo hi v : Int} {i : Nat} (hD : H0 D = none) (nD : D ≠ row) (f : D ≠ a ∨ Wr K a (ns.map V.int)) {acc : List Int} (hlen : acc.length = i) (hall : ∀ y ∈ acc, lo ≤ y ∧ y ≤ hi)
    (hacc : H D = some (.lst (acc.map V.int))) (k : Kp row H0 H) (RA : RowAt K H' row a ns) (k' : Kp row H H') (v0 : lo ≤ v) (v1 : v ≤ hi) : Acc K H0 row a D ns lo hi (i + 1) (upd H' D (.lst (acc.map V.int ++ [V.int v]))) := by
  refine ⟨acc ++ [v], by rw [List.length_append, hlen]; rfl, fun y hy => ?_, by rw [upd_same, map_snoc], RA.upd' nD f, kp_new (k.trans k') hD⟩
  rcases List.mem_append.mp hy with z | z
  · exact hall y z
  · have := List.mem_singleton.mp z
    omega
theorem ok_parts (T : Tx K mg) : FnOk P w K mg base CX0 2 T.a_lparts T.d_lparts P_lparts (spParts K) := by
  refine T.F_lparts.ok sc_lparts (fun vs H Q E h => ?_) (fun cdv A outer s H vs Q E hr h => ?_)
  · obtain ⟨row, a, ns, most, rfl, _⟩ := h
    rfl
  · obtain ⟨row, a, ns, most, rfl, RA, m2, m8, q⟩ := h
    have nd := sc_lparts.nd
    refine ⟨_, pss_cons (ps_asg (pe_tup (pa_cons (pe_op op_add pe_int (pe_call (ok_taken T) hr (by rfl) T.g_ltaken T.F_ltaken.kp T.b_ltaken .nil pass0 (pa_cons (pv 0) (pa_cons (pe_op op_sub (pv 1) pe_int) pa_nil))))
        (pa_cons (pe_ix ix_list (pe_lst (pa_cons pe_int (pa_cons pe_int (pa_cons pe_int pa_nil)))) (pe_call (ok_taken T) hr (by rfl) T.g_ltaken T.F_ltaken.kp T.b_ltaken .nil pass0 (pa_cons (pv 0) (pa_cons pe_int pa_nil))) (fun _ _ => rfl)) pa_nil)))
        (pg_tup rfl (pgs_cons (pg_name (i := 2) nd rfl (.inl rfl)) (pgs_cons (pg_name (i := 3) nd rfl (.inr rfl)) pgs_nil))))
      (pss_cons (ps_setLc (i := 4) (own := [("_law_k", 6)]) rfl nd rfl rfl (sw_true rfl rfl rfl (by decide +kernel)) (pi_range1 (by rfl) T.z_range (pa_cons (pv 2) pa_nil)) (blkOk_by (N := N_lparts) (sc := defScope s_lparts) (by decide +kernel))
        (fun _ _ _ _ _ => pg_name (i := 6) nd rfl (.inl rfl)) (fun _ _ _ _ _ => pts_nil)
        (fun _ _ _ _ _ => pe_op op_add pe_int (pe_call (ok_taken T) hr (by rfl) T.g_ltaken T.F_ltaken.kp T.b_ltaken .nil pass0 (pa_cons (pv 0) (pa_cons (pv 3) pa_nil)))))
      (pss_cons (ps_setLc (i := 5) (own := [("_law_k", 6)]) rfl nd rfl rfl (sw_true rfl rfl rfl (by decide +kernel)) (pi_range1 (by rfl) T.z_range (pa_cons (pv 2) pa_nil)) (blkOk_by (N := N_lparts) (sc := defScope s_lparts) (by decide +kernel))
        (fun _ _ _ _ _ => pg_name (i := 6) nd rfl (.inl rfl)) (fun _ _ _ _ _ => pts_nil)
        (fun _ _ _ _ _ => pe_call (ok_taken T) hr (by rfl) T.g_ltaken T.F_ltaken.kp T.b_ltaken .nil pass0 (pa_cons (pv 0) (pa_cons pe_int pa_nil))))
      (pss_cons (ps_if (pt_cmpR op_eq (pe_callB (cr_sum rfl) (by rfl) T.z_sum (by decide +kernel) (pa_cons (pv 5) pa_nil)) pe_int (nomark _))
        (pss_one (ps_asg (pe_op op_add pe_int (pe_call (ok_taken T) hr (by rfl) T.g_ltaken T.F_ltaken.kp T.b_ltaken .nil pass0 (pa_cons (pv 0) (pa_cons pe_int pa_nil))))
          (pg_sub (pv 5) (pe_call (ok_taken T) hr (by rfl) T.g_ltaken T.F_ltaken.kp T.b_ltaken .nil pass0 (pa_cons (pv 0) (pa_cons (pv 2) pa_nil))) set_list))) pss_nil)
      (pss_cons (ps_while PassesOwn.never (pt_cmpR op_gt (pe_callB (cr_sum rfl) (by rfl) T.z_sum (by decide +kernel) (pa_cons (pv 5) pa_nil)) pe_int (nomark _))
        (pss_one (ps_asg (pe_op op_sub (pe_callB (cr_max rfl) (by rfl) T.z_max (by decide +kernel) (pa_cons (pv 5) pa_nil)) pe_int)
          (pg_sub (pv 5) (pe_bm PySem.F.plainAttrs_list PySem.F.slot_list_index PySem.F.type_list_index mt_index (pv 5) (pa_cons (pe_callB (cr_max rfl) (by rfl) T.z_max (by decide +kernel) (pa_cons (pv 5) pa_nil)) pa_nil)) set_list))))
      (pss_one (ps_ret (pe_tup (pa_cons (pe_callTy call_tuple_of (by rfl) T.z_tuple (by decide +kernel) (pa_cons (pv 4) pa_nil)) (pa_cons (pe_callTy call_tuple_of (by rfl) T.z_tuple (by decide +kernel) (pa_cons (pv 5) pa_nil)) pa_nil))))))))), ?_⟩
    -- size, far
    refine ⟨_, rfl, _, rfl, _, _, rfl, rfl, row, a, ns, _, rfl, RA, by omega, by omega, fun v1 H1 v10 v11 RA1 k1 => ?_⟩
    refine ⟨_, _, rfl, rfl, (by show 3 ≤ sizeLine; decide), fun l3 hl3 => ?_⟩
    have s1 : Same H1 (upd H1 l3 (.lst [.int 3, .int 9, .int 30])) := same_upd hl3
    have RA1' := RA1.same s1
    obtain ⟨_, _, _, hrw1, _⟩ := RA1.ob
    have nl3 : l3 ≠ row := fun e => by rw [e, hrw1] at hl3; cases hl3
    refine ⟨_, rfl, row, a, ns, _, rfl, RA1', by decide, by decide, fun v2 H2 v20 v21 RA2 k2 => ?_⟩
    have hl3' : H2 l3 = some (.lst [.int 3, .int 9, .int 30]) := k2 _ _ upd_same nl3
    obtain ⟨far, hfar, f1, f30⟩ : ∃ far : Int, atI [V.int 3, V.int 9, V.int 30] v2 = some (.int far) ∧ 1 ≤ far ∧ far ≤ 30 := by
      have : v2 = 0 ∨ v2 = 1 ∨ v2 = 2 := by omega
      rcases this with rfl | rfl | rfl
      · exact ⟨3, rfl, by omega, by omega⟩
      · exact ⟨9, rfl, by omega, by omega⟩
      · exact ⟨30, rfl, by omega, by omega⟩
    refine ⟨l3, _, v2, _, rfl, rfl, .of hl3', hfar, (by show 2 ≤ sizeLine; decide), fun t0 ht0 => ?_⟩
    have s2 : Same H2 (upd H2 t0 (.tup [.int (2 + v1), .int far])) := same_upd ht0
    refine ⟨t0, _, rfl, .of upd_same, rfl, _, _, rfl, _, _, rfl, rfl, ?_⟩
    have RA3 := RA2.same s2
    have k3 : Kp row H (upd H2 t0 (.tup [.int (2 + v1), .int far])) := ((k1.trans (Same.kp s1)).trans k2).trans (Same.kp s2)
    show tSeq _ _ _ _ (upd H2 t0 (.tup [.int (2 + v1), .int far]))
    generalize (upd H2 t0 (.tup [.int (2 + v1), .int far])) = H3 at RA3 k3
    -- days
    refine ⟨_, rfl, _, rfl, by omega, by omega, fun D hD => lc_range (lo := 0) (n := (2 + v1).toNat) (Acc K H3 row a D ns 1 30) ?_ ?_ ?_⟩
    · exact ⟨[], rfl, fun y hy => absurd hy (by simp), upd_same, RA3.same (same_upd hD), Same.kp (same_upd hD)⟩
    · rintro i H4 hi ⟨acc, hlen, hall, hacc, RA4, k4⟩
      have nD := RA3.nn hD
      refine ⟨rfl, lc_keep ?_⟩
      refine ⟨_, rfl, _, rfl, row, a, ns, _, rfl, RA4, f1, by omega, fun v H5 v0 v1' RA5 k5 => ?_⟩
      exact ⟨_, _, rfl, rfl, acc.map V.int, k5 _ _ hacc nD, by rw [List.length_map]; exact small1000 (by omega), acc_next hD nD (far_of RA3.sc hD) hlen hall hacc k4 RA5 k5 (by omega) (by omega)⟩
    rintro H4 ⟨ds, dlen, dall, hds, RA4, k4⟩
    have nD := RA3.nn hD
    have k04 := k3.trans k4
    -- starts
    refine ⟨_, rfl, _, rfl, by omega, by omega, fun D2 hD2 => lc_range (lo := 0) (n := (2 + v1).toNat) (Acc K H4 row a D2 ns 0 2) ?_ ?_ ?_⟩
    · exact ⟨[], rfl, fun y hy => absurd hy (by simp), upd_same, RA4.same (same_upd hD2), Same.kp (same_upd hD2)⟩
    · rintro i H5 hi ⟨acc, hlen, hall, hacc, RA5, k5⟩
      have nD2 := RA4.nn hD2
      refine ⟨rfl, lc_keep ?_⟩
      refine ⟨_, rfl, row, a, ns, _, rfl, RA5, by decide, by decide, fun v H6 v0 v1' RA6 k6 => ?_⟩
      exact ⟨acc.map V.int, k6 _ _ hacc nD2, by rw [List.length_map]; exact small1000 (by omega), acc_next hD2 nD2 (far_of RA4.sc hD2) hlen hall hacc k5 RA6 k6 (by omega) (by omega)⟩
    rintro H5 ⟨ss0, slen0, sall0, hss0, RA5, k5⟩
    have nD2 := RA4.nn hD2
    have nDD : D ≠ D2 := ne_of_none hds hD2
    have fD2 := far_of RA4.sc hD2
    have hds5 : H5 D = some (.lst (ds.map V.int)) := k5 _ _ hds nD
    have k05 := k04.trans k5
    have hD20 : ∀ b o, H b = some o → b ≠ row → b ≠ D2 := fun b o e n => ne_of_none (k04 b o e n) hD2
    -- the loop that makes the books few
    have loop : ∀ (ss : List Int) (H6 : Hp), ss.length = (2 + v1).toNat → (∀ y ∈ ss, 0 ≤ y ∧ y ≤ 12) → 1 ≤ ss.sum → H6 D2 = some (.lst (ss.map V.int)) → H6 D = some (.lst (ds.map V.int)) → RowAt K H6 row a ns → Kp row H H6 →
        tSeq (tWhile (tTest (tOp (rI0 fun i j => .bl (decide (j < i))) (tCB (rSum K) (tCons (tVar 5) tNil)) (tC (.int 12))))
          (tAsg (tOp (rI0 fun i j => .int (i - j)) (tCB (rMax K) (tCons (tVar 5) tNil)) (tC (.int 1))) (gSub (tVar 5) (tBM K "list" (rIndex K) (tVar 5) (tCons (tCB (rMax K) (tCons (tVar 5) tNil)) tNil)) rSetL)))
          (tRet (tTup (tCons (tCB (fun xs H Q => ∃ p ys, xs = [.ref p] ∧ ((SqL K H p ys ∧ ∀ l, H l = none → Q (.ref l) (upd H l (.tup ys))) ∨ (SqT K H p ys ∧ Q (.ref p) H))) (tCons (tVar 4) tNil)) (tCons (tCB (fun xs H Q => ∃ p ys, xs = [.ref p] ∧ ((SqL K H p ys ∧ ∀ l, H l = none → Q (.ref l) (upd H l (.tup ys))) ∨ (SqT K H p ys ∧ Q (.ref p) H))) (tCons (tVar 5) tNil)) tNil))))
          { nx := fun _ H' => Q .non H', rt := Q } [some (.ref row), some (.int most), some (.int (2 + v1)), some (.int far), some (.ref D), some (.ref D2), none] H6 := by
      intro ss H6 slen sall ssum hss hdd RA6 k6
      refine ⟨fun m σ H' => σ = [some (.ref row), some (.int most), some (.int (2 + v1)), some (.int far), some (.ref D), some (.ref D2), none] ∧ ∃ ss : List Int, m = ss.sum.toNat ∧ ss.length = (2 + v1).toNat ∧ (∀ y ∈ ss, 0 ≤ y ∧ y ≤ 12) ∧ 1 ≤ ss.sum ∧ H' D2 = some (.lst (ss.map V.int)) ∧ H' D = some (.lst (ds.map V.int)) ∧ RowAt K H' row a ns ∧ Kp row H H',
        ⟨ss.sum.toNat, rfl, ss, rfl, slen, sall, ssum, hss, hdd, RA6, k6⟩, ?_⟩
      rintro m σ H7 ⟨rfl, ss, rfl, slen, sall, ssum, hss, hdd, RA7, k7⟩
      refine ⟨_, rfl, D2, ss, rfl, .of hss, _, _, rfl, rfl, _, rfl, ?_⟩
      by_cases hc : 12 < ss.sum
      · rw [decide_eq_true hc]
        refine iteT ⟨fun σ' H' => σ' = [some (.ref row), some (.int most), some (.int (2 + v1)), some (.int far), some (.ref D), some (.ref D2), none] ∧ ∃ ss' : List Int, ss'.sum = ss.sum - 1 ∧ ss'.length = (2 + v1).toNat ∧ (∀ y ∈ ss', 0 ≤ y ∧ y ≤ 12) ∧ H' D2 = some (.lst (ss'.map V.int)) ∧ H' D = some (.lst (ds.map V.int)) ∧ RowAt K H' row a ns ∧ Kp row H H',
          fun σ' H' ⟨e1, ss', e2, e3, e4, e5, e6, e7, e8⟩ => ⟨ss'.sum.toNat, by omega, e1, ss', rfl, e3, e4, by omega, e5, e6, e7, e8⟩, ?_⟩
        refine ⟨_, rfl, D2, ss, rfl, .of hss, by omega, fun mm hm hmu => ⟨_, _, rfl, rfl, ?_⟩⟩
        refine ⟨_, rfl, _, rfl, .inl ⟨rfl, _, .of hss⟩, _, rfl, D2, ss, rfl, .of hss, by omega, fun mm2 hm2 hmu2 => ?_⟩
        obtain ⟨j, hj, hno⟩ := first_ix hm2
        have emm : mm2 = mm := Int.le_antisymm (hmu _ hm2) (hmu2 _ hm)
        subst emm
        have hjl : j < ss.length := (List.getElem?_eq_some_iff.mp hj).1
        refine ⟨D2, ss.map V.int, .int mm2, j, .int mm2, rfl, rfl, .of hss, rfl, flat_ints ss, by rw [List.getElem?_map, hj]; rfl, beq_self_eq_true mm2, fun k z' hk hz => ?_, ?_⟩
        · obtain ⟨z, hz2, rfl⟩ := get_int hz
          exact beq_eq_false_iff_ne.mpr (hno k z hk hz2)
        · have hixn : ixN (ss.map V.int).length ((j : Nat) : Int) = some j := by
            unfold ixN
            rw [List.length_map, if_pos (by omega), if_pos (by omega), Int.toNat_natCast]
          refine ⟨D2, _, ((j : Nat) : Int), j, rfl, rfl, hss, hixn, rfl, ss.set j (mm2 - 1), ?_, by rw [List.length_set]; exact slen, fun y hy => ?_, by rw [upd_same, List.map_set], by rw [upd_ne nDD]; exact hdd, RA7.upd' nD2 fD2, fun b o e n => by rw [upd_ne (hD20 b o e n)]; exact k7 b o e n⟩
          · rw [sum_set hj]
            omega
          · have hm12 := sall _ hm2
            have hm1 : 1 ≤ mm2 := by
              rcases Int.lt_or_le mm2 1 with z | z
              · have := sum_le_zero (l := ss) fun y hy => by have := hmu _ hy; omega
                omega
              · exact z
            rcases mem_set hy with z | z
            · exact sall y z
            · omega
      · rw [decide_eq_false hc]
        refine iteF ?_
        refine ⟨_, rfl, D, _, rfl, .inl ⟨.of hdd, fun l1 hl1 => ?_⟩⟩
        have u1 := same_upd (o := .tup (ds.map V.int)) hl1
        refine ⟨_, rfl, D2, _, rfl, .inl ⟨.of (u1 _ _ hss), fun l2 hl2 => ⟨(by show 2 ≤ sizeLine; decide), fun t ht => ?_⟩⟩⟩
        have u2 := same_upd (o := .tup (ss.map V.int)) hl2
        have u3 := same_upd (o := .tup [.ref l1, .ref l2]) ht
        exact q _ t l1 l2 ds ss ⟨by omega, by omega, by omega, dall, sall, ssum, by omega⟩ (((RA7.same u1).same u2).same u3) (((k7.trans (Same.kp u1)).trans (Same.kp u2)).trans (Same.kp u3)) upd_same (u3 _ _ (u2 _ _ upd_same)) (u3 _ _ upd_same)
    -- if sum(starts) == 0
    refine ⟨_, rfl, D2, ss0, rfl, .of hss0, rfl, _, rfl, ?_⟩
    have nn0 : ∀ y ∈ ss0, 0 ≤ y := fun y hy => (sall0 y hy).1
    by_cases hz : ss0.sum = 0
    · rw [decide_eq_true (show V.int ss0.sum = V.int 0 by rw [hz])]
      refine iteT ?_
      refine ⟨_, rfl, row, a, ns, _, rfl, RA5, by decide, by decide, fun v H6 v0 v1' RA6 k6 => ⟨_, _, rfl, rfl, ?_⟩⟩
      refine ⟨_, rfl, _, rfl, _, rfl, row, a, ns, _, rfl, RA6, by omega, by omega, fun j H7 j0 j1 RA7 k7 => ?_⟩
      have k57 := k6.trans k7
      have hss7 : H7 D2 = some (.lst (ss0.map V.int)) := k57 _ _ hss0 nD2
      have hj : j.toNat < ss0.length := by omega
      have hixn : ixN (ss0.map V.int).length j = some j.toNat := by
        unfold ixN
        rw [List.length_map, if_pos (by omega), if_pos (by omega)]
      refine ⟨D2, _, j, j.toNat, rfl, rfl, hss7, hixn, ?_⟩
      have hmem : (1 + v) ∈ ss0.set j.toNat (1 + v) := List.mem_set hj (1 + v)
      have hall' : ∀ y ∈ ss0.set j.toNat (1 + v), 0 ≤ y ∧ y ≤ 12 := fun y hy => by
        rcases mem_set hy with z | z
        · have := sall0 y z; omega
        · omega
      refine loop (ss0.set j.toNat (1 + v)) _ (by rw [List.length_set]; exact slen0) hall' ?_ (by rw [upd_same, List.map_set]) (by rw [upd_ne nDD]; exact k57 _ _ hds5 nD) (RA7.upd' nD2 fD2) (fun b o e n => by rw [upd_ne (hD20 b o e n)]; exact (k05.trans k57) b o e n)
      have := mem_le_sum (fun y hy => (hall' y hy).1) _ hmem
      omega
    · rw [decide_eq_false (show ¬ V.int ss0.sum = V.int 0 from fun z => hz (V.int.inj z))]
      refine iteF ?_
      have := mem_le_sum.sum_nonneg' nn0
      exact loop ss0 H5 slen0 (fun y hy => by have := sall0 y hy; omega) (by omega) hss0 hds5 RA5 k05
end
end Rp
/-! More rules beside the layer's: a range that stands in a slot, walked; a tuple's index of an int. -/
namespace Rz
open PySem PySem.Spec PyProof.Rows L2
section
variable {X : Cx}
def iRngV (te : TE) : TI := fun σ H R => te σ H fun x H1 => ∃ a lo hi, x = .ref a ∧ H1 a = some (.rng lo hi) ∧ (-(2 ^ 62) ≤ lo ∧ lo < 2 ^ 62 ∧ -(2 ^ 62) ≤ hi ∧ hi < 2 ^ 62) ∧ R (Itr lo (hi - lo).toNat) H1
theorem pi_rngV {tg e : Expr} {te : TE} (he : PE X e te) : PI X tg e (iRngV te) := by
  refine ⟨fun pins s σ H R I h => ?_⟩
  refine thn (he.run pins s σ H _ I h) fun v s1 ⟨x, H1, I1, r1, q1⟩ => ?_
  obtain ⟨a, lo, hi, ex, ha, ⟨h1, h2, h3, h4⟩, q⟩ := q1
  subst ex
  cases r1
  obtain ⟨t, u, v, ho⟩ := (show ObjOk X.prog X.w H1 s1.heap a (.rng lo hi) from I1.hok a _ ha)
  refine wpAny_pyIter_range (show IsRange s1.heap a lo hi 1 t u v from ho) (small_one h1 h2 h3 h4) ?_
  refine ⟨s1.heap.objs.size, [s1.heap.objs.size], _, _, H1, rfl, I1.kept (t' := s1.toks) fun b o e => Heap.get?_push_of_some _ e, turn_range _ lo (hi - lo).toNat, ?_, fun b hb => ?_, q⟩
  · have e1 : lo + ((0 : Nat) : Int) * 1 = lo := by simp
    have e2 : (((hi - lo).toNat : Nat) : Int) - ((0 : Nat) : Int) = Builtin.Range.rangeSize lo hi 1 := by rw [rangeSize_one]; split <;> omega
    show IsRangeIter _ _ (lo + ((0 : Nat) : Int) * 1) ((((hi - lo).toNat : Nat) : Int) - ((0 : Nat) : Int)) 1
    rw [e1, e2]
    exact Heap.get?_push_size _ rfl
  · have e : b = s1.heap.objs.size := by simpa using hb
    subst e
    exact I1.fpOk (Nat.le_refl _) (I1.hok.fresh (Nat.le_refl _))
/-- t.index(i), the first place -/
theorem mt_tup_indexI : MtR X "tuple.index" (fun x xs H Q => ∃ p, ∃ ys : List Int, ∃ z j, x = .ref p ∧ xs = [.int z] ∧ SqT X.K H p (ys.map V.int) ∧ ys[j]? = some z ∧ (∀ m y, m < j → ys[m]? = some y → y ≠ z) ∧ Q (.int (j : Nat)) H) := by
  intro pins s σ H x xs v us Q I rx rs h
  obtain ⟨p, ys, z, j, rfl, rfl, hq, hy, hno, q⟩ := h
  cases rx
  obtain ⟨u, rfl, t, rfl⟩ := vals1 rs
  obtain ⟨its, r, pl, hz⟩ := I.tuple hq
  obtain ⟨⟨cls, dd, dt, sl⟩, ho, hc, n, hd⟩ := pl
  simp only at hc hd
  subst hc
  subst hd
  have fl : (ys.map V.int).all flatV = true := by
    rw [List.all_eq_true]
    intro x hx
    obtain ⟨i, _, rfl⟩ := List.mem_map.mp hx
    rfl
  have hl : its.toArray.size = ys.length := by rw [List.size_toArray, ← r.length, List.length_map]
  have hj : j < its.toArray.size := by rw [hl]; exact (List.getElem?_eq_some_iff.mp hy).1
  have at' : ∀ (m : Nat) (hm : m < its.toArray.size), ∃ y t', ys[m]? = some y ∧ its.toArray[m] = Value.int y t' := fun m hm => by
    have hm' : m < ys.length := by rw [← hl]; exact hm
    obtain ⟨w, hw, t', hw'⟩ := r.get (i := m) (x := .int ys[m]) (by simp [hm'])
    refine ⟨ys[m], t', List.getElem?_eq_getElem hm', ?_⟩
    have e := (List.getElem?_eq_some_iff.mp hw).2
    rw [← hw', ← e]
    simp
  refine call_meets PySem.F.slot_tuple_index ⟨_, ho, rfl⟩ PySem.F.entry_tuple_index (PySem.F.args_tuple_index_2 _ _) (TI.tuple_indexAt p its.toArray n dd sl (.int z t) (eqU (.int z)) j hj ?_ ?_)
    ⟨ho, fun w hw => mem_eqAt (x := .int z) ⟨t, rfl⟩ rfl r fl w (by simpa using hw), ⟨.int (j : Nat), H, I.tok _, ⟨_, rfl⟩, q⟩⟩
  · obtain ⟨y, t', h1, h2⟩ := at' j hj
    rw [hy] at h1
    cases h1
    rw [h2]
    show (z == z) = true
    exact beq_self_eq_true z
  · intro m hm hmj
    obtain ⟨y, t', h1, h2⟩ := at' m hm
    rw [h2]
    show (y == z) = false
    exact beq_eq_false_iff_ne.mpr (hno m y hmj h1)
end
end Rz
namespace Rp
open PySem PySem.Spec PyProof.Rows L2 Rz Rm
section
variable {K : PySem.W.Frag} {H : Hp} {Q : VK} {a b : Addr} {xs ys : List V}
theorem sl_from {k : Int} (ha : H a = some (.tup xs)) (k0 : 0 ≤ k) (k1 : k ≤ xs.length) (h : ∀ H' p, Same H H' → H' p = some (.tup (xs.drop k.toNat)) → Q (.ref p) H') : rSlA K (.ref a) (some k) none H Q := by
  have e : k = ((k.toNat : Nat) : Int) := by omega
  have e0 : HT.sIx xs.length 0 (some k) = k.toNat := by
    rw [e, HT.sIx_nat]
    omega
  have e1 : cutV xs (some k) none = xs.drop k.toNat := by
    unfold cutV
    rw [e0, HT.sIx_none, List.take_of_length_le (by rw [List.length_drop]; omega)]
  refine ⟨a, xs, rfl, .of ha, fun z => h H a (fun _ _ q => q) ?_, fun _ p hp => h _ p (same_upd hp) (by rw [upd_same, e1])⟩
  rw [e0] at z
  rw [ha, z.1]
  rfl
theorem sl_to {k : Int} (ha : H a = some (.tup xs)) (k0 : 0 ≤ k) (k1 : k ≤ xs.length) (h : ∀ H' p, Same H H' → H' p = some (.tup (xs.take k.toNat)) → Q (.ref p) H') : rSlA K (.ref a) none (some k) H Q := by
  have e : k = ((k.toNat : Nat) : Int) := by omega
  have e0 : HT.sIx xs.length xs.length (some k) = k.toNat := by
    rw [e, HT.sIx_nat]
    omega
  have e1 : cutV xs none (some k) = xs.take k.toNat := by
    unfold cutV
    rw [e0, HT.sIx_none, List.drop_zero, Nat.sub_zero]
  refine ⟨a, xs, rfl, .of ha, fun z => h H a (fun _ _ q => q) ?_, fun _ p hp => h _ p (same_upd hp) (by rw [upd_same, e1])⟩
  rw [e0] at z
  rw [ha, z.2, List.take_length]
theorem cat_any (ha : H a = some (.tup xs)) (hb : H b = some (.tup ys)) (hl : xs.length + ys.length ≤ sizeLine) (h : ∀ H' p, Same H H' → H' p = some (.tup (xs ++ ys)) → Q (.ref p) H') : rCatA K (.ref a) (.ref b) H Q := by
  refine ⟨a, b, xs, ys, rfl, rfl, .of ha, .of hb, hl, fun z => h H b (fun _ _ q => q) ?_, fun _ z => h H a (fun _ _ q => q) ?_, fun _ _ p hp => h _ p (same_upd hp) upd_same⟩
  · rw [z, hb]
    rfl
  · rw [z, ha, List.append_nil]
end
theorem noPart {σ : L2.St} {H : Hp} {Q : Option Int → Hp → Prop} (h : Q none H) : tNoPart σ H Q := h
end Rp
namespace Rp
open PySem PySem.Spec PyProof.Rows L2 Rz Rm
/-! ### which book, when it came -/
section
variable {ds ss : List Int} {M : Int} (RR : Rm.Ring ds.length (at' ds) (at' ss) ss.sum ds.sum M) (hl : ss.length = ds.length)
include RR hl
theorem bk_ex (k : Int) {q : Int} (q0 : 0 ≤ q) (q1 : q < ss.sum) : ∃ v, Bk ss k q v := by
  have go : ∀ n : Nat, n ≤ ss.length → q < sumBack (at' ss) k n → ∃ v, Bk ss k q v := by
    intro n
    induction n with
    | zero => intro _ h; exact absurd h (by show ¬ q < 0; omega)
    | succ n ih =>
      intro hn h
      by_cases hh : q < sumBack (at' ss) k n
      · exact ih (by omega) hh
      · exact ⟨_, n, by omega, by omega, h, rfl⟩
  refine go ss.length (Nat.le_refl _) ?_
  rw [hl, RR.b]
  exact q1
end
noncomputable def bk (ss : List Int) (k n : Int) : Int := open Classical in if h : ∃ v, Bk ss k (n % ss.sum) v then Classical.choose h else 0
noncomputable def cm (ds ss : List Int) (k n : Int) : Int := if n < at' ss k then 0 else Rm.E (at' ds) (at' ss) (k - 1) (n - at' ss k)
section
variable {ds ss : List Int} {M : Int} (RR : Rm.Ring ds.length (at' ds) (at' ss) ss.sum ds.sum M) (hl : ss.length = ds.length)
include RR hl
theorem bk_is (k n : Int) : Bk ss k (n % ss.sum) (bk ss k n) := by
  have hB := RR.b1
  have h := bk_ex RR hl k (q := n % ss.sum) (Int.emod_nonneg _ (by omega)) (Int.emod_lt_of_pos _ (by omega))
  unfold bk
  rw [dif_pos h]
  exact Classical.choose_spec h
theorem bk_of {k n v : Int} (h : Bk ss k (n % ss.sum) v) : bk ss k n = v := (bk_is RR hl k n).inj RR.s0 h
theorem s_le (k : Int) : at' ss k ≤ ss.sum := by
  have hN := RR.pos
  have h := sum_mono RR.s0 k (show 1 ≤ ds.length by omega)
  rw [RR.b] at h
  have e : sumBack (at' ss) k 1 = at' ss k := by
    show 0 + at' ss (k - (0 : Nat)) = _
    rw [show k - ((0 : Nat) : Int) = k by omega]
    omega
  omega
theorem bk_first {k : Nat} (hk : k < ds.length) {n : Int} (n0 : 0 ≤ n) (n1 : n < at' ss k) : bk ss k n = (ss.take k).sum + n := by
  have h1 := s_le RR hl k
  refine bk_of RR hl ⟨0, by omega, ?_, ?_, ?_⟩
  · show (0 : Int) ≤ _
    exact Int.emod_nonneg _ (by have := RR.b1; omega)
  · rw [Int.emod_eq_of_lt n0 (by omega)]
    show n < 0 + at' ss ((k : Int) - (0 : Nat))
    rw [show (k : Int) - ((0 : Nat) : Int) = k by omega]
    omega
  · rw [Int.emod_eq_of_lt n0 (by omega), show (k : Int) - ((0 : Nat) : Int) = k by omega, Int.emod_eq_of_lt (by omega) (by omega), Int.toNat_natCast]
    show _ = _ + (n - 0)
    omega
theorem bk_rec (k : Int) {n : Int} (h : at' ss k ≤ n) : bk ss k n = bk ss (k - 1) (n - at' ss k) := by
  have hB := RR.b1
  have hs0 := RR.s0 k
  have hsB := s_le RR hl k
  have hN := RR.pos
  symm
  apply bk_of RR hl
  have q0 : 0 ≤ n % ss.sum := Int.emod_nonneg _ (by omega)
  have q1 : n % ss.sum < ss.sum := Int.emod_lt_of_pos _ (by omega)
  have hdm := Int.emod_add_mul_ediv n ss.sum
  obtain ⟨i, hi, a1, a2, a3⟩ := bk_is RR hl k n
  have hf : ∀ j : Nat, sumBack (at' ss) k (j + 1) = at' ss k + sumBack (at' ss) (k - 1) j := fun j => sum_front (at' ss) j k
  by_cases hq : at' ss k ≤ n % ss.sum
  · have hi0 : i ≠ 0 := fun e => by
      subst e
      have := hf 0
      have e0 : sumBack (at' ss) (k - 1) 0 = 0 := rfl
      have : sumBack (at' ss) k (0 + 1) = sumBack (at' ss) k 1 := rfl
      omega
    obtain ⟨i', rfl⟩ : ∃ i', i = i' + 1 := ⟨i - 1, by omega⟩
    have em : (n - at' ss k) % ss.sum = n % ss.sum - at' ss k := by
      have e1 : n - at' ss k = (n % ss.sum - at' ss k) + ss.sum * (n / ss.sum) := by omega
      rw [e1, Int.add_mul_emod_self_left, Int.emod_eq_of_lt (by omega) (by omega)]
    have h1 := hf i'
    have h2 := hf (i' + 1)
    refine ⟨i', by omega, by omega, by omega, ?_⟩
    rw [em, a3, show k - 1 - (i' : Int) = k - ((i' + 1 : Nat) : Int) by omega]
    omega
  · have hi0 : i = 0 := by
      rcases Nat.eq_zero_or_pos i with z | z
      · exact z
      · have := sum_mono RR.s0 k (show 1 ≤ i by omega)
        have h1 := hf 0
        have e0 : sumBack (at' ss) (k - 1) 0 = 0 := rfl
        have : sumBack (at' ss) k (0 + 1) = sumBack (at' ss) k 1 := rfl
        omega
    subst hi0
    have hdiv : 1 ≤ n / ss.sum := by
      rcases Int.lt_or_le (n / ss.sum) 1 with z | z
      · have : ss.sum * (n / ss.sum) ≤ 0 := Int.mul_nonpos_of_nonneg_of_nonpos (by omega) (by omega)
        omega
      · exact z
    have em : (n - at' ss k) % ss.sum = n % ss.sum - at' ss k + ss.sum := by
      have e1 : n - at' ss k = (n % ss.sum - at' ss k + ss.sum) + ss.sum * (n / ss.sum - 1) := by
        rw [Int.mul_sub]
        omega
      rw [e1, Int.add_mul_emod_self_left, Int.emod_eq_of_lt (by omega) (by omega)]
    have hlast : sumBack (at' ss) (k - 1) (ds.length - 1 + 1) = sumBack (at' ss) (k - 1) (ds.length - 1) + at' ss (k - 1 - (ds.length - 1 : Nat)) := rfl
    rw [show ds.length - 1 + 1 = ds.length by omega, RR.b] at hlast
    have hper := RR.sper (k - ds.length) 1
    rw [show k - (ds.length : Int) + ds.length * 1 = k by omega] at hper
    rw [show k - 1 - ((ds.length - 1 : Nat) : Int) = k - ds.length by omega, ← hper] at hlast
    have hfull : sumBack (at' ss) (k - 1) (ds.length - 1 + 1) = ss.sum := by
      rw [show ds.length - 1 + 1 = ds.length by omega, RR.b]
    refine ⟨ds.length - 1, by omega, by omega, by omega, ?_⟩
    have ek : (k - 1 - ((ds.length - 1 : Nat) : Int)) % (ss.length : Int) = (k - (0 : Nat)) % (ss.length : Int) := by
      rw [show k - 1 - ((ds.length - 1 : Nat) : Int) = k + (ss.length : Int) * (-1) by omega, Int.add_mul_emod_self_left, show k - ((0 : Nat) : Int) = k by omega]
    rw [em, ek, a3]
    have e0 : sumBack (at' ss) k 0 = 0 := rfl
    omega
theorem bk_per (k t n : Int) : bk ss (k + ds.length * t) n = bk ss k n := by
  have hS : ∀ i, sumBack (at' ss) (k + ds.length * t) i = sumBack (at' ss) k i := by
    intro i
    induction i with
    | zero => rfl
    | succ i ih =>
      show sumBack (at' ss) (k + ds.length * t) i + at' ss (k + ds.length * t - i) = sumBack (at' ss) k i + at' ss (k - i)
      rw [ih, show k + ds.length * t - (i : Int) = (k - i) + ds.length * t by omega, RR.sper]
  apply bk_of RR hl
  obtain ⟨i, hi, a1, a2, a3⟩ := bk_is RR hl k n
  refine ⟨i, hi, by rw [hS]; exact a1, by rw [hS]; exact a2, ?_⟩
  rw [hS, a3, show k + ds.length * t - (i : Int) = (k - i) + ss.length * t by rw [hl]; omega, Int.add_mul_emod_self_left]
end
/-! ### what lies in heaps, on lists -/
/-- f b, f (b + 1), .. below c -/
def seg (f : Int → List Int) (b c : Int) : List (List Int) := (List.range (c - b).toNat).map fun (i : Nat) => f (b + (i : Int))
theorem seg_nil {f : Int → List Int} {b c : Int} (h : c ≤ b) : seg f b c = [] := by
  unfold seg
  rw [show (c - b).toNat = 0 by omega]
  rfl
theorem seg_snoc {f : Int → List Int} {b c : Int} (h : b ≤ c) : seg f b (c + 1) = seg f b c ++ [f c] := by
  unfold seg
  rw [show (c + 1 - b).toNat = (c - b).toNat + 1 by omega, List.range_succ, List.map_append]
  show _ ++ [f (b + ((c - b).toNat : Int))] = _
  rw [show b + ((c - b).toNat : Int) = c by omega]
theorem seg_cons {f : Int → List Int} {b c : Int} (h : b < c) : seg f b c = f b :: seg f (b + 1) c := by
  unfold seg
  rw [show (c - b).toNat = (c - (b + 1)).toNat + 1 by omega, List.range_succ_eq_map, List.map_cons, List.map_map, show b + ((0 : Nat) : Int) = b by omega]
  congr 1
  apply List.map_congr_left
  intro i _
  show f (b + ((i + 1 : Nat) : Int)) = f (b + 1 + (i : Int))
  rw [show b + ((i + 1 : Nat) : Int) = b + 1 + (i : Int) by omega]
theorem seg_length (f : Int → List Int) (b c : Int) : (seg f b c).length = (c - b).toNat := by
  unfold seg
  rw [List.length_map, List.length_range]
theorem seg_get {f : Int → List Int} {b c : Int} {i : Nat} (h : i < (c - b).toNat) : (seg f b c)[i]? = some (f (b + i)) := by
  unfold seg
  rw [List.getElem?_map, List.getElem?_range h]
  rfl
/-- tuples of ints at addresses -/
def Tups (H : Hp) : List V → List (List Int) → Prop := Paired fun v l => ∃ t, v = V.ref t ∧ H t = some (.tup (l.map V.int))
theorem Tups.snoc {H : Hp} {v : V} {l : List Int} (h2 : ∃ t, v = V.ref t ∧ H t = some (.tup (l.map V.int))) : ∀ {xs : List V} {ls : List (List Int)}, Tups H xs ls → Tups H (xs ++ [v]) (ls ++ [l])
  | _, _, .nil => .cons h2 .nil
  | _, _, .cons r t => .cons r (Tups.snoc h2 t)
theorem Tups.mono {H H' : Hp} (k : ∀ b xs, H b = some (.tup xs) → H' b = some (.tup xs)) : ∀ {xs : List V} {ls : List (List Int)}, Tups H xs ls → Tups H' xs ls
  | _, _, .nil => .nil
  | _, _, .cons ⟨t, e, h⟩ r => .cons ⟨t, e, k _ _ h⟩ (Tups.mono k r)
theorem Tups.length {H : Hp} {xs : List V} {ls : List (List Int)} (h : Tups H xs ls) : xs.length = ls.length := Paired.length h
theorem Tups.get {H : Hp} : ∀ {xs : List V} {ls : List (List Int)} {i : Nat} {l : List Int}, Tups H xs ls → ls[i]? = some l → ∃ t, xs[i]? = some (.ref t) ∧ H t = some (.tup (l.map V.int))
  | _, _, i, l, .nil, h => by simp at h
  | _, _, 0, l, .cons ⟨t, e, h2⟩ r, h => by
    simp at h
    subst h
    exact ⟨t, by rw [e]; rfl, h2⟩
  | _, _, i + 1, l, .cons _ r, h => by
    obtain ⟨t, h1, h2⟩ := Tups.get (i := i) (l := l) r (by simpa using h)
    exact ⟨t, by simpa using h1, h2⟩
/-- as data, for == -/
theorem dp_is {K : PySem.W.Frag} {H : Hp} : ∀ l : List Int, DpAll K H (l.map V.int) (l.map PyData.int)
  | [] => .nil
  | x :: r => .cons (.int x) (dp_is r)
theorem Tups.data {K : PySem.W.Frag} {H : Hp} : ∀ {xs : List V} {ls : List (List Int)}, Tups H xs ls → DpAll K H xs (ls.map fun l => PyData.tuple (l.map PyData.int))
  | _, _, .nil => .nil
  | _, _, .cons ⟨t, e, h⟩ r => .cons (by subst e; exact .tup (.of h) (dp_is _)) (Tups.data r)
theorem lay_tups : ∀ ls : List (List Int), PyData.canLayAll0 (ls.map fun l => PyData.tuple (l.map PyData.int)) = true ∧ PyData.depthAll (ls.map fun l => PyData.tuple (l.map PyData.int)) ≤ 1
  | [] => ⟨rfl, Nat.zero_le _⟩
  | l :: r => by
    obtain ⟨h1, h2⟩ := lay_tups r
    constructor
    · simp [PyData.canLayAll0, PyData.canLay0, PySem.W.ke_canLayAll0 l, h1]
    · simp only [List.map_cons, PyData.depthAll, PyData.depth, PySem.W.ke_depthAll l]
      omega
theorem shaped_tups (ls : List (List Int)) : SeqAt.shaped (.list (ls.map fun l => PyData.tuple (l.map PyData.int))) = true := by
  obtain ⟨h1, h2⟩ := lay_tups ls
  simp only [SeqAt.shaped, PyData.canLay0, PyData.depth, h1, Bool.true_and]
  exact decide_eq_true (by omega)
end Rp
namespace Rp
open PySem PySem.Spec PyProof.Rows L2 Rz Rm
def nx (N j : Nat) : Nat := if j + 1 = N then 0 else j + 1
def prv (N j : Nat) : Nat := if j = 0 then N - 1 else j - 1
theorem nx_lt {N j : Nat} (h : j < N) : nx N j < N := by
  unfold nx
  split <;> omega
theorem prv_lt {N j : Nat} (h : j < N) : prv N j < N := by
  unfold prv
  split <;> omega
theorem prv_nx {N j : Nat} (h : j < N) : prv N (nx N j) = j := by
  unfold prv nx
  split <;> split <;> omega
theorem prv_inj {N i j : Nat} (hi : i < N) (hj : j < N) (h : prv N i = j) : i = nx N j := by
  unfold prv at h
  unfold nx
  split at h <;> split <;> omega
theorem nx_mod {N j : Nat} (h : j < N) : ((j : Int) + 1) % (N : Int) = (nx N j : Int) := by
  unfold nx
  split
  · rename_i e
    rw [show (j : Int) + 1 = N by omega, Int.emod_self]
    rfl
  · rw [Int.emod_eq_of_lt (by omega) (by omega)]
    omega
noncomputable def item (ds ss : List Int) (j n : Int) : List Int := [bk ss j n, cm ds ss j n]
noncomputable def rowOf (ds ss : List Int) (j n : Int) : List Int := [Rm.E (at' ds) (at' ss) j n - at' ds j, Rm.E (at' ds) (at' ss) j n, bk ss j n, cm ds ss j n]
/-- the ends, counts of the reader before, by its index -/
theorem E_prv {ds ss : List Int} {M : Int} (RR : Rm.Ring ds.length (at' ds) (at' ss) ss.sum ds.sum M) {j : Nat} (hj : j < ds.length) (x : Int) : Rm.E (at' ds) (at' ss) (prv ds.length j : Nat) x = Rm.E (at' ds) (at' ss) ((j : Int) - 1) x := by
  unfold prv
  split
  · rename_i e
    have h := RR.E_per ((j : Int) - 1) x 1
    rw [show (j : Int) - 1 + ds.length * 1 = ((ds.length - 1 : Nat) : Int) by omega] at h
    exact h
  · rw [show ((j - 1 : Nat) : Int) = (j : Int) - 1 by omega]
theorem Cn_prv {ds ss : List Int} {M : Int} (RR : Rm.Ring ds.length (at' ds) (at' ss) ss.sum ds.sum M) {j : Nat} (hj : j < ds.length) (x : Int) : Cn (at' ds) (at' ss) (prv ds.length j : Nat) x = Cn (at' ds) (at' ss) ((j : Int) - 1) x := by
  unfold prv
  split
  · rename_i e
    have h := RR.cn_per ((j : Int) - 1) x 1
    rw [show (j : Int) - 1 + ds.length * 1 = ((ds.length - 1 : Nat) : Int) by omega] at h
    exact h
  · rw [show ((j - 1 : Nat) : Int) = (j : Int) - 1 by omega]
theorem item_next {ds ss : List Int} {M : Int} (RR : Rm.Ring ds.length (at' ds) (at' ss) ss.sum ds.sum M) (hl : ss.length = ds.length) {j : Nat} (hj : j < ds.length) {n : Int} (n0 : 0 ≤ n) :
    item ds ss (nx ds.length j : Nat) (at' ss (nx ds.length j : Nat) + n) = [bk ss j n, Rm.E (at' ds) (at' ss) j n] := by
  have hb := bk_rec RR hl (nx ds.length j : Nat) (n := at' ss (nx ds.length j : Nat) + n) (by omega)
  rw [show at' ss (nx ds.length j : Nat) + n - at' ss (nx ds.length j : Nat) = n by omega] at hb
  have hp := E_prv RR (nx_lt hj) n
  rw [prv_nx hj] at hp
  have hbp : bk ss (((nx ds.length j : Nat) : Int) - 1) n = bk ss j n := by
    unfold nx
    split
    · rename_i e
      have h := bk_per RR hl (((0 : Nat) : Int) - 1) 1 n
      rw [show ((0 : Nat) : Int) - 1 + ds.length * 1 = j by omega] at h
      exact h.symm
    · rw [show ((j + 1 : Nat) : Int) - 1 = j by omega]
  unfold item cm
  rw [if_neg (by omega), hb, hbp, show at' ss (nx ds.length j : Nat) + n - at' ss (nx ds.length j : Nat) = n by omega, hp]
/-- where the play's lists stand: apart, and new -/
structure Ad (H0 : Hp) (N : Nat) (hl rd rl sl : Addr) (ha ra : List Addr) : Prop where
  f1 : H0 hl = none
  f2 : H0 rd = none
  f3 : H0 rl = none
  f4 : H0 sl = none
  fh : ∀ a ∈ ha, H0 a = none
  fr : ∀ a ∈ ra, H0 a = none
  n1 : hl ≠ rd
  n2 : hl ≠ rl
  n3 : hl ≠ sl
  n4 : rd ≠ rl
  n5 : rd ≠ sl
  n6 : rl ≠ sl
  nh : ∀ a ∈ ha, a ≠ hl ∧ a ≠ rd ∧ a ≠ rl ∧ a ≠ sl
  nr : ∀ a ∈ ra, a ≠ hl ∧ a ≠ rd ∧ a ≠ rl ∧ a ≠ sl
  nhr : ∀ a ∈ ha, ∀ c ∈ ra, a ≠ c
  dh : ha.Nodup
  dr : ra.Nodup
  lh : ha.length = N
  lr : ra.length = N
/-- what a reader is reading -/
def RdOk (H : Hp) (ds ss : List Int) (v : V) (j : Int) (b e : Int) : Prop := (v = .non ∧ b = e) ∨ (∃ t, v = .ref t ∧ H t = some (.tup [.int (Rm.E (at' ds) (at' ss) j e), .int (bk ss j e)]) ∧ b = e + 1)
/-- the play: so many readings of each reader have begun, so many have ended -/
structure Sim (ds ss : List Int) (H0 H : Hp) (hl rd rl sl : Addr) (ha ra : List Addr) (b e : Nat → Int) : Prop where
  sm : Same H0 H
  ohl : H hl = some (.lst (ha.map V.ref))
  orl : H rl = some (.lst (ra.map V.ref))
  oh : ∀ (j : Nat) (a : Addr), ha[j]? = some a → ∃ xs, H a = some (.lst xs) ∧ Tups H xs (seg (item ds ss j) (b j) (at' ss j + e (prv ds.length j)))
  orr : ∀ (j : Nat) (a : Addr), ra[j]? = some a → ∃ xs, H a = some (.lst xs) ∧ Tups H xs (seg (rowOf ds ss j) 0 (b j))
  ord : ∃ vs, H rd = some (.lst vs) ∧ vs.length = ds.length ∧ ∀ j, j < ds.length → ∃ v, vs[j]? = some v ∧ RdOk H ds ss v j (b j) (e j)
  b0 : ∀ j, j < ds.length → 0 ≤ b j
  e0 : ∀ j, j < ds.length → 0 ≤ e j
  le : ∀ j, j < ds.length → b j ≤ at' ss j + e (prv ds.length j)
theorem RdOk.mono {H H' : Hp} {ds ss : List Int} {v : V} {j b e : Int} (k : ∀ b xs, H b = some (.tup xs) → H' b = some (.tup xs)) (h : RdOk H ds ss v j b e) : RdOk H' ds ss v j b e := by
  rcases h with h | ⟨t, h1, h2, h3⟩
  · exact .inl h
  · exact .inr ⟨t, h1, k _ _ h2, h3⟩
section
variable {ds ss : List Int} {H0 H H' : Hp} {hl rd rl sl : Addr} {ha ra : List Addr} {b e : Nat → Int}
theorem Sim.same (S : Sim ds ss H0 H hl rd rl sl ha ra b e) (s : Same H H') : Sim ds ss H0 H' hl rd rl sl ha ra b e := by
  have k : ∀ b xs, H b = some (.tup xs) → H' b = some (.tup xs) := fun b xs h => s _ _ h
  refine ⟨S.sm.trans s, s _ _ S.ohl, s _ _ S.orl, fun j a h => ?_, fun j a h => ?_, ?_, S.b0, S.e0, S.le⟩
  · obtain ⟨xs, h1, h2⟩ := S.oh j a h
    exact ⟨xs, s _ _ h1, h2.mono k⟩
  · obtain ⟨xs, h1, h2⟩ := S.orr j a h
    exact ⟨xs, s _ _ h1, h2.mono k⟩
  · obtain ⟨vs, h1, h2, h3⟩ := S.ord
    refine ⟨vs, s _ _ h1, h2, fun j hj => ?_⟩
    obtain ⟨v, a1, a2⟩ := h3 j hj
    exact ⟨v, a1, a2.mono k⟩
/-- sights are written -/
theorem Sim.sight (A : Ad H0 ds.length hl rd rl sl ha ra) (S : Sim ds ss H0 H hl rd rl sl ha ra b e) (hs : ∃ ys, H sl = some (.lst ys)) (k : ∀ x o, H x = some o → x ≠ sl → H' x = some o) : Sim ds ss H0 H' hl rd rl sl ha ra b e := by
  obtain ⟨ys, hs⟩ := hs
  have kt : ∀ b xs, H b = some (.tup xs) → H' b = some (.tup xs) := fun b xs h => k _ _ h (ne_of h hs (by intro z; cases z))
  refine ⟨fun x o h => k _ _ (S.sm _ _ h) (ne_of_none h A.f4), k _ _ S.ohl A.n3, k _ _ S.orl A.n6, fun j a h => ?_, fun j a h => ?_, ?_, S.b0, S.e0, S.le⟩
  · obtain ⟨xs, h1, h2⟩ := S.oh j a h
    exact ⟨xs, k _ _ h1 (A.nh a (List.mem_of_getElem? h)).2.2.2, h2.mono kt⟩
  · obtain ⟨xs, h1, h2⟩ := S.orr j a h
    exact ⟨xs, k _ _ h1 (A.nr a (List.mem_of_getElem? h)).2.2.2, h2.mono kt⟩
  · obtain ⟨vs, h1, h2, h3⟩ := S.ord
    refine ⟨vs, k _ _ h1 A.n5, h2, fun j hj => ?_⟩
    obtain ⟨v, a1, a2⟩ := h3 j hj
    exact ⟨v, a1, a2.mono kt⟩
/-- reader j's reading ends; the book comes to the next one -/
theorem Sim.ends {M : Int} (RR : Rm.Ring ds.length (at' ds) (at' ss) ss.sum ds.sum M) (hss : ss.length = ds.length) (A : Ad H0 ds.length hl rd rl sl ha ra) (S : Sim ds ss H0 H hl rd rl sl ha ra b e) {j : Nat} (hj : j < ds.length) (hb : b j = e j + 1)
    {a : Addr} {xs vs : List V} {t : Addr} (ga : ha[nx ds.length j]? = some a) (gx : H a = some (.lst xs)) (gv : H rd = some (.lst vs))
    (k : ∀ x o, H x = some o → x ≠ a → x ≠ rd → H' x = some o) (hx : H' a = some (.lst (xs ++ [.ref t]))) (hv : H' rd = some (.lst (vs.set j .non))) (ht : H' t = some (.tup [.int (bk ss j (e j)), .int (Rm.E (at' ds) (at' ss) j (e j))])) :
    Sim ds ss H0 H' hl rd rl sl ha ra b (fun i => if i = j then e j + 1 else e i) := by
  have kt : ∀ b xs, H b = some (.tup xs) → H' b = some (.tup xs) := fun b xs h => k _ _ h (ne_of h gx (by intro z; cases z)) (ne_of h gv (by intro z; cases z))
  have ama := List.mem_of_getElem? ga
  refine ⟨fun x o h => k _ _ (S.sm _ _ h) (ne_of_none h (A.fh a ama)) (ne_of_none h A.f2), k _ _ S.ohl (A.nh a ama).1.symm A.n1, k _ _ S.orl (A.nh a ama).2.2.1.symm A.n4.symm, fun i c h => ?_, fun i c h => ?_, ?_, S.b0, fun i hi => ?_, fun i hi => ?_⟩
  · have hi : i < ds.length := by rw [← A.lh]; exact (List.getElem?_eq_some_iff.mp h).1
    obtain ⟨ys, h1, h2⟩ := S.oh i c h
    by_cases ei : i = nx ds.length j
    · subst ei
      rw [ga] at h
      cases h
      rw [gx] at h1
      cases h1
      refine ⟨_, hx, ?_⟩
      rw [prv_nx hj] at h2 ⊢
      have hle := S.le _ hi
      rw [prv_nx hj] at hle
      show Tups H' _ (seg _ _ (_ + (if j = j then e j + 1 else e j)))
      rw [if_pos rfl, show at' ss (nx ds.length j : Nat) + (e j + 1) = at' ss (nx ds.length j : Nat) + e j + 1 by omega, seg_snoc hle, item_next RR hss hj (S.e0 j hj)]
      exact Tups.snoc ⟨t, rfl, ht⟩ (h2.mono kt)
    · have hc : c ≠ a := fun z => by
        subst z
        exact ei (nd_ix A.dh h ga)
      have hp : prv ds.length i ≠ j := fun z => ei (prv_inj hi hj z)
      refine ⟨ys, k _ _ h1 hc (A.nh c (List.mem_of_getElem? h)).2.1, ?_⟩
      show Tups H' _ (seg _ _ (_ + (if prv ds.length i = j then e j + 1 else e (prv ds.length i))))
      rw [if_neg hp]
      exact h2.mono kt
  · obtain ⟨ys, h1, h2⟩ := S.orr i c h
    have cm := List.mem_of_getElem? h
    exact ⟨ys, k _ _ h1 (A.nhr a ama c cm).symm (A.nr c cm).2.1, h2.mono kt⟩
  · obtain ⟨ws, h1, h2, h3⟩ := S.ord
    rw [gv] at h1
    cases h1
    refine ⟨_, hv, by rw [List.length_set]; exact h2, fun i hi => ?_⟩
    obtain ⟨v, a1, a2⟩ := h3 i hi
    by_cases ei : i = j
    · subst ei
      refine ⟨.non, by rw [List.getElem?_set_self (by omega)], .inl ⟨rfl, ?_⟩⟩
      show b i = if i = i then e i + 1 else e i
      rw [if_pos rfl, hb]
    · refine ⟨v, by rw [List.getElem?_set_ne (Ne.symm ei)]; exact a1, ?_⟩
      show RdOk H' ds ss v i (b i) (if i = j then e j + 1 else e i)
      rw [if_neg ei]
      exact a2.mono kt
  · show 0 ≤ if i = j then e j + 1 else e i
    have h1 := S.e0 i hi
    have h2 := S.e0 j hj
    split <;> omega
  · have h1 := S.le i hi
    show b i ≤ _ + if prv ds.length i = j then e j + 1 else e (prv ds.length i)
    split
    · rename_i z
      rw [z] at h1
      omega
    · exact h1
/-- reader j begins -/
theorem Sim.begins (A : Ad H0 ds.length hl rd rl sl ha ra) (S : Sim ds ss H0 H hl rd rl sl ha ra b e) {j : Nat} (hj : j < ds.length) (hb : b j = e j) (hlt : b j < at' ss j + e (prv ds.length j))
    {a c : Addr} {x : V} {xs vs ys : List V} {t t2 : Addr} (ga : ha[j]? = some a) (gx : H a = some (.lst (x :: xs))) (gv : H rd = some (.lst vs)) (gc : ra[j]? = some c) (gy : H c = some (.lst ys))
    (k : ∀ z o, H z = some o → z ≠ a → z ≠ rd → z ≠ c → H' z = some o) (hx : H' a = some (.lst xs)) (hv : H' rd = some (.lst (vs.set j (.ref t)))) (hy : H' c = some (.lst (ys ++ [.ref t2])))
    (ht : H' t = some (.tup [.int (Rm.E (at' ds) (at' ss) j (e j)), .int (bk ss j (e j))])) (ht2 : H' t2 = some (.tup ((rowOf ds ss j (b j)).map V.int))) :
    Sim ds ss H0 H' hl rd rl sl ha ra (fun i => if i = j then b j + 1 else b i) e := by
  have ama := List.mem_of_getElem? ga
  have cmm := List.mem_of_getElem? gc
  have kt : ∀ b xs, H b = some (.tup xs) → H' b = some (.tup xs) := fun b xs h => k _ _ h (ne_of h gx (by intro z; cases z)) (ne_of h gv (by intro z; cases z)) (ne_of h gy (by intro z; cases z))
  refine ⟨fun x o h => k _ _ (S.sm _ _ h) (ne_of_none h (A.fh a ama)) (ne_of_none h A.f2) (ne_of_none h (A.fr c cmm)), k _ _ S.ohl (A.nh a ama).1.symm A.n1 (A.nr c cmm).1.symm, k _ _ S.orl (A.nh a ama).2.2.1.symm A.n4.symm (A.nr c cmm).2.2.1.symm, fun i c' h => ?_, fun i c' h => ?_, ?_, fun i hi => ?_, S.e0, fun i hi => ?_⟩
  · have hi : i < ds.length := by rw [← A.lh]; exact (List.getElem?_eq_some_iff.mp h).1
    obtain ⟨zs, h1, h2⟩ := S.oh i c' h
    by_cases ei : i = j
    · subst ei
      rw [ga] at h
      cases h
      rw [gx] at h1
      cases h1
      refine ⟨_, hx, ?_⟩
      rw [seg_cons hlt] at h2
      show Tups H' _ (seg _ (if i = i then b i + 1 else b i) _)
      rw [if_pos rfl]
      cases h2 with
      | cons _ r => exact Tups.mono kt r
    · have hc : c' ≠ a := fun z => by
        subst z
        exact ei (nd_ix A.dh h ga)
      have m := List.mem_of_getElem? h
      refine ⟨zs, k _ _ h1 hc (A.nh c' m).2.1 (A.nhr c' m c cmm), ?_⟩
      show Tups H' _ (seg _ (if i = j then b j + 1 else b i) _)
      rw [if_neg ei]
      exact h2.mono kt
  · have hi : i < ds.length := by rw [← A.lr]; exact (List.getElem?_eq_some_iff.mp h).1
    obtain ⟨zs, h1, h2⟩ := S.orr i c' h
    by_cases ei : i = j
    · subst ei
      rw [gc] at h
      cases h
      rw [gy] at h1
      cases h1
      refine ⟨_, hy, ?_⟩
      show Tups H' _ (seg _ 0 (if i = i then b i + 1 else b i))
      rw [if_pos rfl, seg_snoc (S.b0 i hi)]
      exact Tups.snoc ⟨t2, rfl, ht2⟩ (h2.mono kt)
    · have hc : c' ≠ c := fun z => by
        subst z
        exact ei (nd_ix A.dr h gc)
      have m := List.mem_of_getElem? h
      refine ⟨zs, k _ _ h1 (A.nhr a ama c' m).symm (A.nr c' m).2.1 hc, ?_⟩
      show Tups H' _ (seg _ 0 (if i = j then b j + 1 else b i))
      rw [if_neg ei]
      exact h2.mono kt
  · obtain ⟨ws, h1, h2, h3⟩ := S.ord
    rw [gv] at h1
    cases h1
    refine ⟨_, hv, by rw [List.length_set]; exact h2, fun i hi => ?_⟩
    obtain ⟨v, a1, a2⟩ := h3 i hi
    by_cases ei : i = j
    · subst ei
      refine ⟨.ref t, by rw [List.getElem?_set_self (by omega)], .inr ⟨t, rfl, ht, ?_⟩⟩
      show (if i = i then b i + 1 else b i) = e i + 1
      rw [if_pos rfl, hb]
    · refine ⟨v, by rw [List.getElem?_set_ne (Ne.symm ei)]; exact a1, ?_⟩
      show RdOk H' ds ss v i (if i = j then b j + 1 else b i) (e i)
      rw [if_neg ei]
      exact a2.mono kt
  · show 0 ≤ if i = j then b j + 1 else b i
    have h1 := S.b0 i hi
    have h2 := S.b0 j hj
    split <;> omega
  · have h1 := S.le i hi
    show (if i = j then b j + 1 else b i) ≤ _
    split
    · rename_i z
      subst z
      omega
    · exact h1
theorem Sim.congr (S : Sim ds ss H0 H hl rd rl sl ha ra b e) {b' e' : Nat → Int} (hss : ha.length = ds.length) (hr : ra.length = ds.length) (hb : ∀ j, j < ds.length → b' j = b j) (he : ∀ j, j < ds.length → e' j = e j) : Sim ds ss H0 H hl rd rl sl ha ra b' e' := by
  have hp : ∀ j, j < ds.length → e' (prv ds.length j) = e (prv ds.length j) := fun j hj => he _ (prv_lt hj)
  refine ⟨S.sm, S.ohl, S.orl, fun j a h => ?_, fun j a h => ?_, ?_, fun j hj => by rw [hb j hj]; exact S.b0 j hj, fun j hj => by rw [he j hj]; exact S.e0 j hj, fun j hj => by rw [hb j hj, hp j hj]; exact S.le j hj⟩
  · have hj : j < ds.length := by rw [← hss]; exact (List.getElem?_eq_some_iff.mp h).1
    rw [hb j hj, hp j hj]
    exact S.oh j a h
  · have hj : j < ds.length := by rw [← hr]; exact (List.getElem?_eq_some_iff.mp h).1
    rw [hb j hj]
    exact S.orr j a h
  · obtain ⟨vs, h1, h2, h3⟩ := S.ord
    refine ⟨vs, h1, h2, fun j hj => ?_⟩
    rw [hb j hj, he j hj]
    exact h3 j hj
end
/-! ### days -/
section
variable {ds ss : List Int} {M : Int} (RR : Rm.Ring ds.length (at' ds) (at' ss) ss.sum ds.sum M)
include RR
/-- ended by D - 1; a reading ends on D or none does -/
theorem cn_day (j D : Int) : (Rm.E (at' ds) (at' ss) j (Cn (at' ds) (at' ss) j (D - 1)) = D ∧ Cn (at' ds) (at' ss) j D = Cn (at' ds) (at' ss) j (D - 1) + 1) ∨ (Rm.E (at' ds) (at' ss) j (Cn (at' ds) (at' ss) j (D - 1)) ≠ D ∧ Cn (at' ds) (at' ss) j D = Cn (at' ds) (at' ss) j (D - 1)) := by
  obtain ⟨a0, a1, a2⟩ := RR.cn j (D - 1)
  by_cases h : Rm.E (at' ds) (at' ss) j (Cn (at' ds) (at' ss) j (D - 1)) = D
  · refine .inl ⟨h, RR.cn_of ⟨by omega, .inr ?_, ?_⟩⟩
    · rw [show Cn (at' ds) (at' ss) j (D - 1) + 1 - 1 = Cn (at' ds) (at' ss) j (D - 1) by omega]
      omega
    · have := RR.next j a0
      have := RR.d1 j
      omega
  · refine .inr ⟨h, RR.cn_of ⟨a0, ?_, by omega⟩⟩
    rcases a1 with a1 | a1
    · exact .inl a1
    · exact .inr (by omega)
/-- who isn't reading and has a book begins, nobody else does -/
theorem cn_begin {j D : Int} (hD : 0 ≤ D) (h : Cn (at' ds) (at' ss) j (D - 1 + at' ds j) = Cn (at' ds) (at' ss) j D) (hlt : Cn (at' ds) (at' ss) j D < at' ss j + Cn (at' ds) (at' ss) (j - 1) D) :
    Rm.E (at' ds) (at' ss) j (Cn (at' ds) (at' ss) j D) = D + at' ds j ∧ Cn (at' ds) (at' ss) j (D + at' ds j) = Cn (at' ds) (at' ss) j D + 1 := by
  have h1 := RR.cn_reads (r := j) hD hlt
  have h2 := (RR.cn_next j D).2
  obtain ⟨a0, a1, a2⟩ := RR.cn j (D - 1 + at' ds j)
  obtain ⟨b0, b1, b2⟩ := RR.cn j (D + at' ds j)
  rw [h] at a2
  have e : Cn (at' ds) (at' ss) j (D + at' ds j) = Cn (at' ds) (at' ss) j D + 1 := by omega
  rw [e] at b1
  rcases b1 with b1 | b1
  · have := (RR.cn j D).1
    omega
  · rw [show Cn (at' ds) (at' ss) j D + 1 - 1 = Cn (at' ds) (at' ss) j D by omega] at b1
    exact ⟨by omega, e⟩
theorem cn_waits {j D : Int} (h : Cn (at' ds) (at' ss) j D = at' ss j + Cn (at' ds) (at' ss) (j - 1) D) : Cn (at' ds) (at' ss) j (D + at' ds j) = Cn (at' ds) (at' ss) j D := by
  have h1 := RR.cn_next j D
  obtain ⟨b0, b1, b2⟩ := RR.cn j (D + at' ds j)
  obtain ⟨c0, c1, c2⟩ := RR.cn (j - 1) D
  rcases b1 with b1 | b1
  · have := (RR.cn j D).1
    omega
  · rcases Int.lt_or_le (Cn (at' ds) (at' ss) j D) (Cn (at' ds) (at' ss) j (D + at' ds j)) with z | z
    · have e : Cn (at' ds) (at' ss) j (D + at' ds j) - 1 = Cn (at' ds) (at' ss) j D := by omega
      rw [e] at b1
      have h2 := RR.from j (x := Cn (at' ds) (at' ss) j D) (by omega)
      rw [show Cn (at' ds) (at' ss) j D - at' ss j = Cn (at' ds) (at' ss) (j - 1) D by omega] at h2
      omega
    · omega
/-- begun by D - 1: as many as have ended by D, or one more -/
theorem cn_busy (j D : Int) : Cn (at' ds) (at' ss) j (D - 1) ≤ Cn (at' ds) (at' ss) j (D - 1 + at' ds j) ∧ Cn (at' ds) (at' ss) j (D - 1 + at' ds j) ≤ Cn (at' ds) (at' ss) j (D - 1) + 1 := RR.cn_next j (D - 1)
end
end Rp
namespace Rp
open PySem PySem.Spec PyProof.Rows L2 Rz Rm
/-- as data, for == -/
theorem RingAt.kp {C : Addr} {K : PySem.W.Frag} {H H' : Hp} {p dx td ts row a : Addr} {ds ss ns : List Int} (R : RingAt C H p dx td ts ds ss) (RA : RowAt K H row a ns) (k : Kp row H H') : RingAt C H' p dx td ts ds ss := by
  obtain ⟨i, m, q, h, _⟩ := RA.ob
  exact ⟨k _ _ R.ob (ne_of R.ob h (by intro z; cases z)), k _ _ R.td (ne_of R.td h (by intro z; cases z)), k _ _ R.ts (ne_of R.ts h (by intro z; cases z)), R.ok⟩
theorem tup_kp {K : PySem.W.Frag} {H H' : Hp} {t row a : Addr} {xs : List V} {ns : List Int} (ht : H t = some (.tup xs)) (RA : RowAt K H row a ns) (k : Kp row H H') : H' t = some (.tup xs) := by
  obtain ⟨i, m, q, h, _⟩ := RA.ob
  exact k _ _ ht (ne_of ht h (by intro z; cases z))
theorem up {N : Nat} {d s : Int → Int} {B T M : Int} (R : Rm.Ring N d s B T M) (r : Int) {x : Int} (hx : 0 ≤ x) : Rm.E d s r x ≤ (x + 1) * T + x * M := by
  obtain ⟨k, hk, e⟩ := R.att r hx
  have hN := R.pos
  have hB := R.b1
  have hT := R.T0
  have ek : k = k % N + k / N * N := by
    have := Nat.mod_add_div k N
    rw [Nat.mul_comm] at this
    exact this.symm
  have hj := Nat.mod_lt k hN
  have hS := R.sumS r (k % N) (k / N)
  have hD := R.sumD r (k % N + 1) (k / N)
  rw [← ek] at hS
  rw [show k % N + 1 + k / N * N = k + 1 by omega] at hD
  have hm : ((k / N : Nat) : Int) ≤ x := by
    have h1 := sum_nn R.s0 r (k % N)
    have h2 : ((k / N : Nat) : Int) * 1 ≤ ((k / N : Nat) : Int) * B := Int.mul_le_mul_of_nonneg_left hB (Int.natCast_nonneg _)
    omega
  have hd0 : sumBack d r (k % N + 1) ≤ T := by
    have := sum_mono (f := d) (fun i => by have := R.d1 i; omega) r (show k % N + 1 ≤ N by omega)
    rw [R.t] at this
    exact this
  have h3 : ((k / N : Nat) : Int) * T ≤ x * T := Int.mul_le_mul_of_nonneg_right hm hT
  have h4 := max_le R.mu r k
  have h40 : 0 ≤ maxBack d r k := by
    have h1 := max_ge (f := d) r (j := 0) (k := k) (Nat.zero_le _)
    have h2 := R.d1 (r - (0 : Nat))
    omega
  have h5 : (x - sumBack s r k) * maxBack d r k ≤ x * M := by
    have a1 : (x - sumBack s r k) * maxBack d r k ≤ x * maxBack d r k := Int.mul_le_mul_of_nonneg_right (by have := sum_nn R.s0 r k; omega) h40
    have a2 : x * maxBack d r k ≤ x * M := Int.mul_le_mul_of_nonneg_left h4 hx
    omega
  unfold ch at e
  rw [Int.add_mul]
  omega
theorem and_go {c : Bool} {u : TT} {σ : L2.St} {H : Hp} {F : Bool → Hp → Prop} (G : Hp → Prop) (next : ∀ H9, G H9 → F false H9) (hH : G H) (h1 : c = true → (∀ H9, G H9 → F false H9) → u σ H F) : if c = true then u σ H F else F false H := by
  cases c with
  | true => exact iteT (h1 rfl next)
  | false => exact iteF (next H hH)
theorem dp_ints {K : PySem.W.Frag} {H : Hp} : ∀ l : List Int, DpAll K H (l.map V.int) (l.map PyData.int)
  | [] => .nil
  | x :: r => .cons (.int x) (dp_ints r)
theorem Tups.rev {H : Hp} : ∀ {xs : List V} {ls : List (List Int)}, Tups H xs ls → Tups H xs.reverse ls.reverse
  | _, _, .nil => .nil
  | _, _, .cons r t => by
    rw [List.reverse_cons, List.reverse_cons]
    exact Tups.snoc r (Tups.rev t)
theorem Tups.drop {H : Hp} : ∀ {xs : List V} {ls : List (List Int)} (k : Nat), Tups H xs ls → Tups H (xs.drop k) (ls.drop k)
  | _, _, 0, h => h
  | _, _, k + 1, .nil => .nil
  | _, _, k + 1, .cons _ t => Tups.drop k t
theorem Tups.same {H H' : Hp} (s : Same H H') {xs : List V} {ls : List (List Int)} (h : Tups H xs ls) : Tups H' xs ls := h.mono fun b xs e => s _ _ e
/-- two tuples of ints are compared -/
theorem eqv_tup (as bs : List Int) : PyData.eqv (.tuple (as.map PyData.int)) (.tuple (bs.map PyData.int)) = decide (as = bs) := PySem.W.ked_eqvAll _ _
theorem eqv_lst (as bs : List Int) : PyData.eqv (.list (as.map PyData.int)) (.list (bs.map PyData.int)) = decide (as = bs) := PySem.W.ked_eqvAll _ _
theorem shaped_tup (as : List Int) : SeqAt.shaped (.tuple (as.map PyData.int)) = true := by
  simp only [SeqAt.shaped, PyData.canLay0, PyData.depth, PySem.W.ke_canLayAll0 as, PySem.W.ke_depthAll as, Bool.true_and]
  exact decide_eq_true (by omega)
theorem shaped_lst (as : List Int) : SeqAt.shaped (.list (as.map PyData.int)) = true := by
  simp only [SeqAt.shaped, PyData.canLay0, PyData.depth, PySem.W.ke_canLayAll0 as, PySem.W.ke_depthAll as, Bool.true_and]
  exact decide_eq_true (by omega)
section
variable {K : PySem.W.Frag} {H : Hp} {a b : Addr} {as bs : List Int} {Q : VK}
theorem tup_eq (ha : H a = some (.tup (as.map V.int))) (hb : H b = some (.tup (bs.map V.int))) (q : Q (.bl (decide (as = bs))) H) : rEqD K (.ref a) (.ref b) H Q :=
  ⟨_, _, .tup (.of ha) (dp_is as), .tup (.of hb) (dp_is bs), shaped_tup as, shaped_tup bs, by rw [eqv_tup]; exact q⟩
theorem tup_ne (ha : H a = some (.tup (as.map V.int))) (hb : H b = some (.tup (bs.map V.int))) (q : Q (.bl (!decide (as = bs))) H) : rNeD K (.ref a) (.ref b) H Q :=
  ⟨_, _, .tup (.of ha) (dp_is as), .tup (.of hb) (dp_is bs), shaped_tup as, shaped_tup bs, by rw [eqv_tup]; exact q⟩
theorem lst_ne (ha : SqL K H a (as.map V.int)) (hb : SqL K H b (bs.map V.int)) (q : Q (.bl (!decide (as = bs))) H) : rNeD K (.ref a) (.ref b) H Q :=
  ⟨_, _, .lst ha (dp_is as), .lst hb (dp_is bs), shaped_lst as, shaped_lst bs, by rw [eqv_lst]; exact q⟩
theorem lst_eq (ha : SqL K H a (as.map V.int)) (hb : SqL K H b (bs.map V.int)) (q : Q (.bl (decide (as = bs))) H) : rEqD K (.ref a) (.ref b) H Q :=
  ⟨_, _, .lst ha (dp_is as), .lst hb (dp_is bs), shaped_lst as, shaped_lst bs, by rw [eqv_lst]; exact q⟩
end
end Rp
/-! Books at the readers, day by day: mathematics. -/
namespace Rp
open PySem PySem.Spec PyProof.Rows L2 Rz Rm
theorem ixN_nat {n j : Nat} (h : j < n) : ixN n (j : Int) = some j := by
  unfold ixN
  rw [if_pos (by omega), if_pos (by omega), Int.toNat_natCast]
/-- books of a heap, by the numbers of their readings -/
noncomputable def bseg (ss : List Int) (j : Nat) (b c : Int) : List Int := (List.range (c - b).toNat).map fun (i : Nat) => bk ss j (b + (i : Int))
theorem bseg_nil {ss : List Int} {j : Nat} {b c : Int} (h : c ≤ b) : bseg ss j b c = [] := by
  unfold bseg
  rw [show (c - b).toNat = 0 by omega]
  rfl
theorem bseg_snoc {ss : List Int} {j : Nat} {b c : Int} (h : b ≤ c) : bseg ss j b (c + 1) = bseg ss j b c ++ [bk ss j c] := by
  unfold bseg
  rw [show (c + 1 - b).toNat = (c - b).toNat + 1 by omega, List.range_succ, List.map_append]
  show _ ++ [bk ss j (b + ((c - b).toNat : Int))] = _
  rw [show b + ((c - b).toNat : Int) = c by omega]
theorem bseg_cons {ss : List Int} {j : Nat} {b c : Int} (h : b < c) : bseg ss j b c = bk ss j b :: bseg ss j (b + 1) c := by
  unfold bseg
  rw [show (c - b).toNat = (c - (b + 1)).toNat + 1 by omega, List.range_succ_eq_map, List.map_cons, List.map_map, show b + ((0 : Nat) : Int) = b by omega]
  congr 1
  apply List.map_congr_left
  intro i _
  show bk ss j (b + ((i + 1 : Nat) : Int)) = bk ss j (b + 1 + (i : Int))
  rw [show b + ((i + 1 : Nat) : Int) = b + 1 + (i : Int) by omega]
theorem bseg_length (ss : List Int) (j : Nat) (b c : Int) : (bseg ss j b c).length = (c - b).toNat := by
  unfold bseg
  rw [List.length_map, List.length_range]
theorem nodup_snocN {l : List Nat} {a : Nat} (h : l.Nodup) (n : a ∉ l) : (l ++ [a]).Nodup := by
  rw [List.nodup_append]
  refine ⟨h, List.nodup_cons.mpr ⟨List.not_mem_nil, List.nodup_nil⟩, fun x hx y hy e => ?_⟩
  have := List.mem_singleton.mp hy
  subst this
  subst e
  exact n hx
theorem get_snoc {α : Type} {l : List α} {x y : α} {j : Nat} (h : (l ++ [x])[j]? = some y) : l[j]? = some y ∨ (j = l.length ∧ x = y) := by
  by_cases c : j < l.length
  · rw [List.getElem?_append_left c] at h
    exact .inl h
  · rw [List.getElem?_append_right (by omega)] at h
    obtain ⟨h1, h2⟩ := List.getElem?_eq_some_iff.mp h
    rw [List.length_singleton] at h1
    refine .inr ⟨by omega, ?_⟩
    simpa [show j - l.length = 0 by omega] using h2
theorem take_mem {ks : List Nat} (nd : ks.Nodup) {n k : Nat} (h : ks[n]? = some k) : k ∉ ks.take n := fun m => by
  obtain ⟨j, hj⟩ := List.getElem?_of_mem m
  rw [List.getElem?_take] at hj
  split at hj
  · rename_i hlt
    have := nd_ix nd hj h
    omega
  · cases hj
theorem take_suc {ks : List Nat} {n k j : Nat} (h : ks[n]? = some k) : j ∈ ks.take (n + 1) ↔ j ∈ ks.take n ∨ j = k := by
  rw [List.take_add_one, h, List.mem_append]
  simp
theorem nodup_snoc {l : List Addr} {a : Addr} (h : l.Nodup) (n : a ∉ l) : (l ++ [a]).Nodup := by
  rw [List.nodup_append]
  refine ⟨h, List.nodup_cons.mpr ⟨List.not_mem_nil, List.nodup_nil⟩, fun x hx y hy e => ?_⟩
  have := List.mem_singleton.mp hy
  subst this
  subst e
  exact n hx
theorem rep_one (n : Nat) : (List.replicate n [V.non]).flatten = List.replicate n V.non := by
  induction n with
  | zero => rfl
  | succ n ih =>
    rw [List.replicate_succ, List.flatten_cons, ih, List.replicate_succ]
    rfl
theorem take_succ {l : List Int} {i : Nat} (h : i < l.length) : (l.take (i + 1)).sum = (l.take i).sum + at' l i := by
  rw [List.take_add_one, List.getElem?_eq_getElem h, List.sum_append]
  have : at' l i = l[i] := at_nat (List.getElem?_eq_getElem h)
  rw [this]
  simp
theorem take_le {l : List Int} (h0 : ∀ y ∈ l, 0 ≤ y) (i : Nat) : 0 ≤ (l.take i).sum ∧ (l.take i).sum ≤ l.sum := by
  induction l generalizing i with
  | nil => simp
  | cons a r ih =>
    have ha := h0 a List.mem_cons_self
    have hr : ∀ y ∈ r, 0 ≤ y := fun y hy => h0 y (List.mem_cons_of_mem _ hy)
    cases i with
    | zero =>
      have := (ih hr r.length).2
      have := (ih hr r.length).1
      have := mem_le_sum.sum_nonneg' hr
      simp
      omega
    | succ i =>
      have := ih hr i
      rw [List.take_succ_cons, List.sum_cons, List.sum_cons]
      omega
section
variable {ds ss : List Int} {M : Int} (RR : Rm.Ring ds.length (at' ds) (at' ss) ss.sum ds.sum M)
include RR
theorem cn_le {j D : Int} (h : 0 ≤ D) : Cn (at' ds) (at' ss) j D ≤ D := by
  obtain ⟨a0, a1, a2⟩ := RR.cn j D
  rcases a1 with a1 | a1
  · omega
  · rcases Int.lt_or_le (Cn (at' ds) (at' ss) j D) 1 with z | z
    · omega
    · have h1 := RR.low j (x := Cn (at' ds) (at' ss) j D - 1) (by omega)
      have h2 := RR.d1 j
      have h3 : (Cn (at' ds) (at' ss) j D - 1 + 1) * 1 ≤ (Cn (at' ds) (at' ss) j D - 1 + 1) * at' ds j := Int.mul_le_mul_of_nonneg_left h2 (by omega)
      omega
theorem cn_mono (j : Int) {D D' : Int} (h : D ≤ D') : Cn (at' ds) (at' ss) j D ≤ Cn (at' ds) (at' ss) j D' := by
  obtain ⟨a0, a1, a2⟩ := RR.cn j D
  obtain ⟨b0, b1, b2⟩ := RR.cn j D'
  rcases Int.lt_or_le (Cn (at' ds) (at' ss) j D') (Cn (at' ds) (at' ss) j D) with z | z
  · rcases a1 with a1 | a1
    · omega
    · have := RR.le j b0 (show Cn (at' ds) (at' ss) j D' ≤ Cn (at' ds) (at' ss) j D - 1 by omega)
      omega
  · exact z
theorem cn_zero {j D : Int} (h : D < at' ds j) : Cn (at' ds) (at' ss) j D = 0 := by
  refine RR.cn_of ⟨Int.le_refl _, .inl rfl, ?_⟩
  have := RR.E1 j (x := 0) (Int.le_refl _)
  omega
theorem cn_cap (r D : Int) : Cn (at' ds) (at' ss) r (D + at' ds r) ≤ at' ss r + Cn (at' ds) (at' ss) (r - 1) D := by
  obtain ⟨a0, a1, a2⟩ := RR.cn r (D + at' ds r)
  obtain ⟨b0, b1, b2⟩ := RR.cn (r - 1) D
  have hs := RR.s0 r
  rcases Int.lt_or_le (at' ss r + Cn (at' ds) (at' ss) (r - 1) D) (Cn (at' ds) (at' ss) r (D + at' ds r)) with z | z
  · rcases a1 with a1 | a1
    · omega
    · have h1 := RR.from r (x := Cn (at' ds) (at' ss) r (D + at' ds r) - 1) (by omega)
      have h2 := RR.le (r - 1) b0 (show Cn (at' ds) (at' ss) (r - 1) D ≤ Cn (at' ds) (at' ss) r (D + at' ds r) - 1 - at' ss r by omega)
      omega
  · exact z
/-- all that the beginning of a day needs of one reader -/
theorem at_begin {j : Nat} (hj : j < ds.length) {D : Int} (hD : 0 ≤ D) (h : Cn (at' ds) (at' ss) j (D - 1 + at' ds j) = Cn (at' ds) (at' ss) j D) :
    (Cn (at' ds) (at' ss) j D < at' ss j + Cn (at' ds) (at' ss) (prv ds.length j : Nat) D ∧ Rm.E (at' ds) (at' ss) j (Cn (at' ds) (at' ss) j D) = D + at' ds j ∧ Cn (at' ds) (at' ss) j (D + at' ds j) = Cn (at' ds) (at' ss) j D + 1) ∨
    (Cn (at' ds) (at' ss) j D = at' ss j + Cn (at' ds) (at' ss) (prv ds.length j : Nat) D ∧ Cn (at' ds) (at' ss) j (D + at' ds j) = Cn (at' ds) (at' ss) j D) := by
  rw [Cn_prv RR hj]
  have h1 := cn_cap RR j D
  have h2 := (RR.cn_next j D).1
  rcases Int.lt_or_le (Cn (at' ds) (at' ss) j D) (at' ss j + Cn (at' ds) (at' ss) (j - 1) D) with c | c
  · exact .inl ⟨c, cn_begin RR hD h c⟩
  · exact .inr ⟨by omega, cn_waits RR (by omega)⟩
end
/-- the books at a reader on a day, the one that is read first -/
noncomputable def Sv (ds ss : List Int) (D : Int) (j : Nat) : List Int := bseg ss j (Cn (at' ds) (at' ss) j D) (at' ss j + Cn (at' ds) (at' ss) (prv ds.length j : Nat) D)
/-- the day on which a reading ends, all begun -/
noncomputable def Ev (ds ss : List Int) (D : Int) (j : Nat) : V := if Cn (at' ds) (at' ss) j (D + at' ds j) = Cn (at' ds) (at' ss) j D then .non else .int (Rm.E (at' ds) (at' ss) j (Cn (at' ds) (at' ss) j D))
/-- the same, none begun that day -/
noncomputable def Fv (ds ss : List Int) (D : Int) (j : Nat) : V := if Cn (at' ds) (at' ss) j (D - 1 + at' ds j) = Cn (at' ds) (at' ss) j D then .non else .int (Rm.E (at' ds) (at' ss) j (Cn (at' ds) (at' ss) j D))
/-- a reading ends on the next day -/
noncomputable def Kd (ds ss : List Int) (D : Int) (j : Nat) : Bool := decide (Rm.E (at' ds) (at' ss) j (Cn (at' ds) (at' ss) j D) = D + 1)
/-- who ends on the next day -/
noncomputable def Kx (ds ss : List Int) (D : Int) (n : Nat) : List Nat := (List.range n).filter (Kd ds ss D)
/-- what is told of it -/
noncomputable def rec (ds ss : List Int) (D : Int) (k : Nat) : List Int := [D + 1, (k : Int), bk ss k (Cn (at' ds) (at' ss) k D)]
noncomputable def Ke (ds ss : List Int) (D : Int) : List (List Int) := (Kx ds ss D ds.length).map (rec ds ss D)
theorem kx_mem {ds ss : List Int} {D : Int} {n j : Nat} : j ∈ Kx ds ss D n ↔ j < n ∧ Kd ds ss D j = true := by
  unfold Kx
  rw [List.mem_filter, List.mem_range]
theorem kx_nodup {ds ss : List Int} {D : Int} {n : Nat} : (Kx ds ss D n).Nodup := List.Pairwise.filter _ List.nodup_range
theorem kx_succ (ds ss : List Int) (D : Int) (n : Nat) : Kx ds ss D (n + 1) = if Kd ds ss D n = true then Kx ds ss D n ++ [n] else Kx ds ss D n := by
  unfold Kx
  rw [List.range_succ, List.filter_append]
  by_cases h : Kd ds ss D n = true
  · rw [if_pos h, List.filter_cons_of_pos h]
    rfl
  · rw [if_neg h, List.filter_cons_of_neg h, List.filter_nil, List.append_nil]
section
variable {ds ss : List Int} {M : Int} (RR : Rm.Ring ds.length (at' ds) (at' ss) ss.sum ds.sum M)
include RR
theorem fv_cases {j : Nat} (hj : j < ds.length) {D : Int} (hD : 0 ≤ D) :
    (Fv ds ss D j = .non ∧ (∃ b l, Sv ds ss D j = b :: l) ∧ Ev ds ss D j = .int (D + at' ds j)) ∨ (Fv ds ss D j = .non ∧ Sv ds ss D j = [] ∧ Ev ds ss D j = .non) ∨ (∃ z, Fv ds ss D j = .int z ∧ Ev ds ss D j = .int z) := by
  unfold Fv Ev Sv
  by_cases h : Cn (at' ds) (at' ss) j (D - 1 + at' ds j) = Cn (at' ds) (at' ss) j D
  · rw [if_pos h]
    rcases at_begin RR hj hD h with ⟨h1, h2, h3⟩ | ⟨h1, h2⟩
    · rw [if_neg (by omega), h2, bseg_cons h1]
      exact .inl ⟨rfl, ⟨_, _, rfl⟩, rfl⟩
    · rw [if_pos h2, bseg_nil (by omega)]
      exact .inr (.inl ⟨rfl, rfl, rfl⟩)
  · rw [if_neg h]
    have d1 := RR.d1 j
    have h1 := cn_mono RR (j : Int) (show D ≤ D - 1 + at' ds j by omega)
    have h2 := cn_mono RR (j : Int) (show D - 1 + at' ds j ≤ D + at' ds j by omega)
    rw [if_neg (by omega)]
    exact .inr (.inr ⟨_, rfl, rfl⟩)
theorem ends_now {j : Nat} (hj : j < ds.length) {D : Int} (hD : 0 ≤ D) (h : Kd ds ss D j = true) :
    Cn (at' ds) (at' ss) j (D + 1) = Cn (at' ds) (at' ss) j D + 1 ∧ Ev ds ss D j = .int (D + 1) ∧ Sv ds ss D j = bk ss j (Cn (at' ds) (at' ss) j D) :: bseg ss j (Cn (at' ds) (at' ss) j D + 1) (at' ss j + Cn (at' ds) (at' ss) (prv ds.length j : Nat) D) ∧ Fv ds ss (D + 1) j = .non := by
  have h := of_decide_eq_true h
  have d1 := RR.d1 j
  have c1 := cn_day RR (j : Int) (D + 1)
  rw [show D + 1 - 1 = D by omega] at c1
  have c2 := RR.cn_next j D
  obtain ⟨p0, p1, p2⟩ := RR.cn j (D + at' ds j)
  have hb : Cn (at' ds) (at' ss) j (D + at' ds j) = Cn (at' ds) (at' ss) j D + 1 := by
    rcases Int.lt_or_le (Cn (at' ds) (at' ss) j D) (Cn (at' ds) (at' ss) j (D + at' ds j)) with z | z
    · omega
    · have e : Cn (at' ds) (at' ss) j (D + at' ds j) = Cn (at' ds) (at' ss) j D := by omega
      rw [e, h] at p2
      omega
  have cap := cn_cap RR j D
  rw [← Cn_prv RR hj] at cap
  rcases c1 with ⟨_, c1⟩ | ⟨c1, _⟩
  · unfold Ev Sv Fv
    refine ⟨c1, by rw [if_neg (by omega), h], bseg_cons (by omega), ?_⟩
    rw [show D + 1 - 1 = D by omega, if_pos (by omega)]
  · exact absurd h c1
theorem ends_not {j : Nat} {D : Int} (hD : 0 ≤ D) (h : ¬ Kd ds ss D j = true) :
    Cn (at' ds) (at' ss) j (D + 1) = Cn (at' ds) (at' ss) j D ∧ ¬ Ev ds ss D j = .int (D + 1) ∧ Fv ds ss (D + 1) j = Ev ds ss D j := by
  have h : ¬ Rm.E (at' ds) (at' ss) j (Cn (at' ds) (at' ss) j D) = D + 1 := fun z => h (decide_eq_true z)
  have c1 := cn_day RR (j : Int) (D + 1)
  rw [show D + 1 - 1 = D by omega] at c1
  rcases c1 with ⟨c1, _⟩ | ⟨_, c1⟩
  · exact absurd c1 h
  · unfold Ev Fv
    refine ⟨c1, ?_, by rw [show D + 1 - 1 = D by omega, c1]⟩
    split
    · intro z
      cases z
    · intro z
      exact h (V.int.inj z)
/-- a book comes to the next reader -/
theorem bk_comes (hss : ss.length = ds.length) {j : Nat} (hj : j < ds.length) {n : Int} (n0 : 0 ≤ n) : bk ss (nx ds.length j : Nat) (at' ss (nx ds.length j : Nat) + n) = bk ss j n := by
  have h := item_next RR hss hj n0
  unfold item at h
  exact (List.cons.inj h).1
theorem z_first (j : Nat) : Cn (at' ds) (at' ss) j 0 = 0 := by
  have := RR.d1 j
  exact cn_zero RR (by omega)
theorem fv_first (j : Nat) : Fv ds ss 0 j = .non := by
  unfold Fv
  rw [z_first RR, if_pos (cn_zero RR (by omega))]
theorem sv_first (hss : ss.length = ds.length) {j : Nat} (hj : j < ds.length) {b z : Int} (hb : (ss.take j).sum = b) (hz : at' ss j = z) : rgV b (b + z) = (Sv ds ss 0 j).map V.int := by
  unfold rgV Sv bseg
  rw [z_first RR, z_first RR, List.map_map, hz, show (b + z - b).toNat = (z + 0 - 0).toNat by omega]
  apply List.map_congr_left
  intro n hn
  have hn' := List.mem_range.mp hn
  show V.int (b + (n : Int)) = V.int (bk ss j (0 + (n : Int)))
  rw [bk_first RR hss hj (n := 0 + (n : Int)) (by omega) (by omega), hb, show (0 : Int) + (n : Int) = n by omega]
theorem sv_len (j : Nat) {D : Int} (hD : 0 ≤ D) (h12 : at' ss j ≤ 12) : (Sv ds ss D j).length ≤ 12 + D.toNat := by
  unfold Sv
  rw [bseg_length]
  have h1 := cn_le RR (j := (prv ds.length j : Nat)) hD
  have h2 := (RR.cn j D).1
  omega
/-- how many readings have ended, from whom they are told -/
theorem cn_ge (j : Nat) {x D : Int} (hx : 0 ≤ x) (h : Rm.E (at' ds) (at' ss) j x ≤ D) : x + 1 ≤ Cn (at' ds) (at' ss) j D := by
  have h1 := RR.cn_end j hx
  have h2 := cn_mono RR (j : Int) h
  omega
theorem E_cn (j : Nat) {x D : Int} (h0 : 0 ≤ x) (h : x < Cn (at' ds) (at' ss) j D) : Rm.E (at' ds) (at' ss) j x ≤ D := by
  obtain ⟨a0, a1, a2⟩ := RR.cn j D
  rcases a1 with a1 | a1
  · omega
  · have := RR.le j h0 (show x ≤ Cn (at' ds) (at' ss) j D - 1 by omega)
    omega
end
end Rp
/-! The diary of a ring: mathematics. -/
namespace Rp
open PySem PySem.Spec PyProof.Rows L2 Rz Rm
/-- what ends before day D + 1, and on it by readers before k -/
noncomputable def Pre (ds ss : List Int) (D k : Nat) : List (List Int) := ((List.range D).map fun (i : Nat) => Ke ds ss (i : Int)).flatten ++ (Kx ds ss (D : Int) k).map (rec ds ss (D : Int))
/-- how many readings have ended so far -/
noncomputable def cS (ds ss : List Int) (D k j : Nat) : Int := if j < k then Cn (at' ds) (at' ss) (j : Int) ((D : Int) + 1) else Cn (at' ds) (at' ss) (j : Int) (D : Int)
theorem kx_zero (ds ss : List Int) (D : Int) : Kx ds ss D 0 = [] := rfl
theorem pre_zero (ds ss : List Int) : Pre ds ss 0 0 = [] := rfl
theorem pre_row (ds ss : List Int) (D : Nat) : Pre ds ss D ds.length = Pre ds ss (D + 1) 0 := by
  unfold Pre
  rw [List.range_succ, List.map_append, List.flatten_append, kx_zero, List.map_nil, List.append_nil]
  show _ ++ Ke ds ss (D : Int) = _
  simp
theorem cS_row (ds ss : List Int) (D : Nat) {j : Nat} (h : j < ds.length) : cS ds ss D ds.length j = cS ds ss (D + 1) 0 j := by
  unfold cS
  rw [if_pos h, if_neg (by omega), show (((D + 1 : Nat)) : Int) = (D : Int) + 1 by omega]
theorem pre_not {ds ss : List Int} {D k : Nat} (h : ¬ Kd ds ss (D : Int) k = true) : Pre ds ss D (k + 1) = Pre ds ss D k := by
  unfold Pre
  rw [kx_succ, if_neg h]
theorem pre_yes {ds ss : List Int} {D k : Nat} (h : Kd ds ss (D : Int) k = true) : Pre ds ss D (k + 1) = Pre ds ss D k ++ [rec ds ss (D : Int) k] := by
  unfold Pre
  rw [kx_succ, if_pos h, List.map_append, List.append_assoc]
  rfl
section
variable {ds ss : List Int} {M : Int} (RR : Rm.Ring ds.length (at' ds) (at' ss) ss.sum ds.sum M)
include RR
theorem cS_not {D k : Nat} (h : ¬ Kd ds ss (D : Int) k = true) (j : Nat) : cS ds ss D (k + 1) j = cS ds ss D k j := by
  unfold cS
  by_cases e : j < k
  · rw [if_pos e, if_pos (by omega)]
  · by_cases e2 : j = k
    · subst e2
      rw [if_pos (by omega), if_neg e, (ends_not RR (by omega) h).1]
    · rw [if_neg (by omega), if_neg e]
theorem cS_yes {D k : Nat} (hk : k < ds.length) (h : Kd ds ss (D : Int) k = true) (j : Nat) : cS ds ss D (k + 1) j = if j = k then cS ds ss D k j + 1 else cS ds ss D k j := by
  unfold cS
  by_cases e : j < k
  · rw [if_pos e, if_pos (by omega), if_neg (by omega)]
  · by_cases e2 : j = k
    · subst e2
      rw [if_pos (by omega), if_neg e, if_pos rfl, (ends_now RR hk (by omega) h).1]
    · rw [if_neg (by omega), if_neg e, if_neg e2]
theorem cS_zero (j : Nat) : cS ds ss 0 0 j = 0 := by
  unfold cS
  rw [if_neg (by omega)]
  exact z_first RR j
theorem cS_nn (D k j : Nat) : 0 ≤ cS ds ss D k j := by
  unfold cS
  split
  · exact (RR.cn j _).1
  · exact (RR.cn j _).1
theorem cS_lo (D k j : Nat) : (D : Int) + 1 ≤ Rm.E (at' ds) (at' ss) j (cS ds ss D k j) := by
  unfold cS
  split
  · have := (RR.cn j ((D : Int) + 1)).2.2
    omega
  · have := (RR.cn j (D : Int)).2.2
    omega
theorem cS_hi {D k j : Nat} (h : j < k) : (D : Int) + 1 < Rm.E (at' ds) (at' ss) j (cS ds ss D k j) := by
  unfold cS
  rw [if_pos h]
  exact (RR.cn j ((D : Int) + 1)).2.2
theorem dfind (n0 : 0 < ds.length) : ∀ (m D k : Nat), k ≤ ds.length → (Rm.E (at' ds) (at' ss) ((0 : Nat) : Int) (cS ds ss D k 0) - D - 1).toNat * (ds.length + 1) + (ds.length - k) = m →
    ∃ D' k', k' < ds.length ∧ Kd ds ss ((D' : Nat) : Int) k' = true ∧ Pre ds ss D' k' = Pre ds ss D k ∧ ∀ j, j < ds.length → cS ds ss D' k' j = cS ds ss D k j := by
  intro m
  induction m using Nat.strongRecOn with
  | ind m ih =>
    intro D k hk hm
    by_cases e : k = ds.length
    · subst e
      have h1 := cS_hi RR (D := D) n0
      have e0 := cS_row ds ss D n0
      obtain ⟨a, ha⟩ : ∃ a, a = (Rm.E (at' ds) (at' ss) ((0 : Nat) : Int) (cS ds ss (D + 1) 0 0) - ((D + 1 : Nat) : Int) - 1).toNat := ⟨_, rfl⟩
      have h2 : (Rm.E (at' ds) (at' ss) ((0 : Nat) : Int) (cS ds ss D ds.length 0) - D - 1).toNat = a + 1 := by
        rw [ha, ← e0]
        omega
      rw [h2, Nat.succ_mul] at hm
      obtain ⟨D', k', q1, q2, q3, q4⟩ := ih (a * (ds.length + 1) + (ds.length - 0)) (by omega) (D + 1) 0 (Nat.zero_le _) (by rw [← ha])
      exact ⟨D', k', q1, q2, q3.trans (pre_row ds ss D).symm, fun j hj => (q4 j hj).trans (cS_row ds ss D hj).symm⟩
    · by_cases h : Kd ds ss ((D : Nat) : Int) k = true
      · exact ⟨D, k, by omega, h, rfl, fun _ _ => rfl⟩
      · obtain ⟨D', k', q1, q2, q3, q4⟩ := ih _ (by rw [← hm, ← cS_not RR h 0]; exact Nat.add_lt_add_left (by omega) _) D (k + 1) (by omega) rfl
        exact ⟨D', k', q1, q2, q3.trans (pre_not h), fun j hj => (q4 j hj).trans (cS_not RR h j)⟩
/-- the next reading to end -/
theorem dnext (n0 : 0 < ds.length) {D k : Nat} (hk : k ≤ ds.length) : ∃ D' k', k' < ds.length ∧ Rm.E (at' ds) (at' ss) (k' : Nat) (cS ds ss D k k') = ((D' : Nat) : Int) + 1 ∧ (∀ j, j < ds.length → ((D' : Nat) : Int) + 1 ≤ Rm.E (at' ds) (at' ss) (j : Nat) (cS ds ss D k j)) ∧
    (∀ j, j < k' → Rm.E (at' ds) (at' ss) (j : Nat) (cS ds ss D k j) ≠ ((D' : Nat) : Int) + 1) ∧ Pre ds ss D' (k' + 1) = Pre ds ss D k ++ [[((D' : Nat) : Int) + 1, (k' : Int), bk ss k' (cS ds ss D k k')]] ∧
    ∀ j, j < ds.length → cS ds ss D' (k' + 1) j = if j = k' then cS ds ss D k j + 1 else cS ds ss D k j := by
  obtain ⟨D', k', q1, q2, q3, q4⟩ := dfind RR n0 _ D k hk rfl
  have e : cS ds ss D k k' = Cn (at' ds) (at' ss) (k' : Int) (D' : Int) := by
    rw [← q4 k' q1]
    unfold cS
    rw [if_neg (by omega)]
  refine ⟨D', k', q1, ?_, fun j hj => ?_, fun j hj => ?_, ?_, fun j hj => ?_⟩
  · rw [e]
    exact of_decide_eq_true q2
  · rw [← q4 j hj]
    exact cS_lo RR D' k' j
  · rw [← q4 j (by omega)]
    have := cS_hi RR (D := D') hj
    omega
  · rw [pre_yes q2, q3, e]
    rfl
  · rw [cS_yes RR q1 q2, q4 j hj]
theorem cS_len : ∀ (D k j : Nat), k ≤ ds.length → j < ds.length → cS ds ss D k j ≤ ((Pre ds ss D k).length : Nat) := by
  have row : ∀ (D : Nat), (∀ j, j < ds.length → cS ds ss D 0 j ≤ ((Pre ds ss D 0).length : Nat)) → ∀ k, k ≤ ds.length → ∀ j, j < ds.length → cS ds ss D k j ≤ ((Pre ds ss D k).length : Nat) := by
    intro D h0 k
    induction k with
    | zero => exact fun _ => h0
    | succ k ih =>
      intro hk j hj
      have := ih (by omega) j hj
      by_cases h : Kd ds ss ((D : Nat) : Int) k = true
      · rw [pre_yes h, cS_yes RR (by omega) h, List.length_append, List.length_singleton]
        split <;> omega
      · rw [pre_not h, cS_not RR h]
        exact this
  intro D
  induction D with
  | zero => exact fun k j hk hj => row 0 (fun j _ => by rw [cS_zero RR]; omega) k hk j hj
  | succ D ih => exact fun k j hk hj => row (D + 1) (fun j hj => by rw [← pre_row, ← cS_row ds ss D hj]; exact ih _ j (Nat.le_refl _) hj) k hk j hj
end
theorem pre_up {ds ss : List Int} {D k : Nat} : ∀ {k' : Nat}, k ≤ k' → Pre ds ss D k <+: Pre ds ss D k'
  | 0, h => by
    rw [show k = 0 by omega]
    exact List.prefix_rfl
  | k' + 1, h => by
    by_cases e : k = k' + 1
    · rw [e]
      exact List.prefix_rfl
    · refine (pre_up (k' := k') (by omega)).trans ?_
      by_cases h : Kd ds ss ((D : Nat) : Int) k' = true
      · rw [pre_yes h]
        exact List.prefix_append _ _
      · rw [pre_not h]
        exact List.prefix_rfl
theorem pre_days {ds ss : List Int} {D : Nat} : ∀ {D' : Nat}, D ≤ D' → Pre ds ss D 0 <+: Pre ds ss D' 0
  | 0, h => by
    rw [show D = 0 by omega]
    exact List.prefix_rfl
  | D' + 1, h => by
    by_cases e : D = D' + 1
    · rw [e]
      exact List.prefix_rfl
    · rw [← pre_row]
      exact (pre_days (D' := D') (by omega)).trans (pre_up (Nat.zero_le _))
theorem pre_lex {ds ss : List Int} {D k D' k' : Nat} (hk : k ≤ ds.length) (h : D < D' ∨ (D = D' ∧ k ≤ k')) : Pre ds ss D k <+: Pre ds ss D' k' := by
  rcases h with h | ⟨rfl, h⟩
  · refine (pre_up hk).trans ?_
    rw [pre_row]
    exact (pre_days (by omega)).trans (pre_up (Nat.zero_le _))
  · exact pre_up h
theorem pre_take {ds ss : List Int} {D k D' k' : Nat} (hk : k ≤ ds.length) (hk' : k' ≤ ds.length) (h : (Pre ds ss D k).length ≤ (Pre ds ss D' k').length) : Pre ds ss D k = (Pre ds ss D' k').take (Pre ds ss D k).length := by
  have c : (D < D' ∨ (D = D' ∧ k ≤ k')) ∨ (D' < D ∨ (D' = D ∧ k' ≤ k)) := by omega
  rcases c with c | c
  · exact (List.prefix_iff_eq_take.mp (pre_lex hk c))
  · have p := pre_lex (ss := ss) hk' c
    have e := p.eq_of_length_le h
    rw [e, List.take_length]
/-- the entries are of three numbers -/
theorem pre_three {ds ss : List Int} {D k : Nat} {l : List Int} (h : l ∈ Pre ds ss D k) : ∃ (a : Int) (j : Nat) (b : Int), l = [a, (j : Int), b] ∧ j < max ds.length k := by
  unfold Pre at h
  rcases List.mem_append.mp h with h | h
  · obtain ⟨L, hL, hl⟩ := List.mem_flatten.mp h
    obtain ⟨i, _, rfl⟩ := List.mem_map.mp hL
    obtain ⟨j, hj, rfl⟩ := List.mem_map.mp hl
    exact ⟨_, j, _, rfl, by have := (kx_mem.mp hj).1; omega⟩
  · obtain ⟨j, hj, rfl⟩ := List.mem_map.mp h
    exact ⟨_, j, _, rfl, by have := (kx_mem.mp hj).1; omega⟩
end Rp
/-! Tables of live rings: put_book, begin_readings, end_readings. -/
namespace Rp
open PySem PySem.Spec PyProof.Rows L2 Rz Rm
/-- a table's attributes -/
def tbF (p : Addr) (day : Int) (hl cl : Addr) (coming : Int) : List (Str × V) := [("ring", .ref p), ("day", .int day), ("heaps", .ref hl), ("current", .ref cl), ("coming", .int coming)]
section
variable (p hl cl : Addr) (day coming : Int)
theorem tbF_r : (tbF p day hl cl coming).lookup ("ring" : Str) = some (.ref p) := by rfl
theorem tbF_d : (tbF p day hl cl coming).lookup ("day" : Str) = some (.int day) := by rfl
theorem tbF_h : (tbF p day hl cl coming).lookup ("heaps" : Str) = some (.ref hl) := by rfl
theorem tbF_c : (tbF p day hl cl coming).lookup ("current" : Str) = some (.ref cl) := by rfl
theorem tbF_n : (tbF p day hl cl coming).lookup ("coming" : Str) = some (.int coming) := by rfl
theorem tbF_pd (d : Int) : putF "day" (.int d) (tbF p day hl cl coming) = tbF p d hl cl coming := by rfl
end
/-- what is read, and when it ends -/
def CuV (H : Hp) (v : V) : Option (Int × Int) → Prop
  | none => v = .non
  | some (b, e) => ∃ t, v = .ref t ∧ H t = some (.tup [.int b, .int e])
theorem CuV.tups {H H' : Hp} (k : ∀ b ys, H b = some (.tup ys) → H' b = some (.tup ys)) {v : V} : ∀ {o : Option (Int × Int)}, CuV H v o → CuV H' v o
  | none, h => h
  | some _, ⟨t, e, h⟩ => ⟨t, e, k _ _ h⟩
structure LvT (C tC : Addr) (H : Hp) (tb dxt p dx td ts hl cl : Addr) (ha : List Addr) (cs : List V) (ds ss : List Int) (day coming : Int) (hp : Nat → List Int) (cu : Nat → Option (Int × Int)) : Prop where
  ob : H tb = some (.ins tC dxt (tbF p day hl cl coming))
  R : RingAt C H p dx td ts ds ss
  fh : H hl = some (.lst (ha.map V.ref))
  lh : ha.length = ds.length
  hv : ∀ (j : Nat) (a : Addr), ha[j]? = some a → H a = some (.tup ((hp j).map V.int))
  fc : H cl = some (.lst cs)
  lc : cs.length = ds.length
  cv : ∀ (j : Nat) (v : V), cs[j]? = some v → CuV H v (cu j)
  ne : hl ≠ cl
  sm : ∀ j, j < ds.length → (hp j).length ≤ 900
/-- all but the table and its two lists stays -/
def KT (tb hl cl : Addr) (H H' : Hp) : Prop := ∀ b o, H b = some o → b ≠ tb → b ≠ hl → b ≠ cl → H' b = some o
theorem KT.refl (tb hl cl : Addr) (H : Hp) : KT tb hl cl H H := fun _ _ h _ _ _ => h
theorem KT.trans {tb hl cl : Addr} {H H1 H2 : Hp} (a : KT tb hl cl H H1) (b : KT tb hl cl H1 H2) : KT tb hl cl H H2 := fun c o h n1 n2 n3 => b c o (a c o h n1 n2 n3) n1 n2 n3
theorem Same.kt {tb hl cl : Addr} {H H' : Hp} (s : Same H H') : KT tb hl cl H H' := fun b o h _ _ _ => s b o h
section
variable {C tC : Addr} {H H' : Hp} {tb dxt p dx td ts hl cl : Addr} {ha : List Addr} {cs : List V} {ds ss : List Int} {day coming : Int} {hp : Nat → List Int} {cu : Nat → Option (Int × Int)}
theorem LvT.same (b : LvT C tC H tb dxt p dx td ts hl cl ha cs ds ss day coming hp cu) (s : Same H H') : LvT C tC H' tb dxt p dx td ts hl cl ha cs ds ss day coming hp cu :=
  ⟨s _ _ b.ob, b.R.same s, s _ _ b.fh, b.lh, fun j a h => s _ _ (b.hv j a h), s _ _ b.fc, b.lc, fun j v h => (b.cv j v h).tups fun _ _ e => s _ _ e, b.ne, b.sm⟩
theorem LvT.ext (b : LvT C tC H tb dxt p dx td ts hl cl ha cs ds ss day coming hp cu) {hp' : Nat → List Int} {cu' : Nat → Option (Int × Int)} (e1 : ∀ j, j < ds.length → hp' j = hp j) (e2 : ∀ j, j < ds.length → cu' j = cu j) : LvT C tC H tb dxt p dx td ts hl cl ha cs ds ss day coming hp' cu' :=
  ⟨b.ob, b.R, b.fh, b.lh, fun j a h => by rw [e1 j (by rw [← b.lh]; exact (List.getElem?_eq_some_iff.mp h).1)]; exact b.hv j a h, b.fc, b.lc, fun j v h => by rw [e2 j (by rw [← b.lc]; exact (List.getElem?_eq_some_iff.mp h).1)]; exact b.cv j v h, b.ne, fun j hj => by rw [e1 j hj]; exact b.sm j hj⟩
/-- one heap is put anew -/
theorem LvT.putH (b : LvT C tC H tb dxt p dx td ts hl cl ha cs ds ss day coming hp cu) {k : Nat} {t : Addr} {ws : List Int} (ht : H t = some (.tup (ws.map V.int))) (hw : ws.length ≤ 900) :
    LvT C tC (upd H hl (.lst ((ha.map V.ref).set k (.ref t)))) tb dxt p dx td ts hl cl (ha.set k t) cs ds ss day coming (fun j => if j = k then ws else hp j) cu := by
  have kx : ∀ {x o}, H x = some o → (∀ l, o ≠ .lst l) → (upd H hl (.lst ((ha.map V.ref).set k (.ref t)))) x = some o := fun {x o} e n => (upd_ne fun z => by
    rw [z, b.fh] at e
    exact n _ (Option.some.inj e).symm).trans e
  refine ⟨kx b.ob (fun _ z => by cases z), ⟨kx b.R.ob (fun _ z => by cases z), kx b.R.td (fun _ z => by cases z), kx b.R.ts (fun _ z => by cases z), b.R.ok⟩, by rw [upd_same, List.map_set], by rw [List.length_set]; exact b.lh, fun j a h => ?_, (upd_ne b.ne.symm).trans b.fc, b.lc, fun j v h => (b.cv j v h).tups fun _ _ e => kx e (fun _ z => by cases z), b.ne, fun j hj => ?_⟩
  · by_cases e : j = k
    · subst e
      rw [if_pos rfl]
      have hj : j < ha.length := by
        have := (List.getElem?_eq_some_iff.mp h).1
        rw [List.length_set] at this
        exact this
      rw [List.getElem?_set_self hj] at h
      cases h
      exact kx ht (fun _ z => by cases z)
    · rw [if_neg e]
      rw [List.getElem?_set_ne (Ne.symm e)] at h
      exact kx (b.hv j a h) (fun _ z => by cases z)
  · show (if j = k then ws else hp j).length ≤ 900
    split
    · exact hw
    · exact b.sm j hj
/-- one reading is put anew -/
theorem LvT.putC (b : LvT C tC H tb dxt p dx td ts hl cl ha cs ds ss day coming hp cu) {k : Nat} {v : V} {o : Option (Int × Int)} (hv : CuV H v o) :
    LvT C tC (upd H cl (.lst (cs.set k v))) tb dxt p dx td ts hl cl ha (cs.set k v) ds ss day coming hp (fun j => if j = k then o else cu j) := by
  have kx : ∀ {x o}, H x = some o → (∀ l, o ≠ .lst l) → (upd H cl (.lst (cs.set k v))) x = some o := fun {x o} e n => (upd_ne fun z => by
    rw [z, b.fc] at e
    exact n _ (Option.some.inj e).symm).trans e
  have tk : ∀ c ys, H c = some (.tup ys) → (upd H cl (.lst (cs.set k v))) c = some (.tup ys) := fun c ys e => kx e (fun _ z => by cases z)
  refine ⟨kx b.ob (fun _ z => by cases z), ⟨kx b.R.ob (fun _ z => by cases z), tk _ _ b.R.td, tk _ _ b.R.ts, b.R.ok⟩, (upd_ne b.ne).trans b.fh, b.lh, fun j a h => tk _ _ (b.hv j a h), upd_same, by rw [List.length_set]; exact b.lc, fun j w h => ?_, b.ne, b.sm⟩
  by_cases e : j = k
  · subst e
    rw [if_pos rfl]
    have hj : j < cs.length := by
      have := (List.getElem?_eq_some_iff.mp h).1
      rw [List.length_set] at this
      exact this
    rw [List.getElem?_set_self hj] at h
    cases h
    exact hv.tups tk
  · rw [if_neg e]
    rw [List.getElem?_set_ne (Ne.symm e)] at h
    exact (b.cv j w h).tups tk
end
/-- the heaps, all readings begun that can -/
def bgH (hp : Nat → List Int) (cu : Nat → Option (Int × Int)) (j : Nat) : List Int := match cu j, hp j with
  | none, _ :: r => r
  | _, h => h
/-- the readings, all begun that can -/
def bgC (ds : List Int) (day : Int) (hp : Nat → List Int) (cu : Nat → Option (Int × Int)) (j : Nat) : Option (Int × Int) := match cu j, hp j with
  | none, b :: _ => some (b, day + at' ds j)
  | c, _ => c
theorem ixN_natT {n j : Nat} (h : j < n) : ixN n (j : Int) = some j := by
  unfold ixN
  rw [if_pos (by omega), if_pos (by omega), Int.toNat_natCast]
theorem same_noneT {H H' : Hp} {x : Addr} (s : Same H H') (h : H' x = none) : H x = none := by
  cases e : H x with
  | none => rfl
  | some o =>
    have := s _ _ e
    rw [h] at this
    cases this
section
variable {P : Program} {w : World} {K : PySem.W.Frag} {mg : Str → Option Value} {base : Heap}
def spPut (C tC : Addr) : Sp := fun vs H Q _ => ∃ (tb dxt p dx td ts hl cl : Addr) (ha : List Addr) (cs : List V) (ds ss : List Int) (day coming : Int) (hp : Nat → List Int) (cu : Nat → Option (Int × Int)) (k : Nat) (b : Int), vs = [.ref tb, .int (k : Int), .int b] ∧
  LvT C tC H tb dxt p dx td ts hl cl ha cs ds ss day coming hp cu ∧ k < ds.length ∧ (hp k).length < 900 ∧
  ∀ H' ha', KT tb hl cl H H' → LvT C tC H' tb dxt p dx td ts hl cl ha' cs ds ss day coming (fun j => if j = k then hp k ++ [b] else hp j) cu → Q .non H'
theorem ok_put (T : Tx K mg) : FnOk P w K mg base CX0 1 T.a_put_book T.d_put_book P_put_book (spPut T.C T.tC) := by
  refine T.F_put_book.ok sc_put_book (fun vs H Q E h => ?_) (fun cdv A outer s H vs Q E hr h => ?_)
  · obtain ⟨tb, dxt, p, dx, td, ts, hl, cl, ha, cs, ds, ss, day, coming, hp, cu, k, b, rfl, _⟩ := h
    rfl
  · obtain ⟨tb, dxt, p, dx, td, ts, hl, cl, ha, cs, ds, ss, day, coming, hp, cu, k, b, rfl, M, hk, h9, q⟩ := h
    refine ⟨_, pss_one (ps_asg (pe_op op_catA (pe_ix ix_list (pe_fld (pv 0) rfl) (pv 1) (fun _ _ => rfl)) (pe_tup (pa_cons (pv 2) pa_nil))) (pg_sub (pe_fld (pv 0) rfl) (pv 1) set_list)), ?_⟩
    obtain ⟨a, ga⟩ : ∃ a, ha[k]? = some a := ⟨_, List.getElem?_eq_getElem (by rw [M.lh]; exact hk)⟩
    refine ⟨_, rfl, tb, _, dxt, _, _, rfl, M.ob, T.clt, T.nt_heaps, tbF_h _ _ _ _ _, _, rfl, hl, _, _, _, rfl, rfl, .of M.fh, atI_nat (by rw [List.getElem?_map, ga]; rfl), _, rfl, (by show 1 ≤ sizeLine; decide), fun t1 ht1 => ?_⟩
    have s1 := same_upd (o := .tup [.int b]) ht1
    have M1 := M.same s1
    refine cat_any (M1.hv k a ga) upd_same (by rw [List.length_map]; exact Nat.le_of_lt (small1000 (by show _ + 1 ≤ 1000; omega))) fun H2 t2 s2 h2 => ?_
    have M2 := M1.same s2
    refine ⟨_, rfl, tb, _, dxt, _, _, rfl, M2.ob, T.clt, T.nt_heaps, tbF_h _ _ _ _ _, _, rfl, hl, _, _, k, rfl, rfl, M2.fh, ixN_natT (by rw [List.length_map, M.lh]; exact hk), ?_⟩
    have h2' : H2 t2 = some (.tup ((hp k ++ [b]).map V.int)) := by rw [h2, List.map_append]; rfl
    exact q _ _ (fun c o e n1 n2 n3 => by rw [upd_ne n2]; exact s2 _ _ (s1 _ _ e)) (M2.putH h2' (by rw [List.length_append]; show _ + 1 ≤ 900; omega))
def spBegT (C tC : Addr) : Sp := fun vs H Q _ => ∃ (tb dxt p dx td ts hl cl : Addr) (ha : List Addr) (cs : List V) (ds ss : List Int) (day coming : Int) (hp : Nat → List Int) (cu : Nat → Option (Int × Int)), vs = [.ref tb] ∧
  LvT C tC H tb dxt p dx td ts hl cl ha cs ds ss day coming hp cu ∧
  ∀ H' ha' cs', KT tb hl cl H H' → LvT C tC H' tb dxt p dx td ts hl cl ha' cs' ds ss day coming (bgH hp cu) (bgC ds day hp cu) → Q .non H'
theorem ok_begT (T : Tx K mg) : FnOk P w K mg base CX0 3 T.a_begin_readings T.d_begin_readings P_begin_readings (spBegT T.C T.tC) := by
  refine T.F_begin_readings.ok sc_begin_readings (fun vs H Q E h => ?_) (fun cdv A outer s H vs Q E hr h => ?_)
  · obtain ⟨tb, dxt, p, dx, td, ts, hl, cl, ha, cs, ds, ss, day, coming, hp, cu, rfl, _⟩ := h
    rfl
  · obtain ⟨tb, dxt, p, dx, td, ts, hl, cl, ha, cs, ds, ss, day, coming, hp, cu, rfl, M, q⟩ := h
    have nd := sc_begin_readings.nd
    refine ⟨_, pss_one (ps_for PassesOwn.never rfl (pi_enumT (by rfl) T.z_enumerate (pa_cons (pe_prop (pe_fld (pv 0) rfl) T.cl T.q_rdays (ok_days T) hr T.b_rdays .nil pass0 rfl) pa_nil)) (pg_tup rfl (pgs_cons (pg_name (i := 1) nd rfl (.inl rfl)) (pgs_cons (pg_name (i := 2) nd rfl (.inl rfl)) pgs_nil)))
      (pss_cons (ps_set (i := 3) nd rfl (.inl rfl) (pe_ix ix_list (pe_fld (pv 0) rfl) (pv 1) (fun _ _ => rfl)))
      (pss_one (ps_if (PW.pt (pw_and (pt_cmpR op_isN (pe_ix ix_list (pe_fld (pv 0) rfl) (pv 1) (fun _ _ => rfl)) pe_non (nomark _)) (pw_and1 (pt_cmpR (op_neD hr.units) (pv 3) (pe_tup pa_nil) (nomark _)))))
        (pss_cons (ps_asg (pe_tup (pa_cons (pe_ix ix_tup (pv 3) pe_int (fun _ _ => rfl)) (pa_cons (pe_op op_add (pe_fld (pv 0) rfl) (pv 2)) pa_nil))) (pg_sub (pe_fld (pv 0) rfl) (pv 1) set_list))
        (pss_one (ps_asg (pe_slice sl_tupA (pv 3) (po_some pe_int) po_none) (pg_sub (pe_fld (pv 0) rfl) (pv 1) set_list)))) pss_nil)))), ?_⟩
    refine ⟨_, rfl, tb, _, dxt, _, _, rfl, M.ob, T.clt, T.nt_ring, tbF_r _ _ _ _ _, p, dx, _, rfl, M.R.ob, p, dx, td, ts, ds, ss, rfl, M.R, td, _, rfl, .of M.R.td, ?_⟩
    have l8 := M.R.ok.l8
    refine for_it walk_enumT (fun i σ H' => (∃ y1 y2 y3, σ = [some (.ref tb), y1, y2, y3]) ∧ KT tb hl cl H H' ∧ ∃ ha' cs', LvT T.C T.tC H' tb dxt p dx td ts hl cl ha' cs' ds ss day coming (fun j => if j < i then bgH hp cu j else hp j) (fun j => if j < i then bgC ds day hp cu j else cu j))
      ⟨⟨_, _, _, rfl⟩, KT.refl _ _ _ _, ha, cs, M.ext (fun j _ => if_neg (Nat.not_lt_zero j)) (fun j _ => if_neg (Nat.not_lt_zero j))⟩ (fun i σ H' _ z => by
        obtain ⟨_, _, _, _, M'⟩ := z
        exact .of M'.R.td) ?_ ?_
    · rintro i x σ H1 H2 hi1 ⟨⟨y1, y2, y3, rfl⟩, kt, ha1, cs1, M1⟩ ⟨t, a, b, rfl, nt, rfl, ha0, hb⟩
      have ha' : a = .int (i : Nat) := (Option.some.inj ha0).symm
      subst ha'
      obtain ⟨z, hz, rfl⟩ := get_int hb
      rw [List.length_map] at hi1
      have ez : at' ds i = z := at_nat hz
      have s2 := same_upd (o := .tup [.int (i : Nat), .int z]) nt
      have ht2 : (upd H1 t (.tup [.int (i : Nat), .int z])) t = some (.tup [.int (i : Nat), .int z]) := upd_same
      have M2 := M1.same s2
      have kt2 : KT tb hl cl H (upd H1 t (.tup [.int (i : Nat), .int z])) := kt.trans (Same.kt s2)
      refine ⟨t, _, rfl, .of ht2, rfl, _, _, rfl, _, _, rfl, rfl, ?_⟩
      show tSeq _ _ _ [some (.ref tb), some (.int (i : Nat)), some (.int z), y3] (upd H1 t (.tup [.int (i : Nat), .int z]))
      generalize (upd H1 t (.tup [.int (i : Nat), .int z])) = H3 at M2 kt2 ⊢
      obtain ⟨av, ga⟩ : ∃ a, ha1[i]? = some a := ⟨_, List.getElem?_eq_getElem (by rw [M1.lh]; exact hi1)⟩
      obtain ⟨cv, gc⟩ : ∃ v, cs1[i]? = some v := ⟨_, List.getElem?_eq_getElem (by rw [M1.lc]; exact hi1)⟩
      have hva := M2.hv i av ga
      have hcv := M2.cv i cv gc
      simp only [Nat.lt_irrefl, if_false] at hva hcv
      have sm := M.sm i hi1
      refine ⟨_, rfl, tb, _, dxt, _, _, rfl, M2.ob, T.clt, T.nt_heaps, tbF_h _ _ _ _ _, _, rfl, hl, _, _, _, rfl, rfl, .of M2.fh, atI_nat (by rw [List.getElem?_map, ga]; rfl), ?_⟩
      show tSeq _ _ _ [some (.ref tb), some (.int (i : Nat)), some (.int z), some (.ref av)] H3
      -- nothing to begin
      have stay : ∀ H4, Same H3 H4 → bgH hp cu i = hp i → bgC ds day hp cu i = cu i → (∃ y1 y2 y3, ([some (.ref tb), some (.int (i : Nat)), some (.int z), some (.ref av)] : L2.St) = [some (.ref tb), y1, y2, y3]) ∧ KT tb hl cl H H4 ∧ ∃ ha' cs', LvT T.C T.tC H4 tb dxt p dx td ts hl cl ha' cs' ds ss day coming (fun j => if j < i + 1 then bgH hp cu j else hp j) (fun j => if j < i + 1 then bgC ds day hp cu j else cu j) := fun H4 s4 e1 e2 => by
        refine ⟨⟨_, _, _, rfl⟩, kt2.trans (Same.kt s4), ha1, cs1, (M2.same s4).ext (fun j _ => ?_) (fun j _ => ?_)⟩
        · by_cases h1 : j < i
          · rw [if_pos h1, if_pos (by omega)]
          · by_cases h2 : j = i
            · rw [h2, if_pos (by omega), if_neg (by omega), e1]
            · rw [if_neg (by omega), if_neg h1]
        · by_cases h1 : j < i
          · rw [if_pos h1, if_pos (by omega)]
          · by_cases h2 : j = i
            · rw [h2, if_pos (by omega), if_neg (by omega), e2]
            · rw [if_neg (by omega), if_neg h1]
      refine ⟨_, rfl, tb, _, dxt, _, _, rfl, M2.ob, T.clt, T.nt_current, tbF_c _ _ _ _ _, _, rfl, cl, _, _, cv, rfl, rfl, .of M2.fc, atI_nat gc, rfl, _, rfl, ?_⟩
      cases ecu : cu i with
      | some be =>
        rw [ecu] at hcv
        obtain ⟨tc, rfl, htc⟩ := hcv
        refine iteF (iteF ?_)
        exact stay H3 (Same.refl _) (by unfold bgH; rw [ecu]) (by unfold bgC; rw [ecu])
      | none =>
        rw [ecu] at hcv
        have hcv : cv = .non := hcv
        subst hcv
        refine iteT ?_
        refine ⟨_, rfl, Nat.zero_le _, fun te hte => ?_⟩
        have s4 := same_upd (o := .tup []) hte
        have ge : (upd H3 te (.tup [])) te = some (.tup []) := upd_same
        have M4 := M2.same s4
        generalize (upd H3 te (.tup [])) = H4 at s4 ge M4 ⊢
        refine ⟨.tuple ((hp i).map PyData.int), .tuple [], .tup (.of (s4 _ _ hva)) (dp_is _), .tup (.of ge) .nil, shaped_tup _, shaped_tup [], _, rfl, ?_⟩
        cases ehp : hp i with
        | nil => exact iteF (stay H4 s4 (by unfold bgH; rw [ecu, ehp]) (by unfold bgC; rw [ecu, ehp]))
        | cons b r =>
          rw [ehp] at hva sm
          have hv4 := s4 _ _ hva
          refine iteT ?_
          refine ⟨_, rfl, av, _, 0, _, rfl, rfl, .of hv4, atI_nat (j := 0) rfl, _, rfl, tb, _, dxt, _, _, rfl, M4.ob, T.clt, T.nt_day, tbF_d _ _ _ _ _, _, rfl, _, _, rfl, rfl, (by show 2 ≤ sizeLine; decide), fun t1 ht1 => ?_⟩
          have s5 := same_upd (o := .tup [.int b, .int (day + z)]) ht1
          have g5 : (upd H4 t1 (.tup [.int b, .int (day + z)])) t1 = some (.tup [.int b, .int (day + z)]) := upd_same
          have M5 := M4.same s5
          have hv5 := s5 _ _ hv4
          have s35 := s4.trans s5
          generalize (upd H4 t1 (.tup [.int b, .int (day + z)])) = H5 at s5 g5 M5 hv5 s35 ⊢
          refine ⟨_, rfl, tb, _, dxt, _, _, rfl, M5.ob, T.clt, T.nt_current, tbF_c _ _ _ _ _, _, rfl, cl, _, _, i, rfl, rfl, M5.fc, ixN_natT (by rw [M5.lc]; exact hi1), ?_⟩
          have M6 := M5.putC (k := i) (v := .ref t1) (o := some (b, day + z)) ⟨t1, rfl, g5⟩
          have k6 : KT tb hl cl H (upd H5 cl (.lst (cs1.set i (.ref t1)))) := fun x o e n1 n2 n3 => (upd_ne n3).trans (s35 _ _ (kt2 x o e n1 n2 n3))
          have hv6 : (upd H5 cl (.lst (cs1.set i (.ref t1)))) av = some (.tup ((b :: r).map V.int)) := (upd_ne (ne_of hv5 M5.fc (by intro z; cases z))).trans hv5
          generalize (upd H5 cl (.lst (cs1.set i (.ref t1)))) = H6 at M6 k6 hv6 ⊢
          refine ⟨_, rfl, _, rfl, noPart (sl_from (k := 1) hv6 (by decide) (by rw [List.length_map, List.length_cons]; omega) fun H7 t2 s7 h7 => ?_)⟩
          have M7 := M6.same s7
          refine ⟨_, rfl, tb, _, dxt, _, _, rfl, M7.ob, T.clt, T.nt_heaps, tbF_h _ _ _ _ _, _, rfl, hl, _, _, i, rfl, rfl, M7.fh, ixN_natT (by rw [List.length_map, M7.lh]; exact hi1), ?_⟩
          have h7' : H7 t2 = some (.tup (r.map V.int)) := h7
          refine ⟨⟨_, _, _, rfl⟩, (k6.trans (Same.kt s7)).trans fun x o e n1 n2 n3 => (upd_ne n2).trans e, _, _, (M7.putH h7' (by rw [List.length_cons] at sm; omega)).ext (fun j _ => ?_) (fun j _ => ?_)⟩
          · by_cases h1 : j < i
            · rw [if_pos (by omega), if_neg (by omega), if_pos h1]
            · by_cases h2 : j = i
              · rw [h2, if_pos (by omega), if_pos rfl]
                unfold bgH
                rw [ecu, ehp]
              · rw [if_neg (by omega), if_neg h2, if_neg h1]
          · by_cases h1 : j < i
            · rw [if_pos (by omega), if_neg (by omega), if_pos h1]
            · by_cases h2 : j = i
              · rw [h2, if_pos (by omega), if_pos rfl]
                unfold bgC
                rw [ecu, ehp, ez]
              · rw [if_neg (by omega), if_neg h2, if_neg h1]
    · rintro σ H1 ⟨⟨y1, y2, y3, rfl⟩, kt, ha1, cs1, M1⟩
      rw [List.length_map] at M1
      exact q H1 ha1 cs1 kt (M1.ext (fun j hj => (if_pos hj).symm) (fun j hj => (if_pos hj).symm))
end
end Rp
/-! Tables of live rings: reader_after, end_readings, let_pass. -/
namespace Rp
open PySem PySem.Spec PyProof.Rows L2 Rz Rm
/-- the book whose reading ends on the table's day -/
def enB (day : Int) (cu : Nat → Option (Int × Int)) (j : Nat) : Option Int := match cu j with
  | some (b, e) => if e = day then some b else none
  | none => none
def enC (day : Int) (cu : Nat → Option (Int × Int)) (j : Nat) : Option (Int × Int) := if (enB day cu j).isSome = true then none else cu j
def enH (N : Nat) (day : Int) (hp : Nat → List Int) (cu : Nat → Option (Int × Int)) (j : Nat) : List Int := hp j ++ (enB day cu (prv N j)).toList
/-- what is told of it -/
def enL (day : Int) (cu : Nat → Option (Int × Int)) (n : Nat) : List (List Int) := (List.range n).filterMap fun j => (enB day cu j).map fun b => [day, (j : Int), b]
theorem enL_suc (day : Int) (cu : Nat → Option (Int × Int)) (n : Nat) : enL day cu (n + 1) = enL day cu n ++ ((enB day cu n).map fun b => [day, (n : Int), b]).toList := by
  unfold enL
  rw [List.range_succ, List.filterMap_append]
  refine congrArg (_ ++ ·) ?_
  cases h : enB day cu n with
  | none => simp [h]
  | some b => simp [h]
theorem enL_len (day : Int) (cu : Nat → Option (Int × Int)) (n : Nat) : (enL day cu n).length ≤ n := by
  unfold enL
  exact Nat.le_trans (List.length_filterMap_le _ _) (by rw [List.length_range]; exact Nat.le_refl _)
section
variable {C tC : Addr} {H H' : Hp} {tb dxt p dx td ts hl cl : Addr} {ha : List Addr} {cs : List V} {ds ss : List Int} {day coming : Int} {hp : Nat → List Int} {cu : Nat → Option (Int × Int)}
/-- another list is written -/
theorem LvT.oth (b : LvT C tC H tb dxt p dx td ts hl cl ha cs ds ss day coming hp cu) {L : Addr} {l l' : List V} (h : H L = some (.lst l)) (n1 : L ≠ hl) (n2 : L ≠ cl) : LvT C tC (upd H L (.lst l')) tb dxt p dx td ts hl cl ha cs ds ss day coming hp cu := by
  have kx : ∀ {x o}, H x = some o → (∀ l, o ≠ .lst l) → (upd H L (.lst l')) x = some o := fun {x o} e n => (upd_ne fun z => by
    rw [z, h] at e
    exact n _ (Option.some.inj e).symm).trans e
  exact ⟨kx b.ob (fun _ z => by cases z), ⟨kx b.R.ob (fun _ z => by cases z), kx b.R.td (fun _ z => by cases z), kx b.R.ts (fun _ z => by cases z), b.R.ok⟩, (upd_ne n1.symm).trans b.fh, b.lh, fun j a e => kx (b.hv j a e) (fun _ z => by cases z), (upd_ne n2.symm).trans b.fc, b.lc, fun j v e => (b.cv j v e).tups fun _ _ e => kx e (fun _ z => by cases z), b.ne, b.sm⟩
theorem tups_kt {tb hl cl dxt : Addr} {H H' : Hp} {fs : List (Str × V)} {C : Addr} {l1 l2 : List V} (k : KT tb hl cl H H') (h1 : H tb = some (.ins C dxt fs)) (h2 : H hl = some (.lst l1)) (h3 : H cl = some (.lst l2)) : ∀ b ys, H b = some (.tup ys) → H' b = some (.tup ys) := fun b ys h =>
  k _ _ h (ne_of h h1 (by intro z; cases z)) (ne_of h h2 (by intro z; cases z)) (ne_of h h3 (by intro z; cases z))
end
section
variable {P : Program} {w : World} {K : PySem.W.Frag} {mg : Str → Option Value} {base : Heap}
def spAfter (C : Addr) : Sp := fun vs H Q _ => ∃ p dx td ts ds ss, ∃ r : Int, vs = [.ref p, .int r] ∧ RingAt C H p dx td ts ds ss ∧ Q (.int ((r + 1) % (ds.length : Int))) H
theorem ok_after (T : Tx K mg) : FnOk P w K mg base CX0 3 T.a_reader_after T.d_reader_after P_reader_after (spAfter T.C) := by
  refine T.F_reader_after.ok sc_reader_after (fun vs H Q E h => ?_) (fun cdv A outer s H vs Q E hr h => ?_)
  · obtain ⟨p, dx, td, ts, ds, ss, r, rfl, _⟩ := h
    rfl
  · obtain ⟨p, dx, td, ts, ds, ss, r, rfl, R, q⟩ := h
    have l2 := R.ok.l2
    have l8 := R.ok.l8
    refine ⟨_, pss_one (ps_ret (pe_op op_mod (pe_callTy call_int1 (by rfl) T.z_int (by decide +kernel) (pa_cons (pe_op op_add (pv 1) pe_int) pa_nil))
      (pe_callB (call_lenI T.lenC T.lenF ((ok_len T).raw T.b_rlen .nil) hr pass0) (by rfl) T.z_len PySem.boot_len (pa_cons (pv 0) pa_nil)))), ?_⟩
    exact ⟨_, rfl, _, _, rfl, rfl, .inl ⟨_, rfl, _, rfl, p, dx, _, rfl, R.ob, p, dx, td, ts, ds, ss, rfl, R, _, rfl, by omega, by omega, _, _, rfl, rfl, by show (0 : Int) < ds.length; omega, q⟩⟩
def spEndT (C tC : Addr) : Sp := fun vs H Q _ => ∃ (tb dxt p dx td ts hl cl : Addr) (ha : List Addr) (cs : List V) (ds ss : List Int) (day coming : Int) (hp : Nat → List Int) (cu : Nat → Option (Int × Int)), vs = [.ref tb] ∧
  LvT C tC H tb dxt p dx td ts hl cl ha cs ds ss day coming hp cu ∧ (∀ j, j < ds.length → (hp j).length < 900) ∧
  ∀ H' ha' cs' L xs, KT tb hl cl H H' → LvT C tC H' tb dxt p dx td ts hl cl ha' cs' ds ss day coming (enH ds.length day hp cu) (enC day cu) → H L = none → H' L = some (.lst xs) → Tups H' xs (enL day cu ds.length) → Q (.ref L) H'
theorem ok_endT (T : Tx K mg) : FnOk P w K mg base CX0 4 T.a_end_readings T.d_end_readings P_end_readings (spEndT T.C T.tC) := by
  refine T.F_end_readings.ok sc_end_readings (fun vs H Q E h => ?_) (fun cdv A outer s H vs Q E hr h => ?_)
  · obtain ⟨tb, dxt, p, dx, td, ts, hl, cl, ha, cs, ds, ss, day, coming, hp, cu, rfl, _⟩ := h
    rfl
  · obtain ⟨tb, dxt, p, dx, td, ts, hl, cl, ha, cs, ds, ss, day, coming, hp, cu, rfl, M, h9, q⟩ := h
    have nd := sc_end_readings.nd
    have hr2 := hr.mono (by decide : 2 ≤ 3)
    refine ⟨_, pss_cons (ps_set (i := 1) nd rfl (.inl rfl) (pe_lst pa_nil))
      (pss_cons (ps_for PassesOwn.never rfl (pi_range1 (by rfl) T.z_range (pa_cons (pe_callB (call_lenI T.lenC T.lenF ((ok_len T).raw T.b_rlen .nil) hr2 pass0) (by rfl) T.z_len PySem.boot_len (pa_cons (pe_fld (pv 0) rfl) pa_nil)) pa_nil)) (pg_name (i := 2) nd rfl (.inl rfl))
        (pss_cons (ps_set (i := 3) nd rfl (.inl rfl) (pe_ix ix_list (pe_fld (pv 0) rfl) (pv 2) (fun _ _ => rfl)))
        (pss_one (ps_if (PW.pt (pw_and (pt_cmpR op_notN (pv 3) pe_non (nomark _)) (pw_and1 (pt_cmpR op_eq (pe_ix ix_tup (pv 3) pe_int (fun _ _ => rfl)) (pe_fld (pv 0) rfl) (nomark _)))))
          (pss_cons (ps_expr (pe_bm PySem.F.plainAttrs_list PySem.F.slot_list_append PySem.F.type_list_append mt_append (pv 1) (pa_cons (pe_tup (pa_cons (pe_fld (pv 0) rfl) (pa_cons (pv 2) (pa_cons (pe_ix ix_tup (pv 3) pe_int (fun _ _ => rfl)) pa_nil)))) pa_nil)))
          (pss_cons (ps_asg pe_non (pg_sub (pe_fld (pv 0) rfl) (pv 2) set_list))
          (pss_one (ps_expr (pe_call (ok_put T) (hr.mono (by decide : 1 ≤ 3)) (by rfl) T.g_put_book T.F_put_book.kp T.b_put_book .nil pass0 (pa_cons (pv 0) (pa_cons (pe_call (ok_after T) hr (by rfl) T.g_reader_after T.F_reader_after.kp T.b_reader_after .nil pass0 (pa_cons (pe_fld (pv 0) rfl) (pa_cons (pv 2) pa_nil))) (pa_cons (pe_ix ix_tup (pv 3) pe_int (fun _ _ => rfl)) pa_nil)))))))) pss_nil))))
      (pss_one (ps_ret (pv 1)))), ?_⟩
    have l8 := M.R.ok.l8
    have l2 := M.R.ok.l2
    refine ⟨Nat.zero_le _, fun L hL => ?_⟩
    have s0 := same_upd (o := .lst []) hL
    have g0 : (upd H L (.lst [])) L = some (.lst []) := upd_same
    have M0 := M.same s0
    have nh : L ≠ hl := (ne_of_none M.fh hL).symm
    have nc : L ≠ cl := (ne_of_none M.fc hL).symm
    have nt : L ≠ tb := (ne_of_none M.ob hL).symm
    have k0 : KT tb hl cl H (upd H L (.lst [])) := Same.kt s0
    show tSeq _ _ _ [some (.ref tb), some (.ref L), none, none] (upd H L (.lst []))
    generalize (upd H L (.lst [])) = H1 at g0 M0 k0 ⊢
    refine ⟨_, rfl, tb, _, dxt, _, _, rfl, M0.ob, T.clt, T.nt_ring, tbF_r _ _ _ _ _, p, dx, _, rfl, M0.R.ob, p, dx, td, ts, ds, ss, rfl, M0.R, (ds.length : Int), rfl, by omega, by omega, _, rfl, by omega, by omega, ?_⟩
    refine for_range (lo := 0) (n := ((ds.length : Nat) : Int).toNat) (fun i σ H' => (∃ y2 y3, σ = [some (.ref tb), some (.ref L), y2, y3]) ∧ KT tb hl cl H H' ∧ ∃ ha' cs' xs, LvT T.C T.tC H' tb dxt p dx td ts hl cl ha' cs' ds ss day coming (fun j => hp j ++ (if prv ds.length j < i then (enB day cu (prv ds.length j)).toList else [])) (fun j => if j < i then enC day cu j else cu j) ∧ H' L = some (.lst xs) ∧ Tups H' xs (enL day cu i))
      ⟨⟨_, _, rfl⟩, k0, ha, cs, [], M0.ext (fun j _ => by rw [if_neg (Nat.not_lt_zero _), List.append_nil]) (fun j _ => if_neg (Nat.not_lt_zero j)), g0, .nil⟩ ?_ ?_
    · rintro i σ H2 hi ⟨⟨y2, y3, rfl⟩, kt, ha1, cs1, xs, M2, gL, TT⟩
      have hi' : i < ds.length := by omega
      obtain ⟨cv, gc⟩ : ∃ v, cs1[i]? = some v := ⟨_, List.getElem?_eq_getElem (by rw [M2.lc]; exact hi')⟩
      have hcv := M2.cv i cv gc
      simp only [Nat.lt_irrefl, if_false] at hcv
      have lx : xs.length ≤ i := by rw [TT.length]; exact enL_len _ _ _
      have e0 : (0 : Int) + (i : Int) = (i : Int) := by omega
      show tSeq _ _ _ [some (.ref tb), some (.ref L), some (.int (0 + (i : Int))), y3] H2
      rw [e0]
      refine ⟨_, rfl, tb, _, dxt, _, _, rfl, M2.ob, T.clt, T.nt_current, tbF_c _ _ _ _ _, _, rfl, cl, _, _, cv, rfl, rfl, .of M2.fc, atI_nat gc, ?_⟩
      -- no reading ends
      have stay : enB day cu i = none → (∃ y2 y3, ([some (.ref tb), some (.ref L), some (.int (i : Int)), some cv] : L2.St) = [some (.ref tb), some (.ref L), y2, y3]) ∧ KT tb hl cl H H2 ∧ ∃ ha' cs' xs, LvT T.C T.tC H2 tb dxt p dx td ts hl cl ha' cs' ds ss day coming (fun j => hp j ++ (if prv ds.length j < i + 1 then (enB day cu (prv ds.length j)).toList else [])) (fun j => if j < i + 1 then enC day cu j else cu j) ∧ H2 L = some (.lst xs) ∧ Tups H2 xs (enL day cu (i + 1)) := fun e1 => by
        refine ⟨⟨_, _, rfl⟩, kt, ha1, cs1, xs, M2.ext (fun j _ => ?_) (fun j _ => ?_), gL, by rw [enL_suc, e1]; show Tups H2 xs (_ ++ []); rw [List.append_nil]; exact TT⟩
        · by_cases h1 : prv ds.length j < i
          · rw [if_pos h1, if_pos (by omega)]
          · by_cases h2 : prv ds.length j = i
            · rw [h2, if_pos (by omega), if_neg (by omega), e1]
              rfl
            · rw [if_neg (by omega), if_neg h1]
        · by_cases h1 : j < i
          · rw [if_pos h1, if_pos (by omega)]
          · by_cases h2 : j = i
            · rw [h2, if_pos (by omega), if_neg (by omega)]
              unfold enC
              rw [e1]
              rfl
            · rw [if_neg (by omega), if_neg h1]
      cases ecu : cu i with
      | none =>
        rw [ecu] at hcv
        have hcv : cv = .non := hcv
        subst hcv
        exact ⟨_, rfl, rfl, _, rfl, iteF (iteF (stay (by unfold enB; rw [ecu])))⟩
      | some be =>
        obtain ⟨b, e⟩ := be
        rw [ecu] at hcv
        obtain ⟨tc, rfl, htc⟩ := hcv
        refine ⟨_, rfl, rfl, _, rfl, iteT ?_⟩
        refine ⟨_, rfl, tc, _, 1, _, rfl, rfl, .of htc, atI_nat (j := 1) rfl, _, rfl, tb, _, dxt, _, _, rfl, M2.ob, T.clt, T.nt_day, tbF_d _ _ _ _ _, rfl, _, rfl, ?_⟩
        by_cases ed : e = day
        · subst ed
          rw [decide_eq_true rfl]
          have eb : enB e cu i = some b := by unfold enB; rw [ecu]; exact if_pos rfl
          refine iteT ?_
          refine ⟨.ref L, rfl, .inl ⟨rfl, _, SqL.of gL⟩, _, rfl, tb, _, dxt, _, _, rfl, M2.ob, T.clt, T.nt_day, tbF_d _ _ _ _ _, _, rfl, _, rfl, tc, _, 0, _, rfl, rfl, .of htc, atI_nat (j := 0) rfl, (by show 3 ≤ sizeLine; decide), fun t1 ht1 => ?_⟩
          have s3 := same_upd (o := .tup [.int e, .int (i : Int), .int b]) ht1
          have g3 : (upd H2 t1 (.tup [.int e, .int (i : Int), .int b])) t1 = some (.tup [.int e, .int (i : Int), .int b]) := upd_same
          have M3 := M2.same s3
          have gL3 := s3 _ _ gL
          have htc3 := s3 _ _ htc
          have k3 := kt.trans (Same.kt s3)
          have T3 : Tups (upd H2 t1 (.tup [.int e, .int (i : Int), .int b])) xs (enL e cu i) := TT.mono fun _ _ h => s3 _ _ h
          generalize (upd H2 t1 (.tup [.int e, .int (i : Int), .int b])) = H3 at g3 M3 gL3 htc3 k3 T3 ⊢
          refine ⟨L, _, _, rfl, rfl, gL3, small1000 (by omega), ?_⟩
          have M4 := M3.oth (l' := xs ++ [V.ref t1]) gL3 nh nc
          have gL4 : (upd H3 L (.lst (xs ++ [V.ref t1]))) L = some (.lst (xs ++ [V.ref t1])) := upd_same
          have tk4 : ∀ c ys, H3 c = some (.tup ys) → (upd H3 L (.lst (xs ++ [V.ref t1]))) c = some (.tup ys) := fun c ys h => (upd_ne (ne_of h gL3 (by intro z; cases z))).trans h
          have T4 : Tups (upd H3 L (.lst (xs ++ [V.ref t1]))) (xs ++ [V.ref t1]) (enL e cu (i + 1)) := by
            rw [enL_suc, eb]
            exact Tups.snoc (l := [e, (i : Int), b]) ⟨t1, rfl, tk4 _ _ g3⟩ (T3.mono tk4)
          have htc4 := tk4 _ _ htc3
          have k4 : KT tb hl cl H (upd H3 L (.lst (xs ++ [V.ref t1]))) := fun x o h n1 n2 n3 => (upd_ne (ne_of_none h hL)).trans (k3 x o h n1 n2 n3)
          generalize (upd H3 L (.lst (xs ++ [V.ref t1]))) = H4 at M4 gL4 T4 htc4 k4 ⊢
          refine ⟨_, rfl, tb, _, dxt, _, _, rfl, M4.ob, T.clt, T.nt_current, tbF_c _ _ _ _ _, _, rfl, cl, _, _, i, rfl, rfl, M4.fc, ixN_natT (by rw [M4.lc]; exact hi'), ?_⟩
          have M5 := M4.putC (k := i) (v := .non) (o := none) rfl
          have tk5 : ∀ c ys, H4 c = some (.tup ys) → (upd H4 cl (.lst (cs1.set i .non))) c = some (.tup ys) := fun c ys h => (upd_ne (ne_of h M4.fc (by intro z; cases z))).trans h
          have gL5 : (upd H4 cl (.lst (cs1.set i .non))) L = some (.lst (xs ++ [V.ref t1])) := (upd_ne nc).trans gL4
          have T5 := T4.mono tk5
          have htc5 := tk5 _ _ htc4
          have k5 : KT tb hl cl H (upd H4 cl (.lst (cs1.set i .non))) := fun x o h n1 n2 n3 => (upd_ne n3).trans (k4 x o h n1 n2 n3)
          generalize (upd H4 cl (.lst (cs1.set i .non))) = H5 at M5 gL5 T5 htc5 k5 ⊢
          have xN := nx_lt hi'
          refine ⟨_, rfl, _, rfl, tb, _, dxt, _, _, rfl, M5.ob, T.clt, T.nt_ring, tbF_r _ _ _ _ _, _, rfl, p, dx, td, ts, ds, ss, (i : Int), rfl, M5.R, _, rfl, tc, _, 0, _, rfl, rfl, .of htc5, atI_nat (j := 0) rfl, tb, dxt, p, dx, td, ts, hl, cl, ha1, _, ds, ss, e, coming, _, _, Rp.nx ds.length i, b, by rw [nx_mod hi']; rfl, M5, xN, ?_, fun H6 ha6 k6 M6 => ?_⟩
          · rw [prv_nx hi', if_neg (Nat.lt_irrefl _), List.append_nil]
            exact h9 _ xN
          · refine ⟨⟨_, _, rfl⟩, k5.trans k6, ha6, _, _, M6.ext (fun j hj => ?_) (fun j _ => ?_), k6 _ _ gL5 nt nh nc, T5.mono (tups_kt k6 M5.ob M5.fh M5.fc)⟩
            · by_cases h1 : j = Rp.nx ds.length i
              · rw [if_pos h1, h1, prv_nx hi', if_pos (Nat.lt_succ_self _), if_neg (Nat.lt_irrefl _), List.append_nil, eb]
                rfl
              · rw [if_neg h1]
                have h2 : prv ds.length j ≠ i := fun z => h1 (prv_inj hj hi' z)
                by_cases h3 : prv ds.length j < i
                · rw [if_pos h3, if_pos (by omega)]
                · rw [if_neg h3, if_neg (by omega)]
            · by_cases h1 : j = i
              · rw [if_pos h1, h1, if_pos (Nat.lt_succ_self _)]
                unfold enC
                rw [eb]
                rfl
              · rw [if_neg h1]
                by_cases h2 : j < i
                · rw [if_pos h2, if_pos (by omega)]
                · rw [if_neg h2, if_neg (by omega)]
        · rw [decide_eq_false (fun z => ed (V.int.inj z))]
          exact iteF (stay (by unfold enB; rw [ecu]; exact if_neg ed))
    · rintro σ H2 ⟨⟨y2, y3, rfl⟩, kt, ha1, cs1, xs, M2, gL, TT⟩
      rw [show ((ds.length : Nat) : Int).toNat = ds.length by omega] at M2 TT
      exact ⟨_, rfl, q H2 ha1 cs1 L xs kt (M2.ext (fun j hj => by unfold enH; rw [if_pos (prv_lt hj)]) (fun j hj => (if_pos hj).symm)) hL gL TT⟩
end
end Rp
/-! Tables of live rings: let_pass. -/
namespace Rp
open PySem PySem.Spec PyProof.Rows L2 Rz Rm
/-- a table's day, heaps and readings -/
structure TSt where
  day : Int
  hp : Nat → List Int
  cu : Nat → Option (Int × Int)
/-- the next day -/
def dyS (ds : List Int) (s : TSt) : TSt := ⟨s.day + 1, bgH (enH ds.length (s.day + 1) s.hp s.cu) (enC (s.day + 1) s.cu), bgC ds (s.day + 1) (enH ds.length (s.day + 1) s.hp s.cu) (enC (s.day + 1) s.cu)⟩
def dyN (ds : List Int) (s : TSt) : Nat → TSt
  | 0 => s
  | n + 1 => dyS ds (dyN ds s n)
/-- what ends on these days -/
def dyL (ds : List Int) (s : TSt) : Nat → List (List Int)
  | 0 => []
  | n + 1 => dyL ds s n ++ enL ((dyN ds s n).day + 1) (dyN ds s n).cu ds.length
theorem enH_len (N : Nat) (day : Int) (hp : Nat → List Int) (cu : Nat → Option (Int × Int)) (j : Nat) : (enH N day hp cu j).length ≤ (hp j).length + 1 := by
  unfold enH
  rw [List.length_append]
  cases enB day cu (prv N j) <;> simp
theorem bgH_len (hp : Nat → List Int) (cu : Nat → Option (Int × Int)) (j : Nat) : (bgH hp cu j).length ≤ (hp j).length := by
  unfold bgH
  split
  · rename_i h
    rw [h, List.length_cons]
    omega
  · exact Nat.le_refl _
theorem dyN_len (ds : List Int) (s : TSt) (j : Nat) : ∀ n, ((dyN ds s n).hp j).length ≤ (s.hp j).length + n
  | 0 => Nat.le_refl _
  | n + 1 => by
    have h1 := dyN_len ds s j n
    have h2 := enH_len ds.length ((dyN ds s n).day + 1) (dyN ds s n).hp (dyN ds s n).cu j
    have h3 := bgH_len (enH ds.length ((dyN ds s n).day + 1) (dyN ds s n).hp (dyN ds s n).cu) (enC ((dyN ds s n).day + 1) (dyN ds s n).cu) j
    show (bgH _ _ j).length ≤ _
    omega
theorem dyL_len (ds : List Int) (s : TSt) : ∀ n, (dyL ds s n).length ≤ n * ds.length
  | 0 => Nat.zero_le _
  | n + 1 => by
    have h1 := dyL_len ds s n
    have h2 := enL_len ((dyN ds s n).day + 1) (dyN ds s n).cu ds.length
    show (dyL ds s n ++ _).length ≤ _
    rw [List.length_append, Nat.succ_mul]
    omega
theorem tups_cat {H : Hp} : ∀ {xs ys : List V} {ls ms : List (List Int)}, Tups H xs ls → Tups H ys ms → Tups H (xs ++ ys) (ls ++ ms)
  | _, _, _, _, .nil, t => t
  | _, _, _, _, .cons r t, u => .cons r (tups_cat t u)
section
variable {C tC : Addr} {H H' : Hp} {tb dxt p dx td ts hl cl : Addr} {ha : List Addr} {cs : List V} {ds ss : List Int} {day coming : Int} {hp : Nat → List Int} {cu : Nat → Option (Int × Int)}
/-- the day is put anew -/
theorem LvT.putD (b : LvT C tC H tb dxt p dx td ts hl cl ha cs ds ss day coming hp cu) (d : Int) : LvT C tC (upd H tb (.ins tC dxt (tbF p d hl cl coming))) tb dxt p dx td ts hl cl ha cs ds ss d coming hp cu := by
  have kx : ∀ {x o}, H x = some o → (∀ fs, o ≠ .ins tC dxt fs) → (upd H tb (.ins tC dxt (tbF p d hl cl coming))) x = some o := fun {x o} e n => (upd_ne fun z => by
    rw [z, b.ob] at e
    exact n _ (Option.some.inj e).symm).trans e
  have np : p ≠ tb := fun z => by
    have h1 := b.R.ob
    rw [z, b.ob] at h1
    have h2 := Option.some.inj h1
    injection h2 with _ _ h3
    have h5 := flds_days td ts
    rw [← h3, show (tbF p day hl cl coming).lookup ("_days" : Str) = none from rfl] at h5
    cases h5
  exact ⟨upd_same, ⟨(upd_ne np).trans b.R.ob, kx b.R.td (fun _ z => by cases z), kx b.R.ts (fun _ z => by cases z), b.R.ok⟩, kx b.fh (fun _ z => by cases z), b.lh, fun j a e => kx (b.hv j a e) (fun _ z => by cases z), kx b.fc (fun _ z => by cases z), b.lc, fun j v e => (b.cv j v e).tups fun _ _ e => kx e (fun _ z => by cases z), b.ne, b.sm⟩
end
section
variable {P : Program} {w : World} {K : PySem.W.Frag} {mg : Str → Option Value} {base : Heap}
def spLet (C tC : Addr) : Sp := fun vs H Q _ => ∃ (tb dxt p dx td ts hl cl : Addr) (ha : List Addr) (cs : List V) (ds ss : List Int) (coming : Int) (s : TSt) (n : Nat), vs = [.ref tb, .int (n : Int)] ∧
  LvT C tC H tb dxt p dx td ts hl cl ha cs ds ss s.day coming s.hp s.cu ∧ (∀ j, j < ds.length → (s.hp j).length ≤ 400) ∧ n ≤ 400 ∧
  ∀ H' ha' cs' L xs, KT tb hl cl H H' → LvT C tC H' tb dxt p dx td ts hl cl ha' cs' ds ss (dyN ds s n).day coming (dyN ds s n).hp (dyN ds s n).cu → H L = none → H' L = some (.lst xs) → Tups H' xs (dyL ds s n) → Q (.ref L) H'
theorem ok_let (T : Tx K mg) : FnOk P w K mg base CX0 5 T.a_let_pass T.d_let_pass P_let_pass (spLet T.C T.tC) := by
  refine T.F_let_pass.ok sc_let_pass (fun vs H Q E h => ?_) (fun cdv A outer s0 H vs Q E hr h => ?_)
  · obtain ⟨tb, dxt, p, dx, td, ts, hl, cl, ha, cs, ds, ss, coming, s, n, rfl, _⟩ := h
    rfl
  · obtain ⟨tb, dxt, p, dx, td, ts, hl, cl, ha, cs, ds, ss, coming, s, n, rfl, M, h4, hn, q⟩ := h
    have nd := sc_let_pass.nd
    obtain ⟨u1, c1⟩ := T.c_MOST_PASSED
    refine ⟨_, pss_cons (ps_expr (pe_call (ok_chk T) (hr.mono (by decide : 3 ≤ 4)) (by rfl) T.g_check_number T.F_check_number.kp T.b_check_number .nil pass0 (pa_cons (pv 1) (pa_cons pe_int (pa_cons (pe_glob (v := .int 400) (by rfl) c1 ⟨_, rfl⟩) pa_nil)))))
      (pss_cons (ps_set (i := 2) nd rfl (.inl rfl) (pe_lst pa_nil))
      (pss_cons (ps_for PassesOwn.never rfl (pi_range1 (by rfl) T.z_range (pa_cons (pv 1) pa_nil)) (pg_name (i := 3) nd rfl (.inl rfl))
        (pss_cons (ps_fldaug (pv 0) pe_int (fun pins s σ H x y u v Q => ip_add pins s σ H x y u v Q))
        (pss_cons (ps_expr (pe_bm PySem.F.plainAttrs_list PySem.F.slot_list_extend PySem.F.type_list_extend mt_extend (pv 2) (pa_cons (pe_call (ok_endT T) hr (by rfl) T.g_end_readings T.F_end_readings.kp T.b_end_readings .nil pass0 (pa_cons (pv 0) pa_nil)) pa_nil)))
        (pss_one (ps_expr (pe_call (ok_begT T) (hr.mono (by decide : 3 ≤ 4)) (by rfl) T.g_begin_readings T.F_begin_readings.kp T.b_begin_readings .nil pass0 (pa_cons (pv 0) pa_nil)))))))
      (pss_one (ps_ret (pv 2))))), ?_⟩
    have l8 := M.R.ok.l8
    refine ⟨_, rfl, (n : Int), 0, 400, rfl, by omega, by omega, ?_⟩
    refine ⟨Nat.zero_le _, fun L hL => ?_⟩
    have s1 := same_upd (o := .lst []) hL
    have g0 : (upd H L (.lst [])) L = some (.lst []) := upd_same
    have M0 := M.same s1
    have nh : L ≠ hl := (ne_of_none M.fh hL).symm
    have nc : L ≠ cl := (ne_of_none M.fc hL).symm
    have nt : L ≠ tb := (ne_of_none M.ob hL).symm
    have k0 : KT tb hl cl H (upd H L (.lst [])) := Same.kt s1
    show tSeq _ _ _ [some (.ref tb), some (.int (n : Int)), some (.ref L), none] (upd H L (.lst []))
    generalize (upd H L (.lst [])) = H1 at g0 M0 k0 ⊢
    refine ⟨_, rfl, _, rfl, by omega, by omega, ?_⟩
    refine for_range (lo := 0) (n := ((n : Nat) : Int).toNat) (fun i σ H' => (∃ y3, σ = [some (.ref tb), some (.int (n : Int)), some (.ref L), y3]) ∧ KT tb hl cl H H' ∧ ∃ ha' cs' xs, LvT T.C T.tC H' tb dxt p dx td ts hl cl ha' cs' ds ss (dyN ds s i).day coming (dyN ds s i).hp (dyN ds s i).cu ∧ H' L = some (.lst xs) ∧ Tups H' xs (dyL ds s i))
      ⟨⟨_, rfl⟩, k0, ha, cs, [], M0, g0, .nil⟩ ?_ ?_
    · rintro i σ H2 hi ⟨⟨y3, rfl⟩, kt, ha1, cs1, xs, M2, gL, TT⟩
      have hi' : i < 400 := by omega
      show tSeq _ _ _ [some (.ref tb), some (.int (n : Int)), some (.ref L), some (.int (0 + (i : Int)))] H2
      refine ⟨_, rfl, tb, T.tC, dxt, _, _, rfl, M2.ob, T.clt, T.nt_day, tbF_d _ _ _ _ _, _, _, rfl, rfl, dxt, _, M2.ob, (by show 5 < 1000; decide), ?_⟩
      rw [tbF_pd]
      have M3 := M2.putD ((dyN ds s i).day + 1)
      have tk3 : ∀ c ys, H2 c = some (.tup ys) → (upd H2 tb (.ins T.tC dxt (tbF p ((dyN ds s i).day + 1) hl cl coming))) c = some (.tup ys) := fun c ys h => (upd_ne (ne_of h M2.ob (by intro z; cases z))).trans h
      have gL3 : (upd H2 tb (.ins T.tC dxt (tbF p ((dyN ds s i).day + 1) hl cl coming))) L = some (.lst xs) := (upd_ne nt).trans gL
      have T3 := TT.mono tk3
      have k3 : KT tb hl cl H (upd H2 tb (.ins T.tC dxt (tbF p ((dyN ds s i).day + 1) hl cl coming))) := fun x o h n1 n2 n3 => (upd_ne n1).trans (kt x o h n1 n2 n3)
      generalize (upd H2 tb (.ins T.tC dxt (tbF p ((dyN ds s i).day + 1) hl cl coming))) = H3 at M3 gL3 T3 k3 ⊢
      refine ⟨_, rfl, .inl ⟨rfl, _, SqL.of gL3⟩, _, rfl, tb, dxt, p, dx, td, ts, hl, cl, ha1, cs1, ds, ss, _, coming, _, _, rfl, M3, fun j hj => ?_, fun H4 ha4 cs4 L2 ys k4 M4 hL2 gL2 T4 => ?_⟩
      · have h1 := dyN_len ds s j i
        have h2 := h4 j hj
        omega
      have gL4 := k4 _ _ gL3 nt nh nc
      have T34 := T3.mono (tups_kt k4 M3.ob M3.fh M3.fc)
      have lx : xs.length ≤ i * ds.length := by rw [TT.length]; exact dyL_len ds s i
      have ly : ys.length ≤ ds.length := by rw [T4.length]; exact enL_len _ _ _
      have lm : i * ds.length ≤ 400 * 8 := Nat.mul_le_mul (by omega) l8
      refine ⟨L, L2, xs, ys, rfl, rfl, gL4, gL2, by rw [sizeLine_eq]; omega, ?_⟩
      have M5 := M4.oth (l' := xs ++ ys) gL4 nh nc
      have tk5 : ∀ c zs, H4 c = some (.tup zs) → (upd H4 L (.lst (xs ++ ys))) c = some (.tup zs) := fun c zs h => (upd_ne (ne_of h gL4 (by intro z; cases z))).trans h
      have g5 : (upd H4 L (.lst (xs ++ ys))) L = some (.lst (xs ++ ys)) := upd_same
      have T5 := (tups_cat T34 T4).mono tk5
      have k5 : KT tb hl cl H (upd H4 L (.lst (xs ++ ys))) := fun x o h n1 n2 n3 => (upd_ne (ne_of_none h hL)).trans (k4 _ _ (k3 x o h n1 n2 n3) n1 n2 n3)
      generalize (upd H4 L (.lst (xs ++ ys))) = H5 at M5 g5 T5 k5 ⊢
      refine ⟨_, rfl, tb, dxt, p, dx, td, ts, hl, cl, ha4, cs4, ds, ss, _, coming, _, _, rfl, M5, fun H6 ha6 cs6 k6 M6 => ?_⟩
      exact ⟨⟨_, rfl⟩, k5.trans k6, ha6, cs6, xs ++ ys, M6, k6 _ _ g5 nt nh nc, T5.mono (tups_kt k6 M5.ob M5.fh M5.fc)⟩
    · rintro σ H2 ⟨⟨y3, rfl⟩, kt, ha1, cs1, xs, M2, gL, TT⟩
      rw [show ((n : Nat) : Int).toNat = n by omega] at M2 TT
      exact ⟨_, rfl, q H2 ha1 cs1 L xs kt M2 hL gL TT⟩
end
end Rp
/-! Tables of live rings: made, copied. -/
namespace Rp
open PySem PySem.Spec PyProof.Rows L2 Rz Rm
/-- what a table is made of -/
structure LvI (C : Addr) (H : Hp) (p dx td ts h0 c0 : Addr) (ha : List Addr) (cs : List V) (ds ss : List Int) (hp : Nat → List Int) (cu : Nat → Option (Int × Int)) : Prop where
  R : RingAt C H p dx td ts ds ss
  fh : H h0 = some (.lst (ha.map V.ref))
  lh : ha.length = ds.length
  hv : ∀ (j : Nat) (a : Addr), ha[j]? = some a → H a = some (.tup ((hp j).map V.int))
  fc : H c0 = some (.lst cs)
  lc : cs.length = ds.length
  cv : ∀ (j : Nat) (v : V), cs[j]? = some v → CuV H v (cu j)
  sm : ∀ j, j < ds.length → (hp j).length ≤ 900
theorem LvI.same {C : Addr} {H H' : Hp} {p dx td ts h0 c0 : Addr} {ha : List Addr} {cs : List V} {ds ss : List Int} {hp : Nat → List Int} {cu : Nat → Option (Int × Int)} (b : LvI C H p dx td ts h0 c0 ha cs ds ss hp cu) (s : Same H H') : LvI C H' p dx td ts h0 c0 ha cs ds ss hp cu :=
  ⟨b.R.same s, s _ _ b.fh, b.lh, fun j a h => s _ _ (b.hv j a h), s _ _ b.fc, b.lc, fun j v h => (b.cv j v h).tups fun _ _ e => s _ _ e, b.sm⟩
theorem LvT.inp {C tC : Addr} {H : Hp} {tb dxt p dx td ts hl cl : Addr} {ha : List Addr} {cs : List V} {ds ss : List Int} {day coming : Int} {hp : Nat → List Int} {cu : Nat → Option (Int × Int)} (b : LvT C tC H tb dxt p dx td ts hl cl ha cs ds ss day coming hp cu) : LvI C H p dx td ts hl cl ha cs ds ss hp cu := ⟨b.R, b.fh, b.lh, b.hv, b.fc, b.lc, b.cv, b.sm⟩
section
variable {P : Program} {w : World} {K : PySem.W.Frag} {mg : Str → Option Value} {base : Heap}
def spTi (C tC : Addr) : Sp := fun vs H Q _ => ∃ (tb dxt p dx td ts h0 c0 : Addr) (ha : List Addr) (cs : List V) (ds ss : List Int) (day coming : Int) (hp : Nat → List Int) (cu : Nat → Option (Int × Int)), vs = [.ref tb, .ref p, .int day, .ref h0, .ref c0, .int coming] ∧
  H tb = some (.ins tC dxt []) ∧ LvI C H p dx td ts h0 c0 ha cs ds ss hp cu ∧
  ∀ H' hl cl, (∀ b o, H b = some o → b ≠ tb → H' b = some o) → H hl = none → H cl = none → LvT C tC H' tb dxt p dx td ts hl cl ha cs ds ss day coming hp cu → Q .non H'
theorem ok_ti (T : Tx K mg) : FnOk P w K mg base CX0 1 T.a_tinit T.d_tinit P_tinit (spTi T.C T.tC) := by
  refine T.F_tinit.ok sc_tinit (fun vs H Q E h => ?_) (fun cdv A outer s0 H vs Q E hr h => ?_)
  · obtain ⟨tb, dxt, p, dx, td, ts, h0, c0, ha, cs, ds, ss, day, coming, hp, cu, rfl, _⟩ := h
    rfl
  · obtain ⟨tb, dxt, p, dx, td, ts, h0, c0, ha, cs, ds, ss, day, coming, hp, cu, rfl, ht, I, q⟩ := h
    refine ⟨_, pss_cons (ps_fld (pv 0) (pv 1) rfl) (pss_cons (ps_fld (pv 0) (pv 2) rfl)
      (pss_cons (ps_fld (pv 0) (pe_callTy (T := "list") call_list_of (by rfl) T.z_list (by decide +kernel) (pa_cons (pv 3) pa_nil)) rfl)
      (pss_cons (ps_fld (pv 0) (pe_callTy (T := "list") call_list_of (by rfl) T.z_list (by decide +kernel) (pa_cons (pv 4) pa_nil)) rfl)
      (pss_one (ps_fld (pv 0) (pv 5) rfl))))), ?_⟩
    have hne : ∀ {x o}, H x = some o → (∀ fs, o ≠ .ins T.tC dxt fs) → x ≠ tb := fun e n z => by
      rw [z, ht] at e
      exact n _ (Option.some.inj e).symm
    have nh0 := hne I.fh (fun _ z => by cases z)
    have nc0 := hne I.fc (fun _ z => by cases z)
    refine ⟨_, rfl, _, rfl, tb, T.tC, dxt, _, rfl, ht, T.clt, T.nt_ring, (by show 0 < 1000; decide), ?_⟩
    refine ⟨_, rfl, _, rfl, tb, T.tC, dxt, _, rfl, upd_same, T.clt, T.nt_day, (by show 1 < 1000; decide), ?_⟩
    rw [upd_upd]
    have k1 : ∀ x, x ≠ tb → (upd H tb (.ins T.tC dxt (putF "day" (.int day) (putF "ring" (.ref p) [])))) x = H x := fun x n => upd_ne n
    have t1 : (upd H tb (.ins T.tC dxt (putF "day" (.int day) (putF "ring" (.ref p) [])))) tb = some (.ins T.tC dxt [("ring", .ref p), ("day", .int day)]) := upd_same
    generalize (upd H tb (.ins T.tC dxt (putF "day" (.int day) (putF "ring" (.ref p) [])))) = H1 at k1 t1 ⊢
    refine ⟨_, rfl, h0, _, rfl, .inl (.of ((k1 _ nh0).trans I.fh)), fun hl hhl => ?_⟩
    have nlt : hl ≠ tb := fun z => by
      rw [z, t1] at hhl
      cases hhl
    have hl0 : H hl = none := (k1 _ nlt).symm.trans hhl
    refine ⟨_, rfl, tb, T.tC, dxt, [("ring", .ref p), ("day", .int day)], rfl, (upd_ne nlt.symm).trans t1, T.clt, T.nt_heaps, (by show 2 < 1000; decide), ?_⟩
    have k2 : ∀ x, x ≠ tb → x ≠ hl → (upd (upd H1 hl (.lst (ha.map V.ref))) tb (.ins T.tC dxt (putF "heaps" (.ref hl) [("ring", .ref p), ("day", .int day)]))) x = H x := fun x n1 n2 => (upd_ne n1).trans ((upd_ne n2).trans (k1 x n1))
    have t2 : (upd (upd H1 hl (.lst (ha.map V.ref))) tb (.ins T.tC dxt (putF "heaps" (.ref hl) [("ring", .ref p), ("day", .int day)]))) tb = some (.ins T.tC dxt [("ring", .ref p), ("day", .int day), ("heaps", .ref hl)]) := upd_same
    have g2 : (upd (upd H1 hl (.lst (ha.map V.ref))) tb (.ins T.tC dxt (putF "heaps" (.ref hl) [("ring", .ref p), ("day", .int day)]))) hl = some (.lst (ha.map V.ref)) := (upd_ne nlt).trans upd_same
    generalize (upd (upd H1 hl (.lst (ha.map V.ref))) tb (.ins T.tC dxt (putF "heaps" (.ref hl) [("ring", .ref p), ("day", .int day)]))) = H2 at k2 t2 g2 ⊢
    have nchl : c0 ≠ hl := ne_of_none I.fc hl0
    refine ⟨_, rfl, c0, _, rfl, .inl (.of ((k2 _ nc0 nchl).trans I.fc)), fun cl hcl => ?_⟩
    have nct : cl ≠ tb := fun z => by
      rw [z, t2] at hcl
      cases hcl
    have nch : hl ≠ cl := ne_of_none g2 hcl
    have cl0 : H cl = none := (k2 _ nct nch.symm).symm.trans hcl
    refine ⟨_, rfl, tb, T.tC, dxt, [("ring", .ref p), ("day", .int day), ("heaps", .ref hl)], rfl, (upd_ne nct.symm).trans t2, T.clt, T.nt_current, (by show 3 < 1000; decide), ?_⟩
    refine ⟨_, rfl, _, rfl, tb, T.tC, dxt, putF "current" (.ref cl) [("ring", .ref p), ("day", .int day), ("heaps", .ref hl)], rfl, upd_same, T.clt, T.nt_coming, (by show 4 < 1000; decide), ?_⟩
    rw [upd_upd]
    have k3 : ∀ x, x ≠ tb → x ≠ hl → x ≠ cl → (upd (upd H2 cl (.lst cs)) tb (.ins T.tC dxt (putF "coming" (.int coming) (putF "current" (.ref cl) [("ring", .ref p), ("day", .int day), ("heaps", .ref hl)])))) x = H x := fun x n1 n2 n3 => (upd_ne n1).trans ((upd_ne n3).trans (k2 x n1 n2))
    have kk : ∀ x o, H x = some o → x ≠ tb → (upd (upd H2 cl (.lst cs)) tb (.ins T.tC dxt (putF "coming" (.int coming) (putF "current" (.ref cl) [("ring", .ref p), ("day", .int day), ("heaps", .ref hl)])))) x = some o := fun x o e n => (k3 x n (ne_of_none e hl0) (ne_of_none e cl0)).trans e
    have np : p ≠ tb := fun z => by
      have h1 := I.R.ob
      rw [z, ht] at h1
      have h2 := Option.some.inj h1
      injection h2 with _ _ h3
      have h5 := flds_days td ts
      rw [← h3] at h5
      cases h5
    exact q _ hl cl kk hl0 cl0 ⟨upd_same, ⟨kk _ _ I.R.ob np, kk _ _ I.R.td (hne I.R.td fun _ z => by cases z), kk _ _ I.R.ts (hne I.R.ts fun _ z => by cases z), I.R.ok⟩, (upd_ne nlt).trans ((upd_ne nch).trans g2), I.lh, fun j a h => kk _ _ (I.hv j a h) (hne (I.hv j a h) fun _ z => by cases z), (upd_ne nct).trans upd_same, I.lc,
      fun j v h => (I.cv j v h).tups fun c ys e => kk _ _ e (hne e fun _ z => by cases z), nch, I.sm⟩
def spCp (C tC : Addr) : Sp := fun vs H Q _ => ∃ (tb dxt p dx td ts hl cl : Addr) (ha : List Addr) (cs : List V) (ds ss : List Int) (day coming : Int) (hp : Nat → List Int) (cu : Nat → Option (Int × Int)), vs = [.ref tb] ∧ LvT C tC H tb dxt p dx td ts hl cl ha cs ds ss day coming hp cu ∧
  ∀ H' t2 dxt2 hl2 cl2, Same H H' → H t2 = none → H hl2 = none → H cl2 = none → LvT C tC H' t2 dxt2 p dx td ts hl2 cl2 ha cs ds ss day coming hp cu → Q (.ref t2) H'
theorem ok_cp (T : Tx K mg) : FnOk P w K mg base CX0 3 T.a_copied_table T.d_copied_table P_copied_table (spCp T.C T.tC) := by
  refine T.F_copied_table.ok sc_copied_table (fun vs H Q E h => ?_) (fun cdv A outer s0 H vs Q E hr h => ?_)
  · obtain ⟨tb, dxt, p, dx, td, ts, hl, cl, ha, cs, ds, ss, day, coming, hp, cu, rfl, _⟩ := h
    rfl
  · obtain ⟨tb, dxt, p, dx, td, ts, hl, cl, ha, cs, ds, ss, day, coming, hp, cu, rfl, M, q⟩ := h
    refine ⟨_, pss_one (ps_ret (pe_make T.mkt (ok_ti T) hr (by rfl) T.gtC T.b_tinit .nil pass0 (pa_cons (pe_fld (pv 0) rfl) (pa_cons (pe_fld (pv 0) rfl) (pa_cons (pe_fld (pv 0) rfl) (pa_cons (pe_fld (pv 0) rfl) (pa_cons (pe_fld (pv 0) rfl) pa_nil))))))), ?_⟩
    refine ⟨_, rfl, tb, _, dxt, _, _, rfl, M.ob, T.clt, T.nt_ring, tbF_r _ _ _ _ _, _, rfl, tb, _, dxt, _, _, rfl, M.ob, T.clt, T.nt_day, tbF_d _ _ _ _ _, _, rfl, tb, _, dxt, _, _, rfl, M.ob, T.clt, T.nt_heaps, tbF_h _ _ _ _ _, _, rfl, tb, _, dxt, _, _, rfl, M.ob, T.clt, T.nt_current, tbF_c _ _ _ _ _, _, rfl, tb, _, dxt, _, _, rfl, M.ob, T.clt, T.nt_coming, tbF_n _ _ _ _ _, fun t2 d2 nt2 nd2 ne2 => ?_⟩
    have s1 : Same H (upd (upd H d2 (.own t2)) t2 (.ins T.tC d2 [])) := fun b o e => by
      rw [upd_ne (ne_of_none e nt2), upd_ne (ne_of_none e nd2)]
      exact e
    refine ⟨t2, d2, p, dx, td, ts, hl, cl, ha, cs, ds, ss, day, coming, hp, cu, rfl, upd_same, M.inp.same s1, fun H2 hl2 cl2 k2 e1 e2 M2 => ⟨rfl, ?_⟩⟩
    exact q H2 t2 d2 hl2 cl2 (fun b o e => k2 b o (s1 b o e) (ne_of_none e nt2)) nt2 (same_noneT s1 e1) (same_noneT s1 e2) M2
end
end Rp
/-! Tables of live rings: the first one. -/
namespace Rp
open PySem PySem.Spec PyProof.Rows L2 Rz Rm
/-- the books at first -/
def h0F (ss : List Int) (j : Nat) : List Int := (List.range (at' ss j).toNat).map fun (i : Nat) => (ss.take j).sum + (i : Int)
theorem h0_rg {ss : List Int} {j : Nat} {b z : Int} (hb : (ss.take j).sum = b) (hz : at' ss j = z) : rgV b (b + z) = (h0F ss j).map V.int := by
  unfold rgV h0F
  rw [List.map_map, hb, hz, show (b + z - b).toNat = z.toNat by omega]
  rfl
section
variable {P : Program} {w : World} {K : PySem.W.Frag} {mg : Str → Option Value} {base : Heap}
def spFt (C tC : Addr) : Sp := fun vs H Q _ => ∃ (p dx td ts : Addr) (ds ss : List Int), vs = [.ref p] ∧ RingAt C H p dx td ts ds ss ∧
  ∀ H' tb dxt hl cl ha cs, Same H H' → H tb = none → H hl = none → H cl = none → LvT C tC H' tb dxt p dx td ts hl cl ha cs ds ss 0 ss.sum (bgH (h0F ss) (fun _ => none)) (bgC ds 0 (h0F ss) (fun _ => none)) → Q (.ref tb) H'
theorem ok_ft (T : Tx K mg) : FnOk P w K mg base CX0 4 T.a_first_table T.d_first_table P_first_table (spFt T.C T.tC) := by
  refine T.F_first_table.ok sc_first_table (fun vs H Q E h => ?_) (fun cdv A outer s0 H vs Q E hr h => ?_)
  · obtain ⟨p, dx, td, ts, ds, ss, rfl, _⟩ := h
    rfl
  · obtain ⟨p, dx, td, ts, ds, ss, rfl, R, q⟩ := h
    have nd := sc_first_table.nd
    have hr2 := hr.mono (by decide : 2 ≤ 3)
    refine ⟨_, pss_cons (ps_set (i := 1) nd rfl (.inl rfl) (pe_lst pa_nil)) (pss_cons (ps_set (i := 2) nd rfl (.inl rfl) pe_int)
      (pss_cons (ps_for PassesOwn.never rfl (pi_tup (pe_prop (pv 0) T.cl T.q_rstarts (ok_starts T) hr2 T.b_rstarts .nil pass0 rfl)) (pg_name (i := 3) nd rfl (.inl rfl))
        (pss_cons (ps_expr (pe_bm PySem.F.plainAttrs_list PySem.F.slot_list_append PySem.F.type_list_append mt_append (pv 1) (pa_cons (pe_tupRg rfl (by rfl) T.z_tuple (prg_2 (by rfl) T.z_range (pv 2) (pe_op op_add (pv 2) (pv 3)))) pa_nil)))
        (pss_one (ps_aug (i := 2) nd rfl (.inl rfl) (pv 3) ip_add))))
      (pss_cons (ps_set (i := 4) nd rfl (.inl rfl) (pe_make T.mkt (ok_ti T) hr2 (by rfl) T.gtC T.b_tinit .nil pass0 (pa_cons (pv 0) (pa_cons pe_int (pa_cons (pv 1) (pa_cons (pe_op op_rep (pe_lst (pa_cons pe_non pa_nil)) (pe_callB (call_lenI T.lenC T.lenF ((ok_len T).raw T.b_rlen .nil) hr2 pass0) (by rfl) T.z_len PySem.boot_len (pa_cons (pv 0) pa_nil))) (pa_cons (pv 2) pa_nil)))))))
      (pss_cons (ps_expr (pe_call (ok_begT T) hr (by rfl) T.g_begin_readings T.F_begin_readings.kp T.b_begin_readings .nil pass0 (pa_cons (pv 4) pa_nil)))
      (pss_one (ps_ret (pv 4))))))), ?_⟩
    have G := R.ok
    have l2 := G.l2
    have l8 := G.l8
    have ls := G.ls
    have b12 := G.b12
    refine ⟨Nat.zero_le _, fun h0 hh0 => ?_⟩
    have s1 := same_upd (o := .lst []) hh0
    have g1 : (upd H h0 (.lst [])) h0 = some (.lst []) := upd_same
    have R1 := R.same s1
    show tSeq _ _ _ [some (.ref p), some (.ref h0), none, none, none] (upd H h0 (.lst []))
    generalize (upd H h0 (.lst [])) = H1 at s1 g1 R1 ⊢
    refine ⟨_, rfl, p, dx, _, rfl, R1.ob, p, dx, td, ts, ds, ss, rfl, R1, ts, rfl, ⟨_, .of R1.ts⟩, for_tup (K := K) (a := ts) (xs := ss.map V.int) (fun i σ H' => (∃ z3, σ = [some (.ref p), some (.ref h0), some (.int (ss.take i).sum), z3, none]) ∧ Same H H' ∧ ∃ ha : List Addr, H' h0 = some (.lst (ha.map V.ref)) ∧ ha.length = i ∧ ∀ (j : Nat) (a : Addr), ha[j]? = some a → a ≠ h0 ∧ H' a = some (.tup ((h0F ss j).map V.int)))
      ⟨⟨none, rfl⟩, s1, [], g1, rfl, fun j a h => by simp at h⟩ (fun i σ H' _ z => .of (z.2.1 _ _ R.ts)) ?_ ?_⟩
    · rintro i x σ H7 hx ⟨⟨z3, rfl⟩, kp, ha, hha, lha, oha⟩
      obtain ⟨z, hz, rfl⟩ := get_int hx
      have hi : i < ss.length := (List.getElem?_eq_some_iff.mp hz).1
      have ez : at' ss i = z := at_nat hz
      have hz12 := G.s0 z (List.mem_of_getElem? hz)
      have hb := take_le (l := ss) (fun y hy => (G.s0 y hy).1) i
      obtain ⟨b0, hb0⟩ : ∃ b, b = (ss.take i).sum := ⟨_, rfl⟩
      show tSeq _ _ _ [some (.ref p), some (.ref h0), some (.int (ss.take i).sum), some (.int z), none] H7
      rw [← hb0] at hb ⊢
      refine ⟨_, rfl, .inl ⟨rfl, _, SqL.of hha⟩, _, rfl, _, rfl, _, rfl, _, _, rfl, rfl, _, _, rfl, rfl, ⟨by omega, by omega, by omega, by omega, by omega⟩, fun L hL => ?_⟩
      have s8 := same_upd (o := .tup (rgV b0 (b0 + z))) hL
      have eL : rgV b0 (b0 + z) = (h0F ss i).map V.int := h0_rg hb0.symm ez
      have nL : L ≠ h0 := (ne_of_none hha hL).symm
      refine ⟨h0, _, _, rfl, rfl, s8 _ _ hha, by rw [List.length_map]; exact small1000 (by omega), ?_⟩
      refine ⟨_, rfl, _, rfl, _, _, rfl, rfl, ?_⟩
      refine ⟨⟨_, by rw [take_succ hi, ← hb0, ez]; rfl⟩, fun x o h => ?_, ha ++ [L], by rw [upd_same, List.map_append]; rfl, by rw [List.length_append, lha]; rfl, fun j a h => ?_⟩
      · rw [upd_ne (ne_of_none h hh0)]
        exact s8 _ _ (kp _ _ h)
      · rcases get_snoc h with h | ⟨h1, rfl⟩
        · obtain ⟨n1, h1⟩ := oha j a h
          rw [upd_ne n1]
          exact ⟨n1, s8 _ _ h1⟩
        · rw [upd_ne nL, upd_same, h1, lha, eL]
          exact ⟨nL, rfl⟩
    · rintro σ H7 ⟨⟨z3, rfl⟩, kp, ha, hha, lha, oha⟩
      rw [List.length_map] at lha ⊢
      rw [List.take_length]
      have R7 := R.same kp
      refine ⟨_, rfl, _, rfl, (by show 1 ≤ sizeLine; decide), fun l0 hl0 => ?_⟩
      have s4 := same_upd (o := .lst [.non]) hl0
      have g4 : (upd H7 l0 (.lst [.non])) l0 = some (.lst [.non]) := upd_same
      have R8 := R7.same s4
      generalize (upd H7 l0 (.lst [.non])) = H4 at s4 g4 R8 ⊢
      refine ⟨_, rfl, p, dx, _, rfl, R8.ob, p, dx, td, ts, ds, ss, rfl, R8, (ds.length : Int), rfl, by omega, by omega, l0, _, _, rfl, rfl, g4, by omega, by omega, ?_, fun rd hrd => ?_⟩
      · show 1 * _ ≤ sizeLine
        have := small1000 (n := 1 * ((ds.length : Nat) : Int).toNat) (by omega)
        omega
      rw [rep_one, show ((ds.length : Nat) : Int).toNat = ds.length by omega]
      have s5 := same_upd (o := .lst (List.replicate ds.length V.non)) hrd
      have g5 : (upd H4 rd (.lst (List.replicate ds.length V.non))) rd = some (.lst (List.replicate ds.length V.non)) := upd_same
      have R9 := R8.same s5
      have s75 := s4.trans s5
      generalize (upd H4 rd (.lst (List.replicate ds.length V.non))) = H5 at s5 g5 R9 s75 ⊢
      refine ⟨_, rfl, fun t2 d2 nt2 nd2 ne2 => ?_⟩
      have s6 : Same H5 (upd (upd H5 d2 (.own t2)) t2 (.ins T.tC d2 [])) := fun b o e => by
        rw [upd_ne (ne_of_none e nt2), upd_ne (ne_of_none e nd2)]
        exact e
      have I : LvI T.C H5 p dx td ts h0 rd ha (List.replicate ds.length V.non) ds ss (h0F ss) (fun _ => none) :=
        ⟨R9, s75 _ _ hha, by omega, fun j a h => s75 _ _ (oha j a h).2, g5, List.length_replicate, (fun j v h => by
          rw [List.getElem?_replicate] at h
          split at h
          · cases h
            rfl
          · cases h), fun j hj => by
          unfold h0F
          rw [List.length_map, List.length_range]
          have := (G.s0 _ (at_mem (by omega) (j : Int))).2
          omega⟩
      refine ⟨t2, d2, p, dx, td, ts, h0, rd, ha, _, ds, ss, 0, ss.sum, _, _, rfl, upd_same, I.same s6, fun H8 hl cl k8 e1 e2 M8 => ⟨rfl, ?_⟩⟩
      have S8 : Same H H8 := fun b o e => k8 b o (s6 _ _ (s75 _ _ (kp _ _ e))) (ne_of_none (s75 _ _ (kp _ _ e)) nt2)
      have S58 := (kp.trans s75).trans s6
      have t0 : H t2 = none := same_noneT (kp.trans s75) nt2
      refine ⟨_, rfl, t2, d2, p, dx, td, ts, hl, cl, ha, _, ds, ss, 0, ss.sum, _, _, rfl, M8, fun H9 ha9 cs9 k9 M9 => ?_⟩
      have hl0 := same_noneT S58 e1
      have cl0 := same_noneT S58 e2
      exact ⟨_, rfl, q H9 t2 d2 hl cl ha9 cs9 (fun b o e => k9 b o (S8 _ _ e) (ne_of_none e t0) (ne_of_none e hl0) (ne_of_none e cl0)) t0 hl0 cl0 M9⟩
end
end Rp
/-! The law's own ring in a dict, its heaps and readings as functions: _law_begin. -/
namespace Rp
open PySem PySem.Spec PyProof.Rows L2 Rz Rm
abbrev kD : Key := .inr (Str.ofString "days")
abbrev kH : Key := .inr (Str.ofString "heaps")
abbrev kR : Key := .inr (Str.ofString "reading")
abbrev kT : Key := .inr (Str.ofString "today")
abbrev kN : Key := .inr (Str.ofString "next")
theorem kT_D : ¬ kD = kT := by decide +kernel
theorem kT_H : ¬ kH = kT := by decide +kernel
theorem kT_R : ¬ kR = kT := by decide +kernel
theorem kT_N : ¬ kN = kT := by decide +kernel
theorem put_len (kvs : List (Key × V)) (k : Key) (v : V) : (putK kvs k v).length ≤ kvs.length + 1 := by
  unfold putK
  split
  · rw [List.length_map]
    omega
  · rw [List.length_append]
    exact Nat.le_refl _
theorem put_has {kvs : List (Key × V)} {k : Key} {v0 v : V} (h : valV kvs k = some v0) : (putK kvs k v).length = kvs.length := by
  unfold putK
  rw [if_pos (by rw [valV_any, h]; rfl), List.length_map]
theorem get_of {H : Hp} {hd : Addr} {kvs : List (Key × V)} {k : Key} {v : V} {y : V} (h : H hd = some (.dK kvs)) (hv : valV kvs k = some v) (e : y = kV k) : DGet H hd y (some v) := .inl ⟨kvs, k, .inl h, e, hv.symm⟩
/-- the dict ring: its readers' days, heaps and readings -/
structure DcT (H : Hp) (hd ld hl rd : Addr) (ha : List Addr) (cs : List V) (ds : List Int) (day coming : Int) (hp : Nat → List Int) (cu : Nat → Option (Int × Int)) : Prop where
  dic : ∃ kvs, H hd = some (.dK kvs) ∧ kvs.length ≤ 5 ∧ valV kvs kD = some (.ref ld) ∧ valV kvs kH = some (.ref hl) ∧ valV kvs kR = some (.ref rd) ∧ valV kvs kT = some (.int day) ∧ valV kvs kN = some (.int coming)
  old : H ld = some (.lst (ds.map V.int))
  ohl : H hl = some (.lst (ha.map V.ref))
  lh : ha.length = ds.length
  hv : ∀ (j : Nat) (a : Addr), ha[j]? = some a → H a = some (.lst ((hp j).map V.int))
  ord : H rd = some (.lst cs)
  lc : cs.length = ds.length
  cv : ∀ (j : Nat) (v : V), cs[j]? = some v → CuV H v (cu j)
  n1 : ld ≠ hl
  n2 : ld ≠ rd
  n3 : hl ≠ rd
  nh : ∀ a ∈ ha, a ≠ ld ∧ a ≠ hl ∧ a ≠ rd
  dh : ha.Nodup
  l2 : 2 ≤ ds.length
  l8 : ds.length ≤ 8
  sm : ∀ j, j < ds.length → (hp j).length ≤ 900
/-- all but the dict ring's heaps and readings stays -/
def KpO (rd : Addr) (ha : List Addr) (H H' : Hp) : Prop := ∀ x o, H x = some o → x ≠ rd → x ∉ ha → H' x = some o
theorem KpO.trans {rd : Addr} {ha : List Addr} {H H1 H2 : Hp} (a : KpO rd ha H H1) (b : KpO rd ha H1 H2) : KpO rd ha H H2 := fun x o h n m => b x o (a x o h n m) n m
theorem Same.kpo {rd : Addr} {ha : List Addr} {H H' : Hp} (s : Same H H') : KpO rd ha H H' := fun x o h _ _ => s x o h
/-- all but the dict ring stays -/
def KpD (hd rd : Addr) (ha : List Addr) (H H' : Hp) : Prop := ∀ x o, H x = some o → x ≠ hd → x ≠ rd → x ∉ ha → H' x = some o
theorem KpD.trans {hd rd : Addr} {ha : List Addr} {H H1 H2 : Hp} (a : KpD hd rd ha H H1) (b : KpD hd rd ha H1 H2) : KpD hd rd ha H H2 := fun x o h l n m => b x o (a x o h l n m) l n m
theorem KpO.kpd {hd rd : Addr} {ha : List Addr} {H H' : Hp} (s : KpO rd ha H H') : KpD hd rd ha H H' := fun x o h _ n m => s x o h n m
theorem Same.kpd {hd rd : Addr} {ha : List Addr} {H H' : Hp} (s : Same H H') : KpD hd rd ha H H' := fun x o h _ _ _ => s x o h
section
variable {H H' : Hp} {hd ld hl rd : Addr} {ha : List Addr} {cs : List V} {ds : List Int} {day coming : Int} {hp : Nat → List Int} {cu : Nat → Option (Int × Int)}
theorem DcT.same (b : DcT H hd ld hl rd ha cs ds day coming hp cu) (s : Same H H') : DcT H' hd ld hl rd ha cs ds day coming hp cu := by
  obtain ⟨kvs, k1, k2⟩ := b.dic
  exact ⟨⟨kvs, s _ _ k1, k2⟩, s _ _ b.old, s _ _ b.ohl, b.lh, fun j a h => s _ _ (b.hv j a h), s _ _ b.ord, b.lc, fun j v h => (b.cv j v h).tups fun _ _ e => s _ _ e, b.n1, b.n2, b.n3, b.nh, b.dh, b.l2, b.l8, b.sm⟩
theorem DcT.ext (b : DcT H hd ld hl rd ha cs ds day coming hp cu) {hp' : Nat → List Int} {cu' : Nat → Option (Int × Int)} (e1 : ∀ j, j < ds.length → hp' j = hp j) (e2 : ∀ j, j < ds.length → cu' j = cu j) : DcT H hd ld hl rd ha cs ds day coming hp' cu' :=
  ⟨b.dic, b.old, b.ohl, b.lh, fun j a h => by rw [e1 j (by rw [← b.lh]; exact (List.getElem?_eq_some_iff.mp h).1)]; exact b.hv j a h, b.ord, b.lc, fun j v h => by rw [e2 j (by rw [← b.lc]; exact (List.getElem?_eq_some_iff.mp h).1)]; exact b.cv j v h, b.n1, b.n2, b.n3, b.nh, b.dh, b.l2, b.l8, fun j hj => by rw [e1 j hj]; exact b.sm j hj⟩
/-- another list is written -/
theorem DcT.oth (b : DcT H hd ld hl rd ha cs ds day coming hp cu) {L : Addr} {l l' : List V} (h : H L = some (.lst l)) (n1 : L ≠ ld) (n2 : L ≠ hl) (n3 : L ≠ rd) (n4 : L ∉ ha) : DcT (upd H L (.lst l')) hd ld hl rd ha cs ds day coming hp cu := by
  have kx : ∀ {x o}, H x = some o → x ≠ L → (upd H L (.lst l')) x = some o := fun {x o} e n => (upd_ne n).trans e
  have tk : ∀ c ys, H c = some (.tup ys) → (upd H L (.lst l')) c = some (.tup ys) := fun c ys e => kx e (ne_of e h (by intro z; cases z))
  obtain ⟨kvs, k1, k2⟩ := b.dic
  exact ⟨⟨kvs, kx k1 (ne_of k1 h (by intro z; cases z)), k2⟩, kx b.old n1.symm, kx b.ohl n2.symm, b.lh, fun j a e => kx (b.hv j a e) (fun z => n4 (z ▸ List.mem_of_getElem? e)), kx b.ord n3.symm, b.lc, fun j v e => (b.cv j v e).tups tk, b.n1, b.n2, b.n3, b.nh, b.dh, b.l2, b.l8, b.sm⟩
/-- the day is put anew -/
theorem DcT.tick (b : DcT H hd ld hl rd ha cs ds day coming hp cu) {kvs : List (Key × V)} (h : H hd = some (.dK kvs)) (d : Int) : DcT (upd H hd (.dK (putK kvs kT (.int d)))) hd ld hl rd ha cs ds d coming hp cu := by
  have kl : ∀ {y xs}, H y = some (.lst xs) → (upd H hd (.dK (putK kvs kT (.int d)))) y = some (.lst xs) := fun {y xs} e => (upd_ne (ne_of e h (by intro z; cases z))).trans e
  obtain ⟨kvs', h1, h2, h3, h4, h5, h6, h7⟩ := b.dic
  rw [h] at h1
  cases h1
  exact ⟨⟨_, upd_same, by rw [put_has h6]; exact h2, by rw [valV_put, if_neg kT_D]; exact h3, by rw [valV_put, if_neg kT_H]; exact h4, by rw [valV_put, if_neg kT_R]; exact h5, by rw [valV_put, if_pos rfl], by rw [valV_put, if_neg kT_N]; exact h7⟩, kl b.old, kl b.ohl, b.lh, fun j a e => kl (b.hv j a e), kl b.ord, b.lc, fun j v e => (b.cv j v e).tups fun c ys e => (upd_ne (ne_of e h (by intro z; cases z))).trans e, b.n1, b.n2, b.n3, b.nh, b.dh, b.l2, b.l8, b.sm⟩
/-- one reading is put anew -/
theorem DcT.putC (b : DcT H hd ld hl rd ha cs ds day coming hp cu) {k : Nat} {v : V} {o : Option (Int × Int)} (hv : CuV H v o) : DcT (upd H rd (.lst (cs.set k v))) hd ld hl rd ha (cs.set k v) ds day coming hp (fun j => if j = k then o else cu j) := by
  have kx : ∀ {x o}, H x = some o → x ≠ rd → (upd H rd (.lst (cs.set k v))) x = some o := fun {x o} e n => (upd_ne n).trans e
  have tk : ∀ c ys, H c = some (.tup ys) → (upd H rd (.lst (cs.set k v))) c = some (.tup ys) := fun c ys e => kx e (ne_of e b.ord (by intro z; cases z))
  obtain ⟨kvs, k1, k2⟩ := b.dic
  refine ⟨⟨kvs, kx k1 (ne_of k1 b.ord (by intro z; cases z)), k2⟩, kx b.old b.n2, kx b.ohl b.n3, b.lh, fun j a e => kx (b.hv j a e) (b.nh a (List.mem_of_getElem? e)).2.2, upd_same, by rw [List.length_set]; exact b.lc, fun j w h => ?_, b.n1, b.n2, b.n3, b.nh, b.dh, b.l2, b.l8, b.sm⟩
  by_cases e : j = k
  · subst e
    rw [if_pos rfl]
    have hj : j < cs.length := by
      have := (List.getElem?_eq_some_iff.mp h).1
      rw [List.length_set] at this
      exact this
    rw [List.getElem?_set_self hj] at h
    cases h
    exact hv.tups tk
  · rw [if_neg e]
    rw [List.getElem?_set_ne (Ne.symm e)] at h
    exact (b.cv j w h).tups tk
/-- one heap is written -/
theorem DcT.putH (b : DcT H hd ld hl rd ha cs ds day coming hp cu) {k : Nat} {a : Addr} {l : List V} {ws : List Int} (ga : ha[k]? = some a) (hl' : l = ws.map V.int) (hw : ws.length ≤ 900) : DcT (upd H a (.lst l)) hd ld hl rd ha cs ds day coming (fun j => if j = k then ws else hp j) cu := by
  subst hl'
  have am := List.mem_of_getElem? ga
  have gx := b.hv k a ga
  have kx : ∀ {x o}, H x = some o → x ≠ a → (upd H a (.lst (ws.map V.int))) x = some o := fun {x o} e n => (upd_ne n).trans e
  have tk : ∀ c ys, H c = some (.tup ys) → (upd H a (.lst (ws.map V.int))) c = some (.tup ys) := fun c ys e => kx e (ne_of e gx (by intro z; cases z))
  obtain ⟨kvs, k1, k2⟩ := b.dic
  obtain ⟨m1, m2, m3⟩ := b.nh a am
  refine ⟨⟨kvs, kx k1 (ne_of k1 gx (by intro z; cases z)), k2⟩, kx b.old m1.symm, kx b.ohl m2.symm, b.lh, fun j c h => ?_, kx b.ord m3.symm, b.lc, fun j v e => (b.cv j v e).tups tk, b.n1, b.n2, b.n3, b.nh, b.dh, b.l2, b.l8, fun j hj => ?_⟩
  · by_cases e : j = k
    · subst e
      rw [ga] at h
      cases h
      rw [if_pos rfl]
      exact upd_same
    · rw [if_neg e]
      exact kx (b.hv j c h) fun z => by
        subst z
        exact e (nd_ix b.dh h ga)
  · show (if j = k then ws else hp j).length ≤ 900
    split
    · exact hw
    · exact b.sm j hj
end
section
variable {P : Program} {w : World} {K : PySem.W.Frag} {mg : Str → Option Value} {base : Heap}
def spBegD : Sp := fun vs H Q _ => ∃ (hd ld hl rd : Addr) (ha : List Addr) (cs : List V) (ds : List Int) (day coming : Int) (hp : Nat → List Int) (cu : Nat → Option (Int × Int)), vs = [.ref hd] ∧
  DcT H hd ld hl rd ha cs ds day coming hp cu ∧
  ∀ H' cs', KpO rd ha H H' → DcT H' hd ld hl rd ha cs' ds day coming (bgH hp cu) (bgC ds day hp cu) → Q .non H'
theorem ok_begD (T : Tx K mg) : FnOk P w K mg base CX0 2 T.a_lbegin T.d_lbegin P_lbegin spBegD := by
  refine T.F_lbegin.ok sc_lbegin (fun vs H Q E h => ?_) (fun cdv A outer s H vs Q E hr h => ?_)
  · obtain ⟨hd, ld, hl, rd, ha, cs, ds, day, coming, hp, cu, rfl, _⟩ := h
    rfl
  · obtain ⟨hd, ld, hl, rd, ha, cs, ds, day, coming, hp, cu, rfl, S, q⟩ := h
    have nd := sc_lbegin.nd
    have hu1 : (cxOf CX0 P w K mg base N_lbegin "_law_begin" (defScope s_lbegin) T.a_lbegin cdv A outer s H E).nox.A.units + 1 < cLine := Nat.lt_of_le_of_lt (Nat.add_le_add_left (by decide : 1 ≤ 64) _) hr.units
    refine ⟨_, pss_one (ps_for PassesOwn.never rfl (pi_range1 (by rfl) T.z_range (pa_cons (pe_callB call_len_seq (by rfl) T.z_len PySem.boot_len (pa_cons (pe_dget hu1 (pv 0) pe_str (fun _ _ => rfl)) pa_nil)) pa_nil)) (pg_name (i := 1) nd rfl (.inl rfl))
      (pss_one (ps_if (PW.pt (pw_and (pt_cmpR op_isN (pe_ix ix_list (pe_dget hu1 (pv 0) pe_str (fun _ _ => rfl)) (pv 1) (fun _ _ => rfl)) pe_non (nomark _)) (pw_and1 (pt_cmpR (op_neD hr.units) (pe_ix ix_list (pe_dget hu1 (pv 0) pe_str (fun _ _ => rfl)) (pv 1) (fun _ _ => rfl)) (pe_lst pa_nil) (nomark _)))))
        (pss_one (ps_asg (pe_tup (pa_cons (pe_bm PySem.F.plainAttrs_list PySem.F.slot_list_pop PySem.F.type_list_pop mt_popAt (pe_ix ix_list (pe_dget hu1 (pv 0) pe_str (fun _ _ => rfl)) (pv 1) (fun _ _ => rfl)) (pa_cons pe_int pa_nil))
            (pa_cons (pe_op op_add (pe_dget hu1 (pv 0) pe_str (fun _ _ => rfl)) (pe_ix ix_list (pe_dget hu1 (pv 0) pe_str (fun _ _ => rfl)) (pv 1) (fun _ _ => rfl))) pa_nil)))
          (pg_sub (pe_dget hu1 (pv 0) pe_str (fun _ _ => rfl)) (pv 1) set_list))) pss_nil))), ?_⟩
    have l2 := S.l2
    have l8 := S.l8
    obtain ⟨kvs, k1, k2, k3, k4, k5, k6, k7⟩ := S.dic
    refine ⟨_, rfl, hd, _, rfl, get_of k1 k3 rfl, ld, _, rfl, .inl (.of S.old), _, rfl, ?_, ?_, ?_⟩
    · rw [List.length_map]
      omega
    · rw [List.length_map]
      omega
    rw [List.length_map]
    refine for_range (lo := 0) (n := ((ds.length : Nat) : Int).toNat) (fun i σ H' => (∃ z1, σ = [some (.ref hd), z1]) ∧ KpO rd ha H H' ∧ ∃ cs', DcT H' hd ld hl rd ha cs' ds day coming (fun j => if j < i then bgH hp cu j else hp j) (fun j => if j < i then bgC ds day hp cu j else cu j))
      ⟨⟨_, rfl⟩, fun x o h _ _ => h, cs, S.ext (fun j _ => if_neg (Nat.not_lt_zero _)) (fun j _ => if_neg (Nat.not_lt_zero _))⟩ ?_ ?_
    · rintro i σ H1 hi ⟨⟨z1, rfl⟩, kp, cs1, S1⟩
      have hi' : i < ds.length := by omega
      have ei : (0 : Int) + (i : Int) = i := by omega
      show tIfS _ _ _ _ [some (.ref hd), some (.int (0 + (i : Int)))] H1
      rw [ei]
      obtain ⟨kvs, k1, k2, k3, k4, k5, k6, k7⟩ := S1.dic
      obtain ⟨cv, gc⟩ : ∃ v, cs1[i]? = some v := ⟨_, List.getElem?_eq_getElem (by rw [S1.lc]; exact hi')⟩
      have hcv := S1.cv i cv gc
      simp only [Nat.lt_irrefl, if_false] at hcv
      have hat : atI cs1 (i : Int) = some cv := atI_nat gc
      have gv := S1.ord
      have sm := S.sm i hi'
      have stay : ∀ Hx, Same H1 Hx → bgH hp cu i = hp i → bgC ds day hp cu i = cu i → ∃ cs', DcT Hx hd ld hl rd ha cs' ds day coming (fun j => if j < i + 1 then bgH hp cu j else hp j) (fun j => if j < i + 1 then bgC ds day hp cu j else cu j) := fun Hx sx e1 e2 => by
        refine ⟨cs1, (S1.same sx).ext (fun j _ => ?_) (fun j _ => ?_)⟩
        · by_cases h1 : j < i
          · rw [if_pos h1, if_pos (by omega)]
          · by_cases h2 : j = i
            · rw [h2, if_pos (by omega), if_neg (by omega), e1]
            · rw [if_neg (by omega), if_neg h1]
        · by_cases h1 : j < i
          · rw [if_pos h1, if_pos (by omega)]
          · by_cases h2 : j = i
            · rw [h2, if_pos (by omega), if_neg (by omega), e2]
            · rw [if_neg (by omega), if_neg h1]
      refine ⟨_, rfl, hd, _, rfl, get_of k1 k5 rfl, _, rfl, rd, cs1, _, cv, rfl, rfl, .of gv, hat, rfl, _, rfl, ?_⟩
      cases ecu : cu i with
      | some be =>
        obtain ⟨b, e⟩ := be
        rw [ecu] at hcv
        obtain ⟨tc, rfl, htc⟩ := hcv
        exact iteF (iteF ⟨⟨_, rfl⟩, kp, stay H1 (Same.refl H1) (by unfold bgH; rw [ecu]) (by unfold bgC; rw [ecu])⟩)
      | none =>
        rw [ecu] at hcv
        have hcv : cv = .non := hcv
        subst hcv
        refine iteT ?_
        obtain ⟨a, ga⟩ : ∃ a, ha[i]? = some a := ⟨_, List.getElem?_eq_getElem (by rw [S1.lh]; exact hi')⟩
        have am := List.mem_of_getElem? ga
        have gx := S1.hv _ a ga
        simp only [Nat.lt_irrefl, if_false] at gx
        have hatA : atI (ha.map V.ref) (i : Int) = some (.ref a) := atI_nat (by rw [List.getElem?_map, ga]; rfl)
        refine ⟨_, rfl, hd, _, rfl, get_of k1 k4 rfl, _, rfl, hl, _, _, _, rfl, rfl, .of S1.ohl, hatA, Nat.zero_le _, fun e he => ?_⟩
        have s1 := same_upd (o := .lst []) he
        refine ⟨.list _, .list [], .lst (.of (s1 _ _ gx)) (dp_is _), .lst (.of upd_same) .nil, PySem.W.ke_shaped_ints _, PySem.W.ke_shaped_ints [], _, rfl, ?_⟩
        cases ehp : hp i with
        | nil => exact iteF ⟨⟨_, rfl⟩, kp.trans (Same.kpo s1), stay _ s1 (by unfold bgH; rw [ecu, ehp]) (by unfold bgC; rw [ecu, ehp])⟩
        | cons b0 r =>
          rw [ehp] at gx sm
          refine iteT ?_
          have S2 := S1.same s1
          have gx2 := s1 _ _ gx
          have gv2 := s1 _ _ gv
          have g12 := s1 _ _ k1
          have kp2 : KpO rd ha H (upd H1 e (.lst [])) := kp.trans (Same.kpo s1)
          generalize (upd H1 e (.lst [])) = H2 at S2 gx2 gv2 g12 kp2 ⊢
          refine ⟨_, rfl, hd, _, rfl, get_of g12 k4 rfl, _, rfl, hl, _, _, _, rfl, rfl, .of S2.ohl, hatA, .inl ⟨rfl, _, SqL.of gx2⟩, a, _, 0, 0, _, rfl, rfl, gx2, by decide, by decide, ?_, rfl, ?_⟩
          · show (if (0 ≤ (0 : Int)) && ((0 : Int) < ((V.int _ :: List.map V.int _).length : Nat)) then some (0 : Int).toNat else none) = some 0
            rw [if_pos (by rw [List.length_cons]; simp)]
            rfl
          have S3 := S2.putH (l := List.eraseIdx (V.int b0 :: List.map V.int r) 0) (ws := r) ga rfl (by rw [List.length_cons] at sm; omega)
          have kp3 : KpO rd ha H (upd H2 a (.lst (List.eraseIdx (V.int b0 :: List.map V.int r) 0))) := fun x o h n m => by
            have nx : x ≠ a := fun z => by
              subst z
              exact m am
            rw [upd_ne nx]
            exact kp2 x o h n m
          obtain ⟨kvs3, g1, g2, g3, g4, g5, g6, g7⟩ := S3.dic
          have hatD : atI (ds.map V.int) (i : Int) = some (.int (at' ds i)) := at_ix (by omega) (by omega)
          refine ⟨_, rfl, hd, _, rfl, get_of g1 g6 rfl, _, rfl, hd, _, rfl, get_of g1 g3 rfl, _, rfl, ld, _, _, _, rfl, rfl, .of S3.old, hatD, _, _, rfl, rfl, (by show 2 ≤ sizeLine; decide), fun t hT => ?_⟩
          have s3 := same_upd (o := .tup [.int b0, .int (day + at' ds i)]) hT
          have S4 := S3.same s3
          have gt : (upd (upd H2 a (.lst (List.eraseIdx (V.int b0 :: List.map V.int r) 0))) t (.tup [.int b0, .int (day + at' ds i)])) t = some (.tup [.int b0, .int (day + at' ds i)]) := upd_same
          refine ⟨_, rfl, hd, _, rfl, get_of (s3 _ _ g1) g5 rfl, _, rfl, rd, cs1, _, i, rfl, rfl, S4.ord, ixN_nat (by rw [S1.lc]; exact hi'), ?_⟩
          have S5 := S4.putC (k := i) (v := .ref t) (o := some (b0, day + at' ds i)) ⟨t, rfl, gt⟩
          refine ⟨⟨_, rfl⟩, fun x o h n m => (upd_ne n).trans (s3 _ _ (kp3 x o h n m)), _, S5.ext (fun j hj => ?_) (fun j hj => ?_)⟩
          · by_cases h1 : j = i
            · rw [h1, if_pos (by omega), if_pos rfl]
              unfold bgH
              rw [ecu, ehp]
            · rw [if_neg h1]
              by_cases h2 : j < i
              · rw [if_pos h2, if_pos (by omega)]
              · rw [if_neg h2, if_neg (by omega)]
          · by_cases h1 : j = i
            · rw [h1, if_pos (by omega), if_pos rfl]
              unfold bgC
              rw [ecu, ehp]
            · rw [if_neg h1]
              by_cases h2 : j < i
              · rw [if_pos h2, if_pos (by omega)]
              · rw [if_neg h2, if_neg (by omega)]
    · rintro σ H1 ⟨⟨z1, rfl⟩, kp, cs1, S1⟩
      exact q H1 cs1 kp (S1.ext (fun j hj => by rw [if_pos (by omega)]) (fun j hj => by rw [if_pos (by omega)]))
end
end Rp
/-! The law's own ring in a dict: _law_day. -/
namespace Rp
open PySem PySem.Spec PyProof.Rows L2 Rz Rm
/-- whose reading ends -/
def enK (day : Int) (cu : Nat → Option (Int × Int)) (n : Nat) : List Nat := (List.range n).filter fun j => (enB day cu j).isSome
theorem enK_suc (day : Int) (cu : Nat → Option (Int × Int)) (n : Nat) : enK day cu (n + 1) = if (enB day cu n).isSome = true then enK day cu n ++ [n] else enK day cu n := by
  unfold enK
  rw [List.range_succ, List.filter_append]
  cases h : (enB day cu n).isSome with
  | true => simp [h]
  | false => simp [h]
theorem enK_mem {day : Int} {cu : Nat → Option (Int × Int)} {n j : Nat} : j ∈ enK day cu n ↔ j < n ∧ (enB day cu j).isSome = true := by
  unfold enK
  rw [List.mem_filter, List.mem_range]
theorem enK_nodup {day : Int} {cu : Nat → Option (Int × Int)} {n : Nat} : (enK day cu n).Nodup := List.Pairwise.filter _ List.nodup_range
theorem enL_map (day : Int) (cu : Nat → Option (Int × Int)) (n : Nat) : enL day cu n = (enK day cu n).map fun (j : Nat) => [day, (j : Int), (enB day cu j).getD 0] := by
  induction n with
  | zero => rfl
  | succ n ih =>
    rw [enL_suc, enK_suc, ih]
    cases h : enB day cu n with
    | none => rw [if_neg (by simp)]; simp
    | some b => simp [h]
section
variable {P : Program} {w : World} {K : PySem.W.Frag} {mg : Str → Option Value} {base : Heap}
def spDyD : Sp := fun vs H Q _ => ∃ (hd ld hl rd : Addr) (ha : List Addr) (cs : List V) (ds : List Int) (coming : Int) (s : TSt), vs = [.ref hd] ∧
  DcT H hd ld hl rd ha cs ds s.day coming s.hp s.cu ∧ (∀ j, j < ds.length → (s.hp j).length < 900) ∧
  ∀ (H' : Hp) (cs' : List V) (le : Addr) (xs : List V), KpD hd rd ha H H' → DcT H' hd ld hl rd ha cs' ds (dyS ds s).day coming (dyS ds s).hp (dyS ds s).cu → H le = none → H' le = some (.lst xs) → Tups H' xs (enL (s.day + 1) s.cu ds.length) → Q (.ref le) H'
theorem ok_dyD (T : Tx K mg) : FnOk P w K mg base CX0 3 T.a_lday T.d_lday P_lday spDyD := by
  refine T.F_lday.ok sc_lday (fun vs H Q E h => ?_) (fun cdv A outer s0 H vs Q E hr h => ?_)
  · obtain ⟨hd, ld, hl, rd, ha, cs, ds, coming, s, rfl, _⟩ := h
    rfl
  · obtain ⟨hd, ld, hl, rd, ha, cs, ds, coming, s, rfl, S, h9, q⟩ := h
    have nd := sc_lday.nd
    have hu1 : (cxOf CX0 P w K mg base N_lday "_law_day" (defScope s_lday) T.a_lday cdv A outer s0 H E).nox.A.units + 1 < cLine := Nat.lt_of_le_of_lt (Nat.add_le_add_left (by decide : 1 ≤ 64) _) hr.units
    refine ⟨_, pss_cons (ps_dput hu1 (pv 0) pe_str (pe_op op_add (pe_dget hu1 (pv 0) pe_str (fun _ _ => rfl)) pe_int) rfl)
      (pss_cons (ps_par (i := 1) (j := 2) rfl nd rfl rfl (by decide) rfl rfl (pa_cons (pe_lst pa_nil) (pa_cons (pe_callB call_len_seq (by rfl) T.z_len PySem.boot_len (pa_cons (pe_dget hu1 (pv 0) pe_str (fun _ _ => rfl)) pa_nil)) pa_nil)) rfl)
      (pss_cons (ps_for PassesOwn.never rfl (pi_range1 (by rfl) T.z_range (pa_cons (pv 2) pa_nil)) (pg_name (i := 3) nd rfl (.inl rfl))
        (pss_one (ps_if (PW.pt (pw_and (pt_cmpR op_notN (pe_ix ix_list (pe_dget hu1 (pv 0) pe_str (fun _ _ => rfl)) (pv 3) (fun _ _ => rfl)) pe_non (nomark _)) (pw_and1 (pt_cmpR op_eq (pe_ix ix_tup (pe_ix ix_list (pe_dget hu1 (pv 0) pe_str (fun _ _ => rfl)) (pv 3) (fun _ _ => rfl)) pe_int (fun _ _ => rfl)) (pe_dget hu1 (pv 0) pe_str (fun _ _ => rfl)) (nomark _)))))
          (pss_cons (ps_expr (pe_bm PySem.F.plainAttrs_list PySem.F.slot_list_append PySem.F.type_list_append mt_append (pv 1) (pa_cons (pe_tup (pa_cons (pe_dget hu1 (pv 0) pe_str (fun _ _ => rfl)) (pa_cons (pv 3) (pa_cons (pe_ix ix_tup (pe_ix ix_list (pe_dget hu1 (pv 0) pe_str (fun _ _ => rfl)) (pv 3) (fun _ _ => rfl)) pe_int (fun _ _ => rfl)) pa_nil)))) pa_nil)))
          (pss_one (ps_asg pe_non (pg_sub (pe_dget hu1 (pv 0) pe_str (fun _ _ => rfl)) (pv 3) set_list)))) pss_nil)))
      (pss_cons (ps_for PassesOwn.never rfl (pi_list (pv 1)) (pg_tup rfl (pgs_cons (pg_name (i := 4) nd rfl (.inl rfl)) (pgs_cons (pg_name (i := 3) nd rfl (.inl rfl)) (pgs_cons (pg_name (i := 5) nd rfl (.inl rfl)) pgs_nil))))
        (pss_one (ps_expr (pe_bm PySem.F.plainAttrs_list PySem.F.slot_list_append PySem.F.type_list_append mt_append (pe_ix ix_list (pe_dget hu1 (pv 0) pe_str (fun _ _ => rfl)) (pe_op op_mod (pe_callTy call_int1 (by rfl) T.z_int (by decide +kernel) (pa_cons (pe_op op_add (pv 3) pe_int) pa_nil)) (pv 2)) (fun _ _ => rfl)) (pa_cons (pv 5) pa_nil)))))
      (pss_cons (ps_expr (pe_call (ok_begD T) hr (by rfl) T.g_lbegin T.F_lbegin.kp T.b_lbegin .nil pass0 (pa_cons (pv 0) pa_nil)))
      (pss_one (ps_ret (pv 1))))))), ?_⟩
    have l2 := S.l2
    have l8 := S.l8
    obtain ⟨kvs, k1, k2, k3, k4, k5, k6, k7⟩ := S.dic
    refine ⟨_, rfl, hd, _, rfl, get_of k1 k6 rfl, _, _, rfl, rfl, _, rfl, hd, _, rfl, .inl ⟨kvs, kT, k1, rfl, small1000 (by omega), rfl⟩, ?_⟩
    have eS : dyS ds s = ⟨s.day + 1, bgH (enH ds.length (s.day + 1) s.hp s.cu) (enC (s.day + 1) s.cu), bgC ds (s.day + 1) (enH ds.length (s.day + 1) s.hp s.cu) (enC (s.day + 1) s.cu)⟩ := rfl
    rw [eS] at q
    have S1 := S.tick k1 (s.day + 1)
    show tSeq _ _ _ [some (.ref hd), none, none, none, none, none] (upd H hd (.dK (putK kvs kT (.int (s.day + 1)))))
    generalize s.day + 1 = day at S1 q ⊢
    have kp1 : KpD hd rd ha H (upd H hd (.dK (putK kvs kT (.int day)))) := fun x o h n _ _ => by rw [upd_ne n]; exact h
    have fr1 : ∀ x, (upd H hd (.dK (putK kvs kT (.int day)))) x = none → H x = none := fun x h => by
      cases e : H x with
      | none => rfl
      | some o =>
        by_cases z : x = hd
        · subst z
          rw [upd_same] at h
          cases h
        · rw [upd_ne z, e] at h
          cases h
    generalize (upd H hd (.dK (putK kvs kT (.int day)))) = H1 at S1 kp1 fr1 ⊢
    obtain ⟨kvs1, k11, k12, k13, k14, k15, k16, k17⟩ := S1.dic
    refine ⟨Nat.zero_le _, fun le hle => ?_⟩
    have hleH := fr1 le hle
    have s2 := same_upd (o := .lst []) hle
    have nle : le ≠ ld ∧ le ≠ hl ∧ le ≠ rd ∧ le ∉ ha := ⟨(ne_of_none S1.old hle).symm, (ne_of_none S1.ohl hle).symm, (ne_of_none S1.ord hle).symm, fun m => by
      obtain ⟨j, hj⟩ := List.getElem?_of_mem m
      exact ne_of_none (S1.hv j le hj) hle rfl⟩
    have nled : le ≠ hd := (ne_of_none k11 hle).symm
    have S2 := S1.same s2
    have kp2 : KpD hd rd ha H (upd H1 le (.lst [])) := kp1.trans (Same.kpd s2)
    have hle2 : (upd H1 le (.lst [])) le = some (.lst []) := upd_same
    generalize (upd H1 le (.lst [])) = H2 at S2 kp2 hle2 ⊢
    obtain ⟨kvs2, k21, k22, k23, k24, k25, k26, k27⟩ := S2.dic
    refine ⟨_, rfl, hd, _, rfl, get_of k21 k23 rfl, ld, _, rfl, .inl (.of S2.old), _, _, rfl, ?_⟩
    rw [List.length_map]
    refine ⟨_, rfl, _, rfl, by omega, by omega, ?_⟩
    refine for_range (lo := 0) (n := ((ds.length : Nat) : Int).toNat) (fun i σ H' => (∃ z3, σ = [some (.ref hd), some (.ref le), some (.int ds.length), z3, none, none]) ∧ KpD hd rd ha H H' ∧
      ∃ cs' xs, DcT H' hd ld hl rd ha cs' ds day coming s.hp (fun j => if j < i then enC day s.cu j else s.cu j) ∧ H' le = some (.lst xs) ∧ Tups H' xs (enL day s.cu i))
      ⟨⟨_, rfl⟩, kp2, cs, [], S2.ext (fun _ _ => rfl) (fun j _ => if_neg (Nat.not_lt_zero _)), hle2, .nil⟩ ?_ ?_
    · rintro i σ H3 hi ⟨⟨z3, rfl⟩, kp, cs1, xs, S3, hxs, TT⟩
      have hi' : i < ds.length := by omega
      have ei : (0 : Int) + (i : Int) = i := by omega
      show tIfS _ _ _ _ [some (.ref hd), some (.ref le), some (.int ds.length), some (.int (0 + (i : Int))), none, none] H3
      rw [ei]
      obtain ⟨kvs3, k31, k32, k33, k34, k35, k36, k37⟩ := S3.dic
      obtain ⟨cv, gc⟩ : ∃ v, cs1[i]? = some v := ⟨_, List.getElem?_eq_getElem (by rw [S3.lc]; exact hi')⟩
      have hcv := S3.cv i cv gc
      simp only [Nat.lt_irrefl, if_false] at hcv
      have gv := S3.ord
      have hat : atI cs1 (i : Int) = some cv := atI_nat gc
      have lx : xs.length ≤ i := by rw [TT.length]; exact enL_len _ _ _
      have stay : enB day s.cu i = none → (∃ z3, ([some (.ref hd), some (.ref le), some (.int ds.length), some (.int (i : Int)), none, none] : L2.St) = [some (.ref hd), some (.ref le), some (.int ds.length), z3, none, none]) ∧ KpD hd rd ha H H3 ∧ ∃ cs' xs, DcT H3 hd ld hl rd ha cs' ds day coming s.hp (fun j => if j < i + 1 then enC day s.cu j else s.cu j) ∧ H3 le = some (.lst xs) ∧ Tups H3 xs (enL day s.cu (i + 1)) := fun e1 => by
        refine ⟨⟨_, rfl⟩, kp, cs1, xs, S3.ext (fun _ _ => rfl) (fun j _ => ?_), hxs, by rw [enL_suc, e1]; show Tups H3 xs (_ ++ []); rw [List.append_nil]; exact TT⟩
        by_cases h1 : j < i
        · rw [if_pos h1, if_pos (by omega)]
        · by_cases h2 : j = i
          · rw [h2, if_pos (by omega), if_neg (by omega)]
            unfold enC
            rw [e1]
            rfl
          · rw [if_neg (by omega), if_neg h1]
      refine ⟨_, rfl, hd, _, rfl, get_of k31 k35 rfl, _, rfl, rd, cs1, _, cv, rfl, rfl, .of gv, hat, rfl, _, rfl, ?_⟩
      cases ecu : s.cu i with
      | none =>
        rw [ecu] at hcv
        have hcv : cv = .non := hcv
        subst hcv
        exact iteF (iteF (stay (by unfold enB; rw [ecu])))
      | some be =>
        obtain ⟨b, e⟩ := be
        rw [ecu] at hcv
        obtain ⟨tc, rfl, htc⟩ := hcv
        refine iteT ?_
        refine ⟨_, rfl, hd, _, rfl, get_of k31 k35 rfl, _, rfl, rd, cs1, _, _, rfl, rfl, .of gv, hat, tc, _, 1, _, rfl, rfl, .of htc, atI_nat (j := 1) rfl, _, rfl, hd, _, rfl, get_of k31 k36 rfl, rfl, _, rfl, ?_⟩
        by_cases ed : e = day
        · subst ed
          rw [decide_eq_true rfl]
          have eb : enB e s.cu i = some b := by unfold enB; rw [ecu]; exact if_pos rfl
          refine iteT ?_
          refine ⟨_, rfl, .inl ⟨rfl, _, SqL.of hxs⟩, _, rfl, hd, _, rfl, get_of k31 k36 rfl, _, rfl, _, rfl, hd, _, rfl, get_of k31 k35 rfl, _, rfl, rd, cs1, _, _, rfl, rfl, .of gv, hat, tc, _, 0, _, rfl, rfl, .of htc, atI_nat (j := 0) rfl, (by show 3 ≤ sizeLine; decide), fun t2 ht2 => ?_⟩
          have s4 := same_upd (o := .tup [.int e, .int (i : Int), .int b]) ht2
          have g2 : (upd H3 t2 (.tup [.int e, .int (i : Int), .int b])) t2 = some (.tup [.int e, .int (i : Int), .int b]) := upd_same
          have S4 := S3.same s4
          have T4 : Tups (upd H3 t2 (.tup [.int e, .int (i : Int), .int b])) xs (enL e s.cu i) := TT.mono fun _ _ h => s4 _ _ h
          have hxs4 := s4 _ _ hxs
          have kp4 : KpD hd rd ha H (upd H3 t2 (.tup [.int e, .int (i : Int), .int b])) := kp.trans (Same.kpd s4)
          generalize (upd H3 t2 (.tup [.int e, .int (i : Int), .int b])) = H4 at g2 S4 T4 hxs4 kp4 ⊢
          refine ⟨le, xs, _, rfl, rfl, hxs4, small1000 (by omega), ?_⟩
          have S5 := S4.oth (l' := xs ++ [V.ref t2]) hxs4 nle.1 nle.2.1 nle.2.2.1 nle.2.2.2
          have tk5 : ∀ c ys, H4 c = some (.tup ys) → (upd H4 le (.lst (xs ++ [V.ref t2]))) c = some (.tup ys) := fun c ys h => (upd_ne (ne_of h hxs4 (by intro z; cases z))).trans h
          have T5 : Tups (upd H4 le (.lst (xs ++ [V.ref t2]))) (xs ++ [V.ref t2]) (enL e s.cu (i + 1)) := by
            rw [enL_suc, eb]
            exact Tups.snoc (l := [e, (i : Int), b]) ⟨t2, rfl, tk5 _ _ g2⟩ (T4.mono tk5)
          have gle : (upd H4 le (.lst (xs ++ [V.ref t2]))) le = some (.lst (xs ++ [V.ref t2])) := upd_same
          have kp5 : KpD hd rd ha H (upd H4 le (.lst (xs ++ [V.ref t2]))) := fun x o h n1 n2 n3 => (upd_ne (ne_of_none h hleH)).trans (kp4 x o h n1 n2 n3)
          generalize (upd H4 le (.lst (xs ++ [V.ref t2]))) = H5 at S5 T5 gle kp5 ⊢
          obtain ⟨kvs5, k51, k52, k53, k54, k55, k56, k57⟩ := S5.dic
          refine ⟨_, rfl, hd, _, rfl, get_of k51 k55 rfl, _, rfl, rd, cs1, _, i, rfl, rfl, S5.ord, ixN_nat (by rw [S3.lc]; exact hi'), ?_⟩
          have S6 := S5.putC (k := i) (v := .non) (o := none) rfl
          refine ⟨⟨_, rfl⟩, fun x o h n1 n2 n3 => (upd_ne n2).trans (kp5 x o h n1 n2 n3), _, _, S6.ext (fun _ _ => rfl) (fun j _ => ?_), (upd_ne nle.2.2.1).trans gle, T5.mono fun c ys h => (upd_ne (ne_of h S5.ord (by intro z; cases z))).trans h⟩
          by_cases h1 : j = i
          · rw [if_pos h1, h1, if_pos (Nat.lt_succ_self _)]
            unfold enC
            rw [eb]
            rfl
          · rw [if_neg h1]
            by_cases h2 : j < i
            · rw [if_pos h2, if_pos (by omega)]
            · rw [if_neg h2, if_neg (by omega)]
        · rw [decide_eq_false (fun z => ed (V.int.inj z))]
          exact iteF (stay (by unfold enB; rw [ecu]; exact if_neg ed))
    · rintro σ H3 ⟨⟨z3, rfl⟩, kp, cs1, xs, S3, hxs, TT⟩
      rw [show ((ds.length : Nat) : Int).toNat = ds.length by omega] at S3 TT
      have lx := TT.length
      have em := enL_map day s.cu ds.length
      have lk : xs.length = (enK day s.cu ds.length).length := by rw [lx, em, List.length_map]
      refine ⟨_, rfl, le, rfl, ⟨_, .of hxs⟩, for_list (K := K) (a := le) (xs := xs) (fun n σ H' => (∃ z3 z4 z5, σ = [some (.ref hd), some (.ref le), some (.int ds.length), z3, z4, z5]) ∧ KpD hd rd ha H H' ∧
        DcT H' hd ld hl rd ha cs1 ds day coming (fun j => s.hp j ++ (if prv ds.length j ∈ (enK day s.cu ds.length).take n then (enB day s.cu (prv ds.length j)).toList else [])) (enC day s.cu) ∧ H' le = some (.lst xs) ∧ Tups H' xs (enL day s.cu ds.length))
        ⟨⟨_, _, _, rfl⟩, kp, S3.ext (fun j _ => ?_) (fun j hj => (if_pos hj).symm), hxs, TT⟩ (fun i σ H' _ p => .of p.2.2.2.1) ?_ ?_⟩
      · rw [if_neg (by simp), List.append_nil]
      · rintro n x σ H4 hx ⟨⟨z3, z4, z5, rfl⟩, kp4, S4, hxs4, T4⟩
        have hn : n < xs.length := (List.getElem?_eq_some_iff.mp hx).1
        obtain ⟨k, hk⟩ : ∃ k, (enK day s.cu ds.length)[n]? = some k := ⟨_, List.getElem?_eq_getElem (by omega)⟩
        have hl4 : (enL day s.cu ds.length)[n]? = some [day, (k : Int), (enB day s.cu k).getD 0] := by rw [em, List.getElem?_map, hk]; rfl
        obtain ⟨t, a1, a2⟩ := T4.get hl4
        rw [a1] at hx
        cases hx
        obtain ⟨kNl, kE⟩ := enK_mem.mp (List.mem_of_getElem? hk)
        obtain ⟨bk0, hbk⟩ := Option.isSome_iff_exists.mp kE
        rw [hbk] at a2
        have a2 : H4 t = some (.tup [.int day, .int (k : Int), .int bk0]) := a2
        have hnot := take_mem enK_nodup hk
        obtain ⟨kvs4, k41, k42, k43, k44, k45, k46, k47⟩ := S4.dic
        have xN := nx_lt kNl
        obtain ⟨a, ga⟩ : ∃ a, ha[Rp.nx ds.length k]? = some a := ⟨_, List.getElem?_eq_getElem (by rw [S4.lh]; exact xN)⟩
        have am := List.mem_of_getElem? ga
        have gx := S4.hv _ a ga
        simp only [prv_nx kNl, if_neg hnot, List.append_nil] at gx
        have hatA : atI (ha.map V.ref) (((k : Int) + 1) % (ds.length : Int)) = some (.ref a) := by
          rw [nx_mod kNl]
          exact atI_nat (by rw [List.getElem?_map, ga]; rfl)
        refine ⟨t, _, rfl, .of a2, rfl, _, _, rfl, _, _, rfl, _, _, rfl, rfl, ?_⟩
        refine ⟨_, rfl, hd, _, rfl, get_of k41 k44 rfl, _, rfl, _, _, rfl, rfl, .inl ⟨_, rfl, _, rfl, _, _, rfl, rfl, by show (0 : Int) < ((ds.length : Nat) : Int); omega, hl, _, _, _, rfl, rfl, .of S4.ohl, hatA, .inl ⟨rfl, _, SqL.of gx⟩, _, rfl, a, _, _, rfl, rfl, gx, ?_, ?_⟩⟩
        · rw [List.length_map]
          have := h9 _ xN
          exact small1000 (by omega)
        · have S5 := S4.putH (k := Rp.nx ds.length k) (l := (s.hp (Rp.nx ds.length k)).map V.int ++ [V.int bk0]) (ws := s.hp (Rp.nx ds.length k) ++ [bk0]) ga (by rw [List.map_append]; rfl) (by have := h9 _ xN; rw [List.length_append]; show _ + 1 ≤ 900; omega)
          have nin : ∀ {x : Addr}, x ∉ ha → x ≠ a := fun n z => by
            subst z
            exact n am
          refine ⟨⟨_, _, _, rfl⟩, fun x o h n1 n2 n3 => (upd_ne (nin n3)).trans (kp4 x o h n1 n2 n3), S5.ext (fun j hj => ?_) (fun _ _ => rfl), (upd_ne (nin nle.2.2.2)).trans hxs4, T4.mono fun b ys h => (upd_ne (ne_of h gx (by intro z; cases z))).trans h⟩
          by_cases h1 : j = Rp.nx ds.length k
          · rw [if_pos h1, h1, prv_nx kNl, if_pos ((take_suc hk).mpr (.inr rfl)), hbk]
            rfl
          · rw [if_neg h1]
            have hp : prv ds.length j ≠ k := fun z => h1 (prv_inj hj kNl z)
            by_cases h2 : prv ds.length j ∈ (enK day s.cu ds.length).take n
            · rw [if_pos h2, if_pos ((take_suc hk).mpr (.inl h2))]
            · rw [if_neg h2, if_neg fun z => ((take_suc hk).mp z).elim h2 hp]
      · rintro σ H4 ⟨⟨z3, z4, z5, rfl⟩, kp4, S4, hxs4, T4⟩
        rw [lk, List.take_length] at S4
        have S5 := S4.ext (hp' := enH ds.length day s.hp s.cu) (cu' := enC day s.cu) (fun j hj => by
          unfold enH
          by_cases m : prv ds.length j ∈ enK day s.cu ds.length
          · rw [if_pos m]
          · rw [if_neg m]
            cases e : enB day s.cu (prv ds.length j) with
            | none => rfl
            | some b => exact absurd (enK_mem.mpr ⟨prv_lt hj, by rw [e]; rfl⟩) m) (fun _ _ => rfl)
        refine ⟨_, rfl, hd, ld, hl, rd, ha, cs1, ds, day, coming, _, _, rfl, S5, fun H5 cs5 kp5 S6 => ?_⟩
        exact ⟨_, rfl, q H5 cs5 le xs (kp4.trans (KpO.kpd kp5)) S6 hleH (kp5 _ _ hxs4 nle.2.2.1 nle.2.2.2) (T4.mono fun b ys h => kp5 _ _ h (ne_of h S5.ord (by intro z; cases z)) fun m => by
          obtain ⟨j, hj⟩ := List.getElem?_of_mem m
          exact ne_of h (S5.hv j b hj) (by intro z; cases z) rfl)⟩
end
end Rp
/-! The law's own ring in a dict: _law_first. -/
namespace Rp
open PySem PySem.Spec PyProof.Rows L2 Rz Rm
section
variable {P : Program} {w : World} {K : PySem.W.Frag} {mg : Str → Option Value} {base : Heap}
def spFirstD : Sp := fun vs H Q _ => ∃ (t td ts : Addr) (ds ss : List Int), vs = [.ref t] ∧ H t = some (.tup [.ref td, .ref ts]) ∧ H td = some (.tup (ds.map V.int)) ∧ H ts = some (.tup (ss.map V.int)) ∧ Good ds ss ∧
  ∀ (H' : Hp) (hd ld hl rd : Addr) (ha : List Addr) (cs : List V), Same H H' → (H hd = none ∧ H ld = none ∧ H hl = none ∧ H rd = none ∧ ∀ a ∈ ha, H a = none) →
    DcT H' hd ld hl rd ha cs ds 0 ss.sum (bgH (h0F ss) (fun _ => none)) (bgC ds 0 (h0F ss) (fun _ => none)) → Q (.ref hd) H'
theorem ok_firstD (T : Tx K mg) : FnOk P w K mg base CX0 3 T.a_lfirst T.d_lfirst P_lfirst spFirstD := by
  refine T.F_lfirst.ok sc_lfirst (fun vs H Q E h => ?_) (fun cdv A outer s H vs Q E hr h => ?_)
  · obtain ⟨t, td, ts, ds, ss, rfl, _⟩ := h
    rfl
  · obtain ⟨t, td, ts, ds, ss, rfl, ht, htd, hts, G, q⟩ := h
    have nd := sc_lfirst.nd
    have hu1 : (cxOf CX0 P w K mg base N_lfirst "_law_first" (defScope s_lfirst) T.a_lfirst cdv A outer s H E).nox.A.units + 1 < cLine := Nat.lt_of_le_of_lt (Nat.add_le_add_left (by decide : 1 ≤ 64) _) hr.units
    refine ⟨_, pss_cons (ps_asg (pv 0) (pg_tup rfl (pgs_cons (pg_name (i := 1) nd rfl (.inl rfl)) (pgs_cons (pg_name (i := 2) nd rfl (.inl rfl)) pgs_nil))))
      (pss_cons (ps_set (i := 3) nd rfl (.inl rfl) (pe_disp (pps_cons pe_str (pe_callTy call_list_of (by rfl) T.z_list (by decide +kernel) (pa_cons (pv 1) pa_nil)) (pps_cons pe_str (pe_lst pa_nil)
          (pps_cons pe_str (pe_op op_rep (pe_lst (pa_cons pe_non pa_nil)) (pe_callB call_len_seq (by rfl) T.z_len PySem.boot_len (pa_cons (pv 1) pa_nil))) (pps_cons pe_str pe_int
          (pps_cons pe_str (pe_callB (cr_sumT rfl) (by rfl) T.z_sum (by decide +kernel) (pa_cons (pv 2) pa_nil)) pps_nil))))) (by rfl) (by rfl) (fun z => by cases z) (by decide)))
      (pss_cons (ps_set (i := 4) nd rfl (.inl rfl) pe_int)
      (pss_cons (ps_for PassesOwn.never rfl (pi_tup (pv 2)) (pg_name (i := 5) nd rfl (.inl rfl))
        (pss_cons (ps_expr (pe_bm PySem.F.plainAttrs_list PySem.F.slot_list_append PySem.F.type_list_append mt_append (pe_dget hu1 (pv 3) pe_str (fun _ _ => rfl)) (pa_cons (pe_listRg rfl (by rfl) T.z_list (prg_2 (by rfl) T.z_range (pv 4) (pe_op op_add (pv 4) (pv 5)))) pa_nil)))
        (pss_one (ps_set (i := 4) nd rfl (.inl rfl) (pe_op op_add (pv 4) (pv 5))))))
      (pss_cons (ps_expr (pe_call (ok_begD T) hr (by rfl) T.g_lbegin T.F_lbegin.kp T.b_lbegin .nil pass0 (pa_cons (pv 3) pa_nil)))
      (pss_one (ps_ret (pv 3))))))), ?_⟩
    have l2 := G.l2
    have l8 := G.l8
    have ls := G.ls
    have b12 := G.b12
    refine ⟨_, rfl, t, _, rfl, .of ht, rfl, _, _, rfl, _, _, rfl, rfl, ?_⟩
    refine fun hd hhd => ?_
    have s1 := same_upd (o := .dK []) hhd
    have g1 : (upd H hd (.dK [])) hd = some (.dK []) := upd_same
    show tPairs _ _ (upd H hd (.dK [])) _
    generalize (upd H hd (.dK [])) = H1 at s1 g1
    refine ⟨_, rfl, td, _, rfl, .inr (.of (s1 _ _ htd)), fun ld hld => ?_⟩
    have s2 := same_upd (o := .lst (ds.map V.int)) hld
    have g2 : (upd H1 ld (.lst (ds.map V.int))) ld = some (.lst (ds.map V.int)) := upd_same
    generalize (upd H1 ld (.lst (ds.map V.int))) = H2 at s2 g2
    refine ⟨Nat.zero_le _, fun hl hhl => ?_⟩
    have s3 := same_upd (o := .lst []) hhl
    have g3 : (upd H2 hl (.lst [])) hl = some (.lst []) := upd_same
    generalize (upd H2 hl (.lst [])) = H3 at s3 g3
    refine ⟨(by show 1 ≤ sizeLine; decide), fun l0 hl0 => ?_⟩
    have s4 := same_upd (o := .lst [.non]) hl0
    have g4 : (upd H3 l0 (.lst [.non])) l0 = some (.lst [.non]) := upd_same
    generalize (upd H3 l0 (.lst [.non])) = H4 at s4 g4
    have s04 : Same H H4 := ((s1.trans s2).trans s3).trans s4
    refine ⟨_, rfl, td, _, rfl, .inr (.of (s04 _ _ htd)), l0, _, _, rfl, rfl, g4, ?_, ?_, ?_, fun rd hrd => ?_⟩
    · omega
    · rw [List.length_map]
      omega
    · rw [List.length_map]
      show 1 * _ ≤ sizeLine
      have := small1000 (n := 1 * ((ds.length : Nat) : Int).toNat) (by omega)
      omega
    rw [rep_one, List.length_map, show ((ds.length : Nat) : Int).toNat = ds.length by omega]
    have s5 := same_upd (o := .lst (List.replicate ds.length V.non)) hrd
    have g5 : (upd H4 rd (.lst (List.replicate ds.length V.non))) rd = some (.lst (List.replicate ds.length V.non)) := upd_same
    generalize (upd H4 rd (.lst (List.replicate ds.length V.non))) = H5 at s5 g5
    have s05 := s04.trans s5
    have k5 : H5 hd = some (.dK []) := s5 _ _ (s4 _ _ (s3 _ _ (s2 _ _ g1)))
    refine ⟨_, rfl, ts, ss, rfl, .of (s05 _ _ hts), k5, [(kD, .ref ld), (kH, .ref hl), (kR, .ref rd), (kT, .int 0), (kN, .int ss.sum)], rfl, (by show 5 ≤ 15; decide), ?_⟩
    obtain ⟨kvs, hk⟩ : ∃ kvs, kvs = mergeK [] [(kD, V.ref ld), (kH, .ref hl), (kR, .ref rd), (kT, .int 0), (kN, .int ss.sum)] := ⟨_, rfl⟩
    have hk' : kvs = putK (putK (putK (putK (putK [] kD (V.ref ld)) kH (.ref hl)) kR (.ref rd)) kT (.int 0)) kN (.int ss.sum) := hk
    have vD : valV kvs kD = some (.ref ld) := by
      rw [hk', valV_put, if_neg (by decide +kernel), valV_put, if_neg (by decide +kernel), valV_put, if_neg (by decide +kernel), valV_put, if_neg (by decide +kernel), valV_put, if_pos rfl]
    have vH : valV kvs kH = some (.ref hl) := by
      rw [hk', valV_put, if_neg (by decide +kernel), valV_put, if_neg (by decide +kernel), valV_put, if_neg (by decide +kernel), valV_put, if_pos rfl]
    have vR : valV kvs kR = some (.ref rd) := by
      rw [hk', valV_put, if_neg (by decide +kernel), valV_put, if_neg (by decide +kernel), valV_put, if_pos rfl]
    have vT : valV kvs kT = some (.int 0) := by
      rw [hk', valV_put, if_neg (by decide +kernel), valV_put, if_pos rfl]
    have vN : valV kvs kN = some (.int ss.sum) := by
      rw [hk', valV_put, if_pos rfl]
    have lk : kvs.length ≤ 5 := by
      rw [hk']
      have a1 := put_len ([] : List (Key × V)) kD (V.ref ld)
      have a2 := put_len (putK [] kD (V.ref ld)) kH (.ref hl)
      have a3 := put_len (putK (putK [] kD (V.ref ld)) kH (.ref hl)) kR (.ref rd)
      have a4 := put_len (putK (putK (putK [] kD (V.ref ld)) kH (.ref hl)) kR (.ref rd)) kT (.int 0)
      have a5 := put_len (putK (putK (putK (putK [] kD (V.ref ld)) kH (.ref hl)) kR (.ref rd)) kT (.int 0)) kN (.int ss.sum)
      have a0 : ([] : List (Key × V)).length = 0 := rfl
      omega
    rw [← hk]
    have k6 : ∀ {x o}, H5 x = some o → x ≠ hd → (upd H5 hd (.dK kvs)) x = some o := fun h n => by rw [upd_ne n]; exact h
    have n1 : ld ≠ hd := (ne_of_none g1 hld).symm
    have n2 : hl ≠ hd := (ne_of_none (s2 _ _ g1) hhl).symm
    have n3 : rd ≠ hd := (ne_of_none (s4 _ _ (s3 _ _ (s2 _ _ g1))) hrd).symm
    have gld := k6 (s5 _ _ (s4 _ _ (s3 _ _ g2))) n1
    have ghl := k6 (s5 _ _ (s4 _ _ g3)) n2
    have grd := k6 g5 n3
    have ghd : (upd H5 hd (.dK kvs)) hd = some (.dK kvs) := upd_same
    have s06 : Same H (upd H5 hd (.dK kvs)) := fun x o h => k6 (s05 _ _ h) (ne_of_none h hhd)
    have nlh : ld ≠ hl := ne_of_none g2 hhl
    have nlr : ld ≠ rd := ne_of_none (s4 _ _ (s3 _ _ g2)) hrd
    have nhr : hl ≠ rd := ne_of_none (s4 _ _ g3) hrd
    have dn : ∀ {H' : Hp} {x : Addr}, Same H H' → H' x = none → H x = none := fun {H' x} s h => by
      cases e : H x with
      | none => rfl
      | some o =>
        have := s _ _ e
        rw [h] at this
        cases this
    have f1 := dn s1 hld
    have f2 := dn (s1.trans s2) hhl
    have f3 := dn s04 hrd
    show tSeq _ _ _ [some (.ref t), some (.ref td), some (.ref ts), some (.ref hd), none, none] (upd H5 hd (.dK kvs))
    generalize (upd H5 hd (.dK kvs)) = H6 at gld ghl grd ghd s06
    have hts6 := s06 _ _ hts
    refine ⟨_, rfl, ts, rfl, ⟨_, .of hts6⟩, for_tup (K := K) (a := ts) (xs := ss.map V.int) (fun i σ H' => (∃ z5, σ = [some (.ref t), some (.ref td), some (.ref ts), some (.ref hd), some (.int (ss.take i).sum), z5]) ∧ (∀ x o, H6 x = some o → x ≠ hl → H' x = some o) ∧
      ∃ ha : List Addr, H' hl = some (.lst (ha.map V.ref)) ∧ ha.length = i ∧ ha.Nodup ∧ (∀ a ∈ ha, H6 a = none) ∧ ∀ (j : Nat) (a : Addr), ha[j]? = some a → H' a = some (.lst ((h0F ss j).map V.int)))
      ⟨⟨none, rfl⟩, fun x o h _ => h, [], ghl, rfl, List.nodup_nil, fun a m => absurd m List.not_mem_nil, fun j a h => by simp at h⟩ (fun i σ H' _ p => .of (p.2.1 _ _ hts6 (ne_of hts6 ghl (by intro z; cases z)))) ?_ ?_⟩
    · rintro i x σ H7 hx ⟨⟨z5, rfl⟩, kp, ha, hha, lha, dha, fha, oha⟩
      obtain ⟨z, hz, rfl⟩ := get_int hx
      have hi : i < ss.length := (List.getElem?_eq_some_iff.mp hz).1
      have ez : at' ss i = z := at_nat hz
      have hz12 := G.s0 z (List.mem_of_getElem? hz)
      have hb := take_le (l := ss) (fun y hy => (G.s0 y hy).1) i
      have g7 := kp _ _ ghd n2.symm
      obtain ⟨bk0, hbk⟩ : ∃ b, b = (ss.take i).sum := ⟨_, rfl⟩
      show tSeq _ _ _ [some (.ref t), some (.ref td), some (.ref ts), some (.ref hd), some (.int (ss.take i).sum), some (.int z)] H7
      rw [← hbk] at hb ⊢
      refine ⟨_, rfl, hd, _, rfl, get_of g7 vH rfl, .inl ⟨rfl, _, SqL.of hha⟩, _, rfl, _, rfl, _, rfl, _, _, rfl, rfl, _, _, rfl, rfl, ⟨by omega, by omega, by omega, by omega, by omega⟩, fun L hL => ?_⟩
      have s8 := same_upd (o := .lst (rgV bk0 (bk0 + z))) hL
      have eL : rgV bk0 (bk0 + z) = (h0F ss i).map V.int := h0_rg hbk.symm ez
      have nL : L ≠ hl := (ne_of_none hha hL).symm
      refine ⟨hl, _, _, rfl, rfl, s8 _ _ hha, by rw [List.length_map]; exact small1000 (by omega), ?_⟩
      refine ⟨_, rfl, _, rfl, _, _, rfl, rfl, ?_⟩
      refine ⟨⟨_, by rw [take_succ hi, ← hbk, ez]; rfl⟩, fun x o h n => ?_, ha ++ [L], by rw [upd_same, List.map_append]; rfl, by rw [List.length_append, lha]; rfl, nodup_snoc dha fun m => ?_, fun a m => ?_, fun j a h => ?_⟩
      · rw [upd_ne n]
        exact s8 _ _ (kp _ _ h n)
      · obtain ⟨j, hj⟩ := List.getElem?_of_mem m
        have h1 := oha j L hj
        rw [h1] at hL
        cases hL
      · rcases List.mem_append.mp m with m | m
        · exact fha a m
        · have := List.mem_singleton.mp m
          subst this
          cases e : H6 a with
          | none => rfl
          | some o =>
            by_cases c : a = hl
            · exact absurd c nL
            · have := kp _ _ e c
              rw [hL] at this
              cases this
      · rcases get_snoc h with h | ⟨h1, rfl⟩
        · have h1 := oha j a h
          have : a ≠ hl := fun z => by
            have h3 := fha a (List.mem_of_getElem? h)
            rw [z, ghl] at h3
            cases h3
          rw [upd_ne this]
          exact s8 _ _ h1
        · rw [upd_ne nL, upd_same, h1, lha, eL]
    · rintro σ H7 ⟨⟨z5, rfl⟩, kp, ha, hha, lha, dha, fha, oha⟩
      rw [List.length_map] at lha
      have nn : ∀ {a x o}, a ∈ ha → H6 x = some o → a ≠ x := fun {a x o} m h z => by
        have := fha a m
        rw [z, h] at this
        cases this
      have S0 : DcT H7 hd ld hl rd ha (List.replicate ds.length V.non) ds 0 ss.sum (h0F ss) (fun _ => none) :=
        ⟨⟨kvs, kp _ _ ghd n2.symm, lk, vD, vH, vR, vT, vN⟩, kp _ _ gld nlh, hha, by omega, oha, kp _ _ grd nhr.symm, List.length_replicate, (fun j v h => by
          rw [List.getElem?_replicate] at h
          split at h
          · cases h
            rfl
          · cases h), nlh, nlr, nhr, fun a m => ⟨nn m gld, nn m ghl, nn m grd⟩, dha, l2, l8, fun j hj => by
          unfold h0F
          rw [List.length_map, List.length_range]
          have := (G.s0 _ (at_mem (by omega) (j : Int))).2
          omega⟩
      refine ⟨_, rfl, hd, ld, hl, rd, ha, _, ds, 0, ss.sum, _, _, rfl, S0, fun H8 cs8 kp8 S2 => ?_⟩
      refine ⟨_, rfl, q H8 hd ld hl rd ha cs8 (fun x o h => ?_) ⟨hhd, f1, f2, f3, fun a m => dn s06 (fha a m)⟩ S2⟩
      exact kp8 _ _ (kp _ _ (s06 _ _ h) (ne_of_none h f2)) (ne_of_none h f3) (fun m => by
        have := dn s06 (fha x m)
        rw [h] at this
        cases this)
end
end Rp
/-! The law's own ring in a dict: _law_diary. -/
namespace Rp
open PySem PySem.Spec PyProof.Rows L2 Rz Rm
/-- the first table -/
def tb0 (ds ss : List Int) : TSt := ⟨0, bgH (h0F ss) (fun _ => none), bgC ds 0 (h0F ss) (fun _ => none)⟩
theorem tb0_len {ds ss : List Int} (G : Good ds ss) {j : Nat} (hj : j < ds.length) : ((tb0 ds ss).hp j).length ≤ 12 := by
  refine Nat.le_trans (bgH_len (h0F ss) (fun _ => none) j) ?_
  unfold h0F
  rw [List.length_map, List.length_range]
  have ls := G.ls
  have := (G.s0 _ (at_mem (l := ss) (by omega) (j : Int))).2
  omega
section
variable {P : Program} {w : World} {K : PySem.W.Frag} {mg : Str → Option Value} {base : Heap}
def spDiD : Sp := fun vs H Q _ => ∃ (t td ts : Addr) (ds ss : List Int) (n : Nat), vs = [.ref t, .int (n : Int)] ∧ H t = some (.tup [.ref td, .ref ts]) ∧ H td = some (.tup (ds.map V.int)) ∧ H ts = some (.tup (ss.map V.int)) ∧ Good ds ss ∧ n ≤ 200 ∧
  ∀ (H' : Hp) (le : Addr) (xs : List V), Same H H' → H le = none → H' le = some (.lst xs) → Tups H' xs (dyL ds (tb0 ds ss) n) → Q (.ref le) H'
theorem ok_diD (T : Tx K mg) : FnOk P w K mg base CX0 4 T.a_ldiary T.d_ldiary P_ldiary spDiD := by
  refine T.F_ldiary.ok sc_ldiary (fun vs H Q E h => ?_) (fun cdv A outer s0 H vs Q E hr h => ?_)
  · obtain ⟨t, td, ts, ds, ss, n, rfl, _⟩ := h
    rfl
  · obtain ⟨t, td, ts, ds, ss, n, rfl, ht, htd, hts, G, hn, q⟩ := h
    have nd := sc_ldiary.nd
    refine ⟨_, pss_cons (ps_par (i := 2) (j := 3) rfl nd rfl rfl (by decide) rfl rfl (pa_cons (pe_call (ok_firstD T) hr (by rfl) T.g_lfirst T.F_lfirst.kp T.b_lfirst .nil pass0 (pa_cons (pv 0) pa_nil)) (pa_cons (pe_lst pa_nil) pa_nil)) rfl)
      (pss_cons (ps_for PassesOwn.never rfl (pi_range1 (by rfl) T.z_range (pa_cons (pv 1) pa_nil)) (pg_name (i := 4) nd rfl (.inl rfl))
        (pss_one (ps_set (i := 3) nd rfl (.inl rfl) (pe_op op_cat (pv 3) (pe_call (ok_dyD T) hr (by rfl) T.g_lday T.F_lday.kp T.b_lday .nil pass0 (pa_cons (pv 2) pa_nil))))))
      (pss_one (ps_ret (pv 3)))), ?_⟩
    have l2 := G.l2
    have l8 := G.l8
    refine ⟨_, rfl, t, td, ts, ds, ss, rfl, ht, htd, hts, G, fun H1 hd ld hl rd ha cs s1 ⟨f1, f2, f3, f4, f5⟩ S => ?_⟩
    refine ⟨Nat.zero_le _, fun le hle => ?_⟩
    have u1 := same_upd (o := .lst []) hle
    have s2 := s1.trans u1
    have S2 := S.same u1
    have gle : (upd H1 le (.lst [])) le = some (.lst []) := upd_same
    have n1 : le ≠ rd := (ne_of_none S.ord hle).symm
    have n2 : le ∉ ha := fun m => by
      obtain ⟨j, hj⟩ := List.getElem?_of_mem m
      exact ne_of_none (S.hv j le hj) hle rfl
    have le0 := same_noneT s1 hle
    refine ⟨_, _, rfl, ?_⟩
    show tSeq _ _ _ [some (.ref t), some (.int (n : Int)), some (.ref hd), some (.ref le), none] (upd H1 le (.lst []))
    generalize (upd H1 le (.lst [])) = H2 at s2 S2 gle ⊢
    refine ⟨_, rfl, _, rfl, by omega, by omega, ?_⟩
    refine for_range (lo := 0) (n := ((n : Nat) : Int).toNat) (fun i σ H' => (∃ le z4, σ = [some (.ref t), some (.int (n : Int)), some (.ref hd), some (.ref le), z4] ∧ le ≠ rd ∧ le ∉ ha ∧ H le = none ∧ ∃ xs, H' le = some (.lst xs) ∧ Tups H' xs (dyL ds (tb0 ds ss) i)) ∧ Same H H' ∧
      ∃ cs', DcT H' hd ld hl rd ha cs' ds (dyN ds (tb0 ds ss) i).day ss.sum (dyN ds (tb0 ds ss) i).hp (dyN ds (tb0 ds ss) i).cu)
      ⟨⟨le, _, rfl, n1, n2, le0, [], gle, .nil⟩, s2, cs, S2⟩ ?_ ?_
    · rintro i σ H3 hi ⟨⟨le, z4, rfl, n1, n2, le0, xs, gle, TT⟩, sm, cs1, S3⟩
      have hi' : i < 200 := by omega
      refine ⟨_, rfl, _, rfl, hd, ld, hl, rd, ha, cs1, ds, ss.sum, _, rfl, S3, fun j hj => ?_, fun H4 cs4 l2' ys k4 S4 l0 gl2 T4 => ?_⟩
      · have h1 := dyN_len ds (tb0 ds ss) j i
        have h2 := tb0_len G hj
        omega
      obtain ⟨kvs3, k31, _⟩ := S3.dic
      have nhd : le ≠ hd := ne_of gle k31 (by intro z; cases z)
      have gle4 := k4 _ _ gle nhd n1 n2
      have tk : ∀ c zs, H3 c = some (.tup zs) → H4 c = some (.tup zs) := fun c zs h => k4 _ _ h (ne_of h k31 (by intro z; cases z)) (ne_of h S3.ord (by intro z; cases z)) fun m => by
        obtain ⟨j, hj⟩ := List.getElem?_of_mem m
        exact ne_of h (S3.hv j c hj) (by intro z; cases z) rfl
      have lx : xs.length ≤ i * ds.length := by rw [TT.length]; exact dyL_len ds _ i
      have ly : ys.length ≤ ds.length := by rw [T4.length]; exact enL_len _ _ _
      have lm : i * ds.length ≤ 200 * 8 := Nat.mul_le_mul (by omega) l8
      have sm4 : Same H H4 := fun x o h => k4 _ _ (sm _ _ h) (ne_of_none h f1) (ne_of_none h f4) fun m => ne_of_none h (f5 x m) rfl
      refine ⟨le, l2', xs, ys, rfl, rfl, gle4, gl2, by rw [sizeLine_eq]; omega, fun l3 hl3 => ?_⟩
      have u5 := same_upd (o := .lst (xs ++ ys)) hl3
      refine ⟨⟨l3, _, rfl, (ne_of_none S4.ord hl3).symm, fun m => ?_, same_noneT sm4 hl3, xs ++ ys, upd_same, (tups_cat (TT.mono tk) T4).mono fun c zs h => u5 _ _ h⟩, sm4.trans u5, cs4, S4.same u5⟩
      obtain ⟨j, hj⟩ := List.getElem?_of_mem m
      exact ne_of_none (S4.hv j l3 hj) hl3 rfl
    · rintro σ H3 ⟨⟨le, z4, rfl, n1, n2, le0, xs, gle, TT⟩, sm, cs1, S3⟩
      rw [show ((n : Nat) : Int).toNat = n by omega] at TT
      exact ⟨_, rfl, q H3 le xs sm le0 gle TT⟩
end
end Rp
/-! The days from the first table tell the ring's diary: mathematics. -/
namespace Rp
open PySem PySem.Spec PyProof.Rows L2 Rz Rm
noncomputable def hFn (ds ss : List Int) (x D : Int) (j : Nat) : List Int := bseg ss j (Cn (at' ds) (at' ss) j x) (at' ss j + Cn (at' ds) (at' ss) (prv ds.length j : Nat) D)
noncomputable def cFn (ds ss : List Int) (x D : Int) (j : Nat) : Option (Int × Int) := if Cn (at' ds) (at' ss) j x = Cn (at' ds) (at' ss) j D then none else some (bk ss j (Cn (at' ds) (at' ss) j D), Rm.E (at' ds) (at' ss) j (Cn (at' ds) (at' ss) j D))
section
variable {ds ss : List Int} {M : Int} (RR : Rm.Ring ds.length (at' ds) (at' ss) ss.sum ds.sum M)
include RR
theorem bg_st {j : Nat} (hj : j < ds.length) {D : Int} (hD : 0 ≤ D) {hp : Nat → List Int} {cu : Nat → Option (Int × Int)} (e1 : hp j = hFn ds ss (D - 1 + at' ds j) D j) (e2 : cu j = cFn ds ss (D - 1 + at' ds j) D j) :
    bgH hp cu j = hFn ds ss (D + at' ds j) D j ∧ bgC ds D hp cu j = cFn ds ss (D + at' ds j) D j := by
  unfold bgH bgC
  rw [e1, e2]
  unfold cFn hFn
  have d1 := RR.d1 j
  by_cases h : Cn (at' ds) (at' ss) j (D - 1 + at' ds j) = Cn (at' ds) (at' ss) j D
  · rw [if_pos h, h]
    rcases at_begin RR hj hD h with ⟨h1, h2, h3⟩ | ⟨h1, h2⟩
    · rw [bseg_cons h1, if_neg (by omega), h3, h2]
      exact ⟨rfl, rfl⟩
    · rw [h2, bseg_nil (by omega), if_pos rfl]
      exact ⟨rfl, rfl⟩
  · rw [if_neg h]
    have h1 := cn_mono RR (j : Int) (show D ≤ D - 1 + at' ds j by omega)
    have h2 := cn_mono RR (j : Int) (show D - 1 + at' ds j ≤ D + at' ds j by omega)
    have h3 := (RR.cn_next j D).2
    have h4 : Cn (at' ds) (at' ss) j (D - 1 + at' ds j) = Cn (at' ds) (at' ss) j (D + at' ds j) := by omega
    rw [← h4, if_neg h]
    exact ⟨rfl, rfl⟩
theorem enB_st {j : Nat} (hj : j < ds.length) {D : Int} (hD : 0 ≤ D) {cu : Nat → Option (Int × Int)} (e2 : cu j = cFn ds ss (D + at' ds j) D j) :
    enB (D + 1) cu j = if Kd ds ss D j = true then some (bk ss j (Cn (at' ds) (at' ss) j D)) else none := by
  unfold enB
  rw [e2]
  unfold cFn
  by_cases k : Kd ds ss D j = true
  · obtain ⟨h1, h2, h3, h4⟩ := ends_now RR hj hD k
    have hk := of_decide_eq_true k
    rw [if_pos k]
    by_cases c : Cn (at' ds) (at' ss) j (D + at' ds j) = Cn (at' ds) (at' ss) j D
    · unfold Ev at h2
      rw [if_pos c] at h2
      cases h2
    · rw [if_neg c]
      show (if Rm.E (at' ds) (at' ss) j (Cn (at' ds) (at' ss) j D) = D + 1 then _ else _) = _
      rw [if_pos hk]
  · rw [if_neg k]
    have hk : ¬ Rm.E (at' ds) (at' ss) j (Cn (at' ds) (at' ss) j D) = D + 1 := fun z => k (decide_eq_true z)
    by_cases c : Cn (at' ds) (at' ss) j (D + at' ds j) = Cn (at' ds) (at' ss) j D
    · rw [if_pos c]
    · rw [if_neg c]
      show (if Rm.E (at' ds) (at' ss) j (Cn (at' ds) (at' ss) j D) = D + 1 then _ else _) = _
      rw [if_neg hk]
theorem enC_st {j : Nat} (hj : j < ds.length) {D : Int} (hD : 0 ≤ D) {cu : Nat → Option (Int × Int)} (e2 : cu j = cFn ds ss (D + at' ds j) D j) :
    enC (D + 1) cu j = cFn ds ss (D + 1 - 1 + at' ds j) (D + 1) j := by
  unfold enC
  rw [enB_st RR hj hD e2, show D + 1 - 1 = D by omega]
  by_cases k : Kd ds ss D j = true
  · obtain ⟨h1, h2, h3, h4⟩ := ends_now RR hj hD k
    rw [if_pos k]
    show none = _
    unfold cFn
    unfold Fv at h4
    rw [show D + 1 - 1 = D by omega] at h4
    by_cases c : Cn (at' ds) (at' ss) j (D + at' ds j) = Cn (at' ds) (at' ss) j (D + 1)
    · rw [if_pos c]
    · rw [if_neg c] at h4
      cases h4
  · rw [if_neg k]
    show cu j = _
    rw [e2]
    unfold cFn
    rw [(ends_not RR hD k).1]
theorem enH_st (hss : ss.length = ds.length) {j : Nat} (hj : j < ds.length) {D : Int} (hD : 0 ≤ D) {hp : Nat → List Int} {cu : Nat → Option (Int × Int)} (e1 : hp j = hFn ds ss (D + at' ds j) D j)
    (e2 : ∀ i, i < ds.length → cu i = cFn ds ss (D + at' ds i) D i) : enH ds.length (D + 1) hp cu j = hFn ds ss (D + 1 - 1 + at' ds j) (D + 1) j := by
  have hp' := prv_lt hj
  unfold enH
  rw [e1, enB_st RR hp' hD (e2 _ hp'), show D + 1 - 1 = D by omega]
  unfold hFn
  have cap := cn_cap RR j D
  rw [← Cn_prv RR hj] at cap
  by_cases k : Kd ds ss D (prv ds.length j) = true
  · obtain ⟨h1, _⟩ := ends_now RR hp' hD k
    rw [if_pos k, h1]
    have ej : nx ds.length (prv ds.length j) = j := (prv_inj hj hp' rfl).symm
    have c0 := (RR.cn (prv ds.length j : Nat) D).1
    have hb := bk_comes RR hss hp' c0
    rw [ej] at hb
    rw [show at' ss j + (Cn (at' ds) (at' ss) (prv ds.length j : Nat) D + 1) = at' ss j + Cn (at' ds) (at' ss) (prv ds.length j : Nat) D + 1 by omega, bseg_snoc cap, hb]
    rfl
  · rw [if_neg k, (ends_not RR hD k).1]
    exact List.append_nil _
/-- the table after some days -/
theorem dy_st (hss : ss.length = ds.length) : ∀ n : Nat, (dyN ds (tb0 ds ss) n).day = n ∧ (∀ j, j < ds.length → (dyN ds (tb0 ds ss) n).hp j = hFn ds ss ((n : Int) + at' ds j) n j) ∧ ∀ j, j < ds.length → (dyN ds (tb0 ds ss) n).cu j = cFn ds ss ((n : Int) + at' ds j) n j
  | 0 => by
    have h : ∀ j, j < ds.length → bgH (h0F ss) (fun _ => none) j = hFn ds ss (0 + at' ds j) 0 j ∧ bgC ds 0 (h0F ss) (fun _ => none) j = cFn ds ss (0 + at' ds j) 0 j := fun j hj => by
      have z0 : ∀ i : Nat, Cn (at' ds) (at' ss) i 0 = 0 := z_first RR
      have z1 : Cn (at' ds) (at' ss) j (0 - 1 + at' ds j) = 0 := cn_zero RR (by omega)
      refine bg_st RR hj (Int.le_refl 0) ?_ ?_
      · unfold h0F hFn bseg
        rw [z0, z1, show (at' ss j + 0 - 0).toNat = (at' ss j).toNat by omega]
        refine List.map_congr_left fun i hi => ?_
        have hi' := List.mem_range.mp hi
        rw [bk_first RR hss hj (n := 0 + (i : Int)) (by omega) (by omega)]
        omega
      · unfold cFn
        rw [if_pos (z1.trans (z0 j).symm)]
    exact ⟨rfl, fun j hj => (h j hj).1, fun j hj => (h j hj).2⟩
  | n + 1 => by
    obtain ⟨i1, i2, i3⟩ := dy_st hss n
    have e : ((n + 1 : Nat) : Int) = (n : Int) + 1 := by omega
    have n0 : (0 : Int) ≤ n := by omega
    have h : ∀ j, j < ds.length → (dyN ds (tb0 ds ss) (n + 1)).hp j = hFn ds ss ((n : Int) + 1 + at' ds j) ((n : Int) + 1) j ∧ (dyN ds (tb0 ds ss) (n + 1)).cu j = cFn ds ss ((n : Int) + 1 + at' ds j) ((n : Int) + 1) j := fun j hj => by
      show bgH (enH ds.length ((dyN ds (tb0 ds ss) n).day + 1) _ _) (enC ((dyN ds (tb0 ds ss) n).day + 1) _) j = _ ∧ bgC ds ((dyN ds (tb0 ds ss) n).day + 1) (enH ds.length ((dyN ds (tb0 ds ss) n).day + 1) _ _) (enC ((dyN ds (tb0 ds ss) n).day + 1) _) j = _
      rw [i1]
      exact bg_st RR hj (by omega) (enH_st RR hss hj n0 (i2 j hj) i3) (enC_st RR hj n0 (i3 j hj))
    refine ⟨?_, fun j hj => ?_, fun j hj => ?_⟩
    · show (dyN ds (tb0 ds ss) n).day + 1 = _
      rw [i1, e]
    · rw [e]
      exact (h j hj).1
    · rw [e]
      exact (h j hj).2
theorem enL_st {D : Int} (hD : 0 ≤ D) {cu : Nat → Option (Int × Int)} (e2 : ∀ i, i < ds.length → cu i = cFn ds ss (D + at' ds i) D i) : ∀ {n : Nat}, n ≤ ds.length → enL (D + 1) cu n = (Kx ds ss D n).map (rec ds ss D)
  | 0, _ => rfl
  | n + 1, h => by
    rw [enL_suc, enL_st hD e2 (n := n) (by omega), enB_st RR (by omega) hD (e2 n (by omega)), kx_succ]
    by_cases k : Kd ds ss D n = true
    · rw [if_pos k, if_pos k, List.map_append]
      rfl
    · rw [if_neg k, if_neg k]
      exact List.append_nil _
/-- what ends on these days is the diary up to then -/
theorem dyL_pre (hss : ss.length = ds.length) : ∀ n : Nat, dyL ds (tb0 ds ss) n = Pre ds ss n 0
  | 0 => rfl
  | n + 1 => by
    obtain ⟨i1, i2, i3⟩ := dy_st RR hss n
    show dyL ds (tb0 ds ss) n ++ enL ((dyN ds (tb0 ds ss) n).day + 1) (dyN ds (tb0 ds ss) n).cu ds.length = _
    rw [dyL_pre hss n, i1, enL_st RR (by omega) i3 (Nat.le_refl _), ← pre_row]
    unfold Pre
    rw [kx_zero, List.map_nil, List.append_nil]
end
end Rp
/-! x(e, *y), x a local name that holds one of several defs. -/
namespace Rz
open PySem PySem.Spec PyProof.Rows L2 StX
section
variable {X : Cx} {CX : CXT} {k i : Nat} {E : XK} {x : Str} {e : Expr} {es : List Expr} {t : TA} {p pos : Pos}
def tCallAS (i : Nat) (S : Addr → Option Sp) (E : XK) (t : TA) : TE := fun σ H Q => ∃ f sp, σ[i]? = some (some (.ref f)) ∧ S f = some sp ∧ t σ H fun vs H1 => sp vs H1 Q E
theorem pe_callAS {S : Addr → Option Sp} (A : ∀ f sp, S f = some sp → FnR X.prog X.w X.K X.mg X.base CX k f sp ∧ PySem.W.keepIn X.K (.ref f) = true) (hr : Room k X.A) (hN : X.N[i]? = some x) (hv : Vis X.env.scope x) (hx : Passes CX X E) (ha : PA X (e :: es) t)
    (hdb : (x == ("__debug__" : Str)) = false := by decide) (hcd : (x == ("__classdict__" : Str)) = false := by decide)
    (he : starEach (e :: es) X.env = (false, eval e X.env) :: starEach es X.env := by rfl) (hst : (backTo pos (starEach es X.env)).any (·.1) = true := by rfl) : PE X (.Call (.Name x p) (e :: es) [] pos) (tCallAS i S E t) := by
  refine ⟨fun pins s σ H Q I h => ?_⟩
  obtain ⟨f, sp, hs, hS, ht⟩ := h
  obtain ⟨F, hk⟩ := A f sp hS
  refine wpAny_Call_Name_kw (thn ((pe_var (pos := p) hN hv hdb hcd).run pins s σ H (fun v H1 => v = .ref f ∧ H1 = H) I ⟨.ref f, hs, rfl, rfl⟩) fun u s1 ⟨v, H1, I1, r1, q1⟩ => ?_)
  obtain ⟨rfl, rfl⟩ := q1
  cases r1
  refine PySem.W.callWith_S2 (h₀ := X.base) I.ok.mod.kin hk (thn (ha.run pos pins s1 σ _ _ I1 ht) fun us s2 ⟨vs, H2, I2, r, q⟩ => ⟨I2.kIn, ?_⟩) he hst
  exact wpAny_call (run_fnR F hr hx I2 r q)
end
end Rz
/-! Live rings: is_operation. -/
namespace Rp
open PySem PySem.Spec PyProof.Rows L2 Rz Rm
/-- a value is an operation, or not; dB: the number of arguments by name -/
def OpV (K : PySem.W.Frag) (dB : Addr) (H : Hp) (v : V) (b : Bool) : Prop :=
  (∃ (t : Addr) (nm : Str) (args : List V) (ds : List PyData) (r : Option Value), v = .ref t ∧ H t = some (.tup (.str nm :: args)) ∧ Dp K H v (.tuple (.str nm :: ds)) ∧ SeqAt.shaped (.tuple (.str nm :: ds)) = true ∧ PySem.W.nsIn K dB nm = some r ∧
    (r = none → b = false) ∧ ∀ u, r = some u → ∃ (c : Int) (tk : Tok), u = .int c tk ∧ b = decide (((args.length + 1 : Nat) : Int) = 1 + c)) ∨
  (b = false ∧ ((∃ t : String, TyX K H v (.type t) ∧ kitB t "tuple" = some false) ∨ (∃ t, v = .ref t ∧ H t = some (.tup [])) ∨
    ∃ (t : Addr) (x : V) (xs : List V) (d : PyData) (ds : List PyData) (ty : String), v = .ref t ∧ H t = some (.tup (x :: xs)) ∧ Dp K H v (.tuple (d :: ds)) ∧ SeqAt.shaped (.tuple (d :: ds)) = true ∧ (∀ H', Same H H' → TyX K H' x (.type ty)) ∧ kitB ty "str" = some false))
theorem sh_unit : SeqAt.shaped (.tuple []) = true := by decide +kernel
section
variable {P : Program} {w : World} {K : PySem.W.Frag} {mg : Str → Option Value} {base : Heap}
def spIsOp (K : PySem.W.Frag) (dB : Addr) : Sp := fun vs H Q _ => ∃ (v : V) (b : Bool), vs = [v] ∧ OpV K dB H v b ∧ (∀ H', Same H H' → ∀ d, Dp K H v d → Dp K H' v d) ∧ ∀ H', Same H H' → Q (.bl b) H'
theorem ok_isop {dB : Addr} {es : Array DictEntry} {n : Nat} (T : Tx K mg) (gB : mg "ARGUMENTS" = some (.ref dB)) (DB : KDict K w dB es n) : FnOk P w K mg base CX0 1 T.a_is_operation T.d_is_operation P_is_operation (spIsOp K dB) := by
  refine T.F_is_operation.ok sc_is_operation (fun vs H Q E h => ?_) (fun cdv A outer s0 H vs Q E hr h => ?_)
  · obtain ⟨v, b, rfl, _⟩ := h
    rfl
  · obtain ⟨v, b, rfl, hv, dk, q⟩ := h
    refine ⟨_, pss_cons (ps_if (PW.pt (pw_or (pt_not (pt_val (pe_callB call_isi (by rfl) T.z_isinstance (by decide +kernel) (pa_cons (pv 0) (pa_cons (pe_bltn (v := .ty "tuple") (u := .type "tuple") (by rfl) T.z_tuple (by decide +kernel) rfl) pa_nil)))))
        (pw_or (pt_cmpR (op_eqD hr.units) (pv 0) (pe_tup pa_nil) (nomark _))
        (pw_or1 (pt_not (pt_val (pe_callB call_isi (by rfl) T.z_isinstance (by decide +kernel) (pa_cons (pe_ix ix_tup (pv 0) pe_int (fun _ _ => rfl)) (pa_cons (pe_bltn (v := .ty "str") (u := .type "str") (by rfl) T.z_str (by decide +kernel) rfl) pa_nil))))))))) (pss_one (ps_ret pe_bl)) pss_nil)
      (pss_one (ps_ret (pe_and (pe_cmpR (op_in_kd DB) (pe_ix ix_tup (pv 0) pe_int (fun _ _ => rfl)) (pe_glob (v := .ref dB) (by rfl) gB rfl) (by rfl))
        (pe_one (pe_cmpR op_eq (pe_callB call_len_seq (by rfl) T.z_len PySem.boot_len (pa_cons (pv 0) pa_nil)) (pe_op op_add pe_int (pe_ix ix_kdict (pe_glob (v := .ref dB) (by rfl) gB rfl) (pe_ix ix_tup (pv 0) pe_int (fun _ _ => rfl)) (fun _ _ => rfl))) (nomark _)))))), ?_⟩
    rcases hv with ⟨t, nm, args, ds, r, rfl, ht, hd, hs, hr2, h1, h2⟩ | ⟨rfl, ⟨ty, hty, hk⟩ | ⟨t, rfl, ht⟩ | ⟨t, x, xs, d, ds, ty, rfl, ht, hd, hs, hx, hk⟩⟩
    · refine ⟨_, rfl, _, .ty "tuple", .type "tuple", .type "tuple", true, rfl, .ty _, .base (.tup ht), kit_ty (by decide +kernel), true, rfl, iteF ?_⟩
      refine ⟨_, rfl, Nat.zero_le _, fun e he => ?_⟩
      have s1 := same_upd (o := .tup []) he
      refine ⟨_, _, dk _ s1 _ hd, .tup (.of upd_same) .nil, hs, sh_unit, _, rfl, iteF ?_⟩
      have ht1 := s1 _ _ ht
      refine ⟨_, rfl, t, _, 0, _, rfl, rfl, .of ht1, atI_nat (j := 0) rfl, _, .ty "str", .type "str", .type "str", true, rfl, .ty _, .base (.str nm), kit_ty (by decide +kernel), true, rfl, iteF ?_⟩
      refine ⟨_, rfl, t, _, 0, _, rfl, rfl, .of ht1, atI_nat (j := 0) rfl, nm, r, rfl, rfl, hr2, ?_⟩
      cases r with
      | none =>
        rw [h1 rfl] at q
        exact ⟨false, rfl, iteF (q _ s1)⟩
      | some u =>
        obtain ⟨c, tk, rfl, rfl⟩ := h2 u rfl
        refine ⟨true, rfl, iteT ?_⟩
        refine ⟨_, rfl, t, _, rfl, .inr (.of ht1), _, rfl, t, _, 0, _, rfl, rfl, .of ht1, atI_nat (j := 0) rfl, dB, nm, .int c, rfl, rfl, ⟨es, n, _, DB.at_, DB.lit, hr2, ⟨tk, rfl⟩⟩, _, _, rfl, rfl, rfl, ?_⟩
        have e : decide (V.int (((V.str nm :: args).length : Nat) : Int) = V.int (1 + c)) = decide (((args.length + 1 : Nat) : Int) = 1 + c) := by
          rw [List.length_cons]
          by_cases z : ((args.length + 1 : Nat) : Int) = 1 + c
          · rw [decide_eq_true z, decide_eq_true (congrArg V.int z)]
          · rw [decide_eq_false z, decide_eq_false fun y => z (V.int.inj y)]
        rw [e]
        exact q _ s1
    · exact ⟨_, rfl, _, .ty "tuple", .type ty, .type "tuple", false, rfl, .ty _, hty, kit_ty hk, false, rfl, iteT (q H (Same.refl H))⟩
    · refine ⟨_, rfl, _, .ty "tuple", .type "tuple", .type "tuple", true, rfl, .ty _, .base (.tup ht), kit_ty (by decide +kernel), true, rfl, iteF ?_⟩
      refine ⟨_, rfl, Nat.zero_le _, fun e he => ?_⟩
      have s1 := same_upd (o := .tup []) he
      exact ⟨_, _, .tup (.of (s1 _ _ ht)) .nil, .tup (.of upd_same) .nil, sh_unit, sh_unit, _, rfl, iteT (q _ s1)⟩
    · refine ⟨_, rfl, _, .ty "tuple", .type "tuple", .type "tuple", true, rfl, .ty _, .base (.tup ht), kit_ty (by decide +kernel), true, rfl, iteF ?_⟩
      refine ⟨_, rfl, Nat.zero_le _, fun e he => ?_⟩
      have s1 := same_upd (o := .tup []) he
      refine ⟨_, _, dk _ s1 _ hd, .tup (.of upd_same) .nil, hs, sh_unit, _, rfl, iteF ?_⟩
      exact ⟨_, rfl, t, _, 0, _, rfl, rfl, .of (s1 _ _ ht), atI_nat (j := 0) rfl, _, .ty "str", .type ty, .type "str", false, rfl, .ty _, hx _ s1, kit_ty hk, false, rfl, iteT (q _ s1)⟩
end
end Rp
/-! x, *y = a tuple; o.m( *e), e a list. -/
namespace Rz
open PySem PySem.Spec PyProof.Rows L2
section
variable {P : Program} {w : World} {A : Around} {E : Value → Shared → Prop} {s : Shared}
theorem first_rest {l : Addr} {xs : Array Value} {u : Value} {us : List Value} {Q : List Value → Shared → Prop} (quiet : A.handled = none) (isT : IsTup s.heap l xs) (exs : xs.toList = u :: us) (few : xs.size ≤ 1000)
    (fin : ∀ (h2 : Heap) (tk : Nat), (∀ b o, s.heap.get? b = some o → h2.get? b = some o) → Q [u, .ref h2.objs.size] { s with heap := h2.push { cls := .type "list", data := .seq us.toArray }, toks := tk }) :
    wpAny (model P w) A (unpackItems (.ref l) 2 (some 1)) Q E s := by
  have lt : l < s.heap.objs.size := by
    obtain ⟨o, ho, _⟩ := isT
    exact Heap.lt_size ho
  have ne : l ≠ s.heap.objs.size := Nat.ne_of_lt lt
  have size : xs.size = us.length + 1 := by rw [← Array.length_toList, exs, List.length_cons]
  unfold unpackItems
  refine wpAny_bind ?_
  unfold notIterableAtAll
  refine wpAny_bind (wpAny_specialOf isT.typeIs PyProof.Rows.slot_tuple_iter.lookup (wpAny_pure ?_))
  simp only [Bool.false_eq_true, if_false]
  refine wpAny_bind (wpAny_holding (iter_tuple isT ?_))
  refine wpAny_bind (wpAny_holding (draw_tuple ne 1 0 _ _ ⟨_, Heap.get?_push_size _ rfl, rfl, rfl⟩ (isT.push _) (by omega) fun h1 it1 but => ?_))
  have isT1 : IsTup h1 l xs := (isT.push _).extBut but.extBut ne
  rw [Nat.zero_add] at it1
  obtain ⟨oi, hoi, _⟩ := id it1
  obtain ⟨ol, hol, _⟩ := id isT1
  rw [List.drop_zero]
  have one : (xs.toList.take 1).length = 1 := by rw [exs]; rfl
  rw [if_neg (show ¬ ((xs.toList.take 1).length < 1) by rw [one]; decide)]
  refine wpAny_bind (wpAny_holding (PySem.W.kun_collect (s := { s with heap := h1 }) (T := "tuple_iterator") (.inr (.inr (.inr rfl))) (Walks.tuple (A := A.in1) quiet s.heap.objs.size l ne xs) (fun j v st => st.1.typeIs) (k := 1) (by omega) ⟨it1, isT1⟩ (Heap.lt_size hoi) (Heap.lt_size hol) (fun h2 tk keep => ?_) (by rw [sizeLine_eq]; omega)))
  have tl : xs.toList.drop 1 = us := by rw [exs]; rfl
  have hd : xs.toList.take 1 = [u] := by rw [exs]; rfl
  rw [tl, hd]
  have e2 : us.length - (2 - 1 - 1) = us.length := by omega
  show wpAny _ _ (if us.length < 2 - 1 - 1 then _ else _) _ _ _
  rw [if_neg (by omega)]
  show wpAny _ _ (newList (us.take (us.length - (2 - 1 - 1))) >>= fun d => pure ([u] ++ [d] ++ us.drop (us.length - (2 - 1 - 1)))) _ _ _
  rw [e2, List.take_length, List.drop_length]
  have k1 : ∀ b o, s.heap.get? b = some o → h2.get? b = some o := fun b o hb => keep b o (Nat.ne_of_lt (Heap.lt_size hb)) (but.extBut b o (Nat.ne_of_lt (Heap.lt_size hb)) (Heap.get?_push_of_some _ hb))
  refine wpAny_bind (wpAny_newObj_type (wpAny_pure (fin h2 tk k1)) ?_)
  show us.length ≤ sizeLine
  rw [sizeLine_eq]
  omega
end
section
variable {X : Cx}
/-- x, *y = a tuple of at least one item -/
def gStar1 (K : PySem.W.Frag) (t1 t2 : TG) : TG := fun v σ H Q => ∃ (a : Addr) (x : V) (xs : List V), v = .ref a ∧ SqT K H a (x :: xs) ∧ xs.length < 900 ∧ ∀ D, H D = none → t1 x σ (upd H D (.lst xs)) fun σ2 H2 => t2 (.ref D) σ2 H2 Q
theorem pg_star1 {e1 e2 : Expr} {k : Nat} {pos : Pos} {t1 t2 : TG} (hc : X.calm = true) (h1 : PG X e1 t1) (h2 : PG X e2 t2) {q : Pos}
    (hn : (assignEach [e1, .Starred e2 q] X.env).length = 2 := by rfl) (hst : (assignEach [e1, .Starred e2 q] X.env).findIdx? (·.1) = some 1 := by rfl)
    (ha : (assignEach [e1, .Starred e2 q] X.env).map (·.2) = [assign e1 X.env, assign e2 X.env] := by rfl) : PG X (.Tuple [e1, .Starred e2 q] k pos) (gStar1 X.K t1 t2) := by
  refine ⟨fun pins s σ H v u Q I r hw => ?_⟩
  obtain ⟨a, x, xs, rfl, hq, few, hw⟩ := hw
  cases r
  obtain ⟨its, rv, isT, hz⟩ := I.tuple hq
  cases rv with
  | cons rx rr =>
    rename_i ux us
    rw [arm_assign_Tuple]
    refine wpAny_bind (wpAny_standAt ?_)
    unfold unpack
    rw [hn, hst, ha]
    have lenr := rr.length
    refine wpAny_bind (wpAny_holding (first_rest (u := ux) (us := us) (I.ok.hd hc) isT (by simp) (by simp; omega) fun h' tk keep => ?_))
    have I0 : Inv X pins σ H { s with heap := h', toks := tk } := I.kept (t' := tk) keep
    have I1 : Inv X pins σ (upd H h'.objs.size (.lst xs)) { s with heap := h'.push { cls := .type "list", data := .seq us.toArray }, toks := tk } := I0.laid (t' := tk) (fun b o z => Heap.get?_push_of_some _ z) (Nat.le_refl _) ⟨by rw [sizeLine_eq]; omega, us, 0, rr, Heap.get?_push_size _ rfl⟩
    refine assignInOrder_cons (thn (h1.run pins _ σ _ x ux _ I1 rx (hw _ (I0.hok.fresh (Nat.le_refl _)))) fun _ s2 ⟨σ2, H2, I2, q2⟩ => ?_)
    exact assignInOrder_cons (thn (h2.run pins s2 σ2 H2 (.ref h'.objs.size) (.ref h'.objs.size) _ I2 rfl q2) fun _ s3 q3 => assignInOrder_nil q3)
/-- o.m( *e), e a list -/
def tMethSL (K : PySem.W.Frag) (C : Addr) (m : Str) (g : Addr) (sp : Sp) (E : XK) (ta te : TE) : TE := fun σ H Q => ta σ H fun x H1 => ∃ a dx fs, x = .ref a ∧ H1 a = some (.ins C dx fs) ∧ fs.lookup m = none ∧
  ∀ q, H1 q = none → te σ (upd H1 q (.met g a)) fun y H2 => ∃ b vs, y = .ref b ∧ SqL K H2 b vs ∧ H2 q = some (.met g a) ∧ sp (.ref a :: vs) H2 Q E
theorem pe_methSL {CX : CXT} {k : Nat} {C g : Addr} {m : Str} {sp : Sp} {E : XK} {o e : Expr} {ta te : TE} {p apos pos : Pos} (ho : PE X o ta) (c : Cls X.K C) (b : BMeth X.K C m g) (F : FnR X.prog X.w X.K X.mg X.base CX k g sp) (hr : Room k X.A)
    (hx : Passes CX X E) (he : PE X e te) (hb : attributeBase o m X.env (eval o X.env) = eval o X.env := by rfl) : PE X (.Call (.Attribute o m apos) [.Starred e p] [] pos) (tMethSL X.K C m g sp E ta te) := by
  refine ⟨fun pins s σ H Q I h => starcall_of hb (thn (ho.run pins s σ H _ I h) fun u s1 hu => ?_)⟩
  obtain ⟨x, H1, I1, rx, a, dx, fs, rfl, at1, l, q⟩ := hu
  obtain rfl : u = Value.ref a := rx
  refine getbound_ok I1 at1 c b l fun mt s2 fresh I2 => ?_
  refine PySem.W.ks_call (P := PySem.W.MethP X.K mt g (.ref a)) rfl (PySem.W.keeps_M b.fi) (PySem.W.ks_lone ?_)
  refine thn (he.run pins s2 σ _ _ I2 (q mt fresh)) fun v s3 hv => ?_
  obtain ⟨y, H2, I3, ry, t, vs, rfl, ht, hm, call⟩ := hv
  obtain rfl : v = Value.ref t := ry
  refine StX.star_lst I3 ht fun us s4 I4 rv => ⟨met_P I4 hm, ?_⟩
  refine wpAny_call (PySem.W.method_call (met_P I4 hm).1 ?_)
  exact run_fnR (us := Value.ref a :: us) (vs := V.ref a :: vs) F hr hx I4 (.cons rfl rv) call
end
end Rz
/-! Live rings: carry_out. -/
namespace Rp
open PySem PySem.Spec PyProof.Rows L2 Rz Rm
section
variable {P : Program} {w : World} {K : PySem.W.Frag} {mg : Str → Option Value} {base : Heap}
/-- dA: the actions by name; S: what they promise -/
def spCarry (K : PySem.W.Frag) (dA : Addr) (S : Addr → Option Sp) : Sp := fun vs H Q E => ∃ (tb : V) (op f : Addr) (nm : Str) (args : List V) (sp : Sp), vs = [tb, .ref op] ∧ H op = some (.tup (.str nm :: args)) ∧ args.length < 900 ∧ PySem.W.nsIn K dA nm = some (some (.ref f)) ∧ S f = some sp ∧
  ∀ H', Same H H' → sp (tb :: args) H' Q E
theorem ok_carry {dA : Addr} {es : Array DictEntry} {n k : Nat} {S : Addr → Option Sp} (T : Tx K mg) (gA : mg "ACTIONS" = some (.ref dA)) (DA : KDict K w dA es n)
    (A0 : ∀ f sp, S f = some sp → FnR P w K mg base (L2.CX P w) k f sp ∧ PySem.W.keepIn K (.ref f) = true) : FnOk P w K mg base (L2.CX P w) (k + 1) T.a_carry_out T.d_carry_out P_carry_out (spCarry K dA S) := by
  refine T.F_carry_out.okX sc_carry_out (fun vs H Q E h => ?_) (fun cdv A outer s0 H vs Q E hr h => ?_)
  · obtain ⟨tb, op, f, nm, args, sp, rfl, _⟩ := h
    rfl
  · obtain ⟨tb, op, f, nm, args, sp, rfl, ho, l9, hf, hS, q⟩ := h
    have nd := sc_carry_out.nd
    refine ⟨_, pss_cons (ps_asg (pv 1) (pg_star1 rfl (pg_name (i := 2) nd rfl (.inl rfl)) (pg_name (i := 3) nd rfl (.inl rfl))))
      (pss_cons (ps_set (i := 4) nd rfl (.inl rfl) (pe_ix ix_kdict (pe_glob (v := .ref dA) (by rfl) gA rfl) (pv 2) (fun _ _ => rfl)))
      (pss_one (ps_ret (pe_callAS (i := 4) (E := E) A0 hr rfl (.inl rfl) (passes_call (takes_of rfl rfl rfl rfl) (fun _ _ _ _ z => z)) (pa_cons (pv 0) (StX.pa_star (pv 3) pa_nil)))))), ?_⟩
    refine ⟨_, rfl, op, _, args, rfl, .of ho, l9, fun D hD => ?_⟩
    have s1 := same_upd (o := .lst args) hD
    refine ⟨_, rfl, dA, nm, .ref f, rfl, rfl, ⟨es, n, _, DA.at_, DA.lit, hf, rfl⟩, ?_⟩
    refine ⟨f, sp, rfl, hS, _, rfl, _, rfl, D, args, rfl, .inr (.of upd_same), ?_⟩
    have e := q _ s1
    show sp (tb :: (args ++ [])) _ Q E
    rw [List.append_nil]
    exact e
end
end Rp
/-! Live rings: courses, executed. -/
namespace Rp
open PySem PySem.Spec PyProof.Rows L2 Rz Rm
/-- a course's attributes -/
def coF (tt ot ut : Addr) : List (Str × V) := [("tables", .ref tt), ("operations", .ref ot), ("undone", .ref ut)]
structure Co (cC : Addr) (H : Hp) (co dxc tt ot ut : Addr) (tabs : List Addr) (ops und : List V) : Prop where
  ob : H co = some (.ins cC dxc (coF tt ot ut))
  ht : H tt = some (.tup (tabs.map V.ref))
  hop : H ot = some (.tup ops)
  hu : H ut = some (.tup und)
theorem Co.same {cC : Addr} {H H' : Hp} {co dxc tt ot ut : Addr} {tabs : List Addr} {ops und : List V} (c : Co cC H co dxc tt ot ut tabs ops und) (s : Same H H') : Co cC H' co dxc tt ot ut tabs ops und := ⟨s _ _ c.ob, s _ _ c.ht, s _ _ c.hop, s _ _ c.hu⟩
section
variable {P : Program} {w : World} {K : PySem.W.Frag} {mg : Str → Option Value} {base : Heap}
def spCi (cC : Addr) : Sp := fun vs H Q _ => ∃ (co dxc tt ot ut : Addr) (t1 t2 t3 : List V), vs = [.ref co, .ref tt, .ref ot, .ref ut] ∧ H co = some (.ins cC dxc []) ∧ H tt = some (.tup t1) ∧ H ot = some (.tup t2) ∧ H ut = some (.tup t3) ∧
  ∀ H', H' co = some (.ins cC dxc (coF tt ot ut)) → (∀ b, b ≠ co → H' b = H b) → Q .non H'
theorem ok_ci (T : Tx K mg) : FnOk P w K mg base CX0 1 T.a_cinit T.d_cinit P_cinit (spCi T.cC) := by
  refine T.F_cinit.ok sc_cinit (fun vs H Q E h => ?_) (fun cdv A outer s0 H vs Q E hr h => ?_)
  · obtain ⟨co, dxc, tt, ot, ut, t1, t2, t3, rfl, _⟩ := h
    rfl
  · obtain ⟨co, dxc, tt, ot, ut, t1, t2, t3, rfl, hc, h1, h2, h3, q⟩ := h
    refine ⟨_, pss_cons (ps_fld (pv 0) (pv 1) rfl) (pss_cons (ps_fld (pv 0) (pv 2) rfl) (pss_one (ps_fld (pv 0) (pv 3) rfl))), ?_⟩
    refine ⟨_, rfl, _, rfl, co, T.cC, dxc, _, rfl, hc, T.clc, T.nc_tables, (by show 0 < 1000; decide), ?_⟩
    refine ⟨_, rfl, _, rfl, co, T.cC, dxc, _, rfl, upd_same, T.clc, T.nc_operations, (by show 1 < 1000; decide), ?_⟩
    refine ⟨_, rfl, _, rfl, co, T.cC, dxc, _, rfl, upd_same, T.clc, T.nc_undone, (by show 2 < 1000; decide), ?_⟩
    rw [upd_upd, upd_upd]
    exact q _ upd_same fun b n => upd_ne n
/-- a table's last copy is carried on; what the action gives and the new course come back -/
def spEx (K : PySem.W.Frag) (C tC cC dA : Addr) (S : Addr → Option Sp) : Sp := fun vs H Q E => ∃ (co dxc tt ot ut op tb dxt p dx td ts hl cl : Addr) (tabs : List Addr) (ops und os : List V) (ha : List Addr) (cs : List V) (ds ss : List Int) (day coming : Int) (hp : Nat → List Int) (cu : Nat → Option (Int × Int)),
  vs = [.ref co, .ref op] ∧ Co cC H co dxc tt ot ut (tabs ++ [tb]) ops und ∧ tabs.length ≤ 800 ∧ ops.length ≤ 800 ∧ H op = some (.tup os) ∧ LvT C tC H tb dxt p dx td ts hl cl ha cs ds ss day coming hp cu ∧
  ∀ H1 t2 dxt2 hl2 cl2, Same H H1 → H t2 = none → H hl2 = none → H cl2 = none → LvT C tC H1 t2 dxt2 p dx td ts hl2 cl2 ha cs ds ss day coming hp cu →
    ∃ R : V → Hp → Prop, (∀ Q2 : VK, (∀ v H2, R v H2 → Q2 v H2) → spCarry K dA S [.ref t2, .ref op] H1 Q2 E) ∧ ∀ v H2, R v H2 → KT t2 hl2 cl2 H1 H2 ∧ ∀ H3 r c2 dx2 tt2 ot2 ut2, Same H2 H3 → H2 c2 = none → Co cC H3 c2 dx2 tt2 ot2 ut2 (tabs ++ [tb] ++ [t2]) (ops ++ [.ref op]) [] → H3 r = some (.tup [v, .ref c2]) → Q (.ref r) H3
theorem ok_ex {dA : Addr} {es : Array DictEntry} {n k : Nat} {S : Addr → Option Sp} (T : Tx K mg) (gA : mg "ACTIONS" = some (.ref dA)) (DA : KDict K w dA es n) (hk : 3 ≤ k + 1)
    (A0 : ∀ f sp, S f = some sp → FnR P w K mg base (L2.CX P w) k f sp ∧ PySem.W.keepIn K (.ref f) = true) : FnOk P w K mg base (L2.CX P w) (k + 2) T.a_executed T.d_executed P_executed (spEx K T.C T.tC T.cC dA S) := by
  refine T.F_executed.okX sc_executed (fun vs H Q E h => ?_) (fun cdv A outer s0 H vs Q E hr h => ?_)
  · obtain ⟨co, dxc, tt, ot, ut, op, tb, dxt, p, dx, td, ts, hl, cl, tabs, ops, und, os, ha, cs, ds, ss, day, coming, hp, cu, rfl, _⟩ := h
    rfl
  · obtain ⟨co, dxc, tt, ot, ut, op, tb, dxt, p, dx, td, ts, hl, cl, tabs, ops, und, os, ha, cs, ds, ss, day, coming, hp, cu, rfl, O, l1, l2, ho, M, q⟩ := h
    have nd := sc_executed.nd
    refine ⟨_, pss_cons (ps_set (i := 2) nd rfl (.inl rfl) (pe_call (ok_cp T) (hr.mono hk) (by rfl) T.g_copied_table T.F_copied_table.kp T.b_copied_table .nil pass0 (pa_cons (pe_ix ix_tup (pe_fld (pv 0) rfl) (pe_un un_neg pe_int) (fun _ _ => rfl)) pa_nil)))
      (pss_cons (ps_set (i := 3) nd rfl (.inl rfl) (pe_call (E := E) (ok_carry T gA DA A0) hr (by rfl) T.g_carry_out T.F_carry_out.kp T.b_carry_out .nil (passes_call (takes_of rfl rfl rfl rfl) (fun _ _ _ _ z => z)) (pa_cons (pv 2) (pa_cons (pv 1) pa_nil))))
      (pss_one (ps_ret (pe_tup (pa_cons (pv 3) (pa_cons (pe_make T.mkc (ok_ci T) (hr.mono (by omega)) (by rfl) T.gcC T.b_cinit .nil pass0 (pa_cons (pe_op op_catA (pe_fld (pv 0) rfl) (pe_tup (pa_cons (pv 2) pa_nil))) (pa_cons (pe_op op_catA (pe_fld (pv 0) rfl) (pe_tup (pa_cons (pv 1) pa_nil))) (pa_cons (pe_tup pa_nil) pa_nil)))) pa_nil)))))), ?_⟩
    refine ⟨_, rfl, co, _, dxc, _, _, rfl, O.ob, T.clc, T.nc_tables, rfl, _, rfl, tt, _, _, .ref tb, rfl, rfl, .of O.ht, by rw [List.map_append]; exact atI_last _ _, tb, dxt, p, dx, td, ts, hl, cl, ha, cs, ds, ss, day, coming, hp, cu, rfl, M, fun H1 t2 dxt2 hl2 cl2 s1 n1 n2 n3 M2 => ?_⟩
    obtain ⟨R, hq, hR⟩ := q H1 t2 dxt2 hl2 cl2 s1 n1 n2 n3 M2
    refine ⟨_, rfl, _, rfl, hq _ fun v H2 hv => ?_⟩
    obtain ⟨k2, hQ⟩ := hR v H2 hv
    have s2 : Same H H2 := fun b o e => k2 b o (s1 _ _ e) (ne_of_none e n1) (ne_of_none e n2) (ne_of_none e n3)
    have O2 := O.same s2
    refine ⟨_, rfl, _, rfl, co, _, dxc, _, _, rfl, O2.ob, T.clc, T.nc_tables, rfl, _, rfl, (by show 1 ≤ sizeLine; decide), fun ta hta => ?_⟩
    have u1 := same_upd (o := .tup [.ref t2]) hta
    have O3 := O2.same u1
    refine cat_any O3.ht upd_same (by rw [List.length_map, List.length_append]; exact Nat.le_of_lt (small1000 (by show _ + 1 + 1 ≤ 1000; omega))) fun Ha tt2 sa hta2 => ?_
    have O4 := O3.same sa
    refine ⟨_, rfl, co, _, dxc, _, _, rfl, O4.ob, T.clc, T.nc_operations, rfl, _, rfl, (by show 1 ≤ sizeLine; decide), fun tb2 htb2 => ?_⟩
    have u2 := same_upd (o := .tup [.ref op]) htb2
    have O5 := O4.same u2
    refine cat_any O5.hop upd_same (Nat.le_of_lt (small1000 (by show _ + 1 ≤ 1000; omega))) fun Hb ot2 sb hob2 => ?_
    refine ⟨Nat.zero_le _, fun tu htu => fun c2 d2 nc2 nd2 ne2 => ?_⟩
    have u3 := same_upd (o := .tup []) htu
    have hTT := u3 _ _ (sb _ _ (u2 _ _ hta2))
    have hOT := u3 _ _ hob2
    have hUT : (upd Hb tu (.tup [])) tu = some (.tup []) := upd_same
    have sall : Same H2 (upd Hb tu (.tup [])) := (((u1.trans sa).trans u2).trans sb).trans u3
    have c0 : H2 c2 = none := same_noneT sall nc2
    have sn : Same (upd Hb tu (.tup [])) (upd (upd (upd Hb tu (.tup [])) d2 (.own c2)) c2 (.ins T.cC d2 [])) := fun b o e => by
      rw [upd_ne (ne_of_none e nc2), upd_ne (ne_of_none e nd2)]
      exact e
    refine ⟨c2, d2, tt2, ot2, tu, _, _, _, rfl, upd_same, sn _ _ hTT, sn _ _ hOT, sn _ _ hUT, fun H' ob' kp' => ⟨rfl, (by show 2 ≤ sizeLine; decide), fun r hr => ?_⟩⟩
    have s' : Same (upd Hb tu (.tup [])) H' := fun b o e => by
      rw [kp' b (ne_of_none e nc2)]
      exact sn _ _ e
    have sr := same_upd (o := .tup [v, .ref c2]) hr
    refine hQ _ r c2 d2 tt2 ot2 tu ((sall.trans s').trans sr) c0 ⟨sr _ _ ob', ?_, sr _ _ (s' _ _ hOT), sr _ _ (s' _ _ hUT)⟩ upd_same
    rw [sr _ _ (s' _ _ hTT), List.map_append (l₁ := tabs ++ [tb])]
    rfl
end
end Rp
/-! Live rings: made. -/
namespace Rp
open PySem PySem.Spec PyProof.Rows L2 Rz Rm
/-- a live ring's attributes -/
def liF (co : Addr) (kept : V) : List (Str × V) := [("_course", .ref co), ("_kept", kept)]
section
variable {P : Program} {w : World} {K : PySem.W.Frag} {mg : Str → Option Value} {base : Heap}
def spLi (C tC cC vC : Addr) : Sp := fun vs H Q _ => ∃ (lr dxl p dx td ts : Addr) (ds ss : List Int), vs = [.ref lr, .ref p] ∧ H lr = some (.ins vC dxl []) ∧ RingAt C H p dx td ts ds ss ∧
  ∀ H' co dxc tt ot ut tb dxt hl cl ha cs, (∀ b o, H b = some o → b ≠ lr → H' b = some o) → H co = none → H tb = none → H hl = none → H cl = none → H' lr = some (.ins vC dxl (liF co .non)) → Co cC H' co dxc tt ot ut [tb] [] [] →
    LvT C tC H' tb dxt p dx td ts hl cl ha cs ds ss 0 ss.sum (bgH (h0F ss) (fun _ => none)) (bgC ds 0 (h0F ss) (fun _ => none)) → Q .non H'
theorem ok_li (T : Tx K mg) : FnOk P w K mg base CX0 5 T.a_vinit T.d_vinit P_vinit (spLi T.C T.tC T.cC T.vC) := by
  refine T.F_vinit.ok sc_vinit (fun vs H Q E h => ?_) (fun cdv A outer s0 H vs Q E hr h => ?_)
  · obtain ⟨lr, dxl, p, dx, td, ts, ds, ss, rfl, _⟩ := h
    rfl
  · obtain ⟨lr, dxl, p, dx, td, ts, ds, ss, rfl, hlr, R, q⟩ := h
    refine ⟨_, pss_cons (ps_fld (pv 0) (pe_make T.mkc (ok_ci T) (hr.mono (by decide : 2 ≤ 4)) (by rfl) T.gcC T.b_cinit .nil pass0 (pa_cons (pe_tup (pa_cons (pe_call (ok_ft T) hr (by rfl) T.g_first_table T.F_first_table.kp T.b_first_table .nil pass0 (pa_cons (pv 1) pa_nil)) pa_nil)) (pa_cons (pe_tup pa_nil) (pa_cons (pe_tup pa_nil) pa_nil)))) rfl)
      (pss_one (ps_fld (pv 0) pe_non rfl)), ?_⟩
    refine ⟨_, rfl, p, dx, td, ts, ds, ss, rfl, R, fun H1 tb dxt hl cl ha cs s1 n1 n2 n3 M => ⟨(by show 1 ≤ sizeLine; decide), fun tt htt => ⟨Nat.zero_le _, fun ot hot => ⟨Nat.zero_le _, fun ut hut => fun co dxc nco ndxc ne => ?_⟩⟩⟩⟩
    have u1 := same_upd (o := .tup [.ref tb]) htt
    have u2 := same_upd (o := .tup []) hot
    have u3 := same_upd (o := .tup []) hut
    have sn : Same (upd (upd (upd H1 tt (.tup [.ref tb])) ot (.tup [])) ut (.tup [])) (upd (upd (upd (upd (upd H1 tt (.tup [.ref tb])) ot (.tup [])) ut (.tup [])) dxc (.own co)) co (.ins T.cC dxc [])) := fun b o e => by
      rw [upd_ne (ne_of_none e nco), upd_ne (ne_of_none e ndxc)]
      exact e
    have g1 : (upd (upd (upd H1 tt (.tup [.ref tb])) ot (.tup [])) ut (.tup [])) tt = some (.tup [.ref tb]) := u3 _ _ (u2 _ _ upd_same)
    have g2 : (upd (upd (upd H1 tt (.tup [.ref tb])) ot (.tup [])) ut (.tup [])) ot = some (.tup []) := u3 _ _ upd_same
    have g3 : (upd (upd (upd H1 tt (.tup [.ref tb])) ot (.tup [])) ut (.tup [])) ut = some (.tup []) := upd_same
    have s13 := (u1.trans u2).trans u3
    generalize (upd (upd (upd H1 tt (.tup [.ref tb])) ot (.tup [])) ut (.tup [])) = H4 at nco ndxc sn g1 g2 g3 s13 ⊢
    refine ⟨co, dxc, tt, ot, ut, _, _, _, rfl, upd_same, sn _ _ g1, sn _ _ g2, sn _ _ g3, fun H5 ob' kp' => ⟨rfl, ?_⟩⟩
    have s5 : Same H4 H5 := fun b o e => by
      rw [kp' b (ne_of_none e nco)]
      exact sn _ _ e
    have S5 : Same H H5 := (s1.trans s13).trans s5
    have c0 : H co = none := same_noneT (s1.trans s13) nco
    refine ⟨_, rfl, lr, T.vC, dxl, _, rfl, S5 _ _ hlr, T.clv, T.nv__course, (by show 0 < 1000; decide), ?_⟩
    refine ⟨_, rfl, lr, T.vC, dxl, _, rfl, upd_same, T.clv, T.nv__kept, (by show 1 < 1000; decide), ?_⟩
    rw [upd_upd]
    have ke : ∀ {x o}, H5 x = some o → x ≠ lr → ∀ {o2 : HO}, (upd H5 lr o2) x = some o := fun {x o} h n {o2} => (upd_ne n).trans h
    have nl : ∀ {x o}, H5 x = some o → (∀ fs, o ≠ .ins T.vC dxl fs) → x ≠ lr := fun {x o} e n z => by
      rw [z, S5 _ _ hlr] at e
      exact n _ (Option.some.inj e).symm
    have M5 := (M.same s13).same s5
    have tl : tb ≠ lr := (ne_of_none hlr n1).symm
    have pl : p ≠ lr := fun z => by
      have h1 := R.ob
      rw [z, hlr] at h1
      have h2 := Option.some.inj h1
      injection h2 with _ _ h3
      have h5 := flds_days td ts
      rw [← h3] at h5
      cases h5
    refine q _ co dxc tt ot ut tb dxt hl cl ha cs (fun b o e n => ke (S5 _ _ e) n) c0 n1 n2 n3 upd_same ⟨ke ob' (ne_of_none hlr c0).symm, ke (s5 _ _ g1) (nl (s5 _ _ g1) fun _ z => by cases z), ke (s5 _ _ g2) (nl (s5 _ _ g2) fun _ z => by cases z), ke (s5 _ _ g3) (nl (s5 _ _ g3) fun _ z => by cases z)⟩ ?_
    exact ⟨ke M5.ob tl, ⟨ke M5.R.ob pl, ke M5.R.td (nl M5.R.td fun _ z => by cases z), ke M5.R.ts (nl M5.R.ts fun _ z => by cases z), M5.R.ok⟩, ke M5.fh (nl M5.fh fun _ z => by cases z), M5.lh, fun j a h => ke (M5.hv j a h) (nl (M5.hv j a h) fun _ z => by cases z), ke M5.fc (nl M5.fc fun _ z => by cases z), M5.lc, fun j v h => (M5.cv j v h).tups fun c ys e => ke e (nl e fun _ z => by cases z), M5.ne, M5.sm⟩
end
end Rp
/-! Live rings: apply of one operation. -/
namespace Rp
open PySem PySem.Spec PyProof.Rows L2 Rz Rm
section
variable {P : Program} {w : World} {K : PySem.W.Frag} {mg : Str → Option Value} {base : Heap}
/-- apply with its arguments in a tuple, one valid operation -/
def spAp1 (K : PySem.W.Frag) (C tC cC vC dA dB : Addr) (S : Addr → Option Sp) : Sp := fun vs H Q E => ∃ (lr dxl ot0 co dxc tt ot ut op tb dxt p dx td ts hl cl : Addr) (kept : V) (tabs : List Addr) (opl und os : List V) (ha : List Addr) (cs : List V) (ds ss : List Int) (day coming : Int) (hp : Nat → List Int) (cu : Nat → Option (Int × Int)),
  vs = [.ref lr, .ref ot0] ∧ H lr = some (.ins vC dxl (liF co kept)) ∧ H ot0 = some (.tup [.ref op]) ∧ Co cC H co dxc tt ot ut (tabs ++ [tb]) opl und ∧ tabs.length ≤ 800 ∧ opl.length ≤ 800 ∧ H op = some (.tup os) ∧ (∀ H', Same H H' → OpV K dB H' (.ref op) true ∧ ∀ H2, Same H' H2 → ∀ d, Dp K H' (.ref op) d → Dp K H2 (.ref op) d) ∧ LvT C tC H tb dxt p dx td ts hl cl ha cs ds ss day coming hp cu ∧
  ∀ H1 t2 dxt2 hl2 cl2, Same H H1 → H t2 = none → H hl2 = none → H cl2 = none → LvT C tC H1 t2 dxt2 p dx td ts hl2 cl2 ha cs ds ss day coming hp cu →
    ∃ R : V → Hp → Prop, (∀ Q2 : VK, (∀ v H2, R v H2 → Q2 v H2) → spCarry K dA S [.ref t2, .ref op] H1 Q2 E) ∧ ∀ v H2, R v H2 → KT t2 hl2 cl2 H1 H2 ∧ ∀ H3 L c2 dx2 tt2 ot2 ut2, (∀ b o, H2 b = some o → b ≠ lr → b ≠ L → H3 b = some o) → H3 lr = some (.ins vC dxl (liF c2 kept)) → H3 L = some (.lst [v]) → H L = none → H1 L = some (.lst []) → L ≠ t2 → L ≠ hl2 → L ≠ cl2 →
      Co cC H3 c2 dx2 tt2 ot2 ut2 (tabs ++ [tb] ++ [t2]) (opl ++ [.ref op]) [] → Q (.ref L) H3
def spApR (K : PySem.W.Frag) (C tC cC vC dA dB : Addr) (S : Addr → Option Sp) : Sp := fun vs H Q E => ∃ ws rest, vs = ws ++ rest ∧ ws.length = (["self"] : List Str).length ∧ rest.length ≤ sizeLine ∧ ∀ p, H p = Option.none → spAp1 K C tC cC vC dA dB S (ws ++ [V.ref p]) (upd H p (.tup rest)) Q E
theorem ok_ap {dA dB : Addr} {es eb : Array DictEntry} {n m k : Nat} {S : Addr → Option Sp} (T : Tx K mg) (gA : mg "ACTIONS" = some (.ref dA)) (DA : KDict K w dA es n) (gB : mg "ARGUMENTS" = some (.ref dB)) (DB : KDict K w dB eb m) (hk : 3 ≤ k + 1)
    (A0 : ∀ f sp, S f = some sp → FnR P w K mg base (L2.CX P w) k f sp ∧ PySem.W.keepIn K (.ref f) = true) : FnR P w K mg base (L2.CX P w) (k + 3) T.a_vapply (spApR K T.C T.tC T.cC T.vC dA dB S) := by
  obtain ⟨oc, od, kV, doc, pm, an, cdv, ct, osl, e, lk, hcd⟩ := T.F_vapply.ex
  rw [e] at lk
  refine StX.fn_star (ps := ["self"]) (pv := "operations") lk hcd sc_vapply ?_ ?_ ?_
  · exact StX.cxUp
  · exact StX.bind_star1 (B := fun us => bindArgs (PySem.W.fnOf "apply" "LiveRing.apply" (defArgs s_vapply) (defBody s_vapply) (defScope s_vapply) .none kV doc pm an cdv ct) ⟨us, []⟩) (fun a => rfl) (fun a r rs => rfl)
  · intro A outer s H vs Q E hr h
    obtain ⟨lr, dxl, ot0, co, dxc, tt, ot, ut, op, tb, dxt, p, dx, td, ts, hl, cl, kept, tabs, opl, und, os, ha, cs, ds, ss, day, coming, hp, cu, rfl, hlr, ho0, O, l1, l2, hop, hov, M, q⟩ := h
    have nd := sc_vapply.nd
    refine ⟨_, pss_cons (ps_for (passes_of rfl) rfl (pi_enumT (by rfl) T.z_enumerate (pa_cons (pv 1) pa_nil)) (pg_tup rfl (pgs_cons (pg_name (i := 2) nd rfl (.inl rfl)) (pgs_cons (pg_name (i := 3) nd rfl (.inl rfl)) pgs_nil)))
        (pss_one (ps_if (pt_not (pt_val (pe_call (ok_isop T gB DB) (hr.mono (by omega)) (by rfl) T.g_is_operation T.F_is_operation.kp T.b_is_operation .nil pass0 (pa_cons (pv 3) pa_nil)))) (pss_one ps_never) pss_nil)))
      (pss_cons (ps_set (i := 4) nd rfl (.inl rfl) (pe_fld (pv 0) rfl))
      (pss_cons (ps_set (i := 5) nd rfl (.inl rfl) (pe_lst pa_nil))
      (pss_cons (ps_for (passes_of rfl) rfl (pi_tup (pv 1)) (pg_name (i := 3) nd rfl (.inl rfl))
        (pss_cons (ps_asg (pe_call (E := E) (ok_ex T gA DA hk A0) hr (by rfl) T.g_executed T.F_executed.kp T.b_executed .nil (passes_call (takes_of rfl rfl rfl rfl) (fun _ _ _ _ z => z)) (pa_cons (pv 4) (pa_cons (pv 3) pa_nil))) (pg_tup rfl (pgs_cons (pg_name (i := 6) nd rfl (.inl rfl)) (pgs_cons (pg_name (i := 4) nd rfl (.inl rfl)) pgs_nil))))
        (pss_one (ps_expr (pe_bm PySem.F.plainAttrs_list PySem.F.slot_list_append PySem.F.type_list_append mt_append (pv 5) (pa_cons (pv 6) pa_nil))))))
      (pss_cons (ps_fld (pv 0) (pv 4) rfl) (pss_one (ps_ret (pv 5))))))), ?_⟩
    refine ⟨_, rfl, ot0, _, rfl, .of ho0, for_it walk_enumT (fun i σ H' => (∃ y2 y3, σ = [some (.ref lr), some (.ref ot0), y2, y3, none, none, none]) ∧ Same H H') ⟨⟨none, none, rfl⟩, Same.refl H⟩ (fun i σ H' _ z => .of (z.2 _ _ ho0)) ?_ ?_⟩
    · rintro i x σ H1 H2 hi1 ⟨⟨y2, y3, rfl⟩, s1⟩ ⟨t, a, b, rfl, nt, rfl, ha0, hb⟩
      have hi0 : i = 0 := by
        have : i < 1 := hi1
        omega
      subst hi0
      have hb : some (V.ref op) = some b := hb
      cases hb
      have s2 := same_upd (o := .tup [a, .ref op]) nt
      refine ⟨t, _, rfl, .of upd_same, rfl, _, _, rfl, _, _, rfl, rfl, ?_⟩
      obtain ⟨v1, dk⟩ := hov _ (s1.trans s2)
      exact ⟨_, rfl, _, true, rfl, v1, dk, fun H3 s3 => ⟨_, rfl, iteF ⟨⟨_, _, rfl⟩, (s1.trans s2).trans s3⟩⟩⟩
    rintro σ H1 ⟨⟨y2, y3, rfl⟩, s1⟩
    refine ⟨_, rfl, lr, _, dxl, _, _, rfl, s1 _ _ hlr, T.clv, T.nv__course, rfl, ?_⟩
    refine ⟨Nat.zero_le _, fun L hL => ?_⟩
    have u1 := same_upd (o := .lst []) hL
    have gL : (upd H1 L (.lst [])) L = some (.lst []) := upd_same
    have s12 := s1.trans u1
    have L0 : H L = none := same_noneT s1 hL
    show tSeq _ _ _ [some (.ref lr), some (.ref ot0), y2, y3, some (.ref co), some (.ref L), none] (upd H1 L (.lst []))
    generalize (upd H1 L (.lst [])) = H2 at gL s12 ⊢
    have nLr : L ≠ lr := (ne_of_none hlr L0).symm
    have nLo : L ≠ ot0 := (ne_of_none ho0 L0).symm
    refine ⟨_, rfl, ot0, rfl, ⟨_, .of (s12 _ _ ho0)⟩, for_tup (K := K) (a := ot0) (xs := [.ref op]) (fun i σ H' => (i = 0 ∧ H' = H2 ∧ ∃ y3, σ = [some (.ref lr), some (.ref ot0), y2, y3, some (.ref co), some (.ref L), none]) ∨
        (i = 1 ∧ ∃ c2 y3 y6, σ = [some (.ref lr), some (.ref ot0), y2, y3, some (.ref c2), some (.ref L), y6] ∧ H' lr = some (.ins T.vC dxl (liF co kept)) ∧ H' ot0 = some (.tup [.ref op]) ∧ ∀ H4, (∀ b o, H' b = some o → b ≠ lr → H4 b = some o) → H4 lr = some (.ins T.vC dxl (liF c2 kept)) → Q (.ref L) H4))
      (.inl ⟨rfl, rfl, _, rfl⟩) (fun i σ H' _ z => ?_) ?_ ?_⟩
    · rcases z with ⟨_, rfl, _⟩ | ⟨_, _, _, _, _, _, z, _⟩
      · exact .of (s12 _ _ ho0)
      · exact .of z
    · rintro i x σ H3 hx (⟨rfl, rfl, y3, rfl⟩ | ⟨rfl, _⟩)
      · cases hx
        refine ⟨_, rfl, _, rfl, co, dxc, tt, ot, ut, op, tb, dxt, p, dx, td, ts, hl, cl, tabs, opl, und, os, ha, cs, ds, ss, day, coming, hp, cu, rfl, O.same s12, l1, l2, s12 _ _ hop, M.same s12, fun H5 t2 dxt2 hl2 cl2 s5 n1 n2 n3 M5 => ?_⟩
        obtain ⟨R, hq, hR⟩ := q H5 t2 dxt2 hl2 cl2 (s12.trans s5) (same_noneT s12 n1) (same_noneT s12 n2) (same_noneT s12 n3) M5
        refine ⟨R, hq, fun v H6 hv => ?_⟩
        obtain ⟨k6, fin⟩ := hR v H6 hv
        refine ⟨k6, fun H7 r c2 dx2 tt2 ot2 ut2 s7 nc2 O7 hr7 => ?_⟩
        have up : ∀ {b o}, H3 b = some o → H6 b = some o := fun {b o} e => k6 b o (s5 _ _ e) (ne_of_none e n1) (ne_of_none e n2) (ne_of_none e n3)
        have gL7 := s7 _ _ (up gL)
        have hlr7 := s7 _ _ (up (s12 _ _ hlr))
        have ho7 := s7 _ _ (up (s12 _ _ ho0))
        refine ⟨r, _, rfl, .of hr7, rfl, _, _, rfl, _, _, rfl, rfl, ?_⟩
        refine ⟨_, rfl, .inl ⟨rfl, _, SqL.of gL7⟩, _, rfl, L, _, _, rfl, rfl, gL7, (by show 0 < sizeLine; decide), .inr ⟨rfl, c2, _, _, rfl, (upd_ne nLr.symm).trans hlr7, (upd_ne nLo.symm).trans ho7, fun H4 kp h4 => ?_⟩⟩
        have nl7 : ∀ {b o}, H7 b = some o → (∀ l, o ≠ .lst l) → b ≠ L := fun {b o} e n z => by
          rw [z, gL7] at e
          exact n _ (Option.some.inj e).symm
        have nr7 : ∀ {b o}, H7 b = some o → (∀ fs, o ≠ .ins T.vC dxl fs) → b ≠ lr := fun {b o} e n z => by
          rw [z, hlr7] at e
          exact n _ (Option.some.inj e).symm
        have ke : ∀ {b o}, H7 b = some o → b ≠ L → b ≠ lr → H4 b = some o := fun {b o} e n1 n2 => kp b o ((upd_ne n1).trans e) n2
        have c2r : c2 ≠ lr := (ne_of_none (up (s12 _ _ hlr)) nc2).symm
        refine fin H4 L c2 dx2 tt2 ot2 ut2 (fun b o e n1 n2 => ke (s7 _ _ e) n2 n1) h4 (kp _ _ upd_same nLr) L0 (s5 _ _ gL) (ne_of_none gL n1) (ne_of_none gL n2) (ne_of_none gL n3) ⟨ke O7.ob (nl7 O7.ob fun _ z => by cases z) c2r, ke O7.ht (nl7 O7.ht fun _ z => by cases z) (nr7 O7.ht fun _ z => by cases z), ke O7.hop (nl7 O7.hop fun _ z => by cases z) (nr7 O7.hop fun _ z => by cases z), ke O7.hu (nl7 O7.hu fun _ z => by cases z) (nr7 O7.hu fun _ z => by cases z)⟩
      · cases hx
    · rintro σ H3 (⟨h0, _⟩ | ⟨_, c2, y3, y6, rfl, hlr3, _, fin⟩)
      · cases h0
      · refine ⟨_, rfl, _, rfl, lr, T.vC, dxl, _, rfl, hlr3, T.clv, T.nv__course, (by show 2 < 1000; decide), ?_⟩
        exact ⟨_, rfl, fin _ (fun b o e n => (upd_ne n).trans e) upd_same⟩
end
end Rp
/-! Live rings: pass_days of days that may pass. -/
namespace Rp
open PySem PySem.Spec PyProof.Rows L2 Rz Rm
/-- the actions and their numbers of arguments, by name -/
structure Ax {K : PySem.W.Frag} {mg : Str → Option Value} (w : World) (T : Tx K mg) where
  dA : Addr
  dB : Addr
  gA : mg "ACTIONS" = some (.ref dA)
  gB : mg "ARGUMENTS" = some (.ref dB)
  DA : ∃ es n, KDict K w dA es n
  DB : ∃ es n, KDict K w dB es n
  pA : PySem.W.nsIn K dA "pass_days" = some (some (.ref T.a_let_pass))
  pB : ∃ tk : Tok, PySem.W.nsIn K dB "pass_days" = some (some (.int 1 tk))
theorem sh_pass (n : Int) : SeqAt.shaped (.tuple [.str "pass_days", .int n]) = true := by
  first
    | rfl
    | (simp [SeqAt.shaped, PyData.canLay0, PyData.depth, PyData.canLayAll0, PyData.depthAll]; decide +kernel)
mutual
theorem dp_same {K : PySem.W.Frag} {H H' : Hp} (s : Same H H') : ∀ {v : V} {d : PyData}, Dp K H v d → Dp K H' v d
  | _, _, .non => .non
  | _, _, .bl b => .bl b
  | _, _, .int i => .int i
  | _, _, .str x => .str x
  | _, _, .lst h a => .lst (h.imp (fun e => e.imp (fun e => s _ _ e) fun ⟨o, e⟩ => ⟨o, s _ _ e⟩) id) (dpa_same s a)
  | _, _, .tup h a => .tup (h.imp (fun e => e.imp (fun e => s _ _ e) fun ⟨o, e⟩ => ⟨o, s _ _ e⟩) id) (dpa_same s a)
theorem dpa_same {K : PySem.W.Frag} {H H' : Hp} (s : Same H H') : ∀ {v : List V} {d : List PyData}, DpAll K H v d → DpAll K H' v d
  | _, _, .nil => .nil
  | _, _, .cons r rr => .cons (dp_same s r) (dpa_same s rr)
end
theorem opv_pass {K : PySem.W.Frag} {dB : Addr} {H : Hp} {op : Addr} {n : Int} (h : H op = some (.tup [.str "pass_days", .int n])) (hB : ∃ tk : Tok, PySem.W.nsIn K dB "pass_days" = some (some (.int 1 tk))) : OpV K dB H (.ref op) true := by
  obtain ⟨tk, hB⟩ := hB
  exact .inl ⟨op, "pass_days", [.int n], [.int n], _, rfl, h, .tup (.of h) (.cons (.str _) (.cons (.int _) .nil)), sh_pass n, hB, (fun z => by cases z), fun u hu => ⟨1, tk, (Option.some.inj hu).symm, rfl⟩⟩
section
variable {P : Program} {w : World} {K : PySem.W.Frag} {mg : Str → Option Value} {base : Heap}
/-- what a live ring is: its table last -/
structure LiAt (C tC cC vC : Addr) (H : Hp) (lr dxl co dxc tt ot ut tb dxt p dx td ts hl cl : Addr) (kept : V) (tabs : List Addr) (opl und : List V) (ha : List Addr) (cs : List V) (ds ss : List Int) (coming : Int) (s : TSt) : Prop where
  ob : H lr = some (.ins vC dxl (liF co kept))
  co : Co cC H co dxc tt ot ut (tabs ++ [tb]) opl und
  tb : LvT C tC H tb dxt p dx td ts hl cl ha cs ds ss s.day coming s.hp s.cu
  l1 : tabs.length ≤ 800
  l2 : opl.length ≤ 800
  sm : ∀ j, j < ds.length → (s.hp j).length ≤ 400
def spPass (C tC cC vC : Addr) : Sp := fun vs H Q _ => ∃ (lr dxl co dxc tt ot ut tb dxt p dx td ts hl cl : Addr) (kept : V) (tabs : List Addr) (opl und : List V) (ha : List Addr) (cs : List V) (ds ss : List Int) (coming : Int) (s : TSt) (n : Nat),
  vs = [.ref lr, .int (n : Int)] ∧ LiAt C tC cC vC H lr dxl co dxc tt ot ut tb dxt p dx td ts hl cl kept tabs opl und ha cs ds ss coming s ∧ n ≤ 400 ∧
  ∀ H3 L xs op co2 dxc2 tt2 ot2 ut2 tb2 dxt2 hl2 cl2 ha2 cs2, (∀ b o, H b = some o → b ≠ lr → H3 b = some o) → H L = none → H3 L = some (.lst xs) → Tups H3 xs (dyL ds s n) →
    H3 lr = some (.ins vC dxl (liF co2 kept)) → Co cC H3 co2 dxc2 tt2 ot2 ut2 (tabs ++ [tb] ++ [tb2]) (opl ++ [.ref op]) [] → H3 op = some (.tup [.str "pass_days", .int (n : Int)]) →
    LvT C tC H3 tb2 dxt2 p dx td ts hl2 cl2 ha2 cs2 ds ss (dyN ds s n).day coming (dyN ds s n).hp (dyN ds s n).cu → Q (.ref L) H3
theorem ok_pass (T : Tx K mg) (X : Ax w T) (L0 : FnR P w K mg base (L2.CX P w) 5 T.a_let_pass (spLet T.C T.tC)) : FnOk P w K mg base (L2.CX P w) 9 T.a_vpass_days T.d_vpass_days P_vpass_days (spPass T.C T.tC T.cC T.vC) := by
  refine T.F_vpass_days.okX sc_vpass_days (fun vs H Q E h => ?_) (fun cdv A outer s0 H vs Q E hr h => ?_)
  · obtain ⟨lr, dxl, co, dxc, tt, ot, ut, tb, dxt, p, dx, td, ts, hl, cl, kept, tabs, opl, und, ha, cs, ds, ss, coming, s, n, rfl, _⟩ := h
    rfl
  · obtain ⟨lr, dxl, co, dxc, tt, ot, ut, tb, dxt, p, dx, td, ts, hl, cl, kept, tabs, opl, und, ha, cs, ds, ss, coming, s, n, rfl, I, hn, q⟩ := h
    obtain ⟨esA, nA, DA⟩ := X.DA
    obtain ⟨esB, nB, DB⟩ := X.DB
    refine ⟨_, pss_one (ps_ret (pe_ix ix_list (pe_methR (E := E) (pv 0) T.clv T.mv_apply (ok_ap (S := fun f => if f = T.a_let_pass then some (spLet T.C T.tC) else none) T X.gA DA X.gB DB (by decide) (fun f sp hs => by
      split at hs
      · rename_i e
        cases hs
        subst e
        exact ⟨L0, T.F_let_pass.kp⟩
      · cases hs)) hr (passes_call (takes_of rfl rfl rfl rfl) (fun _ _ _ _ z => z)) (pa_cons (pe_tup (pa_cons pe_str (pa_cons (pv 1) pa_nil))) pa_nil)) pe_int (fun _ _ => rfl))), ?_⟩
    refine ⟨_, rfl, lr, dxl, _, rfl, I.ob, rfl, _, rfl, (by show 2 ≤ sizeLine; decide), fun op hop => ?_⟩
    have u1 := same_upd (o := .tup [.str "pass_days", .int (n : Int)]) hop
    have gop : (upd H op (.tup [.str "pass_days", .int (n : Int)])) op = some (.tup [.str "pass_days", .int (n : Int)]) := upd_same
    refine ⟨[.ref lr], [.ref op], rfl, rfl, (by show 1 ≤ sizeLine; decide), fun ot0 ho0 => ?_⟩
    have u2 := same_upd (o := .tup [.ref op]) ho0
    have u12 := u1.trans u2
    have g0 : (upd (upd H op (.tup [.str "pass_days", .int (n : Int)])) ot0 (.tup [.ref op])) ot0 = some (.tup [.ref op]) := upd_same
    have gop2 := u2 _ _ gop
    show spAp1 _ _ _ _ _ _ _ _ [.ref lr, .ref ot0] (upd (upd H op (.tup [.str "pass_days", .int (n : Int)])) ot0 (.tup [.ref op])) _ _
    generalize (upd (upd H op (.tup [.str "pass_days", .int (n : Int)])) ot0 (.tup [.ref op])) = H0 at u12 g0 gop2 ⊢
    refine ⟨lr, dxl, ot0, co, dxc, tt, ot, ut, op, tb, dxt, p, dx, td, ts, hl, cl, kept, tabs, opl, und, _, ha, cs, ds, ss, s.day, coming, s.hp, s.cu, rfl, u12 _ _ I.ob, g0, I.co.same u12, I.l1, I.l2, gop2,
      fun H' sH' => ⟨opv_pass (sH' _ _ gop2) X.pB, fun H2 s2 d hd => dp_same s2 hd⟩, I.tb.same u12, fun H1 t2 dxt2 hl2 cl2 s1 n1 n2 n3 M => ?_⟩
    refine ⟨fun v H2 => ∃ (le : Addr) (xs : List V) (ha2 : List Addr) (cs2 : List V), v = .ref le ∧ KT t2 hl2 cl2 H1 H2 ∧ LvT T.C T.tC H2 t2 dxt2 p dx td ts hl2 cl2 ha2 cs2 ds ss (dyN ds s n).day coming (dyN ds s n).hp (dyN ds s n).cu ∧ H1 le = none ∧ H2 le = some (.lst xs) ∧ Tups H2 xs (dyL ds s n), fun Q2 hQ2 => ?_, fun v H2 hv => ?_⟩
    · refine ⟨.ref t2, op, T.a_let_pass, "pass_days", [.int (n : Int)], spLet T.C T.tC, rfl, s1 _ _ gop2, by show 1 < 900; decide, X.pA, if_pos rfl, fun H' s' => ?_⟩
      refine ⟨t2, dxt2, p, dx, td, ts, hl2, cl2, ha, cs, ds, ss, coming, s, n, rfl, M.same s', I.sm, hn, fun H2 ha2 cs2 le xs k2 M2 l0 gl TT => ?_⟩
      exact hQ2 _ _ ⟨le, xs, ha2, cs2, rfl, (Same.kt s').trans k2, M2, same_noneT s' l0, gl, TT⟩
    · obtain ⟨le, xs, ha2, cs2, rfl, k2, M2, l0, gl, TT⟩ := hv
      refine ⟨k2, fun H3 L c2 dx2 tt2 ot2 ut2 kp g3 gL L0' gL1 m1 m2 m3 O3 => ?_⟩
      have glr1 := s1 _ _ (u12 _ _ I.ob)
      have nlr : ∀ {b : Addr}, H0 b = none → b ≠ lr := fun e => (ne_of_none (u12 _ _ I.ob) e).symm
      have gL2 := k2 _ _ gL1 m1 m2 m3
      have glr2 := k2 _ _ glr1 (nlr n1).symm (nlr n2).symm (nlr n3).symm
      have leL : le ≠ L := (ne_of_none gL1 l0).symm
      have le0 := same_noneT s1 l0
      have tk : ∀ c ys, H2 c = some (.tup ys) → H3 c = some (.tup ys) := fun c ys e => kp _ _ e (ne_of e glr2 (by intro z; cases z)) (ne_of e gL2 (by intro z; cases z))
      have pl : p ≠ lr := fun z => by
        have h1 := M2.R.ob
        rw [z, glr2] at h1
        have h2 := Option.some.inj h1
        injection h2 with _ _ h3
        have h5 := flds_days td ts
        rw [← h3] at h5
        cases h5
      refine ⟨L, _, 0, _, rfl, rfl, .of gL, atI_nat (j := 0) rfl, ?_⟩
      refine q H3 le xs op c2 dx2 tt2 ot2 ut2 t2 dxt2 hl2 cl2 ha2 cs2 (fun b o e n => ?_) (same_noneT u12 le0) (kp _ _ gl (nlr le0) leL) (TT.mono tk) g3 O3 (tk _ _ (k2 _ _ (s1 _ _ gop2) (ne_of_none gop2 n1) (ne_of_none gop2 n2) (ne_of_none gop2 n3)))
        ⟨kp _ _ M2.ob (nlr n1) m1.symm, ⟨kp _ _ M2.R.ob pl (ne_of M2.R.ob gL2 (by intro z; cases z)), tk _ _ M2.R.td, tk _ _ M2.R.ts, M2.R.ok⟩, kp _ _ M2.fh (nlr n2) m2.symm, M2.lh, fun j a h => tk _ _ (M2.hv j a h), kp _ _ M2.fc (nlr n3) m3.symm, M2.lc, fun j v h => (M2.cv j v h).tups tk, M2.ne, M2.sm⟩
      have e0 := u12 _ _ e
      exact kp _ _ (k2 _ _ (s1 _ _ e0) (ne_of_none e0 n1) (ne_of_none e0 n2) (ne_of_none e0 n3)) n (ne_of_none e0 L0')
end
end Rp
/-! One more rule beside the layer's: ring >> int, the class's own sign. -/
namespace Rz
open PySem PySem.Spec PyProof.Rows L2
section
variable {X : Cx}
def rShO (C : Addr) (sp : Sp) (E : XK) : R2 := fun x y H Q => ∃ (a dx : Addr) (fs : List (Str × V)) (i : Int), x = .ref a ∧ y = .int i ∧ H a = some (.ins C dx fs) ∧ sp [.ref a, .int i] H (fun v H' => (∃ b : Addr, v = .ref b) ∧ Q v H') E
theorem op_shO {CX : CXT} {k : Nat} {f C : Addr} {sp : Sp} {E : XK} {fo ro : Option Value} (hc : PySem.W.selfFirst X.K C = true) (hs : PySem.W.findIn X.K (.ref C) "__rshift__" = some (some (.ref f))) (hf : PySem.W.isFn X.K (.ref f) = true)
    (hn : PySem.W.findIn X.K (.ref C) "__rrshift__" = some none) (h1 : PySem.W.findIn X.K (.type "int") "__rshift__" = some fo) (h2 : PySem.W.findIn X.K (.type "int") "__rrshift__" = some ro) (hsub : PySem.W.subIn X.K (.type "int") (.ref C) = some false)
    (F : FnR X.prog X.w X.K X.mg X.base CX k f sp) (hr : Room k X.A) (hx : Passes CX X E) : OpR X (binaryOp .RShift) (rShO C sp E) := by
  intro pins s σ H x y v u Q I rx ry h
  obtain ⟨a, dx, fs, i, rfl, rfl, ea, q⟩ := h
  obtain rfl : v = Value.ref a := rx
  obtain ⟨t, rfl⟩ := ry
  obtain ⟨mA, O, _⟩ := ins_get I.hok ea
  obtain ⟨od, J, _⟩ := O.look
  obtain ⟨m, hns, _⟩ := I.loc
  refine PySem.W.ksp_binT (op := .RShift) (T := "int") ⟨hns, I.bk, Nat.le_trans I.ok.bsz I.ok.above⟩ I.ok.mod.kin J rfl hc hs hf hn (.inl rfl) h1 h2 hsub ?_
  refine wpAny_call (codeAny_mono (F X.A X.stack s H [.ref a, .int i t] [.ref a, .int i] _ E hr I.env0 (.cons rfl (.cons ⟨_, rfl⟩ .nil)) q) fun r s' hq => ?_)
  cases r with
  | error e => exact hx pins σ H s e s' I hq
  | ok fl =>
    cases fl with
    | ret u =>
      obtain ⟨v, H', J', rv, ⟨b, rfl⟩, q'⟩ := I.after hq
      obtain rfl : u = Value.ref b := rv
      exact ⟨.ref b, H', J', rfl, q'⟩
    | next => exact False.elim hq
    | brk => exact False.elim hq
    | cont => exact False.elim hq
end
end Rz
/-! Own signs: o[i], o == x, o >> x; a class held by a local name is called. -/
namespace Rz
open PySem PySem.Spec PyProof.Rows L2
section
variable {X : Cx} {CX : CXT} {k : Nat} {f C : Addr} {sp : Sp} {E : XK} {pins : List (Addr × Obj)} {s : Shared} {σ : L2.St} {H : Hp} {Q : VK}
/-- an own def is called within one more step -/
theorem run_in1 {us : List Value} {vs : List V} (F : FnR X.prog X.w X.K X.mg X.base CX k f sp) (hr : Room (k + 1) X.A) (hx : Passes CX X E) (I : Inv X pins σ H s) (r : Vals vs us) (q : sp vs H Q E) :
    wpAny (model X.prog X.w) X.A.in1 (call (.ref f) us) (EP X pins σ Q) X.xe s := by
  have e := I.env0
  have e0 : Env0 X.prog X.w X.K X.mg X.base X.A.in1 X.stack s H := ⟨e.frames, e.mod, e.bs, e.bsz, e.funs, e.frf, e.hok, e.bare⟩
  refine wpAny_call (codeAny_mono (F X.A.in1 X.stack s H us vs _ E hr.in1 e0 r q) fun r s' hq => ?_)
  cases r with
  | error e => exact hx pins σ H s e s' I hq
  | ok fl =>
    cases fl with
    | ret u => exact I.after hq
    | next => exact False.elim hq
    | brk => exact False.elim hq
    | cont => exact False.elim hq
theorem run_here {us : List Value} {vs : List V} (F : FnR X.prog X.w X.K X.mg X.base CX k f sp) (hr : Room k X.A) (hx : Passes CX X E) (I : Inv X pins σ H s) (r : Vals vs us) (q : sp vs H Q E) :
    wpAny (model X.prog X.w) X.A (call (.ref f) us) (EP X pins σ Q) X.xe s := by
  refine wpAny_call (codeAny_mono (F X.A X.stack s H us vs _ E hr I.env0 r q) fun r s' hq => ?_)
  cases r with
  | error e => exact hx pins σ H s e s' I hq
  | ok fl =>
    cases fl with
    | ret u => exact I.after hq
    | next => exact False.elim hq
    | brk => exact False.elim hq
    | cont => exact False.elim hq
/-- o[y], o of the class at C -/
def rIxO (C : Addr) (sp : Sp) (E : XK) : R2 := fun x y H Q => ∃ (p dx : Addr) (fs : List (Str × V)), x = .ref p ∧ H p = some (.ins C dx fs) ∧ sp [.ref p, y] H Q E
theorem pe_ixO {a b : Expr} {ta tb : TE} {pos : Pos} (hs : PySem.W.findIn X.K (.ref C) "__getitem__" = some (some (.ref f))) (hf : PySem.W.fnIn X.K f = true) (hfn : PySem.W.isFn X.K (.ref f) = true)
    (F : FnR X.prog X.w X.K X.mg X.base CX k f sp) (hr : Room (k + 1) X.A) (hx : Passes CX X E) (ha : PE X a ta) (hb : PE X b tb)
    (hsl : ∀ (o : Addr) (i : Value), subscripted b true (.ref o) i = runValue (.builtin "lifetime.subscript" ⟨[.ref o, i], []⟩) := by intro _ _; with_unfolding_all rfl) : PE X (.Subscript a b pos) (tOp (rIxO C sp E) ta tb) := by
  refine ⟨fun pins s σ H Q I h => Subscript_ (binT ha hb I h fun v u s2 x y H2 I2 rx ry q => ?_)⟩
  obtain ⟨p, dx, fs, rfl, hp, q⟩ := q
  obtain rfl : v = Value.ref p := rx
  obtain ⟨mA, O, _⟩ := ins_get I2.hok hp
  obtain ⟨od, J, _⟩ := O.look
  obtain ⟨m, hns, _⟩ := I2.loc
  exact PySem.W.sub_K ⟨hns, I2.bk, Nat.le_trans I2.ok.bsz I2.ok.above⟩ I2.ok.mod.kin J hs hf hfn (run_in1 F hr hx I2 (vs := [.ref p, y]) (.cons rfl (.cons ry .nil)) q) (hsl p u)
/-- the other side of an own sign: of the same class, or of a built-in kind -/
def Oth (C : Addr) (H : Hp) (y : V) : Prop := (∃ (b dy : Addr) (gs : List (Str × V)), y = .ref b ∧ H b = some (.ins C dy gs)) ∨ ∃ (b : Addr) (xs : List V), y = .ref b ∧ H b = some (.tup xs)
def rEqO (C : Addr) (sp : Sp) (E : XK) : R2 := fun x y H Q => ∃ (a dx : Addr) (fs : List (Str × V)), x = .ref a ∧ H a = some (.ins C dx fs) ∧ Oth C H y ∧ sp [.ref a, y] H (fun v H' => (∃ k, v = .bl k) ∧ Q v H') E
theorem op_eqO (hs : PySem.W.findIn X.K (.ref C) "__eq__" = some (some (.ref f))) (hf : PySem.W.isFn X.K (.ref f) = true) (ht : PySem.W.subIn X.K (.type "tuple") (.ref C) = some false)
    (F : FnR X.prog X.w X.K X.mg X.base CX k f sp) (hr : Room k X.A) (hx : Passes CX X E) : OpR X (compareOp .Eq) (rEqO C sp E) := by
  intro pins s σ H x y v u Q I rx ry h
  obtain ⟨a, dx, fs, rfl, ha, ho, q⟩ := h
  obtain rfl : v = Value.ref a := rx
  obtain ⟨mA, O, _⟩ := ins_get I.hok ha
  obtain ⟨od, J, _⟩ := O.look
  obtain ⟨m, hF⟩ := I.fr
  have back : ∀ (w : Value) (s' : Shared), EP X pins σ (fun v H' => (∃ k, v = V.bl k) ∧ Q v H') w s' → PySem.W.CmpBack (EP X pins σ Q) w s' := fun w s' h => by
    obtain ⟨z, H', I', rz, ⟨k, rfl⟩, q'⟩ := h
    cases rz
    exact ⟨.bl k, H', I', rfl, q'⟩
  show wpAny (model X.prog X.w) X.A (richCompare .Eq (.ref a) u) (EP X pins σ Q) X.xe s
  have hu : X.A.units < cLine := hr.units0
  rcases ho with ⟨b, dy, gs, rfl, hb⟩ | ⟨b, xs, rfl, hb⟩
  · obtain rfl : u = Value.ref b := ry
    obtain ⟨mB, O', _⟩ := ins_get I.hok hb
    obtain ⟨od', J', _⟩ := O'.look
    exact PySem.W.cmp_K (op := .Eq) (tb := .ref C) hu hF I.ok.mod.kin J J'.type (by simp [PySem.W.notFirst]) hs hf (wpAny_mono (run_here F hr hx I (vs := [.ref a, .ref b]) (.cons rfl (.cons rfl .nil)) q) back fun _ _ e => e)
  · obtain rfl : u = Value.ref b := ry
    obtain ⟨its, _, p1, _⟩ := I.tuple (SqT.of (K := X.K) hb)
    have L : PySem.W.Looks (model X.prog X.w) s.heap (typeOf (.ref b)) (.type "tuple") := by
      obtain ⟨o, ho, hc, _⟩ := p1
      exact fun A Q E s k q => wpAny_typeOf_ref (k _ _ ho) (by rw [hc]; exact q)
    exact PySem.W.cmp_K (op := .Eq) (tb := .type "tuple") hu hF I.ok.mod.kin J L (by simp [PySem.W.notFirst, ht]) hs hf (wpAny_mono (run_here F hr hx I (vs := [.ref a, .ref b]) (.cons rfl (.cons rfl .nil)) q) back fun _ _ e => e)
/-- o >> y, y of the built-in kind T -/
def rShV (C : Addr) (T : String) (sp : Sp) (E : XK) : R2 := fun x y H Q => ∃ (a dx : Addr) (fs : List (Str × V)), x = .ref a ∧ H a = some (.ins C dx fs) ∧ (∀ u, RelV y u → typeOf u = pure (.type T)) ∧ sp [.ref a, y] H (fun v H' => (∃ b : Addr, v = .ref b) ∧ Q v H') E
theorem op_shV {T : String} {fo ro : Option Value} (hc : PySem.W.selfFirst X.K C = true) (hs : PySem.W.findIn X.K (.ref C) "__rshift__" = some (some (.ref f))) (hf : PySem.W.isFn X.K (.ref f) = true)
    (hn : PySem.W.findIn X.K (.ref C) "__rrshift__" = some none) (h1 : PySem.W.findIn X.K (.type T) "__rshift__" = some fo) (h2 : PySem.W.findIn X.K (.type T) "__rrshift__" = some ro) (hsub : PySem.W.subIn X.K (.type T) (.ref C) = some false)
    (F : FnR X.prog X.w X.K X.mg X.base CX k f sp) (hr : Room k X.A) (hx : Passes CX X E) : OpR X (binaryOp .RShift) (rShV C T sp E) := by
  intro pins s σ H x y v u Q I rx ry h
  obtain ⟨a, dx, fs, rfl, ea, hT, q⟩ := h
  obtain rfl : v = Value.ref a := rx
  obtain ⟨mA, O, _⟩ := ins_get I.hok ea
  obtain ⟨od, J, _⟩ := O.look
  obtain ⟨m, hns, _⟩ := I.loc
  refine PySem.W.ksp_binT (op := .RShift) (T := T) ⟨hns, I.bk, Nat.le_trans I.ok.bsz I.ok.above⟩ I.ok.mod.kin J (hT u ry) hc hs hf hn (.inl rfl) h1 h2 hsub ?_
  refine wpAny_mono (run_here F hr hx I (vs := [.ref a, y]) (.cons rfl (.cons ry .nil)) q) (fun w s' z => ?_) fun _ _ e => e
  obtain ⟨z, H', I', rz, ⟨b, rfl⟩, q'⟩ := z
  obtain rfl : w = Value.ref b := rz
  exact ⟨.ref b, H', I', rfl, q'⟩
/-- x(..), x a local name that holds the class at C -/
def tMakeL (i : Nat) (C : Addr) (sp : Sp) (E : XK) (t : TA) : TE := fun σ H Q => σ[i]? = some (some (.ref C)) ∧ StX.tMakeR C sp E t σ H Q
theorem pe_makeL {i : Nat} {x : Str} {e : Expr} {es : List Expr} {t : TA} {p pos : Pos} (M : Mk X.K C f) (F : FnR X.prog X.w X.K X.mg X.base CX k f sp) (hr : Room (k + 1) X.A) (hN : X.N[i]? = some x) (hv : Vis X.env.scope x) (hx : Passes CX X E) (ha : PA X (e :: es) t)
    (hdb : (x == ("__debug__" : Str)) = false := by decide) (hcd : (x == ("__classdict__" : Str)) = false := by decide)
    (he : starEach (e :: es) X.env = (false, eval e X.env) :: starEach es X.env := by rfl) (hpl : (backTo pos (starEach es X.env)).any (·.1) = false := by rfl) : PE X (.Call (.Name x p) (e :: es) [] pos) (tMakeL i C sp E t) := by
  refine ⟨fun pins s σ H Q I h => ?_⟩
  obtain ⟨hs, ht⟩ := h
  have look := (pe_var (pos := p) hN hv hdb hcd).run pins s σ H (fun v H1 => v = .ref C ∧ H1 = H) I ⟨.ref C, hs, rfl, rfl⟩
  refine wpAny_Call_Name_kw (thn look fun u s1 hq => ?_)
  obtain ⟨v, H1, I1, r1, rfl, rfl⟩ := hq
  cases r1
  have args := ha.run pos pins s1 σ _ _ I1 ht
  exact PySem.W.callWith_K (h₀ := X.base) I.ok.mod.kin M.kp (thn args fun us s2 hq2 => by
    obtain ⟨vs, H2, I2, r, q⟩ := hq2
    exact ⟨I2.kIn, StX.run_makeR M F hr hx I2 r q⟩) he hpl
end
end Rz
/-! Lambdas as values: made and kept (in lists, in slots), with or without a default value. -/
namespace Rl
open PySem PySem.Spec PyProof.Rows L2 LamX
/-- what a lambda is -/
structure LF where
  q : Str
  params : Arguments
  body : Expr
  scope : Scope
  cl : List (Str × Addr)
  dV : Value
  c : Addr
def LamO (f : Addr) (F : LF) : HO := .ext fun h => ∃ (doc pm ctv : Value), h.get? f = some (PySem.W.kdv_obj "<lambda>" F.q F.params (.expr F.body) F.scope F.cl F.dV doc pm F.c ctv)
theorem lamO_ne {f : Addr} {F : LF} (ps : Array Value) : LamO f F ≠ .tbl ps := fun z => by
  unfold LamO at z
  cases z
section
variable {X : Cx} {pins : List (Addr × Obj)} {σ : L2.St} {H : Hp} {s : Shared}
theorem inv_lam {F : LF} {o : Obj} {t' : Nat} {doc pm ctv : Value} (I : Inv X pins σ H s) (ho : o = PySem.W.kdv_obj "<lambda>" F.q F.params (.expr F.body) F.scope F.cl F.dV doc pm F.c ctv) :
    Inv X pins σ (upd H s.heap.objs.size (LamO s.heap.objs.size F)) { s with heap := s.heap.push o, toks := t' } := by
  subst ho
  have e : (s.heap.push (PySem.W.kdv_obj "<lambda>" F.q F.params (.expr F.body) F.scope F.cl F.dV doc pm F.c ctv)).get? s.heap.objs.size = some (PySem.W.kdv_obj "<lambda>" F.q F.params (.expr F.body) F.scope F.cl F.dV doc pm F.c ctv) := Heap.get?_push_size _ rfl
  exact I.laid (a := s.heap.objs.size) (fun b u g => Heap.get?_push_of_some _ g) (Nat.le_refl _) ⟨⟨doc, pm, ctv, e⟩, ⟨_, e⟩, fun h1 h2 ⟨d1, p1, v1, z⟩ st => ⟨d1, p1, v1, st _ z⟩⟩
/-- the rest of the making, the default values evaluated -/
theorem lam_tail {T : List (Addr × Str)} {c P : Addr} {params : Arguments} {body : Expr} {scope : Scope} {pos : Pos} {dV : Value} {E : Value → Shared → Prop} {Q : Value → Shared → Prop} (I : Inv X pins σ H s) (TB : TabB X.base X.mg c P) (hcode : X.env.code = .ref c)
    (hm : (P, X.env.qual ++ "<lambda>") ∈ T) (hu : ∀ p ∈ T, p.1 = P → p.2 = X.env.qual ++ "<lambda>") (hT : Tabs T H) (hfree : ∀ y ∈ scope.names, y.2 = .free → ∃ c, X.env.cells.lookup y.1 = some c)
    (h : ∀ (f c' : Addr) (H1 : Hp) (s' : Shared), Inv X pins σ H1 s' → ExtN H H1 → Tabs T H1 → H f = none → H1 f = some (LamO f ⟨X.env.qual ++ "<lambda>", params, body, scope, cloFrom X.env.cells scope.names [], dV, c'⟩) → H1 c' = some (CodeO c' (X.env.qual ++ "<lambda>")) → Q (.ref f) s') :
    wpAny (model X.prog X.w) X.A (makeTail "<lambda>" (X.env.qual ++ "<lambda>") params (.expr body) scope X.env dV .none none pos pos.line) Q E s := by
  obtain ⟨ps, hP, ht, ha⟩ := hT _ hm
  have bP : s.heap.BuiltinsAt X.mg P := TB.bm.keeps I.bk
  have gP : s.heap.get? P = some { cls := .none, data := .fields ps } := I.hok P _ hP
  cases hc : codeAmong pos ps.toList with
  | none =>
    refine PySem.W.kdv_makeTail (mg := X.mg) (c := c) (P := P) (ps := ps) (closure_ok hfree) I.ok.glob (I.mod.glob.keeps I.bk) hcode (TB.code.keeps I.bk) gP ht hc TB.gP bP fun c' ctv doc h' tk hx hge hlt hrec htb => ?_
    obtain ⟨c2, oc, vs, t, e2, r1, r2, r3⟩ := hrec
    cases e2
    have nC := I.hok.fresh hge
    have J := inv_table (t' := tk) (more := #[rawInt pos.line, rawInt pos.col, .ref c']) (h' := h') I hP (fun b o n e => hx b o n e) htb hge ⟨oc, vs, t, r1, r2, r3⟩
    obtain ⟨H1, hH1⟩ : ∃ H1, H1 = upd (upd H P (.tbl (ps ++ #[rawInt pos.line, rawInt pos.col, .ref c']))) c' (CodeO c' (X.env.qual ++ "<lambda>")) := ⟨_, rfl⟩
    have ext1 : ExtN H H1 := fun b o e n => by
      rw [hH1, upd_ne (ne_of_none e nC), upd_ne (fun z => by subst z; rw [hP] at e; exact n ps (Option.some.inj e).symm)]
      exact e
    have atC : H1 c' = some (CodeO c' (X.env.qual ++ "<lambda>")) := by rw [hH1, upd_same]
    have tabs1 : Tabs T H1 := fun p hp => by
      by_cases hb : p.1 = P
      · rw [hu p hp hb, hb]
        refine ⟨ps ++ #[rawInt pos.line, rawInt pos.col, .ref c'], by rw [hH1, upd_ne (ne_of_none hP nC), upd_same], ?_, fun p' cv hcv => ?_⟩
        · rw [Array.toList_append]
          exact PySem.TriplesOk_snoc _ _ _ _ ht
        · rw [Array.toList_append] at hcv
          rcases among_app _ ht hcv with z | z
          · obtain ⟨c0, e1, e2⟩ := ha p' cv z
            exact ⟨c0, e1, ext1 _ _ e2 codeO_ne⟩
          · exact ⟨c', z, atC⟩
      · obtain ⟨ps', a1, a2, a3⟩ := hT p hp
        refine ⟨ps', by rw [hH1, upd_ne (ne_of_none a1 nC), upd_ne hb]; exact a1, a2, fun p' cv hcv => ?_⟩
        obtain ⟨c0, e1, e2⟩ := a3 p' cv hcv
        exact ⟨c0, e1, ext1 _ _ e2 codeO_ne⟩
    rw [← hH1] at J
    have nF := J.hok.fresh (Nat.le_refl _)
    have J2 := inv_lam (F := ⟨X.env.qual ++ "<lambda>", params, body, scope, cloFrom X.env.cells scope.names [], dV, c'⟩) (t' := tk) (doc := doc) (pm := (X.mg "__name__").getD .none) (ctv := ctv) J rfl
    have kp : ∀ {b o}, H1 b = some o → (upd H1 h'.objs.size (LamO h'.objs.size ⟨X.env.qual ++ "<lambda>", params, body, scope, cloFrom X.env.cells scope.names [], dV, c'⟩)) b = some o := fun e => (upd_ne (ne_of_none e nF)).trans e
    exact h h'.objs.size c' _ _ J2 (fun b o e n => kp (ext1 b o e n)) (tabs1.ext fun b o e => kp e) (I.hok.fresh (Nat.le_trans hge (Nat.le_of_lt hlt))) upd_same (kp atC)
  | some cv =>
    obtain ⟨c', e, hco⟩ := ha pos cv hc
    subst e
    refine PySem.W.kdv_makeTailHit (mg := X.mg) (c := c) (P := P) (ps := ps) (closure_ok hfree) I.ok.glob (I.mod.glob.keeps I.bk) hcode (TB.code.keeps I.bk) gP ht hc bP fun ctv doc h' tk hx hsz => ?_
    have J : Inv X pins σ H { s with heap := h', toks := tk } := I.kept hx
    have nF : H h'.objs.size = none := J.hok.fresh (Nat.le_refl _)
    have J2 := inv_lam (F := ⟨X.env.qual ++ "<lambda>", params, body, scope, cloFrom X.env.cells scope.names [], dV, c'⟩) (t' := tk) (doc := doc) (pm := (X.mg "__name__").getD .none) (ctv := ctv) J rfl
    have kp : ∀ {b o}, H b = some o → (upd H h'.objs.size (LamO h'.objs.size ⟨X.env.qual ++ "<lambda>", params, body, scope, cloFrom X.env.cells scope.names [], dV, c'⟩)) b = some o := fun e => (upd_ne (ne_of_none e nF)).trans e
    exact h h'.objs.size c' _ _ J2 (fun b o e n => kp e) (hT.ext fun b o e => kp e) nF upd_same (kp hco)
end
/-- the value of a lambda -/
def tLamV (T : List (Addr × Str)) (mk : Addr → LF) : TE := fun _ H Q => Tabs T H ∧ ∀ (f c' : Addr) (H1 : Hp), ExtN H H1 → Tabs T H1 → H f = none → H1 f = some (LamO f (mk c')) → H1 c' = some (CodeO c' (mk c').q) → Q (.ref f) H1
/-- the same, one int by default: the tuple of the values is told, too -/
def tLamD (T : List (Addr × Str)) (d : Int) (mk : Addr → Addr → LF) : TE := fun _ H Q => Tabs T H ∧ ∀ (f c' t : Addr) (H1 : Hp), ExtN H H1 → Tabs T H1 → H f = none → H1 t = some (.tup [.int d]) → H1 f = some (LamO f (mk t c')) → H1 c' = some (CodeO c' (mk t c').q) → Q (.ref f) H1
section
variable {X : Cx} {T : List (Addr × Str)} {c P : Addr} {params : Arguments} {body : Expr} {scope : Scope} {pos : Pos}
theorem pe_lam0 (TB : TabB X.base X.mg c P) (hcode : X.env.code = .ref c) (hm : (P, X.env.qual ++ "<lambda>") ∈ T) (hu : ∀ p ∈ T, p.1 = P → p.2 = X.env.qual ++ "<lambda>")
    (hF : ∀ y ∈ scope.names, y.2 = .free → X.env.scope.names.lookup y.1 = some .cell ∨ X.env.scope.names.lookup y.1 = some .free) (hdef : defaultsOf params X.env = ([], [])) :
    PE X (.Lambda params body scope pos) (tLamV T fun c' => ⟨X.env.qual ++ "<lambda>", params, body, scope, cloFrom X.env.cells scope.names [], .none, c'⟩) := by
  refine ⟨fun pins s σ H Q I h => ?_⟩
  obtain ⟨hT, h⟩ := h
  have hfree : ∀ y ∈ scope.names, y.2 = .free → ∃ c, X.env.cells.lookup y.1 = some c := fun y hy e => (hF y hy e).elim (fun z => I.ok.has _ (.inl z)) fun z => I.ok.has _ (.inr z)
  refine PySem.W.kla_eval hdef ?_
  simp only [makeFunction_eq, List.isEmpty_nil, List.filterMap_nil, List.zip_nil_right, pure_bind, if_true]
  exact lam_tail I TB hcode hm hu hT hfree fun f c' H1 s' I1 x1 t1 hf e1 e2 => ⟨.ref f, H1, I1, rfl, h f c' H1 x1 t1 hf e1 e2⟩
theorem pe_lam1 {d : Int} {j : Nat} {dp : Pos} (TB : TabB X.base X.mg c P) (hcode : X.env.code = .ref c) (hm : (P, X.env.qual ++ "<lambda>") ∈ T) (hu : ∀ p ∈ T, p.1 = P → p.2 = X.env.qual ++ "<lambda>")
    (hF : ∀ y ∈ scope.names, y.2 = .free → X.env.scope.names.lookup y.1 = some .cell ∨ X.env.scope.names.lookup y.1 = some .free) (hd : params.defaults = [.Constant (.int d) j dp]) (hk : params.kw_defaults = []) :
    PE X (.Lambda params body scope pos) (tLamD T d fun t c' => ⟨X.env.qual ++ "<lambda>", params, body, scope, cloFrom X.env.cells scope.names [], .ref t, c'⟩) := by
  refine ⟨fun pins s σ H Q I h => ?_⟩
  obtain ⟨hT, h⟩ := h
  have hfree : ∀ y ∈ scope.names, y.2 = .free → ∃ c, X.env.cells.lookup y.1 = some c := fun y hy e => (hF y hy e).elim (fun z => I.ok.has _ (.inl z)) fun z => I.ok.has _ (.inr z)
  refine PySem.W.kdv_lam (by rw [hd]; rfl) hk ?_
  rw [hd]
  refine PySem.W.kdv_all1 (thn ((pe_int (X := X) (i := d) (j := j) (pos := dp)).run pins s σ H (fun v H1 => v = .int d ∧ H1 = H) I ⟨rfl, rfl⟩) fun u s1 ⟨v, H1, I1, rv, e1, e2⟩ => PySem.W.kdv_all0 ?_)
  subst e1
  subst e2
  obtain ⟨tk, rfl⟩ := rv
  simp only [makeFunction_eq, List.isEmpty_nil, List.isEmpty_cons, List.filterMap_nil, List.zip_nil_right, pure_bind, if_true, Bool.false_eq_true, if_false]
  refine wpAny_bind (wpAny_newTextTuple ?_)
  have nt := I1.hok.fresh (Nat.le_refl _)
  have I2 : Inv X pins σ (upd H1 s1.heap.objs.size (.tup [.int d])) { s1 with heap := s1.heap.push { cls := .type "tuple", data := .seq [Value.int d tk].toArray } } :=
    I1.laid (t' := s1.toks) (fun b u e => Heap.get?_push_of_some _ e) (Nat.le_refl _) ⟨by show 1 ≤ sizeLine; decide, [.int d tk], .cons ⟨_, rfl⟩ .nil, ⟨_, Heap.get?_push_size _ rfl, rfl, _, rfl⟩⟩
  have kp : ∀ {b o}, H1 b = some o → (upd H1 s1.heap.objs.size (.tup [.int d])) b = some o := fun e => (upd_ne (ne_of_none e nt)).trans e
  refine lam_tail I2 TB hcode hm hu (hT.ext fun b o e => kp e) hfree fun f c' H3 s' I3 x1 t1 hf e1 e2 => ⟨.ref f, H3, I3, rfl, h f c' s1.heap.objs.size H3 (fun b o e n => x1 b o (kp e) n) t1 ?_ (x1 _ _ upd_same (by intro ps z; cases z)) e1 e2⟩
  unfold upd at hf
  split at hf
  · cases hf
  · exact hf
end
end Rl
/-! A kept lambda is called, in a def that the maker calls. -/
namespace Rl
open PySem PySem.Spec PyProof.Rows L2 LamX
/-- its names: captured ones, globals, parameters that the maker's slots don't name -/
structure LamP (N : List Str) (sc scope : Scope) : Prop where
  kind : scope.kind = .function
  co : scope.isCoroutine = false
  gen : scope.isGenerator = false
  nocell : ∀ y ∈ scope.names, y.2 ≠ .cell
  own : ∀ y ∈ scope.names, y.2 = .local → y.1 ∉ N
  free : ∀ y ∈ scope.names, y.2 = .free → sc.names.lookup y.1 = some .cell ∨ sc.names.lookup y.1 = some .free
def lamPB (N : List Str) (sc scope : Scope) : Bool :=
  decide (scope.kind = .function) && !scope.isCoroutine && !scope.isGenerator && scope.names.all fun y => !decide (y.2 = .cell) && (!decide (y.2 = .local) || !decide (y.1 ∈ N)) && (!decide (y.2 = .free) || (decide (sc.names.lookup y.1 = some .cell) || decide (sc.names.lookup y.1 = some .free)))
theorem lamP_by {N : List Str} {sc scope : Scope} (h : lamPB N sc scope = true) : LamP N sc scope := by
  unfold lamPB at h
  simp only [Bool.and_eq_true, List.all_eq_true, Bool.not_eq_true', Bool.or_eq_true, decide_eq_false_iff_not, decide_eq_true_eq] at h
  obtain ⟨⟨⟨k1, k2⟩, k3⟩, k4⟩ := h
  refine ⟨k1, k2, k3, fun y hy => (k4 y hy).1.1, fun y hy e => ?_, fun y hy e => ?_⟩
  · rcases (k4 y hy).1.2 with z | z
    · exact absurd e z
    · exact z
  · rcases (k4 y hy).2 with z | z
    · exact absurd e z
    · exact z
section
variable {X : Cx} {pins : List (Addr × Obj)} {σ : L2.St} {H HZ : Hp} {s s1 : Shared}
theorem LamP.has {scope : Scope} (L : LamP X.N X.env.scope scope) (ok : X.Ok) : ∀ y ∈ scope.names, y.2 = .free → ∃ c, X.env.cells.lookup y.1 = some c := fun y hy e => (L.free y hy e).elim (fun z => ok.has _ (.inl z)) fun z => ok.has _ (.inr z)
theorem lam_enter {ex : List Addr} {A : Around} {outer : List Env} {E : XK} {scope : Scope} {f c' : Addr} {g : Heap} {tk : Nat} {m1 : Str → Option Value} (I : Inv X pins σ H s) (L : LamP X.N X.env.scope scope) (e0 : Env0 X.prog X.w X.K X.mg X.base A outer s1 HZ) (hd : A.handled = none) (hex : ∀ y d, X.env.cells.lookup y = some d → d ∉ ex)
    (un : Un (frs X.stack) ex H HZ s.heap s1.heap) (hns : g.Ns s1.heap.objs.size m1) (kp : ∀ b o, s1.heap.get? b = some o → g.get? b = some o) :
    Inv (lamCx X A outer s1 HZ E scope f c') [] σ HZ { s1 with heap := g, toks := tk } := by
  have hfree := L.has I.ok
  have back : ∀ {y d}, (cloFrom X.env.cells scope.names []).lookup y = some d → X.env.cells.lookup y = some d := fun {y d} e => NdefX.clo_cm hfree e
  have there : ∀ {y}, scope.names.lookup y = some .free → ∃ d, (cloFrom X.env.cells scope.names []).lookup y = some d := fun {y} hl => mem_lookup (cloFrom_has (cells := X.env.cells) (acc := []) (PySem.mem_of_lookup hl))
  have cellK : ∀ {d : Addr} {v : Option Value}, H d = none → d ∉ ex → s.heap.IsCell d v → g.IsCell d v := fun {d v} n nx z => by
    obtain ⟨o, ho, hv⟩ := z
    obtain ⟨sl, q⟩ := un.any ho n nx
    exact ⟨_, kp _ _ q, hv⟩
  have none1 : ∀ b : Addr, b ∉ (lamCx X A outer s1 HZ E scope f c').ex := fun b z => absurd (show b ∈ ([] : List Addr) from z) (by simp)
  refine ⟨⟨e0.mod, L.kind, rfl, rfl, Nat.le_refl _, fun y z d e1 e2 => I.ok.inj y z d (back e1) (back e2), fun y hy => ?_, fun y d z _ => ?_, fun _ => hd, Around.frames_deeper e0.frames, .inr ⟨rfl, rfl⟩, fun b z => absurd z (none1 b), e0.bs, e0.bsz, fun b _ _ => none1 b, fun b z => absurd z (none1 b), e0.funs, e0.frf⟩,
    rfl, e0.bare, Un.kept kp, ⟨_, hns, fun i y v e1 e2 e3 => ?_⟩, fun y d e => ?_, e0.hok.fresh (Nat.le_refl _), fun y d e => ?_, fun q hq => absurd (show q ∈ ([] : List (Addr × Obj)) ++ [] from hq) (by simp), e0.hok.kept kp, I.len⟩
  · have hy : scope.names.lookup y = some .cell ∨ scope.names.lookup y = some .free := hy
    rcases hy with hy | hy
    · exact absurd rfl (L.nocell _ (PySem.mem_of_lookup hy))
    · exact there hy
  · have z : false = true := z
    cases z
  · have e3 : Vis scope y := e3
    have e1 : X.N[i]? = some y := e1
    rcases e3 with k | k | k
    · exact absurd (List.mem_of_getElem? e1) (L.own _ (PySem.mem_of_lookup k) rfl)
    · exact absurd rfl (L.nocell _ (PySem.mem_of_lookup k))
    · obtain ⟨m, hn, hl⟩ := I.loc
      have vis : Vis X.env.scope y := (L.free _ (PySem.mem_of_lookup k) rfl).elim (fun z => .inr (.inl z)) fun z => .inr (.inr z)
      obtain ⟨w', r, q⟩ := hl i y v e1 e2 vis
      obtain ⟨d, h2⟩ := there k
      refine ⟨w', r, .inr ⟨.inr k, d, h2, ?_⟩⟩
      have h3 := back h2
      rcases q with ⟨k', _⟩ | ⟨_, d3, e', z⟩
      · have k' : X.env.scope.names.lookup y = some .local := k'
        rcases L.free _ (PySem.mem_of_lookup k) rfl with k2 | k2
        · rw [show X.env.scope.names.lookup y = _ from k2] at k'
          cases k'
        · rw [show X.env.scope.names.lookup y = _ from k2] at k'
          cases k'
      · rw [h3] at e'
        cases e'
        exact cellK (I.freeC y _ h3) (hex y _ h3) z
  · obtain ⟨w', z⟩ := I.cell y d (back e)
    exact ⟨w', cellK (I.freeC y d (back e)) (hex y d (back e)) z⟩
  · obtain ⟨v, o, ho, hv⟩ := I.cell y d (back e)
    exact un.free d o ho (I.freeC y d (back e)) (hex y d (back e))
/-- a(), in the def that the maker calls and that got the lambda -/
theorem un_more {fs ex : List Addr} {H H' : Hp} {h h' : Heap} (u : Un fs [] H H' h h') : Un fs ex H H' h h' :=
  ⟨fun b o e n k _ => u.keep b o e n k (by simp), fun b o e n k _ => u.slot b o e n k (by simp), fun b o e n _ => u.free b o e n (by simp), fun b o e _ => u.there b o e (by simp), u.tups, u.frzs, u.tbls⟩
theorem pe_actVB {ex : List Addr} {sC : Shared} {HC : Hp} {CXg : CXT} {Eg : XK} {Ng : List Str} {qg : Str} {sg : Scope} {g f : Addr} {cdg : Value} {k i : Nat} {a : Str} {pn : List (Addr × Obj)} {xe : Value → Shared → Prop} {W : WX} {E : L2.St → XK} {tb : XK → TE} {p1 p2 : Pos} {F : LF} {G : Hp → Prop}
    (I : Inv X pins σ H s) (hex : ∀ y d, X.env.cells.lookup y = some d → d ∉ ex) (unB : Un (frs X.stack) ex H HC s.heap sC.heap) (L : LamP X.N X.env.scope F.scope) (hcl : F.cl = cloFrom X.env.cells F.scope.names []) (hq : F.q = X.env.qual ++ "<lambda>")
    (hbind : ∀ (doc pm ctv : Value) (sZ : Shared) (HZ : Hp), HOk X.prog X.w HZ sZ.heap → G HZ → ∃ binds, BindsTo sZ (PySem.W.kdv_fn "<lambda>" F.q F.params (.expr F.body) F.scope F.cl F.dV doc pm (.ref F.c) ctv) ⟨[], []⟩ binds ∧ ∀ y ∈ binds, F.scope.names.lookup y.1 = some .local)
    (tk : Takes ((cxOf CXg X.prog X.w X.K X.mg X.base Ng qg sg g cdg X.A X.stack sC HC Eg).tr pn xe) W) (hW : ∀ cls d σ' H', E σ' cls d H' → W cls d σ' H') (hr : Room (k + 1) (X.A.deeper (envOfC qg sg sC.heap.objs.size g cdg)))
    (hbody : ∀ (E' : XK) (A : Around) (outer : List Env) (s : Shared) (H : Hp), Room k (A.deeper (lamEnv X F.scope s.heap.objs.size f F.c)) → PE (lamCx X A outer s H E' F.scope f F.c) F.body (tb E'))
    (hN : Ng[i]? = some a) (hv : Vis sg a) (hd : (a == ("__debug__" : Str)) = false := by decide) (hcd : (a == ("__classdict__" : Str)) = false := by decide) :
    PE ((cxOf CXg X.prog X.w X.K X.mg X.base Ng qg sg g cdg X.A X.stack sC HC Eg).tr pn xe) (.Call (.Name a p1) [] [] p2)
      (fun σZ HZ Q => σZ[i]? = some (some (.ref f)) ∧ HZ f = some (LamO f F) ∧ HZ F.c = some (CodeO F.c F.q) ∧ G HZ ∧ tb (E σZ) σ HZ Q) := by
  refine ⟨fun pinsZ sZ σZ HZ Q IZ h => ?_⟩
  obtain ⟨hs, hf, hc, hg, ht⟩ := h
  refine wpAny_Call_Name_kw (thn ((pe_var (pos := p1) (i := i) hN hv hd hcd).run pinsZ sZ σZ HZ (fun v H1 => v = .ref f ∧ H1 = HZ) IZ ⟨.ref f, hs, rfl, rfl⟩) fun u s2 ⟨v, H2, I2, rv, e1, e2⟩ => ?_)
  subst e1
  rw [e2] at I2
  obtain rfl : u = Value.ref f := rv
  obtain ⟨⟨doc, pm, ctv, of1⟩, _, _⟩ := I2.hok f _ hf
  obtain ⟨⟨oc, vs, t, c1, c2, c3⟩, _, _⟩ := I2.hok F.c _ hc
  refine PySem.W.callWith_F0 ⟨_, _, _, _, of1⟩ ?_
  have un : Un (frs X.stack) ex H HZ s.heap s2.heap := unB.trans (un_more I2.base)
  obtain ⟨binds, hbi, hloc⟩ := hbind doc pm ctv s2 HZ I2.hok hg
  have rc : codeAny (model X.prog X.w) (X.A.deeper (envOfC qg sg sC.heap.objs.size g cdg)) (.call (.ref f) ⟨[], []⟩) (CR (L2.CX X.prog X.w) (envOfC qg sg sC.heap.objs.size g cdg :: X.stack) X.prog X.w HZ s2 Q (E σZ)) s2 := by
    refine PySem.W.kla_callFunE hr.depth of1 rfl L.co L.gen rfl ⟨F.c, oc, vs, t, rfl, c1, c2, c3⟩ (hbi _ _ _ _ ?_)
    refine wpAny_newFunctionEnv L.nocell hloc (fun h1 hns hsb => ⟨I2.nolimit.fresh _ hsb, ?_⟩) L.kind
    have ee : PySem.W.envX F.q F.scope s2.heap.objs.size f (.ref F.c) F.cl = lamEnv X F.scope s2.heap.objs.size f F.c := by rw [hq, hcl]
    show codeAny _ _ (.expr F.body (PySem.W.envX F.q F.scope s2.heap.objs.size f (.ref F.c) F.cl)) _ _
    rw [ee]
    have kp : ∀ b o, s2.heap.get? b = some o → h1.get? b = some o := fun b o e => hsb.extBut b o (Nat.ne_of_lt (Heap.lt_size e)) (Heap.get?_push_of_some _ e)
    have J := lam_enter (E := E σZ) (scope := F.scope) (f := f) (c' := F.c) (tk := s2.toks + binds.length) I L I2.env0 hr.hd hex un hns kp
    refine PySem.W.kla_codeExpr (wpAny_mono ((hbody (E σZ) _ _ s2 HZ (hr.deeper _)).run [] _ _ HZ Q J ht) (fun v s' hh => ?_) fun e s' hh => hh)
    obtain ⟨w', H', J', r', q'⟩ := hh
    exact ⟨w', H', J'.os, J'.bare, J'.base, J'.hok, r', q'⟩
  refine wpAny_call (codeAny_mono rc fun r s' hh => ?_)
  cases r with
  | error e => exact tk e s' (XE.of_call I2 (fun cls d H' z => hW cls d σZ H' z) hh)
  | ok fl =>
    cases fl with
    | ret u => exact I2.after hh
    | next => exact hh.elim
    | brk => exact hh.elim
    | cont => exact hh.elim
/-- a(), in the def that the maker calls and that got the lambda -/
theorem pe_actV {CXg : CXT} {Eg : XK} {Ng : List Str} {qg : Str} {sg : Scope} {g f : Addr} {cdg : Value} {k i : Nat} {a : Str} {pn : List (Addr × Obj)} {xe : Value → Shared → Prop} {W : WX} {E : L2.St → XK} {tb : XK → TE} {p1 p2 : Pos} {F : LF} {G : Hp → Prop}
    (I : Inv X pins σ H s) (L : LamP X.N X.env.scope F.scope) (hcl : F.cl = cloFrom X.env.cells F.scope.names []) (hq : F.q = X.env.qual ++ "<lambda>")
    (hbind : ∀ (doc pm ctv : Value) (sZ : Shared) (HZ : Hp), HOk X.prog X.w HZ sZ.heap → G HZ → ∃ binds, BindsTo sZ (PySem.W.kdv_fn "<lambda>" F.q F.params (.expr F.body) F.scope F.cl F.dV doc pm (.ref F.c) ctv) ⟨[], []⟩ binds ∧ ∀ y ∈ binds, F.scope.names.lookup y.1 = some .local)
    (tk : Takes ((cxOf CXg X.prog X.w X.K X.mg X.base Ng qg sg g cdg X.A X.stack s H Eg).tr pn xe) W) (hW : ∀ cls d σ' H', E σ' cls d H' → W cls d σ' H') (hr : Room (k + 1) (X.A.deeper (envOfC qg sg s.heap.objs.size g cdg)))
    (hbody : ∀ (E' : XK) (A : Around) (outer : List Env) (s : Shared) (H : Hp), Room k (A.deeper (lamEnv X F.scope s.heap.objs.size f F.c)) → PE (lamCx X A outer s H E' F.scope f F.c) F.body (tb E'))
    (hN : Ng[i]? = some a) (hv : Vis sg a) (hd : (a == ("__debug__" : Str)) = false := by decide) (hcd : (a == ("__classdict__" : Str)) = false := by decide) :
    PE ((cxOf CXg X.prog X.w X.K X.mg X.base Ng qg sg g cdg X.A X.stack s H Eg).tr pn xe) (.Call (.Name a p1) [] [] p2)
      (fun σZ HZ Q => σZ[i]? = some (some (.ref f)) ∧ HZ f = some (LamO f F) ∧ HZ F.c = some (CodeO F.c F.q) ∧ G HZ ∧ tb (E σZ) σ HZ Q) :=
  pe_actVB (ex := []) I (fun _ _ _ => by simp) Un.refl L hcl hq hbind tk hW hr hbody hN hv hd hcd
end
end Rl
/-! x(e), e a kept lambda, x a def that calls what it gets. -/
namespace Rl
open PySem PySem.Spec PyProof.Rows L2 LamX
/-- the def that calls what it got: a calls it; R: what must be true of the abstract heap at the call; TT: what the def makes of the lambda's reading -/
def GivesV (X : Cx) (Ng : List Str) (x : Str) (sg : Scope) (g : Addr) (cdg : Value) (bg : List Stmt) (a : Str) (TT : (XK → Hp → VK → Prop) → Hp → VK → Prop) : Prop :=
  ∀ (f : Addr) (R : Hp → Prop) (s : Shared) (H : Hp) (Q : VK) (tl : XK → Hp → VK → Prop),
    (∀ (W : WX) (pn : List (Addr × Obj)) (xe : Value → Shared → Prop) (p1 p2 : Pos), Takes ((cxOf C8.CX0 X.prog X.w X.K X.mg X.base Ng x sg g cdg X.A X.stack s H C8.E0).tr pn xe) W →
      PE ((cxOf C8.CX0 X.prog X.w X.K X.mg X.base Ng x sg g cdg X.A X.stack s H C8.E0).tr pn xe) (.Call (.Name a p1) [] [] p2) (fun σZ HZ Q => σZ[0]? = some (some (.ref f)) ∧ R HZ ∧ tl (fun cls d H' => W cls d σZ H') HZ Q)) →
    R H → TT tl H Q →
    ∃ t, PSs (cxOf C8.CX0 X.prog X.w X.K X.mg X.base Ng x sg g cdg X.A X.stack s H C8.E0).nox bg t ∧ t { nx := fun _ H' => Q .non H', rt := Q } (L2.start Ng [.ref f]) H
/-- one of a family of lambdas, all made where X stands -/
structure Fam (X : Cx) (ι : Type) (F : ι → LF) (G : ι → Hp → Prop) : Prop where
  nm : ∀ i, LamP X.N X.env.scope (F i).scope
  cl : ∀ i, (F i).cl = cloFrom X.env.cells (F i).scope.names []
  q : ∀ i, (F i).q = X.env.qual ++ "<lambda>"
  bind : ∀ i (doc pm ctv : Value) (sZ : Shared) (HZ : Hp), HOk X.prog X.w HZ sZ.heap → G i HZ → ∃ binds, BindsTo sZ (PySem.W.kdv_fn "<lambda>" (F i).q (F i).params (.expr (F i).body) (F i).scope (F i).cl (F i).dV doc pm (.ref (F i).c) ctv) ⟨[], []⟩ binds ∧ ∀ y ∈ binds, (F i).scope.names.lookup y.1 = some .local
def tLamC {ι : Type} (F : ι → LF) (G : ι → Hp → Prop) (TT : (XK → Hp → VK → Prop) → Hp → VK → Prop) (ta : TA) (t : ι → XK → TE) : TE := fun σ H Q => ta σ H fun vs H1 => ∃ (f : Addr) (i : ι), vs = [.ref f] ∧ H1 f = some (LamO f (F i)) ∧ H1 (F i).c = some (CodeO (F i).c (F i).q) ∧ G i H1 ∧ TT (fun E H' Q' => t i E σ H' Q') H1 Q
section
variable {X : Cx}
theorem pe_lamcallV {ι : Type} {F : ι → LF} {G : ι → Hp → Prop} {TT : (XK → Hp → VK → Prop) → Hp → VK → Prop} {x a : Str} {g : Addr} {k : Nat} {pg : Arguments} {bg : List Stmt} {sg : Scope} {dV kV doc pm cdv ct oc : Value} {an od : Option Addr} {osl : Array (Option Value)} {Ng : List Str}
    {e : Expr} {ta : TA} {t : ι → XK → TE} {p pos : Pos} (hg : Gl X x) (hm : X.mg x = some (.ref g)) (hk : PySem.W.keepIn X.K (.ref g) = true)
    (lk : X.K.lookup g = some ⟨oc, od, .func (PySem.W.fnOf x x pg bg sg dV kV doc pm an cdv ct), osl⟩) (hcg : PySem.W.codeIn X.K cdv x = true) (hb : L2.Binds X.K (PySem.W.fnOf x x pg bg sg dV kV doc pm an cdv ct) [a] []) (Sg : FnScope Ng [a] sg) (hNg : Ng[0]? = some a) (hva : Vis sg a)
    (hG : GivesV X Ng x sg g cdv bg a TT) (fam : Fam X ι F G) (ha : PA X [e] ta) (hr : Room (k + 2) X.A)
    (hbody : ∀ (i : ι) (A : Around) (outer : List Env) (s : Shared) (H : Hp) (E : XK) (f : Addr), Room k (A.deeper (lamEnv X (F i).scope s.heap.objs.size f (F i).c)) → PE (lamCx X A outer s H E (F i).scope f (F i).c) (F i).body (t i E))
    (hst : starEach [e] X.env = (false, eval e X.env) :: starEach [] X.env := by rfl) (hpl : (backTo pos (starEach ([] : List Expr) X.env)).any (·.1) = false := by rfl)
    (hdb : (x == ("__debug__" : Str)) = false := by decide) (hd : (a == ("__debug__" : Str)) = false := by decide) (hcd : (a == ("__classdict__" : Str)) = false := by decide) :
    PE X (.Call (.Name x p) [e] [] pos) (tLamC F G TT ta t) := by
  refine ⟨fun pins s σ H Q I h => ?_⟩
  refine wpAny_Call_Name_kw (ld_glob I hg hm ?_ hdb)
  refine PySem.W.callWith_K (h₀ := X.base) I.ok.mod.kin hk (thn (ha.run pos pins s σ H _ I h) fun us s1 ⟨vs, H1, I1, r, q⟩ => ⟨I1.kIn, ?_⟩) hst hpl
  obtain ⟨f, i, rfl, e1, e2, e3, q⟩ := q
  rw [Vals.ref1 r]
  have rc : codeAny (model X.prog X.w) X.A (.call (.ref g) ⟨[.ref f], []⟩) (CR C8.CX0 X.stack X.prog X.w H1 s1 Q C8.E0) s1 := by
    refine run_ofS (N := Ng) (ps := [a]) (us := [.ref f]) (vs := [.ref f]) lk hcg Sg hr I1.env0 (hb s1 [.ref f] I1.kIn rfl) (.cons rfl .nil) rfl fun hr2 => ?_
    have go := hG f (fun HZ => HZ f = some (LamO f (F i)) ∧ HZ (F i).c = some (CodeO (F i).c (F i).q) ∧ G i HZ) s1 H1 Q (fun E H' Q' => t i E σ H' Q') (fun W pn xe p1 p2 tk => by
      have act := pe_actV (i := 0) (p1 := p1) (p2 := p2) (E := fun σ' cls d H' => W cls d σ' H') (tb := t i) I1 (fam.nm i) (fam.cl i) (fam.q i) (fam.bind i) tk (fun _ _ _ _ z => z) hr2 (fun E' A outer s H hr3 => hbody i A outer s H E' f hr3) hNg hva hd hcd
      exact ⟨fun pins2 s2 σ2 H2 Q2 I2 ⟨a1, ⟨a2, a3, a4⟩, a5⟩ => act.run pins2 s2 σ2 H2 Q2 I2 ⟨a1, a2, a3, a4, a5⟩⟩) ⟨e1, e2, e3⟩ q
    obtain ⟨t', ht', hq'⟩ := go
    exact ⟨t', ht'.nox, hq'⟩
  refine wpAny_call (codeAny_mono rc fun r s2 hh => ?_)
  cases r with
  | error e => exact (show False from hh).elim
  | ok fl =>
    cases fl with
    | ret u => exact I1.after hh
    | next => exact hh.elim
    | brk => exact hh.elim
    | cont => exact hh.elim
end
end Rl
/-! A comprehension whose element may use what the def's slots held when the block began: kept lambdas are called in it. -/
namespace Rl
open PySem PySem.Spec PyProof.Rows L2 LamX
section
variable {X : Cx}
/-- the block of a comprehension that begins at z -/
abbrev bCx (X : Cx) (z : Shared) (Z : Hp) (sc : Scope) (L : Addr) (cl : List (Str × Addr)) (fp : List Addr) : Cx := X.blk z Z sc (compEnvC sc cl L X.env) fp
/-- the element is read in a block that began where the def's slots are τ -/
def ElB (X : Cx) (τ : L2.St) (sc : Scope) (e : Expr) (te : TE) : Prop :=
  ∀ (pins : List (Addr × Obj)) (z : Shared) (Z : Hp) (L : Addr) (cl : List (Str × Addr)) (fp : List Addr), Inv X pins τ Z z → (∀ b ∈ fp, FpOk X pins Z b) → PE (bCx X z Z sc L cl fp) e te
theorem lcB_loop {pins : List (Addr × Obj)} {τ : L2.St} {Q : VK} {e tg it0 : Expr} {sc : Scope} {own : List (Str × Nat)} {pos : Pos} {g : TG} {te : TE} {R : Result → Shared → Prop} {it D L : Addr} {cl : List (Str × Addr)} {fp : List Addr} {tn : Nat → Heap → Prop} {J : It} {z zs : Shared} {Z : Hp}
    (hc : X.calm = true) (T : Turn X.prog X.w X.K tg J fp it tn) (IZ : Inv X pins τ Z z) (fZ : ∀ b ∈ fp, FpOk X pins Z b) (hL : (compEnvC sc cl L X.env).locals = L) (hLz : z.heap.objs.size ≤ L)
    (pg : PG (bCx X z Z sc L cl fp) tg g) (pe : PE (bCx X z Z sc L cl fp) e te)
    (IS : Inv (bCx X z Z sc L cl fp) [] (wipe τ (own.map (·.2))) Z zs) (tS : tn 0 zs.heap)
    {W : Nat → Nat → Hp → Prop} {m₀ : Nat} (w₀ : W 0 m₀ Z)
    (turn : ∀ i m H, W i m H → (J.stop i H ∧ Q (.ref D) H) ∨ (J.go i H ∧ ∃ Nx : Hp → Prop, (∀ H', Nx H' → ∃ m', m' < m ∧ W (i + 1) m' H') ∧ ∀ x H', J.yld i H x H' → g x (wipe τ (own.map (·.2))) H' fun σ2 H2 => wipe σ2 (own.map (·.2)) = wipe τ (own.map (·.2)) ∧ tYes σ2 H2 fun b H3 =>
      if b = true then te σ2 H3 fun y H4 => ∃ acc, H4 D = some (.lst acc) ∧ acc.length < sizeLine ∧ Nx (upd H4 D (.lst (acc ++ [y]))) else Nx H3))
    (fin : ∀ s' m H', Inv X pins τ H' s' → Q (.ref D) H' → s'.heap.Ns L m → FpOk X pins H' L → R (.ok .next) s') :
    codeAny (model X.prog X.w) X.A (.compLoop (.ListComp e [⟨tg, it0, [], 0⟩] sc pos) 0 (.ref it) (.ref D) (compEnvC sc cl L X.env)) R zs := by
  have ofB : ∀ {σ' : L2.St} {H' : Hp} {s' : Shared}, Inv (bCx X z Z sc L cl fp) [] σ' H' s' → (∀ b ∈ fp, H' b = none) → ∀ b ∈ fp, FpOk (bCx X z Z sc L cl fp) [] H' b := fun {σ' H' s'} J0 nn b hb =>
    ⟨nn b hb, (J0.ok.exf b hb).1, J0.ok.exfs b hb, .inl hb, fun y d k => (J0.ok.exf b hb).2 y d k, fun p hp => by
      have hp : p ∈ ([] : List (Addr × Obj)) ++ [] := hp
      simp at hp⟩
  refine compLoop_any (fun m s' => ∃ i H', Inv (bCx X z Z sc L cl fp) [] (wipe τ (own.map (·.2))) H' s' ∧ tn i s'.heap ∧ (∀ b ∈ fp, H' b = none) ∧ W i m H') ?_ m₀ ⟨0, Z, IS, tS, fun b hb => (fZ b hb).1, w₀⟩
  intro m s1 ⟨i, H1, I1, t1, n1, w1⟩
  cases turn i m H1 w1 with
  | inl hs =>
    refine thnF (T.done (bCx X z Z sc L cl fp) rfl rfl rfl hc i [] s1 _ H1 (fun _ _ => False) I1 (ofB I1 n1) t1 hs.1) fun r s2 hr => ?_
    rw [hr.1]
    have IX : Inv X pins τ H1 s2 := IZ.call' (ch := fp) hr.2.os hr.2.base hr.2.hok hr.2.bare fun b hb => by
      obtain ⟨_, q1, _, q3, q4, q5⟩ := fZ b hb
      exact ⟨q3, q1, q4, q5⟩
    have nL : H1 L = none := by
      have q := hr.2.free
      rw [show (bCx X z Z sc L cl fp).env.locals = L from hL] at q
      exact q
    obtain ⟨mm, hmm, _⟩ := hr.2.loc
    rw [show (bCx X z Z sc L cl fp).env.locals = L from hL] at hmm
    exact fin s2 mm H1 IX hs.2 hmm (IZ.fpOk hLz nL)
  | inr hg =>
    obtain ⟨hgo, Nx, hNx, hstep⟩ := hg
    refine thnF (T.item (bCx X z Z sc L cl fp) rfl rfl rfl hc i [] s1 _ H1 (fun _ _ => False) I1 (ofB I1 n1) t1 hgo) fun r s2 ⟨u, hr, q2⟩ => ?_
    rw [hr]
    refine thnF q2 fun _ s3 ⟨x, H3, I3, r3, y3, t3, n3⟩ => ?_
    refine thnF (pg.run _ s3 _ H3 x u _ (I3.pinned (ofB I3 n3) (T.obj _ _ t3)) r3 (hstep x H3 y3)) fun _ s4 ⟨σ4, H4, I4, hw, q4⟩ => ?_
    refine thnF ((pts_nil (X := bCx X z Z sc L cl fp)).run _ s4 σ4 H4 _ I4 q4) fun b s5 ⟨H5, I5, q5⟩ => ?_
    have back : ∀ {s' : Shared} {H' : Hp}, Inv (bCx X z Z sc L cl fp) ([] ++ pinsAt fp s3.heap) σ4 H' s' → Nx H' → ∃ k, k < m ∧ ∃ i H', Inv (bCx X z Z sc L cl fp) [] (wipe τ (own.map (·.2))) H' s' ∧ tn i s'.heap ∧ (∀ b ∈ fp, H' b = none) ∧ W i k H' := fun {s' H'} JJ nx => by
      obtain ⟨k, hk, wk⟩ := hNx H' nx
      have pn : ∀ b ∈ fp, ∀ o, s3.heap.get? b = some o → s'.heap.get? b = some o ∧ H' b = none := fun b hb o ho => by
        obtain ⟨p1, p2, _⟩ := JJ.pin (b, o) (List.mem_append_right _ (List.mem_append_right _ (mem_pinsAt hb ho)))
        exact ⟨p1, p2⟩
      refine ⟨k, hk, i + 1, H', (JJ.unpinned (pins := [])).weak (by rw [← hw, wipe_length]) (fun j v hj => ?_), T.keep _ _ _ t3 fun b hb o ho => (pn b hb o ho).1, fun b hb => ?_, wk⟩
      · rw [← hw] at hj
        exact (wipe_some hj).1
      · obtain ⟨o, ho, _⟩ := T.obj _ _ t3 b hb
        exact (pn b hb o ho).2
    cases b with
    | false =>
      rw [if_neg Bool.false_ne_true] at q5
      rw [if_neg Bool.false_ne_true]
      exact back I5 q5
    | true =>
      rw [if_pos rfl] at q5
      rw [if_pos rfl]
      refine thnF (pe.run _ s5 σ4 H5 _ I5 q5) fun v s6 ⟨y, H6, I6, r6, acc, hD, hz, nx⟩ => ?_
      exact app_ok (X := bCx X z Z sc L cl fp) I6 hD hz r6 fun s7 I7 => back I7 nx
theorem lcB_core {pins : List (Addr × Obj)} {s : Shared} {τ : L2.St} {H : Hp} {Q : VK} {e tg iter : Expr} {sc : Scope} {own : List (Str × Nat)} {pos pos' : Pos} {wi : TI} {g : TG} {te : TE} {use : Option (Value → Sem Unit)} {Qf : Value → Shared → Prop}
    (hc : X.calm = true) (hN : X.N.Nodup) (I : Inv X pins τ H s) (hi : PI X tg iter wi) (ok : BlkOk X.N X.env.scope sc own)
    (hg : ∀ (z : Shared) (Z : Hp) (L : Addr) (cl : List (Str × Addr)) (fp : List Addr), PG (bCx X z Z sc L cl fp) tg g) (he : ElB X τ sc e te) (hs : ∀ x, foldedSetIterable iter X.env x = pure x)
    (h : tLc wi g tYes te (own.map (·.2)) τ H Q)
    (hR : ∀ D L s' m H', Inv X pins τ H' s' → Q (.ref D) H' → s'.heap.Ns L m → FpOk X pins H' L → compPost (model X.prog X.w) X.A X.xe use Qf (.ref D) L (.ok .next) s') :
    wpAny (model X.prog X.w) X.A (comprehension (.ListComp e [⟨tg, iter, [], 0⟩] sc pos) sc X.env pos' (newList []) false (eval iter X.env) use) Qf X.xe s := by
  have hf : ∀ y ∈ sc.names, y.2 = .free → ∃ d, X.env.cells.lookup y.1 = some d := fun y hy k => (ok.free y hy k).elim (fun q => I.ok.has _ (.inl q)) fun q => I.ok.has _ (.inr q)
  refine wpAny_comprehension_free (use := use) rfl hs (closure_ok hf) ok.kind (fun y hy k => by rw [ok.uniq y hy, k]) ?_
  refine thn (hi.run pins s τ H _ I h) fun _ s1 h1 => thn h1 fun itv s2 h2 => ?_
  obtain ⟨it, fp, tn, J, H2, rfl, I2, T, t2, f2, q⟩ := h2
  refine wpAny_newObj_type (newEnv_comp ?_) (by show 0 ≤ sizeLine; decide)
  have nD : H2 s2.heap.objs.size = none := I2.hok.fresh (Nat.le_refl _)
  obtain ⟨W, ⟨m₀, w₀⟩, turn⟩ := q _ nD
  obtain ⟨D, eD⟩ : ∃ D, D = s2.heap.objs.size := ⟨_, rfl⟩
  have push : ∀ b o, s2.heap.get? b = some o → (s2.heap.push { cls := .type "list", data := .seq ([] : List Value).toArray }).get? b = some o := fun b o k => Heap.get?_push_of_some _ k
  have I3 : Inv X pins τ (upd H2 s2.heap.objs.size (.lst [])) { s2 with heap := s2.heap.push { cls := .type "list", data := .seq ([] : List Value).toArray } } :=
    I2.laid (t' := s2.toks) push (Nat.le_refl _) ⟨Nat.zero_le _, [], 0, .nil, Heap.get?_push_size _ rfl⟩
  have f3 : ∀ b ∈ fp, FpOk X pins (upd H2 s2.heap.objs.size (.lst [])) b ∧ b < (s2.heap.push { cls := .type "list", data := .seq ([] : List Value).toArray }).objs.size := fun b hb => by
    obtain ⟨o, ho, _⟩ := T.obj _ _ t2 b hb
    have lt := Heap.lt_size ho
    refine ⟨⟨?_, (f2 b hb).2⟩, ?_⟩
    · rw [upd_ne (Nat.ne_of_lt lt)]
      exact (f2 b hb).1
    · rw [Heap.size_push]
      exact Nat.lt_succ_of_lt lt
  have IS := block_start I3 ok hN f3
  have t3 := T.keep _ _ (pushCells ((s2.heap.push { cls := .type "list", data := .seq ([] : List Value).toArray }).push { cls := .type "dict", data := .dict #[] }) sc.names) t2 fun b _ o ho => pushCells_keeps _ _ _ _ (Heap.get?_push_of_some _ (push b o ho))
  have go := lcB_loop (own := own) (e := e) (it0 := iter) (pos := pos) (Q := Q) (D := s2.heap.objs.size) (R := compPost (model X.prog X.w) X.A X.xe use Qf (.ref s2.heap.objs.size) (s2.heap.push { cls := .type "list", data := .seq ([] : List Value).toArray }).objs.size) hc T I3 (fun b hb => (f3 b hb).1) rfl (Nat.le_refl _) (hg _ _ _ _ _) (he pins _ _ _ _ _ I3 fun b hb => (f3 b hb).1) IS t3 w₀ turn
    (fun s' m H' I' q' hm hl => hR _ _ s' m H' I' q' hm hl)
  exact codeAny_compStart_list go (T.self X.A 0 _ _ _ t3 go)
/-- as a value -/
theorem pe_lcB {e tg iter : Expr} {sc : Scope} {own : List (Str × Nat)} {pos : Pos} {wi : TI} {g : TG} {te : L2.St → TE} (hc : X.calm = true) (hN : X.N.Nodup) (hi : PI X tg iter wi) (ok : BlkOk X.N X.env.scope sc own)
    (hg : ∀ (z : Shared) (Z : Hp) (L : Addr) (cl : List (Str × Addr)) (fp : List Addr), PG (bCx X z Z sc L cl fp) tg g) (he : ∀ τ, ElB X τ sc e (te τ)) (hs : ∀ x, foldedSetIterable iter X.env x = pure x := by intro _; rfl) :
    PE X (.ListComp e [⟨tg, iter, [], 0⟩] sc pos) (fun σ H Q => tLc wi g tYes (te σ) (own.map (·.2)) σ H Q) := by
  refine ⟨fun pins s σ H Q I h => ?_⟩
  rw [eval_ListComp]
  refine lcB_core hc hN I hi ok hg (he σ) hs h fun D L s' m H' I' q hn f => ⟨m, hn, fun h'' sb => ?_⟩
  obtain ⟨f0, f1, _, f3, f4, f5⟩ := f
  exact ⟨.ref D, H', I'.turned (t' := s'.toks) (fun b o hb k => (sb.2 b hb).trans k) f0 f1 f3 f4 f5, rfl, q⟩
end
end Rl
/-! Kept lambdas are called in a comprehension's block: x(e) with x a def that calls what it gets, and a(). -/
namespace Rl
open PySem PySem.Spec PyProof.Rows L2 LamX
def tLamB {ι : Type} (F : ι → LF) (G : ι → Hp → Prop) (TT : (XK → Hp → VK → Prop) → Hp → VK → Prop) (ta : TA) (t : ι → XK → TE) (τ : L2.St) : TE := fun σ H Q => ta σ H fun vs H1 => ∃ (f : Addr) (i : ι), vs = [.ref f] ∧ H1 f = some (LamO f (F i)) ∧ H1 (F i).c = some (CodeO (F i).c (F i).q) ∧ G i H1 ∧ TT (fun E H' Q' => t i E τ H' Q') H1 Q
section
variable {X : Cx}
theorem el_lamB {ι : Type} {F : ι → LF} {G : ι → Hp → Prop} {TT : (XK → Hp → VK → Prop) → Hp → VK → Prop} {x a : Str} {g : Addr} {k : Nat} {pg : Arguments} {bg : List Stmt} {sg : Scope} {dV kV doc pm cdv ct oc : Value} {an od : Option Addr} {osl : Array (Option Value)} {Ng : List Str}
    {sc : Scope} {e : Expr} {ta : TA} {t : ι → XK → TE} {p pos : Pos} (hg : ∀ (z : Shared) (Z : Hp) (L : Addr) (cl : List (Str × Addr)) (fp : List Addr), Gl (bCx X z Z sc L cl fp) x) (hm : X.mg x = some (.ref g)) (hk : PySem.W.keepIn X.K (.ref g) = true)
    (lk : X.K.lookup g = some ⟨oc, od, .func (PySem.W.fnOf x x pg bg sg dV kV doc pm an cdv ct), osl⟩) (hcg : PySem.W.codeIn X.K cdv x = true) (hb : L2.Binds X.K (PySem.W.fnOf x x pg bg sg dV kV doc pm an cdv ct) [a] []) (Sg : FnScope Ng [a] sg) (hNg : Ng[0]? = some a) (hva : Vis sg a)
    (hG : GivesV X Ng x sg g cdv bg a TT) (fam : Fam X ι F G) (ha : ∀ (z : Shared) (Z : Hp) (L : Addr) (cl : List (Str × Addr)) (fp : List Addr), PA (bCx X z Z sc L cl fp) [e] ta) (hr : Room (k + 2) X.A)
    (hbody : ∀ (i : ι) (A : Around) (outer : List Env) (s : Shared) (H : Hp) (E : XK) (f : Addr), Room k (A.deeper (lamEnv X (F i).scope s.heap.objs.size f (F i).c)) → PE (lamCx X A outer s H E (F i).scope f (F i).c) (F i).body (t i E))
    (hst : ∀ (L : Addr) (cl : List (Str × Addr)), starEach [e] (compEnvC sc cl L X.env) = (false, eval e (compEnvC sc cl L X.env)) :: starEach [] (compEnvC sc cl L X.env) := by intros; rfl)
    (hpl : ∀ (L : Addr) (cl : List (Str × Addr)), (backTo pos (starEach ([] : List Expr) (compEnvC sc cl L X.env))).any (·.1) = false := by intros; rfl)
    (hdb : (x == ("__debug__" : Str)) = false := by decide) (hd : (a == ("__debug__" : Str)) = false := by decide) (hcd : (a == ("__classdict__" : Str)) = false := by decide) (τ : L2.St) :
    ElB X τ sc (.Call (.Name x p) [e] [] pos) (tLamB F G TT ta t τ) := by
  intro pinsX z Z L cl fp IX fpo
  refine ⟨fun pins s σ H Q I h => ?_⟩
  have hex : ∀ y d, X.env.cells.lookup y = some d → d ∉ fp := fun y d hy hd => (fpo d hd).2.2.2.2.1 y d hy rfl
  refine wpAny_Call_Name_kw (ld_glob I (hg z Z L cl fp) hm ?_ hdb)
  refine PySem.W.callWith_K (h₀ := X.base) I.ok.mod.kin hk (thn ((ha z Z L cl fp).run pos pins s σ H _ I h) fun us s1 ⟨vs, H1, I1, r, q⟩ => ⟨I1.kIn, ?_⟩) (hst L cl) (hpl L cl)
  obtain ⟨f, i, rfl, e1, e2, e3, q⟩ := q
  rw [Vals.ref1 r]
  have rc : codeAny (model X.prog X.w) X.A (.call (.ref g) ⟨[.ref f], []⟩) (CR C8.CX0 X.stack X.prog X.w H1 s1 Q C8.E0) s1 := by
    refine run_ofS (N := Ng) (ps := [a]) (us := [.ref f]) (vs := [.ref f]) lk hcg Sg hr I1.env0 (hb s1 [.ref f] I1.kIn rfl) (.cons rfl .nil) rfl fun hr2 => ?_
    have go := hG f (fun HZ => HZ f = some (LamO f (F i)) ∧ HZ (F i).c = some (CodeO (F i).c (F i).q) ∧ G i HZ) s1 H1 Q (fun E H' Q' => t i E τ H' Q') (fun W pn xe p1 p2 tk => by
      have act := pe_actVB (i := 0) (p1 := p1) (p2 := p2) (E := fun σ' cls d H' => W cls d σ' H') (tb := t i) IX hex I1.base (fam.nm i) (fam.cl i) (fam.q i) (fam.bind i) tk (fun _ _ _ _ z => z) hr2 (fun E' A outer s H hr3 => hbody i A outer s H E' f hr3) hNg hva hd hcd
      exact ⟨fun pins2 s2 σ2 H2 Q2 I2 ⟨a1, ⟨a2, a3, a4⟩, a5⟩ => act.run pins2 s2 σ2 H2 Q2 I2 ⟨a1, a2, a3, a4, a5⟩⟩) ⟨e1, e2, e3⟩ q
    obtain ⟨t', ht', hq'⟩ := go
    exact ⟨t', ht'.nox, hq'⟩
  refine wpAny_call (codeAny_mono rc fun r s2 hh => ?_)
  cases r with
  | error e => exact (show False from hh).elim
  | ok fl =>
    cases fl with
    | ret u => exact I1.after hh
    | next => exact hh.elim
    | brk => exact hh.elim
    | cont => exact hh.elim
/-- a() in the block, a its own name -/
theorem el_actB {ι : Type} {F : ι → LF} {G : ι → Hp → Prop} {sc : Scope} {j k : Nat} {a : Str} {t : ι → TE} {p1 p2 : Pos} (fam : Fam X ι F G) (hr : Room (k + 1) X.A)
    (hbody : ∀ (i : ι) (A : Around) (outer : List Env) (s : Shared) (H : Hp) (f : Addr), Room k (A.deeper (lamEnv X (F i).scope s.heap.objs.size f (F i).c)) → PE (lamCx X A outer s H C8.E0 (F i).scope f (F i).c) (F i).body (t i))
    (hN : X.N[j]? = some a) (hv : ∀ (L : Addr) (cl : List (Str × Addr)), Vis (compEnvC sc cl L X.env).scope a) (hd : (a == ("__debug__" : Str)) = false := by decide) (hcd : (a == ("__classdict__" : Str)) = false := by decide) (τ : L2.St) :
    ElB X τ sc (.Call (.Name a p1) [] [] p2) (fun σ H Q => ∃ (f : Addr) (i : ι), σ[j]? = some (some (.ref f)) ∧ H f = some (LamO f (F i)) ∧ H (F i).c = some (CodeO (F i).c (F i).q) ∧ G i H ∧ t i τ H Q) := by
  intro pinsX z Z L cl fp IX fpo
  refine ⟨fun pins s σ H Q I h => ?_⟩
  have hex : ∀ y d, X.env.cells.lookup y = some d → d ∉ fp := fun y d hy hd => (fpo d hd).2.2.2.2.1 y d hy rfl
  obtain ⟨f, i, hs, hf, hc, hg, ht⟩ := h
  refine wpAny_Call_Name_kw (thn ((pe_var (X := bCx X z Z sc L cl fp) (pos := p1) (i := j) hN (hv L cl) hd hcd).run pins s σ H (fun v H1 => v = .ref f ∧ H1 = H) I ⟨.ref f, hs, rfl, rfl⟩) fun u s2 ⟨v, H2, I2, rv, e1, e2⟩ => ?_)
  subst e1
  rw [e2] at I2
  obtain rfl : u = Value.ref f := rv
  obtain ⟨⟨doc, pm, ctv, of1⟩, _, _⟩ := I2.hok f _ hf
  obtain ⟨⟨oc, vs, tt, c1, c2, c3⟩, _, _⟩ := I2.hok (F i).c _ hc
  refine PySem.W.callWith_F0 ⟨_, _, _, _, of1⟩ ?_
  have un : Un (frs X.stack) fp Z H z.heap s2.heap := I2.base
  obtain ⟨binds, hbi, hloc⟩ := fam.bind i doc pm ctv s2 H I2.hok hg
  have rc : codeAny (model X.prog X.w) X.A (.call (.ref f) ⟨[], []⟩) (CR (L2.CX X.prog X.w) X.stack X.prog X.w H s2 Q C8.E0) s2 := by
    refine PySem.W.kla_callFunE hr.depth of1 rfl (fam.nm i).co (fam.nm i).gen rfl ⟨(F i).c, oc, vs, tt, rfl, c1, c2, c3⟩ (hbi _ _ _ _ ?_)
    refine wpAny_newFunctionEnv (fam.nm i).nocell hloc (fun h1 hns hsb => ⟨I2.nolimit.fresh _ hsb, ?_⟩) (fam.nm i).kind
    have ee : PySem.W.envX (F i).q (F i).scope s2.heap.objs.size f (.ref (F i).c) (F i).cl = lamEnv X (F i).scope s2.heap.objs.size f (F i).c := by rw [fam.q i, fam.cl i]
    show codeAny _ _ (.expr (F i).body (PySem.W.envX (F i).q (F i).scope s2.heap.objs.size f (.ref (F i).c) (F i).cl)) _ _
    rw [ee]
    have kp : ∀ b o, s2.heap.get? b = some o → h1.get? b = some o := fun b o q => hsb.extBut b o (Nat.ne_of_lt (Heap.lt_size q)) (Heap.get?_push_of_some _ q)
    have J := lam_enter (E := C8.E0) (scope := (F i).scope) (f := f) (c' := (F i).c) (tk := s2.toks + binds.length) IX (fam.nm i) I2.env0 hr.hd hex un hns kp
    refine PySem.W.kla_codeExpr (wpAny_mono ((hbody i _ _ s2 H f (hr.deeper _)).run [] _ _ H Q J ht) (fun v s' hh => ?_) fun q s' hh => hh)
    obtain ⟨w', H', J', r', q'⟩ := hh
    exact ⟨w', H', J'.os, J'.bare, J'.base, J'.hok, r', q'⟩
  refine wpAny_call (codeAny_mono rc fun r s3 hh => ?_)
  cases r with
  | error q =>
    obtain ⟨_, _, _, _, _, _, _, _, _, _, _, _, z⟩ := (show L2.CX X.prog X.w X.stack H s2 C8.E0 q s3 from hh)
    exact (show False from z).elim
  | ok fl =>
    cases fl with
    | ret u => exact I2.after hh
    | next => exact hh.elim
    | brk => exact hh.elim
    | cont => exact hh.elim
end
end Rl
/-! Kept lambdas, with and without a default value. -/
namespace Rp
open PySem PySem.Spec PyProof.Rows L2 Rl LamX
def lpA : Expr → Arguments
  | .Lambda p _ _ _ => p
  | _ => ⟨[], [], none, [], [], none, []⟩
def lpB : Expr → Expr
  | .Lambda _ b _ _ => b
  | e => e
def lpS : Expr → Scope
  | .Lambda _ _ s _ => s
  | _ => ⟨.function, [], false, false, []⟩
def dfV : Option Addr → Value
  | none => .none
  | some t => .ref t
def mkF (q : Str) (cells : List (Str × Addr)) (e : Expr) (t : Option Addr) (c : Addr) : LF := ⟨q, lpA e, lpB e, lpS e, cloFrom cells (lpS e).names [], dfV t, c⟩
/-- without parameters -/
def Bd0 (e : Expr) : Prop := ∀ (q : Str) (cl : List (Str × Addr)) (c doc pm ctv : Value) (sZ : Shared), BindsTo sZ (PySem.W.kdv_fn "<lambda>" q (lpA e) (.expr (lpB e)) (lpS e) cl .none doc pm c ctv) ⟨[], []⟩ []
/-- one parameter with a default value -/
def Bd1 (e : Expr) : Prop := ∃ x : Str, (lpS e).names.lookup x = some .local ∧ ∀ (q : Str) (cl : List (Str × Addr)) (t : Addr) (c doc pm ctv : Value) (sZ : Shared) (o : Obj) (v : Value) (n : Nat), sZ.heap.get? t = some o → o.data = .seq #[v] n →
  BindsTo sZ (PySem.W.kdv_fn "<lambda>" q (lpA e) (.expr (lpB e)) (lpS e) cl (.ref t) doc pm c ctv) ⟨[], []⟩ [(x, v)]
def GD (e : Expr) (t : Option Addr) (H : Hp) : Prop := match t with
  | none => Bd0 e
  | some t => Bd1 e ∧ H t = some (.tup [.int 0])
/-- f is the lambda e, kept -/
def KLat (q : Str) (cells : List (Str × Addr)) (H : Hp) (e : Expr) (f : Addr) : Prop := ∃ (t : Option Addr) (c : Addr), H f = some (LamO f (mkF q cells e t c)) ∧ H c = some (CodeO c q) ∧ GD e t H
theorem KLat.extN {q : Str} {cells : List (Str × Addr)} {H H' : Hp} {e : Expr} {f : Addr} (k : KLat q cells H e f) (x : ExtN H H') : KLat q cells H' e f := by
  obtain ⟨t, c, h1, h2, h3⟩ := k
  refine ⟨t, c, x _ _ h1 (lamO_ne), x _ _ h2 codeO_ne, ?_⟩
  cases t with
  | none => exact h3
  | some t => exact ⟨h3.1, x _ _ h3.2 (by intro ps z; cases z)⟩
section
variable {X : Cx}
def lFam (X : Cx) (le : Nat → Expr) : Nat × Option Addr × Addr → LF := fun i => mkF (X.env.qual ++ "<lambda>") X.env.cells (le i.1) i.2.1 i.2.2
theorem fam_ok {le : Nat → Expr} (hl : ∀ j, LamP X.N X.env.scope (lpS (le j))) : Fam X (Nat × Option Addr × Addr) (lFam X le) (fun i H => GD (le i.1) i.2.1 H) where
  nm := fun i => hl i.1
  cl := fun _ => rfl
  q := fun _ => rfl
  bind := fun ⟨j, t, c⟩ doc pm ctv sZ HZ hok hg => by
    cases t with
    | none => exact ⟨[], hg _ _ _ _ _ _ _, fun y hy => by cases hy⟩
    | some t =>
      obtain ⟨⟨x, hx, hb⟩, ht⟩ := hg
      obtain ⟨_, its, rv, o, ho, _, n, hd⟩ := hok t _ ht
      cases rv with
      | cons r1 r2 =>
        rename_i v vs
        cases r2
        exact ⟨[(x, v)], hb _ _ _ _ _ _ _ _ _ _ _ ho hd, fun y hy => by
          obtain rfl := List.mem_singleton.mp hy
          exact hx⟩
end
end Rp
/-! _law_taken, _law_pair, _law_alike. -/
namespace Rp
open PySem PySem.Spec PyProof.Rows L2 Rz Rm
def rGetL (K : PySem.W.Frag) : V → V → Hp → VK → Prop := fun x y H Q => ∃ p xs i v, x = .ref p ∧ y = .int i ∧ SqL K H p xs ∧ 0 ≤ i ∧ i < 1000 ∧ xs[i.toNat]? = some v ∧ Q v H
theorem get_listP {X : Cx} : PGet X (rGetL X.K) := by
  intro pins s σ H x y v u Q I rx ry h
  obtain ⟨p, xs, i, z, rfl, rfl, hq, h0, h1, he, q⟩ := h
  cases rx
  obtain ⟨t, rfl⟩ := ry
  obtain ⟨its, r, pl, hz⟩ := I.list hq
  obtain ⟨w, ew, rw'⟩ := r.get he
  exact wpAny_getItem_list pl.isList h0 (by omega) (by simpa using ew) ⟨z, H, I, rw', q⟩
end Rp
/-! The law's own model of a ring: a day's list is made anew. -/
namespace Rp
open PySem PySem.Spec PyProof.Rows L2 Rz Rm
theorem get_rg {n i : Nat} {f : Nat → V} (h : i < n) : ((List.range n).map f)[i]? = some (f i) := by
  rw [List.getElem?_map, List.getElem?_range h]
  rfl
theorem at_rg {n i : Nat} {f : Nat → V} (h : i < n) : atI ((List.range n).map f) (i : Int) = some (f i) := atI_nat (get_rg h)
theorem rg_snoc (n : Nat) (f : Nat → V) : (List.range n).map f ++ [f n] = (List.range (n + 1)).map f := by
  rw [List.range_succ, List.map_append]
  rfl
theorem same_none {H H' : Hp} {x : Addr} (s : Same H H') (h : H' x = none) : H x = none := by
  cases e : H x with
  | none => rfl
  | some o =>
    have := s _ _ e
    rw [h] at this
    cases this
end Rp
/-! isinstance of a caught error of an own class that has a dict of its own. -/
namespace Rp
open PySem PySem.Spec PySem.Calls PyProof.Rows PySem.W
theorem kit_exc {K : Frag} {e D : Addr} {oe : Obj} {od : Option Obj} (C : L2.ExcC K D) : KitX K (.ref e) (.ref D) (fun h => InstAt h e oe D od) :=
  kitx_exc (by obtain ⟨cd, hcd, _⟩ := any_some C.hd; exact Option.isSome_iff_exists.mpr ⟨cd, hcd⟩) C.hg C.hk C.hs C.ha C.hn C.ht C.hm
end Rp
namespace Rp
open PySem PySem.Spec PyProof.Rows L2
/-- isinstance(e, c), e the exception that the suite holds, its dict at dd -/
theorem call_isF {X : Cx} {a D dd : Addr} {oe : Obj} {pn : List (Addr × Obj)} (C : ExcC X.K D) (hz : Zc (.ref D) (some dd) oe) (hf : ∃ vs, oe.data = .fields vs) :
    CallR (X.suite a ((a, oe) :: pn)) (.builtin "isinstance") (fun xs H Q => (∃ fs, H dd = some (.xd fs)) ∧ rIsE X.K D a xs H Q) := by
  intro pins s σ H xs us Q I r h
  obtain ⟨⟨fs, hd⟩, c, cv, b, rfl, hcv, e, q⟩ := h
  match us, r with
  | [_, _], .cons rx (.cons rt .nil) =>
    cases rx
    have ec := hcv _ rt
    subst ec
    obtain ⟨at0, _⟩ := I.pin (a, oe) (List.mem_append.mpr (.inl List.mem_cons_self))
    obtain ⟨mA, hns, _⟩ := (show ObjOk X.prog X.w H s.heap dd (.xd fs) from I.hok dd _ hd)
    obtain ⟨o2, ho2, _⟩ := lookIn_ns hns
    obtain ⟨vs, hv⟩ := hf
    have J : PySem.W.InstAt s.heap a oe D (some o2) := ⟨at0, hz.1, by unfold PySem.W.notCls; rw [hv] <;> rfl, by rw [hz.2]; exact ho2⟩
    exact PySem.W.kia_one (kit_exc C) I.kIn J e (fun z => nomatch z) fun tk => ⟨.bl b, H, I.kept (t' := tk) fun _ _ z => z, rfl, q⟩
end Rp
/-! xs.count(y) of flat items; what a suite that knows the class of its error wants. -/
namespace Rt
open PySem PySem.Spec PyProof.Rows L2
section
variable {X : Cx}
def rCntV (K : PySem.W.Frag) : V → List V → Hp → VK → Prop := fun x xs H Q => ∃ (p : Addr) (ys : List V) (y : V), x = .ref p ∧ xs = [y] ∧ SqL K H p ys ∧ flatV y = true ∧ ys.all flatV = true ∧ Q (.int (ys.countP (fun z => eqV z y) : Nat)) H
theorem cntV_eq {y : V} : ∀ {ys : List V} {its : List Value}, Vals ys its → ys.all flatV = true → its.countP (eqU y) = ys.countP (fun z => eqV z y)
  | [], _, .nil, _ => rfl
  | z :: ys, _, .cons r rr, f => by
    simp only [List.all_cons, Bool.and_eq_true] at f
    rw [List.countP_cons, List.countP_cons, cntV_eq rr f.2, eqU_of r f.1]
theorem mt_countV : MtR X "list.count" (rCntV X.K) := by
  intro pins s σ H x xs v us Q I rx rxs h
  obtain ⟨p, ys, y, rfl, rfl, hs, fy, fys, q⟩ := h
  cases rx
  cases rxs with
  | cons ry rt =>
    rename_i uy ut
    cases rt
    obtain ⟨its, rv, ⟨⟨cls, dd, data, sl⟩, n, ho, hc, hdn, hd⟩, hlen⟩ := I.list hs
    simp only at hc hd
    subst hc hd
    refine call_meets PySem.F.slot_list_count ⟨_, ho, rfl⟩ PySem.F.entry_list_count (PySem.F.args_list_count_2 _ _)
      (SeqAt.list_countAt p its.toArray n dd sl uy (eqU y)) ⟨ho, fun u' hu' => mem_eqAt ry fy rv fys u' (by simpa using hu'), ?_⟩
    have ec : its.toArray.toList.countP (eqU y) = ys.countP (fun z => eqV z y) := cntV_eq rv fys
    rw [ec]
    exact ⟨.int _, H, I.kept (t' := s.toks + 1) fun _ _ z => z, ⟨_, rfl⟩, q⟩
/-- the classes that the suite asks for -/
structure RdS (K : PySem.W.Frag) (mg : Str → Option Value) where
  k0 : Addr
  k1 : Addr
  k2 : Addr
  k3 : Addr
  k4 : Addr
  k5 : Addr
  cE : Addr
  g0 : mg "BeingRead" = some (.ref k0)
  g1 : mg "InvalidNumber" = some (.ref k1)
  g2 : mg "UnknownBook" = some (.ref k2)
  g3 : mg "Contradiction" = some (.ref k3)
  g4 : mg "InvalidOperation" = some (.ref k4)
  g5 : mg "DiaryError" = some (.ref k5)
  gE : mg "ReadingError" = some (.ref cE)
  zV : mg "ValueError" = none
  zI : mg "isinstance" = none
end
end Rt
/-! Checks that raise, the raised class known by RxE. -/
namespace Rp
open PySem PySem.Spec PyProof.Rows L2 Rz Rm Rl
/-- the class of an error without fields, as the program raises it -/
structure RxE (K : PySem.W.Frag) (mg : Str → Option Value) (x : Str) (D : Addr) : Prop where
  g : mg x = some (.ref D)
  xF : PySem.W.excIn K D [.type "ValueError", .type "Exception", .type "BaseException", .type "object"] "ValueError.__new__" = true
  bF : PySem.W.subIn K (.ref D) (.type "BaseException") = some true
  tF : PySem.W.typeIn K (.ref D) = some (.type "type")
  kF : PySem.W.keepIn K (.ref D) = true
/-- v is a number or not -/
def NumV (K : PySem.W.Frag) (H : Hp) (v : V) (b : Bool) : Prop := (∃ i, v = .int i ∧ b = true) ∨ (∃ y, v = .bl y ∧ b = false) ∨ (∃ t : String, TyX K H v (.type t) ∧ kitB t "int" = some false ∧ b = false)
/-- v lies between lo and hi, or not -/
def LieV (K : PySem.W.Frag) (H : Hp) (v : V) (lo hi : Int) (b : Bool) : Prop := (∃ i, v = .int i ∧ b = (decide (lo ≤ i) && decide (i ≤ hi))) ∨ (NumV K H v false ∧ b = false)
section
variable {P : Program} {w : World} {K : PySem.W.Frag} {mg : Str → Option Value} {base : Heap}
def spIsNumV (K : PySem.W.Frag) : Sp := fun vs H Q _ => ∃ (v : V) (b : Bool), vs = [v] ∧ NumV K H v b ∧ Q (.bl b) H
theorem ok_is_numberV (T : Tx K mg) : FnOk P w K mg base CX0 1 T.a_is_number T.d_is_number P_is_number (spIsNumV K) := by
  refine T.F_is_number.ok sc_is_number (fun vs H Q E h => ?_) (fun cdv A outer s H vs Q E hr h => ?_)
  · obtain ⟨i, b, rfl, _⟩ := h
    rfl
  · obtain ⟨v, b, rfl, hv, q⟩ := h
    refine ⟨_, pss_one (ps_ret (pe_and (pe_callB call_isi (by rfl) T.z_isinstance (by decide +kernel) (pa_cons (pv 0) (pa_cons (pe_bltn (v := .ty "int") (u := .type "int") (by rfl) T.z_int (by decide +kernel) rfl) pa_nil)))
      (pe_one (pe_not (pe_callB call_isi (by rfl) T.z_isinstance (by decide +kernel) (pa_cons (pv 0) (pa_cons (pe_bltn (v := .ty "bool") (u := .type "bool") (by rfl) T.z_bool (by decide +kernel) rfl) pa_nil))))))), ?_⟩
    rcases hv with ⟨i, rfl, rfl⟩ | ⟨y, rfl, rfl⟩ | ⟨t, ht, hk, rfl⟩
    · refine ⟨.int i, rfl, .int i, .ty "int", .type "int", .type "int", true, rfl, .ty _, .base (.int i), kit_ty (by decide +kernel), true, rfl, iteT ?_⟩
      exact ⟨.int i, rfl, .int i, .ty "bool", .type "int", .type "bool", false, rfl, .ty _, .base (.int i), kit_ty (by decide +kernel), false, rfl, q⟩
    · refine ⟨.bl y, rfl, .bl y, .ty "int", .type "bool", .type "int", true, rfl, .ty _, .base (.bl y), kit_ty (by decide +kernel), true, rfl, iteT ?_⟩
      exact ⟨.bl y, rfl, .bl y, .ty "bool", .type "bool", .type "bool", true, rfl, .ty _, .base (.bl y), kit_ty (by decide +kernel), true, rfl, q⟩
    · exact ⟨v, rfl, v, .ty "int", .type t, .type "int", false, rfl, .ty _, ht, kit_ty hk, false, rfl, iteF q⟩
def spLiesV (K : PySem.W.Frag) : Sp := fun vs H Q _ => ∃ (v : V) (lo hi : Int) (b : Bool), vs = [v, .int lo, .int hi] ∧ LieV K H v lo hi b ∧ Q (.bl b) H
theorem ok_liesV (T : Tx K mg) : FnOk P w K mg base CX0 2 T.a_lies_between T.d_lies_between P_lies_between (spLiesV K) := by
  refine T.F_lies_between.ok sc_lies_between (fun vs H Q E h => ?_) (fun cdv A outer s H vs Q E hr h => ?_)
  · obtain ⟨v, lo, hi, b, rfl, _⟩ := h
    rfl
  · obtain ⟨v, lo, hi, b, rfl, hv, q⟩ := h
    refine ⟨_, pss_one (ps_ret (pe_and (pe_call (ok_is_numberV T) hr (by rfl) T.g_is_number T.F_is_number.kp T.b_is_number .nil pass0 (pa_cons (pv 0) pa_nil)) (pe_one (pe_chain op_le op_le (pv 1) (pv 0) (pv 2))))), ?_⟩
    rcases hv with ⟨i, rfl, rfl⟩ | ⟨hn, rfl⟩
    · refine ⟨.int i, rfl, .int i, true, rfl, .inl ⟨i, rfl, rfl⟩, true, rfl, iteT ?_⟩
      refine ⟨.int lo, rfl, .int i, rfl, lo, i, rfl, rfl, decide (lo ≤ i), rfl, ?_⟩
      by_cases h : lo ≤ i
      · rw [decide_eq_true h] at q ⊢
        exact iteT ⟨.int hi, rfl, i, hi, rfl, rfl, q⟩
      · rw [decide_eq_false h] at q ⊢
        exact iteF q
    · exact ⟨v, rfl, v, false, rfl, hn, false, rfl, iteF q⟩
/-- check_number: passes, or raises InvalidNumber -/
def spChkX (K : PySem.W.Frag) (CN : Addr) : Sp := fun vs H Q E => ∃ (v : V) (lo hi : Int) (b : Bool), vs = [v, .int lo, .int hi] ∧ LieV K H v lo hi b ∧ (b = true → Q .non H) ∧ (b = false → E (.ref CN) none H)
theorem ok_chkX {CN : Addr} (T : Tx K mg) (E4 : RxE K mg "InvalidNumber" CN) : FnOk P w K mg base (L2.CX P w) 3 T.a_check_number T.d_check_number P_check_number (spChkX K CN) := by
  refine T.F_check_number.okX sc_check_number (fun vs H Q E h => ?_) (fun cdv A outer s H vs Q E hr h => ?_)
  · obtain ⟨v, lo, hi, b, rfl, _⟩ := h
    rfl
  · obtain ⟨v, lo, hi, b, rfl, hv, q1, q2⟩ := h
    refine ⟨_, pss_one (ps_if (pt_not (pt_val (pe_call (ok_liesV T) hr (by rfl) T.g_lies_between T.F_lies_between.kp T.b_lies_between .nil pass0 (pa_cons (pv 0) (pa_cons (pv 1) (pa_cons (pv 2) pa_nil))))))
      (pss_one (ps_raise rfl (takes_of rfl rfl rfl rfl) (pmk_own PySem.F.excBase_ValueError E4.xF E4.g E4.kF (raises_own E4.bF E4.tF) (by exact rfl)))) pss_nil), ?_⟩
    refine ⟨v, rfl, .int lo, rfl, .int hi, rfl, v, lo, hi, b, rfl, hv, b, rfl, ?_⟩
    cases b with
    | true => exact iteF (q1 rfl)
    | false => exact iteT (q2 rfl)
theorem lie_int {K : PySem.W.Frag} {H : Hp} {r lo hi : Int} (h0 : lo ≤ r) (h1 : r ≤ hi) : LieV K H (.int r) lo hi true := .inl ⟨r, rfl, by rw [decide_eq_true h0, decide_eq_true h1]; rfl⟩
theorem lie_no {K : PySem.W.Frag} {H : Hp} {v : V} {lo hi : Int} (h : (∃ r, v = .int r ∧ (r < lo ∨ hi < r)) ∨ v = .non ∨ v = .bl true) : LieV K H v lo hi false := by
  rcases h with ⟨r, rfl, h⟩ | rfl | rfl
  · refine .inl ⟨r, rfl, ?_⟩
    rcases h with h | h
    · rw [decide_eq_false (by omega)]; rfl
    · rw [decide_eq_false (show ¬ r ≤ hi by omega), Bool.and_false]
  · exact .inr ⟨.inr (.inr ⟨"NoneType", .base .non, by decide +kernel, rfl⟩), rfl⟩
  · exact .inr ⟨.inr (.inl ⟨true, rfl, rfl⟩), rfl⟩
end
end Rp
/-! diary_of: the generator. -/
namespace Rp
open PySem PySem.Spec PyProof.Rows L2 Rz Rm
section
variable {P : Program} {w : World} {K : PySem.W.Frag} {mg : Str → Option Value} {base : Heap}
theorem g_nx {D : GEnds} {ys : List V} {σ : L2.St} {H : Hp} (h : D.nx ys σ H) : (D.at ys).nx σ H := h
theorem g_nm {i : Nat} {v : V} {σ : L2.St} {H : Hp} {Q : L2.St → Hp → Prop} (h : Q (σ.set i (some v)) H) : gName i v σ H Q := h
/-- over a range, in a generator -/
theorem gfor_range {lo : Int} {n : Nat} {g : TG} {tb : TGn} {D : GEnds} {ys : List V} {σ : L2.St} {H : Hp} (Pv : Nat → List V → L2.St → Hp → Prop) (h0 : Pv 0 ys σ H)
    (hs : ∀ i ys σ H, i < n → Pv i ys σ H → g (.int (lo + i)) σ H fun σ2 H2 => tb { D with nx := Pv (i + 1), ct := Pv (i + 1), bk := D.nx } ys σ2 H2) (hd : ∀ ys σ H, Pv n ys σ H → D.nx ys σ H) :
    ∃ W : Nat → Nat → List V → L2.St → Hp → Prop, (∃ m, W 0 m ys σ H) ∧ ∀ i m ys σ H, W i m ys σ H →
      ((Itr lo n).stop i H ∧ D.nx ys σ H) ∨ ((Itr lo n).go i H ∧ ∃ N : List V → L2.St → Hp → Prop, (∀ ys' σ' H', N ys' σ' H' → ∃ m', m' < m ∧ W (i + 1) m' ys' σ' H') ∧ ∀ x H', (Itr lo n).yld i H x H' → g x σ H' fun σ2 H2 => tb { D with nx := N, ct := N, bk := D.nx } ys σ2 H2) := by
  refine ⟨fun i m ys σ H => m = n - i ∧ i ≤ n ∧ Pv i ys σ H, ⟨n, by simp, Nat.zero_le _, h0⟩, ?_⟩
  rintro i m ys σ H ⟨rfl, hi, p⟩
  by_cases hlt : i < n
  · refine .inr ⟨hlt, Pv (i + 1), fun ys' σ' H' p' => ⟨n - (i + 1), by omega, rfl, hlt, p'⟩, fun x H' y => ?_⟩
    obtain ⟨e, y⟩ := y
    subst e y
    exact hs i ys σ _ hlt p
  · have e : i = n := by omega
    subst e
    exact .inl ⟨Nat.le_refl _, hd ys σ H p⟩
theorem get_rgI {n i : Nat} {f : Nat → Int} (h : i < n) : (((List.range n).map f).map V.int)[i]? = some (.int (f i)) := by
  rw [List.map_map, List.getElem?_map, List.getElem?_range h]
  rfl
theorem rg_setI {n k : Nat} {f : Nat → Int} {z : Int} (h : k < n) : (((List.range n).map f).map V.int).set k (.int z) = ((List.range n).map fun j => if j = k then z else f j).map V.int := by
  refine List.ext_getElem? fun i => ?_
  by_cases hi : i < n
  · rw [get_rgI hi]
    by_cases e : i = k
    · subst e
      rw [List.getElem?_set_self (by rw [List.length_map, List.length_map, List.length_range]; exact h), if_pos rfl]
    · rw [List.getElem?_set_ne (Ne.symm e), get_rgI hi, if_neg e]
  · rw [List.getElem?_eq_none (by rw [List.length_set, List.length_map, List.length_map, List.length_range]; omega), List.getElem?_eq_none (by rw [List.length_map, List.length_map, List.length_range]; omega)]
theorem rg_eq {n : Nat} {f g : Nat → Int} (h : ∀ j, j < n → f j = g j) : (List.range n).map f = (List.range n).map g := List.map_congr_left fun j hj => h j (List.mem_range.mp hj)
theorem rep_zero (n : Nat) : (List.replicate n [V.int 0]).flatten = ((List.range n).map fun _ => (0 : Int)).map V.int := by
  induction n with
  | zero => rfl
  | succ n ih =>
    rw [List.replicate_succ', List.flatten_append, ih, List.range_succ, List.map_append, List.map_append]
    rfl
/-- a generator def by its body -/
theorem okG {x qual : Str} {st : Stmt} {f : Addr} {fd : FuncData} {N ps : List Str} {k : Nat} {sp : SpG} (F : Fun K x qual st f fd) (S : GScope N ps (defScope st)) (len : ∀ vs H Q E, sp vs H Q E → vs.length = ps.length)
    (hbody : ∀ (cdv : Value) (A : Around) (outer : List Env) (s : Shared) (H : Hp) (vs : List V) (Q : List V → Hp → Prop) (E : XK) (pn : List (Addr × Obj)), Room k (A.deeper (envOfC qual (defScope st) s.heap.objs.size f cdv)) → sp vs H Q E →
      ∃ t, GSs (gcxOf P w K mg base N qual (defScope st) f cdv A outer s H E pn) (defBody st) t ∧ t { nx := fun ys _ H' => Q ys H', rt := fun ys v H' => v = .non ∧ Q ys H' } [] (start N vs) H) : GFn P w K mg base (k + 1) f fd ps sp := by
  obtain ⟨oc, od, kV, doc, pm, an, cdv, ct, osl, rfl, lk, hcd⟩ := F.ex
  exact gfn_of lk hcd S len fun A outer s H vs Q E pn hr hsp => hbody cdv A outer s H vs Q E pn hr hsp
def spDia (K : PySem.W.Frag) (C CN : Addr) : SpG := fun vs H Q E => ∃ (p dx td ts : Addr) (ds ss : List Int) (c : V), vs = [.ref p, c] ∧ RingAt C H p dx td ts ds ss ∧
  ((∃ n : Nat, c = .int n ∧ n ≤ 500 ∧ ∀ ys H' D k, k ≤ ds.length → (Pre ds ss D k).length = n → Same H H' → Tups H' ys (Pre ds ss D k) → Q ys H') ∨ (LieV K H c 0 500 false ∧ E (.ref CN) none H))
theorem ok_dia {CN : Addr} (T : Tx K mg) (E4 : RxE K mg "InvalidNumber" CN) : GFn P w K mg base 6 T.a_diary_of T.d_diary_of P_diary_of (spDia K T.C CN) := by
  refine okG T.F_diary_of sc_diary_of (fun vs H Q E h => ?_) (fun cdv A outer s H vs Q E pn hr h => ?_)
  · obtain ⟨p, dx, td, ts, ds, ss, c, rfl, _⟩ := h
    rfl
  · obtain ⟨p, dx, td, ts, ds, ss, c, rfl, R, hc⟩ := h
    have nd := sc_diary_of.nd
    obtain ⟨u1, c1⟩ := T.c_MOST_ENTRIES
    have hr2 := hr.mono (by decide : 2 ≤ 5)
    have hr3 := hr.mono (by decide : 3 ≤ 5)
    refine ⟨_, gss_cons (gs_ps (ps_expr (pe_callS (ok_chkX T E4) hr3 (by rfl) T.g_check_number T.F_check_number.kp T.b_check_number (fun σ => passAt takes_gcx σ) (pa_cons (pv 1) (pa_cons pe_int (pa_cons (pe_glob (v := .int 500) (by rfl) c1 ⟨_, rfl⟩) pa_nil))))))
      (gss_cons (gs_ps (ps_set (i := 2) nd rfl (.inl rfl) (pe_op op_rep (pe_lst (pa_cons pe_int pa_nil)) (pe_callB (call_lenI T.lenC T.lenF ((ok_len T).raw T.b_rlen .nil) hr2 pass0) (by rfl) T.z_len PySem.boot_len (pa_cons (pv 0) pa_nil)))))
      (gss_cons (gs_ps (ps_setLc (i := 3) (own := [("reader", 6)]) rfl nd rfl rfl (sw_true rfl rfl rfl (by decide +kernel)) (pi_range1 (by rfl) T.z_range (pa_cons (pe_callB (call_lenI T.lenC T.lenF ((ok_len T).raw T.b_rlen .nil) hr2 pass0) (by rfl) T.z_len PySem.boot_len (pa_cons (pv 0) pa_nil)) pa_nil)) (blkOk_by (N := N_diary_of) (sc := defScope s_diary_of) (by decide +kernel)) (fun _ _ _ _ _ => pg_name (i := 6) nd rfl (.inl rfl))
          (fun _ _ _ _ _ => pts_nil)
          (fun _ _ _ _ _ => pe_call (ok_end T) hr3 (by rfl) T.g_end_day T.F_end_day.kp T.b_end_day .nil pass0 (pa_cons (pv 0) (pa_cons (pv 6) (pa_cons pe_int pa_nil))))))
      (gss_cons (gs_for owns_gcx rfl (pi_range1 (by rfl) T.z_range (pa_cons (pv 1) pa_nil)) (pg_name (i := 4) nd rfl (.inl rfl))
        (gss_cons (gs_ps (ps_set (i := 5) nd rfl (.inl rfl) (pe_callB (cr_min rfl) (by rfl) T.z_min (by decide +kernel) (pa_cons (pv 3) pa_nil))))
        (gss_cons (gs_ps (ps_set (i := 6) nd rfl (.inl rfl) (pe_bm PySem.F.plainAttrs_list PySem.F.slot_list_index PySem.F.type_list_index mt_index (pv 3) (pa_cons (pv 5) pa_nil))))
        (gss_cons (gs_yield (pe_tup (pa_cons (pv 5) (pa_cons (pv 6) (pa_cons (pe_call (ok_book T) hr (by rfl) T.g_book_of T.F_book_of.kp T.b_book_of .nil pass0 (pa_cons (pv 0) (pa_cons (pv 6) (pa_cons (pe_ix ix_list (pv 2) (pv 6) (fun _ _ => rfl)) pa_nil)))) pa_nil)))))
        (gss_cons (gs_ps (ps_augS (pv 2) (pv 6) get_listP pe_int ip_add set_list))
        (gss_cons (gs_ps (ps_asg (pe_call (ok_end T) hr3 (by rfl) T.g_end_day T.F_end_day.kp T.b_end_day .nil pass0 (pa_cons (pv 0) (pa_cons (pv 6) (pa_cons (pe_ix ix_list (pv 2) (pv 6) (fun _ _ => rfl)) pa_nil)))) (pg_sub (pv 3) (pv 6) set_list)))
        gss_nil)))))) gss_nil))), ?_⟩
    obtain ⟨M, hM, hMu⟩ := R.ok.max
    have RR := R.ok.ring hM hMu
    rcases hc with ⟨n, rfl, hn, q⟩ | ⟨hv, q⟩
    · refine ⟨_, rfl, _, 0, 500, true, rfl, lie_int (by omega) (by omega), fun _ => ?_, fun z => Bool.noConfusion z⟩
      refine ⟨(by show 1 ≤ sizeLine; decide), fun l0 hl0 => ?_⟩
      have l2 := R.ok.l2
      have l8 := R.ok.l8
      have s1 := same_upd (o := .lst [.int 0]) hl0
      have g1 : (upd H l0 (.lst [.int 0])) l0 = some (.lst [.int 0]) := upd_same
      have R1 := R.same s1
      generalize (upd H l0 (.lst [.int 0])) = H1 at s1 g1 R1
      refine ⟨.ref p, rfl, p, dx, _, rfl, R1.ob, p, dx, td, ts, ds, ss, rfl, R1, (ds.length : Int), rfl, by omega, by omega, l0, _, _, rfl, rfl, g1, by omega, by omega, ?_, fun nl hnl => ?_⟩
      · show 1 * _ ≤ sizeLine
        have := small1000 (n := 1 * ((ds.length : Nat) : Int).toNat) (by omega)
        omega
      rw [show ((ds.length : Nat) : Int).toNat = ds.length by omega, rep_zero]
      have s2 := same_upd (o := .lst (((List.range ds.length).map fun _ => (0 : Int)).map V.int)) hnl
      have g2 : (upd H1 nl (.lst (((List.range ds.length).map fun _ => (0 : Int)).map V.int))) nl = some (.lst (((List.range ds.length).map fun _ => (0 : Int)).map V.int)) := upd_same
      have R2 := R1.same s2
      have nl0 := same_none s1 hnl
      have s12 := s1.trans s2
      refine g_nm (g_nx ?_)
      show tGThen _ _ _ [] [some (.ref p), some (.int n), some (.ref nl), none, none, none, none] (upd H1 nl (.lst (((List.range ds.length).map fun _ => (0 : Int)).map V.int)))
      generalize (upd H1 nl (.lst (((List.range ds.length).map fun _ => (0 : Int)).map V.int))) = H2 at s2 g2 R2 s12
      refine ⟨.ref p, rfl, p, dx, _, rfl, R2.ob, p, dx, td, ts, ds, ss, rfl, R2, (ds.length : Int), rfl, by omega, by omega, _, rfl, by omega, by omega, fun el hel => lc_range (lo := 0) (n := ((ds.length : Nat) : Int).toNat) (fun i H' => Same H2 H' ∧ H' el = some (.lst (((List.range i).map fun (j : Nat) => Rm.E (at' ds) (at' ss) (j : Int) 0).map V.int))) ⟨same_upd hel, upd_same⟩ ?_ ?_⟩
      · rintro i H3 hi ⟨s3, g3⟩
        refine ⟨rfl, lc_keep ?_⟩
        refine ⟨_, rfl, _, rfl, p, dx, td, ts, ds, ss, _, 0, rfl, R2.same s3, by omega, by omega, by omega, ?_⟩
        refine ⟨_, g3, by rw [List.length_map, List.length_map, List.length_range]; exact small1000 (by omega), fun x o h => ?_, ?_⟩
        · rw [upd_ne (ne_of_none h hel)]
          exact s3 _ _ h
        · rw [upd_same, List.range_succ, List.map_append, List.map_append, show (0 : Int) + (i : Int) = i by omega]
          rfl
      rintro H3 ⟨s3, g3⟩
      rw [show ((ds.length : Nat) : Int).toNat = ds.length by omega] at g3
      have el0 : H el = none := same_none s12 hel
      have nne : nl ≠ el := ne_of_none g2 hel
      refine ⟨_, rfl, _, rfl, by omega, by omega, ?_⟩
      refine gfor_range (lo := 0) (n := ((n : Nat) : Int).toNat) (fun i ys σ H' => (∃ z4 z5 z6, σ = [some (.ref p), some (.int n), some (.ref nl), some (.ref el), z4, z5, z6]) ∧ Same H H' ∧ ∃ D k, k ≤ ds.length ∧ (Pre ds ss D k).length = i ∧ Tups H' ys (Pre ds ss D k) ∧
        H' nl = some (.lst (((List.range ds.length).map (cS ds ss D k)).map V.int)) ∧ H' el = some (.lst (((List.range ds.length).map fun (j : Nat) => Rm.E (at' ds) (at' ss) (j : Int) (cS ds ss D k j)).map V.int)))
        ⟨⟨_, _, _, rfl⟩, s12.trans s3, 0, 0, Nat.zero_le _, rfl, .nil, ?_, ?_⟩ ?_ ?_
      · rw [s3 _ _ g2, rg_eq fun j _ => (cS_zero RR j).symm]
      · rw [g3, rg_eq fun j _ => by rw [← cS_zero RR j]]
      · rintro i ys σ H4 hi ⟨⟨z4, z5, z6, rfl⟩, s4, D, k, hk, hlen, T4, gn, ge⟩
        have i500 : i < 500 := by omega
        obtain ⟨D', k', k1, e1, e2, e3, e4, e5⟩ := dnext RR (by omega) (D := D) hk
        have c0 := cS_nn RR D k k'
        have c1 := cS_len RR D k k' hk k1
        rw [hlen] at c1
        have R4 := R.same s4
        show tGThen _ _ _ ys [some (.ref p), some (.int n), some (.ref nl), some (.ref el), some (.int (0 + (i : Int))), z5, z6] H4
        refine ⟨_, rfl, el, _, rfl, .of ge, by rw [List.length_map, List.length_range]; omega, fun m hm hle => ?_⟩
        have em : m = ((D' : Nat) : Int) + 1 := by
          obtain ⟨j, hj, rfl⟩ := List.mem_map.mp hm
          have h1 := e2 j (List.mem_range.mp hj)
          have h2 := hle _ (List.mem_map.mpr ⟨k', List.mem_range.mpr k1, rfl⟩)
          rw [e1] at h2
          omega
        subst em
        refine g_nm (g_nx ?_)
        show tGThen _ _ _ ys [some (.ref p), some (.int n), some (.ref nl), some (.ref el), some (.int (0 + (i : Int))), some (.int (((D' : Nat) : Int) + 1)), z6] H4
        refine ⟨.ref el, rfl, .inl ⟨rfl, _, SqL.of ge⟩, _, rfl, el, _, .int (((D' : Nat) : Int) + 1), k', .int (((D' : Nat) : Int) + 1), rfl, rfl, SqL.of ge, rfl, ?_, by rw [get_rgI k1, e1], ?_, fun j z hj hz => ?_, ?_⟩
        · rw [List.all_eq_true]
          intro x hx
          obtain ⟨y, _, rfl⟩ := List.mem_map.mp hx
          rfl
        · show (((D' : Nat) : Int) + 1 == ((D' : Nat) : Int) + 1) = true
          exact beq_self_eq_true _
        · rw [get_rgI (by omega)] at hz
          cases hz
          show (_ == _) = false
          exact beq_eq_false_iff_ne.mpr (e3 j hj)
        refine g_nm (g_nx ?_)
        show tGThen _ _ _ ys [some (.ref p), some (.int n), some (.ref nl), some (.ref el), some (.int (0 + (i : Int))), some (.int (((D' : Nat) : Int) + 1)), some (.int (k' : Int))] H4
        have ly := T4.length
        refine ⟨by rw [ly, hlen]; exact small1000 (by omega), ?_⟩
        refine ⟨_, rfl, _, rfl, _, rfl, _, rfl, _, rfl, _, rfl, nl, _, _, _, rfl, rfl, .of gn, atI_nat (get_rgI k1), p, dx, td, ts, ds, ss, _, _, rfl, R4, by omega, by omega, c0, by omega, fun v H5 s5 hb => ⟨(by show 3 ≤ sizeLine; decide), fun t ht => ?_⟩⟩
        have ev := bk_of RR R.ok.ls hb
        subst ev
        have s6 := same_upd (o := .tup [.int (((D' : Nat) : Int) + 1), .int (k' : Int), .int (bk ss k' (cS ds ss D k k'))]) ht
        have g6 : (upd H5 t (.tup [.int (((D' : Nat) : Int) + 1), .int (k' : Int), .int (bk ss k' (cS ds ss D k k'))])) t = some (.tup [.int (((D' : Nat) : Int) + 1), .int (k' : Int), .int (bk ss k' (cS ds ss D k k'))]) := upd_same
        have s46 := s5.trans s6
        show tGThen _ _ _ (ys ++ [V.ref t]) [some (.ref p), some (.int n), some (.ref nl), some (.ref el), some (.int (0 + (i : Int))), some (.int (((D' : Nat) : Int) + 1)), some (.int (k' : Int))] (upd H5 t (.tup [.int (((D' : Nat) : Int) + 1), .int (k' : Int), .int (bk ss k' (cS ds ss D k k'))]))
        generalize (upd H5 t (.tup [.int (((D' : Nat) : Int) + 1), .int (k' : Int), .int (bk ss k' (cS ds ss D k k'))])) = H6 at s6 g6 s46
        have gn6 := s46 _ _ gn
        have ge6 := s46 _ _ ge
        have lnum : ∀ {f : Nat → Int}, k' < (((List.range ds.length).map f).map V.int).length := by
          intro f
          rw [List.length_map, List.length_map, List.length_range]
          exact k1
        refine ⟨_, rfl, _, rfl, nl, _, (k' : Int), _, rfl, rfl, .of gn6, by omega, by omega, by rw [Int.toNat_natCast]; exact get_rgI k1, _, _, rfl, rfl, nl, _, _, k', rfl, rfl, gn6, ixN_nat lnum, ?_⟩
        rw [rg_setI k1]
        have kn : ∀ {x o o'}, H6 x = some o → x ≠ nl → (upd H6 nl o') x = some o := fun h n1 => by
          rw [upd_ne n1]
          exact h
        have fn : ∀ {x o}, H x = some o → x ≠ nl := fun h => ne_of_none h nl0
        have fe : ∀ {x o}, H x = some o → x ≠ el := fun h => ne_of_none h el0
        have ge7 := kn (o' := .lst (((List.range ds.length).map fun j => if j = k' then cS ds ss D k k' + 1 else cS ds ss D k j).map V.int)) ge6 (Ne.symm nne)
        have g7 : (upd H6 nl (.lst (((List.range ds.length).map fun j => if j = k' then cS ds ss D k k' + 1 else cS ds ss D k j).map V.int))) nl = some (.lst (((List.range ds.length).map fun j => if j = k' then cS ds ss D k k' + 1 else cS ds ss D k j).map V.int)) := upd_same
        have R7 : RingAt T.C (upd H6 nl (.lst (((List.range ds.length).map fun j => if j = k' then cS ds ss D k k' + 1 else cS ds ss D k j).map V.int))) p dx td ts ds ss :=
          ⟨kn (s46 _ _ (s4 _ _ R.ob)) (fn R.ob), kn (s46 _ _ (s4 _ _ R.td)) (fn R.td), kn (s46 _ _ (s4 _ _ R.ts)) (fn R.ts), R.ok⟩
        have k7 : ∀ {x o}, H x = some o → (upd H6 nl (.lst (((List.range ds.length).map fun j => if j = k' then cS ds ss D k k' + 1 else cS ds ss D k j).map V.int))) x = some o := fun h => kn (s46 _ _ (s4 _ _ h)) (fn h)
        have T7 : Tups (upd H6 nl (.lst (((List.range ds.length).map fun j => if j = k' then cS ds ss D k k' + 1 else cS ds ss D k j).map V.int))) (ys ++ [V.ref t]) (Pre ds ss D' (k' + 1)) := by
          rw [e4]
          refine Tups.snoc (l := [((D' : Nat) : Int) + 1, (k' : Int), bk ss k' (cS ds ss D k k')]) ⟨t, rfl, kn g6 (ne_of g6 gn6 (by intro z; cases z))⟩ (T4.mono fun b xs h => kn (s46 _ _ h) (ne_of (s46 _ _ h) gn6 (by intro z; cases z)))
        refine g_nx ?_
        show tGThen _ _ _ (ys ++ [V.ref t]) [some (.ref p), some (.int n), some (.ref nl), some (.ref el), some (.int (0 + (i : Int))), some (.int (((D' : Nat) : Int) + 1)), some (.int (k' : Int))] (upd H6 nl (.lst (((List.range ds.length).map fun j => if j = k' then cS ds ss D k k' + 1 else cS ds ss D k j).map V.int)))
        generalize (upd H6 nl (.lst (((List.range ds.length).map fun j => if j = k' then cS ds ss D k k' + 1 else cS ds ss D k j).map V.int))) = H7 at ge7 g7 R7 k7 T7
        refine ⟨_, rfl, _, rfl, _, rfl, _, rfl, nl, _, _, _, rfl, rfl, .of g7, atI_nat (get_rgI k1), p, dx, td, ts, ds, ss, _, _, rfl, R7, by omega, by omega, ?_, ?_⟩
        · rw [if_pos rfl]
          omega
        refine ⟨_, rfl, _, rfl, el, _, _, k', rfl, rfl, ge7, ixN_nat lnum, ?_⟩
        rw [rg_setI k1, if_pos rfl]
        refine ⟨⟨_, _, _, rfl⟩, fun x o h => by rw [upd_ne (fe h)]; exact k7 h, D', k' + 1, k1, by rw [e4, List.length_append, hlen]; rfl, T7.mono fun b xs h => by rw [upd_ne (ne_of h ge7 (by intro z; cases z))]; exact h, ?_, ?_⟩
        · rw [upd_ne nne, g7]
          refine congrArg (fun l => some (HO.lst (l.map V.int))) (rg_eq fun j hj => ?_)
          rw [e5 j hj]
          split
          · rename_i e
            rw [e]
          · rfl
        · rw [upd_same]
          refine congrArg (fun l => some (HO.lst (l.map V.int))) (rg_eq fun j hj => ?_)
          rw [e5 j hj]
          split
          · rename_i e
            rw [e]
          · rfl
      · rintro ys σ H4 ⟨⟨z4, z5, z6, rfl⟩, s4, D, k, hk, hlen, T4, gn, ge⟩
        exact q ys H4 D k hk (by omega) s4 T4
    · exact ⟨c, rfl, c, 0, 500, false, rfl, hv, fun z => Bool.noConfusion z, fun _ => q⟩
end
end Rp
/-! DiaryError(entry): made, raised. -/
namespace Rp
open PySem PySem.Spec PyProof.Rows L2 Rz Rm Rt Rl LamX
/-- what ReadingError.__init__ is, and that DiaryError has no class field entry -/
structure RdF {K : PySem.W.Frag} {mg : Str → Option Value} (S : RdS K mg) : Prop where
  rd : ClX.CRead K S.cE (.type "type")
  vi : PySem.W.findCls K (.ref S.cE) (.type "type") "__init__" = some (.val (.builtin "ValueError.__init__"))
  nx : PySem.W.findIn K (.ref S.k5) "entry" = some none
  xf : XfC K S.k5
  rs : PySem.W.subIn K (.ref S.k5) (.type "BaseException") = some true ∧ PySem.W.typeIn K (.ref S.k5) = some (.type "type")
  ex : ExcC K S.k5
  ee : PySem.W.exmOne K (.ref S.k5) (.ref S.cE) = some true
  q0 : PySem.W.kitOne K (.ref S.k5) (.ref S.k0) = some false
  q1 : PySem.W.kitOne K (.ref S.k5) (.ref S.k1) = some false
  q2 : PySem.W.kitOne K (.ref S.k5) (.ref S.k2) = some false
  q3 : PySem.W.kitOne K (.ref S.k5) (.ref S.k3) = some false
  q4 : PySem.W.kitOne K (.ref S.k5) (.ref S.k4) = some false
  q5 : PySem.W.kitOne K (.ref S.k5) (.ref S.k5) = some true
  qv : PySem.W.kitOne K (.ref S.k5) (.type "ValueError") = some true
theorem txt_len (a b : Str) : (a ++ b).length = a.length + b.length := strLen_append a b
section
variable {P : Program} {w : World} {K : PySem.W.Frag} {mg : Str → Option Value} {base : Heap}
/-- DiaryError.__init__ -/
def spDe (c : Addr) : Sp := fun vs H Q _ => ∃ (a : Addr) (i : Int), vs = [.ref a, .int i] ∧ H a = some (exo a c none) ∧ 0 ≤ i ∧ i < 1900 ∧ ∀ dx, H dx = none → dx ≠ a → Q .non (upd (upd H dx (exd dx [("entry", .int i)])) a (exo a c (some dx)))
theorem ok_de {S : RdS K mg} (T : Tx K mg) (B : RdF S) (eq : T.c_iDiaryError = S.k5) : FnOk P w K mg base CX0 1 T.a_iDiaryError T.d_iDiaryError P_iDiaryError (spDe S.k5) := by
  refine T.F_iDiaryError.ok sc_iDiaryError (fun vs H Q E h => ?_) (fun cdv A outer s H vs Q E hr h => ?_)
  · obtain ⟨a, i, rfl, _⟩ := h
    rfl
  · obtain ⟨a, i, rfl, ha, i0, i1, q⟩ := h
    have OX : OexC K S.k5 := by rw [← eq]; exact oxB_ok T.io_iDiaryError
    refine ⟨_, pss_cons (ps_expr (pe_reinit (by rfl) S.gE B.rd B.vi (pa_cons (pv 0) (pa_cons (pe_joined (.cons pe_str (.cons (pe_fmt (pv 1)) .nil))) pa_nil))))
      (pss_one (ps_ost (pv 0) (pv 1))), ?_⟩
    have hl : i.natAbs.log2 < 1920 := Nat.lt_of_le_of_lt (Nat.log2_le_self _) (by omega)
    have ht := PyProof.Rows.int_text_len_1921 hl
    refine ⟨_, rfl, _, rfl, by decide, _, rfl, .inr ⟨i, rfl, hl, _, rfl, ?_, a, S.k5, _, rfl, by show 1 ≤ 1000; decide, OX, ha, ?_⟩⟩
    · rw [txt_len]
      refine Nat.le_trans (Nat.add_le_add (by decide +kernel : _ ≤ 100) ht) (by rw [sizeLine_eq]; decide)
    · exact ⟨_, rfl, _, rfl, a, S.k5, rfl, OX, B.nx, .inl ⟨ha, fun dx n ne => q dx n ne⟩⟩
theorem de_go {C : Addr} {H1 : Hp} {Q : XK} {i : Int} (i0 : 0 ≤ i) (i1 : i < 1900) (q : ∀ (dd : Addr) (H2 : Hp), Same H1 H2 → H2 dd = some (.xd [("entry", .int i)]) → Q (.ref C) (some dd) H2) :
    ([V.int i] : List V).length ≤ 1000 ∧ ∀ a, H1 a = none → spDe C (.ref a :: ([V.int i] ++ [])) (upd H1 a (exo a C none))
      (fun v H2 => v = .non ∧ ∃ (d : Addr) (fs : List (Str × V)), H2 a = some (exo a C (some d)) ∧ H2 d = some (exd d fs) ∧ H1 d = none ∧ Q (.ref C) (some d) (upd (del H2 a) d (.xd fs))) (fun _ _ _ => False) := by
  refine ⟨by show 1 ≤ 1000; decide, fun a ha => ⟨a, i, rfl, upd_same, i0, i1, fun dx hdx ne => ?_⟩⟩
  rw [upd_ne ne] at hdx
  refine ⟨rfl, dx, _, upd_same, (upd_ne ne).trans upd_same, hdx, q dx _ (fun b o e => ?_) upd_same⟩
  have n1 : b ≠ a := ne_of_none e ha
  have n2 : b ≠ dx := ne_of_none e hdx
  rw [upd_ne n2, del_ne n1, upd_ne n1, upd_ne n2, upd_ne n1]
  exact e
end
end Rp
/-! is_same_number, can_be. -/
namespace Rp
open PySem PySem.Spec PyProof.Rows L2 Rz Rm Rl LamX
open RZ (ItzT pi_zipA iZipA)
/-- a comprehension over zip of two tuples -/
theorem lc_zipT {K : PySem.W.Frag} {a b : Addr} {xs ys : List V} {g : TG} {tt : TT} {te : TE} {vs : List Nat} {σ : L2.St} {H1 : Hp} {D : Addr} {Qd : Hp → Prop} (hlen : xs.length = ys.length) (Pv : Nat → Hp → Prop) (h0 : Pv 0 (upd H1 D (.lst []))) (hl : ∀ i H, i ≤ xs.length → Pv i H → SqT K H a xs ∧ SqT K H b ys)
    (hs : ∀ (i : Nat) (x y : V) (T : Addr) (H : Hp), xs[i]? = some x → ys[i]? = some y → Pv i H → H T = none → g (.ref T) (wipe σ vs) (upd H T (.tup [x, y])) fun σ2 H2 => wipe σ2 vs = wipe σ vs ∧ tt σ2 H2 fun b H3 =>
      if b = true then te σ2 H3 fun y H4 => ∃ acc, H4 D = some (.lst acc) ∧ acc.length < sizeLine ∧ Pv (i + 1) (upd H4 D (.lst (acc ++ [y]))) else Pv (i + 1) H3) (hd : ∀ H, Pv xs.length H → Qd H) :
    ∃ W : Nat → Nat → Hp → Prop, (∃ m, W 0 m (upd H1 D (.lst []))) ∧ ∀ i m H, W i m H →
      ((ItzT K a b).stop i H ∧ Qd H) ∨ ((ItzT K a b).go i H ∧ ∃ Nx : Hp → Prop, (∀ H', Nx H' → ∃ m', m' < m ∧ W (i + 1) m' H') ∧ ∀ x H', (ItzT K a b).yld i H x H' → g x (wipe σ vs) H' fun σ2 H2 => wipe σ2 vs = wipe σ vs ∧ tt σ2 H2 fun b H3 =>
        if b = true then te σ2 H3 fun y H4 => ∃ acc, H4 D = some (.lst acc) ∧ acc.length < sizeLine ∧ Nx (upd H4 D (.lst (acc ++ [y]))) else Nx H3) := by
  refine ⟨fun i m H => m = xs.length - i ∧ i ≤ xs.length ∧ Pv i H, ⟨xs.length, by simp, Nat.zero_le _, h0⟩, ?_⟩
  rintro i m H ⟨rfl, hi, p⟩
  obtain ⟨q1, q2⟩ := hl i H hi p
  by_cases hlt : i < xs.length
  · have hlt2 : i < ys.length := by omega
    refine .inr ⟨⟨xs, ys, xs[i], ys[i], q1, q2, by simp [hlt], by simp [hlt2]⟩, Pv (i + 1), fun H' p' => ⟨xs.length - (i + 1), by omega, rfl, hlt, p'⟩, fun x H' y => ?_⟩
    obtain ⟨T, x', y', rfl, hT, rfl, f1, f2⟩ := y
    exact hs i x' y' T H (f1 xs q1) (f2 ys q2) p hT
  · have e : i = xs.length := by omega
    subst e
    exact .inl ⟨⟨xs, ys, q1, q2, .inl (Nat.le_refl _)⟩, hd H p⟩
theorem pg_two {X : Cx} {K : PySem.W.Frag} {x y : Str} {p1 p2 pos : Pos} {k i j : Nat} (hc : X.calm = true) (hN : X.N.Nodup) (hi : X.N[i]? = some x) (hj : X.N[j]? = some y) (hx : X.env.scope.names.lookup x = some .local) (hy : X.env.scope.names.lookup y = some .local) (hK : X.K = K) :
    PG X (.Tuple [.Name x p1, .Name y p2] k pos) (gTup K 2 (gCons (gName i) (gCons (gName j) gNil))) := by
  subst hK
  exact pg_tup hc (pgs_cons (pg_name hN hi (.inl hx) (.inr hx)) (pgs_cons (pg_name hN hj (.inl hy) (.inr hy)) pgs_nil))
/-- what may stand in an entry -/
def ItV (v : V) : Prop := v = .non ∨ (∃ i, v = .int i) ∨ (∃ b, v = .bl b) ∨ ∃ s, v = .str s
/-- just this number -/
def sameI : V → Int → Bool
  | .int i, y => decide (i = y)
  | _, _ => false
/-- torn out, or just this number -/
def okI : V → Int → Bool
  | .non, _ => true
  | v, y => sameI v y
def canT (xs : List V) (l : List Int) : Bool := decide (xs.length = l.length) && ((xs.zip l).map fun z => okI z.1 z.2).all id
/-- a value can be an entry l, or not -/
def CanV (H : Hp) (v : V) (l : List Int) (b : Bool) : Prop := (∃ (t : Addr) (xs : List V), v = .ref t ∧ H t = some (.tup xs) ∧ (∀ x ∈ xs, ItV x) ∧ xs.length ≤ 10 ∧ b = canT xs l) ∨ ((v = .non ∨ (∃ i, v = .int i) ∨ ∃ (p : Addr) (xs : List V), v = .ref p ∧ H p = some (.lst xs)) ∧ b = false)
theorem CanV.same {H H' : Hp} (s : Same H H') {v : V} {l : List Int} {b : Bool} (h : CanV H v l b) : CanV H' v l b := by
  rcases h with ⟨t, xs, h1, h2, h3⟩ | ⟨h1 | h1 | ⟨p, xs, h1, h2⟩, h3⟩
  · exact .inl ⟨t, xs, h1, s _ _ h2, h3⟩
  · exact .inr ⟨.inl h1, h3⟩
  · exact .inr ⟨.inr (.inl h1), h3⟩
  · exact .inr ⟨.inr (.inr ⟨p, xs, h1, s _ _ h2⟩), h3⟩
section
variable {P : Program} {w : World} {K : PySem.W.Frag} {mg : Str → Option Value} {base : Heap}
def spSnV : Sp := fun vs H Q _ => ∃ (v : V) (y : Int), vs = [v, .int y] ∧ ItV v ∧ Q (.bl (sameI v y)) H
theorem ok_snV (T : Tx K mg) : FnOk P w K mg base CX0 2 T.a_is_same_number T.d_is_same_number P_is_same_number spSnV := by
  refine T.F_is_same_number.ok sc_is_same_number (fun vs H Q E h => ?_) (fun cdv A outer s H vs Q E hr h => ?_)
  · obtain ⟨x, y, rfl, _⟩ := h
    rfl
  · obtain ⟨v, y, rfl, hv, q⟩ := h
    refine ⟨_, pss_one (ps_ret (pe_and (pe_call (ok_is_numberV T) hr (by rfl) T.g_is_number T.F_is_number.kp T.b_is_number .nil pass0 (pa_cons (pv 0) pa_nil)) (pe_one (pe_cmpR op_eq (pv 0) (pv 1) (nomark _))))), ?_⟩
    rcases hv with rfl | ⟨x, rfl⟩ | ⟨b, rfl⟩ | ⟨x, rfl⟩
    · exact ⟨_, rfl, _, false, rfl, .inr (.inr ⟨"NoneType", .base .non, by decide +kernel, rfl⟩), false, rfl, iteF q⟩
    · refine ⟨_, rfl, _, true, rfl, .inl ⟨x, rfl, rfl⟩, true, rfl, iteT ⟨_, rfl, _, rfl, rfl, ?_⟩⟩
      have e : decide (V.int x = V.int y) = sameI (.int x) y := by
        show _ = decide (x = y)
        by_cases h : x = y
        · rw [h, decide_eq_true rfl, decide_eq_true rfl]
        · rw [decide_eq_false h, decide_eq_false fun z => h (V.int.inj z)]
      rw [e]
      exact q
    · exact ⟨_, rfl, _, false, rfl, .inr (.inl ⟨b, rfl, rfl⟩), false, rfl, iteF q⟩
    · exact ⟨_, rfl, _, false, rfl, .inr (.inr ⟨"str", .base (.str x), by decide +kernel, rfl⟩), false, rfl, iteF q⟩
def spCan : Sp := fun vs H Q _ => ∃ (v : V) (e : Addr) (l : List Int) (b : Bool), vs = [v, .ref e] ∧ H e = some (.tup (l.map V.int)) ∧ CanV H v l b ∧ ∀ H', Same H H' → Q (.bl b) H'
theorem ok_can (T : Tx K mg) : FnOk P w K mg base CX0 3 T.a_can_be T.d_can_be P_can_be spCan := by
  refine T.F_can_be.ok sc_can_be (fun vs H Q E h => ?_) (fun cdv A outer s H vs Q E hr h => ?_)
  · obtain ⟨v, e, l, b, rfl, _⟩ := h
    rfl
  · obtain ⟨v, e, l, b, rfl, he, hv, q⟩ := h
    have nd := sc_can_be.nd
    refine ⟨_, pss_cons (ps_if (PW.pt (pw_or (pt_not (pt_val (pe_callB call_isi (by rfl) T.z_isinstance (by decide +kernel) (pa_cons (pv 0) (pa_cons (pe_bltn (v := .ty "tuple") (u := .type "tuple") (by rfl) T.z_tuple (by decide +kernel) rfl) pa_nil)))))
        (pw_or1 (pt_cmpR op_ne (pe_callB call_len_seq (by rfl) T.z_len PySem.boot_len (pa_cons (pv 0) pa_nil)) (pe_callB call_len_seq (by rfl) T.z_len PySem.boot_len (pa_cons (pv 1) pa_nil)) (nomark _))))) (pss_one (ps_ret pe_bl)) pss_nil)
      (pss_one (ps_ret (pe_callB (cr_all rfl) (by rfl) T.z_all (by decide +kernel) (pa_cons (pe_lc (own := [("item", 2), ("number", 3)]) rfl nd (pi_zipA (by rfl) T.z_zip (pa_cons (pv 0) (pa_cons (pv 1) pa_nil))) (blkOk_by (N := N_can_be) (sc := defScope s_can_be) (by decide +kernel))
          (fun _ _ _ _ _ => pg_two (K := K) (i := 2) (j := 3) rfl nd rfl rfl rfl rfl rfl) (fun _ _ _ _ _ => pts_nil)
          (fun _ _ _ _ _ => pe_or (pe_cmpR op_isN (pv 2) pe_non (nomark _)) (pe_one (pe_call (ok_snV T) hr (by rfl) T.g_is_same_number T.F_is_same_number.kp T.b_is_same_number .nil pass0 (pa_cons (pv 2) (pa_cons (pv 3) pa_nil)))))) pa_nil)))), ?_⟩
    rcases hv with ⟨t, xs, rfl, ht, hit, l10, rfl⟩ | ⟨hv, rfl⟩
    · refine ⟨.ref t, rfl, .ref t, .ty "tuple", .type "tuple", .type "tuple", true, rfl, .ty _, .base (.tup ht), kit_ty (by decide +kernel), true, rfl, iteF ?_⟩
      refine ⟨_, rfl, t, _, rfl, .inr (.of ht), _, rfl, e, _, rfl, .inr (.of he), rfl, _, rfl, ?_⟩
      unfold canT at q
      rw [List.length_map]
      by_cases hl : xs.length = l.length
      · rw [decide_eq_true hl, Bool.true_and] at q
        refine iteNS (by rw [hl]) ?_
        refine ⟨_, rfl, _, rfl, t, e, xs, _, rfl, .inr ⟨.of ht, .of he, fun D hD => ?_⟩⟩
        refine lc_zipT (xs := xs) (ys := l.map V.int) (by rw [List.length_map]; exact hl) (fun i H' => Same H H' ∧ H' D = some (.lst ((((xs.zip l).take i).map fun z => okI z.1 z.2).map V.bl))) ⟨same_upd hD, upd_same⟩ (fun i H' _ p => ⟨.of (p.1 _ _ ht), .of (p.1 _ _ he)⟩) ?_ ?_
        · rintro i x y Tz H1 hx hy ⟨s1, g1⟩ hT
          obtain ⟨z, hz, rfl⟩ := get_int hy
          have ix := hit x (List.mem_of_getElem? hx)
          have li : i < xs.length := (List.getElem?_eq_some_iff.mp hx).1
          have s2 := same_upd (o := .tup [x, V.int z]) hT
          have g2 := s2 _ _ g1
          have hz2 : (xs.zip l)[i]? = some (x, z) := by
            rw [List.getElem?_zip_eq_some]
            exact ⟨hx, hz⟩
          have nxt : ∀ H3, Same (upd H1 Tz (.tup [x, V.int z])) H3 → ∃ acc, H3 D = some (.lst acc) ∧ acc.length < sizeLine ∧ (Same H (upd H3 D (.lst (acc ++ [V.bl (okI x z)]))) ∧ (upd H3 D (.lst (acc ++ [V.bl (okI x z)]))) D = some (.lst ((((xs.zip l).take (i + 1)).map fun z => okI z.1 z.2).map V.bl))) := fun H3 s3 => by
            refine ⟨_, s3 _ _ g2, ?_, fun c o h => ?_, ?_⟩
            · rw [List.length_map, List.length_map, List.length_take, List.length_zip]
              exact small1000 (by omega)
            · rw [upd_ne (ne_of_none h hD)]
              exact s3 _ _ (s2 _ _ (s1 _ _ h))
            · rw [upd_same, List.take_add_one, hz2, List.map_append, List.map_append]
              rfl
          refine ⟨Tz, _, rfl, .of upd_same, rfl, _, _, rfl, _, _, rfl, rfl, ?_⟩
          refine ⟨rfl, lc_keep ?_⟩
          rcases ix with rfl | ⟨a, rfl⟩ | ⟨a, rfl⟩ | ⟨a, rfl⟩
          · exact ⟨_, rfl, rfl, true, rfl, iteT (nxt _ (Same.refl _))⟩
          · exact ⟨_, rfl, rfl, false, rfl, iteF ⟨_, rfl, _, rfl, _, _, rfl, .inr (.inl ⟨a, rfl⟩), nxt _ (Same.refl _)⟩⟩
          · exact ⟨_, rfl, rfl, false, rfl, iteF ⟨_, rfl, _, rfl, _, _, rfl, .inr (.inr (.inl ⟨a, rfl⟩)), nxt _ (Same.refl _)⟩⟩
          · exact ⟨_, rfl, rfl, false, rfl, iteF ⟨_, rfl, _, rfl, _, _, rfl, .inr (.inr (.inr ⟨a, rfl⟩)), nxt _ (Same.refl _)⟩⟩
        · rintro H1 ⟨s1, g1⟩
          rw [List.take_of_length_le (by rw [List.length_zip]; omega)] at g1
          exact ⟨D, _, rfl, .of g1, q _ s1⟩
      · rw [decide_eq_false hl, Bool.false_and] at q
        rw [show (!decide (V.int ((xs.length : Nat) : Int) = V.int ((l.length : Nat) : Int))) = true by rw [decide_eq_false fun z => hl (by injection z with z; omega)]; rfl]
        refine iteT ?_
        exact q H (Same.refl H)
    · rcases hv with rfl | ⟨z, rfl⟩ | ⟨p, xs, rfl, hp⟩
      · exact ⟨_, rfl, _, .ty "tuple", .type "NoneType", .type "tuple", false, rfl, .ty _, .base .non, kit_ty (by decide +kernel), false, rfl, iteT (q H (Same.refl H))⟩
      · exact ⟨_, rfl, _, .ty "tuple", .type "int", .type "tuple", false, rfl, .ty _, .base (.int z), kit_ty (by decide +kernel), false, rfl, iteT (q H (Same.refl H))⟩
      · exact ⟨_, rfl, _, .ty "tuple", .type "list", .type "tuple", false, rfl, .ty _, .base (.lst hp), kit_ty (by decide +kernel), false, rfl, iteT (q H (Same.refl H))⟩
end
end Rp
/-! mended. -/
namespace Rp
open PySem PySem.Spec PyProof.Rows L2 Rz Rm Rt Rl LamX
/-- how mending ends: well, or at an entry -/
def MdC (H : Hp) (xs : List V) (ls : List (List Int)) : Option Nat → Prop
  | none => xs.length ≤ 500 ∧ ∀ (i : Nat) (x : V) (l : List Int), xs[i]? = some x → ls[i]? = some l → CanV H x l true
  | some i => i < xs.length ∧ i ≤ 500 ∧ (i < 500 → ∃ x l, xs[i]? = some x ∧ ls[i]? = some l ∧ CanV H x l false) ∧ ∀ (j : Nat) (x : V) (l : List Int), j < i → xs[j]? = some x → ls[j]? = some l → CanV H x l true
theorem MdC.same {H H' : Hp} (s : Same H H') {xs : List V} {ls : List (List Int)} : ∀ {o : Option Nat}, MdC H xs ls o → MdC H' xs ls o
  | none, h => ⟨h.1, fun i x l h1 h2 => (h.2 i x l h1 h2).same s⟩
  | some i, h => ⟨h.1, h.2.1, fun z => let ⟨x, l, a, b, c⟩ := h.2.2.1 z; ⟨x, l, a, b, c.same s⟩, fun j x l hj h1 h2 => (h.2.2.2 j x l hj h1 h2).same s⟩
section
variable {P : Program} {w : World} {K : PySem.W.Frag} {mg : Str → Option Value} {base : Heap}
def spMd (K : PySem.W.Frag) (C C5 : Addr) : Sp := fun vs H Q E => ∃ (p dx td ts : Addr) (ds ss : List Int) (v : V), vs = [.ref p, v] ∧ RingAt C H p dx td ts ds ss ∧
  (((∃ t : String, TyX K H v (.type t) ∧ kitB t "list" = some false) ∧ ∀ (dd : Addr) (H' : Hp), Same H H' → H' dd = some (.xd [("entry", .int 0)]) → E (.ref C5) (some dd) H') ∨
   ∃ (L : Addr) (xs : List V) (o : Option Nat), v = .ref L ∧ H L = some (.lst xs) ∧ xs.length ≤ 600 ∧ (∀ D k, k ≤ ds.length → (Pre ds ss D k).length = min xs.length 500 → MdC H xs (Pre ds ss D k) o) ∧
     (∀ i, o = some i → ∀ (dd : Addr) (H' : Hp), Same H H' → H' dd = some (.xd [("entry", .int (i : Nat))]) → E (.ref C5) (some dd) H') ∧
     (o = none → ∀ (H' : Hp) (M : Addr) (ys : List V) (D k : Nat), k ≤ ds.length → (Pre ds ss D k).length = xs.length → Same H H' → H M = none → H' M = some (.lst ys) → Tups H' ys (Pre ds ss D k) → Q (.ref M) H'))
theorem ok_md {CN : Addr} {S : RdS K mg} (T : Tx K mg) (E4 : RxE K mg "InvalidNumber" CN) (B : RdF S) : FnOk P w K mg base (L2.CX P w) 10 T.a_mended T.d_mended P_mended (spMd K T.C S.k5) := by
  refine T.F_mended.okX sc_mended (fun vs H Q E h => ?_) (fun cdv A outer s H vs Q E hr h => ?_)
  · obtain ⟨p, dx, td, ts, ds, ss, v, rfl, _⟩ := h
    rfl
  · obtain ⟨p, dx, td, ts, ds, ss, v, rfl, R, hv⟩ := h
    have eq : T.c_iDiaryError = S.k5 := by
      have e := T.gc_iDiaryError.symm.trans S.g5
      injection e with e
      injection e
    have OX : OexC K S.k5 := by rw [← eq]; exact oxB_ok T.io_iDiaryError
    have ic : PySem.W.findIn K (.ref S.k5) "__init__" = some (some (.ref T.a_iDiaryError)) := by rw [← eq]; exact T.ic_iDiaryError
    have hr2 : Room 2 _ := hr.mono (by decide : 2 ≤ 9)
    have hr3 : Room 3 _ := hr.mono (by decide : 3 ≤ 9)
    have hr6 : Room 6 _ := hr.mono (by decide : 6 ≤ 9)
    obtain ⟨u1, c1⟩ := T.c_MOST_ENTRIES
    have nd := sc_mended.nd
    refine ⟨_, pss_cons (ps_if (pt_not (pt_val (pe_callB call_isi (by rfl) T.z_isinstance (by decide +kernel) (pa_cons (pv 1) (pa_cons (pe_bltn (v := .ty "list") (u := .type "list") (by rfl) T.z_list (by decide +kernel) rfl) pa_nil)))))
        (pss_one (ps_raise rfl (takes_of rfl rfl rfl rfl) (pmk_oex OX ic T.it_iDiaryError (ok_de T B eq) hr2 T.b_iDiaryError .nil pass0 (by rfl) S.g5 (pa_cons pe_int pa_nil)))) pss_nil)
      (pss_cons (ps_set (i := 2) nd rfl (.inl rfl) (pe_callB (call_min2 rfl) (by rfl) T.z_min (by decide +kernel) (pa_cons (pe_callB call_len_seq (by rfl) T.z_len PySem.boot_len (pa_cons (pv 1) pa_nil)) (pa_cons (pe_glob (v := .int 500) (by rfl) c1 ⟨_, rfl⟩) pa_nil))))
      (pss_cons (ps_set (i := 3) nd rfl (.inl rfl) (pe_listG (pgen_call (E := E0) (ok_dia T E4) hr6 (by rfl) T.g_diary_of T.F_diary_of.kp T.b_diary_of .nil (pa_cons (pv 0) (pa_cons (pv 2) pa_nil))) (passes_call (takes_of rfl rfl rfl rfl) (fun _ _ _ _ h => h.elim)) (fun _ _ _ h => h.elim) hr (by rfl) T.z_list (by decide +kernel)))
      (pss_cons (ps_for (passes_of rfl) rfl (pi_enum (by rfl) T.z_enumerate (pa_cons (pv 1) pa_nil)) (pg_tup rfl (pgs_cons (pg_name (i := 4) nd rfl (.inl rfl)) (pgs_cons (pg_name (i := 5) nd rfl (.inl rfl)) pgs_nil)))
        (pss_one (ps_if (PW.pt (pw_or (pt_cmpR op_ge (pv 4) (pe_glob (v := .int 500) (by rfl) c1 ⟨_, rfl⟩) (nomark _)) (pw_or1 (pt_not (pt_val (pe_call (ok_can T) hr3 (by rfl) T.g_can_be T.F_can_be.kp T.b_can_be .nil pass0 (pa_cons (pv 5) (pa_cons (pe_ix ix_list (pv 3) (pv 4) (fun _ _ => rfl)) pa_nil))))))))
          (pss_one (ps_raise rfl (takes_of rfl rfl rfl rfl) (pmk_oex OX ic T.it_iDiaryError (ok_de T B eq) hr2 T.b_iDiaryError .nil pass0 (by rfl) S.g5 (pa_cons (pv 4) pa_nil)))) pss_nil)))
      (pss_one (ps_ret (pv 3)))))), ?_⟩
    rcases hv with ⟨⟨t, ht, hk⟩, q⟩ | ⟨L, xs, o, rfl, hL, hlen, hm, qe, q⟩
    · refine ⟨v, rfl, v, .ty "list", .type t, .type "list", false, rfl, .ty _, ht, kit_ty hk, false, rfl, iteT ?_⟩
      exact de_go (by decide) (by decide) fun dd H2 s2 hd => q dd H2 s2 hd
    · refine ⟨.ref L, rfl, .ref L, .ty "list", .type "list", .type "list", true, rfl, .ty _, .base (.lst hL), kit_ty (by decide +kernel), true, rfl, iteF ?_⟩
      refine ⟨_, rfl, L, _, rfl, .inl (.of hL), _, _, rfl, ?_⟩
      have em : (if (500 : Int) < ((xs.length : Nat) : Int) then (500 : Int) else ((xs.length : Nat) : Int)) = ((min xs.length 500 : Nat) : Int) := by
        split <;> omega
      rw [em]
      refine ⟨_, rfl, _, rfl, p, dx, td, ts, ds, ss, _, rfl, R, .inl ⟨_, rfl, by omega, fun ys H1 D k hk hl1 s1 T1 M hM => ?_⟩⟩
      have mc := hm D k hk hl1
      have lp : (Pre ds ss D k).length = min xs.length 500 := hl1
      have s2 := same_upd (o := .lst ys) hM
      have g2 : (upd H1 M (.lst ys)) M = some (.lst ys) := upd_same
      have s12 := s1.trans s2
      have T2 : Tups (upd H1 M (.lst ys)) ys (Pre ds ss D k) := T1.mono fun b zs h => s2 _ _ h
      have hM0 : H M = none := same_none s1 hM
      show tSeq _ _ _ [some (.ref p), some (.ref L), some (.int ((min xs.length 500 : Nat) : Int)), some (.ref M), none, none] (upd H1 M (.lst ys))
      generalize (upd H1 M (.lst ys)) = H2 at s2 g2 s12 T2
      refine ⟨.ref L, rfl, L, _, rfl, .of (s12 _ _ hL), for_it walk_enum (fun i σ H' => (∃ y4 y5, σ = [some (.ref p), some (.ref L), some (.int ((min xs.length 500 : Nat) : Int)), some (.ref M), y4, y5]) ∧ Same H2 H' ∧ ∀ m, o = some m → i ≤ m) ⟨⟨none, none, rfl⟩, Same.refl H2, fun _ _ => Nat.zero_le _⟩ (fun i σ H' _ h => .of (h.2.1 _ _ (s12 _ _ hL))) ?_ ?_⟩
      · rintro i z σ H3 H4 hi1 ⟨⟨y4, y5, rfl⟩, sm, ho⟩ ⟨t, a, b, rfl, nt, rfl, ha, hb⟩
        have ha' : a = .int (i : Nat) := (Option.some.inj ha).symm
        subst ha'
        have hb : xs[i]? = some b := hb
        have s3 : Same H2 (upd H3 t (.tup [.int (i : Nat), b])) := sm.trans (same_upd nt)
        have ht2 : (upd H3 t (.tup [.int (i : Nat), b])) t = some (.tup [.int (i : Nat), b]) := upd_same
        refine ⟨t, _, rfl, .of ht2, rfl, _, _, rfl, _, _, rfl, rfl, ?_⟩
        generalize (upd H3 t (.tup [.int (i : Nat), b])) = H5 at s3 ht2 ⊢
        have s05 := s12.trans s3
        have raise : o = some i → ∀ (dd : Addr) (H6 : Hp), Same H5 H6 → H6 dd = some (.xd [("entry", .int (i : Nat))]) → E (.ref S.k5) (some dd) H6 := fun hno dd H6 s6 hd =>
          qe i hno dd H6 (s05.trans s6) hd
        refine ⟨_, rfl, _, _, rfl, rfl, _, rfl, ?_⟩
        by_cases hn : (500 : Int) ≤ ((i : Nat) : Int)
        · rw [decide_eq_true hn]
          refine iteT ?_
          refine ⟨_, rfl, de_go (by omega) (by omega) (raise ?_)⟩
          cases o with
          | none =>
            have := mc.1
            omega
          | some m =>
            have h1 := ho m rfl
            have h2 : m ≤ 500 := mc.2.1
            rw [show m = i by omega]
        rw [decide_eq_false hn]
        refine iteF ?_
        obtain ⟨l, hl⟩ : ∃ l, (Pre ds ss D k)[i]? = some l := ⟨_, List.getElem?_eq_getElem (by omega)⟩
        obtain ⟨te, hy, he⟩ := T2.get hl
        obtain ⟨c, hc, h1, h2⟩ : ∃ c, CanV H b l c ∧ (c = false → o = some i) ∧ (c = true → ∀ m, o = some m → i + 1 ≤ m) := by
          cases o with
          | none => exact ⟨true, mc.2 i b l hb hl, fun z => Bool.noConfusion z, fun _ m z => by cases z⟩
          | some m =>
            have h1 := ho m rfl
            obtain ⟨m1, m2, m3, m4⟩ := mc
            by_cases e : i = m
            · subst e
              obtain ⟨x, l', a1, a2, a3⟩ := m3 (by omega)
              rw [hb] at a1
              rw [hl] at a2
              cases a1
              cases a2
              exact ⟨false, a3, fun _ => rfl, fun z => Bool.noConfusion z⟩
            · exact ⟨true, m4 i b l (by omega) hb hl, fun z => Bool.noConfusion z, fun _ m' z => by
                cases z
                omega⟩
        refine ⟨_, rfl, _, rfl, _, rfl, M, _, _, _, rfl, rfl, .of (s3 _ _ g2), atI_nat hy, _, te, l, c, rfl, s3 _ _ he, hc.same s05, fun H6 s6 => ?_⟩
        refine ⟨_, rfl, ?_⟩
        cases c with
        | false =>
          refine iteT ?_
          exact ⟨_, rfl, de_go (by omega) (by omega) fun dd H7 s7 hd => raise (h1 rfl) dd H7 (s6.trans s7) hd⟩
        | true =>
          refine iteF ?_
          exact ⟨⟨_, _, rfl⟩, s3.trans s6, h2 rfl⟩
      · rintro σ H3 ⟨⟨y4, y5, rfl⟩, sm, ho⟩
        have e : o = none := by
          cases o with
          | none => rfl
          | some m =>
            have h1 := ho m rfl
            have h2 : m < xs.length := mc.1
            omega
        subst e
        have h5 : xs.length ≤ 500 := mc.1
        exact ⟨_, rfl, q rfl H3 M ys D k hk (by omega) (s12.trans sm) hM0 (sm _ _ g2) (T2.mono fun b zs h => sm _ _ h)⟩
end
end Rp
/-! _law_raised: DiaryError with its entry. -/
namespace Rp
open PySem PySem.Spec PyProof.Rows L2 Rz Rm Rt Rl LamX
section
variable {X : Cx} {g f : Addr} {cdg : Value} {s : Shared} {H : Hp} {K : PySem.W.Frag} {mg : Str → Option Value}
abbrev rsCx (X : Cx) (g : Addr) (cdg : Value) (s : Shared) (H : Hp) : Cx := (cxOf C8.CX0 X.prog X.w X.K X.mg X.base N_lraised "_law_raised" (defScope s_lraised) g cdg X.A X.stack s H C8.E0).nox
abbrev rsSuite : List Stmt := match (defBody s_lraised).head? with
  | some (.Try _ [.ExceptHandler _ _ st _] _ _ _) => st
  | _ => []
def L3 (j : Nat) : List V := [.bl (decide (j = 0)), .bl (decide (j = 1)), .bl (decide (j = 2))]
def L6 (j : Nat) : List V := [.bl (decide (j = 0)), .bl (decide (j = 1)), .bl (decide (j = 2)), .bl (decide (j = 3)), .bl (decide (j = 4)), .bl (decide (j = 5))]
/-- the word for DiaryError(entry) -/
def DeTold (v : V) (Q : VK) (H1 : Hp) : Prop := ∀ (p : Addr) (H' : Hp), (∀ b o, H1 b = some o → H' b = some o) → H1 p = none → H' p = some (.tup [.str "diary", v]) → Q (.ref p) H'
theorem raised_suite1 {S : RdS X.K X.mg} (B : RdF S) {a dd : Addr} {oe : Obj} {pn : List (Addr × Obj)} (hz : Zc (.ref S.k5) (some dd) oe) (hf : ∃ vs, oe.data = .fields vs)
    {DD : Ends} {wv y2 : Option V} {H1 : Hp} {Q : VK} {v : V} (hrt : DD.rt = Q) (hd : H1 dd = some (.xd [("entry", v)])) (q : DeTold v Q H1) :
    ∃ t, PSs ((rsCx X g cdg s H).suite a ((a, oe) :: pn)) rsSuite t ∧ t DD [wv, some (.ref a), y2] H1 := by
  have nd := sc_lraised.nd
  subst hrt
  refine ⟨_, pss_cons (ps_set (i := 2) nd rfl (.inl rfl) (pe_lst (pa_cons (pe_callB (call_isF B.ex hz hf) (by rfl) S.zI (by decide +kernel) (pa_cons (pv 1) (pa_cons (pe_glob (v := .ref S.k0) (by rfl) S.g0 rfl) pa_nil))) (pa_cons (pe_callB (call_isF B.ex hz hf) (by rfl) S.zI (by decide +kernel) (pa_cons (pv 1) (pa_cons (pe_glob (v := .ref S.k1) (by rfl) S.g1 rfl) pa_nil))) (pa_cons (pe_callB (call_isF B.ex hz hf) (by rfl) S.zI (by decide +kernel) (pa_cons (pv 1) (pa_cons (pe_glob (v := .ref S.k2) (by rfl) S.g2 rfl) pa_nil))) pa_nil)))))
    (pss_cons (ps_set (i := 2) nd rfl (.inl rfl) (pe_op op_cat (pv 2) (pe_lst (pa_cons (pe_callB (call_isF B.ex hz hf) (by rfl) S.zI (by decide +kernel) (pa_cons (pv 1) (pa_cons (pe_glob (v := .ref S.k3) (by rfl) S.g3 rfl) pa_nil))) (pa_cons (pe_callB (call_isF B.ex hz hf) (by rfl) S.zI (by decide +kernel) (pa_cons (pv 1) (pa_cons (pe_glob (v := .ref S.k4) (by rfl) S.g4 rfl) pa_nil))) (pa_cons (pe_callB (call_isF B.ex hz hf) (by rfl) S.zI (by decide +kernel) (pa_cons (pv 1) (pa_cons (pe_glob (v := .ref S.k5) (by rfl) S.g5 rfl) pa_nil))) pa_nil))))))
    (pss_cons (ps_if (PW.pt (pw_or (pt_cmpR op_ne (pe_bm PySem.F.plainAttrs_list PySem.F.slot_list_count PySem.F.type_list_count mt_countV (pv 2) (pa_cons pe_bl pa_nil)) pe_int (nomark _))
        (pw_or1 (pt_not (pt_val (pe_callB (call_isF B.ex hz hf) (by rfl) S.zI (by decide +kernel) (pa_cons (pv 1) (pa_cons (pe_bltn (v := .ty "ValueError") (u := .type "ValueError") (by rfl) S.zV (by decide +kernel) rfl) pa_nil)))))))) (pss_one ps_never) pss_nil)
    (pss_cons (ps_if (pt_val (pe_ix ix_list (pv 2) pe_int (fun _ _ => rfl))) (pss_one ps_never) pss_nil)
    (pss_cons (ps_if (pt_val (pe_ix ix_list (pv 2) pe_int (fun _ _ => rfl))) (pss_one ps_never) pss_nil)
    (pss_cons (ps_if (pt_val (pe_ix ix_list (pv 2) pe_int (fun _ _ => rfl))) (pss_one (ps_ret (pe_tup (pa_cons pe_str (pa_cons (pe_xf B.xf B.nx hz hf (pv 1)) pa_nil))))) pss_nil)
    pss_never))))), ?_⟩
  refine ⟨.ref a, rfl, ⟨_, hd⟩, .ref S.k0, .ref S.k0, _, rfl, fun u h => h, B.q0, .ref a, rfl, ⟨_, hd⟩, .ref S.k1, .ref S.k1, _, rfl, fun u h => h, B.q1, .ref a, rfl, ⟨_, hd⟩, .ref S.k2, .ref S.k2, _, rfl, fun u h => h, B.q2, (by show 3 ≤ sizeLine; decide), fun p1 hp1 => ?_⟩
  have s1 : ∀ b o, H1 b = some o → (upd H1 p1 (.lst (L3 5))) b = some o := fun b o e => (upd_ne (ne_of_none e hp1)).trans e
  have g1 : (upd H1 p1 (.lst (L3 5))) p1 = some (.lst (L3 5)) := upd_same
  have n0 : ∀ {p : Addr} {H2 : Hp}, (∀ b o, H1 b = some o → H2 b = some o) → H2 p = none → H1 p = none := fun {p H2} k h => by
    cases e : H1 p with
    | none => rfl
    | some o =>
      have := k _ _ e
      rw [h] at this
      cases this
  show tSeq _ _ _ [wv, some (.ref a), some (.ref p1)] (upd H1 p1 (.lst (L3 5)))
  generalize (upd H1 p1 (.lst (L3 5))) = H2 at s1 g1 ⊢
  refine ⟨.ref p1, rfl, .ref a, rfl, ⟨_, s1 _ _ hd⟩, .ref S.k3, .ref S.k3, _, rfl, fun u h => h, B.q3, .ref a, rfl, ⟨_, s1 _ _ hd⟩, .ref S.k4, .ref S.k4, _, rfl, fun u h => h, B.q4, .ref a, rfl, ⟨_, s1 _ _ hd⟩, .ref S.k5, .ref S.k5, _, rfl, fun u h => h, B.q5, (by show 3 ≤ sizeLine; decide), fun p2 hp2 => ?_⟩
  have sa0 : ∀ b o, H2 b = some o → (upd H2 p2 (.lst [.bl false, .bl false, .bl true])) b = some o := fun b o e => (upd_ne (ne_of_none e hp2)).trans e
  have ga0 : (upd H2 p2 (.lst [.bl false, .bl false, .bl true])) p2 = some (.lst [.bl false, .bl false, .bl true]) := upd_same
  generalize (upd H2 p2 (.lst [.bl false, .bl false, .bl true])) = H3 at sa0 ga0 ⊢
  refine ⟨p1, p2, _, _, rfl, rfl, sa0 _ _ g1, ga0, (by show 3 + 3 ≤ sizeLine; decide), fun p3 hp3 => ?_⟩
  have sb0 : ∀ b o, H3 b = some o → (upd H3 p3 (.lst (L6 5))) b = some o := fun b o e => (upd_ne (ne_of_none e hp3)).trans e
  have gb0 : (upd H3 p3 (.lst (L6 5))) p3 = some (.lst (L6 5)) := upd_same
  show tSeq _ _ _ [wv, some (.ref a), some (.ref p3)] (upd H3 p3 (.lst (L6 5)))
  generalize (upd H3 p3 (.lst (L6 5))) = H4 at sb0 gb0 ⊢
  have st0 : ∀ b o, H1 b = some o → H4 b = some o := fun b o e => sb0 _ _ (sa0 _ _ (s1 _ _ e))
  have hcnt : List.countP (fun z => eqV z (.bl true)) (L6 5) = 1 := rfl
  have hflat : (L6 5).all flatV = true := rfl
  refine ⟨.ref p3, rfl, .inl ⟨rfl, _, SqL.of gb0⟩, p3, _, .bl true, rfl, rfl, SqL.of gb0, rfl, hflat, ?_⟩
  rw [hcnt]
  refine ⟨rfl, _, rfl, iteNS rfl ?_⟩
  refine ⟨.ref a, rfl, ⟨_, st0 _ _ hd⟩, .ty "ValueError", .type "ValueError", true, rfl, fun u h => h, B.qv, true, rfl, iteF ?_⟩
  refine ⟨_, rfl, p3, _, 0, _, rfl, rfl, .of gb0, atI_nat (j := 0) rfl, _, rfl, iteF ?_⟩
  refine ⟨_, rfl, p3, _, 4, _, rfl, rfl, .of gb0, atI_nat (j := 4) rfl, _, rfl, iteF ?_⟩
  refine ⟨_, rfl, p3, _, 5, _, rfl, rfl, .of gb0, atI_nat (j := 5) rfl, _, rfl, iteT ?_⟩
  refine ⟨.ref a, rfl, rfl, rfl, dd, _, v, rfl, st0 _ _ hd, rfl, (by show 2 ≤ sizeLine; decide), fun p9 hp9 => ?_⟩
  exact q p9 _ (fun b o e => (upd_ne (ne_of_none (st0 b o e) hp9)).trans (st0 b o e)) (n0 st0 hp9) upd_same
/-- how it ends: None, or the word, with or without a field -/
def RsO1 {K : PySem.W.Frag} {mg : Str → Option Value} (S : RdS K mg) (Q : VK) : XK := fun cls d H => ∃ (dd : Addr) (v : V), cls = .ref S.k5 ∧ d = some dd ∧ H dd = some (.xd [("entry", v)]) ∧ DeTold v Q H
def TRs1 {K : PySem.W.Frag} {mg : Str → Option Value} (S : RdS K mg) : (XK → Hp → VK → Prop) → Hp → VK → Prop := fun tl H Q => ∀ E : XK, (∀ cls d H', RsO1 S Q cls d H' → E cls d H') → tl E H fun _ H' => Q .non H'
theorem gives_raised1 {S : RdS X.K X.mg} (B : RdF S) : GivesV X N_lraised "_law_raised" (defScope s_lraised) g cdg (defBody s_lraised) "_law_work" (TRs1 S) := by
  intro f RR s H Q tl hact hR ht
  have nd := sc_lraised.nd
  refine ⟨_, pss_cons (ps_try_as (i := 1) (c := .ref S.cE) (Wout := fun _ _ _ _ => False)
    (ts := fun a cls d DD σ1 H1 => ∀ (oe : Obj) (pn : List (Addr × Obj)), Zc cls d oe → (∃ vs, oe.data = .fields vs) → ∃ t, PSs ((rsCx X g cdg s H).suite a ((a, oe) :: pn)) rsSuite t ∧ t DD σ1 H1)
    rfl rfl nd rfl rfl ⟨rfl, by decide, Or.inl S.gE⟩ LamX.takes0
    (fun W pn xe tk _ => pss_one (ps_expr (hact W pn xe _ _ tk)))
    (fun a oe cls d pn hz hf => ⟨fun pins s1 σ1 H1 DD I h => by
      obtain ⟨t, ht, hh⟩ := h oe pn hz hf
      exact ht.run pins s1 σ1 H1 DD I hh⟩)) (pss_one (ps_ret pe_non)), ?_⟩
  refine ⟨rfl, hR, ht _ fun cls d H' hto => ?_⟩
  obtain ⟨dd, v, rfl, rfl, hd, q⟩ := hto
  refine ⟨true, B.ee, fun _ a ha oe pn hz hf => ?_, fun z => Bool.noConfusion z⟩
  exact raised_suite1 B hz hf rfl hd q
end
end Rp
/-! _law_raised(lambda: ..); small lemmas of the law. -/
namespace Rp
open PySem PySem.Spec PyProof.Rows L2 Rz Rm Rt Rl LamX
section
variable {X : Cx}
/-- _law_raised(lambda: e), t being e's reading -/
def tRs1 {K : PySem.W.Frag} {mg : Str → Option Value} (S : RdS K mg) (Tb : List (Addr × Str)) (t : XK → TE) : TE := fun σ H Q => Tabs Tb H ∧ ∀ H1, ExtN H H1 → Tabs Tb H1 → ∀ E : XK, (∀ cls d H', RsO1 S Q cls d H' → E cls d H') → t E σ H1 fun _ H' => Q .non H'
theorem pe_rs1 {c PT : Addr} {k : Nat} {params : Arguments} {body : Expr} {scope : Scope} {p lp pos : Pos} {t : XK → TE} (T : Tx X.K X.mg) {S : RdS X.K X.mg} (B : RdF S) (TB : TabB X.base X.mg c PT) (hcode : X.env.code = .ref c) (hg : Gl X "_law_raised")
    (L : LamP X.N X.env.scope scope) (hdef : defaultsOf params X.env = ([], [])) (hno : ∀ (q : Str) (cl : List (Str × Addr)) (c' : Addr) (doc pm ctv : Value) (sZ : Shared), BindsTo sZ (PySem.W.kdv_fn "<lambda>" q params (.expr body) scope cl .none doc pm (.ref c') ctv) ⟨[], []⟩ []) (hr : Room (k + 2) X.A)
    (hbody : ∀ (A : Around) (outer : List Env) (s : Shared) (H : Hp) (E : XK) (f c' : Addr), Room k (A.deeper (lamEnv X scope s.heap.objs.size f c')) → PE (lamCx X A outer s H E scope f c') body (t E))
    (hst : starEach [.Lambda params body scope lp] X.env = (false, eval (.Lambda params body scope lp) X.env) :: starEach [] X.env := by rfl) (hpl : (backTo pos (starEach ([] : List Expr) X.env)).any (·.1) = false := by rfl) :
    PE X (.Call (.Name "_law_raised" p) [.Lambda params body scope lp] [] pos) (tRs1 S [(PT, X.env.qual ++ "<lambda>")] t) := by
  obtain ⟨oc, od, kV, doc, pm, an, cdv, ct, osl, e, lk, hcd⟩ := T.F_lraised.ex
  have bt := T.b_lraised
  rw [e] at lk bt
  have go := pe_lamcallV (X := X) (ι := Addr) (F := fun c' => ⟨X.env.qual ++ "<lambda>", params, body, scope, cloFrom X.env.cells scope.names [], .none, c'⟩) (G := fun _ _ => True) (TT := TRs1 S) (x := "_law_raised") (a := "_law_work") (k := k) (t := fun _ => t) (p := p) (pos := pos)
    hg T.g_lraised T.F_lraised.kp lk hcd bt sc_lraised rfl (.inl rfl) (gives_raised1 B)
    ⟨fun _ => L, fun _ => rfl, fun _ => rfl, fun i doc pm ctv sZ HZ _ _ => ⟨[], hno _ _ _ _ _ _ _, fun y hy => by cases hy⟩⟩
    (pa_cons (pe_lam0 (pos := lp) TB hcode (List.mem_singleton.mpr rfl) (fun q hq _ => by rw [List.mem_singleton.mp hq]) (fun y hy z => L.free y hy z) hdef) pa_nil) hr
    (fun i A outer s H E f hr2 => hbody A outer s H E f i hr2) hst hpl
  refine ⟨fun pins s σ H Q I h => go.run pins s σ H Q I ?_⟩
  obtain ⟨hT, h⟩ := h
  exact ⟨hT, fun f c' H1 x1 t1 hf e1 e2 => ⟨f, c', rfl, e1, e2, True.intro, fun E hE => h H1 x1 t1 E hE⟩⟩
theorem pass0G {X : Cx} : Passes (L2.CX X.prog X.w) X E0 := fun pins σ H s e s' I c => by
  obtain ⟨_, _, _, _, _, _, _, _, _, _, _, _, no⟩ := c
  exact no.elim
end
theorem fn_calm {P : Program} {w : World} {K : PySem.W.Frag} {mg : Str → Option Value} {base : Heap} {k : Nat} {f : Addr} {fd : FuncData} {ps : List Str} {sp : Sp} (F : FnOk P w K mg base (L2.CX P w) k f fd ps sp) :
    FnOk P w K mg base CX0 k f fd ps (fun vs H Q _ => sp vs H Q fun _ _ _ => False) := by
  refine ⟨fun vs H Q E h => F.len vs H Q _ h, fun A outer s H args us vs Q E hr e0 b r h => ?_⟩
  refine codeAny_mono (F.run A outer s H args us vs Q _ hr e0 b r h) fun res s' z => ?_
  cases res with
  | ok fl => cases fl <;> exact z
  | error e =>
    obtain ⟨_, _, _, _, _, _, _, _, _, _, _, _, no⟩ := z
    exact no.elim
theorem Tabs_kp {K : PySem.W.Frag} {H H' : Hp} {row a : Addr} {ns : List Int} {Tb : List (Addr × Str)} (RA : RowAt K H row a ns) (k : Kp row H H') (t : Tabs Tb H) : Tabs Tb H' := fun p hp => by
  obtain ⟨_, _, _, hrow, _⟩ := RA.ob
  obtain ⟨ps, h1, h2, h3⟩ := t p hp
  refine ⟨ps, k _ _ h1 (fun e => by rw [e, hrow] at h1; cases h1), h2, fun pos cv hc => ?_⟩
  obtain ⟨c, e1, e2⟩ := h3 pos cv hc
  refine ⟨c, e1, k _ _ e2 (fun e => ?_)⟩
  rw [e, hrow] at e2
  unfold CodeO at e2
  cases e2
theorem kp_of {K : PySem.W.Frag} {H H' : Hp} {row a b : Addr} {ns : List Int} {o : HO} (RA : RowAt K H row a ns) (k : Kp row H H') (h : H b = some o) (n : ∀ i m q : Int, o ≠ .lst [.ref a, .int i, .int m, .int q]) : H' b = some o := by
  obtain ⟨i, m, q, hrow, _⟩ := RA.ob
  refine k _ _ h fun e => ?_
  rw [e, hrow] at h
  exact n i m q (Option.some.inj h).symm
theorem RowAt.extN {K : PySem.W.Frag} {H H' : Hp} {row a : Addr} {ns : List Int} (R : RowAt K H row a ns) (s : ExtN H H') : RowAt K H' row a ns := by
  obtain ⟨i, m, q, h, h0⟩ := R.ob
  refine ⟨⟨i, m, q, s _ _ h (by intro ps z; cases z), h0⟩, ?_, R.ne⟩
  rcases R.sc with (z | ⟨o, z⟩) | z
  · exact .inl (.inl (s _ _ z (by intro ps z; cases z)))
  · exact .inl (.inr ⟨o, s _ _ z (by intro ps z; cases z)⟩)
  · exact .inr z
theorem RingAt.kp8 {K : PySem.W.Frag} {C : Addr} {H H' : Hp} {row a p dx td ts : Addr} {ns ds ss : List Int} (RA : RowAt K H row a ns) (k : Kp row H H') (R : RingAt C H p dx td ts ds ss) : RingAt C H' p dx td ts ds ss :=
  ⟨kp_of RA k R.ob (fun _ _ _ z => by cases z), kp_of RA k R.td (fun _ _ _ z => by cases z), kp_of RA k R.ts (fun _ _ _ z => by cases z), R.ok⟩
theorem RingAt.extN {C : Addr} {H H' : Hp} {p dx td ts : Addr} {ds ss : List Int} (R : RingAt C H p dx td ts ds ss) (s : ExtN H H') : RingAt C H' p dx td ts ds ss :=
  ⟨s _ _ R.ob (by intro ps z; cases z), s _ _ R.td (by intro ps z; cases z), s _ _ R.ts (by intro ps z; cases z), R.ok⟩
theorem canT_of {xs : List V} {l : List Int} (hl : xs.length = l.length) (h : ∀ (m : Nat) (x : V) (z : Int), xs[m]? = some x → l[m]? = some z → okI x z = true) : canT xs l = true := by
  unfold canT
  rw [decide_eq_true hl, Bool.true_and, List.all_eq_true]
  intro b hb
  obtain ⟨z, hz, rfl⟩ := List.mem_map.mp hb
  obtain ⟨m, hm⟩ := List.getElem?_of_mem hz
  obtain ⟨h1, h2⟩ := List.getElem?_zip_eq_some.mp hm
  exact h m _ _ h1 h2
theorem CanV.tups {H H' : Hp} (k : ∀ b ys, H b = some (.tup ys) → H' b = some (.tup ys)) {v : V} {l : List Int} (h : CanV H v l true) : CanV H' v l true := by
  rcases h with ⟨t, xs, h1, h2, h3⟩ | ⟨_, h3⟩
  · exact .inl ⟨t, xs, h1, k _ _ h2, h3⟩
  · cases h3
theorem RowAt.tups {K : PySem.W.Frag} {H H' : Hp} {row a : Addr} {ns : List Int} (R : RowAt K H row a ns) (k : Kp row H H') : ∀ b ys, H b = some (.tup ys) → H' b = some (.tup ys) := fun b ys h => k _ _ h fun e => by
  obtain ⟨i, m, q, h2, _⟩ := R.ob
  rw [e, h2] at h
  cases h
theorem cut_to (xs : List V) {k : Nat} (h : k ≤ xs.length) : cutV xs none (some (k : Int)) = xs.take k := by
  unfold cutV
  have e0 : HT.sIx xs.length xs.length (some (k : Int)) = k := by
    rw [HT.sIx_nat]
    omega
  rw [e0, HT.sIx_none, List.drop_zero, Nat.sub_zero]
theorem cut_from (xs : List V) {k : Nat} (h : k ≤ xs.length) : cutV xs (some (k : Int)) none = xs.drop k := by
  unfold cutV
  have e0 : HT.sIx xs.length 0 (some (k : Int)) = k := by
    rw [HT.sIx_nat]
    omega
  rw [e0, HT.sIx_none, List.take_of_length_le (by rw [List.length_drop]; omega)]
theorem fn_up {P : Program} {w : World} {K : PySem.W.Frag} {mg : Str → Option Value} {base : Heap} {k : Nat} {f : Addr} {fd : FuncData} {ps : List Str} {sp : Sp} (F : FnOk P w K mg base CX0 k f fd ps sp) :
    FnOk P w K mg base (L2.CX P w) k f fd ps sp := by
  refine ⟨F.len, fun A outer s H args us vs Q E hr e0 b r h => ?_⟩
  refine codeAny_mono (F.run A outer s H args us vs Q _ hr e0 b r h) fun res s' z => ?_
  cases res with
  | ok fl => cases fl <;> exact z
  | error e => exact z.elim
theorem cut_toA (xs : List V) (k : Nat) : cutV xs none (some (k : Int)) = xs.take k := by
  unfold cutV
  rw [HT.sIx_nat, HT.sIx_none, List.drop_zero, Nat.sub_zero]
  by_cases h : k ≤ xs.length
  · rw [Nat.min_eq_left h]
  · rw [List.take_of_length_le (by omega), List.take_of_length_le (by omega)]
abbrev p0 : Pos := ⟨0, 0, 0, 0⟩
def stBody : Stmt → List Stmt
  | .For _ _ b _ _ => b
  | .While _ b _ _ => b
  | .If _ b _ _ => b
  | _ => []
abbrev bs (j : Nat) : Stmt := (defBody s_law).getD j (.Pass ⟨0, 0, 0, 0⟩)
abbrev fl (i j : Nat) : Stmt := (stBody (bs i)).getD j (.Pass ⟨0, 0, 0, 0⟩)
/-- the lambda that a test calls -/
def raE : Stmt → Expr
  | .If (.Compare (.Call _ (e :: _) _ _) _ _ _) _ _ _ => e
  | e => .Name "" p0
abbrev le1 : Expr := raE (fl 9 2)
abbrev XL (P : Program) (w : World) (K : PySem.W.Frag) (mg : Str → Option Value) (base : Heap) (f : Addr) (cdv : Value) (A : Around) (outer : List Env) (s : Shared) (H0 : Hp) (E : XK) : Cx := (cxOf CX0 P w K mg base N_law "law" (defScope s_law) f cdv A outer s H0 E).nox
end Rp
/-! What the law has at hand; its lambda. -/
namespace Rp
open PySem PySem.Spec PyProof.Rows L2 Rz Rm Rt Rl LamX
theorem CanV.extN {H H' : Hp} (s : ExtN H H') {v : V} {l : List Int} {b : Bool} (h : CanV H v l b) : CanV H' v l b := by
  rcases h with ⟨t, xs, h1, h2, h3⟩ | ⟨h1 | h1 | ⟨p, xs, h1, h2⟩, h3⟩
  · exact .inl ⟨t, xs, h1, s _ _ h2 (by intro ps z; cases z), h3⟩
  · exact .inr ⟨.inl h1, h3⟩
  · exact .inr ⟨.inr (.inl h1), h3⟩
  · exact .inr ⟨.inr (.inr ⟨p, xs, h1, s _ _ h2 (by intro ps z; cases z)⟩), h3⟩
theorem CanV.kp {K : PySem.W.Frag} {H H' : Hp} {row a : Addr} {ns : List Int} (R : RowAt K H row a ns) (R' : RowAt K H' row a ns) (k : Kp row H H') {v : V} {l : List Int} {b : Bool} (h : CanV H v l b) : CanV H' v l b := by
  rcases h with ⟨t, xs, h1, h2, h3⟩ | ⟨h1 | h1 | ⟨p, xs, h1, h2⟩, h3⟩
  · exact .inl ⟨t, xs, h1, R.tups k _ _ h2, h3⟩
  · exact .inr ⟨.inl h1, h3⟩
  · exact .inr ⟨.inr (.inl h1), h3⟩
  · by_cases e : p = row
    · subst e
      obtain ⟨i, m, q, h4, _⟩ := R'.ob
      exact .inr ⟨.inr (.inr ⟨p, _, h1, h4⟩), h3⟩
    · exact .inr ⟨.inr (.inr ⟨p, xs, h1, k _ _ h2 e⟩), h3⟩
theorem pre_len {ds ss : List Int} {D k : Nat} {l : List Int} (h : l ∈ Pre ds ss D k) : l.length = 3 := by
  obtain ⟨a, j, b, rfl, _⟩ := pre_three h
  rfl
theorem tups_take {H : Hp} : ∀ {xs : List V} {ls : List (List Int)} (n : Nat), Tups H xs ls → Tups H (xs.take n) (ls.take n)
  | _, _, 0, _ => .nil
  | _, _, _ + 1, .nil => .nil
  | _, _, n + 1, .cons r t => .cons r (tups_take n t)
theorem sh_diary (k : Int) : SeqAt.shaped (.tuple [.str "diary", .int k]) = true := by
  first
    | rfl
    | (simp [SeqAt.shaped, PyData.canLay0, PyData.depth, PyData.canLayAll0, PyData.depthAll]; decide +kernel)
theorem eq_diary (k : Int) : PyData.eqv (.tuple [.str "diary", .int k]) (.tuple [.str "diary", .int k]) = true := by
  first
    | exact eqv_refl _ (by simp [PyData.canLay0])
    | exact PySem.eqv_refl _ (by simp [PyData.canLay0])
    | exact PySem.PyData.eqv_refl _ (by simp [PyData.canLay0])
    | (simp [PyData.eqv, PyData.eqvAll]; done)
    | (show (_ && (_ && true)) = true; simp)
theorem iteEqv {d e : PyData} {A B : Prop} (hc : PyData.eqv d e = true) (h : B) : if (!PyData.eqv d e) = true then A else B := by
  rw [hc]
  exact iteF h
structure Lq where
  (a row p dx td ts du : Addr)
  (ns ds ss : List Int)
  xs : List V
  n : Nat
structure LD (K : PySem.W.Frag) (C : Addr) (Tb : List (Addr × Str)) (H : Hp) (q : Lq) : Prop where
  RA : RowAt K H q.row q.a q.ns
  tb : Tabs Tb H
  R : RingAt C H q.p q.dx q.td q.ts q.ds q.ss
  en : H q.du = some (.lst q.xs)
  ee : Tups H q.xs ((Pre q.ds q.ss 200 0).take q.n)
  nr : q.du ≠ q.row
  ln : q.xs.length = q.n
  hi : q.n ≤ 40
section
variable {K : PySem.W.Frag} {C : Addr} {Tb : List (Addr × Str)} {H H' : Hp} {q : Lq}
theorem LD.same (b : LD K C Tb H q) (s : Same H H') : LD K C Tb H' q := ⟨b.RA.same s, b.tb.ext s, b.R.same s, s _ _ b.en, b.ee.mono fun _ _ h => s _ _ h, b.nr, b.ln, b.hi⟩
theorem LD.kp (b : LD K C Tb H q) (k : Kp q.row H H') (RA' : RowAt K H' q.row q.a q.ns) : LD K C Tb H' q :=
  ⟨RA', Tabs_kp b.RA k b.tb, b.R.kp8 b.RA k, k _ _ b.en b.nr, b.ee.mono (b.RA.tups k), b.nr, b.ln, b.hi⟩
theorem LD.extN (b : LD K C Tb H q) (s : ExtN H H') (t : Tabs Tb H') : LD K C Tb H' q :=
  ⟨b.RA.extN s, t, b.R.extN s, s _ _ b.en (by intro ps z; cases z), b.ee.mono fun _ _ h => s _ _ h (by intro ps z; cases z), b.nr, b.ln, b.hi⟩
/-- a list of its own is written -/
theorem LD.upd (b : LD K C Tb H q) {rl : Addr} {zs ws : List V} (h : H rl = some (.lst zs)) (n1 : rl ≠ q.row) (n2 : rl ≠ q.a ∨ Wr K q.a (q.ns.map V.int)) (n3 : q.du ≠ rl) : LD K C Tb (upd H rl (.lst ws)) q := by
  have kx : ∀ {x o}, H x = some o → (∀ l, o ≠ .lst l) → (L2.upd H rl (.lst ws)) x = some o := fun {x o} e n => (upd_ne fun z => by
    rw [z, h] at e
    exact n _ (Option.some.inj e).symm).trans e
  refine ⟨b.RA.upd' n1 n2, fun p hp => ?_, ⟨kx b.R.ob (fun _ z => by cases z), kx b.R.td (fun _ z => by cases z), kx b.R.ts (fun _ z => by cases z), b.R.ok⟩, (upd_ne n3).trans b.en, b.ee.mono fun _ _ e => kx e (fun _ z => by cases z), b.nr, b.ln, b.hi⟩
  obtain ⟨ps, h1, h2, h3⟩ := b.tb p hp
  refine ⟨ps, kx h1 (fun _ z => by cases z), h2, fun pos cv hc => ?_⟩
  obtain ⟨c, e1, e2⟩ := h3 pos cv hc
  exact ⟨c, e1, kx e2 fun l z => by
    unfold CodeO at z
    cases z⟩
theorem LD.len (b : LD K C Tb H q) : ((Pre q.ds q.ss 200 0).take q.n).length = q.n := by rw [← b.ee.length]; exact b.ln
/-- what a diary of the ring with so many entries is -/
theorem LD.pre (b : LD K C Tb H q) {D k : Nat} (hk : k ≤ q.ds.length) (h : (Pre q.ds q.ss D k).length = q.n) : Pre q.ds q.ss D k = (Pre q.ds q.ss 200 0).take q.n := by
  have e := pre_take (ds := q.ds) (ss := q.ss) (D := D) hk (Nat.zero_le _) (D' := 200) (k' := 0) (by
    have := b.len
    rw [List.length_take] at this
    omega)
  rw [h] at e
  exact e
end
abbrev sg (q : Lq) (z2 z3 z6 z7 z8 z9 z10 z11 z12 : Option V) : L2.St := [some (.ref q.a), some (.ref q.row), z2, z3, some (.ref q.p), some (.ref q.du), z6, z7, z8, z9, z10, z11, z12]
section
variable {P : Program} {w : World} {K : PySem.W.Frag} {mg : Str → Option Value} {base : Heap}
variable {f : Addr} {cT PT : Addr} {A : Around} {outer : List Env} {s : Shared} {H0 : Hp} {E : XK}
theorem up_let (T : Tx K mg) : FnR P w K mg base (L2.CX P w) 5 T.a_let_pass (spLet T.C T.tC) := (((fn_up (ok_let T)).raw T.b_let_pass .nil).imp fun vs H Q E h => by
  rw [List.append_nil]
  exact h)
/-- the lambda: one entry of the torn ones is put by another, one of these -/
def L1R (K : PySem.W.Frag) (C C5 : Addr) (E' : XK) : TE := fun σ H Q => ∃ (row a p tl bl : Addr) (ns : List Int) (k : Nat) (xs bad : List V), σ[1]? = some (some (.ref row)) ∧ σ[4]? = some (some (.ref p)) ∧ σ[6]? = some (some (.ref tl)) ∧ σ[8]? = some (some (.int (k : Int))) ∧ σ[9]? = some (some (.ref bl)) ∧
  RowAt K H row a ns ∧ H tl = some (.lst xs) ∧ H bl = some (.lst bad) ∧ tl ≠ row ∧ bl ≠ row ∧ k < xs.length ∧ xs.length ≤ 40 ∧ bad.length = 6 ∧
  ∀ (H' : Hp) (M : Addr) (v : V), v ∈ bad → RowAt K H' row a ns → Kp row H H' → H' M = some (.lst (xs.take k ++ [v] ++ xs.drop (k + 1))) → spMd K C C5 [.ref p, .ref M] H' Q E'
section
variable {A' : Around} {outer' : List Env} {s' : Shared} {H' : Hp} {E' : XK} {f' c' : Addr}
theorem h1 (T : Tx K mg) {S : RdS K mg} (E4 : RxE K mg "InvalidNumber" S.k1) (B : RdF S) (hr : Room 10 (A'.deeper (lamEnv (XL P w K mg base f (.ref cT) A outer s H0 E) (lpS le1) s'.heap.objs.size f' c'))) : PE (lamCx (XL P w K mg base f (.ref cT) A outer s H0 E) A' outer' s' H' E' (lpS le1) f' c') (lpB le1) (L1R K T.C S.k5 E') := by
  have go : PE (lamCx (XL P w K mg base f (.ref cT) A outer s H0 E) A' outer' s' H' E' (lpS le1) f' c') (lpB le1) _ := (pe_call (E := E') (ok_md T E4 B) hr (by rfl) T.g_mended T.F_mended.kp T.b_mended .nil (passes_call (takes_of rfl rfl rfl rfl) (fun _ _ _ _ z => z))
    (pa_cons (pv 4) (pa_cons (pe_op op_cat (pe_op op_cat (pe_slice sl_list (pv 6) po_none (po_some (pv 8))) (pe_lst (pa_cons (pe_ix ix_list (pv 9) (pe_call (ok_taken T) (hr.mono (by decide : 1 ≤ 10)) (by rfl) T.g_ltaken T.F_ltaken.kp T.b_ltaken .nil pass0 (pa_cons (pv 1) (pa_cons pe_int pa_nil))) (fun _ _ => rfl)) pa_nil))) (pe_slice sl_list (pv 6) (po_some (pe_op op_add (pv 8) pe_int)) po_none)) pa_nil)))
  refine ⟨fun pins s σ H Q I h => go.run pins s σ H Q I ?_⟩
  obtain ⟨row, a, p, tl, bl, ns, k, xs, bad, e1, e4, e6, e8, e9, RA, htl, hbl, n1, n2, hk, h40, h6, sp⟩ := h
  refine ⟨_, e4, _, e6, _, e8, _, rfl, tl, xs, rfl, .of htl, fun m1 hm1 => ?_⟩
  rw [cut_toA]
  have s1 := same_upd (o := .lst (xs.take k)) hm1
  have g1 : (upd H m1 (.lst (xs.take k))) m1 = some (.lst (xs.take k)) := upd_same
  have RA1 := RA.same s1
  have nm1 := RA.nn hm1
  have htl1 := s1 _ _ htl
  have hbl1 := s1 _ _ hbl
  have k1 : Kp row H (upd H m1 (.lst (xs.take k))) := Same.kp s1
  generalize (upd H m1 (.lst (xs.take k))) = H1 at s1 g1 RA1 htl1 hbl1 k1 ⊢
  refine ⟨_, e9, _, e1, row, a, ns, 6, rfl, RA1, by decide, by decide, fun v H2 v0 v1 RA2 k2 => ?_⟩
  have htl2 := k2 _ _ htl1 n1
  have hbl2 := k2 _ _ hbl1 n2
  have g2 := k2 _ _ g1 nm1
  obtain ⟨x, hx⟩ : ∃ x, bad[v.toNat]? = some x := ⟨_, List.getElem?_eq_getElem (by omega)⟩
  have hx' : atI bad v = some x := by
    have := atI_nat hx
    rwa [show ((v.toNat : Nat) : Int) = v by omega] at this
  refine ⟨bl, bad, _, x, rfl, rfl, .of hbl2, hx', (by show 1 ≤ sizeLine; decide), fun m2 hm2 => ?_⟩
  have s3 := same_upd (o := .lst [x]) hm2
  have g3 : (upd H2 m2 (.lst [x])) m2 = some (.lst [x]) := upd_same
  have g13 := s3 _ _ g2
  have htl3 := s3 _ _ htl2
  have RA3 := RA2.same s3
  have k3 : Kp row H (upd H2 m2 (.lst [x])) := (k1.trans k2).trans (Same.kp s3)
  generalize (upd H2 m2 (.lst [x])) = H3 at s3 g3 g13 htl3 RA3 k3 ⊢
  have lt : (xs.take k).length ≤ 40 := by rw [List.length_take]; omega
  refine ⟨m1, m2, _, _, rfl, rfl, g13, g3, Nat.le_of_lt (small1000 (by show _ + 1 ≤ 1000; omega)), fun m3 hm3 => ?_⟩
  have s4 := same_upd (o := .lst (xs.take k ++ [x])) hm3
  have g4 : (upd H3 m3 (.lst (xs.take k ++ [x]))) m3 = some (.lst (xs.take k ++ [x])) := upd_same
  have htl4 := s4 _ _ htl3
  have RA4 := RA3.same s4
  have k4 : Kp row H (upd H3 m3 (.lst (xs.take k ++ [x]))) := k3.trans (Same.kp s4)
  generalize (upd H3 m3 (.lst (xs.take k ++ [x]))) = H4 at s4 g4 htl4 RA4 k4 ⊢
  refine ⟨_, e6, _, e8, _, _, rfl, rfl, _, rfl, tl, xs, rfl, .of htl4, fun m5 hm5 => ?_⟩
  rw [show ((k : Int) + 1) = (((k + 1 : Nat)) : Int) by omega, cut_from xs (by omega)]
  have s5 := same_upd (o := .lst (xs.drop (k + 1))) hm5
  have g5 : (upd H4 m5 (.lst (xs.drop (k + 1)))) m5 = some (.lst (xs.drop (k + 1))) := upd_same
  have g45 := s5 _ _ g4
  have RA5 := RA4.same s5
  have k5 : Kp row H (upd H4 m5 (.lst (xs.drop (k + 1)))) := k4.trans (Same.kp s5)
  generalize (upd H4 m5 (.lst (xs.drop (k + 1)))) = H5 at s5 g5 g45 RA5 k5 ⊢
  refine ⟨m3, m5, _, _, rfl, rfl, g45, g5, Nat.le_of_lt (small1000 (by rw [List.length_append, List.length_drop]; show _ + 1 + _ ≤ 1000; omega)), fun m6 hm6 => ?_⟩
  have s6 := same_upd (o := .lst (xs.take k ++ [x] ++ xs.drop (k + 1))) hm6
  exact sp _ m6 x (List.mem_of_getElem? hx) (RA5.same s6) (k5.trans (Same.kp s6)) upd_same
end
end
end Rp
namespace Rp
open PySem PySem.Spec PyProof.Rows L2 Rz Rm Rt Rl LamX
section
variable {P : Program} {w : World} {K : PySem.W.Frag} {mg : Str → Option Value} {base : Heap}
variable {f : Addr} {cT PT : Addr} {A : Around} {outer : List Env} {s : Shared} {H0 : Hp} {E : XK}
theorem y_b3 (T : Tx K mg) (Y : Ax w T) {S : RdS K mg} (E4 : RxE K mg "InvalidNumber" S.k1) (B : RdF S) (TB : TabB base mg cT PT) (hr : Room 13 (A.deeper (envOfC "law" (defScope s_law) s.heap.objs.size f (.ref cT)))) : ∃ tt, PS (XL P w K mg base f (.ref cT) A outer s H0 E) (bs 3) tt ∧ ∀ (D : Ends) (H : Hp) (z5 z6 z7 z8 z9 z10 z11 z12 : Option V) (a row t p dx td ts : Addr) (ns ds ss : List Int) (cnt : Nat), RowAt K H row a ns → Tabs [(PT, (XL P w K mg base f (.ref cT) A outer s H0 E).env.qual ++ "<lambda>")] H → RingAt T.C H p dx td ts ds ss → H t = some (.tup [.ref td, .ref ts]) → cnt ≤ 40 → (∀ H' q z3, LD K T.C [(PT, (XL P w K mg base f (.ref cT) A outer s H0 E).env.qual ++ "<lambda>")] H' q → D.nx (sg q (some (.ref t)) z3 z6 z7 z8 z9 z10 z11 z12) H') → tt D [some (.ref a), some (.ref row), some (.ref t), some (.int (cnt : Int)), some (.ref p), z5, z6, z7, z8, z9, z10, z11, z12] H := by
  have nd := sc_law.nd
  refine ⟨_, ps_set (i := 5) nd rfl (.inl rfl) (pe_slice sl_list (pe_call (ok_diD T) (hr.mono (by decide : 4 ≤ 13)) (by rfl) T.g_ldiary T.F_ldiary.kp T.b_ldiary .nil pass0 (pa_cons (pv 2) (pa_cons pe_int pa_nil))) po_none (po_some (pv 3))), ?_⟩
  rintro D H z5 z6 z7 z8 z9 z10 z11 z12 a row t p dx td ts ns ds ss cnt RA tb R ht hc nx
  obtain ⟨M, hM, hMu⟩ := R.ok.max
  have RR := R.ok.ring hM hMu
  refine ⟨_, rfl, t, td, ts, ds, ss, 200, rfl, ht, R.td, R.ts, R.ok, by decide, fun H1 le xs s1 hle gl TT => ⟨_, rfl, _, rfl, le, xs, rfl, .of gl, fun du hdu => ?_⟩⟩
  rw [cut_toA]
  rw [dyL_pre RR R.ok.ls] at TT
  have s2 := same_upd (o := .lst (xs.take cnt)) hdu
  have s12 := s1.trans s2
  have T2 : Tups (upd H1 du (.lst (xs.take cnt))) (xs.take cnt) ((Pre ds ss 200 0).take cnt) := (tups_take cnt TT).mono fun _ _ h => s2 _ _ h
  have ln := T2.length
  refine nx _ ⟨a, row, p, dx, td, ts, du, ns, ds, ss, xs.take cnt, (xs.take cnt).length⟩ _ ⟨RA.same s12, tb.ext s12, R.same s12, upd_same, ?_, RA.nn (same_noneT s1 hdu), rfl, ?_⟩
  · show Tups _ _ ((Pre ds ss 200 0).take (xs.take cnt).length)
    rw [ln, List.length_take]
    have e : (Pre ds ss 200 0).take (min cnt (Pre ds ss 200 0).length) = (Pre ds ss 200 0).take cnt := by
      by_cases h : cnt ≤ (Pre ds ss 200 0).length
      · rw [Nat.min_eq_left h]
      · rw [List.take_of_length_le (by omega), List.take_of_length_le (by omega)]
    rw [e]
    exact T2
  · show (xs.take cnt).length ≤ 40
    rw [List.length_take]
    omega
theorem y_b4 (T : Tx K mg) (Y : Ax w T) {S : RdS K mg} (E4 : RxE K mg "InvalidNumber" S.k1) (B : RdF S) (TB : TabB base mg cT PT) (hr : Room 13 (A.deeper (envOfC "law" (defScope s_law) s.heap.objs.size f (.ref cT)))) : ∃ t, PS (XL P w K mg base f (.ref cT) A outer s H0 E) (bs 4) t ∧ ∀ (D : Ends) (H : Hp) (q : Lq) (z2 z3 z6 z7 z8 z9 z10 z11 z12 : Option V), LD K T.C [(PT, (XL P w K mg base f (.ref cT) A outer s H0 E).env.qual ++ "<lambda>")] H q → D.nx (sg q z2 (some (.int (q.n : Int))) z6 z7 z8 z9 z10 z11 z12) H → t D (sg q z2 z3 z6 z7 z8 z9 z10 z11 z12) H := by
  have nd := sc_law.nd
  refine ⟨_, ps_set (i := 3) nd rfl (.inl rfl) (pe_callB call_len_seq (by rfl) T.z_len PySem.boot_len (pa_cons (pv 5) pa_nil)), ?_⟩
  rintro D H q z2 z3 z6 z7 z8 z9 z10 z11 z12 b nx
  refine ⟨_, rfl, q.du, _, rfl, .inl (.of b.en), ?_⟩
  rw [b.ln]
  exact nx
theorem y_b5 (T : Tx K mg) (Y : Ax w T) {S : RdS K mg} (E4 : RxE K mg "InvalidNumber" S.k1) (B : RdF S) (TB : TabB base mg cT PT) (hr : Room 13 (A.deeper (envOfC "law" (defScope s_law) s.heap.objs.size f (.ref cT)))) : ∃ t, PS (XL P w K mg base f (.ref cT) A outer s H0 E) (bs 5) t ∧ ∀ (D : Ends) (H : Hp) (q : Lq) (z2 z3 z6 z7 z8 z9 z10 z11 z12 : Option V), z3 = some (.int (q.n : Int)) → LD K T.C [(PT, (XL P w K mg base f (.ref cT) A outer s H0 E).env.qual ++ "<lambda>")] H q → (∀ H', LD K T.C [(PT, (XL P w K mg base f (.ref cT) A outer s H0 E).env.qual ++ "<lambda>")] H' q → D.nx (sg q z2 z3 z6 z7 z8 z9 z10 z11 z12) H') → t D (sg q z2 z3 z6 z7 z8 z9 z10 z11 z12) H := by
  have nd := sc_law.nd
  refine ⟨_, ps_if (pt_cmpR (op_neD hr.units) (pe_listG (pgen_call (E := E0) (ok_dia T E4) (hr.mono (by decide : 6 ≤ 13)) (by rfl) T.g_diary_of T.F_diary_of.kp T.b_diary_of .nil (pa_cons (pv 4) (pa_cons (pv 3) pa_nil))) pass0G (fun _ _ _ h => h.elim) (hr.mono (by decide : 9 ≤ 13)) (by rfl) T.z_list (by decide +kernel)) (pv 5) (nomark _)) (pss_one (ps_ret pe_bl)) pss_nil, ?_⟩
  rintro D H q z2 z3 z6 z7 z8 z9 z10 z11 z12 rfl b nx
  refine ⟨_, rfl, _, rfl, q.p, q.dx, q.td, q.ts, q.ds, q.ss, _, rfl, b.R, .inl ⟨q.n, rfl, by have := b.hi; omega, fun ys H1 D k hk hl s1 T1 l hl0 => ?_⟩⟩
  have s2 := same_upd (o := .lst ys) hl0
  have b2 := (b.same s1).same s2
  have e := b.pre hk hl
  rw [e] at T1
  refine ⟨_, rfl, .list _, .list _, .lst (.of upd_same) (Tups.data (T1.mono fun _ _ h => s2 _ _ h)), .lst (.of b2.en) (Tups.data b2.ee), shaped_tups _, shaped_tups _, _, rfl, iteEqv (SeqAt.eqv_refl _ (SeqAt.canLay_of_shaped (shaped_tups _))) (nx _ b2)⟩
theorem y_b6 (T : Tx K mg) (Y : Ax w T) {S : RdS K mg} (E4 : RxE K mg "InvalidNumber" S.k1) (B : RdF S) (TB : TabB base mg cT PT) (hr : Room 13 (A.deeper (envOfC "law" (defScope s_law) s.heap.objs.size f (.ref cT)))) : ∃ t, PS (XL P w K mg base f (.ref cT) A outer s H0 E) (bs 6) t ∧ ∀ (D : Ends) (H : Hp) (q : Lq) (z2 z3 z6 z7 z8 z9 z10 z11 z12 : Option V), LD K T.C [(PT, (XL P w K mg base f (.ref cT) A outer s H0 E).env.qual ++ "<lambda>")] H q → (∀ H' tl, LD K T.C [(PT, (XL P w K mg base f (.ref cT) A outer s H0 E).env.qual ++ "<lambda>")] H' q → H' tl = some (.lst []) → tl ≠ q.row → (tl ≠ q.a ∨ Wr K q.a (q.ns.map V.int)) → q.du ≠ tl → D.nx (sg q z2 z3 (some (.ref tl)) z7 z8 z9 z10 z11 z12) H') → t D (sg q z2 z3 z6 z7 z8 z9 z10 z11 z12) H := by
  have nd := sc_law.nd
  refine ⟨_, ps_set (i := 6) nd rfl (.inr rfl) (pe_lst pa_nil), ?_⟩
  rintro D H q z2 z3 z6 z7 z8 z9 z10 z11 z12 b nx
  refine ⟨Nat.zero_le _, fun tl htl => ?_⟩
  have s1 := same_upd (o := .lst []) htl
  exact nx _ tl (b.same s1) upd_same (b.RA.nn htl) (far_of b.RA.sc htl) (ne_of_none b.en htl)
end
end Rp
namespace Rp
open PySem PySem.Spec PyProof.Rows L2 Rz Rm Rt Rl LamX
/-- the torn entries -/
structure TN (H : Hp) (q : Lq) (tl : Addr) (zs : List V) : Prop where
  g : H tl = some (.lst zs)
  ne : tl ≠ q.row
  lz : zs.length = q.n
  cv : ∀ (i : Nat) (x : V) (l : List Int), zs[i]? = some x → ((Pre q.ds q.ss 200 0).take q.n)[i]? = some l → CanV H x l true
theorem TN.same {H H' : Hp} {q : Lq} {tl : Addr} {zs : List V} (b : TN H q tl zs) (s : Same H H') : TN H' q tl zs := ⟨s _ _ b.g, b.ne, b.lz, fun i x l h1 h2 => (b.cv i x l h1 h2).same s⟩
theorem TN.extN {H H' : Hp} {q : Lq} {tl : Addr} {zs : List V} (b : TN H q tl zs) (s : ExtN H H') : TN H' q tl zs := ⟨s _ _ b.g (by intro ps z; cases z), b.ne, b.lz, fun i x l h1 h2 => (b.cv i x l h1 h2).extN s⟩
theorem TN.kp {K : PySem.W.Frag} {H H' : Hp} {q : Lq} {tl : Addr} {zs : List V} (b : TN H q tl zs) (R : RowAt K H q.row q.a q.ns) (R' : RowAt K H' q.row q.a q.ns) (k : Kp q.row H H') : TN H' q tl zs := ⟨k _ _ b.g b.ne, b.ne, b.lz, fun i x l h1 h2 => (b.cv i x l h1 h2).kp R R' k⟩
theorem set_cut {α : Type} : ∀ (l : List α) {k : Nat} (v : α), k < l.length → l.take k ++ [v] ++ l.drop (k + 1) = l.set k v
  | [], k, v, h => absurd h (Nat.not_lt_zero _)
  | x :: r, 0, v, h => rfl
  | x :: r, k + 1, v, h => by
    have := set_cut r v (Nat.lt_of_succ_lt_succ h)
    simp only [List.take_succ_cons, List.cons_append, List.drop_succ_cons, List.set_cons_succ]
    rw [← this]
section
variable {P : Program} {w : World} {K : PySem.W.Frag} {mg : Str → Option Value} {base : Heap}
variable {f : Addr} {cT PT : Addr} {A : Around} {outer : List Env} {s : Shared} {H0 : Hp} {E : XK}
theorem y_b7 (T : Tx K mg) (Y : Ax w T) {S : RdS K mg} (E4 : RxE K mg "InvalidNumber" S.k1) (B : RdF S) (TB : TabB base mg cT PT) (hr : Room 13 (A.deeper (envOfC "law" (defScope s_law) s.heap.objs.size f (.ref cT)))) : ∃ t, PS (XL P w K mg base f (.ref cT) A outer s H0 E) (bs 7) t ∧ ∀ (D : Ends) (H : Hp) (q : Lq) (z2 z3 z6 z7 z8 z9 z10 z11 z12 : Option V) (tl : Addr), z6 = some (.ref tl) → LD K T.C [(PT, (XL P w K mg base f (.ref cT) A outer s H0 E).env.qual ++ "<lambda>")] H q → H tl = some (.lst []) → tl ≠ q.row → (tl ≠ q.a ∨ Wr K q.a (q.ns.map V.int)) → q.du ≠ tl → (∀ H' zs z7, LD K T.C [(PT, (XL P w K mg base f (.ref cT) A outer s H0 E).env.qual ++ "<lambda>")] H' q → TN H' q tl zs → D.nx (sg q z2 z3 z6 z7 z8 z9 z10 z11 z12) H') → t D (sg q z2 z3 z6 z7 z8 z9 z10 z11 z12) H := by
  have nd := sc_law.nd
  refine ⟨_, ps_for PassesOwn.never rfl (pi_list (pv 5)) (pg_name (i := 7) nd rfl (.inl rfl)) (pss_one (ps_expr (pe_bm PySem.F.plainAttrs_list PySem.F.slot_list_append PySem.F.type_list_append mt_append (pv 6) (pa_cons (pe_callTy call_tuple_of (by rfl) T.z_tuple (by decide +kernel) (pa_cons (pe_lc (own := [("_law_part", 12)]) rfl nd (pi_tup (pv 7)) (blkOk_by (N := N_law) (sc := defScope s_law) (by decide +kernel)) (fun _ _ _ _ _ => pg_name (i := 12) nd rfl (.inl rfl)) (fun _ _ _ _ _ => pts_nil) (fun _ _ _ _ _ => pe_ifExp (pt_cmpR op_eq (pe_call (ok_taken T) (hr.mono (by decide : 1 ≤ 13)) (by rfl) T.g_ltaken T.F_ltaken.kp T.b_ltaken .nil pass0 (pa_cons (pv 1) (pa_cons pe_int pa_nil))) pe_int (nomark _)) pe_non (pv 12))) pa_nil)) pa_nil)))), ?_⟩
  rintro D H q z2 z3 z6 z7 z8 z9 z10 z11 z12 tl rfl b gt0 nT fT dT nx
  refine ⟨_, rfl, q.du, rfl, ⟨_, .of b.en⟩, for_list (K := K) (a := q.du) (xs := q.xs) (fun i σ H' => (∃ z7, σ = sg q z2 z3 (some (.ref tl)) z7 z8 z9 z10 z11 z12) ∧ LD K T.C [(PT, (XL P w K mg base f (.ref cT) A outer s H0 E).env.qual ++ "<lambda>")] H' q ∧ ∃ zs, H' tl = some (.lst zs) ∧ zs.length = i ∧ ∀ (j : Nat) (x : V) (l : List Int), zs[j]? = some x → ((Pre q.ds q.ss 200 0).take q.n)[j]? = some l → CanV H' x l true)
    ⟨⟨z7, rfl⟩, b, [], gt0, rfl, fun j x l h => by simp at h⟩ (fun i σ H' _ p => .of p.2.1.en) ?_ ?_⟩
  · rintro i x σ H2 hx ⟨⟨z7, rfl⟩, b2, zs, gz, lz, hz⟩
    have li : i < q.xs.length := (List.getElem?_eq_some_iff.mp hx).1
    have l40 : i < 40 := by have := b2.ln; have := b2.hi; omega
    obtain ⟨l, hl⟩ : ∃ l, ((Pre q.ds q.ss 200 0).take q.n)[i]? = some l := ⟨_, List.getElem?_eq_getElem (by rw [← b2.ee.length]; exact li)⟩
    obtain ⟨t, e1, ht⟩ := b2.ee.get hl
    rw [hx] at e1
    cases e1
    have ll := pre_len (List.mem_of_mem_take (List.mem_of_getElem? hl))
    have RA2 := b2.RA
    show tDrop _ _ (sg q z2 z3 (some (.ref tl)) (some (.ref t)) z8 z9 z10 z11 z12) H2
    refine ⟨_, rfl, .inl ⟨rfl, _, SqL.of gz⟩, _, rfl, t, rfl, ⟨_, .of ht⟩, fun D hD => lc_tup (K := K) (a := t) (xs := l.map V.int) (fun j H' => RowAt K H' q.row q.a q.ns ∧ Kp q.row H2 H' ∧ ∃ ws, H' D = some (.lst ws) ∧ ws.length = j ∧ ∀ (m : Nat) (x : V), ws[m]? = some x → ItV x ∧ ∀ z, l[m]? = some z → okI x z = true)
      ⟨RA2.same (same_upd hD), Same.kp (same_upd hD), [], upd_same, rfl, fun m x h => by simp at h⟩ (fun j H' _ p => .of (RA2.tups p.2.1 _ _ ht)) ?_ ?_⟩
    · rintro j y H3 hy ⟨RA3, k3, ws, gw, lw, hw⟩
      obtain ⟨z, hz1, rfl⟩ := get_int hy
      have lj : j < l.length := (List.getElem?_eq_some_iff.mp hz1).1
      have nD := RA2.nn hD
      have fD := far_of RA2.sc hD
      refine ⟨rfl, lc_keep ?_⟩
      refine ⟨_, rfl, q.row, q.a, q.ns, _, rfl, RA3, by decide, by decide, fun v H4 v0 v1 RA4 k4 => ?_⟩
      have nxt : ∀ u : V, ItV u → okI u z = true → ∃ acc, H4 D = some (.lst acc) ∧ acc.length < sizeLine ∧ (RowAt K (upd H4 D (.lst (acc ++ [u]))) q.row q.a q.ns ∧ Kp q.row H2 (upd H4 D (.lst (acc ++ [u]))) ∧ ∃ ws, (upd H4 D (.lst (acc ++ [u]))) D = some (.lst ws) ∧ ws.length = j + 1 ∧ ∀ (m : Nat) (x : V), ws[m]? = some x → ItV x ∧ ∀ z, l[m]? = some z → okI x z = true) := fun u hu ok => by
        refine ⟨ws, k4 _ _ gw nD, small1000 (by omega), RA4.upd' nD fD, kp_new (k3.trans k4) hD, ws ++ [u], upd_same, by rw [List.length_append, lw]; rfl, fun m x h => ?_⟩
        rcases get_snoc h with h | ⟨rfl, rfl⟩
        · exact hw m x h
        · refine ⟨hu, fun z' hz' => ?_⟩
          rw [lw, hz1] at hz'
          cases hz'
          exact ok
      refine ⟨rfl, _, rfl, ?_⟩
      by_cases hv : v = 0
      · subst hv
        exact iteT (nxt .non (.inl rfl) rfl)
      · rw [decide_eq_false (show ¬ V.int v = V.int 0 from fun y => hv (V.int.inj y))]
        exact iteF ⟨_, rfl, nxt (.int z) (.inr (.inl ⟨z, rfl⟩)) (decide_eq_true rfl)⟩
    · rintro H3 ⟨RA3, k3, ws, gw, lw, hw⟩
      rw [List.length_map] at lw
      refine ⟨D, _, rfl, .inl ⟨.of gw, fun t2 ht2 => ?_⟩⟩
      have s4 := same_upd (o := .tup ws) ht2
      have g4 : (upd H3 t2 (.tup ws)) t2 = some (.tup ws) := upd_same
      have RA4 := RA3.same s4
      have k24 := k3.trans (Same.kp s4)
      generalize (upd H3 t2 (.tup ws)) = H4 at s4 g4 RA4 k24 ⊢
      have gz4 := k24 _ _ gz nT
      have b4 := b2.kp k24 RA4
      have up : ∀ b ys, H4 b = some (.tup ys) → (upd H4 tl (.lst (zs ++ [V.ref t2]))) b = some (.tup ys) := fun b ys h => by
        rw [upd_ne (ne_of h gz4 (by intro z; cases z))]
        exact h
      refine ⟨tl, _, _, rfl, rfl, gz4, small1000 (by omega), ⟨_, rfl⟩, b4.upd gz4 nT fT dT, zs ++ [V.ref t2], upd_same, by rw [List.length_append, lz]; rfl, fun j x l' h hl' => ?_⟩
      rcases get_snoc h with h | ⟨rfl, rfl⟩
      · exact ((hz j x l' h hl').tups (RA2.tups k24)).tups up
      · rw [lz, hl] at hl'
        cases hl'
        refine .inl ⟨t2, ws, rfl, up _ _ g4, fun x hx => ?_, by omega, (canT_of lw fun m x z h1 h2 => (hw m x h1).2 z h2).symm⟩
        obtain ⟨m, hm⟩ := List.getElem?_of_mem hx
        exact (hw m x hm).1
  · rintro σ H2 ⟨⟨z7, rfl⟩, b2, zs, gz, lz, hz⟩
    exact nx H2 zs z7 b2 ⟨gz, nT, lz.trans b2.ln, hz⟩
theorem y_b8 (T : Tx K mg) (Y : Ax w T) {S : RdS K mg} (E4 : RxE K mg "InvalidNumber" S.k1) (B : RdF S) (TB : TabB base mg cT PT) (hr : Room 13 (A.deeper (envOfC "law" (defScope s_law) s.heap.objs.size f (.ref cT)))) : ∃ t, PS (XL P w K mg base f (.ref cT) A outer s H0 E) (bs 8) t ∧ ∀ (D : Ends) (H : Hp) (q : Lq) (z2 z3 z6 z7 z8 z9 z10 z11 z12 : Option V) (tl : Addr) (zs : List V), z6 = some (.ref tl) → LD K T.C [(PT, (XL P w K mg base f (.ref cT) A outer s H0 E).env.qual ++ "<lambda>")] H q → TN H q tl zs → (∀ H', LD K T.C [(PT, (XL P w K mg base f (.ref cT) A outer s H0 E).env.qual ++ "<lambda>")] H' q → TN H' q tl zs → D.nx (sg q z2 z3 z6 z7 z8 z9 z10 z11 z12) H') → t D (sg q z2 z3 z6 z7 z8 z9 z10 z11 z12) H := by
  have nd := sc_law.nd
  refine ⟨_, ps_if (pt_cmpR (op_neD hr.units) (pe_call (fn_calm (ok_md T E4 B)) (hr.mono (by decide : 10 ≤ 13)) (by rfl) T.g_mended T.F_mended.kp T.b_mended .nil pass0 (pa_cons (pv 4) (pa_cons (pv 6) pa_nil))) (pv 5) (nomark _)) (pss_one (ps_ret pe_bl)) pss_nil, ?_⟩
  rintro D H q z2 z3 z6 z7 z8 z9 z10 z11 z12 tl zs rfl b tn nx
  have hi := b.hi
  have lz := tn.lz
  refine ⟨_, rfl, _, rfl, q.p, q.dx, q.td, q.ts, q.ds, q.ss, .ref tl, rfl, b.R, .inr ⟨tl, zs, none, rfl, tn.g, by omega, fun D2 k2 hk2 hl2 => ⟨by omega, fun i x l hx hl => ?_⟩, (fun i e => by cases e), fun _ H5 M ys2 D2 k2 hk2 hl2 s5 hM hM5 T5 => ?_⟩⟩
  · rw [b.pre hk2 (by rw [hl2, lz]; omega)] at hl
    exact tn.cv i x l hx hl
  rw [b.pre hk2 (by rw [hl2, lz])] at T5
  have b5 := b.same s5
  refine ⟨_, rfl, .list _, .list _, .lst (.of hM5) (Tups.data T5), .lst (.of b5.en) (Tups.data b5.ee), shaped_tups _, shaped_tups _, _, rfl, iteEqv (SeqAt.eqv_refl _ (SeqAt.canLay_of_shaped (shaped_tups _))) (nx _ b5 (tn.same s5))⟩
theorem y_f90 (T : Tx K mg) (Y : Ax w T) {S : RdS K mg} (E4 : RxE K mg "InvalidNumber" S.k1) (B : RdF S) (TB : TabB base mg cT PT) (hr : Room 13 (A.deeper (envOfC "law" (defScope s_law) s.heap.objs.size f (.ref cT)))) : ∃ t, PS (XL P w K mg base f (.ref cT) A outer s H0 E) (fl 9 0) t ∧ ∀ (D : Ends) (H : Hp) (q : Lq) (z2 z3 z6 z7 z8 z9 z10 z11 z12 : Option V) (tl : Addr) (zs : List V), z3 = some (.int (q.n : Int)) → 0 < q.n → LD K T.C [(PT, (XL P w K mg base f (.ref cT) A outer s H0 E).env.qual ++ "<lambda>")] H q → TN H q tl zs → (∀ H' (k : Nat), k < q.n → LD K T.C [(PT, (XL P w K mg base f (.ref cT) A outer s H0 E).env.qual ++ "<lambda>")] H' q → TN H' q tl zs → D.nx (sg q z2 z3 z6 z7 (some (.int (k : Int))) z9 z10 z11 z12) H') → t D (sg q z2 z3 z6 z7 z8 z9 z10 z11 z12) H := by
  have nd := sc_law.nd
  refine ⟨_, ps_set (i := 8) nd rfl (.inr rfl) (pe_call (ok_taken T) (hr.mono (by decide : 1 ≤ 13)) (by rfl) T.g_ltaken T.F_ltaken.kp T.b_ltaken .nil pass0 (pa_cons (pv 1) (pa_cons (pv 3) pa_nil))), ?_⟩
  rintro D H q z2 z3 z6 z7 z8 z9 z10 z11 z12 tl zs rfl h0 b tn nx
  have hi := b.hi
  refine ⟨_, rfl, _, rfl, q.row, q.a, q.ns, _, rfl, b.RA, by omega, by omega, fun v H4 v0 v1 RA4 k4 => ?_⟩
  obtain ⟨k, rfl⟩ : ∃ n : Nat, v = (n : Int) := ⟨v.toNat, by omega⟩
  exact nx _ k (by omega) (b.kp k4 RA4) (tn.kp b.RA RA4 k4)
theorem y_f91 (T : Tx K mg) (Y : Ax w T) {S : RdS K mg} (E4 : RxE K mg "InvalidNumber" S.k1) (B : RdF S) (TB : TabB base mg cT PT) (hr : Room 13 (A.deeper (envOfC "law" (defScope s_law) s.heap.objs.size f (.ref cT)))) : ∃ t, PS (XL P w K mg base f (.ref cT) A outer s H0 E) (fl 9 1) t ∧ ∀ (D : Ends) (H : Hp) (q : Lq) (z2 z3 z6 z7 z8 z9 z10 z11 z12 : Option V) (k : Nat), z8 = some (.int (k : Int)) → k < q.n → LD K T.C [(PT, (XL P w K mg base f (.ref cT) A outer s H0 E).env.qual ++ "<lambda>")] H q → (∀ H' bl bad, Same H H' → H bl = none → H' bl = some (.lst bad) → bad.length = 6 → (∀ v ∈ bad, ∀ l, ((Pre q.ds q.ss 200 0).take q.n)[k]? = some l → CanV H' v l false) → D.nx (sg q z2 z3 z6 z7 z8 (some (.ref bl)) z10 z11 z12) H') → t D (sg q z2 z3 z6 z7 z8 z9 z10 z11 z12) H := by
  have nd := sc_law.nd
  refine ⟨_, ps_set (i := 9) nd rfl (.inr rfl) (pe_lst (pa_cons (pe_slice sl_tupA (pe_ix ix_list (pv 5) (pv 8) (fun _ _ => rfl)) po_none (po_some pe_int)) (pa_cons (pe_callTy (T := "list") call_list_of (by rfl) T.z_list (by decide +kernel) (pa_cons (pe_ix ix_list (pv 5) (pv 8) (fun _ _ => rfl)) pa_nil)) (pa_cons (pe_tup (pa_cons (pe_ix ix_tup (pe_ix ix_list (pv 5) (pv 8) (fun _ _ => rfl)) pe_int (fun _ _ => rfl)) (pa_cons (pe_ix ix_tup (pe_ix ix_list (pv 5) (pv 8) (fun _ _ => rfl)) pe_int (fun _ _ => rfl)) (pa_cons (pe_op op_add (pe_ix ix_tup (pe_ix ix_list (pv 5) (pv 8) (fun _ _ => rfl)) pe_int (fun _ _ => rfl)) pe_int) pa_nil)))) (pa_cons (pe_tup (pa_cons (pe_op op_add (pe_ix ix_tup (pe_ix ix_list (pv 5) (pv 8) (fun _ _ => rfl)) pe_int (fun _ _ => rfl)) pe_int) (pa_cons pe_non (pa_cons pe_non pa_nil)))) (pa_cons pe_int (pa_cons pe_non pa_nil))))))), ?_⟩
  rintro D H q z2 z3 z6 z7 z8 z9 z10 z11 z12 k rfl hk b nx
  obtain ⟨l, hl⟩ : ∃ l, ((Pre q.ds q.ss 200 0).take q.n)[k]? = some l := ⟨_, List.getElem?_eq_getElem (by rw [b.len]; exact hk)⟩
  obtain ⟨t, ex, ht⟩ := b.ee.get hl
  obtain ⟨dd, r, bb, rfl⟩ : ∃ d r b, l = [d, r, b] := by
    obtain ⟨d, r, bk, e, _⟩ := pre_three (List.mem_of_mem_take (List.mem_of_getElem? hl))
    exact ⟨d, r, bk, e⟩
  have hat : atI q.xs (k : Int) = some (.ref t) := atI_nat ex
  have en := b.en
  refine ⟨_, rfl, _, rfl, q.du, _, _, _, rfl, rfl, .of en, hat, _, rfl, sl_to (k := 2) ht (by decide) (by show (2 : Int) ≤ 3; decide) fun H1 t1 s1 g1 => ?_⟩
  have en1 := s1 _ _ en
  have ht1 := s1 _ _ ht
  refine ⟨_, rfl, _, rfl, q.du, _, _, _, rfl, rfl, .of en1, hat, t, _, rfl, .inr (.of ht1), fun t2 h2 => ?_⟩
  have s2 := same_upd (o := .lst ([dd, r, bb].map V.int)) h2
  have g2 : (upd H1 t2 (.lst ([dd, r, bb].map V.int))) t2 = some (.lst ([dd, r, bb].map V.int)) := upd_same
  have en2 := s2 _ _ en1
  have ht2 := s2 _ _ ht1
  have g12 := s2 _ _ g1
  have s02 := s1.trans s2
  generalize (upd H1 t2 (.lst ([dd, r, bb].map V.int))) = H2 at s2 g2 en2 ht2 g12 s02 ⊢
  refine ⟨_, rfl, _, rfl, q.du, _, _, _, rfl, rfl, .of en2, hat, t, _, 0, _, rfl, rfl, .of ht2, atI_nat (j := 0) rfl, _, rfl, _, rfl, q.du, _, _, _, rfl, rfl, .of en2, hat, t, _, 1, _, rfl, rfl, .of ht2, atI_nat (j := 1) rfl,
    _, rfl, _, rfl, q.du, _, _, _, rfl, rfl, .of en2, hat, t, _, 2, _, rfl, rfl, .of ht2, atI_nat (j := 2) rfl, _, _, rfl, rfl, (by show 3 ≤ sizeLine; decide), fun t3 h3 => ?_⟩
  have s3 := same_upd (o := .tup [.int dd, .int r, .int (bb + 1)]) h3
  have g3 : (upd H2 t3 (.tup [.int dd, .int r, .int (bb + 1)])) t3 = some (.tup [.int dd, .int r, .int (bb + 1)]) := upd_same
  have en3 := s3 _ _ en2
  have ht3 := s3 _ _ ht2
  have g13 := s3 _ _ g12
  have g23 := s3 _ _ g2
  have s03 := s02.trans s3
  show tCons _ _ _ (upd H2 t3 (.tup [.int dd, .int r, .int (bb + 1)])) _
  generalize (upd H2 t3 (.tup [.int dd, .int r, .int (bb + 1)])) = H3 at s3 g3 en3 ht3 g13 g23 s03 ⊢
  refine ⟨_, rfl, _, rfl, q.du, _, _, _, rfl, rfl, .of en3, hat, t, _, 0, _, rfl, rfl, .of ht3, atI_nat (j := 0) rfl, _, _, rfl, rfl, (by show 3 ≤ sizeLine; decide), fun t4 h4 => ?_⟩
  have s4 := same_upd (o := .tup [.int (dd + 1), .non, .non]) h4
  have g4 : (upd H3 t4 (.tup [.int (dd + 1), .non, .non])) t4 = some (.tup [.int (dd + 1), .non, .non]) := upd_same
  have g14 := s4 _ _ g13
  have g24 := s4 _ _ g23
  have g34 := s4 _ _ g3
  have s04 := s03.trans s4
  show tCons _ _ _ (upd H3 t4 (.tup [.int (dd + 1), .non, .non])) _
  generalize (upd H3 t4 (.tup [.int (dd + 1), .non, .non])) = H4 at s4 g4 g14 g24 g34 s04 ⊢
  refine ⟨(by show 6 ≤ sizeLine; decide), fun bl hbl => ?_⟩
  have s5 := same_upd (o := .lst [.ref t1, .ref t2, .ref t3, .ref t4, .int 5, .non]) hbl
  have s05 := s04.trans s5
  refine nx _ bl _ s05 (same_noneT s04 hbl) upd_same rfl fun v hv l' hl' => ?_
  rw [hl] at hl'
  cases hl'
  have e1 : ¬ bb + 1 = bb := by omega
  have e2 : ¬ dd + 1 = dd := by omega
  have it : ∀ {y : V}, (∃ i, y = .int i) ∨ y = .non → ItV y := fun h => h.elim (fun h => .inr (.inl h)) .inl
  simp only [List.mem_cons, List.not_mem_nil, or_false] at hv
  rcases hv with rfl | rfl | rfl | rfl | rfl | rfl
  · exact .inl ⟨t1, _, rfl, s5 _ _ g14, fun x hx => by
      have hx : x ∈ ([.int dd, .int r] : List V) := hx
      simp at hx
      rcases hx with rfl | rfl <;> exact it (.inl ⟨_, rfl⟩), by show 2 ≤ 10; decide, rfl⟩
  · exact .inr ⟨.inr (.inr ⟨t2, _, rfl, s5 _ _ g24⟩), rfl⟩
  · exact .inl ⟨t3, _, rfl, s5 _ _ g34, fun x hx => by
      simp at hx
      rcases hx with rfl | rfl | rfl <;> exact it (.inl ⟨_, rfl⟩), by show 3 ≤ 10; decide, by simp [canT, okI, sameI, e1]⟩
  · exact .inl ⟨t4, _, rfl, s5 _ _ g4, fun x hx => by
      simp at hx
      rcases hx with rfl | rfl
      · exact it (.inl ⟨_, rfl⟩)
      · exact it (.inr rfl), by show 3 ≤ 10; decide, by simp [canT, okI, sameI, e2]⟩
  · exact .inr ⟨.inr (.inl ⟨5, rfl⟩), rfl⟩
  · exact .inr ⟨.inl rfl, rfl⟩
theorem y_f92 (T : Tx K mg) (Y : Ax w T) {S : RdS K mg} (E4 : RxE K mg "InvalidNumber" S.k1) (B : RdF S) (TB : TabB base mg cT PT) (hr : Room 13 (A.deeper (envOfC "law" (defScope s_law) s.heap.objs.size f (.ref cT)))) : ∃ t, PS (XL P w K mg base f (.ref cT) A outer s H0 E) (fl 9 2) t ∧ ∀ (D : Ends) (H : Hp) (q : Lq) (z2 z3 z6 z7 z8 z9 z10 z11 z12 : Option V) (k : Nat) (tl bl : Addr) (zs bad : List V), z6 = some (.ref tl) → z8 = some (.int (k : Int)) → z9 = some (.ref bl) → k < q.n → LD K T.C [(PT, (XL P w K mg base f (.ref cT) A outer s H0 E).env.qual ++ "<lambda>")] H q → TN H q tl zs → H bl = some (.lst bad) → bl ≠ q.row → bad.length = 6 → (∀ v ∈ bad, ∀ l, ((Pre q.ds q.ss 200 0).take q.n)[k]? = some l → CanV H v l false) → (∀ H', LD K T.C [(PT, (XL P w K mg base f (.ref cT) A outer s H0 E).env.qual ++ "<lambda>")] H' q → D.nx (sg q z2 z3 z6 z7 z8 z9 z10 z11 z12) H') → t D (sg q z2 z3 z6 z7 z8 z9 z10 z11 z12) H := by
  have nd := sc_law.nd
  refine ⟨_, ps_if (pt_cmpR (op_neD hr.units) (pe_rs1 (X := XL P w K mg base f (.ref cT) A outer s H0 E) (k := 10) T B TB rfl (by rfl) (lamP_by (N := N_law) (sc := defScope s_law) (by decide +kernel)) rfl (fun _ _ _ _ _ _ _ => .of_eq rfl) (hr.mono (by decide : 12 ≤ 13)) (fun A' outer' s' H' E' f' c' hr => h1 T E4 B hr)) (pe_tup (pa_cons pe_str (pa_cons (pv 8) pa_nil))) (nomark _)) (pss_one (ps_ret pe_bl)) pss_nil, ?_⟩
  rintro D H q z2 z3 z6 z7 z8 z9 z10 z11 z12 k tl bl zs bad rfl rfl rfl hk b tn hbl nb h6 cv nx
  have hi := b.hi
  refine ⟨b.tb, fun H1 x1 t1 E' hE => ?_⟩
  have b1 := b.extN x1 t1
  have tn1 := tn.extN x1
  have lz := tn.lz
  refine ⟨q.row, q.a, q.p, tl, bl, q.ns, k, zs, bad, rfl, rfl, rfl, rfl, rfl, b1.RA, tn1.g, x1 _ _ hbl (by intro ps z; cases z), tn.ne, nb, by omega, by omega, h6, fun H2 M v hv RA2 k2 hM => ?_⟩
  have b2 := b1.kp k2 RA2
  have tn2 := tn1.kp b1.RA RA2 k2
  rw [set_cut zs v (by omega)] at hM
  have ls : (zs.set k v).length = q.n := by rw [List.length_set, lz]
  refine ⟨q.p, q.dx, q.td, q.ts, q.ds, q.ss, .ref M, rfl, b2.R, .inr ⟨M, _, some k, rfl, hM, by omega, fun D2 j2 hj2 hl2 => ?_, fun i ei dd H3 s3 hd => hE _ _ _ ⟨dd, .int (k : Int), rfl, rfl, ?_, fun p3 H4 k3 n3 h3 => ?_⟩, fun e => by cases e⟩⟩
  · rw [b2.pre hj2 (by rw [hl2, ls]; omega)]
    refine ⟨by omega, by omega, fun _ => ?_, fun j x l hj hx hl => ?_⟩
    · obtain ⟨l, hl⟩ : ∃ l, ((Pre q.ds q.ss 200 0).take q.n)[k]? = some l := ⟨_, List.getElem?_eq_getElem (by rw [b.len]; exact hk)⟩
      exact ⟨v, l, List.getElem?_set_self (by omega), hl, (((cv v hv l hl).extN x1).kp b1.RA RA2 k2)⟩
    · rw [List.getElem?_set_ne (by omega)] at hx
      exact tn2.cv j x l hx hl
  · cases ei
    exact hd
  refine ⟨_, rfl, (by show 2 ≤ sizeLine; decide), fun t4 h4 => ?_⟩
  have u4 := same_upd (o := .tup [.str "diary", .int (k : Int)]) h4
  exact ⟨_, _, .tup (.of (u4 _ _ h3)) (.cons (.str _) (.cons (.int _) .nil)), .tup (.of upd_same) (.cons (.str _) (.cons (.int _) .nil)), sh_diary _, sh_diary _, _, rfl, iteEqv (eq_diary _) (nx _ (((b2.same s3).same k3).same u4))⟩
end
end Rp
namespace Rp
open PySem PySem.Spec PyProof.Rows L2 Rz Rm Rt Rl LamX
/-- up to day 60 -/
def p60 (l : List Int) : Bool := decide (l.headD 0 ≤ 60)
theorem pre_suc (ds ss : List Int) (D : Nat) : Pre ds ss (D + 1) 0 = Pre ds ss D 0 ++ Ke ds ss (D : Int) := by
  rw [← pre_row]
  unfold Pre
  rw [kx_zero, List.map_nil, List.append_nil]
  rfl
theorem ke_head {ds ss : List Int} {D : Int} {l : List Int} (h : l ∈ Ke ds ss D) : l.headD 0 = D + 1 := by
  unfold Ke at h
  obtain ⟨k, _, rfl⟩ := List.mem_map.mp h
  rfl
theorem pre_low (ds ss : List Int) : ∀ (D : Nat) (l : List Int), l ∈ Pre ds ss D 0 → l.headD 0 ≤ D
  | 0, l, h => by cases h
  | D + 1, l, h => by
    rw [pre_suc] at h
    rcases List.mem_append.mp h with h | h
    · have := pre_low ds ss D l h
      omega
    · have := ke_head h
      omega
theorem pre_split (ds ss : List Int) (D : Nat) : ∀ n : Nat, ∃ B : List (List Int), Pre ds ss (D + n) 0 = Pre ds ss D 0 ++ B ∧ ∀ l ∈ B, (D : Int) < l.headD 0
  | 0 => ⟨[], (List.append_nil _).symm, fun l h => by cases h⟩
  | n + 1 => by
    obtain ⟨B, e, h⟩ := pre_split ds ss D n
    refine ⟨B ++ Ke ds ss ((D + n : Nat) : Int), by rw [show D + (n + 1) = (D + n) + 1 by omega, pre_suc, e, List.append_assoc], fun l hl => ?_⟩
    rcases List.mem_append.mp hl with hl | hl
    · exact h l hl
    · have := ke_head hl
      omega
theorem early_eq (ds ss : List Int) (n : Nat) : ((Pre ds ss 200 0).take n).filter p60 = (Pre ds ss 60 0).take n := by
  obtain ⟨B, e, h⟩ := pre_split ds ss 60 140
  rw [show Pre ds ss 200 0 = Pre ds ss (60 + 140) 0 from rfl, e, List.take_append, List.filter_append]
  have h1 : ((Pre ds ss 60 0).take n).filter p60 = (Pre ds ss 60 0).take n := List.filter_eq_self.mpr fun l hl => decide_eq_true (pre_low ds ss 60 l (List.mem_of_mem_take hl))
  have h2 : (B.take (n - (Pre ds ss 60 0).length)).filter p60 = [] := List.filter_eq_nil_iff.mpr fun l hl z => by
    have a := h l (List.mem_of_mem_take hl)
    have z : l.headD 0 ≤ 60 := of_decide_eq_true z
    omega
  rw [h1, h2, List.append_nil]
theorem take_self {α : Type} (l : List α) (n : Nat) : l.take (l.take n).length = l.take n := by
  rw [List.length_take]
  by_cases h : n ≤ l.length
  · rw [Nat.min_eq_left h]
  · rw [List.take_of_length_le (by omega), List.take_of_length_le (by omega)]
theorem kp_same {H H' : Hp} {x : Addr} {o : HO} (s : Same H H') (h : H x = none) : Same H (upd H' x o) := fun b u e => (upd_ne (ne_of_none e h)).trans (s b u e)
theorem iteEqT {d e : PyData} {A B : Prop} (hc : PyData.eqv d e = true) (h : A) : if PyData.eqv d e = true then A else B := by
  rw [hc]
  exact iteT h
section
variable {P : Program} {w : World} {K : PySem.W.Frag} {mg : Str → Option Value} {base : Heap}
variable {f : Addr} {cT PT : Addr} {A : Around} {outer : List Env} {s : Shared} {H0 : Hp} {E : XK}
theorem y_b10 (T : Tx K mg) (Y : Ax w T) {S : RdS K mg} (E4 : RxE K mg "InvalidNumber" S.k1) (B : RdF S) (TB : TabB base mg cT PT) (hr : Room 13 (A.deeper (envOfC "law" (defScope s_law) s.heap.objs.size f (.ref cT)))) : ∃ tm, PS (XL P w K mg base f (.ref cT) A outer s H0 E) (bs 10) tm ∧ ∀ (D : Ends) (H : Hp) (q : Lq) (z2 z3 z6 z7 z8 z9 z10 z11 z12 : Option V), LD K T.C [(PT, (XL P w K mg base f (.ref cT) A outer s H0 E).env.qual ++ "<lambda>")] H q → (∀ (H' : Hp) (lr dxl co dxc tt ot ut tb dxt hl cl : Addr) (ha : List Addr) (cs : List V), LD K T.C [(PT, (XL P w K mg base f (.ref cT) A outer s H0 E).env.qual ++ "<lambda>")] H' q → LiAt T.C T.tC T.cC T.vC H' lr dxl co dxc tt ot ut tb dxt q.p q.dx q.td q.ts hl cl .non [] [] [] ha cs q.ds q.ss q.ss.sum (tb0 q.ds q.ss) → D.nx (sg q z2 z3 z6 z7 z8 z9 (some (.ref lr)) z11 z12) H') → tm D (sg q z2 z3 z6 z7 z8 z9 z10 z11 z12) H := by
  have nd := sc_law.nd
  refine ⟨_, ps_set (i := 10) nd rfl (.inl rfl) (pe_make T.mkv (ok_li T) (hr.mono (by decide : 6 ≤ 13)) (by rfl) T.gvC T.b_vinit .nil pass0 (pa_cons (pv 4) pa_nil)), ?_⟩
  rintro D H q z2 z3 z6 z7 z8 z9 z10 z11 z12 b nx
  refine ⟨_, rfl, fun lr dxl nl nd' ne => ?_⟩
  have s1 : Same H (upd (upd H dxl (.own lr)) lr (.ins T.vC dxl [])) := fun x o e => by
    rw [upd_ne (ne_of_none e nl), upd_ne (ne_of_none e nd')]
    exact e
  refine ⟨lr, dxl, q.p, q.dx, q.td, q.ts, q.ds, q.ss, rfl, upd_same, b.R.same s1, fun H' co dxc tt ot ut tb dxt hl cl ha cs kp n1 n2 n3 n4 g O M => ⟨rfl, ?_⟩⟩
  have s2 : Same H H' := fun x o e => kp x o (s1 x o e) (ne_of_none e nl)
  refine nx H' lr dxl co dxc tt ot ut tb dxt hl cl ha cs (b.same s2) ⟨g, O, M, Nat.zero_le _, Nat.zero_le _, fun j hj => ?_⟩
  have := tb0_len b.R.ok hj
  omega
theorem y_b11 (T : Tx K mg) (Y : Ax w T) {S : RdS K mg} (E4 : RxE K mg "InvalidNumber" S.k1) (B : RdF S) (TB : TabB base mg cT PT) (hr : Room 13 (A.deeper (envOfC "law" (defScope s_law) s.heap.objs.size f (.ref cT)))) : ∃ t, PS (XL P w K mg base f (.ref cT) A outer s H0 E) (bs 11) t ∧ ∀ (D : Ends) (H : Hp) (q : Lq) (z2 z3 z6 z7 z8 z9 z10 z11 z12 : Option V), LD K T.C [(PT, (XL P w K mg base f (.ref cT) A outer s H0 E).env.qual ++ "<lambda>")] H q → (∀ (H' : Hp) (ea : Addr) (es : List V), Same H H' → H' ea = some (.lst es) → Tups H' es ((Pre q.ds q.ss 60 0).take q.n) → D.nx (sg q z2 z3 z6 z7 z8 z9 z10 (some (.ref ea)) z12) H') → t D (sg q z2 z3 z6 z7 z8 z9 z10 z11 z12) H := by
  have nd := sc_law.nd
  refine ⟨_, ps_setLc (i := 11) (own := [("_law_entry", 7)]) rfl nd rfl rfl (sw_true rfl rfl rfl (by decide +kernel)) (pi_list (pv 5)) (blkOk_by (N := N_law) (sc := defScope s_law) (by decide +kernel)) (fun _ _ _ _ _ => pg_name (i := 7) nd rfl (.inl rfl)) (fun _ _ _ _ _ => pts_one (pt_cmpR op_le (pe_ix (r := rIxT K) ix_tup (pv 7) pe_int (fun _ _ => rfl)) pe_int (nomark _))) (fun _ _ _ _ _ => pv 7), ?_⟩
  rintro D H q z2 z3 z6 z7 z8 z9 z10 z11 z12 b nx
  have hi := b.hi
  have ln := b.ln
  refine ⟨_, rfl, q.du, rfl, ⟨_, .of b.en⟩, fun ea hea => lc_list (K := K) (a := q.du) (xs := q.xs) (fun i H' => Same H H' ∧ ∃ es, H' ea = some (.lst es) ∧ es.length ≤ i ∧ Tups H' es ((((Pre q.ds q.ss 200 0).take q.n).take i).filter p60))
    ⟨same_upd hea, [], upd_same, Nat.le_refl _, .nil⟩ (fun i H' _ p => .of (p.1 _ _ b.en)) ?_ ?_⟩
  · rintro i x H2 hx ⟨s2, es, ge, le, TT⟩
    have li : i < q.xs.length := (List.getElem?_eq_some_iff.mp hx).1
    obtain ⟨l, hl⟩ : ∃ l, ((Pre q.ds q.ss 200 0).take q.n)[i]? = some l := ⟨_, List.getElem?_eq_getElem (by rw [← b.ee.length]; exact li)⟩
    obtain ⟨t, e1, ht⟩ := b.ee.get hl
    rw [hx] at e1
    cases e1
    obtain ⟨d, r, bk0, rfl⟩ : ∃ d r b, l = [d, r, b] := by
      obtain ⟨d, r, bk, e, _⟩ := pre_three (List.mem_of_mem_take (List.mem_of_getElem? hl))
      exact ⟨d, r, bk, e⟩
    have ht2 := s2 _ _ ht
    refine ⟨rfl, ?_⟩
    refine ⟨_, rfl, t, _, 0, _, rfl, rfl, .of ht2, atI_nat (j := 0) rfl, _, _, rfl, rfl, _, rfl, ?_⟩
    have tk : (((Pre q.ds q.ss 200 0).take q.n).take (i + 1)).filter p60 = (((Pre q.ds q.ss 200 0).take q.n).take i).filter p60 ++ (if d ≤ 60 then [[d, r, bk0]] else []) := by
      rw [List.take_add_one, hl, List.filter_append]
      by_cases h : d ≤ 60
      · rw [if_pos h]
        show _ ++ List.filter p60 [[d, r, bk0]] = _
        rw [List.filter_cons_of_pos (show p60 [d, r, bk0] = true from decide_eq_true h)]
        rfl
      · rw [if_neg h]
        show _ ++ List.filter p60 [[d, r, bk0]] = _
        rw [List.filter_cons_of_neg (show ¬ p60 [d, r, bk0] = true from fun z => h (of_decide_eq_true z))]
        rfl
    by_cases h : d ≤ 60
    · rw [decide_eq_true h]
      refine iteT ?_
      rw [if_pos h] at tk
      refine ⟨_, rfl, es, ge, small1000 (by omega), kp_same s2 hea, es ++ [.ref t], upd_same, by rw [List.length_append]; show es.length + 1 ≤ _; omega, ?_⟩
      rw [tk]
      have up : ∀ c ys, H2 c = some (.tup ys) → (upd H2 ea (.lst (es ++ [V.ref t]))) c = some (.tup ys) := fun c ys h => (upd_ne (ne_of h ge (by intro z; cases z))).trans h
      exact Tups.snoc (l := [d, r, bk0]) ⟨t, rfl, up _ _ ht2⟩ (TT.mono up)
    · rw [decide_eq_false h]
      refine iteF ?_
      rw [if_neg h, List.append_nil] at tk
      exact ⟨s2, es, ge, by omega, by rw [tk]; exact TT⟩
  · rintro H2 ⟨s2, es, ge, le, TT⟩
    rw [List.take_of_length_le (by rw [b.len, ln]; exact Nat.le_refl _), early_eq] at TT
    exact nx H2 ea es s2 ge TT
theorem y_b12 (T : Tx K mg) (Y : Ax w T) {S : RdS K mg} (E4 : RxE K mg "InvalidNumber" S.k1) (B : RdF S) (TB : TabB base mg cT PT) (hr : Room 13 (A.deeper (envOfC "law" (defScope s_law) s.heap.objs.size f (.ref cT)))) : ∃ tm, PS (XL P w K mg base f (.ref cT) A outer s H0 E) (bs 12) tm ∧ ∀ (D : Ends) (H : Hp) (q : Lq) (z2 z3 z6 z7 z8 z9 z10 z11 z12 : Option V) (lr dxl co dxc tt ot ut tb dxt hl cl : Addr) (ha : List Addr) (cs : List V) (ea : Addr) (es : List V), z10 = some (.ref lr) → z11 = some (.ref ea) → LD K T.C [(PT, (XL P w K mg base f (.ref cT) A outer s H0 E).env.qual ++ "<lambda>")] H q → LiAt T.C T.tC T.cC T.vC H lr dxl co dxc tt ot ut tb dxt q.p q.dx q.td q.ts hl cl .non [] [] [] ha cs q.ds q.ss q.ss.sum (tb0 q.ds q.ss) → H ea = some (.lst es) → ea ≠ lr → Tups H es ((Pre q.ds q.ss 60 0).take q.n) → (∀ H', D.rt (.bl true) H') → tm D (sg q z2 z3 z6 z7 z8 z9 z10 z11 z12) H := by
  have nd := sc_law.nd
  refine ⟨_, ps_ret (pe_and (pe_cmpR (op_eqD hr.units) (pe_meth (pv 10) T.clv T.mv_pass_days (fn_calm (ok_pass T Y (up_let T))) (hr.mono (by decide : 9 ≤ 13)) T.b_vpass_days .nil pass0 (pa_cons pe_int pa_nil)) (pe_lst pa_nil) (nomark _)) (pe_one (pe_cmpR (op_eqD hr.units) (pe_slice sl_list (pe_meth (pv 10) T.clv T.mv_pass_days (fn_calm (ok_pass T Y (up_let T))) (hr.mono (by decide : 9 ≤ 13)) T.b_vpass_days .nil pass0 (pa_cons pe_int pa_nil)) po_none (po_some (pe_callB call_len_seq (by rfl) T.z_len PySem.boot_len (pa_cons (pv 11) pa_nil)))) (pv 11) (nomark _)))), ?_⟩
  rintro D H q z2 z3 z6 z7 z8 z9 z10 z11 z12 lr dxl co dxc tt ot ut tb dxt hl cl ha cs ea es rfl rfl b I ge nel TT nx
  obtain ⟨M, hM, hMu⟩ := b.R.ok.max
  have RR := b.R.ok.ring hM hMu
  have hi := b.hi
  refine ⟨_, rfl, lr, dxl, _, rfl, I.ob, rfl, lr, dxl, co, dxc, tt, ot, ut, tb, dxt, q.p, q.dx, q.td, q.ts, hl, cl, .non, [], [], [], ha, cs, q.ds, q.ss, q.ss.sum, tb0 q.ds q.ss, 0, rfl, I, by decide, fun H3 L xs op co2 dxc2 tt2 ot2 ut2 tb2 dxt2 hl2 cl2 ha2 cs2 kp L0 gL TL g3 O3 op3 M3 => ?_⟩
  have ex : xs = [] := List.length_eq_zero_iff.mp TL.length
  subst ex
  have I3 : LiAt T.C T.tC T.cC T.vC H3 lr dxl co2 dxc2 tt2 ot2 ut2 tb2 dxt2 q.p q.dx q.td q.ts hl2 cl2 .non [tb] [.ref op] [] ha2 cs2 q.ds q.ss q.ss.sum (tb0 q.ds q.ss) := ⟨g3, O3, M3, by show 1 ≤ 800; decide, by show 1 ≤ 800; decide, I.sm⟩
  have ge3 := kp _ _ ge nel
  have nlr : ∀ {c : Addr} {ys : List V}, H c = some (.tup ys) → c ≠ lr := fun h => ne_of h I.ob (by intro z; cases z)
  have T3 := TT.mono fun c ys h => kp c _ h (nlr h)
  refine ⟨Nat.zero_le _, fun e he => ?_⟩
  have s4 := same_upd (o := .lst []) he
  refine ⟨.list [], .list [], .lst (.of (s4 _ _ gL)) .nil, .lst (.of upd_same) .nil, PySem.W.ke_shaped_ints [], PySem.W.ke_shaped_ints [], _, rfl, iteEqT rfl ?_⟩
  have I4 : LiAt T.C T.tC T.cC T.vC (upd H3 e (.lst [])) lr dxl co2 dxc2 tt2 ot2 ut2 tb2 dxt2 q.p q.dx q.td q.ts hl2 cl2 .non [tb] [.ref op] [] ha2 cs2 q.ds q.ss q.ss.sum (tb0 q.ds q.ss) := ⟨s4 _ _ I3.ob, I3.co.same s4, I3.tb.same s4, I3.l1, I3.l2, I3.sm⟩
  have ge4 := s4 _ _ ge3
  have T4 := T3.mono fun c ys h => s4 c _ h
  generalize (upd H3 e (.lst [])) = H4 at I4 ge4 T4 ⊢
  refine ⟨_, rfl, lr, dxl, _, rfl, I4.ob, rfl, lr, dxl, co2, dxc2, tt2, ot2, ut2, tb2, dxt2, q.p, q.dx, q.td, q.ts, hl2, cl2, .non, [tb], [.ref op], [], ha2, cs2, q.ds, q.ss, q.ss.sum, tb0 q.ds q.ss, 60, rfl, I4, by decide, fun H5 L2 xs2 op2 co5 dxc5 tt5 ot5 ut5 tb5 dxt5 hl5 cl5 ha5 cs5 kp5 L20 gL2 TL2 g5 O5 op5 M5 => ?_⟩
  rw [dyL_pre RR b.R.ok.ls] at TL2
  have ge5 := kp5 _ _ ge4 nel
  have T5 := T4.mono fun c ys h => kp5 c _ h (ne_of h I4.ob (by intro z; cases z))
  refine ⟨_, rfl, ea, _, rfl, .inl (.of ge5), _, rfl, L2, _, rfl, .of gL2, fun p hp => ?_⟩
  rw [cut_toA, T5.length]
  have s6 := same_upd (o := .lst (xs2.take ((Pre q.ds q.ss 60 0).take q.n).length)) hp
  have T6 := tups_take ((Pre q.ds q.ss 60 0).take q.n).length TL2
  rw [take_self] at T6
  exact ⟨_, rfl, .list _, .list _, .lst (.of upd_same) (Tups.data (T6.mono fun _ _ h => s6 _ _ h)), .lst (.of (s6 _ _ ge5)) (Tups.data (T5.mono fun _ _ h => s6 _ _ h)), shaped_tups _, shaped_tups _, by rw [SeqAt.eqv_refl _ (SeqAt.canLay_of_shaped (shaped_tups _))]; exact nx _⟩
end
end Rp
namespace Rp
open PySem PySem.Spec PyProof.Rows L2 Rz Rm Rt Rl LamX
theorem same_new {H : Hp} {C x z : Addr} (nx : H x = none) (nz : H z = none) : Same H (upd (upd H z (.own x)) x (.ins C z [])) := fun b o e => by
  rw [upd_ne (ne_of_none e nx), upd_ne (ne_of_none e nz)]
  exact e
theorem sn_made {C x z : Addr} {H H' : Hp} (nx : H x = none) (nz : H z = none) (k : ∀ b o, (upd (upd H z (.own x)) x (.ins C z [])) b = some o → b ≠ x → H' b = some o) : Same H H' := fun b o e => k b o (same_new nx nz b o e) (ne_of_none e nx)
/-- a def whose code object is known -/
structure FunC (K : PySem.W.Frag) (x qual : Str) (st : Stmt) (f : Addr) (fd : FuncData) (cd : Value) : Prop where
  ex : ∃ (oc : Value) (od : Option Addr) (kV doc pm : Value) (an : Option Addr) (ct : Value) (osl : Array (Option Value)),
    fd = PySem.W.fnOf x qual (defArgs st) (defBody st) (defScope st) .none kV doc pm an cd ct ∧ K.lookup f = some ⟨oc, od, .func fd, osl⟩ ∧ PySem.W.codeIn K cd qual = true
theorem FunC.ok {P : Program} {w : World} {K : PySem.W.Frag} {mg : Str → Option Value} {base : Heap} {x qual : Str} {st : Stmt} {f : Addr} {fd : FuncData} {cd : Value} {N ps : List Str} {k : Nat} {sp : Sp} (F : FunC K x qual st f fd cd) (S : FnScope N ps (defScope st)) (len : ∀ vs H Q E, sp vs H Q E → vs.length = ps.length)
    (hbody : ∀ (A : Around) (outer : List Env) (s : Shared) (H : Hp) (vs : List V) (Q : VK) (E : XK), Room k (A.deeper (envOfC qual (defScope st) s.heap.objs.size f cd)) → sp vs H Q E →
      ∃ t, PSs (cxOf CX0 P w K mg base N qual (defScope st) f cd A outer s H E).nox (defBody st) t ∧ t { nx := fun _ H' => Q .non H', rt := Q } (start N vs) H) : FnOk P w K mg base CX0 (k + 1) f fd ps sp := by
  obtain ⟨oc, od, kV, doc, pm, an, ct, osl, rfl, lk, hcd⟩ := F.ex
  refine fn_of lk hcd S len fun A outer s H vs Q E hr hsp => ?_
  obtain ⟨t, h, q⟩ := hbody A outer s H vs Q E hr hsp
  exact ⟨t, h.nox, q⟩
section
variable {P : Program} {w : World} {K : PySem.W.Frag} {mg : Str → Option Value} {base : Heap}
def spLawL (K : PySem.W.Frag) (PT : Addr) : Sp := fun vs H Q _ => ∃ (a : Addr) (ns : List Int), vs = [.ref a] ∧ SqL K H a (ns.map V.int) ∧ ns.length ≤ 63 ∧ H PT = some (.tbl #[]) ∧ ∀ H', Q (.bl true) H'
theorem ok_law {cT PT : Addr} (T : Tx K mg) (Y : Ax w T) (S : RdS K mg) (B : RdF S) (E4 : RxE K mg "InvalidNumber" S.k1) (TB : TabB base mg cT PT) (FC : FunC K "law" "law" s_law T.a_law T.d_law (.ref cT)) : FnOk P w K mg base CX0 14 T.a_law T.d_law P_law (spLawL K PT) := by
  refine FC.ok sc_law (fun vs H Q E h => ?_) (fun A outer s H vs Q E hr h => ?_)
  · obtain ⟨a, ns, rfl, _⟩ := h
    rfl
  · obtain ⟨a, ns, rfl, hS, hlen, hP, qq⟩ := h
    have nd := sc_law.nd
    obtain ⟨ub3, qb3, vb3⟩ := y_b3 (P := P) (w := w) (K := K) (mg := mg) (base := base) (f := T.a_law) (cT := cT) (PT := PT) (A := A) (outer := outer) (s := s) (H0 := H) (E := E) T Y E4 B TB hr
    obtain ⟨ub4, qb4, vb4⟩ := y_b4 (P := P) (w := w) (K := K) (mg := mg) (base := base) (f := T.a_law) (cT := cT) (PT := PT) (A := A) (outer := outer) (s := s) (H0 := H) (E := E) T Y E4 B TB hr
    obtain ⟨ub5, qb5, vb5⟩ := y_b5 (P := P) (w := w) (K := K) (mg := mg) (base := base) (f := T.a_law) (cT := cT) (PT := PT) (A := A) (outer := outer) (s := s) (H0 := H) (E := E) T Y E4 B TB hr
    obtain ⟨ub6, qb6, vb6⟩ := y_b6 (P := P) (w := w) (K := K) (mg := mg) (base := base) (f := T.a_law) (cT := cT) (PT := PT) (A := A) (outer := outer) (s := s) (H0 := H) (E := E) T Y E4 B TB hr
    obtain ⟨ub7, qb7, vb7⟩ := y_b7 (P := P) (w := w) (K := K) (mg := mg) (base := base) (f := T.a_law) (cT := cT) (PT := PT) (A := A) (outer := outer) (s := s) (H0 := H) (E := E) T Y E4 B TB hr
    obtain ⟨ub8, qb8, vb8⟩ := y_b8 (P := P) (w := w) (K := K) (mg := mg) (base := base) (f := T.a_law) (cT := cT) (PT := PT) (A := A) (outer := outer) (s := s) (H0 := H) (E := E) T Y E4 B TB hr
    obtain ⟨uf90, qf90, vf90⟩ := y_f90 (P := P) (w := w) (K := K) (mg := mg) (base := base) (f := T.a_law) (cT := cT) (PT := PT) (A := A) (outer := outer) (s := s) (H0 := H) (E := E) T Y E4 B TB hr
    obtain ⟨uf91, qf91, vf91⟩ := y_f91 (P := P) (w := w) (K := K) (mg := mg) (base := base) (f := T.a_law) (cT := cT) (PT := PT) (A := A) (outer := outer) (s := s) (H0 := H) (E := E) T Y E4 B TB hr
    obtain ⟨uf92, qf92, vf92⟩ := y_f92 (P := P) (w := w) (K := K) (mg := mg) (base := base) (f := T.a_law) (cT := cT) (PT := PT) (A := A) (outer := outer) (s := s) (H0 := H) (E := E) T Y E4 B TB hr
    obtain ⟨ub10, qb10, vb10⟩ := y_b10 (P := P) (w := w) (K := K) (mg := mg) (base := base) (f := T.a_law) (cT := cT) (PT := PT) (A := A) (outer := outer) (s := s) (H0 := H) (E := E) T Y E4 B TB hr
    obtain ⟨ub11, qb11, vb11⟩ := y_b11 (P := P) (w := w) (K := K) (mg := mg) (base := base) (f := T.a_law) (cT := cT) (PT := PT) (A := A) (outer := outer) (s := s) (H0 := H) (E := E) T Y E4 B TB hr
    obtain ⟨ub12, qb12, vb12⟩ := y_b12 (P := P) (w := w) (K := K) (mg := mg) (base := base) (f := T.a_law) (cT := cT) (PT := PT) (A := A) (outer := outer) (s := s) (H0 := H) (E := E) T Y E4 B TB hr
    refine ⟨_, (pss_cons (ps_set (i := 1) nd rfl (.inr rfl) (pe_lst (pa_cons (pv 0) (pa_cons pe_int (pa_cons pe_int (pa_cons pe_int pa_nil)))))) (pss_cons (ps_par (i := 2) (j := 3) rfl nd rfl rfl (by decide) rfl rfl (pa_cons (pe_call (ok_parts T) (hr.mono (by decide : 2 ≤ 13)) (by rfl) T.g_lparts T.F_lparts.kp T.b_lparts .nil pass0 (pa_cons (pv 1) (pa_cons pe_int pa_nil))) (pa_cons (pe_call (ok_taken T) (hr.mono (by decide : 1 ≤ 13)) (by rfl) T.g_ltaken T.F_ltaken.kp T.b_ltaken .nil pass0 (pa_cons (pv 1) (pa_cons pe_int pa_nil))) pa_nil)) rfl) (pss_cons (ps_set (i := 4) nd rfl (.inr rfl) (pe_make T.mkR (ok_init T) (hr.mono (by decide : 5 ≤ 13)) (by rfl) T.gC T.b_rinit .nil pass0 (pa_cons (pe_ix ix_tup (pv 2) pe_int (fun _ _ => rfl)) (pa_cons (pe_ix ix_tup (pv 2) pe_int (fun _ _ => rfl)) pa_nil)))) (pss_cons qb3 (pss_cons qb4 (pss_cons qb5 (pss_cons qb6 (pss_cons qb7 (pss_cons qb8 (pss_cons (ps_if (pt_cmpR op_gt (pv 3) pe_int (nomark _)) (pss_cons qf90 (pss_cons qf91 (pss_one qf92))) pss_nil) (pss_cons qb10 (pss_cons qb11 (pss_one qb12))))))))))))), ?_⟩
    have tb0 : Tabs [(PT, (XL P w K mg base T.a_law (.ref cT) A outer s H E).env.qual ++ "<lambda>")] H := fun p hp => by
      cases List.mem_singleton.mp hp
      exact TabS.nil hP
    refine ⟨_, rfl, (by show 4 ≤ sizeLine; decide), fun row hrow => ?_⟩
    have s0 := same_upd (o := .lst [.ref a, .int 0, .int 0, .int 0]) hrow
    have RA0 : RowAt K (upd H row (.lst [.ref a, .int 0, .int 0, .int 0])) row a ns := ⟨⟨0, 0, 0, upd_same, Int.le_refl _⟩, s0.seq hS, far_of hS hrow⟩
    have tb1 := tb0.ext s0
    show tSeq _ _ _ [some (.ref a), some (.ref row), none, none, none, none, none, none, none, none, none, none, none] (upd H row (.lst [.ref a, .int 0, .int 0, .int 0]))
    generalize (upd H row (.lst [.ref a, .int 0, .int 0, .int 0])) = Ha at RA0 tb1 ⊢
    refine ⟨_, rfl, row, a, ns, 6, rfl, RA0, by decide, by decide, fun H1 t td ts ds ss G RA1 k1 ht hd hs => ?_⟩
    have tb2 := Tabs_kp RA0 k1 tb1
    refine ⟨_, rfl, row, a, ns, 40, rfl, RA1, by decide, by decide, fun cv H2 c0 c1 RA2 k2 => ⟨_, _, rfl, ?_⟩⟩
    obtain ⟨cnt, rfl⟩ : ∃ n : Nat, cv = (n : Int) := ⟨cv.toNat, by omega⟩
    have tb3 := Tabs_kp RA1 k2 tb2
    have ht2 := RA1.tups k2 _ _ ht
    have hd2 := RA1.tups k2 _ _ hd
    have hs2 := RA1.tups k2 _ _ hs
    show tSeq _ _ _ [some (.ref a), some (.ref row), some (.ref t), some (.int (cnt : Int)), none, none, none, none, none, none, none, none, none] H2
    refine ⟨_, rfl, t, _, 0, _, rfl, rfl, .of ht2, atI_nat (j := 0) rfl, _, rfl, t, _, 1, _, rfl, rfl, .of ht2, atI_nat (j := 1) rfl, fun p dp np ndp ne => ?_⟩
    have s9 := same_new (C := T.C) np ndp
    refine ⟨p, dp, td, ts, ds, ss, rfl, upd_same, s9 _ _ hd2, s9 _ _ hs2, G, fun H3 R3 k3 => ⟨rfl, ?_⟩⟩
    have s3 : Same H2 H3 := sn_made np ndp k3
    refine vb3 _ _ _ _ _ _ _ _ _ _ a row t p dp td ts ns ds ss cnt (RA2.same s3) (tb3.ext s3) R3 (s3 _ _ ht2) (by omega) fun H4 q z3 b => ?_
    refine vb4 _ H4 q _ _ _ _ _ _ _ _ _ b ?_
    refine vb5 _ H4 q _ _ _ _ _ _ _ _ _ rfl b fun H5 b => ?_
    refine vb6 _ H5 q _ _ _ _ _ _ _ _ _ b fun H6 tl b g0 n1 n2 n3 => ?_
    refine vb7 _ H6 q _ _ _ _ _ _ _ _ _ tl rfl b g0 n1 n2 n3 fun H7 zs z7 b tn => ?_
    refine vb8 _ H7 q _ _ _ _ _ _ _ _ _ tl zs rfl b tn fun H8 b tn => ?_
    have fin : ∀ H9 z8 z9, LD K T.C [(PT, (XL P w K mg base T.a_law (.ref cT) A outer s H E).env.qual ++ "<lambda>")] H9 q → tSeq ub10 (tSeq ub11 ub12) { nx := fun _ H' => Q .non H', rt := Q } (sg q (some (.ref t)) (some (.int (q.n : Int))) (some (.ref tl)) z7 z8 z9 none none none) H9 := fun H9 z8 z9 b => by
      refine vb10 _ H9 q _ _ _ _ _ _ _ _ _ b fun H10 lr dxl co dxc tt ot ut tb dxt hl cl ha cs b I => ?_
      refine vb11 _ H10 q _ _ _ _ _ _ _ _ _ b fun H11 ea es s11 ge TT => ?_
      have b := b.same s11
      have I : LiAt _ _ _ _ H11 lr dxl co dxc tt ot ut tb dxt _ _ _ _ hl cl _ _ _ _ ha cs _ _ _ _ := ⟨s11 _ _ I.ob, I.co.same s11, I.tb.same s11, I.l1, I.l2, I.sm⟩
      exact vb12 _ H11 q _ _ _ _ _ _ _ _ _ lr dxl co dxc tt ot ut tb dxt hl cl ha cs ea es rfl rfl b I ge (ne_of ge I.ob (by intro z; cases z)) TT fun H' => qq H'
    refine ⟨_, rfl, _, _, rfl, rfl, _, rfl, ?_⟩
    by_cases h0 : (0 : Int) < (q.n : Int)
    · rw [decide_eq_true h0]
      refine iteT ?_
      refine vf90 _ H8 q _ _ _ _ _ _ _ _ _ tl zs rfl (by omega) b tn fun H9 k hk b tn => ?_
      refine vf91 _ H9 q _ _ _ _ _ _ _ _ _ k rfl hk b fun H10 bl bad s10 hb0 hbl h6 cv => ?_
      refine vf92 _ H10 q _ _ _ _ _ _ _ _ _ k tl bl zs bad rfl rfl rfl hk (b.same s10) (tn.same s10) hbl (b.RA.nn hb0) h6 cv fun H11 b => ?_
      exact fin H11 _ _ b
    · rw [decide_eq_false h0]
      refine iteF ?_
      exact fin H8 _ _ b
end
end Rp
namespace Rp
open PySem PySem.Spec PyProof.Rows L2 Rz Rm Rt Rl LamX
theorem all_mk {l : PySem.W.OpenLaw} {w : World} {K : PySem.W.Frag} {h : Heap} {mg : Str → Option Value} {fa C tC cC vC : Addr} (X : K.In h) (G : h.Ns mainGlobals mg) (hfa : mg "law" = some (.ref fa))
    {f_iDiaryError : Addr} {od_iDiaryError an_iDiaryError : Option Addr} {sl_iDiaryError : Array (Option Value)} {oc_iDiaryError kV_iDiaryError dc_iDiaryError pm_iDiaryError cd_iDiaryError ct_iDiaryError : Value}
    {ec_iDiaryError : Addr}
    {f_is_number : Addr} {od_is_number an_is_number : Option Addr} {sl_is_number : Array (Option Value)} {oc_is_number kV_is_number dc_is_number pm_is_number cd_is_number ct_is_number : Value}
    {f_lies_between : Addr} {od_lies_between an_lies_between : Option Addr} {sl_lies_between : Array (Option Value)} {oc_lies_between kV_lies_between dc_lies_between pm_lies_between cd_lies_between ct_lies_between : Value}
    {f_check_number : Addr} {od_check_number an_check_number : Option Addr} {sl_check_number : Array (Option Value)} {oc_check_number kV_check_number dc_check_number pm_check_number cd_check_number ct_check_number : Value}
    {f_check_reader : Addr} {od_check_reader an_check_reader : Option Addr} {sl_check_reader : Array (Option Value)} {oc_check_reader kV_check_reader dc_check_reader pm_check_reader cd_check_reader ct_check_reader : Value}
    {f_rinit : Addr} {od_rinit an_rinit : Option Addr} {sl_rinit : Array (Option Value)} {oc_rinit kV_rinit dc_rinit pm_rinit cd_rinit ct_rinit : Value}
    {f_rdays : Addr} {od_rdays an_rdays : Option Addr} {sl_rdays : Array (Option Value)} {oc_rdays kV_rdays dc_rdays pm_rdays cd_rdays ct_rdays : Value}
    {pp_rdays : Addr} {re_rdays : List Value}
    {f_rstarts : Addr} {od_rstarts an_rstarts : Option Addr} {sl_rstarts : Array (Option Value)} {oc_rstarts kV_rstarts dc_rstarts pm_rstarts cd_rstarts ct_rstarts : Value}
    {pp_rstarts : Addr} {re_rstarts : List Value}
    {f_rbooks : Addr} {od_rbooks an_rbooks : Option Addr} {sl_rbooks : Array (Option Value)} {oc_rbooks kV_rbooks dc_rbooks pm_rbooks cd_rbooks ct_rbooks : Value}
    {pp_rbooks : Addr} {re_rbooks : List Value}
    {f_rpace : Addr} {od_rpace an_rpace : Option Addr} {sl_rpace : Array (Option Value)} {oc_rpace kV_rpace dc_rpace pm_rpace cd_rpace ct_rpace : Value}
    {pp_rpace : Addr} {re_rpace : List Value}
    {f_rlen : Addr} {od_rlen an_rlen : Option Addr} {sl_rlen : Array (Option Value)} {oc_rlen kV_rlen dc_rlen pm_rlen cd_rlen ct_rlen : Value}
    {f_rcall : Addr} {od_rcall an_rcall : Option Addr} {sl_rcall : Array (Option Value)} {oc_rcall kV_rcall dc_rcall pm_rcall cd_rcall ct_rcall : Value}
    {f_check_part : Addr} {od_check_part an_check_part : Option Addr} {sl_check_part : Array (Option Value)} {oc_check_part kV_check_part dc_check_part pm_check_part cd_check_part ct_check_part : Value}
    {f_end_day : Addr} {od_end_day an_end_day : Option Addr} {sl_end_day : Array (Option Value)} {oc_end_day kV_end_day dc_end_day pm_end_day cd_end_day ct_end_day : Value}
    {f_book_of : Addr} {od_book_of an_book_of : Option Addr} {sl_book_of : Array (Option Value)} {oc_book_of kV_book_of dc_book_of pm_book_of cd_book_of ct_book_of : Value}
    {f_reader_before : Addr} {od_reader_before an_reader_before : Option Addr} {sl_reader_before : Array (Option Value)} {oc_reader_before kV_reader_before dc_reader_before pm_reader_before cd_reader_before ct_reader_before : Value}
    {f_reader_after : Addr} {od_reader_after an_reader_after : Option Addr} {sl_reader_after : Array (Option Value)} {oc_reader_after kV_reader_after dc_reader_after pm_reader_after cd_reader_after ct_reader_after : Value}
    {f_diary_of : Addr} {od_diary_of an_diary_of : Option Addr} {sl_diary_of : Array (Option Value)} {oc_diary_of kV_diary_of dc_diary_of pm_diary_of cd_diary_of ct_diary_of : Value}
    {f_mended : Addr} {od_mended an_mended : Option Addr} {sl_mended : Array (Option Value)} {oc_mended kV_mended dc_mended pm_mended cd_mended ct_mended : Value}
    {f_can_be : Addr} {od_can_be an_can_be : Option Addr} {sl_can_be : Array (Option Value)} {oc_can_be kV_can_be dc_can_be pm_can_be cd_can_be ct_can_be : Value}
    {f_is_same_number : Addr} {od_is_same_number an_is_same_number : Option Addr} {sl_is_same_number : Array (Option Value)} {oc_is_same_number kV_is_same_number dc_is_same_number pm_is_same_number cd_is_same_number ct_is_same_number : Value}
    {f_tinit : Addr} {od_tinit an_tinit : Option Addr} {sl_tinit : Array (Option Value)} {oc_tinit kV_tinit dc_tinit pm_tinit cd_tinit ct_tinit : Value}
    {f_first_table : Addr} {od_first_table an_first_table : Option Addr} {sl_first_table : Array (Option Value)} {oc_first_table kV_first_table dc_first_table pm_first_table cd_first_table ct_first_table : Value}
    {f_copied_table : Addr} {od_copied_table an_copied_table : Option Addr} {sl_copied_table : Array (Option Value)} {oc_copied_table kV_copied_table dc_copied_table pm_copied_table cd_copied_table ct_copied_table : Value}
    {f_begin_readings : Addr} {od_begin_readings an_begin_readings : Option Addr} {sl_begin_readings : Array (Option Value)} {oc_begin_readings kV_begin_readings dc_begin_readings pm_begin_readings cd_begin_readings ct_begin_readings : Value}
    {f_end_readings : Addr} {od_end_readings an_end_readings : Option Addr} {sl_end_readings : Array (Option Value)} {oc_end_readings kV_end_readings dc_end_readings pm_end_readings cd_end_readings ct_end_readings : Value}
    {f_put_book : Addr} {od_put_book an_put_book : Option Addr} {sl_put_book : Array (Option Value)} {oc_put_book kV_put_book dc_put_book pm_put_book cd_put_book ct_put_book : Value}
    {f_let_pass : Addr} {od_let_pass an_let_pass : Option Addr} {sl_let_pass : Array (Option Value)} {oc_let_pass kV_let_pass dc_let_pass pm_let_pass cd_let_pass ct_let_pass : Value}
    {f_is_operation : Addr} {od_is_operation an_is_operation : Option Addr} {sl_is_operation : Array (Option Value)} {oc_is_operation kV_is_operation dc_is_operation pm_is_operation cd_is_operation ct_is_operation : Value}
    {f_carry_out : Addr} {od_carry_out an_carry_out : Option Addr} {sl_carry_out : Array (Option Value)} {oc_carry_out kV_carry_out dc_carry_out pm_carry_out cd_carry_out ct_carry_out : Value}
    {f_cinit : Addr} {od_cinit an_cinit : Option Addr} {sl_cinit : Array (Option Value)} {oc_cinit kV_cinit dc_cinit pm_cinit cd_cinit ct_cinit : Value}
    {f_vinit : Addr} {od_vinit an_vinit : Option Addr} {sl_vinit : Array (Option Value)} {oc_vinit kV_vinit dc_vinit pm_vinit cd_vinit ct_vinit : Value}
    {f_vpass_days : Addr} {od_vpass_days an_vpass_days : Option Addr} {sl_vpass_days : Array (Option Value)} {oc_vpass_days kV_vpass_days dc_vpass_days pm_vpass_days cd_vpass_days ct_vpass_days : Value}
    {f_vapply : Addr} {od_vapply an_vapply : Option Addr} {sl_vapply : Array (Option Value)} {oc_vapply kV_vapply dc_vapply pm_vapply cd_vapply ct_vapply : Value}
    {f_executed : Addr} {od_executed an_executed : Option Addr} {sl_executed : Array (Option Value)} {oc_executed kV_executed dc_executed pm_executed cd_executed ct_executed : Value}
    {f_ltaken : Addr} {od_ltaken an_ltaken : Option Addr} {sl_ltaken : Array (Option Value)} {oc_ltaken kV_ltaken dc_ltaken pm_ltaken cd_ltaken ct_ltaken : Value}
    {f_lparts : Addr} {od_lparts an_lparts : Option Addr} {sl_lparts : Array (Option Value)} {oc_lparts kV_lparts dc_lparts pm_lparts cd_lparts ct_lparts : Value}
    {f_lbegin : Addr} {od_lbegin an_lbegin : Option Addr} {sl_lbegin : Array (Option Value)} {oc_lbegin kV_lbegin dc_lbegin pm_lbegin cd_lbegin ct_lbegin : Value}
    {f_lfirst : Addr} {od_lfirst an_lfirst : Option Addr} {sl_lfirst : Array (Option Value)} {oc_lfirst kV_lfirst dc_lfirst pm_lfirst cd_lfirst ct_lfirst : Value}
    {f_lday : Addr} {od_lday an_lday : Option Addr} {sl_lday : Array (Option Value)} {oc_lday kV_lday dc_lday pm_lday cd_lday ct_lday : Value}
    {f_ldiary : Addr} {od_ldiary an_ldiary : Option Addr} {sl_ldiary : Array (Option Value)} {oc_ldiary kV_ldiary dc_ldiary pm_ldiary cd_ldiary ct_ldiary : Value}
    {f_lraised : Addr} {od_lraised an_lraised : Option Addr} {sl_lraised : Array (Option Value)} {oc_lraised kV_lraised dc_lraised pm_lraised cd_lraised ct_lraised : Value}
    {f_law : Addr} {od_law an_law : Option Addr} {sl_law : Array (Option Value)} {oc_law kV_law dc_law pm_law cd_law ct_law : Value}
    {t_LATEST : Tok}
    {t_MOST_ENTRIES : Tok}
    {t_MOST_PASSED : Tok}
    {t_FEWEST_READERS : Tok}
    {t_MOST_READERS : Tok}
    {t_MOST_DAYS : Tok}
    {t_MOST_BOOKS : Tok}
    (aC : PySem.W.nsIn K mainGlobals "Ring" = some (some (.ref C)))
    (atC : PySem.W.nsIn K mainGlobals "Table" = some (some (.ref tC)))
    (acC : PySem.W.nsIn K mainGlobals "Course" = some (some (.ref cC)))
    (avC : PySem.W.nsIn K mainGlobals "LiveRing" = some (some (.ref vC)))
    (xc_iDiaryError : PySem.W.nsIn K mainGlobals "DiaryError" = some (some (.ref ec_iDiaryError)))
    (x_iDiaryError : PySem.W.findIn K (.ref ec_iDiaryError) "__init__" = some (some (.ref f_iDiaryError)))
    (xt_iDiaryError : PySem.W.typeIn K (.ref f_iDiaryError) = some (.type "function"))
    (xo_iDiaryError : oxB K ec_iDiaryError = true)
    (l_iDiaryError : K.lookup f_iDiaryError = some ⟨oc_iDiaryError, od_iDiaryError, .func (PySem.W.fnOf "__init__" "DiaryError.__init__" (defArgs s_iDiaryError) (defBody s_iDiaryError) (defScope s_iDiaryError) .none kV_iDiaryError dc_iDiaryError pm_iDiaryError an_iDiaryError cd_iDiaryError ct_iDiaryError), sl_iDiaryError⟩)
    (c_iDiaryError : PySem.W.codeIn K cd_iDiaryError "DiaryError.__init__" = true)
    (k_iDiaryError : PySem.W.keepIn K (.ref f_iDiaryError) = true)
    (x_is_number : PySem.W.nsIn K mainGlobals "is_number" = some (some (.ref f_is_number)))
    (l_is_number : K.lookup f_is_number = some ⟨oc_is_number, od_is_number, .func (PySem.W.fnOf "is_number" "is_number" (defArgs s_is_number) (defBody s_is_number) (defScope s_is_number) .none kV_is_number dc_is_number pm_is_number an_is_number cd_is_number ct_is_number), sl_is_number⟩)
    (c_is_number : PySem.W.codeIn K cd_is_number "is_number" = true)
    (k_is_number : PySem.W.keepIn K (.ref f_is_number) = true)
    (x_lies_between : PySem.W.nsIn K mainGlobals "lies_between" = some (some (.ref f_lies_between)))
    (l_lies_between : K.lookup f_lies_between = some ⟨oc_lies_between, od_lies_between, .func (PySem.W.fnOf "lies_between" "lies_between" (defArgs s_lies_between) (defBody s_lies_between) (defScope s_lies_between) .none kV_lies_between dc_lies_between pm_lies_between an_lies_between cd_lies_between ct_lies_between), sl_lies_between⟩)
    (c_lies_between : PySem.W.codeIn K cd_lies_between "lies_between" = true)
    (k_lies_between : PySem.W.keepIn K (.ref f_lies_between) = true)
    (x_check_number : PySem.W.nsIn K mainGlobals "check_number" = some (some (.ref f_check_number)))
    (l_check_number : K.lookup f_check_number = some ⟨oc_check_number, od_check_number, .func (PySem.W.fnOf "check_number" "check_number" (defArgs s_check_number) (defBody s_check_number) (defScope s_check_number) .none kV_check_number dc_check_number pm_check_number an_check_number cd_check_number ct_check_number), sl_check_number⟩)
    (c_check_number : PySem.W.codeIn K cd_check_number "check_number" = true)
    (k_check_number : PySem.W.keepIn K (.ref f_check_number) = true)
    (x_check_reader : PySem.W.nsIn K mainGlobals "check_reader" = some (some (.ref f_check_reader)))
    (l_check_reader : K.lookup f_check_reader = some ⟨oc_check_reader, od_check_reader, .func (PySem.W.fnOf "check_reader" "check_reader" (defArgs s_check_reader) (defBody s_check_reader) (defScope s_check_reader) .none kV_check_reader dc_check_reader pm_check_reader an_check_reader cd_check_reader ct_check_reader), sl_check_reader⟩)
    (c_check_reader : PySem.W.codeIn K cd_check_reader "check_reader" = true)
    (k_check_reader : PySem.W.keepIn K (.ref f_check_reader) = true)
    (x_rinit : PySem.W.findIn K (.ref C) "__init__" = some (some (.ref f_rinit)))
    (i_rinit : PySem.W.isFn K (.ref f_rinit) = true)
    (l_rinit : K.lookup f_rinit = some ⟨oc_rinit, od_rinit, .func (PySem.W.fnOf "__init__" "Ring.__init__" (defArgs s_rinit) (defBody s_rinit) (defScope s_rinit) .none kV_rinit dc_rinit pm_rinit an_rinit cd_rinit ct_rinit), sl_rinit⟩)
    (c_rinit : PySem.W.codeIn K cd_rinit "Ring.__init__" = true)
    (k_rinit : PySem.W.keepIn K (.ref f_rinit) = true)
    (pa_rdays : PySem.W.findIn K (.ref C) "days" = some (some (.ref pp_rdays)))
    (pg_rdays : PySem.W.specialIn K (.ref pp_rdays) "__get__" = some (some (.builtin "property.__get__")))
    (pt_rdays : PySem.W.takesIn K (.ref pp_rdays) = some true)
    (pr_rdays : PySem.W.recIn K pp_rdays "property" = some (.ref f_rdays :: re_rdays))
    (l_rdays : K.lookup f_rdays = some ⟨oc_rdays, od_rdays, .func (PySem.W.fnOf "days" "Ring.days" (defArgs s_rdays) (defBody s_rdays) (defScope s_rdays) .none kV_rdays dc_rdays pm_rdays an_rdays cd_rdays ct_rdays), sl_rdays⟩)
    (c_rdays : PySem.W.codeIn K cd_rdays "Ring.days" = true)
    (k_rdays : PySem.W.keepIn K (.ref f_rdays) = true)
    (pa_rstarts : PySem.W.findIn K (.ref C) "starts" = some (some (.ref pp_rstarts)))
    (pg_rstarts : PySem.W.specialIn K (.ref pp_rstarts) "__get__" = some (some (.builtin "property.__get__")))
    (pt_rstarts : PySem.W.takesIn K (.ref pp_rstarts) = some true)
    (pr_rstarts : PySem.W.recIn K pp_rstarts "property" = some (.ref f_rstarts :: re_rstarts))
    (l_rstarts : K.lookup f_rstarts = some ⟨oc_rstarts, od_rstarts, .func (PySem.W.fnOf "starts" "Ring.starts" (defArgs s_rstarts) (defBody s_rstarts) (defScope s_rstarts) .none kV_rstarts dc_rstarts pm_rstarts an_rstarts cd_rstarts ct_rstarts), sl_rstarts⟩)
    (c_rstarts : PySem.W.codeIn K cd_rstarts "Ring.starts" = true)
    (k_rstarts : PySem.W.keepIn K (.ref f_rstarts) = true)
    (pa_rbooks : PySem.W.findIn K (.ref C) "books" = some (some (.ref pp_rbooks)))
    (pg_rbooks : PySem.W.specialIn K (.ref pp_rbooks) "__get__" = some (some (.builtin "property.__get__")))
    (pt_rbooks : PySem.W.takesIn K (.ref pp_rbooks) = some true)
    (pr_rbooks : PySem.W.recIn K pp_rbooks "property" = some (.ref f_rbooks :: re_rbooks))
    (l_rbooks : K.lookup f_rbooks = some ⟨oc_rbooks, od_rbooks, .func (PySem.W.fnOf "books" "Ring.books" (defArgs s_rbooks) (defBody s_rbooks) (defScope s_rbooks) .none kV_rbooks dc_rbooks pm_rbooks an_rbooks cd_rbooks ct_rbooks), sl_rbooks⟩)
    (c_rbooks : PySem.W.codeIn K cd_rbooks "Ring.books" = true)
    (k_rbooks : PySem.W.keepIn K (.ref f_rbooks) = true)
    (pa_rpace : PySem.W.findIn K (.ref C) "pace" = some (some (.ref pp_rpace)))
    (pg_rpace : PySem.W.specialIn K (.ref pp_rpace) "__get__" = some (some (.builtin "property.__get__")))
    (pt_rpace : PySem.W.takesIn K (.ref pp_rpace) = some true)
    (pr_rpace : PySem.W.recIn K pp_rpace "property" = some (.ref f_rpace :: re_rpace))
    (l_rpace : K.lookup f_rpace = some ⟨oc_rpace, od_rpace, .func (PySem.W.fnOf "pace" "Ring.pace" (defArgs s_rpace) (defBody s_rpace) (defScope s_rpace) .none kV_rpace dc_rpace pm_rpace an_rpace cd_rpace ct_rpace), sl_rpace⟩)
    (c_rpace : PySem.W.codeIn K cd_rpace "Ring.pace" = true)
    (k_rpace : PySem.W.keepIn K (.ref f_rpace) = true)
    (x_rlen : PySem.W.findIn K (.ref C) "__len__" = some (some (.ref f_rlen)))
    (i_rlen : PySem.W.isFn K (.ref f_rlen) = true)
    (l_rlen : K.lookup f_rlen = some ⟨oc_rlen, od_rlen, .func (PySem.W.fnOf "__len__" "Ring.__len__" (defArgs s_rlen) (defBody s_rlen) (defScope s_rlen) .none kV_rlen dc_rlen pm_rlen an_rlen cd_rlen ct_rlen), sl_rlen⟩)
    (c_rlen : PySem.W.codeIn K cd_rlen "Ring.__len__" = true)
    (k_rlen : PySem.W.keepIn K (.ref f_rlen) = true)
    (x_rcall : PySem.W.findIn K (.ref C) "__call__" = some (some (.ref f_rcall)))
    (i_rcall : PySem.W.isFn K (.ref f_rcall) = true)
    (j_rcall : PySem.W.fnIn K f_rcall = true)
    (l_rcall : K.lookup f_rcall = some ⟨oc_rcall, od_rcall, .func (PySem.W.fnOf "__call__" "Ring.__call__" (defArgs s_rcall) (defBody s_rcall) (defScope s_rcall) .none kV_rcall dc_rcall pm_rcall an_rcall cd_rcall ct_rcall), sl_rcall⟩)
    (c_rcall : PySem.W.codeIn K cd_rcall "Ring.__call__" = true)
    (k_rcall : PySem.W.keepIn K (.ref f_rcall) = true)
    (x_check_part : PySem.W.nsIn K mainGlobals "check_part" = some (some (.ref f_check_part)))
    (l_check_part : K.lookup f_check_part = some ⟨oc_check_part, od_check_part, .func (PySem.W.fnOf "check_part" "check_part" (defArgs s_check_part) (defBody s_check_part) (defScope s_check_part) .none kV_check_part dc_check_part pm_check_part an_check_part cd_check_part ct_check_part), sl_check_part⟩)
    (c_check_part : PySem.W.codeIn K cd_check_part "check_part" = true)
    (k_check_part : PySem.W.keepIn K (.ref f_check_part) = true)
    (x_end_day : PySem.W.nsIn K mainGlobals "end_day" = some (some (.ref f_end_day)))
    (l_end_day : K.lookup f_end_day = some ⟨oc_end_day, od_end_day, .func (PySem.W.fnOf "end_day" "end_day" (defArgs s_end_day) (defBody s_end_day) (defScope s_end_day) .none kV_end_day dc_end_day pm_end_day an_end_day cd_end_day ct_end_day), sl_end_day⟩)
    (c_end_day : PySem.W.codeIn K cd_end_day "end_day" = true)
    (k_end_day : PySem.W.keepIn K (.ref f_end_day) = true)
    (x_book_of : PySem.W.nsIn K mainGlobals "book_of" = some (some (.ref f_book_of)))
    (l_book_of : K.lookup f_book_of = some ⟨oc_book_of, od_book_of, .func (PySem.W.fnOf "book_of" "book_of" (defArgs s_book_of) (defBody s_book_of) (defScope s_book_of) .none kV_book_of dc_book_of pm_book_of an_book_of cd_book_of ct_book_of), sl_book_of⟩)
    (c_book_of : PySem.W.codeIn K cd_book_of "book_of" = true)
    (k_book_of : PySem.W.keepIn K (.ref f_book_of) = true)
    (x_reader_before : PySem.W.nsIn K mainGlobals "reader_before" = some (some (.ref f_reader_before)))
    (l_reader_before : K.lookup f_reader_before = some ⟨oc_reader_before, od_reader_before, .func (PySem.W.fnOf "reader_before" "reader_before" (defArgs s_reader_before) (defBody s_reader_before) (defScope s_reader_before) .none kV_reader_before dc_reader_before pm_reader_before an_reader_before cd_reader_before ct_reader_before), sl_reader_before⟩)
    (c_reader_before : PySem.W.codeIn K cd_reader_before "reader_before" = true)
    (k_reader_before : PySem.W.keepIn K (.ref f_reader_before) = true)
    (x_reader_after : PySem.W.nsIn K mainGlobals "reader_after" = some (some (.ref f_reader_after)))
    (l_reader_after : K.lookup f_reader_after = some ⟨oc_reader_after, od_reader_after, .func (PySem.W.fnOf "reader_after" "reader_after" (defArgs s_reader_after) (defBody s_reader_after) (defScope s_reader_after) .none kV_reader_after dc_reader_after pm_reader_after an_reader_after cd_reader_after ct_reader_after), sl_reader_after⟩)
    (c_reader_after : PySem.W.codeIn K cd_reader_after "reader_after" = true)
    (k_reader_after : PySem.W.keepIn K (.ref f_reader_after) = true)
    (x_diary_of : PySem.W.nsIn K mainGlobals "diary_of" = some (some (.ref f_diary_of)))
    (l_diary_of : K.lookup f_diary_of = some ⟨oc_diary_of, od_diary_of, .func (PySem.W.fnOf "diary_of" "diary_of" (defArgs s_diary_of) (defBody s_diary_of) (defScope s_diary_of) .none kV_diary_of dc_diary_of pm_diary_of an_diary_of cd_diary_of ct_diary_of), sl_diary_of⟩)
    (c_diary_of : PySem.W.codeIn K cd_diary_of "diary_of" = true)
    (k_diary_of : PySem.W.keepIn K (.ref f_diary_of) = true)
    (x_mended : PySem.W.nsIn K mainGlobals "mended" = some (some (.ref f_mended)))
    (l_mended : K.lookup f_mended = some ⟨oc_mended, od_mended, .func (PySem.W.fnOf "mended" "mended" (defArgs s_mended) (defBody s_mended) (defScope s_mended) .none kV_mended dc_mended pm_mended an_mended cd_mended ct_mended), sl_mended⟩)
    (c_mended : PySem.W.codeIn K cd_mended "mended" = true)
    (k_mended : PySem.W.keepIn K (.ref f_mended) = true)
    (x_can_be : PySem.W.nsIn K mainGlobals "can_be" = some (some (.ref f_can_be)))
    (l_can_be : K.lookup f_can_be = some ⟨oc_can_be, od_can_be, .func (PySem.W.fnOf "can_be" "can_be" (defArgs s_can_be) (defBody s_can_be) (defScope s_can_be) .none kV_can_be dc_can_be pm_can_be an_can_be cd_can_be ct_can_be), sl_can_be⟩)
    (c_can_be : PySem.W.codeIn K cd_can_be "can_be" = true)
    (k_can_be : PySem.W.keepIn K (.ref f_can_be) = true)
    (x_is_same_number : PySem.W.nsIn K mainGlobals "is_same_number" = some (some (.ref f_is_same_number)))
    (l_is_same_number : K.lookup f_is_same_number = some ⟨oc_is_same_number, od_is_same_number, .func (PySem.W.fnOf "is_same_number" "is_same_number" (defArgs s_is_same_number) (defBody s_is_same_number) (defScope s_is_same_number) .none kV_is_same_number dc_is_same_number pm_is_same_number an_is_same_number cd_is_same_number ct_is_same_number), sl_is_same_number⟩)
    (c_is_same_number : PySem.W.codeIn K cd_is_same_number "is_same_number" = true)
    (k_is_same_number : PySem.W.keepIn K (.ref f_is_same_number) = true)
    (x_tinit : PySem.W.findIn K (.ref tC) "__init__" = some (some (.ref f_tinit)))
    (i_tinit : PySem.W.isFn K (.ref f_tinit) = true)
    (l_tinit : K.lookup f_tinit = some ⟨oc_tinit, od_tinit, .func (PySem.W.fnOf "__init__" "Table.__init__" (defArgs s_tinit) (defBody s_tinit) (defScope s_tinit) .none kV_tinit dc_tinit pm_tinit an_tinit cd_tinit ct_tinit), sl_tinit⟩)
    (c_tinit : PySem.W.codeIn K cd_tinit "Table.__init__" = true)
    (k_tinit : PySem.W.keepIn K (.ref f_tinit) = true)
    (x_first_table : PySem.W.nsIn K mainGlobals "first_table" = some (some (.ref f_first_table)))
    (l_first_table : K.lookup f_first_table = some ⟨oc_first_table, od_first_table, .func (PySem.W.fnOf "first_table" "first_table" (defArgs s_first_table) (defBody s_first_table) (defScope s_first_table) .none kV_first_table dc_first_table pm_first_table an_first_table cd_first_table ct_first_table), sl_first_table⟩)
    (c_first_table : PySem.W.codeIn K cd_first_table "first_table" = true)
    (k_first_table : PySem.W.keepIn K (.ref f_first_table) = true)
    (x_copied_table : PySem.W.nsIn K mainGlobals "copied_table" = some (some (.ref f_copied_table)))
    (l_copied_table : K.lookup f_copied_table = some ⟨oc_copied_table, od_copied_table, .func (PySem.W.fnOf "copied_table" "copied_table" (defArgs s_copied_table) (defBody s_copied_table) (defScope s_copied_table) .none kV_copied_table dc_copied_table pm_copied_table an_copied_table cd_copied_table ct_copied_table), sl_copied_table⟩)
    (c_copied_table : PySem.W.codeIn K cd_copied_table "copied_table" = true)
    (k_copied_table : PySem.W.keepIn K (.ref f_copied_table) = true)
    (x_begin_readings : PySem.W.nsIn K mainGlobals "begin_readings" = some (some (.ref f_begin_readings)))
    (l_begin_readings : K.lookup f_begin_readings = some ⟨oc_begin_readings, od_begin_readings, .func (PySem.W.fnOf "begin_readings" "begin_readings" (defArgs s_begin_readings) (defBody s_begin_readings) (defScope s_begin_readings) .none kV_begin_readings dc_begin_readings pm_begin_readings an_begin_readings cd_begin_readings ct_begin_readings), sl_begin_readings⟩)
    (c_begin_readings : PySem.W.codeIn K cd_begin_readings "begin_readings" = true)
    (k_begin_readings : PySem.W.keepIn K (.ref f_begin_readings) = true)
    (x_end_readings : PySem.W.nsIn K mainGlobals "end_readings" = some (some (.ref f_end_readings)))
    (l_end_readings : K.lookup f_end_readings = some ⟨oc_end_readings, od_end_readings, .func (PySem.W.fnOf "end_readings" "end_readings" (defArgs s_end_readings) (defBody s_end_readings) (defScope s_end_readings) .none kV_end_readings dc_end_readings pm_end_readings an_end_readings cd_end_readings ct_end_readings), sl_end_readings⟩)
    (c_end_readings : PySem.W.codeIn K cd_end_readings "end_readings" = true)
    (k_end_readings : PySem.W.keepIn K (.ref f_end_readings) = true)
    (x_put_book : PySem.W.nsIn K mainGlobals "put_book" = some (some (.ref f_put_book)))
    (l_put_book : K.lookup f_put_book = some ⟨oc_put_book, od_put_book, .func (PySem.W.fnOf "put_book" "put_book" (defArgs s_put_book) (defBody s_put_book) (defScope s_put_book) .none kV_put_book dc_put_book pm_put_book an_put_book cd_put_book ct_put_book), sl_put_book⟩)
    (c_put_book : PySem.W.codeIn K cd_put_book "put_book" = true)
    (k_put_book : PySem.W.keepIn K (.ref f_put_book) = true)
    (x_let_pass : PySem.W.nsIn K mainGlobals "let_pass" = some (some (.ref f_let_pass)))
    (l_let_pass : K.lookup f_let_pass = some ⟨oc_let_pass, od_let_pass, .func (PySem.W.fnOf "let_pass" "let_pass" (defArgs s_let_pass) (defBody s_let_pass) (defScope s_let_pass) .none kV_let_pass dc_let_pass pm_let_pass an_let_pass cd_let_pass ct_let_pass), sl_let_pass⟩)
    (c_let_pass : PySem.W.codeIn K cd_let_pass "let_pass" = true)
    (k_let_pass : PySem.W.keepIn K (.ref f_let_pass) = true)
    (x_is_operation : PySem.W.nsIn K mainGlobals "is_operation" = some (some (.ref f_is_operation)))
    (l_is_operation : K.lookup f_is_operation = some ⟨oc_is_operation, od_is_operation, .func (PySem.W.fnOf "is_operation" "is_operation" (defArgs s_is_operation) (defBody s_is_operation) (defScope s_is_operation) .none kV_is_operation dc_is_operation pm_is_operation an_is_operation cd_is_operation ct_is_operation), sl_is_operation⟩)
    (c_is_operation : PySem.W.codeIn K cd_is_operation "is_operation" = true)
    (k_is_operation : PySem.W.keepIn K (.ref f_is_operation) = true)
    (x_carry_out : PySem.W.nsIn K mainGlobals "carry_out" = some (some (.ref f_carry_out)))
    (l_carry_out : K.lookup f_carry_out = some ⟨oc_carry_out, od_carry_out, .func (PySem.W.fnOf "carry_out" "carry_out" (defArgs s_carry_out) (defBody s_carry_out) (defScope s_carry_out) .none kV_carry_out dc_carry_out pm_carry_out an_carry_out cd_carry_out ct_carry_out), sl_carry_out⟩)
    (c_carry_out : PySem.W.codeIn K cd_carry_out "carry_out" = true)
    (k_carry_out : PySem.W.keepIn K (.ref f_carry_out) = true)
    (x_cinit : PySem.W.findIn K (.ref cC) "__init__" = some (some (.ref f_cinit)))
    (i_cinit : PySem.W.isFn K (.ref f_cinit) = true)
    (l_cinit : K.lookup f_cinit = some ⟨oc_cinit, od_cinit, .func (PySem.W.fnOf "__init__" "Course.__init__" (defArgs s_cinit) (defBody s_cinit) (defScope s_cinit) .none kV_cinit dc_cinit pm_cinit an_cinit cd_cinit ct_cinit), sl_cinit⟩)
    (c_cinit : PySem.W.codeIn K cd_cinit "Course.__init__" = true)
    (k_cinit : PySem.W.keepIn K (.ref f_cinit) = true)
    (x_vinit : PySem.W.findIn K (.ref vC) "__init__" = some (some (.ref f_vinit)))
    (i_vinit : PySem.W.isFn K (.ref f_vinit) = true)
    (l_vinit : K.lookup f_vinit = some ⟨oc_vinit, od_vinit, .func (PySem.W.fnOf "__init__" "LiveRing.__init__" (defArgs s_vinit) (defBody s_vinit) (defScope s_vinit) .none kV_vinit dc_vinit pm_vinit an_vinit cd_vinit ct_vinit), sl_vinit⟩)
    (c_vinit : PySem.W.codeIn K cd_vinit "LiveRing.__init__" = true)
    (k_vinit : PySem.W.keepIn K (.ref f_vinit) = true)
    (x_vpass_days : PySem.W.findIn K (.ref vC) "pass_days" = some (some (.ref f_vpass_days)))
    (i_vpass_days : PySem.W.isFn K (.ref f_vpass_days) = true)
    (l_vpass_days : K.lookup f_vpass_days = some ⟨oc_vpass_days, od_vpass_days, .func (PySem.W.fnOf "pass_days" "LiveRing.pass_days" (defArgs s_vpass_days) (defBody s_vpass_days) (defScope s_vpass_days) .none kV_vpass_days dc_vpass_days pm_vpass_days an_vpass_days cd_vpass_days ct_vpass_days), sl_vpass_days⟩)
    (c_vpass_days : PySem.W.codeIn K cd_vpass_days "LiveRing.pass_days" = true)
    (k_vpass_days : PySem.W.keepIn K (.ref f_vpass_days) = true)
    (x_vapply : PySem.W.findIn K (.ref vC) "apply" = some (some (.ref f_vapply)))
    (i_vapply : PySem.W.isFn K (.ref f_vapply) = true)
    (l_vapply : K.lookup f_vapply = some ⟨oc_vapply, od_vapply, .func (PySem.W.fnOf "apply" "LiveRing.apply" (defArgs s_vapply) (defBody s_vapply) (defScope s_vapply) .none kV_vapply dc_vapply pm_vapply an_vapply cd_vapply ct_vapply), sl_vapply⟩)
    (c_vapply : PySem.W.codeIn K cd_vapply "LiveRing.apply" = true)
    (k_vapply : PySem.W.keepIn K (.ref f_vapply) = true)
    (x_executed : PySem.W.nsIn K mainGlobals "executed" = some (some (.ref f_executed)))
    (l_executed : K.lookup f_executed = some ⟨oc_executed, od_executed, .func (PySem.W.fnOf "executed" "executed" (defArgs s_executed) (defBody s_executed) (defScope s_executed) .none kV_executed dc_executed pm_executed an_executed cd_executed ct_executed), sl_executed⟩)
    (c_executed : PySem.W.codeIn K cd_executed "executed" = true)
    (k_executed : PySem.W.keepIn K (.ref f_executed) = true)
    (x_ltaken : PySem.W.nsIn K mainGlobals "_law_taken" = some (some (.ref f_ltaken)))
    (l_ltaken : K.lookup f_ltaken = some ⟨oc_ltaken, od_ltaken, .func (PySem.W.fnOf "_law_taken" "_law_taken" (defArgs s_ltaken) (defBody s_ltaken) (defScope s_ltaken) .none kV_ltaken dc_ltaken pm_ltaken an_ltaken cd_ltaken ct_ltaken), sl_ltaken⟩)
    (c_ltaken : PySem.W.codeIn K cd_ltaken "_law_taken" = true)
    (k_ltaken : PySem.W.keepIn K (.ref f_ltaken) = true)
    (x_lparts : PySem.W.nsIn K mainGlobals "_law_parts" = some (some (.ref f_lparts)))
    (l_lparts : K.lookup f_lparts = some ⟨oc_lparts, od_lparts, .func (PySem.W.fnOf "_law_parts" "_law_parts" (defArgs s_lparts) (defBody s_lparts) (defScope s_lparts) .none kV_lparts dc_lparts pm_lparts an_lparts cd_lparts ct_lparts), sl_lparts⟩)
    (c_lparts : PySem.W.codeIn K cd_lparts "_law_parts" = true)
    (k_lparts : PySem.W.keepIn K (.ref f_lparts) = true)
    (x_lbegin : PySem.W.nsIn K mainGlobals "_law_begin" = some (some (.ref f_lbegin)))
    (l_lbegin : K.lookup f_lbegin = some ⟨oc_lbegin, od_lbegin, .func (PySem.W.fnOf "_law_begin" "_law_begin" (defArgs s_lbegin) (defBody s_lbegin) (defScope s_lbegin) .none kV_lbegin dc_lbegin pm_lbegin an_lbegin cd_lbegin ct_lbegin), sl_lbegin⟩)
    (c_lbegin : PySem.W.codeIn K cd_lbegin "_law_begin" = true)
    (k_lbegin : PySem.W.keepIn K (.ref f_lbegin) = true)
    (x_lfirst : PySem.W.nsIn K mainGlobals "_law_first" = some (some (.ref f_lfirst)))
    (l_lfirst : K.lookup f_lfirst = some ⟨oc_lfirst, od_lfirst, .func (PySem.W.fnOf "_law_first" "_law_first" (defArgs s_lfirst) (defBody s_lfirst) (defScope s_lfirst) .none kV_lfirst dc_lfirst pm_lfirst an_lfirst cd_lfirst ct_lfirst), sl_lfirst⟩)
    (c_lfirst : PySem.W.codeIn K cd_lfirst "_law_first" = true)
    (k_lfirst : PySem.W.keepIn K (.ref f_lfirst) = true)
    (x_lday : PySem.W.nsIn K mainGlobals "_law_day" = some (some (.ref f_lday)))
    (l_lday : K.lookup f_lday = some ⟨oc_lday, od_lday, .func (PySem.W.fnOf "_law_day" "_law_day" (defArgs s_lday) (defBody s_lday) (defScope s_lday) .none kV_lday dc_lday pm_lday an_lday cd_lday ct_lday), sl_lday⟩)
    (c_lday : PySem.W.codeIn K cd_lday "_law_day" = true)
    (k_lday : PySem.W.keepIn K (.ref f_lday) = true)
    (x_ldiary : PySem.W.nsIn K mainGlobals "_law_diary" = some (some (.ref f_ldiary)))
    (l_ldiary : K.lookup f_ldiary = some ⟨oc_ldiary, od_ldiary, .func (PySem.W.fnOf "_law_diary" "_law_diary" (defArgs s_ldiary) (defBody s_ldiary) (defScope s_ldiary) .none kV_ldiary dc_ldiary pm_ldiary an_ldiary cd_ldiary ct_ldiary), sl_ldiary⟩)
    (c_ldiary : PySem.W.codeIn K cd_ldiary "_law_diary" = true)
    (k_ldiary : PySem.W.keepIn K (.ref f_ldiary) = true)
    (x_lraised : PySem.W.nsIn K mainGlobals "_law_raised" = some (some (.ref f_lraised)))
    (l_lraised : K.lookup f_lraised = some ⟨oc_lraised, od_lraised, .func (PySem.W.fnOf "_law_raised" "_law_raised" (defArgs s_lraised) (defBody s_lraised) (defScope s_lraised) .none kV_lraised dc_lraised pm_lraised an_lraised cd_lraised ct_lraised), sl_lraised⟩)
    (c_lraised : PySem.W.codeIn K cd_lraised "_law_raised" = true)
    (k_lraised : PySem.W.keepIn K (.ref f_lraised) = true)
    (x_law : PySem.W.nsIn K mainGlobals "law" = some (some (.ref f_law)))
    (l_law : K.lookup f_law = some ⟨oc_law, od_law, .func (PySem.W.fnOf "law" "law" (defArgs s_law) (defBody s_law) (defScope s_law) .none kV_law dc_law pm_law an_law cd_law ct_law), sl_law⟩)
    (c_law : PySem.W.codeIn K cd_law "law" = true)
    (k_law : PySem.W.keepIn K (.ref f_law) = true)
    (pgtC : PySem.W.plainGet K tC Str.empty = true)
    (hdtC : PySem.W.hasDictIn K tC = true)
    (potC : PySem.W.plainOver K tC = true)
    (satC : PySem.W.findIn K (.ref tC) "__setattr__" = some (some (.builtin "object.__setattr__")))
    (mktC : PySem.W.makesIn K tC = true)
    (ktC : PySem.W.keepIn K (.ref tC) = true)
    (ntC_ring : PySem.W.findIn K (.ref tC) "ring" = some none)
    (ntC_day : PySem.W.findIn K (.ref tC) "day" = some none)
    (ntC_heaps : PySem.W.findIn K (.ref tC) "heaps" = some none)
    (ntC_current : PySem.W.findIn K (.ref tC) "current" = some none)
    (ntC_coming : PySem.W.findIn K (.ref tC) "coming" = some none)
    (pgcC : PySem.W.plainGet K cC Str.empty = true)
    (hdcC : PySem.W.hasDictIn K cC = true)
    (pocC : PySem.W.plainOver K cC = true)
    (sacC : PySem.W.findIn K (.ref cC) "__setattr__" = some (some (.builtin "object.__setattr__")))
    (mkcC : PySem.W.makesIn K cC = true)
    (kcC : PySem.W.keepIn K (.ref cC) = true)
    (ncC_tables : PySem.W.findIn K (.ref cC) "tables" = some none)
    (ncC_operations : PySem.W.findIn K (.ref cC) "operations" = some none)
    (ncC_undone : PySem.W.findIn K (.ref cC) "undone" = some none)
    (pgvC : PySem.W.plainGet K vC Str.empty = true)
    (hdvC : PySem.W.hasDictIn K vC = true)
    (povC : PySem.W.plainOver K vC = true)
    (savC : PySem.W.findIn K (.ref vC) "__setattr__" = some (some (.builtin "object.__setattr__")))
    (mkvC : PySem.W.makesIn K vC = true)
    (kvC : PySem.W.keepIn K (.ref vC) = true)
    (nvC__course : PySem.W.findIn K (.ref vC) "_course" = some none)
    (nvC__kept : PySem.W.findIn K (.ref vC) "_kept" = some none)
    (pgC : PySem.W.plainGet K C Str.empty = true)
    (hdC : PySem.W.hasDictIn K C = true)
    (poC : PySem.W.plainOver K C = true)
    (saC : PySem.W.findIn K (.ref C) "__setattr__" = some (some (.builtin "object.__setattr__")))
    (mkC : PySem.W.makesIn K C = true)
    (kC : PySem.W.keepIn K (.ref C) = true)
    (nD : PySem.W.findIn K (.ref C) "_days" = some none)
    (nS : PySem.W.findIn K (.ref C) "_starts" = some none)
    (v_LATEST : PySem.W.nsIn K mainGlobals "LATEST" = some (some (.int 1000000000000000000 t_LATEST)))
    (v_MOST_ENTRIES : PySem.W.nsIn K mainGlobals "MOST_ENTRIES" = some (some (.int 500 t_MOST_ENTRIES)))
    (v_MOST_PASSED : PySem.W.nsIn K mainGlobals "MOST_PASSED" = some (some (.int 400 t_MOST_PASSED)))
    (v_FEWEST_READERS : PySem.W.nsIn K mainGlobals "FEWEST_READERS" = some (some (.int 2 t_FEWEST_READERS)))
    (v_MOST_READERS : PySem.W.nsIn K mainGlobals "MOST_READERS" = some (some (.int 8 t_MOST_READERS)))
    (v_MOST_DAYS : PySem.W.nsIn K mainGlobals "MOST_DAYS" = some (some (.int 30 t_MOST_DAYS)))
    (v_MOST_BOOKS : PySem.W.nsIn K mainGlobals "MOST_BOOKS" = some (some (.int 12 t_MOST_BOOKS)))
    (z_len : PySem.W.nsIn K mainGlobals "len" = some none)
    (z_sum : PySem.W.nsIn K mainGlobals "sum" = some none)
    (z_max : PySem.W.nsIn K mainGlobals "max" = some none)
    (z_min : PySem.W.nsIn K mainGlobals "min" = some none)
    (z_range : PySem.W.nsIn K mainGlobals "range" = some none)
    (z_int : PySem.W.nsIn K mainGlobals "int" = some none)
    (z_bool : PySem.W.nsIn K mainGlobals "bool" = some none)
    (z_isinstance : PySem.W.nsIn K mainGlobals "isinstance" = some none)
    (z_tuple : PySem.W.nsIn K mainGlobals "tuple" = some none)
    (z_enumerate : PySem.W.nsIn K mainGlobals "enumerate" = some none)
    (z_list : PySem.W.nsIn K mainGlobals "list" = some none)
    (z_str : PySem.W.nsIn K mainGlobals "str" = some none)
    (z_sorted : PySem.W.nsIn K mainGlobals "sorted" = some none)
    (z_zip : PySem.W.nsIn K mainGlobals "zip" = some none)
    (z_all : PySem.W.nsIn K mainGlobals "all" = some none)
    (own : LamX.OwnTab K fa h)
    {dA dB : Addr} {t_dB : Tok}
    {c_tb P_tb : Addr} {e_tb : Value} {dd_tb : Option Addr} {vs_tb : Array Value} {sl_tb : Array (Option Value)}
    {e0 e1 e2 e3 e4 e5 eE : Addr}
    (tb_c : cd_law = .ref c_tb)
    (tb_l : K.lookup c_tb = some ⟨e_tb, dd_tb, .fields vs_tb, sl_tb⟩)
    (tb_p : vs_tb[11]? = some (.ref P_tb))
    (tb_h : PySem.W.codeHdIn K c_tb P_tb = true)
    (tb_n : K.lookup P_tb = none)
    (x_e0 : PySem.W.nsIn K mainGlobals "BeingRead" = some (some (.ref e0)))
    (x_e1 : PySem.W.nsIn K mainGlobals "InvalidNumber" = some (some (.ref e1)))
    (x_e2 : PySem.W.nsIn K mainGlobals "UnknownBook" = some (some (.ref e2)))
    (x_e3 : PySem.W.nsIn K mainGlobals "Contradiction" = some (some (.ref e3)))
    (x_e4 : PySem.W.nsIn K mainGlobals "InvalidOperation" = some (some (.ref e4)))
    (x_e5 : PySem.W.nsIn K mainGlobals "DiaryError" = some (some (.ref e5)))
    (x_eE : PySem.W.nsIn K mainGlobals "ReadingError" = some (some (.ref eE)))
    (z_VE : PySem.W.nsIn K mainGlobals "ValueError" = some none)
    (xc_n : PySem.W.specialIn K (.builtin "object.__class__") "__get__" = some (some (.builtin "getset_descriptor.__get__")))
    (xc_t : PySem.W.takesIn K (.builtin "object.__class__") = some true)
    (xs1 : PySem.W.subIn K (.ref e1) (.type "BaseException") = some true)
    (xi1 : PySem.W.excIn K e1 [.type "ValueError", .type "Exception", .type "BaseException", .type "object"] "ValueError.__new__" = true)
    (xt1 : PySem.W.typeIn K (.ref e1) = some (.type "type"))
    (xp1 : PySem.W.keepIn K (.ref e1) = true)
    (x_dA : PySem.W.nsIn K mainGlobals "ACTIONS" = some (some (.ref dA)))
    (x_dB : PySem.W.nsIn K mainGlobals "ARGUMENTS" = some (some (.ref dB)))
    (w_dA : He.dicW K dA = some (He.keysIn w.params ["pass_days", "add", "set_days", "take"]))
    (w_dB : He.dicW K dB = some (He.keysIn w.params ["pass_days", "add", "set_days", "take"]))
    (p_dA : PySem.W.nsIn K dA "pass_days" = some (some (.ref f_let_pass)))
    (p_dB : PySem.W.nsIn K dB "pass_days" = some (some (.int 1 t_dB)))
    (xg5 : PySem.W.findIn K (.ref e5) "__getattribute__" = some (some (.builtin "BaseException.__getattribute__")))
    (xk5 : PySem.W.findIn K (.ref e5) "__getattr__" = some none)
    (xs5 : PySem.W.subIn K (.ref e5) (.type "BaseException") = some true)
    (xd5 : PySem.W.hasDictIn K e5 = true)
    (xa5 : PySem.W.findIn K (.ref e5) "__class__" = some (some (.builtin "object.__class__")))
    (xm5 : PySem.W.mroIn K e5 (.type "object") = some true)
    (xx5 : PySem.W.exmOne K (.ref e5) (.ref eE) = some true)
    (xq5_0 : PySem.W.kitOne K (.ref e5) (.ref e0) = some false)
    (xq5_1 : PySem.W.kitOne K (.ref e5) (.ref e1) = some false)
    (xq5_2 : PySem.W.kitOne K (.ref e5) (.ref e2) = some false)
    (xq5_3 : PySem.W.kitOne K (.ref e5) (.ref e3) = some false)
    (xq5_4 : PySem.W.kitOne K (.ref e5) (.ref e4) = some false)
    (xq5_5 : PySem.W.kitOne K (.ref e5) (.ref e5) = some true)
    (xv5 : PySem.W.kitOne K (.ref e5) (.type "ValueError") = some true)
    (xt5 : PySem.W.typeIn K (.ref e5) = some (.type "type"))
    (xn5 : PySem.W.findIn K (.ref e5) "entry" = some none)
    (xr1 : PySem.W.readsIn K eE (.type "type") = true)
    (xr2 : PySem.W.specialIn K (.ref eE) "__getattribute__" = some (some (.builtin "type.__getattribute__")))
    (xr3 : PySem.W.findCls K (.ref eE) (.type "type") "__init__" = some (.val (.builtin "ValueError.__init__")))
    : LamX.LawAtS l w K CX0 14 63 "_law_script" mg fa h := by
  have e := hfa.symm.trans (PySem.W.mg_of X G x_law)
  cases e
  have F_iDiaryError := fun_mk (st := s_iDiaryError) l_iDiaryError c_iDiaryError k_iDiaryError
  have b_iDiaryError := F_iDiaryError.binds (ps := P_iDiaryError) fun _ _ _ _ _ _ us hl => match us, hl with | [_, _], _ => rfl
  have F_is_number := fun_mk (st := s_is_number) l_is_number c_is_number k_is_number
  have b_is_number := F_is_number.binds (ps := P_is_number) fun _ _ _ _ _ _ us hl => match us, hl with | [_], _ => rfl
  have F_lies_between := fun_mk (st := s_lies_between) l_lies_between c_lies_between k_lies_between
  have b_lies_between := F_lies_between.binds (ps := P_lies_between) fun _ _ _ _ _ _ us hl => match us, hl with | [_, _, _], _ => rfl
  have F_check_number := fun_mk (st := s_check_number) l_check_number c_check_number k_check_number
  have b_check_number := F_check_number.binds (ps := P_check_number) fun _ _ _ _ _ _ us hl => match us, hl with | [_, _, _], _ => rfl
  have F_check_reader := fun_mk (st := s_check_reader) l_check_reader c_check_reader k_check_reader
  have b_check_reader := F_check_reader.binds (ps := P_check_reader) fun _ _ _ _ _ _ us hl => match us, hl with | [_, _], _ => rfl
  have F_rinit := fun_mk (st := s_rinit) l_rinit c_rinit k_rinit
  have b_rinit := F_rinit.binds (ps := P_rinit) fun _ _ _ _ _ _ us hl => match us, hl with | [_, _, _], _ => rfl
  have F_rdays := fun_mk (st := s_rdays) l_rdays c_rdays k_rdays
  have b_rdays := F_rdays.binds (ps := P_rdays) fun _ _ _ _ _ _ us hl => match us, hl with | [_], _ => rfl
  have F_rstarts := fun_mk (st := s_rstarts) l_rstarts c_rstarts k_rstarts
  have b_rstarts := F_rstarts.binds (ps := P_rstarts) fun _ _ _ _ _ _ us hl => match us, hl with | [_], _ => rfl
  have F_rbooks := fun_mk (st := s_rbooks) l_rbooks c_rbooks k_rbooks
  have b_rbooks := F_rbooks.binds (ps := P_rbooks) fun _ _ _ _ _ _ us hl => match us, hl with | [_], _ => rfl
  have F_rpace := fun_mk (st := s_rpace) l_rpace c_rpace k_rpace
  have b_rpace := F_rpace.binds (ps := P_rpace) fun _ _ _ _ _ _ us hl => match us, hl with | [_], _ => rfl
  have F_rlen := fun_mk (st := s_rlen) l_rlen c_rlen k_rlen
  have b_rlen := F_rlen.binds (ps := P_rlen) fun _ _ _ _ _ _ us hl => match us, hl with | [_], _ => rfl
  have F_rcall := fun_mk (st := s_rcall) l_rcall c_rcall k_rcall
  have b_rcall := F_rcall.binds (ps := P_rcall) fun _ _ _ _ _ _ us hl => match us, hl with | [_, _, _], _ => rfl
  have F_check_part := fun_mk (st := s_check_part) l_check_part c_check_part k_check_part
  have b_check_part := F_check_part.binds (ps := P_check_part) fun _ _ _ _ _ _ us hl => match us, hl with | [_, _, _, _], _ => rfl
  have F_end_day := fun_mk (st := s_end_day) l_end_day c_end_day k_end_day
  have b_end_day := F_end_day.binds (ps := P_end_day) fun _ _ _ _ _ _ us hl => match us, hl with | [_, _, _], _ => rfl
  have F_book_of := fun_mk (st := s_book_of) l_book_of c_book_of k_book_of
  have b_book_of := F_book_of.binds (ps := P_book_of) fun _ _ _ _ _ _ us hl => match us, hl with | [_, _, _], _ => rfl
  have F_reader_before := fun_mk (st := s_reader_before) l_reader_before c_reader_before k_reader_before
  have b_reader_before := F_reader_before.binds (ps := P_reader_before) fun _ _ _ _ _ _ us hl => match us, hl with | [_, _], _ => rfl
  have F_reader_after := fun_mk (st := s_reader_after) l_reader_after c_reader_after k_reader_after
  have b_reader_after := F_reader_after.binds (ps := P_reader_after) fun _ _ _ _ _ _ us hl => match us, hl with | [_, _], _ => rfl
  have F_diary_of := fun_mk (st := s_diary_of) l_diary_of c_diary_of k_diary_of
  have b_diary_of := F_diary_of.binds (ps := P_diary_of) fun _ _ _ _ _ _ us hl => match us, hl with | [_, _], _ => rfl
  have F_mended := fun_mk (st := s_mended) l_mended c_mended k_mended
  have b_mended := F_mended.binds (ps := P_mended) fun _ _ _ _ _ _ us hl => match us, hl with | [_, _], _ => rfl
  have F_can_be := fun_mk (st := s_can_be) l_can_be c_can_be k_can_be
  have b_can_be := F_can_be.binds (ps := P_can_be) fun _ _ _ _ _ _ us hl => match us, hl with | [_, _], _ => rfl
  have F_is_same_number := fun_mk (st := s_is_same_number) l_is_same_number c_is_same_number k_is_same_number
  have b_is_same_number := F_is_same_number.binds (ps := P_is_same_number) fun _ _ _ _ _ _ us hl => match us, hl with | [_, _], _ => rfl
  have F_tinit := fun_mk (st := s_tinit) l_tinit c_tinit k_tinit
  have b_tinit := F_tinit.binds (ps := P_tinit) fun _ _ _ _ _ _ us hl => match us, hl with | [_, _, _, _, _, _], _ => rfl
  have F_first_table := fun_mk (st := s_first_table) l_first_table c_first_table k_first_table
  have b_first_table := F_first_table.binds (ps := P_first_table) fun _ _ _ _ _ _ us hl => match us, hl with | [_], _ => rfl
  have F_copied_table := fun_mk (st := s_copied_table) l_copied_table c_copied_table k_copied_table
  have b_copied_table := F_copied_table.binds (ps := P_copied_table) fun _ _ _ _ _ _ us hl => match us, hl with | [_], _ => rfl
  have F_begin_readings := fun_mk (st := s_begin_readings) l_begin_readings c_begin_readings k_begin_readings
  have b_begin_readings := F_begin_readings.binds (ps := P_begin_readings) fun _ _ _ _ _ _ us hl => match us, hl with | [_], _ => rfl
  have F_end_readings := fun_mk (st := s_end_readings) l_end_readings c_end_readings k_end_readings
  have b_end_readings := F_end_readings.binds (ps := P_end_readings) fun _ _ _ _ _ _ us hl => match us, hl with | [_], _ => rfl
  have F_put_book := fun_mk (st := s_put_book) l_put_book c_put_book k_put_book
  have b_put_book := F_put_book.binds (ps := P_put_book) fun _ _ _ _ _ _ us hl => match us, hl with | [_, _, _], _ => rfl
  have F_let_pass := fun_mk (st := s_let_pass) l_let_pass c_let_pass k_let_pass
  have b_let_pass := F_let_pass.binds (ps := P_let_pass) fun _ _ _ _ _ _ us hl => match us, hl with | [_, _], _ => rfl
  have F_is_operation := fun_mk (st := s_is_operation) l_is_operation c_is_operation k_is_operation
  have b_is_operation := F_is_operation.binds (ps := P_is_operation) fun _ _ _ _ _ _ us hl => match us, hl with | [_], _ => rfl
  have F_carry_out := fun_mk (st := s_carry_out) l_carry_out c_carry_out k_carry_out
  have b_carry_out := F_carry_out.binds (ps := P_carry_out) fun _ _ _ _ _ _ us hl => match us, hl with | [_, _], _ => rfl
  have F_cinit := fun_mk (st := s_cinit) l_cinit c_cinit k_cinit
  have b_cinit := F_cinit.binds (ps := P_cinit) fun _ _ _ _ _ _ us hl => match us, hl with | [_, _, _, _], _ => rfl
  have F_vinit := fun_mk (st := s_vinit) l_vinit c_vinit k_vinit
  have b_vinit := F_vinit.binds (ps := P_vinit) fun _ _ _ _ _ _ us hl => match us, hl with | [_, _], _ => rfl
  have F_vpass_days := fun_mk (st := s_vpass_days) l_vpass_days c_vpass_days k_vpass_days
  have b_vpass_days := F_vpass_days.binds (ps := P_vpass_days) fun _ _ _ _ _ _ us hl => match us, hl with | [_, _], _ => rfl
  have F_vapply := fun_mk (st := s_vapply) l_vapply c_vapply k_vapply
  have F_executed := fun_mk (st := s_executed) l_executed c_executed k_executed
  have b_executed := F_executed.binds (ps := P_executed) fun _ _ _ _ _ _ us hl => match us, hl with | [_, _], _ => rfl
  have F_ltaken := fun_mk (st := s_ltaken) l_ltaken c_ltaken k_ltaken
  have b_ltaken := F_ltaken.binds (ps := P_ltaken) fun _ _ _ _ _ _ us hl => match us, hl with | [_, _], _ => rfl
  have F_lparts := fun_mk (st := s_lparts) l_lparts c_lparts k_lparts
  have b_lparts := F_lparts.binds (ps := P_lparts) fun _ _ _ _ _ _ us hl => match us, hl with | [_, _], _ => rfl
  have F_lbegin := fun_mk (st := s_lbegin) l_lbegin c_lbegin k_lbegin
  have b_lbegin := F_lbegin.binds (ps := P_lbegin) fun _ _ _ _ _ _ us hl => match us, hl with | [_], _ => rfl
  have F_lfirst := fun_mk (st := s_lfirst) l_lfirst c_lfirst k_lfirst
  have b_lfirst := F_lfirst.binds (ps := P_lfirst) fun _ _ _ _ _ _ us hl => match us, hl with | [_], _ => rfl
  have F_lday := fun_mk (st := s_lday) l_lday c_lday k_lday
  have b_lday := F_lday.binds (ps := P_lday) fun _ _ _ _ _ _ us hl => match us, hl with | [_], _ => rfl
  have F_ldiary := fun_mk (st := s_ldiary) l_ldiary c_ldiary k_ldiary
  have b_ldiary := F_ldiary.binds (ps := P_ldiary) fun _ _ _ _ _ _ us hl => match us, hl with | [_, _], _ => rfl
  have F_lraised := fun_mk (st := s_lraised) l_lraised c_lraised k_lraised
  have b_lraised := F_lraised.binds (ps := P_lraised) fun _ _ _ _ _ _ us hl => match us, hl with | [_], _ => rfl
  have F_law := fun_mk (st := s_law) l_law c_law k_law
  have b_law := F_law.binds (ps := P_law) fun _ _ _ _ _ _ us hl => match us, hl with | [_], _ => rfl
  cases tb_c
  refine ⟨PySem.W.fnOf "law" "law" (defArgs s_law) (defBody s_law) (defScope s_law) .none kV_law dc_law pm_law an_law (.ref c_tb) ct_law, [(c_tb, P_tb)], spLawL K P_tb, fun p hp => ?_, fun p hp => ?_, fun p hp => ?_, fun s v => .of_eq rfl, fun H a ns hl hb ht hS => ?_, fun base _ _ hTB => ?_⟩
  · cases List.mem_singleton.mp hp
    exact own _ _ _ _ _ _ _ _ l_law rfl rfl tb_l tb_p
  · cases List.mem_singleton.mp hp
    exact tb_n
  · cases List.mem_singleton.mp hp
    exact PySem.W.codeHd_of_K X tb_h
  · exact ⟨a, ns, rfl, hS, hl, ht _ (List.mem_singleton.mpr rfl), fun _ => rfl⟩
  · exact ok_law (mg := mg) (cT := c_tb) (PT := P_tb)
     {
    C := C,
    a_iDiaryError := f_iDiaryError, d_iDiaryError := _, F_iDiaryError := F_iDiaryError, b_iDiaryError := b_iDiaryError,
    c_iDiaryError := ec_iDiaryError, gc_iDiaryError := PySem.W.mg_of X G xc_iDiaryError, ic_iDiaryError := x_iDiaryError, it_iDiaryError := xt_iDiaryError, io_iDiaryError := xo_iDiaryError,
    a_is_number := f_is_number, d_is_number := _, F_is_number := F_is_number, b_is_number := b_is_number,
    g_is_number := PySem.W.mg_of X G x_is_number,
    a_lies_between := f_lies_between, d_lies_between := _, F_lies_between := F_lies_between, b_lies_between := b_lies_between,
    g_lies_between := PySem.W.mg_of X G x_lies_between,
    a_check_number := f_check_number, d_check_number := _, F_check_number := F_check_number, b_check_number := b_check_number,
    g_check_number := PySem.W.mg_of X G x_check_number,
    a_check_reader := f_check_reader, d_check_reader := _, F_check_reader := F_check_reader, b_check_reader := b_check_reader,
    g_check_reader := PySem.W.mg_of X G x_check_reader,
    a_rinit := f_rinit, d_rinit := _, F_rinit := F_rinit, b_rinit := b_rinit,
    a_rdays := f_rdays, d_rdays := _, F_rdays := F_rdays, b_rdays := b_rdays,
    a_rstarts := f_rstarts, d_rstarts := _, F_rstarts := F_rstarts, b_rstarts := b_rstarts,
    a_rbooks := f_rbooks, d_rbooks := _, F_rbooks := F_rbooks, b_rbooks := b_rbooks,
    a_rpace := f_rpace, d_rpace := _, F_rpace := F_rpace, b_rpace := b_rpace,
    a_rlen := f_rlen, d_rlen := _, F_rlen := F_rlen, b_rlen := b_rlen,
    a_rcall := f_rcall, d_rcall := _, F_rcall := F_rcall, b_rcall := b_rcall,
    a_check_part := f_check_part, d_check_part := _, F_check_part := F_check_part, b_check_part := b_check_part,
    g_check_part := PySem.W.mg_of X G x_check_part,
    a_end_day := f_end_day, d_end_day := _, F_end_day := F_end_day, b_end_day := b_end_day,
    g_end_day := PySem.W.mg_of X G x_end_day,
    a_book_of := f_book_of, d_book_of := _, F_book_of := F_book_of, b_book_of := b_book_of,
    g_book_of := PySem.W.mg_of X G x_book_of,
    a_reader_before := f_reader_before, d_reader_before := _, F_reader_before := F_reader_before, b_reader_before := b_reader_before,
    g_reader_before := PySem.W.mg_of X G x_reader_before,
    a_reader_after := f_reader_after, d_reader_after := _, F_reader_after := F_reader_after, b_reader_after := b_reader_after,
    g_reader_after := PySem.W.mg_of X G x_reader_after,
    a_diary_of := f_diary_of, d_diary_of := _, F_diary_of := F_diary_of, b_diary_of := b_diary_of,
    g_diary_of := PySem.W.mg_of X G x_diary_of,
    a_mended := f_mended, d_mended := _, F_mended := F_mended, b_mended := b_mended,
    g_mended := PySem.W.mg_of X G x_mended,
    a_can_be := f_can_be, d_can_be := _, F_can_be := F_can_be, b_can_be := b_can_be,
    g_can_be := PySem.W.mg_of X G x_can_be,
    a_is_same_number := f_is_same_number, d_is_same_number := _, F_is_same_number := F_is_same_number, b_is_same_number := b_is_same_number,
    g_is_same_number := PySem.W.mg_of X G x_is_same_number,
    a_tinit := f_tinit, d_tinit := _, F_tinit := F_tinit, b_tinit := b_tinit,
    a_first_table := f_first_table, d_first_table := _, F_first_table := F_first_table, b_first_table := b_first_table,
    g_first_table := PySem.W.mg_of X G x_first_table,
    a_copied_table := f_copied_table, d_copied_table := _, F_copied_table := F_copied_table, b_copied_table := b_copied_table,
    g_copied_table := PySem.W.mg_of X G x_copied_table,
    a_begin_readings := f_begin_readings, d_begin_readings := _, F_begin_readings := F_begin_readings, b_begin_readings := b_begin_readings,
    g_begin_readings := PySem.W.mg_of X G x_begin_readings,
    a_end_readings := f_end_readings, d_end_readings := _, F_end_readings := F_end_readings, b_end_readings := b_end_readings,
    g_end_readings := PySem.W.mg_of X G x_end_readings,
    a_put_book := f_put_book, d_put_book := _, F_put_book := F_put_book, b_put_book := b_put_book,
    g_put_book := PySem.W.mg_of X G x_put_book,
    a_let_pass := f_let_pass, d_let_pass := _, F_let_pass := F_let_pass, b_let_pass := b_let_pass,
    g_let_pass := PySem.W.mg_of X G x_let_pass,
    a_is_operation := f_is_operation, d_is_operation := _, F_is_operation := F_is_operation, b_is_operation := b_is_operation,
    g_is_operation := PySem.W.mg_of X G x_is_operation,
    a_carry_out := f_carry_out, d_carry_out := _, F_carry_out := F_carry_out, b_carry_out := b_carry_out,
    g_carry_out := PySem.W.mg_of X G x_carry_out,
    a_cinit := f_cinit, d_cinit := _, F_cinit := F_cinit, b_cinit := b_cinit,
    a_vinit := f_vinit, d_vinit := _, F_vinit := F_vinit, b_vinit := b_vinit,
    a_vpass_days := f_vpass_days, d_vpass_days := _, F_vpass_days := F_vpass_days, b_vpass_days := b_vpass_days,
    a_vapply := f_vapply, d_vapply := _, F_vapply := F_vapply,
    a_executed := f_executed, d_executed := _, F_executed := F_executed, b_executed := b_executed,
    g_executed := PySem.W.mg_of X G x_executed,
    a_ltaken := f_ltaken, d_ltaken := _, F_ltaken := F_ltaken, b_ltaken := b_ltaken,
    g_ltaken := PySem.W.mg_of X G x_ltaken,
    a_lparts := f_lparts, d_lparts := _, F_lparts := F_lparts, b_lparts := b_lparts,
    g_lparts := PySem.W.mg_of X G x_lparts,
    a_lbegin := f_lbegin, d_lbegin := _, F_lbegin := F_lbegin, b_lbegin := b_lbegin,
    g_lbegin := PySem.W.mg_of X G x_lbegin,
    a_lfirst := f_lfirst, d_lfirst := _, F_lfirst := F_lfirst, b_lfirst := b_lfirst,
    g_lfirst := PySem.W.mg_of X G x_lfirst,
    a_lday := f_lday, d_lday := _, F_lday := F_lday, b_lday := b_lday,
    g_lday := PySem.W.mg_of X G x_lday,
    a_ldiary := f_ldiary, d_ldiary := _, F_ldiary := F_ldiary, b_ldiary := b_ldiary,
    g_ldiary := PySem.W.mg_of X G x_ldiary,
    a_lraised := f_lraised, d_lraised := _, F_lraised := F_lraised, b_lraised := b_lraised,
    g_lraised := PySem.W.mg_of X G x_lraised,
    a_law := _, d_law := _, F_law := F_law, b_law := b_law,
    g_law := PySem.W.mg_of X G x_law,
    tC := tC, clt := ⟨pgtC, hdtC, potC, satC⟩, nt_ring := ntC_ring, nt_day := ntC_day, nt_heaps := ntC_heaps, nt_current := ntC_current, nt_coming := ntC_coming, mkt := ⟨mktC, x_tinit, i_tinit, ktC⟩, gtC := PySem.W.mg_of X G atC,
    cC := cC, clc := ⟨pgcC, hdcC, pocC, sacC⟩, nc_tables := ncC_tables, nc_operations := ncC_operations, nc_undone := ncC_undone, mkc := ⟨mkcC, x_cinit, i_cinit, kcC⟩, gcC := PySem.W.mg_of X G acC,
    vC := vC, clv := ⟨pgvC, hdvC, povC, savC⟩, nv__course := nvC__course, nv__kept := nvC__kept, mkv := ⟨mkvC, x_vinit, i_vinit, kvC⟩, gvC := PySem.W.mg_of X G avC,
    mv_pass_days := ⟨x_vpass_days, i_vpass_days, k_vpass_days⟩,
    mv_apply := ⟨x_vapply, i_vapply, k_vapply⟩,
    cl := ⟨pgC, hdC, poC, saC⟩, nD := nD, nS := nS, mkR := ⟨mkC, x_rinit, i_rinit, kC⟩, gC := PySem.W.mg_of X G aC,
    p_rdays := pp_rdays, q_rdays := ⟨pa_rdays, pg_rdays, pt_rdays, ⟨_, pr_rdays⟩⟩,
    p_rstarts := pp_rstarts, q_rstarts := ⟨pa_rstarts, pg_rstarts, pt_rstarts, ⟨_, pr_rstarts⟩⟩,
    p_rbooks := pp_rbooks, q_rbooks := ⟨pa_rbooks, pg_rbooks, pt_rbooks, ⟨_, pr_rbooks⟩⟩,
    p_rpace := pp_rpace, q_rpace := ⟨pa_rpace, pg_rpace, pt_rpace, ⟨_, pr_rpace⟩⟩,
    lenC := x_rlen, lenF := i_rlen, callC := ⟨x_rcall, i_rcall, j_rcall⟩,
    c_LATEST := ⟨_, PySem.W.mg_of X G v_LATEST⟩,
    c_MOST_ENTRIES := ⟨_, PySem.W.mg_of X G v_MOST_ENTRIES⟩,
    c_MOST_PASSED := ⟨_, PySem.W.mg_of X G v_MOST_PASSED⟩,
    c_FEWEST_READERS := ⟨_, PySem.W.mg_of X G v_FEWEST_READERS⟩,
    c_MOST_READERS := ⟨_, PySem.W.mg_of X G v_MOST_READERS⟩,
    c_MOST_DAYS := ⟨_, PySem.W.mg_of X G v_MOST_DAYS⟩,
    c_MOST_BOOKS := ⟨_, PySem.W.mg_of X G v_MOST_BOOKS⟩,
    z_len := PySem.W.mg_none_of X G z_len,
    z_sum := PySem.W.mg_none_of X G z_sum,
    z_max := PySem.W.mg_none_of X G z_max,
    z_min := PySem.W.mg_none_of X G z_min,
    z_range := PySem.W.mg_none_of X G z_range,
    z_int := PySem.W.mg_none_of X G z_int,
    z_bool := PySem.W.mg_none_of X G z_bool,
    z_isinstance := PySem.W.mg_none_of X G z_isinstance,
    z_tuple := PySem.W.mg_none_of X G z_tuple,
    z_enumerate := PySem.W.mg_none_of X G z_enumerate,
    z_list := PySem.W.mg_none_of X G z_list,
    z_str := PySem.W.mg_none_of X G z_str,
    z_sorted := PySem.W.mg_none_of X G z_sorted,
    z_zip := PySem.W.mg_none_of X G z_zip,
    z_all := PySem.W.mg_none_of X G z_all }
     ⟨dA, dB, PySem.W.mg_of X G x_dA, PySem.W.mg_of X G x_dB, He.dicW_ok w_dA, He.dicW_ok w_dB, p_dA, ⟨_, p_dB⟩⟩
     { k0 := e0, k1 := e1, k2 := e2, k3 := e3, k4 := e4, k5 := e5, cE := eE, g0 := PySem.W.mg_of X G x_e0, g1 := PySem.W.mg_of X G x_e1, g2 := PySem.W.mg_of X G x_e2, g3 := PySem.W.mg_of X G x_e3, g4 := PySem.W.mg_of X G x_e4, g5 := PySem.W.mg_of X G x_e5, gE := PySem.W.mg_of X G x_eE, zV := PySem.W.mg_none_of X G z_VE, zI := PySem.W.mg_none_of X G z_isinstance }
     ⟨⟨xr1, xr2⟩, xr3, xn5, ⟨xg5, xk5, xs5, xd5⟩, ⟨xs5, xt5⟩, ⟨xg5, xk5, xs5, xd5, xa5, xc_n, xc_t, xm5⟩, xx5, xq5_0, xq5_1, xq5_2, xq5_3, xq5_4, xq5_5, xv5⟩
     ⟨PySem.W.mg_of X G x_e1, xi1, xs1, xt1, xp1⟩
     (hTB _ (List.mem_singleton.mpr rfl))
     ⟨⟨_, _, _, _, _, _, _, _, rfl, l_law, c_law⟩⟩

end Rp
open PySem PySem.W PyProof.Rows
set_option maxRecDepth 100000 in
set_option maxHeartbeats 0 in
theorem PySem.Challenge.cw_readingring_k51_whole_diaries_holds : PySem.Challenge.rw_readingring_k51_whole_diaries.Holds := by
  w_on; o_law; k_head; (case hw => w_witness2)
  k_fill
  refine LamX.walk_ofOwn (l := PySem.Challenge.rw_readingring_k51_whole_diaries) (n := 63) (k := 14) (x := "_law_script") (CX := fun _ => L2.CX0) rfl (by decide) rfl ⟨rfl, by decide, by decide⟩ (by decide +kernel) (fun w h Y => PySem.W.km_in_of Y) ?F (fun _ _ _ _ _ h => h)
  case F =>
    intro w mg fa h Y KX G hmg own
    refine' Rp.all_mk KX G hmg ?aC ?atC ?acC ?avC ?xc_iDiaryError ?x_iDiaryError ?xt_iDiaryError ?xo_iDiaryError ?l_iDiaryError ?c_iDiaryError ?k_iDiaryError ?x_is_number ?l_is_number ?c_is_number ?k_is_number ?x_lies_between ?l_lies_between ?c_lies_between ?k_lies_between ?x_check_number ?l_check_number ?c_check_number ?k_check_number ?x_check_reader ?l_check_reader ?c_check_reader ?k_check_reader ?x_rinit ?i_rinit ?l_rinit ?c_rinit ?k_rinit ?pa_rdays ?pg_rdays ?pt_rdays ?pr_rdays ?l_rdays ?c_rdays ?k_rdays ?pa_rstarts ?pg_rstarts ?pt_rstarts ?pr_rstarts ?l_rstarts ?c_rstarts ?k_rstarts ?pa_rbooks ?pg_rbooks ?pt_rbooks ?pr_rbooks ?l_rbooks ?c_rbooks ?k_rbooks ?pa_rpace ?pg_rpace ?pt_rpace ?pr_rpace ?l_rpace ?c_rpace ?k_rpace ?x_rlen ?i_rlen ?l_rlen ?c_rlen ?k_rlen ?x_rcall ?i_rcall ?j_rcall ?l_rcall ?c_rcall ?k_rcall ?x_check_part ?l_check_part ?c_check_part ?k_check_part ?x_end_day ?l_end_day ?c_end_day ?k_end_day ?x_book_of ?l_book_of ?c_book_of ?k_book_of ?x_reader_before ?l_reader_before ?c_reader_before ?k_reader_before ?x_reader_after ?l_reader_after ?c_reader_after ?k_reader_after ?x_diary_of ?l_diary_of ?c_diary_of ?k_diary_of ?x_mended ?l_mended ?c_mended ?k_mended ?x_can_be ?l_can_be ?c_can_be ?k_can_be ?x_is_same_number ?l_is_same_number ?c_is_same_number ?k_is_same_number ?x_tinit ?i_tinit ?l_tinit ?c_tinit ?k_tinit ?x_first_table ?l_first_table ?c_first_table ?k_first_table ?x_copied_table ?l_copied_table ?c_copied_table ?k_copied_table ?x_begin_readings ?l_begin_readings ?c_begin_readings ?k_begin_readings ?x_end_readings ?l_end_readings ?c_end_readings ?k_end_readings ?x_put_book ?l_put_book ?c_put_book ?k_put_book ?x_let_pass ?l_let_pass ?c_let_pass ?k_let_pass ?x_is_operation ?l_is_operation ?c_is_operation ?k_is_operation ?x_carry_out ?l_carry_out ?c_carry_out ?k_carry_out ?x_cinit ?i_cinit ?l_cinit ?c_cinit ?k_cinit ?x_vinit ?i_vinit ?l_vinit ?c_vinit ?k_vinit ?x_vpass_days ?i_vpass_days ?l_vpass_days ?c_vpass_days ?k_vpass_days ?x_vapply ?i_vapply ?l_vapply ?c_vapply ?k_vapply ?x_executed ?l_executed ?c_executed ?k_executed ?x_ltaken ?l_ltaken ?c_ltaken ?k_ltaken ?x_lparts ?l_lparts ?c_lparts ?k_lparts ?x_lbegin ?l_lbegin ?c_lbegin ?k_lbegin ?x_lfirst ?l_lfirst ?c_lfirst ?k_lfirst ?x_lday ?l_lday ?c_lday ?k_lday ?x_ldiary ?l_ldiary ?c_ldiary ?k_ldiary ?x_lraised ?l_lraised ?c_lraised ?k_lraised ?x_law ?l_law ?c_law ?k_law ?pgtC ?hdtC ?potC ?satC ?mktC ?ktC ?ntC_ring ?ntC_day ?ntC_heaps ?ntC_current ?ntC_coming ?pgcC ?hdcC ?pocC ?sacC ?mkcC ?kcC ?ncC_tables ?ncC_operations ?ncC_undone ?pgvC ?hdvC ?povC ?savC ?mkvC ?kvC ?nvC__course ?nvC__kept ?pgC ?hdC ?poC ?saC ?mkC ?kC ?nD ?nS ?v_LATEST ?v_MOST_ENTRIES ?v_MOST_PASSED ?v_FEWEST_READERS ?v_MOST_READERS ?v_MOST_DAYS ?v_MOST_BOOKS ?z_len ?z_sum ?z_max ?z_min ?z_range ?z_int ?z_bool ?z_isinstance ?z_tuple ?z_enumerate ?z_list ?z_str ?z_sorted ?z_zip ?z_all own ?tb_c ?tb_l ?tb_p ?tb_h ?tb_n ?x_e0 ?x_e1 ?x_e2 ?x_e3 ?x_e4 ?x_e5 ?x_eE ?z_VE ?xc_n ?xc_t ?xs1 ?xi1 ?xt1 ?xp1 ?x_dA ?x_dB ?w_dA ?w_dB ?p_dA ?p_dB ?xg5 ?xk5 ?xs5 ?xd5 ?xa5 ?xm5 ?xx5 ?xq5_0 ?xq5_1 ?xq5_2 ?xq5_3 ?xq5_4 ?xq5_5 ?xv5 ?xt5 ?xn5 ?xr1 ?xr2 ?xr3
    (case aC => k_is); (case atC => k_is); (case acC => k_is); (case avC => k_is); (case xc_iDiaryError => k_is); (case x_iDiaryError => k_is); (case xt_iDiaryError => k_is); (case xo_iDiaryError => first | exact rfl | decide +kernel)
    (case l_iDiaryError => k_is); (case c_iDiaryError => k_is); (case k_iDiaryError => k_is); (case x_is_number => k_is); (case l_is_number => k_is); (case c_is_number => k_is); (case k_is_number => k_is); (case x_lies_between => k_is)
    (case l_lies_between => k_is); (case c_lies_between => k_is); (case k_lies_between => k_is); (case x_check_number => k_is); (case l_check_number => k_is); (case c_check_number => k_is); (case k_check_number => k_is); (case x_check_reader => k_is)
    (case l_check_reader => k_is); (case c_check_reader => k_is); (case k_check_reader => k_is); (case x_rinit => k_is); (case i_rinit => k_is); (case l_rinit => k_is); (case c_rinit => k_is); (case k_rinit => k_is)
    (case pa_rdays => k_is); (case pg_rdays => k_is); (case pt_rdays => k_is); (case pr_rdays => k_is); (case l_rdays => k_is); (case c_rdays => k_is); (case k_rdays => k_is); (case pa_rstarts => k_is)
    (case pg_rstarts => k_is); (case pt_rstarts => k_is); (case pr_rstarts => k_is); (case l_rstarts => k_is); (case c_rstarts => k_is); (case k_rstarts => k_is); (case pa_rbooks => k_is); (case pg_rbooks => k_is)
    (case pt_rbooks => k_is); (case pr_rbooks => k_is); (case l_rbooks => k_is); (case c_rbooks => k_is); (case k_rbooks => k_is); (case pa_rpace => k_is); (case pg_rpace => k_is); (case pt_rpace => k_is)
    (case pr_rpace => k_is); (case l_rpace => k_is); (case c_rpace => k_is); (case k_rpace => k_is); (case x_rlen => k_is); (case i_rlen => k_is); (case l_rlen => k_is); (case c_rlen => k_is)
    (case k_rlen => k_is); (case x_rcall => k_is); (case i_rcall => k_is); (case j_rcall => k_is); (case l_rcall => k_is); (case c_rcall => k_is); (case k_rcall => k_is); (case x_check_part => k_is)
    (case l_check_part => k_is); (case c_check_part => k_is); (case k_check_part => k_is); (case x_end_day => k_is); (case l_end_day => k_is); (case c_end_day => k_is); (case k_end_day => k_is); (case x_book_of => k_is)
    (case l_book_of => k_is); (case c_book_of => k_is); (case k_book_of => k_is); (case x_reader_before => k_is); (case l_reader_before => k_is); (case c_reader_before => k_is); (case k_reader_before => k_is); (case x_reader_after => k_is)
    (case l_reader_after => k_is); (case c_reader_after => k_is); (case k_reader_after => k_is); (case x_diary_of => k_is); (case l_diary_of => k_is); (case c_diary_of => k_is); (case k_diary_of => k_is); (case x_mended => k_is)
    (case l_mended => k_is); (case c_mended => k_is); (case k_mended => k_is); (case x_can_be => k_is); (case l_can_be => k_is); (case c_can_be => k_is); (case k_can_be => k_is); (case x_is_same_number => k_is)
    (case l_is_same_number => k_is); (case c_is_same_number => k_is); (case k_is_same_number => k_is); (case x_tinit => k_is); (case i_tinit => k_is); (case l_tinit => k_is); (case c_tinit => k_is); (case k_tinit => k_is)
    (case x_first_table => k_is); (case l_first_table => k_is); (case c_first_table => k_is); (case k_first_table => k_is); (case x_copied_table => k_is); (case l_copied_table => k_is); (case c_copied_table => k_is); (case k_copied_table => k_is)
    (case x_begin_readings => k_is); (case l_begin_readings => k_is); (case c_begin_readings => k_is); (case k_begin_readings => k_is); (case x_end_readings => k_is); (case l_end_readings => k_is); (case c_end_readings => k_is); (case k_end_readings => k_is)
    (case x_put_book => k_is); (case l_put_book => k_is); (case c_put_book => k_is); (case k_put_book => k_is); (case x_let_pass => k_is); (case l_let_pass => k_is); (case c_let_pass => k_is); (case k_let_pass => k_is)
    (case x_is_operation => k_is); (case l_is_operation => k_is); (case c_is_operation => k_is); (case k_is_operation => k_is); (case x_carry_out => k_is); (case l_carry_out => k_is); (case c_carry_out => k_is); (case k_carry_out => k_is)
    (case x_cinit => k_is); (case i_cinit => k_is); (case l_cinit => k_is); (case c_cinit => k_is); (case k_cinit => k_is); (case x_vinit => k_is); (case i_vinit => k_is); (case l_vinit => k_is)
    (case c_vinit => k_is); (case k_vinit => k_is); (case x_vpass_days => k_is); (case i_vpass_days => k_is); (case l_vpass_days => k_is); (case c_vpass_days => k_is); (case k_vpass_days => k_is); (case x_vapply => k_is)
    (case i_vapply => k_is); (case l_vapply => k_is); (case c_vapply => k_is); (case k_vapply => k_is); (case x_executed => k_is); (case l_executed => k_is); (case c_executed => k_is); (case k_executed => k_is)
    (case x_ltaken => k_is); (case l_ltaken => k_is); (case c_ltaken => k_is); (case k_ltaken => k_is); (case x_lparts => k_is); (case l_lparts => k_is); (case c_lparts => k_is); (case k_lparts => k_is)
    (case x_lbegin => k_is); (case l_lbegin => k_is); (case c_lbegin => k_is); (case k_lbegin => k_is); (case x_lfirst => k_is); (case l_lfirst => k_is); (case c_lfirst => k_is); (case k_lfirst => k_is)
    (case x_lday => k_is); (case l_lday => k_is); (case c_lday => k_is); (case k_lday => k_is); (case x_ldiary => k_is); (case l_ldiary => k_is); (case c_ldiary => k_is); (case k_ldiary => k_is)
    (case x_lraised => k_is); (case l_lraised => k_is); (case c_lraised => k_is); (case k_lraised => k_is); (case x_law => k_is); (case l_law => k_is); (case c_law => k_is); (case k_law => k_is)
    (case pgtC => k_is); (case hdtC => k_is); (case potC => k_is); (case satC => k_is); (case mktC => k_is); (case ktC => k_is); (case ntC_ring => k_is); (case ntC_day => k_is)
    (case ntC_heaps => k_is); (case ntC_current => k_is); (case ntC_coming => k_is); (case pgcC => k_is); (case hdcC => k_is); (case pocC => k_is); (case sacC => k_is); (case mkcC => k_is)
    (case kcC => k_is); (case ncC_tables => k_is); (case ncC_operations => k_is); (case ncC_undone => k_is); (case pgvC => k_is); (case hdvC => k_is); (case povC => k_is); (case savC => k_is)
    (case mkvC => k_is); (case kvC => k_is); (case nvC__course => k_is); (case nvC__kept => k_is); (case pgC => k_is); (case hdC => k_is); (case poC => k_is); (case saC => k_is)
    (case mkC => k_is); (case kC => k_is); (case nD => k_is); (case nS => k_is); (case v_LATEST => k_is); (case v_MOST_ENTRIES => k_is); (case v_MOST_PASSED => k_is); (case v_FEWEST_READERS => k_is)
    (case v_MOST_READERS => k_is); (case v_MOST_DAYS => k_is); (case v_MOST_BOOKS => k_is); (case z_len => k_is); (case z_sum => k_is); (case z_max => k_is); (case z_min => k_is); (case z_range => k_is)
    (case z_int => k_is); (case z_bool => k_is); (case z_isinstance => k_is); (case z_tuple => k_is); (case z_enumerate => k_is); (case z_list => k_is); (case z_str => k_is); (case z_sorted => k_is)
    (case z_zip => k_is); (case z_all => k_is)
    (case tb_c => first | exact rfl | k_is | k_exc | decide +kernel)
    (case tb_l => first | exact rfl | k_is | k_exc | decide +kernel)
    (case tb_p => first | exact rfl | k_is | k_exc | decide +kernel)
    (case tb_h => first | exact rfl | k_is | k_exc | decide +kernel)
    (case tb_n => first | exact rfl | k_is | k_exc | decide +kernel)
    (case x_e0 => first | exact rfl | k_is | k_exc | decide +kernel)
    (case x_e1 => first | exact rfl | k_is | k_exc | decide +kernel)
    (case x_e2 => first | exact rfl | k_is | k_exc | decide +kernel)
    (case x_e3 => first | exact rfl | k_is | k_exc | decide +kernel)
    (case x_e4 => first | exact rfl | k_is | k_exc | decide +kernel)
    (case x_e5 => first | exact rfl | k_is | k_exc | decide +kernel)
    (case x_eE => first | exact rfl | k_is | k_exc | decide +kernel)
    (case z_VE => first | exact rfl | k_is | k_exc | decide +kernel)
    (case xc_n => first | exact rfl | k_is | k_exc | decide +kernel)
    (case xc_t => first | exact rfl | k_is | k_exc | decide +kernel)
    (case xs1 => first | exact rfl | k_is | k_exc | decide +kernel)
    (case xi1 => first | exact rfl | k_is | k_exc | decide +kernel)
    (case xt1 => first | exact rfl | k_is | k_exc | decide +kernel)
    (case xp1 => first | exact rfl | k_is | k_exc | decide +kernel)
    (case x_dA => first | exact rfl | k_is | k_exc | decide +kernel)
    (case x_dB => first | exact rfl | k_is | k_exc | decide +kernel)
    (case w_dA => first | exact rfl | k_is | k_exc | decide +kernel)
    (case w_dB => first | exact rfl | k_is | k_exc | decide +kernel)
    (case p_dA => first | exact rfl | k_is | k_exc | decide +kernel)
    (case p_dB => first | exact rfl | k_is | k_exc | decide +kernel)
    (case xg5 => first | exact rfl | k_is | k_exc | decide +kernel)
    (case xk5 => first | exact rfl | k_is | k_exc | decide +kernel)
    (case xs5 => first | exact rfl | k_is | k_exc | decide +kernel)
    (case xd5 => first | exact rfl | k_is | k_exc | decide +kernel)
    (case xa5 => first | exact rfl | k_is | k_exc | decide +kernel)
    (case xm5 => first | exact rfl | k_is | k_exc | decide +kernel)
    (case xx5 => first | exact rfl | k_is | k_exc | decide +kernel)
    (case xq5_0 => first | exact rfl | k_is | k_exc | decide +kernel)
    (case xq5_1 => first | exact rfl | k_is | k_exc | decide +kernel)
    (case xq5_2 => first | exact rfl | k_is | k_exc | decide +kernel)
    (case xq5_3 => first | exact rfl | k_is | k_exc | decide +kernel)
    (case xq5_4 => first | exact rfl | k_is | k_exc | decide +kernel)
    (case xq5_5 => first | exact rfl | k_is | k_exc | decide +kernel)
    (case xv5 => first | exact rfl | k_is | k_exc | decide +kernel)
    (case xt5 => first | exact rfl | k_is | k_exc | decide +kernel)
    (case xn5 => first | exact rfl | k_is | k_exc | decide +kernel)
    (case xr1 => first | exact rfl | k_is | k_exc | decide +kernel)
    (case xr2 => first | exact rfl | k_is | k_exc | decide +kernel)
    (case xr3 => first | exact rfl | k_is | k_exc | decide +kernel)
