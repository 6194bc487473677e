import PyProof.Rows.All
import Wide.All
import OpenK.AllK
import Wide.FinOn
import PyProof.EqAt
import PyProof.EqKinds
import PyProof.TupleCall
import PyProof.DictTable
import Open.SpecLaws
import KE.OsGo
import KE.KStateDown
import Lean
import PySem.Challenge.RW_treefiltersdesk_s01_check
import HandS.ForMost
import HandS.ForSpec
import HandS.More
import HandS.Defaults
import HandS.CallSlots
import HandS.Conv
import HandS.Codes
import HandS.IsInst
import HandS.TupAny
import HandS.Zip
import HandS.Deep
import HandS.RaiseOp
import HandS.WrittenGet
import HandS.Head0
import HandS.Head1
import HandS.Head2
import HandS.HeadEnd
import HandS.HeadHook1
import HandS.HeadHook2
import HandS.HeadHook3
import KE.KExcInit
import HandS.ExcInit
import HandS.ExcField
import HandS.SortKw
import KE.DataMinKey
import HandS.Walk
import HandS.ExcOwn
import HandS.WordsExc
import HandS.HeadHook4
import HandS.Spec
set_option Elab.async false
set_option linter.all false
set_option maxRecDepth 100000
set_option maxHeartbeats 4000000
namespace Ck
open PySem PySem.Spec PyProof.Rows L2
def top (i : Nat) : Stmt := PySem.Challenge.pw_treefiltersdesk_s01_check.main.body.getD i (.Pass ⟨0, 0, 0, 0⟩)
/-- a def of the text, where it stands, what it hands over -/
abbrev FnP (K : PySem.W.Frag) (x : Str) (st : Stmt) (f : Addr) (fd : FuncData) : Prop := FunD K x x (defArgs st) (defBody st) (defScope st) [] [] f fd
/-- a def of the module keeps its promise, wherever k rooms are left -/
structure Kept (P : Program) (w : World) (K : PySem.W.Frag) (mg : Str → Option Value) (base : Heap) (CX : CXT) (k : Nat) (x : Str) (ps : List Str) (sp : Sp) : Prop where
  ex : ∃ fd, FnOk P w K mg base CX k (He.ga K x) fd ps sp ∧ Binds K fd ps []
  g : mg x = some (.ref (He.ga K x))
  kp : PySem.W.keepIn K (.ref (He.ga K x)) = true
/-- a method of the class of that name -/
structure KeptM (P : Program) (w : World) (K : PySem.W.Frag) (mg : Str → Option Value) (base : Heap) (CX : CXT) (k : Nat) (c m : Str) (ps : List Str) (sp : Sp) : Prop where
  ex : ∃ fd, FnOk P w K mg base CX k (He.ma K (He.ga K c) m) fd ps sp ∧ Binds K fd ps []
  cl : Cls K (He.ga K c)
  mt : Meth K (He.ga K c) m (He.ma K (He.ga K c) m)
section
variable {X : Cx}
theorem pe_k {CX : CXT} {j k : Nat} {x : Str} {ps : List Str} {sp : Sp} {E : XK} {e : Expr} {es : List Expr} {t : TA} {p pos : Pos} (c : Kept X.prog X.w X.K X.mg X.base CX k x ps sp) (hr : Room j X.A) (hk : k ≤ j) (hx : Passes CX X E) (ha : PA X (e :: es) t)
    (hg : Gl X x := by rfl) (hdb : (x == ("__debug__" : Str)) = false := by decide) (he : starEach (e :: es) X.env = (false, eval e X.env) :: starEach es X.env := by rfl) (hpl : (backTo pos (starEach es X.env)).any (·.1) = false := by rfl) :
    PE X (.Call (.Name x p) (e :: es) [] pos) (tCall sp [] E t) := by
  obtain ⟨fd, F, hb⟩ := c.ex
  exact pe_call F (hr.mono hk) hg c.g c.kp hb .nil hx ha hdb he hpl
theorem pe_km {CX : CXT} {j k : Nat} {cn m : Str} {ps : List Str} {sp : Sp} {E : XK} {o e : Expr} {es : List Expr} {ta : TE} {t : TA} {apos pos : Pos} {pl : Sem Bool} (c : KeptM X.prog X.w X.K X.mg X.base CX k cn m ps sp) (hr : Room j X.A) (hk : k ≤ j) (hx : Passes CX X E) (ho : PE X o ta) (ha : PA X (e :: es) t)
    (hst : starEach (e :: es) X.env = (false, eval e X.env) :: starEach es X.env := by rfl) (hpl : (backTo pos (starEach es X.env)).any (·.1) = false := by rfl)
    (ht : eval (.Call (.Attribute o m apos) (e :: es) [] pos) X.env = (do
      let ov ← eval o X.env
      standAt apos.atName
      let (f, first) ← holding [ov] (getMethod ov m pl)
      callWith pos f first (backTo pos (starEach (e :: es) X.env)) (backToKw pos (keywordEach [] X.env))) := by rfl) :
    PE X (.Call (.Attribute o m apos) (e :: es) [] pos) (tMeth (He.ga X.K cn) m sp [] E ta t) := by
  obtain ⟨fd, F, hb⟩ := c.ex
  exact pe_meth ho c.cl c.mt F (hr.mono hk) hb .nil hx ha hst hpl ht
theorem pe_km0 {CX : CXT} {j k : Nat} {cn m : Str} {ps : List Str} {sp : Sp} {E : XK} {o : Expr} {ta : TE} {apos pos : Pos} {pl : Sem Bool} (c : KeptM X.prog X.w X.K X.mg X.base CX k cn m ps sp) (hr : Room j X.A) (hk : k ≤ j) (hx : Passes CX X E) (ho : PE X o ta)
    (ht : eval (.Call (.Attribute o m apos) [] [] pos) X.env = (do
      let ov ← eval o X.env
      standAt apos.atName
      let (f, first) ← holding [ov] (getMethod ov m pl)
      callWith pos f first (backTo pos (starEach [] X.env)) (backToKw pos (keywordEach [] X.env))) := by rfl) :
    PE X (.Call (.Attribute o m apos) [] [] pos) (tMeth (He.ga X.K cn) m sp [] E ta tNil) := by
  obtain ⟨fd, F, hb⟩ := c.ex
  exact pe_meth0 ho c.cl c.mt F (hr.mono hk) hb .nil hx ht
section
variable {CX' : CXT} {P : Program} {w : World} {K : PySem.W.Frag} {mg : Str → Option Value} {base : Heap} {N : List Str} {q : Str} {sc : Scope} {f : Addr} {cdv : Value} {A : Around} {outer : List Env} {s : Shared} {H : Hp} {E : XK}
theorem cxK : (cxOf CX' P w K mg base N q sc f cdv A outer s H E).K = K := rfl
theorem cxW : (cxOf CX' P w K mg base N q sc f cdv A outer s H E).w = w := rfl
theorem cxKn : (cxOf CX' P w K mg base N q sc f cdv A outer s H E).nox.K = K := rfl
theorem cxWn : (cxOf CX' P w K mg base N q sc f cdv A outer s H E).nox.w = w := rfl
end
/-- what a called def raises leaves this def as its own -/
theorem pass_on {CX' : CXT} {P : Program} {w : World} {K : PySem.W.Frag} {mg : Str → Option Value} {base : Heap} {N : List Str} {q : Str} {sc : Scope} {f : Addr} {cdv : Value} {A : Around} {outer : List Env} {s : Shared} {H : Hp} {E : XK} :
    Passes (L2.CX P w) (cxOf (L2.CX P w) P w K mg base N q sc f cdv A outer s H E) E := passes_call (W := fun cls d _ H => E cls d H) (takes_of rfl rfl rfl rfl) (fun _ _ _ _ h => h)
end
end Ck
/-! Fault: an error of the program's own with two fields -/
namespace PySem
namespace CkF
open PySem.W PySem.Calls PyProof.Rows PySem.HandSPX Builtin Builtin.ObjectAttr
def exB : List Value := [.type "Exception", .type "BaseException", .type "object"]
section
variable {prog : Program} {w : World} {A : Around} {R : Result → Shared → Prop} {hp : Heap} {g : Array GenState} {d : Drawn} {t : Nat} {os : OsState} {K : Frag} {C : Addr}
theorem cd_of (hdi : hasDictIn K C = true) : ∃ cd, clsIn K C = some cd ∧ cd.hasDict = true := by
  cases e : clsIn K C with
  | none => simp [hasDictIn, e] at hdi
  | some cd => exact ⟨cd, rfl, by simpa [hasDictIn, e] using hdi⟩
theorem taker_none {f : Str} (h : findIn K (.ref C) f = some none) : takerIn K C f = some none := by
  unfold takerIn
  rw [h]
  rfl
/-- the first field of a fresh error: its dict is laid -/
theorem put_first {f : Str} {tk : Tok} {v : Value} {x : Addr} {fv : Array Value} (KX : K.In hp) (ox : hp.get? x = some { cls := .ref C, data := .fields fv }) (ov : excOver K C exB = true) (hdi : hasDictIn K C = true) (nf : findIn K (.ref C) f = some none)
    (go : ∀ h2 tk2 dx, (∀ b o, b ≠ x → hp.get? b = some o → h2.get? b = some o) → hp.objs.size ≤ dx → dx ≠ x → h2.get? x = some { cls := .ref C, dict := some dx, data := .fields fv } →
      h2.Ns1 dx (fun y => if y = f then some v else none) → R (.ok (.ret .none)) ⟨h2, g, d, tk2, os⟩) :
    codeAny (model prog w) A (.call (.builtin "object.__setattr__") ⟨[.ref x, .str f tk, v], []⟩) R ⟨hp, g, d, t, os⟩ := by
  have IA : InstAt hp x { cls := .ref C, data := .fields fv } C none := ⟨ox, rfl, rfl, trivial⟩
  refine osa_openX (s := ⟨hp, g, d, t, os⟩) PySem.F.store_Exception KX IA ov (taker_none nf) fun _ => ?_
  obtain ⟨cd, hcd, hh⟩ := cd_of hdi
  have lk : Looks (model prog w) hp (classData C) cd := looks_clsIn KX hcd
  have xn : x ≠ hp.objs.size := Nat.ne_of_lt (Heap.lt_size ox)
  obtain ⟨c1, c2, c3, c4, c5, c6, c7, c8, c9, c10, c11⟩ := cd
  obtain rfl : c6 = true := hh
  dsimp only
  unfold storeInOwnDict
  unfold ownDictForStores
  repeat (first
    | with_reducible refine store_in_new ?_ ?_
    | with_reducible refine wpAny_loadPart_at ox ?_
    | with_reducible refine lk.at ?_
    | wp_step)
  · exact ⟨_, #[], _,
      (Heap.get?_update_ne _ _ _ _ xn.symm).trans (Heap.get?_push_at rfl rfl),
      rfl, fun e he => absurd he (by simp), fun _ => rfl⟩
  · intro h2 tk2 hn sb
    have ox2 : (hp.push { cls := .type "dict", data := .dict #[] }).get? x = some { cls := .ref C, data := .fields fv } :=
      Heap.get?_push_of_some _ ox
    refine go h2 tk2 hp.objs.size (fun b o hb ho => ?_) (Nat.le_refl _) xn.symm ?_ hn
    · refine (sb.2 b (Nat.ne_of_lt (Heap.lt_size ho))).trans ?_
      exact (Heap.get?_update_ne _ _ _ _ hb).trans (Heap.get?_push_of_some _ ho)
    · refine (sb.2 x xn).trans ?_
      exact Heap.get?_update_self _ ox2 rfl
/-- a further field -/
theorem put_next {f : Str} {tk : Tok} {v : Value} {x dx : Addr} {fv : Array Value} {m0 : Str → Option Value} {nl : List Str} (KX : K.In hp) (ox : hp.get? x = some { cls := .ref C, dict := some dx, data := .fields fv }) (hns : hp.Ns1 dx m0) (hw : Within m0 nl) (hz : nl.length ≤ 1000)
    (ov : excOver K C exB = true) (hdi : hasDictIn K C = true) (nf : findIn K (.ref C) f = some none)
    (go : ∀ h2 tk2, (∀ b o, b ≠ dx → hp.get? b = some o → h2.get? b = some o) → h2.Ns1 dx (fun y => if y = f then some v else m0 y) → R (.ok (.ret .none)) ⟨h2, g, d, tk2, os⟩) :
    codeAny (model prog w) A (.call (.builtin "object.__setattr__") ⟨[.ref x, .str f tk, v], []⟩) R ⟨hp, g, d, t, os⟩ := by
  obtain ⟨oD, esD, epD, hoD, hdD, _⟩ := hns.count hw
  have IA : InstAt hp x { cls := .ref C, dict := some dx, data := .fields fv } C (some oD) := ⟨ox, rfl, rfl, hoD⟩
  refine osa_openX (s := ⟨hp, g, d, t, os⟩) PySem.F.store_Exception KX IA ov (taker_none nf) fun _ => ?_
  obtain ⟨cd, hcd, hh⟩ := cd_of hdi
  have lk : Looks (model prog w) hp (classData C) cd := looks_clsIn KX hcd
  obtain ⟨c1, c2, c3, c4, c5, c6, c7, c8, c9, c10, c11⟩ := cd
  obtain rfl : c6 = true := hh
  dsimp only
  unfold storeInOwnDict
  unfold ownDictForStores
  repeat (first
    | with_reducible refine PySem.OEX.store_in_old hns hw hz ?_
    | with_reducible refine wpAny_loadPart_at ox ?_
    | with_reducible refine lk.at ?_
    | wp_step)
  intro h2 tk2 hn sb
  exact go h2 tk2 (fun b o hb ho => (sb.2 b hb).trans ho) hn
end
def fA (p1 p2 p3 : Pos) : Arguments := { posonlyargs := [], args := [{ arg := "self", annotation := none, pos := p1 }, { arg := "kind", annotation := none, pos := p2 }, { arg := "position", annotation := none, pos := p3 }], vararg := none, kwonlyargs := [], kw_defaults := [], kwarg := none, defaults := [] }
def fB (q1 q2 q3 q4 q5 q6 q7 q8 : Pos) : List Stmt := [.Assign [.Attribute (.Name "self" q1) "kind" q2] (.Name "kind" q3) q4, .Assign [.Attribute (.Name "self" q5) "position" q6] (.Name "position" q7) q8]
def fS : Scope := { kind := .function, names := [(PySem.Str.ofString "self", .local), (PySem.Str.ofString "kind", .local), (PySem.Str.ofString "position", .local)], isGenerator := false, isCoroutine := false, more := [] }
/-- what the written part says of Fault, at C, and of its __init__, at fI -/
structure FaultTxt (K : Frag) (mg : Str → Option Value) (C fI : Addr) : Prop where
  gC : mg "Fault" = some (.ref C)
  qi : excInitIn K C exB "Exception.__new__" = true
  ov : excOver K C exB = true
  hdC : hasDictIn K C = true
  sa : findIn K (.ref C) "__setattr__" = some (some (.builtin "object.__setattr__"))
  ga : findIn K (.ref C) "__getattribute__" = some (some (.builtin "BaseException.__getattribute__"))
  gg : findIn K (.ref C) "__getattr__" = some none
  nk : findIn K (.ref C) "kind" = some none
  np : findIn K (.ref C) "position" = some none
  iC : findIn K (.ref C) "__init__" = some (some (.ref fI))
  tC : typeIn K (.ref fI) = some (.type "function")
  kC : keepIn K (.ref C) = true
  exC : subIn K (.ref C) (.type "BaseException") = some true
  tyC : typeIn K (.ref C) = some (.type "type")
  te : exmOne K (.ref C) (.ref C) = some true
  fn : ∃ (oc : Value) (od : Option Addr) (kV doc pm : Value) (an : Option Addr) (cdv ct : Value) (osl : Array (Option Value)) (p1 p2 p3 q1 q2 q3 q4 q5 q6 q7 q8 : Pos),
    K.lookup fI = some ⟨oc, od, .func (fnOf "__init__" "Fault.__init__" (fA p1 p2 p3) (fB q1 q2 q3 q4 q5 q6 q7 q8) fS .none kV doc pm an cdv ct), osl⟩ ∧ codeIn K cdv "Fault.__init__" = true
/-- the two fields, as __init__ leaves them -/
def faultM (v1 v2 : Value) : Str → Option Value := fun y => if y = "position" then some v2 else if y = "kind" then some v1 else none
theorem ldN {M : Model} {s : Shared} {name : Str} {scope : Scope} {L a : Addr} {cd : Value} {m : Str → Option Value} {x : Str} {pos : Pos} {v : Value} {Q : Value → Shared → Prop} {A : Around} {E : Value → Shared → Prop} (hn : s.heap.Ns L m) (hv : m x = some v) (h : Q v s)
    (hk : scope.kind = .function := by rfl) (hl : (envOfC name scope L a cd).kindOf x = some .local := by rfl) (hd : (x == ("__debug__" : Str)) = false := by decide) : wpAny M A (eval (.Name x pos) (envOfC name scope L a cd)) Q E s :=
  wpAny_Name (wpAny_loadName_local hk hl hn hv h) hd
/-- a made Fault -/
structure FaultMade (h h' : Heap) (e C d : Addr) (v1 v2 : Value) : Prop where
  keep : ∀ b o, h.get? b = some o → h'.get? b = some o
  new : h.objs.size ≤ e
  obj : ∃ oe vs, h'.get? e = some oe ∧ oe.cls = .ref C ∧ oe.dict = some d ∧ oe.data = .fields vs ∧ vs[1]? = some .none
  dbig : h.objs.size ≤ d
  dne : d ≠ e
  ns : h'.Ns1 d (faultM v1 v2)
section
variable {prog : Program} {w : World} {A : Around} {R : Result → Shared → Prop} {s : Shared} {K : Frag} {mg : Str → Option Value} {C fI : Addr}
theorem fault_init (T : FaultTxt K mg C fI) {x t0 : Addr} {v1 v2 : Value} (X : K.In s.heap) (hlim : s.heap.NoLimit) (hx : s.heap.get? x = some (excO C t0)) (hnx : K.lookup x = none) (hroom : A.depth < recursionLimit)
    (hq : ∀ h' tk dx, (∀ b o, b ≠ x → s.heap.get? b = some o → h'.get? b = some o) → h'.get? x = some { cls := .ref C, dict := some dx, data := .fields #[.ref t0, .none, .none, .none, .bool false, .none] } → s.heap.objs.size ≤ dx → dx ≠ x →
      h'.Ns1 dx (faultM v1 v2) → R (.ok (.ret .none)) { s with heap := h', toks := tk }) :
    codeAny (model prog w) A (.call (.ref fI) ⟨[.ref x, v1, v2], []⟩) R s := by
  obtain ⟨oc, od, kV, doc, pm, an, cdv, ct, osl, p1, p2, p3, q1, q2, q3, q4, q5, q6, q7, q8, ho, hcd⟩ := T.fn
  refine Att.call_fn (binds := [("self", .ref x), ("kind", v1), ("position", v2)]) X hlim ho hcd hroom (BindsTo.of_eq (by first | rfl | with_unfolding_all rfl)) (by first | rfl | decide | with_unfolding_all rfl) (fun s₁ IC => ?_) rfl rfl rfl
  obtain ⟨h₁, tk₁, rfl⟩ := IC.toInCall.same
  have k : ∀ b o, s.heap.get? b = some o → h₁.get? b = some o := IC.toInCall.keep
  have hn := IC.toInCall.ns
  have X₁ : K.In h₁ := X.keeps k
  have hx₁ := k _ _ hx
  have z : s.heap.objs.size < h₁.objs.size := hn.lt
  -- self.kind = kind
  show wpAny _ _ (execs _ _) _ _ _
  refine wpAny_execs_cons (plainObj_wpAny_Assign_Attribute ?_)
  refine ldN (v := v1) hn (by first | rfl | with_unfolding_all rfl | kernel_rfl) (ldN (v := .ref x) hn (by first | rfl | with_unfolding_all rfl | kernel_rfl) ?_)
  refine set_plain X₁ (ox := excO C t0) (od := none) ⟨hx₁, rfl, rfl, trivial⟩ T.sa ?_
  refine put_first X₁ hx₁ T.ov T.hdC T.nk (fun h₃ tk₃ dx k₃ dn dne hx₃ hn₃ => ?_)
  -- self.position = position
  have X₃ : K.In h₃ := fun a o e => k₃ a o (fun y => by rw [y, hnx] at e; cases e) (X₁ a o e)
  have hn3 : h₃.Ns s.heap.objs.size _ := hn.at fun o q => k₃ _ _ (Nat.ne_of_gt (Heap.lt_size hx)) q
  have w3 : Within (fun y => if y = "kind" then some v1 else none) ["kind"] := Within.cons "kind" v1 Within.nil
  obtain ⟨oD, esD, epD, hoD, hdD, _⟩ := hn₃.count w3
  show wpAny _ _ (execs _ _) _ _ _
  refine wpAny_execs_cons (plainObj_wpAny_Assign_Attribute ?_)
  refine ldN (v := v2) hn3 (by first | rfl | with_unfolding_all rfl | kernel_rfl) (ldN (v := .ref x) hn3 (by first | rfl | with_unfolding_all rfl | kernel_rfl) ?_)
  refine set_plain X₃ (ox := { cls := .ref C, dict := some dx, data := .fields #[.ref t0, .none, .none, .none, .bool false, .none] }) (od := some oD) ⟨hx₃, rfl, rfl, hoD⟩ T.sa ?_
  refine put_next X₃ hx₃ hn₃ w3 (by decide) T.ov T.hdC T.np (fun h₄ tk₄ k₄ hn₄ => ?_)
  show wpAny _ _ (execs _ _) _ _ _
  exact wpAny_execs_nil (hq h₄ tk₄ dx (fun b o hb e => k₄ b o (Nat.ne_of_lt (Nat.lt_of_lt_of_le (Heap.lt_size e) (Nat.le_of_lt (Nat.lt_of_lt_of_le z dn)))) (k₃ b o hb (k b o e))) (k₄ _ _ dne.symm hx₃) (Nat.le_of_lt (Nat.lt_of_lt_of_le z dn)) dne hn₄)
theorem fault_made (T : FaultTxt K mg C fI) {v1 v2 : Value} (X : K.In s.heap) (hlim : s.heap.NoLimit) (hroom : A.depth + 1 < recursionLimit)
    (hq : ∀ h' tk e d, FaultMade s.heap h' e C d v1 v2 → R (.ok (.ret (.ref e))) { s with heap := h', toks := tk }) :
    codeAny (model prog w) A (.call (.ref C) ⟨[v1, v2], []⟩) R s := by
  obtain ⟨nm, N, q, bs, bm, hdct, sn, sub, ab, col, dd, k0, k1, k2, k3, k5, hC, hbm⟩ := excInit_of X T.qi
  obtain ⟨hp, g, dr, tk, os⟩ := s
  have k : ∀ b o, hp.get? b = some o → ((hp.push (kdv_tup [v1, v2])).push (excO C hp.objs.size)).get? b = some o := fun b o e => Heap.get?_push_of_some _ (Heap.get?_push_of_some _ e)
  have hget : ((hp.push (kdv_tup [v1, v2])).push (excO C hp.objs.size)).get? (hp.objs.size + 1) = some (excO C hp.objs.size) := by heap_get
  have hnx : K.lookup (hp.objs.size + 1) = none := by
    cases e : K.lookup (hp.objs.size + 1) with
    | none => rfl
    | some o =>
      have z : hp.get? (hp.objs.size + 1) = some o := X _ _ e
      exact absurd (Nat.lt_of_succ_lt (Heap.lt_size z)) (Nat.lt_irrefl _)
  refine call_own F.excBase_Exception (fun Y => hbm Y) hC (looks_findIn X T.iC) (fun self => bind_fn X self T.tC) (by rw [sizeLine_eq]; exact (by decide : 2 ≤ 16777216)) ?_
  refine fault_init (s := ⟨(hp.push (kdv_tup [v1, v2])).push (excO C hp.objs.size), g, dr, tk, os⟩) T (X.keeps k) (hlim.keeps k) hget hnx ?_ fun h' tk' dx k' hx dn dne hns => ?_
  · show A.depth + 1 < recursionLimit
    exact hroom
  · have old : ∀ b o, hp.get? b = some o → h'.get? b = some o := fun b o e => k' b o (Nat.ne_of_lt (Nat.lt_succ_of_lt (Heap.lt_size e))) (k b o e)
    have z : hp.objs.size + 1 + 1 ≤ dx := by
      first
        | (simpa only [Heap.size_push] using dn)
        | exact dn
    exact ⟨rfl, hq h' tk' (hp.objs.size + 1) dx ⟨old, Nat.le_succ _, ⟨_, _, hx, rfl, rfl, rfl, rfl⟩, Nat.le_trans (Nat.le_trans (Nat.le_succ _) (Nat.le_succ _)) z, dne, hns⟩⟩
end
end CkF
end PySem
namespace Ck
open PySem PySem.Spec PyProof.Rows L2
def faultF (v1 v2 : V) : List (Str × V) := [("position", v2), ("kind", v1)]
theorem relO_fault {v1 v2 : V} {u1 u2 : Value} (r1 : RelV v1 u1) (r2 : RelV v2 u2) (f : Str) : RelO ((faultF v1 v2).lookup f) (CkF.faultM u1 u2 f) := by
  unfold faultF CkF.faultM
  by_cases h : f = "position"
  · subst h
    rw [if_pos rfl]
    have e : List.lookup ("position" : Str) [(("position" : Str), v2), (("kind" : Str), v1)] = some v2 := by simp [List.lookup]
    rw [e]
    exact r2
  · rw [if_neg h]
    have q : (f == ("position" : Str)) = false := by simpa using h
    by_cases h2 : f = "kind"
    · subst h2
      rw [if_pos rfl]
      have e : List.lookup ("kind" : Str) [(("position" : Str), v2), (("kind" : Str), v1)] = some v1 := by simp [List.lookup, q]
      rw [e]
      exact r1
    · rw [if_neg h2]
      have q2 : (f == ("kind" : Str)) = false := by simpa using h2
      have e : List.lookup f [(("position" : Str), v2), (("kind" : Str), v1)] = none := by simp [List.lookup, q, q2]
      rw [e]
      trivial
section
variable {X : Cx} {C fI : Addr}
/-- Fault(a, b) -/
def tMkFault (C : Addr) (ta : TA) : L2.St → Hp → XK → Prop := fun σ H Q => ta σ H fun vs H1 => ∃ v1 v2, vs = [v1, v2] ∧ ∀ d, H1 d = none → Q (.ref C) (some d) (upd H1 d (.xd (faultF v1 v2)))
theorem pmk_fault {a b : Expr} {ta : TA} {p pos : Pos} {k : Nat} (T : CkF.FaultTxt X.K X.mg C fI) (hr : Room k X.A) (hk : 1 ≤ k) (ha : PA X [a, b] ta) (hg : Gl X "Fault" := by rfl)
    (he : starEach (a :: [b]) X.env = (false, eval a X.env) :: starEach [b] X.env := by rfl) (hpl : (backTo pos (starEach [b] X.env)).any (·.1) = false := by rfl) :
    PMk X (.Call (.Name "Fault" p) [a, b] [] pos) (tMkFault C ta) := by
  intro pins s σ H Q I h
  refine wpAny_Call_Name_kw (ld_glob I hg T.gC ?_)
  refine PySem.W.callWith_K (h₀ := X.base) I.ok.mod.kin T.kC (thn (ha.run pos pins s σ H _ I h) fun us s1 hh => ?_) he hpl
  obtain ⟨vs, H1, I1, r1, v1, v2, ev, q1⟩ := hh
  subst ev
  refine ⟨I1.kIn, ?_⟩
  match us, r1 with
  | [u1, u2], .cons rv1 (.cons rv2 .nil) =>
    show wpAny _ _ (call (.ref C) [u1, u2]) _ _ _
    have hlim := I1.nolimit
    obtain ⟨hp, g, dr, tk, os⟩ := s1
    refine wpAny_call (CkF.fault_made T I1.kIn hlim (by have := hr.dp; omega) fun h' tk' e d M => ?_)
    show MkP X pins σ Q (.ref e) ⟨h', g, dr, tk', os⟩
    obtain ⟨oe, fv, hoe, hc, hd, hdat, h1⟩ := M.obj
    have hns := M.ns
    obtain ⟨G', g1, g2⟩ := restrict h' fun b => decide (b ≠ e)
    have gk : ∀ b, b ≠ e → G'.get? b = h'.get? b := fun b hb => g1 b (decide_eq_true hb)
    have ge : G'.get? e = none := g2 e (by simp)
    have old : ∀ b o, hp.get? b = some o → G'.get? b = some o := fun b o q => (gk b (Nat.ne_of_lt (Nat.lt_of_lt_of_le (Heap.lt_size q) M.new))).trans (M.keep b o q)
    have ob : ObjOk X.prog X.w (upd H1 d (.xd (faultF v1 v2))) G' d (.xd (faultF v1 v2)) :=
      ⟨_, hns.at (fun o q => (gk d M.dne).trans q), fun f => relO_fault rv1 rv2 f⟩
    have J : Inv X pins σ (upd H1 d (.xd (faultF v1 v2))) ⟨G', g, dr, tk', os⟩ := I1.laid (t' := tk') old M.dbig ob
    refine ⟨e, oe, fv, ⟨G', g, dr, tk', os⟩, _, .ref C, some d, rfl, J, fun b o q => ?_, ge, hoe, ⟨hc, hd⟩, hdat, h1, ?_, rfl, I1.bare, raises_own T.exC T.tyC, q1 d (I1.hok.fresh M.dbig)⟩
    · by_cases hb : b = e
      · have q' : G'.get? b = some o := q
        rw [hb, ge] at q'; cases q'
      · exact (gk b hb).symm.trans q
    · rw [upd_ne (Ne.symm M.dne)]
      exact I1.hok.fresh M.new
/-- raise Fault(a, b) -/
def tRaiseFault (C : Addr) (W : WX) (ta : TA) : TS := fun _ σ H => tMkFault C ta σ H fun cls d H' => W cls d σ H'
theorem ps_raiseFault {a b : Expr} {ta : TA} {W : WX} {p pos pos2 : Pos} {k : Nat} (hc : X.calm = true) (T : CkF.FaultTxt X.K X.mg C fI) (hr : Room k X.A) (hk : 1 ≤ k) (tk : Takes X W) (ha : PA X [a, b] ta) (hg : Gl X "Fault" := by rfl)
    (he : starEach (a :: [b]) X.env = (false, eval a X.env) :: starEach [b] X.env := by rfl) (hpl : (backTo pos (starEach [b] X.env)).any (·.1) = false := by rfl) :
    PS X (.Raise (some (.Call (.Name "Fault" p) [a, b] [] pos)) none pos2) (tRaiseFault C W ta) := ps_raise hc tk (pmk_fault T hr hk ha hg he hpl)
end
end Ck
/-! rules that the layer lacks: max(list, default=d); dicts of the text: d.get(k), int keys -/
namespace PySem
namespace CkM
open Sem (wp)
theorem argsD (a d : Value) : argsOk "max" ⟨[a], [(Str.ofString "default", d)]⟩ := by unfold argsOk; kernel_rfl
theorem loopName : (toString "max" ++ toString ".loop" : String) = "max.loop" := by decide
section
variable {prog : Program} {w : World} {A : Around} {R : Result → Shared → Prop} {I : Addr} {fp wr : List Addr} {n : Nat} {P : Nat → Value → Prop} {St : Nat → Heap → Prop}
/-- the loop with keywords beside it, behind j + 1 items -/
theorem on_loop (W : Walks prog w A.in1 I fp wr n P St) (bt : Nat → Nat → Bool) (cmp : CmpOf prog w A.in1 .Gt P bt) (S : Addr) (far : S ∉ fp) (kw : List (Str × Value)) :
    ∀ (k j : Nat) (s : Shared) (best : Value) (c : Nat), n - (j + 1) = k → j + 1 ≤ n → St (j + 1) s.heap → P (argBest bt j) best → s.heap.get? S = some { cls := .type "list", dict := none, data := .seq #[best, best] c, slots := #[] } →
    (∀ v h2 tk, P (argBest bt (n - 1)) v → (∀ b o, b ∉ wr → b ≠ S → s.heap.get? b = some o → h2.get? b = some o) → R (.ok (.ret v)) { s with heap := h2, toks := tk }) → codeAny (model prog w) A (.builtin "max.loop" ⟨[.ref I, .none, .ref S], kw⟩) R s := by
  have farW : S ∉ wr := fun h => far (W.sub _ h)
  intro k; induction k with
  | zero =>
    intro j s best c hk hj hst hb hS out
    have whole : j + 1 = n := by omega
    refine codeAny_builtin F.entry_max_loop ?_; rw [Around.under_plainId F.plain_max_loop _]
    show wpAny _ A.in1 (seqItems? (.ref S) >>= fun _ => _) _ _ s
    refine wpAny_bind (wpAny_seqItems hS rfl (show wpAny _ A.in1 (tryCatch (pyNext (.ref I)) _ >>= fun _ => _) _ _ s from ?_))
    refine wpAny_bind (wpAny_tryCatch (W.done s _ _ (whole ▸ hst) fun h2 tk kept => (show wpAny _ A.in1 (updateSeq S (fun _ => #[]) >>= fun _ => _) _ _ _ from ?_)))
    have hS2 := kept S _ farW hS
    refine wpAny_bind (wpAny_updateSeq hS2 rfl (wpAny_bind (wpAny_letGo (wpAny_pure ?_))))
    refine out best _ tk (by rw [← whole]; exact hb) fun b o nw nS e => ?_
    exact (Heap.get?_update_other _ _ nS.symm).trans (kept b o nw e)
  | succ k ih =>
    intro j s best c hk hj hst hb hS out
    have more : j + 1 < n := by omega
    refine codeAny_builtin F.entry_max_loop ?_; rw [Around.under_plainId F.plain_max_loop _]
    show wpAny _ A.in1 (seqItems? (.ref S) >>= fun _ => _) _ _ s
    refine wpAny_bind (wpAny_seqItems hS rfl (show wpAny _ A.in1 (tryCatch (pyNext (.ref I)) _ >>= fun _ => _) _ _ s from ?_))
    refine wpAny_bind (wpAny_tryCatch (W.item (j + 1) s _ _ more hst fun v h2 tk hv hst2 kept => (show wpAny _ A.in1 (tryCatch (holding [v, v] (richCompare .Gt v best >>= _)) _ >>= fun _ => _) _ _ _ from ?_)))
    have hS2 := kept S _ farW hS
    refine wpAny_bind (wpAny_tryCatch (wpAny_holding (wpAny_bind (cmp (j + 1) (argBest bt j) v best _ _ _ hv hb (wpAny_bind (wpAny_holding (wpAny_truthy_bool (wpAny_bind (wpAny_letGo (wpAny_pure ?_))))))))))
    cases q : bt (j + 1) (argBest bt j) with
    | true =>
      simp only [if_true]
      refine wpAny_bind (wpAny_updateSeq hS2 rfl (wpAny_bind (wpAny_letGo ?_))); rw [loopName]
      refine wpAny_pure ⟨plainId_quiet F.plain_max_loop _, ih (j + 1) _ v _ (by omega) more (W.frame _ _ _ hst2 fun b hf o e => ?_) (by simp only [argBest, q, if_true]; exact hv) (Heap.get?_update_self _ hS2 rfl) fun v2 h3 tk3 hv2 kept2 => ?_⟩
      · exact (Heap.get?_update_other _ _ (fun z : S = b => far (by rw [z]; exact hf))).trans e
      · refine out v2 h3 tk3 hv2 fun b o nw nS e => kept2 b o nw nS ?_
        exact (Heap.get?_update_other _ _ nS.symm).trans (kept b o nw e)
    | false =>
      simp only [Bool.false_eq_true, if_false]
      refine wpAny_bind (wpAny_letGo ?_); rw [loopName]
      refine wpAny_pure ⟨plainId_quiet F.plain_max_loop _, ih (j + 1) _ best c (by omega) more hst2 (by simp only [argBest, q, Bool.false_eq_true, if_false]; exact hb) hS2 fun v2 h3 tk3 hv2 kept2 => out v2 h3 tk3 hv2 fun b o nw nS e => ?_⟩
      exact kept2 b o nw nS (kept b o nw e)
/-- from its start; d where nothing is walked -/
theorem from_loop (W : Walks prog w A.in1 I fp wr n P St) (bt : Nat → Nat → Bool) (cmp : CmpOf prog w A.in1 .Gt P bt) (S : Addr) (far : S ∉ fp) {d : Value} {s : Shared} {c : Nat} (hst : St 0 s.heap) (hS : s.heap.get? S = some { cls := .type "list", dict := none, data := .seq #[] c, slots := #[] })
    (none_ : n = 0 → ∀ h2 tk, (∀ b o, b ∉ wr → b ≠ S → s.heap.get? b = some o → h2.get? b = some o) → R (.ok (.ret d)) { s with heap := h2, toks := tk })
    (some_ : 0 < n → ∀ v h2 tk, P (argBest bt (n - 1)) v → (∀ b o, b ∉ wr → b ≠ S → s.heap.get? b = some o → h2.get? b = some o) → R (.ok (.ret v)) { s with heap := h2, toks := tk }) :
    codeAny (model prog w) A (.builtin "max.loop" ⟨[.ref I, .none, .ref S], [(Str.ofString "default", d)]⟩) R s := by
  have farW : S ∉ wr := fun h => far (W.sub _ h)
  refine codeAny_builtin F.entry_max_loop ?_; rw [Around.under_plainId F.plain_max_loop _]
  show wpAny _ A.in1 (seqItems? (.ref S) >>= fun _ => _) _ _ s
  refine wpAny_bind (wpAny_seqItems hS rfl (show wpAny _ A.in1 (tryCatch (pyNext (.ref I)) _ >>= fun _ => _) _ _ s from ?_))
  rcases Nat.eq_zero_or_pos n with e0 | pos
  · subst e0
    refine wpAny_bind (wpAny_tryCatch (W.done s _ _ hst fun h2 tk kept => ?_))
    dsimp only
    refine wpAny_bind ?_
    repeat (first | with_reducible refine wpAny_rule ?_ | wp_step)
    exact none_ rfl _ _ fun b o nw nS e => kept b o nw e
  · refine wpAny_bind (wpAny_tryCatch (W.item 0 s _ _ pos hst fun v h2 tk hv hst2 kept => (show wpAny _ A.in1 (updateSeq S (fun _ => #[v, v]) >>= fun _ => _) _ _ _ from ?_)))
    have hS2 := kept S _ farW hS
    refine wpAny_bind (wpAny_updateSeq hS2 rfl ?_); rw [loopName]
    refine wpAny_pure ⟨plainId_quiet F.plain_max_loop _, on_loop W bt cmp S far _ _ 0 _ v _ rfl pos (W.frame _ _ _ hst2 fun b hf o e => ?_) hv (Heap.get?_update_self _ hS2 rfl) fun v2 h3 tk3 hv2 kept2 => ?_⟩
    · exact (Heap.get?_update_other _ _ (fun z : S = b => far (by rw [z]; exact hf))).trans e
    · refine some_ pos v2 h3 tk3 hv2 fun b o nw nS e => kept2 b o nw nS ?_
      exact (Heap.get?_update_other _ _ nS.symm).trans (kept b o nw e)
end
end CkM
end PySem
namespace PySem
namespace CkM
open Sem (wp)
open PyProof.Rows L2 in
section
variable {prog : Program} {w : World} {A : Around} {E : Value → Shared → Prop} {s : Shared} {l : Addr}
/-- max(list of ints, default=d) -/
theorem call_maxD {xs : Array (Int × Tok)} {d : Value} {Q : Value → Shared → Prop} (hh : A.handled = none) (hl : s.heap.IsList l (intItems xs))
    (none_ : xs.size = 0 → ∀ h2 tk, (∀ b o, s.heap.get? b = some o → h2.get? b = some o) → Q d { s with heap := h2, toks := tk })
    (some_ : 0 < xs.size → ∀ v h2 tk, (intItems xs)[argBest (fun i j => decide (numAt xs i > numAt xs j)) (xs.size - 1)]? = some v → (∀ b o, s.heap.get? b = some o → h2.get? b = some o) → Q v { s with heap := h2, toks := tk }) :
    wpAny (model prog w) A (call (.builtin "max") [.ref l] [(Str.ofString "default", d)]) Q E s := by
  refine kmk_tree F.kind_max F.plain_max F.entry_max (argsD _ _) ?_
  show wpAny _ A.in1 (Builtin.Builtins.bindParams "max" ["key", "default"] 0 ⟨[], [(Str.ofString "default", d)]⟩ >>= fun _ => _) _ _ s
  refine wpAny_bind (wpAny_of_eq (show Builtin.Builtins.bindParams "max" ["key", "default"] 0 ⟨[], [(Str.ofString "default", d)]⟩ = pure [none, some d] from rfl) (wpAny_bind (wpAny_pure (wpAny_bind (iter_intList hl fun s2 e st hfp lI => ?_)))))
  subst e
  refine wpAny_bind (wpAny_newObj_type ?_); rw [loopName]
  have sz : (s.heap.push { cls := .type "list_iterator", data := .fields #[.ref l, .int 0 0] }).objs.size = s.heap.objs.size + 1 := Heap.size_push ..
  have far : (s.heap.push { cls := .type "list_iterator", data := .fields #[.ref l, .int 0 0] }).objs.size ∉ [s.heap.objs.size, l] := fun hm => Nat.lt_irrefl _ (hfp _ hm)
  have W := Walks.list (prog := prog) (w := w) (A := A.in1) hh s.heap.objs.size l lI (intItems xs)
  have n_is : (intItems xs).size = xs.size := by simp [intItems]
  have back : ∀ {h2 : Heap}, (∀ b o, b ∉ [s.heap.objs.size] → b ≠ (s.heap.push { cls := .type "list_iterator", data := .fields #[.ref l, .int 0 0] }).objs.size →
      ((s.heap.push { cls := .type "list_iterator", data := .fields #[.ref l, .int 0 0] }).push { cls := .type "list", data := .seq #[] 0 }).get? b = some o → h2.get? b = some o) → ∀ b o, s.heap.get? b = some o → h2.get? b = some o := fun {h2} k b o e => by
    have lt := Heap.lt_size e
    refine k b o (fun hm => ?_) (Nat.ne_of_lt (by rw [sz]; exact Nat.lt_succ_of_lt lt)) (Heap.get?_push_of_some _ (Heap.get?_push_of_some _ e))
    rcases List.mem_cons.mp hm with e1 | hm
    · rw [e1] at lt
      exact absurd lt (Nat.lt_irrefl _)
    · cases hm
  refine wpAny_pure ⟨plainId_quiet F.plain_max_loop _, from_loop W _ (CmpOf.ints_gt (numAt xs) (fun _ _ => intItems_at)) _ far (W.frame _ _ _ st fun b _ o e => Heap.get?_push_of_some _ e) (Heap.get?_push_size _ rfl) (fun e0 h2 tk k => ?_) (fun pos v h2 tk hv k => ?_)⟩
  · exact none_ (n_is ▸ e0) h2 tk (back k)
  · exact some_ (n_is ▸ pos) v h2 tk (by rw [← n_is]; exact hv) (back k)
end
end CkM
end PySem
namespace Ck
open PySem PySem.Spec PyProof.Rows L2
/-- the greatest of a list, d where there is none -/
def maxD (d : Int) (ns : List Int) (m : Int) : Prop := (ns = [] ∧ m = d) ∨ (m ∈ ns ∧ ∀ y ∈ ns, y ≤ m)
theorem maxD_fold {d m : Int} {ns : List Int} (h : maxD d ns m) (hd : ∀ y ∈ ns, d ≤ y) : m = ns.foldl max d := by
  have up : ∀ (l : List Int) (a : Int), a ≤ l.foldl max a ∧ (∀ y ∈ l, y ≤ l.foldl max a) ∧ (l.foldl max a = a ∨ l.foldl max a ∈ l) := by
    intro l
    induction l with
    | nil => intro a; exact ⟨Int.le_refl _, by simp, .inl rfl⟩
    | cons x r ih =>
      intro a
      obtain ⟨h1, h2, h3⟩ := ih (max a x)
      refine ⟨by simp only [List.foldl_cons]; omega, fun y hy => ?_, ?_⟩
      · rcases List.mem_cons.mp hy with rfl | hy
        · simp only [List.foldl_cons]; omega
        · exact h2 y hy
      · simp only [List.foldl_cons]
        rcases h3 with h3 | h3
        · rw [h3]
          by_cases c : a ≤ x
          · exact .inr (by rw [Int.max_eq_right c]; simp)
          · exact .inl (Int.max_eq_left (by omega))
        · exact .inr (List.mem_cons_of_mem _ h3)
  obtain ⟨h1, h2, h3⟩ := up ns d
  rcases h with ⟨rfl, rfl⟩ | ⟨hm, hy⟩
  · rfl
  · have a := h2 m hm
    rcases h3 with h3 | h3
    · have := hd m hm
      omega
    · have := hy _ h3
      omega
section
variable {X : Cx}
theorem hr64 {k : Nat} {A : Around} (hr : Room k A) : A.units + 64 < cLine := by have := hr.un; omega
def rMaxD (K : PySem.W.Frag) : List V → List V → Hp → VK → Prop := fun vs zs H Q => ∃ (a : Addr) (ns : List Int) (d : Int), vs = [V.ref a] ∧ zs = [V.int d] ∧ SqL K H a (ns.map V.int) ∧ ∀ m, maxD d ns m → Q (.int m) H
theorem cr_maxDK (hc : X.calm = true) : CallRK X (.builtin "max") [Str.ofString "default"] (rMaxD X.K) := by
  intro pins s σ H vs zs us ws Q I r r2 h
  obtain ⟨a, ns, d, rfl, rfl, hs, q⟩ := h
  obtain ⟨its, rv, hl, _⟩ := I.list hs
  rw [Vals.ref1 r]
  match ws, r2 with
  | [dv], .cons rd .nil =>
    obtain ⟨xs, e⟩ := rv.ints.allInts.items
    have hn : numsOf (intItems xs).toList = ns := by rw [← e]; exact rv.ints.numsOf
    have hl2 := hl.isList
    rw [e] at hl2
    rw [nums_intItems] at hn
    have len : xs.size = ns.length := by rw [← hn]; simp
    refine CkM.call_maxD (I.ok.hd hc) hl2 (fun e0 h2 tk k => ?_) (fun pos v h2 tk hv k => ?_)
    · refine ⟨.int d, H, I.kept k, rd, q d (.inl ⟨?_, rfl⟩)⟩
      exact List.length_eq_zero_iff.mp (len ▸ e0)
    · obtain ⟨t, rfl⟩ := intItems_at hv
      refine ⟨.int _, H, I.kept k, ⟨t, rfl⟩, q _ (.inr ?_)⟩
      obtain ⟨h1, h3⟩ := argBest_gt (numAt xs) (xs.size - 1)
      subst hn
      refine ⟨?_, fun y hy => ?_⟩
      · rw [numAt_eq]
        exact PySem.getD_mem (by rw [List.length_map, Array.length_toList]; omega)
      · obtain ⟨j, hj, rfl⟩ := mem_getD hy
        rw [List.length_map, Array.length_toList] at hj
        rw [← numAt_eq]
        exact h3 j (by omega)
end
end Ck
/-! tables of the text -/
namespace Ck
open PySem PySem.Spec PyProof.Rows L2
/-- at a: a dict of the text, with text keys -/
def KD (K : PySem.W.Frag) (w : World) (a : Addr) : Prop := ∃ es n, KDict K w a es n
/-- at a: a dict of the text, with int keys -/
structure KDI (K : PySem.W.Frag) (a : Addr) (tb : List (Int × Int)) : Prop where
  ex : ∃ es n, K.lookup a = some ⟨.type "dict", none, .dict es n, #[]⟩ ∧ (∀ e ∈ es.toList, ∃ k t, e.key = .int k t ∧ e.hash = hashInt k) ∧ ∀ k : Int, RelO ((tb.lookup k).map V.int) (findBy Value.isInt es k)
  low : (a == sysModules) = false
section
variable {X : Cx} {d : Addr} {tb : List (Int × Int)}
theorem op_in_kdx : OpR X (compareOp .In) (fun x y H Q => ∃ (z : Str) (a : Addr) (r : Option Value), x = .str z ∧ y = .ref a ∧ KD X.K X.w a ∧ PySem.W.nsIn X.K a z = some r ∧ Q (.bl r.isSome) H) := by
  intro pins s σ H x y v u Q I rx ry h
  obtain ⟨z, a, r, rfl, rfl, ⟨es, n, D⟩, e, q⟩ := h
  exact op_in_kd D pins s σ H _ _ v u Q I rx ry ⟨z, r, rfl, rfl, e, q⟩
theorem op_notIn_kdx : OpR X (compareOp .NotIn) (fun x y H Q => ∃ (z : Str) (a : Addr) (r : Option Value), x = .str z ∧ y = .ref a ∧ KD X.K X.w a ∧ PySem.W.nsIn X.K a z = some r ∧ Q (.bl (!r.isSome)) H) := by
  intro pins s σ H x y v u Q I rx ry h
  obtain ⟨z, a, r, rfl, rfl, ⟨es, n, D⟩, e, q⟩ := h
  exact op_notIn_kd D pins s σ H _ _ v u Q I rx ry ⟨z, r, rfl, rfl, e, q⟩
def rIxKd (K : PySem.W.Frag) (w : World) : R2 := fun x y H Q => ∃ (p : Addr) (z : Str) (u : Value) (v : V), x = .ref p ∧ y = .str z ∧ KD K w p ∧ PySem.W.nsIn K p z = some (some u) ∧ RelV v u ∧ Q v H
theorem ix_kd : IxR X (rIxKd X.K X.w) := by
  intro value slice pins s σ H x y v u Q I rx ry h hs
  obtain ⟨p, z, u0, v0, rfl, rfl, ⟨es, n, D⟩, e, r, q⟩ := h
  exact ix_kdict value slice pins s σ H _ _ v u Q I rx ry ⟨p, z, v0, rfl, rfl, ⟨es, n, u0, D.at_, D.lit, e, r⟩, q⟩ hs
/-- d.get(k) -/
def tKGet (K : PySem.W.Frag) (w : World) (td ty : TE) : TE := fun σ H Q => td σ H fun x H1 => ∃ a : Addr, x = .ref a ∧ KD K w a ∧ ty σ H1 fun y H2 => ∃ (z : Str) (r : Option Value) (o : Option V), y = .str z ∧ PySem.W.nsIn K a z = some r ∧ RelO o r ∧ Q (o.getD .non) H2
theorem pe_kget {o e : Expr} {apos cpos : Pos} {td ty : TE} (ho : PE X o td) (he : PE X e ty) (hb : attributeBase o "get" X.env (eval o X.env) = eval o X.env := by rfl)
    (hf : ((backTo cpos (starEach [e] X.env)).all (fun x => !x.1) && (backToKw cpos (keywordEach [] X.env)).all (fun x => x.1.isSome) && decide (([e] : List Expr).length + ([] : List Keyword).length + (if ([] : List Keyword).isEmpty then 0 else 1) < 30)) = true := by rfl)
    (hl : (apos.endLine == cpos.line) = true := by rfl) (ht : backTo cpos (starEach [e] X.env) = [(false, eval e X.env)] := by rfl) : PE X (.Call (.Attribute o "get" apos) [e] [] cpos) (tKGet X.K X.w td ty) := by
  refine ⟨fun pins s σ H Q I h => ?_⟩
  refine wpAny_Call_method hb hf hl PySem.F.plainAttrs_dict PySem.F.slot_dict_get PySem.F.type_dict_get (thn (ho.run pins s σ H _ I h) fun u s1 hh => ?_)
  obtain ⟨x, H1, I1, rx, a, ex, ⟨es, n, D⟩, q1⟩ := hh
  subst ex
  obtain rfl : u = Value.ref a := rx
  have m1 := PySem.W.mapOf_K (prog := X.prog) I1.kIn D.at_ D.lit
  refine ⟨m1.typeIs, fun b eb => ?_, ?_⟩
  · obtain ⟨o1, es1, ep1, g1, g2, _⟩ := m1
    cases eb
    exact ⟨o1, g1, g2.2.1⟩
  · rw [ht]
    refine Calls.callWith_builtin rfl (Calls.evalArgs_plain (Calls.spliced_cons (thn (he.run pins s1 σ H1 _ I1 q1) fun iv s2 hh => Calls.spliced_nil ?_)))
    obtain ⟨y, H2, I2, ry, z, r, o2, ey, e2, ro, q2⟩ := hh
    subst ey
    obtain ⟨t, rfl⟩ := ry
    have m2 := PySem.W.mapOf_K (prog := X.prog) I2.kIn D.at_ D.lit
    refine call_meetsIn PySem.F.slot_dict_get m2.typeIs PySem.F.entry_dict_get (PySem.F.args_dict_get_2 _ _) (meets_dict_get (strKind X.prog X.w) a (strKind_is X.prog X.w z t) D.low) ⟨_, m2, o2.getD .non, H2, I2.tok _, ?_, q2⟩
    rw [PySem.W.find_K D.at_ e2]
    cases o2 <;> cases r <;> first | exact ro | rfl | exact ro.elim
theorem kdi_map {s : Shared} {pins : List (Addr × Obj)} {σ : L2.St} {H : Hp} (D : KDI X.K d tb) (I : Inv X pins σ H s) : ∃ f, s.heap.MapOf (intKind X.prog X.w) d f ∧ ∀ k : Int, RelO ((tb.lookup k).map V.int) (f k) := by
  obtain ⟨es, n, hl, hk, hf⟩ := D.ex
  refine ⟨fun k => findBy Value.isInt es k, ⟨_, es, n, I.kIn _ _ hl, ⟨rfl, rfl, rfl⟩, rfl, fun e he => ?_, fun _ => rfl⟩, hf⟩
  obtain ⟨k, t, e1, e2⟩ := hk e (Array.mem_toList_iff.mpr he)
  exact ⟨k, by rw [e1]; exact intKind_is X.prog X.w k t, e2⟩
theorem op_notIn_kdi (D : KDI X.K d tb) : OpR X (compareOp .NotIn) (fun x y H Q => ∃ k : Int, x = .int k ∧ y = .ref d ∧ Q (.bl (!(tb.lookup k).isSome)) H) := by
  intro pins s σ H x y v u Q I rx ry h
  obtain ⟨k, rfl, rfl, q⟩ := h
  obtain ⟨t, rfl⟩ := rx
  obtain rfl : u = Value.ref d := ry
  obtain ⟨f, m, rf⟩ := kdi_map D I
  refine wpAny_notIn_of (intKind_is X.prog X.w k t) D.low m ⟨_, H, I.tok _, ?_, q⟩
  have r := rf k
  cases e : tb.lookup k <;> cases e2 : f k <;> rw [e, e2] at r <;> first | rfl | exact r.elim
def rIxKdi (d : Addr) (tb : List (Int × Int)) : R2 := fun x y H Q => ∃ k i : Int, x = .ref d ∧ y = .int k ∧ tb.lookup k = some i ∧ Q (.int i) H
theorem ix_kdi (D : KDI X.K d tb) : IxR X (rIxKdi d tb) := by
  intro value slice pins s σ H x y v u Q I rx ry h hs
  obtain ⟨k, i, rfl, rfl, e, q⟩ := h
  obtain rfl : v = Value.ref d := rx
  obtain ⟨t, rfl⟩ := ry
  obtain ⟨f, m, rf⟩ := kdi_map D I
  have r := rf k
  rw [e] at r
  cases e2 : f k with
  | none => rw [e2] at r; exact r.elim
  | some u0 =>
    rw [e2] at r
    exact tail_any m.typeIs slot_dict_getitem.lookup (wpAny_getItem_of (intKind_is X.prog X.w k t) m e2 ⟨.int i, H, I.tok _, r, q⟩) hs
/-- max(e, default=c) -/
theorem pe_maxD {e : Expr} {te : TE} {c : Int} {j : Nat} {p p1 p2 pos : Pos} (hc : X.calm = true) (hm : X.mg "max" = none) (he : PE X e te) (hg : Gl X "max" := by rfl) (h0 : starEach (e :: []) X.env = (false, eval e X.env) :: starEach [] X.env := by rfl)
    (h1 : backTo pos (starEach (e :: []) X.env) = (false, eval e X.env) :: backTo pos (starEach [] X.env) := by rfl) (h2 : (backTo pos (starEach (e :: []) X.env)).any (·.1) = false := by rfl)
    (h3 : (backToKw pos (keywordEach [⟨some "default", .Constant (.int c) j p1, p2⟩] X.env)).all (·.1.isSome) = true := by rfl) (h4 : (backToKw pos (keywordEach [⟨some "default", .Constant (.int c) j p1, p2⟩] X.env)).any (·.1.isNone) = false := by rfl)
    (h5 : (backToKw pos (keywordEach [⟨some "default", .Constant (.int c) j p1, p2⟩] X.env)).filterMap (·.1) = [Str.ofString "default"] := by rfl) :
    PE X (.Call (.Name "max" p) [e] [⟨some "default", .Constant (.int c) j p1, p2⟩] pos) (tCKw (rMaxD X.K) (tCons te tNil) (tCons (tC (.int c)) tNil)) :=
  pe_callBK (cr_maxDK hc) hg hm (by decide +kernel) (pa_cons he pa_nil h0) (pk_cons pe_int pk_nil) (by decide) (by decide) h1 h2 h3 h4 h5
theorem pe_gref {x : Str} {a : Addr} {pos : Pos} (hm : X.mg x = some (.ref a)) (hg : Gl X x := by rfl) (hd : (x == ("__debug__" : Str)) = false := by decide) : PE X (.Name x pos) (tC (.ref a)) := pe_glob hg hm rfl hd
/-- a class of the module that makes instances -/
structure KeptC (P : Program) (w : World) (K : PySem.W.Frag) (mg : Str → Option Value) (base : Heap) (CX : CXT) (k : Nat) (x : Str) (ps : List Str) (sp : Sp) : Prop where
  ex : ∃ fd, FnOk P w K mg base CX k (He.ma K (He.ga K x) "__init__") fd ps sp ∧ Binds K fd ps []
  g : mg x = some (.ref (He.ga K x))
  maker : Mk K (He.ga K x) (He.ma K (He.ga K x) "__init__")
theorem pe_kmk {CX : CXT} {j k : Nat} {x : Str} {ps : List Str} {sp : Sp} {E : XK} {e : Expr} {es : List Expr} {t : TA} {p pos : Pos} (c : KeptC X.prog X.w X.K X.mg X.base CX k x ps sp) (hr : Room j X.A) (hk : k + 1 ≤ j) (hx : Passes CX X E) (ha : PA X (e :: es) t)
    (hg : Gl X x := by rfl) (hdb : (x == ("__debug__" : Str)) = false := by decide) (he : starEach (e :: es) X.env = (false, eval e X.env) :: starEach es X.env := by rfl) (hpl : (backTo pos (starEach es X.env)).any (·.1) = false := by rfl) :
    PE X (.Call (.Name x p) (e :: es) [] pos) (tMake (He.ga X.K x) sp [] E t) := by
  obtain ⟨fd, F, hb⟩ := c.ex
  exact pe_make c.maker F (hr.mono hk) hg c.g hb .nil hx ha hdb he hpl
end
end Ck
namespace Ck
open PySem PySem.Spec PyProof.Rows L2
/-! ### what the top has written -/
def signsT : Str := " !\"#$~&'()*+,-./0123456789:;<=>?@ABCDEFGHIJKLMNOPQRSTUVWXYZ[\\]~_`abcdefghijklmnopqrstuvwxyz"
def labelT : Str := "ABCDEFGHIJKLMNOPQRSTUVWXYZabcdefghijklmnopqrstuvwxyz0123456789-_.:"
abbrev Rule : Type := Str × List Str × Str × Nat
def rrow (k b : Str) (fs : List Str) (r : Str) (n : Nat) : Str × Rule := (k, b, fs, r, n)
def rulesT : List (Str × Rule) := [rrow "para" "block" ["symbol"] "inline" 0, rrow "heading" "block" ["symbol", "level", "identifier"] "inline" 0, rrow "(code block)" "block" ["symbol", "identifier", "string"] "" 0, rrow "formula" "block" ["symbol", "identifier", "string"] "" 0, rrow "rule" "block" ["symbol"] "" 0, rrow "quote" "block" ["symbol"] "block" 0, rrow "bullets" "block" ["symbol"] "item" 1, rrow "numbers" "block" ["symbol", "integer"] "item" 1, rrow "terms" "block" ["symbol"] "term" 1, rrow "table" "block" ["symbol", "identifier", "caption", "align"] "row" 1, rrow "figure" "block" ["symbol", "identifier", "string"] "inline" 0, rrow "group" "block" ["symbol", "class"] "block" 0, rrow "note" "block" ["symbol", "label"] "block" 0, rrow "code" "inline" ["symbol", "string"] "" 0, rrow "math" "inline" ["symbol", "string"] "" 0, rrow "break" "inline" ["symbol"] "" 0, rrow "noteref" "inline" ["symbol", "label"] "" 0, rrow "ref" "inline" ["symbol", "label"] "" 0, rrow "cite" "inline" ["symbol"] "label" 1, rrow "emph" "inline" ["symbol"] "inline" 0, rrow "strong" "inline" ["symbol"] "inline" 0, rrow "strike" "inline" ["symbol"] "inline" 0, rrow "super" "inline" ["symbol"] "inline" 0, rrow "sub" "inline" ["symbol"] "inline" 0, rrow "caps" "inline" ["symbol"] "inline" 0, rrow "link" "inline" ["symbol", "string"] "inline" 0, rrow "image" "inline" ["symbol", "string"] "inline" 0, rrow "span" "inline" ["symbol", "class"] "inline" 0, rrow "item" "item" ["symbol"] "block" 0, rrow "term" "term" ["symbol", "inlines"] "block" 0, rrow "caption" "caption" ["symbol"] "inline" 0, rrow "align" "align" ["symbol"] "alignment" 1, rrow "row" "row" ["symbol"] "cell" 0, rrow "cell" "cell" ["symbol"] "inline" 0, rrow "class" "class" ["symbol"] "label" 0, rrow "(inlines)" "inlines" [] "inline" 0]
def kindsT : List Str := ["para", "heading", "code", "formula", "rule", "quote", "bullets", "numbers", "terms", "table", "figure", "group", "note", "text", "math", "break", "noteref", "ref", "cite", "emph", "strong", "strike", "super", "sub", "caps", "link", "image", "span"]
def trow (k : Str) (fs : List Str) : Str × List Str := (k, fs)
def selectorsT : List (Str × List Str) := [trow "any" [], trow "kind" ["kind"], trow "level" ["level", "level"], trow "label" ["identifier"], trow "class" ["label"], trow "target" ["string"], trow "text" ["string"], trow "empty" [], trow "first" [], trow "last" [], trow "index" ["integer"], trow "and" ["selectors"], trow "or" ["selectors"], trow "not" ["selector"], trow "parent" ["selector"], trow "ancestor" ["selector"], trow "child" ["selector"], trow "descendant" ["selector"], trow "next" ["selector"], trow "previous" ["selector"]]
def actionsT : List (Str × List Str) := [trow "remove" [], trow "unwrap" [], trow "replace" ["template"], trow "before" ["template"], trow "after" ["template"], trow "set-level" ["level"], trow "raise" [], trow "lower" [], trow "set-label" ["identifier"], trow "add-class" ["label"], trow "remove-class" ["label"], trow "set-target" ["string"], trow "replace-text" ["filled", "string"], trow "upper-case" [], trow "lower-case" []]
def escT : List (Int × Int) := [(34, 34), (92, 92), (110, 10), (116, 9)]
/-- at a: a tuple of the text, of texts -/
def TupS (K : PySem.W.Frag) (a : Addr) (l : List Str) : Prop := ∀ H, SqT K H a (l.map V.str)
def RuleAt (K : PySem.W.Frag) (a : Addr) (r : Rule) : Prop := ∃ b : Addr, TupS K b r.2.1 ∧ ∀ H, SqT K H a [.str r.1, .ref b, .str r.2.2.1, .int (r.2.2.2 : Int)]
/-- a table whose values are tuples: what stands at a key -/
def Tab {α : Type} (K : PySem.W.Frag) (d : Addr) (at_ : Addr → α → Prop) (tb : List (Str × α)) : Prop :=
  ∀ z : Str, (tb.lookup z = none ∧ PySem.W.nsIn K d z = some none) ∨ ∃ q a, tb.lookup z = some q ∧ PySem.W.nsIn K d z = some (some (.ref a)) ∧ at_ a q
def Cst (mg : Str → Option Value) (x : Str) (v : V) : Prop := ∃ u, mg x = some u ∧ RelV v u
structure Txt (w : World) (K : PySem.W.Frag) (mg : Str → Option Value) : Prop where
  cSIGNS : Cst mg "SIGNS" (.str signsT)
  cMARK : Cst mg "MARK" (.str "~")
  cDIGITS : Cst mg "DIGITS" (.str "{|}^")
  cLABEL_SIGNS : Cst mg "LABEL_SIGNS" (.str labelT)
  cDEEPEST : Cst mg "DEEPEST" (.int 16)
  cLINE_FEED : Cst mg "LINE_FEED" (.int 10)
  cQUOTATION_MARK : Cst mg "QUOTATION_MARK" (.int 34)
  cOPENING : Cst mg "OPENING" (.int 40)
  cCLOSING : Cst mg "CLOSING" (.int 41)
  cHYPHEN : Cst mg "HYPHEN" (.int 45)
  cSEMICOLON : Cst mg "SEMICOLON" (.int 59)
  cBACKSLASH : Cst mg "BACKSLASH" (.int 92)
  cLETTER_U : Cst mg "LETTER_U" (.int 117)
  cOPENING_BRACE : Cst mg "OPENING_BRACE" (.int 123)
  cCLOSING_BRACE : Cst mg "CLOSING_BRACE" (.int 125)
  cMOST_REPEATS : Cst mg "MOST_REPEATS" (.int 50)
  gALIGNMENTS : mg "ALIGNMENTS" = some (.ref (He.ga K "ALIGNMENTS"))
  gWHITE_SPACE : mg "WHITE_SPACE" = some (.ref (He.ga K "WHITE_SPACE"))
  gKINDS : mg "KINDS" = some (.ref (He.ga K "KINDS"))
  gSTEPS : mg "STEPS" = some (.ref (He.ga K "STEPS"))
  gRULES : mg "RULES" = some (.ref (He.ga K "RULES"))
  gSELECTORS : mg "SELECTORS" = some (.ref (He.ga K "SELECTORS"))
  gACTIONS : mg "ACTIONS" = some (.ref (He.ga K "ACTIONS"))
  gSHORT_ESCAPES : mg "SHORT_ESCAPES" = some (.ref (He.ga K "SHORT_ESCAPES"))
  tALIGNMENTS : TupS K (He.ga K "ALIGNMENTS") ["none", "left", "center", "right"]
  tWHITE_SPACE : ∀ H, SqT K H (He.ga K "WHITE_SPACE") [.int 32, .int 9, .int 10, .int 13]
  tKINDS : TupS K (He.ga K "KINDS") kindsT
  tSTEPS : TupS K (He.ga K "STEPS") ["blocks", "inlines", "repeat", "when"]
  kRULES : KD K w (He.ga K "RULES")
  kSELECTORS : KD K w (He.ga K "SELECTORS")
  kACTIONS : KD K w (He.ga K "ACTIONS")
  dSHORT_ESCAPES : KDI K (He.ga K "SHORT_ESCAPES") escT
  vRULES : Tab K (He.ga K "RULES") (RuleAt K) rulesT
  vSELECTORS : Tab K (He.ga K "SELECTORS") (TupS K) selectorsT
  vACTIONS : Tab K (He.ga K "ACTIONS") (TupS K) actionsT
  nlen : mg "len" = none
  nisinstance : mg "isinstance" = none
  nstr : mg "str" = none
  nmax : mg "max" = none
  nzip : mg "zip" = none
  ntuple : mg "tuple" = none
  fault : CkF.FaultTxt K mg (He.ga K "Fault") (He.ma K (He.ga K "Fault") "__init__")
  clE : Cls K (He.ga K "Expression")
  clR : Cls K (He.ga K "Reader")
  nE : ∀ f ∈ (["shape", "place", "text", "number", "parts", "head", "depth", "role", "normal", "size"] : List Str), NoAttr K (He.ga K "Expression") f
  nR : ∀ f ∈ (["data", "at"] : List Str), NoAttr K (He.ga K "Reader") f
section
variable {P : Program} {w : World} {K : PySem.W.Frag} {mg : Str → Option Value} {base : Heap}
/-! ### signs -/
def mark (n : Nat) : Str := ⟨#[126, (("{|}^" : Str).cps)[n / 64 % 4]!, (("{|}^" : Str).cps)[n / 16 % 4]!, (("{|}^" : Str).cps)[n / 4 % 4]!, (("{|}^" : Str).cps)[n % 4]!]⟩
def signOf (n : Nat) : Str := if n = 9 then "\t" else if n = 10 then "\n" else if 32 ≤ n ∧ n ≤ 122 ∧ signsT.cps[n - 32]! ≠ 126 then ⟨#[signsT.cps[n - 32]!]⟩ else mark n
def spSign : Sp := fun vs H Q _ => ∃ n : Nat, vs = [.int n] ∧ n < 256 ∧ Q (.str (signOf n)) H
abbrev s_sign_of : Stmt := top 7
theorem sc_sign_of : FnScope ["byte"] ["byte"] (defScope s_sign_of) := ⟨rfl, rfl, rfl, by decide +kernel, rfl, by decide +kernel, by decide +kernel⟩
theorem ok_sign_of (T : Txt w K mg) {f : Addr} {fd : FuncData} (F : FnP K "sign_of" s_sign_of f fd) : FnOk P w K mg base CX0 1 f fd ["byte"] spSign := by
  refine F.ok sc_sign_of (fun vs H Q E h => ?_) (fun cdv A outer s H vs Q E hr h => ⟨_, PSs.nox (pss_cons (ps_if (pt_cmpR op_eq (pv 0) pe_int (nomark _)) (pss_one (ps_ret pe_str)) pss_nil) (pss_cons (ps_if (pt_cmpR op_eq (pv 0) pe_int (nomark _)) (pss_one (ps_ret pe_str)) pss_nil) (pss_cons (ps_if (PW.pt (pw_and (pt_chain op_le op_le pe_int (pv 0) pe_int) (pw_and1 (pt_cmpR op_ne (pe_ix ix_str (C8.pe_gc rfl T.cSIGNS) (pe_op op_sub (pv 0) pe_int) (fun _ _ => rfl)) (C8.pe_gc rfl T.cMARK) (nomark _))))) (pss_one (ps_ret (pe_ix ix_str (C8.pe_gc rfl T.cSIGNS) (pe_op op_sub (pv 0) pe_int) (fun _ _ => rfl)))) pss_nil) (pss_one (ps_ret (pe_op op_add_str (pe_op op_add_str (pe_op op_add_str (pe_op op_add_str (C8.pe_gc rfl T.cMARK) (pe_ix ix_str (C8.pe_gc rfl T.cDIGITS) (pe_op op_fdiv (pv 0) pe_int) (fun _ _ => rfl))) (pe_ix ix_str (C8.pe_gc rfl T.cDIGITS) (pe_op op_mod (pe_op op_fdiv (pv 0) pe_int) pe_int) (fun _ _ => rfl))) (pe_ix ix_str (C8.pe_gc rfl T.cDIGITS) (pe_op op_mod (pe_op op_fdiv (pv 0) pe_int) pe_int) (fun _ _ => rfl))) (pe_ix ix_str (C8.pe_gc rfl T.cDIGITS) (pe_op op_mod (pv 0) pe_int) (fun _ _ => rfl)))))))), ?_⟩)
  · obtain ⟨n, rfl, _⟩ := h
    rfl
  · obtain ⟨n, rfl, hn, h⟩ := h
    simp only [cxK, cxW, cxKn, cxWn, tRet, tRetN, tC, tVar, tOp, tUn, rI0, rI, rU, rEq, rNe, scal, tChain, tTest, tB, tIfS, tAnd, tOr, tNot, tAndV, tOrV, tNotV, tIf, tSeq, tNext, tAsg, gName, tDrop, tCons, tNil, tCall, tMeth, tCB, tBM, tBM0, L2.start, List.map_cons, List.map_nil, List.length_cons, List.length_nil, List.replicate, Nat.reduceAdd, Nat.reduceSub, List.cons_append, List.nil_append, List.append_nil, List.getElem?_cons_zero, List.getElem?_cons_succ, List.set_cons_zero, List.set_cons_succ, Option.some.injEq, exists_and_left, exists_and_right, exists_eq_left, exists_eq_left', exists_eq_right, exists_eq_right', exists_eq, V.int.injEq, V.str.injEq, V.ref.injEq, V.bl.injEq, List.cons.injEq, true_and, and_true, and_self, decide_eq_true_eq, exists_const, if_true, if_false, Bool.not_eq_true', decide_eq_false_iff_not, Bool.false_eq_true, reduceIte, Bool.not_true, Bool.not_false, rIxS]
    have d : ("{|}^" : Str).cps.toList = [123, 124, 125, 94] := by decide +kernel
    have ld : ("{|}^" : Str).length ≤ sizeLine := by decide +kernel
    have lm : ("~" : Str).length = 1 := by decide +kernel
    have ls : signsT.length ≤ sizeLine := by decide +kernel
    have at4 : ∀ i : Nat, i < 4 → ∀ z : Int, z = (i : Int) → atI ("{|}^" : Str).cps.toList z = some (("{|}^" : Str).cps[i]!) := fun i hi z e => by
      rw [e, d]
      match i, hi with
      | 0, _ => rfl
      | 1, _ => rfl
      | 2, _ => rfl
      | 3, _ => rfl
    have big : ∀ (a b : Str) (m : Nat), a.length = m → m ≤ 5 → b.length = 1 → a.length + b.length ≤ sizeLine := fun a b m e1 e2 e3 => by rw [e1, e3, sizeLine_eq]; omega
    have one : ∀ c : Nat, (⟨#[c]⟩ : Str).length = 1 := fun _ => rfl
    have app : ∀ (a : Str) (c m : Nat), a.length = m → (a ++ (⟨#[c]⟩ : Str)).length = m + 1 := fun a c m e => by
      show (a.cps ++ #[c]).size = m + 1
      rw [Array.size_append]
      exact congrArg (· + 1) e
    have marks : CDiv (n : Int) 64 ∧ ("{|}^" : Str).length ≤ sizeLine ∧ ∃ x, atI ("{|}^" : Str).cps.toList ((n : Int) / 64) = some x ∧ ("~" : Str).length + (⟨#[x]⟩ : Str).length ≤ sizeLine ∧ CDiv (n : Int) 16 ∧ (0 : Int) < 4 ∧ ("{|}^" : Str).length ≤ sizeLine ∧
        ∃ x_1, atI ("{|}^" : Str).cps.toList ((n : Int) / 16 % 4) = some x_1 ∧ (("~" : Str) ++ ⟨#[x]⟩).length + (⟨#[x_1]⟩ : Str).length ≤ sizeLine ∧ CDiv (n : Int) 4 ∧ (0 : Int) < 4 ∧ ("{|}^" : Str).length ≤ sizeLine ∧
        ∃ x_2, atI ("{|}^" : Str).cps.toList ((n : Int) / 4 % 4) = some x_2 ∧ (("~" : Str) ++ ⟨#[x]⟩ ++ ⟨#[x_1]⟩).length + (⟨#[x_2]⟩ : Str).length ≤ sizeLine ∧ (0 : Int) < 4 ∧ ("{|}^" : Str).length ≤ sizeLine ∧
        ∃ x_3, atI ("{|}^" : Str).cps.toList ((n : Int) % 4) = some x_3 ∧ (("~" : Str) ++ ⟨#[x]⟩ ++ ⟨#[x_1]⟩ ++ ⟨#[x_2]⟩).length + (⟨#[x_3]⟩ : Str).length ≤ sizeLine ∧ (("~" : Str) ++ ⟨#[x]⟩ ++ ⟨#[x_1]⟩ ++ ⟨#[x_2]⟩ ++ ⟨#[x_3]⟩) = mark n :=
      ⟨⟨by decide, by decide⟩, ld, _, at4 (n / 64 % 4) (by omega) _ (by omega), big _ _ 1 lm (by decide) rfl, ⟨by decide, by decide⟩, by decide, ld, _, at4 (n / 16 % 4) (by omega) _ (by omega), big _ _ 2 (app _ _ _ lm) (by decide) rfl,
        ⟨by decide, by decide⟩, by decide, ld, _, at4 (n / 4 % 4) (by omega) _ (by omega), big _ _ 3 (app _ _ _ (app _ _ _ lm)) (by decide) rfl, by decide, ld, _, at4 (n % 4) (by omega) _ (by omega), big _ _ 4 (app _ _ _ (app _ _ _ (app _ _ _ lm))) (by decide) rfl, rfl⟩
    have other : signOf n = mark n → CDiv (n : Int) 64 ∧ ("{|}^" : Str).length ≤ sizeLine ∧ ∃ x, atI ("{|}^" : Str).cps.toList ((n : Int) / 64) = some x ∧ ("~" : Str).length + (⟨#[x]⟩ : Str).length ≤ sizeLine ∧ CDiv (n : Int) 16 ∧ (0 : Int) < 4 ∧ ("{|}^" : Str).length ≤ sizeLine ∧
        ∃ x_1, atI ("{|}^" : Str).cps.toList ((n : Int) / 16 % 4) = some x_1 ∧ (("~" : Str) ++ ⟨#[x]⟩).length + (⟨#[x_1]⟩ : Str).length ≤ sizeLine ∧ CDiv (n : Int) 4 ∧ (0 : Int) < 4 ∧ ("{|}^" : Str).length ≤ sizeLine ∧
        ∃ x_2, atI ("{|}^" : Str).cps.toList ((n : Int) / 4 % 4) = some x_2 ∧ (("~" : Str) ++ ⟨#[x]⟩ ++ ⟨#[x_1]⟩).length + (⟨#[x_2]⟩ : Str).length ≤ sizeLine ∧ (0 : Int) < 4 ∧ ("{|}^" : Str).length ≤ sizeLine ∧
        ∃ x_3, atI ("{|}^" : Str).cps.toList ((n : Int) % 4) = some x_3 ∧ (("~" : Str) ++ ⟨#[x]⟩ ++ ⟨#[x_1]⟩ ++ ⟨#[x_2]⟩).length + (⟨#[x_3]⟩ : Str).length ≤ sizeLine ∧ Q (.str (("~" : Str) ++ ⟨#[x]⟩ ++ ⟨#[x_1]⟩ ++ ⟨#[x_2]⟩ ++ ⟨#[x_3]⟩)) H := fun e => by
      obtain ⟨a1, a2, x, a3, a4, a5, a6, a7, x1, b1, b2, b3, b4, b5, x2, c1, c2, c3, c4, x3, d1, d2, d3⟩ := marks
      exact ⟨a1, a2, x, a3, a4, a5, a6, a7, x1, b1, b2, b3, b4, b5, x2, c1, c2, c3, c4, x3, d1, d2, by rw [d3, ← e]; exact h⟩
    have i9 : ((n : Int) = 9) ↔ n = 9 := by omega
    have i10 : ((n : Int) = 10) ↔ n = 10 := by omega
    have i32 : ((32 : Int) ≤ n) ↔ 32 ≤ n := by omega
    have i122 : ((n : Int) ≤ 122) ↔ n ≤ 122 := by omega
    simp only [i9, i10, i32, i122]
    by_cases h9 : n = 9
    · rw [if_pos h9]
      simpa only [signOf, if_pos h9] using h
    rw [if_neg h9]
    by_cases h10 : n = 10
    · rw [if_pos h10]
      simpa only [signOf, if_neg h9, if_pos h10] using h
    rw [if_neg h10]
    by_cases h32 : 32 ≤ n
    · rw [if_pos h32]
      by_cases h122 : n ≤ 122
      · rw [if_pos h122]
        have lt : n - 32 < signsT.cps.size := by
          have e : signsT.cps.size = 91 := by decide +kernel
          omega
        have a1 : atI signsT.cps.toList ((n : Int) - 32) = some (signsT.cps[n - 32]!) := by
          have e : ((n : Int) - 32) = ((n - 32 : Nat) : Int) := by omega
          rw [e]
          refine atI_nat ?_
          rw [Array.getElem?_toList]
          simp [lt]
        refine ⟨ls, _, a1, ?_⟩
        have tilde : ((⟨#[signsT.cps[n - 32]!]⟩ : Str) = "~") ↔ signsT.cps[n - 32]! = 126 := by
          have e : ("~" : Str) = ⟨#[126]⟩ := by decide +kernel
          rw [e]
          constructor
          · intro q
            simpa using q
          · intro q
            rw [q]
        by_cases ht : signsT.cps[n - 32]! = 126
        · rw [if_neg (by rw [tilde]; exact fun q => q ht)]
          exact other (by unfold signOf; rw [if_neg h9, if_neg h10, if_neg (by omega)])
        · rw [if_pos (by rw [tilde]; exact ht)]
          refine ⟨ls, _, a1, ?_⟩
          simpa only [signOf, if_neg h9, if_neg h10, if_pos (show 32 ≤ n ∧ n ≤ 122 ∧ signsT.cps[n - 32]! ≠ 126 from ⟨h32, h122, ht⟩)] using h
      · rw [if_neg h122]
        exact other (by unfold signOf; rw [if_neg h9, if_neg h10, if_neg (by omega)])
    · rw [if_neg h32]
      exact other (by unfold signOf; rw [if_neg h9, if_neg h10, if_neg (by omega)])
end
end Ck
namespace Ck
open PySem PySem.Spec PyProof.Rows L2 TL
/-! ### texts -/
def catS (ys : List Str) : Str := ⟨(ys.flatMap fun y => y.cps.toList).toArray⟩
theorem joinL_nil : ∀ l : List (List Nat), joinL [] l = l.flatten
  | [] => rfl
  | [p] => by simp [joinL]
  | p :: q :: r => by
    have := joinL_nil (q :: r)
    show p ++ ([] ++ joinL [] (q :: r)) = _
    rw [this]
    rfl
theorem join0 (ys : List Str) : Txt.join ("" : Str) ys = catS ys := by
  rw [join_eq]
  have h := tl_join ("" : Str) ys
  have e : tl ("" : Str) = [] := by decide +kernel
  rw [e, joinL_nil] at h
  have h2 : (Str.join ("" : Str) ys).cps.toList = ys.flatMap fun y => y.cps.toList := by
    have h3 : (Str.join ("" : Str) ys).cps.toList = (ys.map tl).flatten := h
    rw [h3, List.flatMap_def]
  unfold catS
  rw [← h2]
/-- bytes as a text -/
def encB (bs : List Nat) : Str := catS (bs.map signOf)
def vI (bs : List Nat) : List V := bs.map fun b : Nat => V.int (b : Int)
theorem signOf_len (n : Nat) : (signOf n).length ≤ 5 := by
  unfold signOf
  split
  · decide +kernel
  · split
    · decide +kernel
    · split
      · show 1 ≤ 5
        decide
      · show 5 ≤ 5
        decide
def spTextOf (K : PySem.W.Frag) : Sp := fun vs H Q _ => ∃ (a : Addr) (bs : List Nat), vs = [.ref a] ∧ SqL K H a (vI bs) ∧ (∀ b ∈ bs, b < 256) ∧ bs.length ≤ 1000 ∧ ∀ H', Same H H' → Q (.str (encB bs)) H'
def spIB (g : Nat → Bool) : Sp := fun vs H Q _ => ∃ n : Nat, vs = [.int n] ∧ Q (.bl (g n)) H
def spII (g : Nat → Int) : Sp := fun vs H Q _ => ∃ n : Nat, vs = [.int n] ∧ Q (.int (g n)) H
def spBytes : Sp := fun vs H Q _ => ∃ c : Nat, vs = [.int c] ∧ c < 1114112 ∧ ∀ H' p, Same H H' → H' p = some (.lst (vI (Kh450.encodeUtf8 c))) → Q (.ref p) H'
def isLab (z : Str) : Bool := z.cps.toList.all (fun c => decide (c ∈ labelT.cps.toList)) && (decide (1 ≤ z.length) && decide (z.length ≤ 40))
def spLab : Sp := fun vs H Q _ => ∃ z : Str, vs = [.str z] ∧ z.length ≤ sizeLine ∧ Q (.bl (isLab z)) H
def hexv (n : Nat) : Int := if Kh450.isDigit n then (n : Int) - 48 else if 97 ≤ n ∧ n ≤ 102 then (n : Int) - 87 else -1
def lenFirst (n : Nat) : Nat := if 194 ≤ n ∧ n ≤ 223 then 2 else if 224 ≤ n ∧ n ≤ 239 then 3 else if 240 ≤ n ∧ n ≤ 244 then 4 else 0
def fits2 (a b : Nat) : Bool := if a = 224 then decide (160 ≤ b) else if a = 237 then decide (b ≤ 159) else if a = 240 then decide (144 ≤ b) else if a = 244 then decide (b ≤ 143) else true
def spFits : Sp := fun vs H Q _ => ∃ a b : Nat, vs = [.int a, .int b] ∧ Q (.bl (fits2 a b)) H
section
variable {P : Program} {w : World} {K : PySem.W.Frag} {mg : Str → Option Value} {base : Heap}
abbrev s_is_digit : Stmt := top 39
theorem sc_is_digit : FnScope ["byte"] ["byte"] (defScope s_is_digit) := ⟨rfl, rfl, rfl, by decide +kernel, rfl, by decide +kernel, by decide +kernel⟩
theorem ok_is_digit {f : Addr} {fd : FuncData} (F : FnP K "is_digit" s_is_digit f fd) : FnOk P w K mg base CX0 1 f fd ["byte"] (spIB Kh450.isDigit) := by
  refine F.ok sc_is_digit (fun vs H Q E h => ?_) (fun cdv A outer s H vs Q E hr h => ⟨_, PSs.nox (pss_one (ps_ret (pe_chain op_le op_le pe_int (pv 0) pe_int))), ?_⟩)
  · obtain ⟨n, rfl, _⟩ := h
    rfl
  · obtain ⟨n, rfl, h⟩ := h
    simp only [cxK, cxW, cxKn, cxWn, tRet, tRetN, tC, tVar, tOp, tUn, rI0, rI, rU, rEq, rNe, scal, tChain, tTest, tB, tIfS, tAnd, tOr, tNot, tAndV, tOrV, tNotV, tIf, tSeq, tNext, tAsg, gName, tDrop, tCons, tNil, tCall, tMeth, tCB, tBM, tBM0, L2.start, List.map_cons, List.map_nil, List.length_cons, List.length_nil, List.replicate, Nat.reduceAdd, Nat.reduceSub, List.cons_append, List.nil_append, List.append_nil, List.getElem?_cons_zero, List.getElem?_cons_succ, List.set_cons_zero, List.set_cons_succ, Option.some.injEq, exists_and_left, exists_and_right, exists_eq_left, exists_eq_left', exists_eq_right, exists_eq_right', exists_eq, V.int.injEq, V.str.injEq, V.ref.injEq, V.bl.injEq, List.cons.injEq, true_and, and_true, and_self, decide_eq_true_eq, exists_const, if_true, if_false, Bool.not_eq_true', decide_eq_false_iff_not, Bool.false_eq_true, reduceIte, Bool.not_true, Bool.not_false]
    have e : Kh450.isDigit n = if (48 : Int) ≤ n then decide ((n : Int) ≤ 57) else false := by
      unfold Kh450.isDigit
      by_cases c : 48 ≤ n
      · rw [if_pos (by omega)]
        simp [c]
        omega
      · rw [if_neg (by omega)]
        simp [c]
    rw [e] at h
    split <;> simp_all
abbrev s_is_letter : Stmt := top 40
theorem sc_is_letter : FnScope ["byte"] ["byte"] (defScope s_is_letter) := ⟨rfl, rfl, rfl, by decide +kernel, rfl, by decide +kernel, by decide +kernel⟩
theorem ok_is_letter {f : Addr} {fd : FuncData} (F : FnP K "is_letter" s_is_letter f fd) : FnOk P w K mg base CX0 1 f fd ["byte"] (spIB Kh450.isLower) := by
  refine F.ok sc_is_letter (fun vs H Q E h => ?_) (fun cdv A outer s H vs Q E hr h => ⟨_, PSs.nox (pss_one (ps_ret (pe_chain op_le op_le pe_int (pv 0) pe_int))), ?_⟩)
  · obtain ⟨n, rfl, _⟩ := h
    rfl
  · obtain ⟨n, rfl, h⟩ := h
    simp only [cxK, cxW, cxKn, cxWn, tRet, tRetN, tC, tVar, tOp, tUn, rI0, rI, rU, rEq, rNe, scal, tChain, tTest, tB, tIfS, tAnd, tOr, tNot, tAndV, tOrV, tNotV, tIf, tSeq, tNext, tAsg, gName, tDrop, tCons, tNil, tCall, tMeth, tCB, tBM, tBM0, L2.start, List.map_cons, List.map_nil, List.length_cons, List.length_nil, List.replicate, Nat.reduceAdd, Nat.reduceSub, List.cons_append, List.nil_append, List.append_nil, List.getElem?_cons_zero, List.getElem?_cons_succ, List.set_cons_zero, List.set_cons_succ, Option.some.injEq, exists_and_left, exists_and_right, exists_eq_left, exists_eq_left', exists_eq_right, exists_eq_right', exists_eq, V.int.injEq, V.str.injEq, V.ref.injEq, V.bl.injEq, List.cons.injEq, true_and, and_true, and_self, decide_eq_true_eq, exists_const, if_true, if_false, Bool.not_eq_true', decide_eq_false_iff_not, Bool.false_eq_true, reduceIte, Bool.not_true, Bool.not_false]
    have e : Kh450.isLower n = if (97 : Int) ≤ n then decide ((n : Int) ≤ 122) else false := by
      unfold Kh450.isLower
      by_cases c : 97 ≤ n
      · rw [if_pos (by omega)]
        simp [c]
        omega
      · rw [if_neg (by omega)]
        simp [c]
    rw [e] at h
    split <;> simp_all
abbrev s_is_symbol_sign : Stmt := top 41
theorem sc_is_symbol_sign : FnScope ["byte"] ["byte"] (defScope s_is_symbol_sign) := ⟨rfl, rfl, rfl, by decide +kernel, rfl, by decide +kernel, by decide +kernel⟩
theorem ok_is_symbol_sign (T : Txt w K mg) (c_is_letter : Kept P w K mg base CX0 1 "is_letter" ["byte"] (spIB Kh450.isLower)) (c_is_digit : Kept P w K mg base CX0 1 "is_digit" ["byte"] (spIB Kh450.isDigit)) {f : Addr} {fd : FuncData} (F : FnP K "is_symbol_sign" s_is_symbol_sign f fd) :
    FnOk P w K mg base CX0 2 f fd ["byte"] (spIB Kh450.isSymbolPart) := by
  refine F.ok sc_is_symbol_sign (fun vs H Q E h => ?_) (fun cdv A outer s H vs Q E hr h => ⟨_, PSs.nox (pss_one (ps_ret (pe_or (pe_k c_is_letter hr (by omega) pass0 (pa_cons (pv 0) pa_nil)) (pe_or (pe_k c_is_digit hr (by omega) pass0 (pa_cons (pv 0) pa_nil)) (pe_one (pe_cmpR op_eq (pv 0) (C8.pe_gc rfl T.cHYPHEN) (nomark _))))))), ?_⟩)
  · obtain ⟨n, rfl, _⟩ := h
    rfl
  · obtain ⟨n, rfl, h⟩ := h
    simp only [cxK, cxW, cxKn, cxWn, tRet, tRetN, tC, tVar, tOp, tUn, rI0, rI, rU, rEq, rNe, scal, tChain, tTest, tB, tIfS, tAnd, tOr, tNot, tAndV, tOrV, tNotV, tIf, tSeq, tNext, tAsg, gName, tDrop, tCons, tNil, tCall, tMeth, tCB, tBM, tBM0, L2.start, List.map_cons, List.map_nil, List.length_cons, List.length_nil, List.replicate, Nat.reduceAdd, Nat.reduceSub, List.cons_append, List.nil_append, List.append_nil, List.getElem?_cons_zero, List.getElem?_cons_succ, List.set_cons_zero, List.set_cons_succ, Option.some.injEq, exists_and_left, exists_and_right, exists_eq_left, exists_eq_left', exists_eq_right, exists_eq_right', exists_eq, V.int.injEq, V.str.injEq, V.ref.injEq, V.bl.injEq, List.cons.injEq, true_and, and_true, and_self, decide_eq_true_eq, exists_const, if_true, if_false, Bool.not_eq_true', decide_eq_false_iff_not, Bool.false_eq_true, reduceIte, Bool.not_true, Bool.not_false, spIB]
    have q45 : ((n : Int) = 45) ↔ n = 45 := by omega
    have e : Kh450.isSymbolPart n = (Kh450.isLower n || (Kh450.isDigit n || decide ((n : Int) = 45))) := by
      unfold Kh450.isSymbolPart
      rw [Bool.or_assoc]
      congr 2
      simp only [q45]
      rfl
    rw [e] at h
    refine ⟨n, rfl, ?_⟩
    cases hl : Kh450.isLower n <;> rw [hl] at h
    · refine ⟨n, rfl, ?_⟩
      cases hd : Kh450.isDigit n <;> rw [hd] at h <;> simpa using h
    · simpa using h
abbrev s_hexadecimal_value : Stmt := top 42
theorem sc_hexadecimal_value : FnScope ["byte"] ["byte"] (defScope s_hexadecimal_value) := ⟨rfl, rfl, rfl, by decide +kernel, rfl, by decide +kernel, by decide +kernel⟩
theorem ok_hexadecimal_value (c_is_digit : Kept P w K mg base CX0 1 "is_digit" ["byte"] (spIB Kh450.isDigit)) {f : Addr} {fd : FuncData} (F : FnP K "hexadecimal_value" s_hexadecimal_value f fd) : FnOk P w K mg base CX0 2 f fd ["byte"] (spII hexv) := by
  refine F.ok sc_hexadecimal_value (fun vs H Q E h => ?_) (fun cdv A outer s H vs Q E hr h => ⟨_, PSs.nox (pss_cons (ps_if (pt_val (pe_k c_is_digit hr (by omega) pass0 (pa_cons (pv 0) pa_nil))) (pss_one (ps_ret (pe_op op_sub (pv 0) pe_int))) pss_nil) (pss_cons (ps_if (pt_chain op_le op_le pe_int (pv 0) pe_int) (pss_one (ps_ret (pe_op op_sub (pv 0) pe_int))) pss_nil) (pss_one (ps_ret (pe_un un_neg pe_int))))), ?_⟩)
  · obtain ⟨n, rfl, _⟩ := h
    rfl
  · obtain ⟨n, rfl, h⟩ := h
    simp only [cxK, cxW, cxKn, cxWn, tRet, tRetN, tC, tVar, tOp, tUn, rI0, rI, rU, rEq, rNe, scal, tChain, tTest, tB, tIfS, tAnd, tOr, tNot, tAndV, tOrV, tNotV, tIf, tSeq, tNext, tAsg, gName, tDrop, tCons, tNil, tCall, tMeth, tCB, tBM, tBM0, L2.start, List.map_cons, List.map_nil, List.length_cons, List.length_nil, List.replicate, Nat.reduceAdd, Nat.reduceSub, List.cons_append, List.nil_append, List.append_nil, List.getElem?_cons_zero, List.getElem?_cons_succ, List.set_cons_zero, List.set_cons_succ, Option.some.injEq, exists_and_left, exists_and_right, exists_eq_left, exists_eq_left', exists_eq_right, exists_eq_right', exists_eq, V.int.injEq, V.str.injEq, V.ref.injEq, V.bl.injEq, List.cons.injEq, true_and, and_true, and_self, decide_eq_true_eq, exists_const, if_true, if_false, Bool.not_eq_true', decide_eq_false_iff_not, Bool.false_eq_true, reduceIte, Bool.not_true, Bool.not_false, spIB]
    refine ⟨n, rfl, ?_⟩
    unfold hexv at h
    by_cases d : Kh450.isDigit n = true
    · rw [if_pos d] at h ⊢
      exact h
    · rw [if_neg d] at h ⊢
      (repeat' split) <;> (refine cast (congrArg (fun k => Q (.int k) H) ?_) h; (repeat' split) <;> omega)
abbrev s_length_from_first : Stmt := top 44
theorem sc_length_from_first : FnScope ["byte"] ["byte"] (defScope s_length_from_first) := ⟨rfl, rfl, rfl, by decide +kernel, rfl, by decide +kernel, by decide +kernel⟩
theorem ok_length_from_first {f : Addr} {fd : FuncData} (F : FnP K "length_from_first" s_length_from_first f fd) : FnOk P w K mg base CX0 1 f fd ["byte"] (spII fun n => (lenFirst n : Nat)) := by
  refine F.ok sc_length_from_first (fun vs H Q E h => ?_) (fun cdv A outer s H vs Q E hr h => ⟨_, PSs.nox (pss_cons (ps_if (pt_chain op_le op_le pe_int (pv 0) pe_int) (pss_one (ps_ret pe_int)) pss_nil) (pss_cons (ps_if (pt_chain op_le op_le pe_int (pv 0) pe_int) (pss_one (ps_ret pe_int)) pss_nil) (pss_cons (ps_if (pt_chain op_le op_le pe_int (pv 0) pe_int) (pss_one (ps_ret pe_int)) pss_nil) (pss_one (ps_ret pe_int))))), ?_⟩)
  · obtain ⟨n, rfl, _⟩ := h
    rfl
  · obtain ⟨n, rfl, h⟩ := h
    simp only [cxK, cxW, cxKn, cxWn, tRet, tRetN, tC, tVar, tOp, tUn, rI0, rI, rU, rEq, rNe, scal, tChain, tTest, tB, tIfS, tAnd, tOr, tNot, tAndV, tOrV, tNotV, tIf, tSeq, tNext, tAsg, gName, tDrop, tCons, tNil, tCall, tMeth, tCB, tBM, tBM0, L2.start, List.map_cons, List.map_nil, List.length_cons, List.length_nil, List.replicate, Nat.reduceAdd, Nat.reduceSub, List.cons_append, List.nil_append, List.append_nil, List.getElem?_cons_zero, List.getElem?_cons_succ, List.set_cons_zero, List.set_cons_succ, Option.some.injEq, exists_and_left, exists_and_right, exists_eq_left, exists_eq_left', exists_eq_right, exists_eq_right', exists_eq, V.int.injEq, V.str.injEq, V.ref.injEq, V.bl.injEq, List.cons.injEq, true_and, and_true, and_self, decide_eq_true_eq, exists_const, if_true, if_false, Bool.not_eq_true', decide_eq_false_iff_not, Bool.false_eq_true, reduceIte, Bool.not_true, Bool.not_false]
    (repeat' split) <;> (refine cast (congrArg (fun k => Q (.int k) H) ?_) h; simp only [lenFirst]; (repeat' split) <;> omega)
abbrev s_second_byte_fits : Stmt := top 45
theorem sc_second_byte_fits : FnScope ["first", "second"] ["first", "second"] (defScope s_second_byte_fits) := ⟨rfl, rfl, rfl, by decide +kernel, rfl, by decide +kernel, by decide +kernel⟩
theorem ok_second_byte_fits {f : Addr} {fd : FuncData} (F : FnP K "second_byte_fits" s_second_byte_fits f fd) : FnOk P w K mg base CX0 1 f fd ["first", "second"] spFits := by
  refine F.ok sc_second_byte_fits (fun vs H Q E h => ?_) (fun cdv A outer s H vs Q E hr h => ⟨_, PSs.nox (pss_cons (ps_if (pt_cmpR op_eq (pv 0) pe_int (nomark _)) (pss_one (ps_ret (pe_cmpR op_ge (pv 1) pe_int (nomark _)))) pss_nil) (pss_cons (ps_if (pt_cmpR op_eq (pv 0) pe_int (nomark _)) (pss_one (ps_ret (pe_cmpR op_le (pv 1) pe_int (nomark _)))) pss_nil) (pss_cons (ps_if (pt_cmpR op_eq (pv 0) pe_int (nomark _)) (pss_one (ps_ret (pe_cmpR op_ge (pv 1) pe_int (nomark _)))) pss_nil) (pss_cons (ps_if (pt_cmpR op_eq (pv 0) pe_int (nomark _)) (pss_one (ps_ret (pe_cmpR op_le (pv 1) pe_int (nomark _)))) pss_nil) (pss_one (ps_ret pe_bl)))))), ?_⟩)
  · obtain ⟨a, b, rfl, _⟩ := h
    rfl
  · obtain ⟨a, b, rfl, h⟩ := h
    simp only [cxK, cxW, cxKn, cxWn, tRet, tRetN, tC, tVar, tOp, tUn, rI0, rI, rU, rEq, rNe, scal, tChain, tTest, tB, tIfS, tAnd, tOr, tNot, tAndV, tOrV, tNotV, tIf, tSeq, tNext, tAsg, gName, tDrop, tCons, tNil, tCall, tMeth, tCB, tBM, tBM0, L2.start, List.map_cons, List.map_nil, List.length_cons, List.length_nil, List.replicate, Nat.reduceAdd, Nat.reduceSub, List.cons_append, List.nil_append, List.append_nil, List.getElem?_cons_zero, List.getElem?_cons_succ, List.set_cons_zero, List.set_cons_succ, Option.some.injEq, exists_and_left, exists_and_right, exists_eq_left, exists_eq_left', exists_eq_right, exists_eq_right', exists_eq, V.int.injEq, V.str.injEq, V.ref.injEq, V.bl.injEq, List.cons.injEq, true_and, and_true, and_self, decide_eq_true_eq, exists_const, if_true, if_false, Bool.not_eq_true', decide_eq_false_iff_not, Bool.false_eq_true, reduceIte, Bool.not_true, Bool.not_false]
    (repeat' split) <;> (refine cast (congrArg (fun k => Q (.bl k) H) ?_) h; simp only [fits2]; (repeat' split) <;> first | omega | rfl | (congr 1; apply propext; omega))
abbrev s_bytes_of_code_point : Stmt := top 9
theorem sc_bytes_of_code_point : FnScope ["code"] ["code"] (defScope s_bytes_of_code_point) := ⟨rfl, rfl, rfl, by decide +kernel, rfl, by decide +kernel, by decide +kernel⟩
theorem ok_bytes_of_code_point {f : Addr} {fd : FuncData} (F : FnP K "bytes_of_code_point" s_bytes_of_code_point f fd) : FnOk P w K mg base CX0 1 f fd ["code"] spBytes := by
  refine F.ok sc_bytes_of_code_point (fun vs H Q E h => ?_) (fun cdv A outer s H vs Q E hr h => ⟨_, PSs.nox (pss_cons (ps_if (pt_cmpR op_lt (pv 0) pe_int (nomark _)) (pss_one (ps_ret (pe_lst (pa_cons (pv 0) pa_nil)))) pss_nil) (pss_cons (ps_if (pt_cmpR op_lt (pv 0) pe_int (nomark _)) (pss_one (ps_ret (pe_lst (pa_cons (pe_op op_add pe_int (pe_op op_fdiv (pv 0) pe_int)) (pa_cons (pe_op op_add pe_int (pe_op op_mod (pv 0) pe_int)) pa_nil))))) pss_nil) (pss_cons (ps_if (pt_cmpR op_lt (pv 0) pe_int (nomark _)) (pss_one (ps_ret (pe_lst (pa_cons (pe_op op_add pe_int (pe_op op_fdiv (pv 0) pe_int)) (pa_cons (pe_op op_add pe_int (pe_op op_mod (pe_op op_fdiv (pv 0) pe_int) pe_int)) (pa_cons (pe_op op_add pe_int (pe_op op_mod (pv 0) pe_int)) pa_nil)))))) pss_nil) (pss_one (ps_ret (pe_lst (pa_cons (pe_op op_add pe_int (pe_op op_fdiv (pv 0) pe_int)) (pa_cons (pe_op op_add pe_int (pe_op op_mod (pe_op op_fdiv (pv 0) pe_int) pe_int)) (pa_cons (pe_op op_add pe_int (pe_op op_mod (pe_op op_fdiv (pv 0) pe_int) pe_int)) (pa_cons (pe_op op_add pe_int (pe_op op_mod (pv 0) pe_int)) pa_nil)))))))))), ?_⟩)
  · obtain ⟨c, rfl, _⟩ := h
    rfl
  · obtain ⟨c, rfl, hc, h⟩ := h
    simp only [cxK, cxW, cxKn, cxWn, tRet, tRetN, tC, tVar, tOp, tUn, rI0, rI, rU, rEq, rNe, scal, tChain, tTest, tB, tIfS, tAnd, tOr, tNot, tAndV, tOrV, tNotV, tIf, tSeq, tNext, tAsg, gName, tDrop, tCons, tNil, tCall, tMeth, tCB, tBM, tBM0, L2.start, List.map_cons, List.map_nil, List.length_cons, List.length_nil, List.replicate, Nat.reduceAdd, Nat.reduceSub, List.cons_append, List.nil_append, List.append_nil, List.getElem?_cons_zero, List.getElem?_cons_succ, List.set_cons_zero, List.set_cons_succ, Option.some.injEq, exists_and_left, exists_and_right, exists_eq_left, exists_eq_left', exists_eq_right, exists_eq_right', exists_eq, V.int.injEq, V.str.injEq, V.ref.injEq, V.bl.injEq, List.cons.injEq, true_and, and_true, and_self, decide_eq_true_eq, exists_const, if_true, if_false, Bool.not_eq_true', decide_eq_false_iff_not, Bool.false_eq_true, reduceIte, Bool.not_true, Bool.not_false, tLst]
    have new : ∀ (l : List V) p, H p = none → l = vI (Kh450.encodeUtf8 c) → Q (.ref p) (upd H p (.lst l)) := fun l p hp e => by
      refine h _ p (fun b o q => ?_) (by rw [upd_same, e])
      rw [upd_ne (ne_of_none q hp)]
      exact q
    have sz : ∀ n : Nat, n ≤ 4 → n ≤ sizeLine := fun n h => by rw [sizeLine_eq]; omega
    have e1 : ((c : Int) < 128) ↔ c < 0x80 := by omega
    have e2 : ((c : Int) < 2048) ↔ c < 0x800 := by omega
    have e3 : ((c : Int) < 65536) ↔ c < 0x10000 := by omega
    simp only [e1, e2, e3]
    split
    · rename_i q
      exact ⟨sz _ (by decide), fun p hp => new _ p hp (by simp [Kh450.encodeUtf8, q, vI])⟩
    · rename_i q
      split
      · rename_i q2
        exact ⟨⟨by decide, by decide⟩, by decide, sz _ (by decide), fun p hp => new _ p hp (by simp [Kh450.encodeUtf8, q, q2, vI])⟩
      · rename_i q2
        split
        · rename_i q3
          exact ⟨⟨by decide, by decide⟩, ⟨by decide, by decide⟩, by decide, by decide, sz _ (by decide), fun p hp => new _ p hp (by simp [Kh450.encodeUtf8, q, q2, q3, vI])⟩
        · rename_i q3
          exact ⟨⟨by decide, by decide⟩, ⟨by decide, by decide⟩, by decide, ⟨by decide, by decide⟩, by decide, by decide, sz _ (by decide), fun p hp => new _ p hp (by simp [Kh450.encodeUtf8, q, q2, q3, vI])⟩
abbrev s_text_of : Stmt := top 8
theorem sc_text_of : FnScope ["data", "byte"] ["data"] (defScope s_text_of) := ⟨rfl, rfl, rfl, by decide +kernel, rfl, by decide +kernel, by decide +kernel⟩
theorem ok_text_of (c_sign_of : Kept P w K mg base CX0 1 "sign_of" ["byte"] spSign) {f : Addr} {fd : FuncData} (F : FnP K "text_of" s_text_of f fd) : FnOk P w K mg base CX0 2 f fd ["data"] (spTextOf K) := by
  refine F.ok sc_text_of (fun vs H Q E h => ?_) (fun cdv A outer s H vs Q E hr h => ⟨_, PSs.nox (pss_one (ps_ret (pe_join pe_str (pe_lc (own := [("byte", 1)]) (g := gName 1) (tt := tYes) rfl sc_text_of.nd (pi_list (pv 0)) (blkOk_by (N := ["data", "byte"]) (sc := defScope s_text_of) (by decide +kernel)) (fun _ _ _ _ _ => pg_name (i := 1) sc_text_of.nd rfl (Or.inl rfl)) (fun _ _ _ _ _ => pts_nil) (fun _ _ _ _ _ => (pe_k c_sign_of hr (by omega) pass0 (pa_cons (pv 1) pa_nil))))))), ?_⟩)
  · obtain ⟨a, bs, rfl, _⟩ := h
    rfl
  · obtain ⟨a, bs, rfl, hS, hb, hl, h⟩ := h
    refine ⟨⟨_, rfl⟩, _, rfl, a, rfl, ⟨_, hS⟩, fun D hD => ?_⟩
    have far : Same H (upd H D (.lst [])) := fun b o e => by rw [upd_ne (ne_of_none e hD)]; exact e
    refine lc_list (K := K) (a := a) (xs := vI bs) (fun i H' => Same H H' ∧ H' D = some (.lst ((bs.take i).map fun b => V.str (signOf b)))) ⟨far, upd_same⟩ (fun i H' _ p => p.1.seq hS) ?_ ?_
    · rintro i x H' hi ⟨sm, hd⟩
      obtain ⟨b, hb2, rfl⟩ : ∃ b, bs[i]? = some b ∧ x = V.int (b : Int) := by
        unfold vI at hi
        rw [List.getElem?_map] at hi
        cases e : bs[i]? with
        | none => rw [e] at hi; cases hi
        | some b => rw [e] at hi; exact ⟨b, rfl, (Option.some.inj hi).symm⟩
      have lt : i < bs.length := (List.getElem?_eq_some_iff.mp hb2).1
      refine ⟨rfl, ⟨_, rfl, b, rfl, hb b (List.mem_of_getElem? hb2), ?_⟩⟩
      refine ⟨_, hd, ?_, fun c o e => ?_, ?_⟩
      · rw [List.length_map, List.length_take, sizeLine_eq]
        omega
      · rw [upd_ne (ne_of_none e hD)]
        exact sm c o e
      · rw [upd_same, List.take_add_one, hb2]
        simp
    · rintro H' ⟨sm, hd⟩
      have e : (vI bs).length = bs.length := by simp [vI]
      rw [e, List.take_length] at hd
      refine ⟨("" : Str), D, bs.map signOf, rfl, rfl, .inl (SqL.of (by rw [hd, List.map_map]; rfl)), ?_, ?_⟩
      · have z : ("" : Str).length = 0 := by decide +kernel
        rw [z, Nat.mul_zero, Nat.add_zero, List.map_map]
        have up : ∀ l : List Nat, (l.map ((fun y : Str => y.length) ∘ signOf)).sum ≤ 5 * l.length := by
          intro l
          induction l with
          | nil => simp
          | cons x r ih =>
            have := signOf_len x
            simp only [List.map_cons, List.sum_cons, List.length_cons]
            have e : ((fun y : Str => y.length) ∘ signOf) x = (signOf x).length := rfl
            rw [e]
            omega
        have := up bs
        omega
      · rw [join0]
        exact h H' sm
abbrev s_is_label : Stmt := top 10
theorem sc_is_label : FnScope ["text", "sign"] ["text"] (defScope s_is_label) := ⟨rfl, rfl, rfl, by decide +kernel, rfl, by decide +kernel, by decide +kernel⟩
theorem ok_is_label (T : Txt w K mg) {f : Addr} {fd : FuncData} (F : FnP K "is_label" s_is_label f fd) : FnOk P w K mg base CX0 1 f fd ["text"] spLab := by
  refine F.ok sc_is_label (fun vs H Q E h => ?_) (fun cdv A outer s H vs Q E hr h => ⟨_, PSs.nox (pss_cons (ps_if (PW.pt (pw_or (pt_not (pt_val (pe_callB call_isi (by rfl) T.nisinstance boot_isinstance (pa_cons (pv 0) (pa_cons (pe_bltn (v := .ty "str") (by rfl) T.nstr boot_str rfl) pa_nil))))) (pw_or1 (pt_not (pt_chain op_le op_le pe_int (pe_callB call_len_str (by rfl) T.nlen PySem.boot_len (pa_cons (pv 0) pa_nil)) pe_int))))) (pss_one (ps_ret pe_bl)) pss_nil) (pss_cons (ps_for PassesOwn.never rfl (pi_str (pv 0)) (pg_name (i := 1) sc_is_label.nd rfl (Or.inl rfl)) (pss_one (ps_if (pt_cmpR op_notIn_sign (pv 1) (C8.pe_gc rfl T.cLABEL_SIGNS) (by with_unfolding_all rfl)) (pss_one (ps_ret pe_bl)) pss_nil))) (pss_one (ps_ret pe_bl)))), ?_⟩)
  · obtain ⟨z, rfl, _⟩ := h
    rfl
  · obtain ⟨z, rfl, hz, h⟩ := h
    simp only [cxK, cxW, cxKn, cxWn, tRet, tRetN, tC, tVar, tOp, tUn, rI0, rI, rU, rEq, rNe, scal, tChain, tTest, tB, tIfS, tAnd, tOr, tNot, tAndV, tOrV, tNotV, tIf, tSeq, tNext, tAsg, gName, tDrop, tCons, tNil, tCall, tMeth, tCB, tBM, tBM0, L2.start, List.map_cons, List.map_nil, List.length_cons, List.length_nil, List.replicate, Nat.reduceAdd, Nat.reduceSub, List.cons_append, List.nil_append, List.append_nil, List.getElem?_cons_zero, List.getElem?_cons_succ, List.set_cons_zero, List.set_cons_succ, Option.some.injEq, exists_and_left, exists_and_right, exists_eq_left, exists_eq_left', exists_eq_right, exists_eq_right', exists_eq, V.int.injEq, V.str.injEq, V.ref.injEq, V.bl.injEq, List.cons.injEq, true_and, and_true, and_self, decide_eq_true_eq, exists_const, if_true, if_false, Bool.not_eq_true', decide_eq_false_iff_not, Bool.false_eq_true, reduceIte, Bool.not_true, Bool.not_false]
    refine ⟨_, _, _, _, true, rfl, .ty "str", .base (.str z), kit_ty (by decide +kernel), true, rfl, ?_⟩
    rw [if_neg (by decide)]
    refine ⟨hz, ?_⟩
    by_cases c1 : 1 ≤ z.length
    case neg =>
      rw [if_neg (by omega)]
      have f : isLab z = false := by
        unfold isLab
        simp [c1]
      rw [← f]
      exact h
    case pos =>
    rw [if_pos (by omega)]
    by_cases c2 : z.length ≤ 40
    case neg =>
      rw [if_pos (by omega)]
      have f : isLab z = false := by
        unfold isLab
        simp [c2]
      rw [← f]
      exact h
    case pos =>
    rw [if_neg (by omega)]
    refine ⟨_, rfl, z, rfl, for_it walk_str (fun i σ H' => H' = H ∧ (∃ v, σ = [some (.str z), v]) ∧ (z.cps.toList.take i).all (fun c => decide (c ∈ labelT.cps.toList)) = true) ⟨rfl, ⟨none, rfl⟩, by simp⟩ (fun _ _ _ _ _ => trivial) ?_ ?_⟩
    · rintro i x σ H1 H' hi ⟨rfl, ⟨v, rfl⟩, hp⟩ ⟨rfl, c, hc, rfl⟩
      simp only [cxK, cxW, cxKn, cxWn, tRet, tRetN, tC, tVar, tOp, tUn, rI0, rI, rU, rEq, rNe, scal, tChain, tTest, tB, tIfS, tAnd, tOr, tNot, tAndV, tOrV, tNotV, tIf, tSeq, tNext, tAsg, gName, tDrop, tCons, tNil, tCall, tMeth, tCB, tBM, tBM0, L2.start, List.map_cons, List.map_nil, List.length_cons, List.length_nil, List.replicate, Nat.reduceAdd, Nat.reduceSub, List.cons_append, List.nil_append, List.append_nil, List.getElem?_cons_zero, List.getElem?_cons_succ, List.set_cons_zero, List.set_cons_succ, Option.some.injEq, exists_and_left, exists_and_right, exists_eq_left, exists_eq_left', exists_eq_right, exists_eq_right', exists_eq, V.int.injEq, V.str.injEq, V.ref.injEq, V.bl.injEq, List.cons.injEq, true_and, and_true, and_self, decide_eq_true_eq, exists_const, if_true, if_false, Bool.not_eq_true', decide_eq_false_iff_not, Bool.false_eq_true, reduceIte, Bool.not_true, Bool.not_false]
      have hc2 : z.cps.toList[i]? = some c := by rw [Array.getElem?_toList]; exact hc
      by_cases m : c ∈ labelT.cps.toList
      · refine ⟨c, rfl, ?_⟩
        rw [if_neg (by simp [m])]
        refine ⟨⟨_, rfl⟩, ?_⟩
        rw [List.take_add_one, hc2]
        simp [m] at hp ⊢
        first | exact hp | exact ⟨hp, by simpa using m⟩
      · refine ⟨c, rfl, ?_⟩
        rw [if_pos (by simp [m])]
        have f : isLab z = false := by
          unfold isLab
          rw [Bool.and_eq_false_iff]
          left
          rw [Bool.eq_false_iff]
          intro q
          have := List.all_eq_true.mp q c (List.mem_of_getElem? hc2)
          exact m (of_decide_eq_true this)
        rw [← f]
        exact h
    · rintro σ H' ⟨rfl, ⟨v, rfl⟩, hp⟩
      simp only [cxK, cxW, cxKn, cxWn, tRet, tRetN, tC, tVar, tOp, tUn, rI0, rI, rU, rEq, rNe, scal, tChain, tTest, tB, tIfS, tAnd, tOr, tNot, tAndV, tOrV, tNotV, tIf, tSeq, tNext, tAsg, gName, tDrop, tCons, tNil, tCall, tMeth, tCB, tBM, tBM0, L2.start, List.map_cons, List.map_nil, List.length_cons, List.length_nil, List.replicate, Nat.reduceAdd, Nat.reduceSub, List.cons_append, List.nil_append, List.append_nil, List.getElem?_cons_zero, List.getElem?_cons_succ, List.set_cons_zero, List.set_cons_succ, Option.some.injEq, exists_and_left, exists_and_right, exists_eq_left, exists_eq_left', exists_eq_right, exists_eq_right', exists_eq, V.int.injEq, V.str.injEq, V.ref.injEq, V.bl.injEq, List.cons.injEq, true_and, and_true, and_self, decide_eq_true_eq, exists_const, if_true, if_false, Bool.not_eq_true', decide_eq_false_iff_not, Bool.false_eq_true, reduceIte, Bool.not_true, Bool.not_false]
      have whole : z.cps.toList.take z.cps.size = z.cps.toList := by
        rw [← Array.length_toList, List.take_length]
      rw [whole] at hp
      have e : isLab z = true := by
        unfold isLab
        rw [hp]
        simp [c1, c2]
      rw [e] at h
      exact h
end
end Ck
namespace Ck
open PySem PySem.Spec PyProof.Rows L2
def isCont (b : Nat) : Bool := decide (128 ≤ b) && decide (b ≤ 191)
def seqLen : List Nat → Nat
  | [] => 0
  | a :: r => if lenFirst a = 0 ∨ r.length + 1 < lenFirst a then 0 else if (r.take (lenFirst a - 1)).all isCont then (if fits2 a (r.headD 0) then lenFirst a else 0) else 0
theorem seqLen_cons (a : Nat) (r : List Nat) : seqLen (a :: r) = if lenFirst a = 0 ∨ r.length + 1 < lenFirst a then 0 else if (r.take (lenFirst a - 1)).all isCont then (if fits2 a (r.headD 0) then lenFirst a else 0) else 0 := rfl
def spSeqLen (K : PySem.W.Frag) : Sp := fun vs H Q _ => ∃ (a : Addr) (bs : List Nat) (i : Nat), vs = [.ref a, .int i] ∧ SqL K H a (vI bs) ∧ i < bs.length ∧ ∀ H', Same H H' → Q (.int (seqLen (bs.drop i) : Nat)) H'
theorem vI_at {bs : List Nat} {i : Nat} (h : i < bs.length) : atI (vI bs) (i : Int) = some (V.int (bs[i] : Nat)) := by
  refine atI_nat ?_
  unfold vI
  rw [List.getElem?_map, List.getElem?_eq_getElem h]
  rfl
theorem vI_len (bs : List Nat) : (vI bs).length = bs.length := by simp [vI]
theorem cut_vI (bs : List Nat) (i j : Nat) (hi : i ≤ j) (hj : j ≤ bs.length) : cutV (vI bs) (some (i : Int)) (some (j : Int)) = vI ((bs.drop i).take (j - i)) := by
  unfold cutV
  rw [HT.sIx_nat, HT.sIx_nat, vI_len, Nat.min_eq_left (Nat.le_trans hi hj), Nat.min_eq_left hj]
  unfold vI
  rw [List.map_take, List.map_drop]
theorem Same.new {H : Hp} {p : Addr} {o : HO} (h : H p = none) : Same H (upd H p o) := fun b u e => by
  rw [upd_ne (ne_of_none e h)]
  exact e
section
variable {P : Program} {w : World} {K : PySem.W.Frag} {mg : Str → Option Value} {base : Heap}
abbrev s_sequence_length : Stmt := top 43
theorem sc_sequence_length : FnScope ["data", "at", "length", "byte"] ["data", "at"] (defScope s_sequence_length) := ⟨rfl, rfl, rfl, by decide +kernel, rfl, by decide +kernel, by decide +kernel⟩
theorem ok_sequence_length (T : Txt w K mg) (c_length_from_first : Kept P w K mg base CX0 1 "length_from_first" ["byte"] (spII fun n => (lenFirst n : Nat))) (c_second_byte_fits : Kept P w K mg base CX0 1 "second_byte_fits" ["first", "second"] spFits) {f : Addr} {fd : FuncData} (F : FnP K "sequence_length" s_sequence_length f fd) :
    FnOk P w K mg base CX0 2 f fd ["data", "at"] (spSeqLen K) := by
  refine F.ok sc_sequence_length (fun vs H Q E h => ?_) (fun cdv A outer s H vs Q E hr h => ⟨_, PSs.nox (pss_cons (ps_set (i := 2) sc_sequence_length.nd rfl (Or.inl rfl) (pe_k c_length_from_first hr (by omega) pass0 (pa_cons (pe_ix ix_list (pv 0) (pv 1) (fun _ _ => rfl)) pa_nil))) (pss_cons (ps_if (PW.pt (pw_or (pt_cmpR op_eq (pv 2) pe_int (nomark _)) (pw_or1 (pt_cmpR op_gt (pe_op op_add (pv 1) (pv 2)) (pe_callB call_len_seq (by rfl) T.nlen PySem.boot_len (pa_cons (pv 0) pa_nil)) (nomark _))))) (pss_one (ps_ret pe_int)) pss_nil) (pss_cons (ps_for PassesOwn.never rfl (pi_list (pe_slice sl_list (pv 0) (po_some (pe_op op_add (pv 1) pe_int)) (po_some (pe_op op_add (pv 1) (pv 2))))) (pg_name (i := 3) sc_sequence_length.nd rfl (Or.inl rfl)) (pss_one (ps_if (pt_not (pt_chain op_le op_le pe_int (pv 3) pe_int)) (pss_one (ps_ret pe_int)) pss_nil))) (pss_one (ps_ret (pe_ifExp (pt_val (pe_k c_second_byte_fits hr (by omega) pass0 (pa_cons (pe_ix ix_list (pv 0) (pv 1) (fun _ _ => rfl)) (pa_cons (pe_ix ix_list (pv 0) (pe_op op_add (pv 1) pe_int) (fun _ _ => rfl)) pa_nil)))) (pv 2) pe_int)))))), ?_⟩)
  · obtain ⟨a, bs, i, rfl, _⟩ := h
    rfl
  · obtain ⟨a, bs, i, rfl, hS, hi, h⟩ := h
    simp only [cxK, cxW, cxKn, cxWn, tRet, tRetN, tC, tVar, tOp, tUn, rI0, rI, rU, rEq, rNe, scal, tChain, tTest, tB, tIfS, tAnd, tOr, tNot, tAndV, tOrV, tNotV, tIf, tSeq, tNext, tAsg, gName, tDrop, tCons, tNil, tCall, tMeth, tCB, tBM, tBM0, L2.start, List.map_cons, List.map_nil, List.length_cons, List.length_nil, List.replicate, Nat.reduceAdd, Nat.reduceSub, List.cons_append, List.nil_append, List.append_nil, List.getElem?_cons_zero, List.getElem?_cons_succ, List.set_cons_zero, List.set_cons_succ, Option.some.injEq, exists_and_left, exists_and_right, exists_eq_left, exists_eq_left', exists_eq_right, exists_eq_right', exists_eq, V.int.injEq, V.str.injEq, V.ref.injEq, V.bl.injEq, List.cons.injEq, true_and, and_true, and_self, decide_eq_true_eq, exists_const, if_true, if_false, Bool.not_eq_true', decide_eq_false_iff_not, Bool.false_eq_true, reduceIte, Bool.not_true, Bool.not_false, rIxL, spII, spFits, tSl, tPart, rSlL]
    refine ⟨_, hS, _, vI_at hi, _, rfl, ?_⟩
    have e0 : bs.drop i = bs[i] :: bs.drop (i + 1) := List.drop_eq_getElem_cons hi
    have el : (bs.drop (i + 1)).length + 1 = bs.length - i := by rw [List.length_drop]; omega
    rw [e0] at h
    simp only [seqLen_cons] at h
    by_cases z : lenFirst bs[i] = 0
    · rw [if_pos (by omega)]
      rw [if_pos (Or.inl z)] at h
      exact h H (Same.refl H)
    rw [if_neg (by omega)]
    refine ⟨_, .inl hS, ?_⟩
    rw [vI_len]
    by_cases sh : (bs.drop (i + 1)).length + 1 < lenFirst bs[i]
    · rw [if_pos (by omega)]
      rw [if_pos (Or.inr sh)] at h
      exact h H (Same.refl H)
    rw [if_neg (by omega)]
    rw [if_neg (by omega)] at h
    have two : 2 ≤ lenFirst bs[i] := by
      revert z
      unfold lenFirst
      (repeat' split) <;> intro z <;> omega
    have c1 : ((i : Int) + 1) = ((i + 1 : Nat) : Int) := by omega
    have c2 : ((i : Int) + (lenFirst bs[i] : Nat)) = ((i + lenFirst bs[i] : Nat) : Int) := by omega
    refine ⟨_, rfl, _, rfl, _, _, rfl, rfl, _, rfl, _, rfl, _, rfl, _, _, rfl, rfl, _, rfl, a, _, rfl, hS, fun p hp => ?_⟩
    rw [c1, c2, cut_vI bs _ _ (by omega) (by omega)]
    have ec : i + lenFirst bs[i] - (i + 1) = lenFirst bs[i] - 1 := by omega
    rw [ec]
    have sm := Same.new (o := .lst (vI ((bs.drop (i + 1)).take (lenFirst bs[i] - 1)))) hp
    refine ⟨p, rfl, ⟨_, SqL.of upd_same⟩, for_list (xs := vI ((bs.drop (i + 1)).take (lenFirst bs[i] - 1))) (fun j σ H' => Same (upd H p (.lst (vI ((bs.drop (i + 1)).take (lenFirst bs[i] - 1))))) H' ∧ (∃ v, σ = [some (V.ref a), some (V.int (i : Int)), some (V.int (lenFirst bs[i] : Nat)), v]) ∧ (((bs.drop (i + 1)).take (lenFirst bs[i] - 1)).take j).all isCont = true)
      ⟨Same.refl _, ⟨none, rfl⟩, rfl⟩ (fun j σ H' _ q => q.1.seq (SqL.of upd_same)) ?_ ?_⟩
    · rintro j x σ H' hj ⟨s1, ⟨v, rfl⟩, hall⟩
      obtain ⟨b, hb, rfl⟩ : ∃ b, ((bs.drop (i + 1)).take (lenFirst bs[i] - 1))[j]? = some b ∧ x = V.int (b : Int) := by
        unfold vI at hj
        rw [List.getElem?_map] at hj
        cases e : ((bs.drop (i + 1)).take (lenFirst bs[i] - 1))[j]? with
        | none => rw [e] at hj; cases hj
        | some b => rw [e] at hj; exact ⟨b, rfl, (Option.some.inj hj).symm⟩
      simp only [cxK, cxW, cxKn, cxWn, tRet, tRetN, tC, tVar, tOp, tUn, rI0, rI, rU, rEq, rNe, scal, tChain, tTest, tB, tIfS, tAnd, tOr, tNot, tAndV, tOrV, tNotV, tIf, tSeq, tNext, tAsg, gName, tDrop, tCons, tNil, tCall, tMeth, tCB, tBM, tBM0, L2.start, List.map_cons, List.map_nil, List.length_cons, List.length_nil, List.replicate, Nat.reduceAdd, Nat.reduceSub, List.cons_append, List.nil_append, List.append_nil, List.getElem?_cons_zero, List.getElem?_cons_succ, List.set_cons_zero, List.set_cons_succ, Option.some.injEq, exists_and_left, exists_and_right, exists_eq_left, exists_eq_left', exists_eq_right, exists_eq_right', exists_eq, V.int.injEq, V.str.injEq, V.ref.injEq, V.bl.injEq, List.cons.injEq, true_and, and_true, and_self, decide_eq_true_eq, exists_const, if_true, if_false, Bool.not_eq_true', decide_eq_false_iff_not, Bool.false_eq_true, reduceIte, Bool.not_true, Bool.not_false]
      have bad : isCont b = false → Q (.int 0) H' := fun e => by
        have : ((bs.drop (i + 1)).take (lenFirst bs[i] - 1)).all isCont = false := by
          rw [Bool.eq_false_iff]
          intro q
          have := List.all_eq_true.mp q b (List.mem_of_getElem? hb)
          rw [e] at this
          cases this
        rw [this] at h
        exact h H' (sm.trans s1)
      have good : isCont b = true → Same (upd H p (.lst (vI ((bs.drop (i + 1)).take (lenFirst bs[i] - 1))))) H' ∧ (∃ v, some (V.int (b : Int)) = v) ∧ (((bs.drop (i + 1)).take (lenFirst bs[i] - 1)).take (j + 1)).all isCont = true := fun e => by
        refine ⟨s1, ⟨_, rfl⟩, ?_⟩
        rw [List.take_add_one, hb, List.all_append, hall]
        simp [e]
      by_cases q1 : 128 ≤ b
      · rw [if_pos (by omega)]
        by_cases q2 : b ≤ 191
        · rw [if_neg (by omega)]
          exact good (by simp [isCont, q1, q2])
        · rw [if_pos (by omega)]
          exact bad (by simp [isCont, q2])
      · rw [if_neg (by omega)]
        exact bad (by simp [isCont, q1])
    · rintro σ H' ⟨s1, ⟨v, rfl⟩, hall⟩
      rw [vI_len, List.take_length] at hall
      rw [if_pos hall] at h
      simp only [cxK, cxW, cxKn, cxWn, tRet, tRetN, tC, tVar, tOp, tUn, rI0, rI, rU, rEq, rNe, scal, tChain, tTest, tB, tIfS, tAnd, tOr, tNot, tAndV, tOrV, tNotV, tIf, tSeq, tNext, tAsg, gName, tDrop, tCons, tNil, tCall, tMeth, tCB, tBM, tBM0, L2.start, List.map_cons, List.map_nil, List.length_cons, List.length_nil, List.replicate, Nat.reduceAdd, Nat.reduceSub, List.cons_append, List.nil_append, List.append_nil, List.getElem?_cons_zero, List.getElem?_cons_succ, List.set_cons_zero, List.set_cons_succ, Option.some.injEq, exists_and_left, exists_and_right, exists_eq_left, exists_eq_left', exists_eq_right, exists_eq_right', exists_eq, V.int.injEq, V.str.injEq, V.ref.injEq, V.bl.injEq, List.cons.injEq, true_and, and_true, and_self, decide_eq_true_eq, exists_const, if_true, if_false, Bool.not_eq_true', decide_eq_false_iff_not, Bool.false_eq_true, reduceIte, Bool.not_true, Bool.not_false, rIxL, spFits]
      have hS2 : SqL K H' a (vI bs) := (sm.trans s1).seq hS
      have hi2 : i + 1 < bs.length := by omega
      have hd : (bs.drop (i + 1)).headD 0 = bs[i + 1] := by
        rw [List.drop_eq_getElem_cons hi2]
        rfl
      rw [hd] at h
      refine ⟨_, hS2, _, vI_at hi, _, hS2, _, by rw [c1]; exact vI_at hi2, _, _, ⟨rfl, rfl⟩, ?_⟩
      have := h H' (sm.trans s1)
      split <;> simp_all
end
end Ck
namespace Ck
open PySem PySem.Spec PyProof.Rows L2
open Kh450 (Node)
/-! ### what an expression is -/
def shapeN : Node → Str
  | .symbol .. => "symbol"
  | .integer .. => "integer"
  | .string .. => "string"
  | .list .. => "list"
def textN : Node → Str
  | .symbol _ s => encB s
  | .string _ t => encB (Kh450.encodeAll t)
  | _ => ""
def numN : Node → Nat
  | .integer _ v => v
  | _ => 0
def kids : Node → List Node
  | .list _ l => l
  | _ => []
def headL : List Node → Str
  | .symbol _ s :: _ => encB s
  | _ => ""
def headN (n : Node) : Str := headL (kids n)
mutual
def depthN : Node → Nat
  | .list _ l => 1 + depthsN l
  | _ => 0
def depthsN : List Node → Nat
  | [] => 0
  | n :: r => max (depthN n) (depthsN r)
end
def formOk (n : Node) (role form : Str) : Bool :=
  if form = role then !decide (form = "")
  else if form = "label" then (if shapeN n = "string" then isLab (textN n) else false)
  else if form = "identifier" then (if shapeN n = "string" then (if textN n = "" then true else isLab (textN n)) else false)
  else if form = "level" then (if shapeN n = "integer" then (if (1 : Int) ≤ numN n then decide ((numN n : Int) ≤ 6) else false) else false)
  else if form = "alignment" then (if shapeN n = "symbol" then inV (.str (textN n)) (["none", "left", "center", "right"].map fun x : String => V.str (x : Str)) else false)
  else (if inV (.str form) [.str "string", .str "integer", .str "symbol"] = true then decide (shapeN n = form) else false)
def ruleOf (hd : Str) (len : Nat) : Option Rule := if hd = "code" ∧ len = 3 then rulesT.lookup ("(code block)" : Str) else if hd = "" then rulesT.lookup ("(inlines)" : Str) else rulesT.lookup hd
def evenRows (items : List Node) : Bool := (items.drop 4).all fun row => decide ((kids row).length = (kids (items.getD 3 (.list 0 []))).length)
def roleL (items : List Node) (rs : List Str) : Str := match ruleOf (headL items) items.length with
  | none => ""
  | some r => if items.length < r.2.1.length + r.2.2.2 then ""
    else if ((items.zip rs).zip r.2.1).all (fun q => formOk q.1.1 q.1.2 q.2) = false then ""
    else if ((items.zip rs).drop r.2.1.length).all (fun q => formOk q.1 q.2 r.2.2.1) = false then ""
    else if headL items = "table" ∧ evenRows items = false then "" else r.1
mutual
def roleN : Node → Str
  | .string _ _ => "inline"
  | .list _ l => roleL l (rolesN l)
  | _ => ""
def rolesN : List Node → List Str
  | [] => []
  | n :: r => roleN n :: rolesN r
end
theorem rolesN_map : ∀ l : List Node, rolesN l = l.map roleN
  | [] => rfl
  | n :: r => by rw [rolesN, rolesN_map r]; rfl
/-! ### where it stands -/
def exF (sh : Str) (pl : Int) (tx : Str) (nu : Int) (pa : Addr) (hd : Str) (de : Int) (ro : Str) : List (Str × V) :=
  [("shape", .str sh), ("place", .int pl), ("text", .str tx), ("number", .int nu), ("parts", .ref pa), ("head", .str hd), ("depth", .int de), ("role", .str ro), ("normal", .non), ("size", .non)]
def rF (da : Addr) (i : Int) : List (Str × V) := [("data", .ref da), ("at", .int i)]
def nodeF (n : Node) (pa : Addr) : List (Str × V) := exF (shapeN n) (n.position : Nat) (textN n) (numN n : Nat) pa (headN n) (depthN n : Nat) (roleN n)
mutual
/-- at a: the object of an expression -/
def ExAt (C : Addr) (H : Hp) : Node → Addr → Prop
  | .list p l, a => ∃ dx pa as, H a = some (.ins C dx (nodeF (.list p l) pa)) ∧ H pa = some (.tup (as.map V.ref)) ∧ ExsAt C H l as
  | .symbol p s, a => ∃ dx pa, H a = some (.ins C dx (nodeF (.symbol p s) pa)) ∧ H pa = some (.tup []) ∧ (textN (.symbol p s)).length ≤ 100000
  | .integer p v, a => ∃ dx pa, H a = some (.ins C dx (nodeF (.integer p v) pa)) ∧ H pa = some (.tup [])
  | .string p t, a => ∃ dx pa, H a = some (.ins C dx (nodeF (.string p t) pa)) ∧ H pa = some (.tup []) ∧ (textN (.string p t)).length ≤ 100000
def ExsAt (C : Addr) (H : Hp) : List Node → List Addr → Prop
  | [], as => as = []
  | n :: r, as => ∃ a as', as = a :: as' ∧ ExAt C H n a ∧ ExsAt C H r as'
end
/-- all that an expression stands on stands -/
def solid : HO → Bool
  | .tup _ => true
  | .ins _ _ fs => fs.length == 10
  | _ => false
def Stay (H H' : Hp) : Prop := ∀ b o, H b = some o → solid o = true → H' b = some o
theorem Stay.of {H H' : Hp} (h : Same H H') : Stay H H' := fun b o e _ => h b o e
mutual
theorem ExAt.stay {C : Addr} {H H' : Hp} (s : Stay H H') : ∀ {n : Node} {a : Addr}, ExAt C H n a → ExAt C H' n a
  | .list p l, a, h => by
    obtain ⟨dx, pa, as, h1, h2, h3⟩ := (show ∃ dx pa as, H a = some (.ins C dx (nodeF (.list p l) pa)) ∧ H pa = some (.tup (as.map V.ref)) ∧ ExsAt C H l as by rw [ExAt] at h; exact h)
    rw [ExAt]
    exact ⟨dx, pa, as, s _ _ h1 rfl, s _ _ h2 rfl, ExsAt.stay s h3⟩
  | .symbol p x, a, h => by
    rw [ExAt] at h ⊢
    obtain ⟨dx, pa, h1, h2, h3⟩ := h
    exact ⟨dx, pa, s _ _ h1 rfl, s _ _ h2 rfl, h3⟩
  | .integer p x, a, h => by
    rw [ExAt] at h ⊢
    obtain ⟨dx, pa, h1, h2⟩ := h
    exact ⟨dx, pa, s _ _ h1 rfl, s _ _ h2 rfl⟩
  | .string p x, a, h => by
    rw [ExAt] at h ⊢
    obtain ⟨dx, pa, h1, h2, h3⟩ := h
    exact ⟨dx, pa, s _ _ h1 rfl, s _ _ h2 rfl, h3⟩
theorem ExsAt.stay {C : Addr} {H H' : Hp} (s : Stay H H') : ∀ {l : List Node} {as : List Addr}, ExsAt C H l as → ExsAt C H' l as
  | [], as, h => by rw [ExsAt] at h ⊢; exact h
  | n :: r, as, h => by
    rw [ExsAt] at h ⊢
    obtain ⟨a, as', e, h1, h2⟩ := h
    exact ⟨a, as', e, ExAt.stay s h1, ExsAt.stay s h2⟩
end
/-- any expression: its object, its parts -/
theorem ExAt.any {C : Addr} {H : Hp} : ∀ {n : Node} {a : Addr}, ExAt C H n a → ∃ dx pa as, H a = some (.ins C dx (nodeF n pa)) ∧ H pa = some (.tup (as.map V.ref)) ∧ ExsAt C H (kids n) as ∧ (textN n).length ≤ 100000
  | .list p l, a, h => by rw [ExAt] at h; obtain ⟨dx, pa, as, h1, h2, h3⟩ := h; exact ⟨dx, pa, as, h1, h2, h3, (by show ("" : Str).length ≤ 100000; decide +kernel)⟩
  | .symbol p x, a, h => by rw [ExAt] at h; obtain ⟨dx, pa, h1, h2, h3⟩ := h; exact ⟨dx, pa, [], h1, h2, (by show ExsAt C H [] []; rw [ExsAt]), h3⟩
  | .integer p x, a, h => by rw [ExAt] at h; obtain ⟨dx, pa, h1, h2⟩ := h; exact ⟨dx, pa, [], h1, h2, (by show ExsAt C H [] []; rw [ExsAt]), (by show ("" : Str).length ≤ 100000; decide +kernel)⟩
  | .string p x, a, h => by rw [ExAt] at h; obtain ⟨dx, pa, h1, h2, h3⟩ := h; exact ⟨dx, pa, [], h1, h2, (by show ExsAt C H [] []; rw [ExsAt]), h3⟩
theorem ExsAt.len {C : Addr} {H : Hp} : ∀ {l : List Node} {as : List Addr}, ExsAt C H l as → as.length = l.length
  | [], as, h => by rw [ExsAt] at h; rw [h]; rfl
  | n :: r, as, h => by
    rw [ExsAt] at h
    obtain ⟨a, as', e, _, h2⟩ := h
    rw [e, List.length_cons, List.length_cons, ExsAt.len h2]
theorem ExsAt.get {C : Addr} {H : Hp} : ∀ {l : List Node} {as : List Addr} {i : Nat} {n : Node}, ExsAt C H l as → l[i]? = some n → ∃ a, as[i]? = some a ∧ ExAt C H n a
  | [], as, i, n, h, e => by simp at e
  | m :: r, as, 0, n, h, e => by
    rw [ExsAt] at h
    obtain ⟨a, as', rfl, h1, _⟩ := h
    have q : m = n := Option.some.inj e
    subst q
    exact ⟨a, rfl, h1⟩
  | m :: r, as, i + 1, n, h, e => by
    rw [ExsAt] at h
    obtain ⟨a, as', rfl, _, h2⟩ := h
    obtain ⟨b, e1, e2⟩ := ExsAt.get (i := i) (n := n) h2 (by simpa using e)
    exact ⟨b, by simpa using e1, e2⟩
theorem ExsAt.snoc {C : Addr} {H : Hp} {n : Node} {a : Addr} (h2 : ExAt C H n a) : ∀ {l : List Node} {as : List Addr}, ExsAt C H l as → ExsAt C H (l ++ [n]) (as ++ [a])
  | [], as, h => by
    rw [ExsAt] at h
    subst h
    show ExsAt C H [n] [a]
    rw [ExsAt]
    exact ⟨a, [], rfl, h2, by rw [ExsAt]⟩
  | m :: r, as, h => by
    rw [ExsAt] at h
    obtain ⟨b, as', rfl, h1, h3⟩ := h
    show ExsAt C H (m :: (r ++ [n])) (b :: (as' ++ [a]))
    rw [ExsAt]
    exact ⟨b, _, rfl, h1, ExsAt.snoc h2 h3⟩
theorem ExsAt.drop {C : Addr} {H : Hp} : ∀ {l : List Node} {as : List Addr} (k : Nat), ExsAt C H l as → ExsAt C H (l.drop k) (as.drop k)
  | l, as, 0, h => h
  | [], as, k + 1, h => by
    rw [ExsAt] at h
    subst h
    show ExsAt C H [] []
    rw [ExsAt]
  | n :: r, as, k + 1, h => by
    rw [ExsAt] at h
    obtain ⟨a, as', rfl, _, h2⟩ := h
    exact ExsAt.drop k h2
/-! ### attributes -/
theorem lk1 {k : Str} {v : V} {r : List (Str × V)} : List.lookup k ((k, v) :: r) = some v := by simp [List.lookup]
theorem lk2 {k g : Str} {v : V} {r : List (Str × V)} (h : (k == g) = false) : List.lookup k ((g, v) :: r) = List.lookup k r := by simp only [List.lookup, h]
theorem pt1 {f : Str} {v x : V} {r : List (Str × V)} : putF f v ((f, x) :: r) = (f, v) :: r := if_pos rfl
theorem pt2 {f g : Str} {v x : V} {r : List (Str × V)} (h : (g == f) = false) : putF f v ((g, x) :: r) = (g, x) :: putF f v r := if_neg (by simpa using h)
section
variable {sh tx hd ro : Str} {pl nu de : Int} {pa : Addr} {v : V}
theorem lk_shape : (exF sh pl tx nu pa hd de ro).lookup ("shape" : Str) = some (.str sh) := lk1
theorem lk_place : (exF sh pl tx nu pa hd de ro).lookup ("place" : Str) = some (.int pl) := (lk2 (by decide +kernel)).trans lk1
theorem lk_text : (exF sh pl tx nu pa hd de ro).lookup ("text" : Str) = some (.str tx) := (lk2 (by decide +kernel)).trans ((lk2 (by decide +kernel)).trans lk1)
theorem lk_number : (exF sh pl tx nu pa hd de ro).lookup ("number" : Str) = some (.int nu) := (lk2 (by decide +kernel)).trans ((lk2 (by decide +kernel)).trans ((lk2 (by decide +kernel)).trans lk1))
theorem lk_parts : (exF sh pl tx nu pa hd de ro).lookup ("parts" : Str) = some (.ref pa) := (lk2 (by decide +kernel)).trans ((lk2 (by decide +kernel)).trans ((lk2 (by decide +kernel)).trans ((lk2 (by decide +kernel)).trans lk1)))
theorem lk_head : (exF sh pl tx nu pa hd de ro).lookup ("head" : Str) = some (.str hd) := (lk2 (by decide +kernel)).trans ((lk2 (by decide +kernel)).trans ((lk2 (by decide +kernel)).trans ((lk2 (by decide +kernel)).trans ((lk2 (by decide +kernel)).trans lk1))))
theorem lk_depth : (exF sh pl tx nu pa hd de ro).lookup ("depth" : Str) = some (.int de) := (lk2 (by decide +kernel)).trans ((lk2 (by decide +kernel)).trans ((lk2 (by decide +kernel)).trans ((lk2 (by decide +kernel)).trans ((lk2 (by decide +kernel)).trans ((lk2 (by decide +kernel)).trans lk1)))))
theorem lk_role : (exF sh pl tx nu pa hd de ro).lookup ("role" : Str) = some (.str ro) := (lk2 (by decide +kernel)).trans ((lk2 (by decide +kernel)).trans ((lk2 (by decide +kernel)).trans ((lk2 (by decide +kernel)).trans ((lk2 (by decide +kernel)).trans ((lk2 (by decide +kernel)).trans ((lk2 (by decide +kernel)).trans lk1))))))
theorem lk_data {da : Addr} {i : Int} : (rF da i).lookup ("data" : Str) = some (.ref da) := lk1
theorem lk_at {da : Addr} {i : Int} : (rF da i).lookup ("at" : Str) = some (.int i) := (lk2 (by decide +kernel)).trans lk1
theorem put_at {da : Addr} {i j : Int} : putF "at" (.int j) (rF da i) = rF da j := (pt2 (by decide +kernel)).trans (congrArg _ pt1)
theorem put_text {x : Str} : putF "text" (.str x) (exF sh pl tx nu pa hd de ro) = exF sh pl x nu pa hd de ro := (pt2 (by decide +kernel)).trans (congrArg _ ((pt2 (by decide +kernel)).trans (congrArg _ pt1)))
theorem put_number {x : Int} : putF "number" (.int x) (exF sh pl tx nu pa hd de ro) = exF sh pl tx x pa hd de ro := (pt2 (by decide +kernel)).trans (congrArg _ ((pt2 (by decide +kernel)).trans (congrArg _ ((pt2 (by decide +kernel)).trans (congrArg _ pt1)))))
theorem put_parts {x : Addr} : putF "parts" (.ref x) (exF sh pl tx nu pa hd de ro) = exF sh pl tx nu x hd de ro := (pt2 (by decide +kernel)).trans (congrArg _ ((pt2 (by decide +kernel)).trans (congrArg _ ((pt2 (by decide +kernel)).trans (congrArg _ ((pt2 (by decide +kernel)).trans (congrArg _ pt1)))))))
theorem put_head {x : Str} : putF "head" (.str x) (exF sh pl tx nu pa hd de ro) = exF sh pl tx nu pa x de ro := (pt2 (by decide +kernel)).trans (congrArg _ ((pt2 (by decide +kernel)).trans (congrArg _ ((pt2 (by decide +kernel)).trans (congrArg _ ((pt2 (by decide +kernel)).trans (congrArg _ ((pt2 (by decide +kernel)).trans (congrArg _ pt1)))))))))
theorem put_depth {x : Int} : putF "depth" (.int x) (exF sh pl tx nu pa hd de ro) = exF sh pl tx nu pa hd x ro := (pt2 (by decide +kernel)).trans (congrArg _ ((pt2 (by decide +kernel)).trans (congrArg _ ((pt2 (by decide +kernel)).trans (congrArg _ ((pt2 (by decide +kernel)).trans (congrArg _ ((pt2 (by decide +kernel)).trans (congrArg _ ((pt2 (by decide +kernel)).trans (congrArg _ pt1)))))))))))
theorem put_role {x : Str} : putF "role" (.str x) (exF sh pl tx nu pa hd de ro) = exF sh pl tx nu pa hd de x := (pt2 (by decide +kernel)).trans (congrArg _ ((pt2 (by decide +kernel)).trans (congrArg _ ((pt2 (by decide +kernel)).trans (congrArg _ ((pt2 (by decide +kernel)).trans (congrArg _ ((pt2 (by decide +kernel)).trans (congrArg _ ((pt2 (by decide +kernel)).trans (congrArg _ ((pt2 (by decide +kernel)).trans (congrArg _ pt1)))))))))))))
theorem put_newE : putF "size" .non (putF "normal" .non (putF "role" (.str "") (putF "depth" (.int 0) (putF "head" (.str "") (putF "parts" (.ref pa) (putF "number" (.int 0) (putF "text" (.str "") (putF "place" (.int pl) (putF "shape" (.str sh) []))))))))) = exF sh pl "" 0 pa "" 0 "" := by
  have p0 : putF "shape" (.str sh) [] = [(("shape" : Str), V.str sh)] := rfl
  have e : ∀ (f : Str) (x : V) (ks : List Str) (l : List (Str × V)), l.map Prod.fst = ks → ks.contains f = false → putF f x l = l ++ [(f, x)] := by
    intro f x ks l hk
    subst hk
    induction l with
    | nil => intro _; rfl
    | cons q r ih =>
      intro h
      obtain ⟨g, y⟩ := q
      rw [List.map_cons, List.contains_cons, Bool.or_eq_false_iff] at h
      have ne : (g == f) = false := by
        rw [Bool.eq_false_iff]
        intro z
        have z2 := beq_iff_eq.mp z
        subst z2
        have h1 := h.1
        rw [beq_self_eq_true] at h1
        cases h1
      rw [pt2 ne, ih h.2]
      rfl
  rw [p0, e "place" _ ["shape"] _ rfl (by decide +kernel), e "text" _ ["shape", "place"] _ rfl (by decide +kernel), e "number" _ ["shape", "place", "text"] _ rfl (by decide +kernel), e "parts" _ ["shape", "place", "text", "number"] _ rfl (by decide +kernel),
    e "head" _ ["shape", "place", "text", "number", "parts"] _ rfl (by decide +kernel), e "depth" _ ["shape", "place", "text", "number", "parts", "head"] _ rfl (by decide +kernel), e "role" _ ["shape", "place", "text", "number", "parts", "head", "depth"] _ rfl (by decide +kernel),
    e "normal" _ ["shape", "place", "text", "number", "parts", "head", "depth", "role"] _ rfl (by decide +kernel), e "size" _ ["shape", "place", "text", "number", "parts", "head", "depth", "role", "normal"] _ rfl (by decide +kernel)]
  rfl
end
end Ck
namespace Ck
open PySem PySem.Spec PyProof.Rows L2
open Kh450 (Node)
/-- a class's method as it stands in the text -/
abbrev FnM (K : PySem.W.Frag) (c x : Str) (st : Stmt) (f : Addr) (fd : FuncData) : Prop := FunD K x (c ++ "." ++ x) (defArgs st) (defBody st) (defScope st) [] [] f fd
def spInitE (C : Addr) : Sp := fun vs H Q _ => ∃ (p dx : Addr) (sh : Str) (pl : Int), vs = [.ref p, .str sh, .int pl] ∧ H p = some (.ins C dx []) ∧
  ∀ H' pa, H pa = none → H' p = some (.ins C dx (exF sh pl "" 0 pa "" 0 "")) → H' pa = some (.tup []) → (∀ b o, H b = some o → b ≠ p → H' b = some o) → Q .non H'
def spMkStr (C : Addr) : Sp := fun vs H Q _ => ∃ (t : Kh450.Text) (p : Nat), vs = [.str (textN (.string p t)), .int p] ∧ (textN (.string p t)).length ≤ 100000 ∧ ∀ H' a, Same H H' → H a = none → ExAt C H' (.string p t) a → Q (.ref a) H'
def spMkInt (C : Addr) : Sp := fun vs H Q _ => ∃ v p : Nat, vs = [.int v, .int p] ∧ ∀ H' a, Same H H' → H a = none → ExAt C H' (.integer p v) a → Q (.ref a) H'
def spMkSym (C : Addr) : Sp := fun vs H Q _ => ∃ (s : List Nat) (p : Nat), vs = [.str (encB s), .int p] ∧ (encB s).length ≤ 100000 ∧ ∀ H' a, Same H H' → H a = none → ExAt C H' (.symbol p s) a → Q (.ref a) H'
section
variable {P : Program} {w : World} {K : PySem.W.Frag} {mg : Str → Option Value} {base : Heap}
theorem Txt.e (T : Txt w K mg) {f : Str} (h : f ∈ (["shape", "place", "text", "number", "parts", "head", "depth", "role", "normal", "size"] : List Str) := by decide +kernel) : NoAttr K (He.ga K "Expression") f := T.nE f h
theorem Txt.r (T : Txt w K mg) {f : Str} (h : f ∈ (["data", "at"] : List Str) := by decide +kernel) : NoAttr K (He.ga K "Reader") f := T.nR f h
abbrev s_Expression___init__ : Stmt := inClass (top 15) 0
theorem sc_Expression___init__ : FnScope ["self", "shape", "place"] ["self", "shape", "place"] (defScope s_Expression___init__) := ⟨rfl, rfl, rfl, by decide +kernel, rfl, by decide +kernel, by decide +kernel⟩
theorem ok_initE (T : Txt w K mg) {f : Addr} {fd : FuncData} (F : FunD K "__init__" "Expression.__init__" (defArgs s_Expression___init__) (defBody s_Expression___init__) (defScope s_Expression___init__) [] [] f fd) : FnOk P w K mg base CX0 1 f fd ["self", "shape", "place"] (spInitE (He.ga K "Expression")) := by
  refine F.ok sc_Expression___init__ (fun vs H Q E h => ?_) (fun cdv A outer s H vs Q E hr h => ⟨_, PSs.nox (pss_cons (ps_fld (pv 0) (pv 1) rfl) (pss_cons (ps_fld (pv 0) (pv 2) rfl) (pss_cons (ps_fld (pv 0) pe_str rfl) (pss_cons (ps_fld (pv 0) pe_int rfl) (pss_cons (ps_fld (pv 0) (pe_tup pa_nil) rfl) (pss_cons (ps_fld (pv 0) pe_str rfl) (pss_cons (ps_fld (pv 0) pe_int rfl) (pss_cons (ps_fld (pv 0) pe_str rfl) (pss_cons (ps_fld (pv 0) pe_non rfl) (pss_one (ps_fld (pv 0) pe_non rfl))))))))))), ?_⟩)
  · obtain ⟨p, dx, sh, pl, rfl, _⟩ := h
    rfl
  · obtain ⟨p, dx, sh, pl, rfl, hp, h⟩ := h
    refine ⟨_, rfl, _, rfl, p, _, dx, _, rfl, hp, T.clE, T.e, (by show 0 < 1000; decide), ?_⟩
    refine ⟨_, rfl, _, rfl, p, _, dx, _, rfl, upd_same, T.clE, T.e, (by show 1 < 1000; decide), ?_⟩
    refine ⟨_, rfl, p, _, dx, _, rfl, upd_same, T.clE, T.e, (by show 2 < 1000; decide), ?_⟩
    refine ⟨_, rfl, p, _, dx, _, rfl, upd_same, T.clE, T.e, (by show 3 < 1000; decide), ?_⟩
    refine ⟨(by show 0 ≤ sizeLine; decide), fun pa hpa => ?_⟩
    have ne : p ≠ pa := fun e => by
      rw [← e, upd_same] at hpa
      cases hpa
    have hpa0 : H pa = none := by
      have q := hpa
      rw [upd_ne ne.symm, upd_ne ne.symm, upd_ne ne.symm, upd_ne ne.symm] at q
      exact q
    refine ⟨_, rfl, p, _, dx, _, rfl, (upd_ne ne).trans upd_same, T.clE, T.e, (by show 4 < 1000; decide), ?_⟩
    refine ⟨_, rfl, p, _, dx, _, rfl, upd_same, T.clE, T.e, (by show 5 < 1000; decide), ?_⟩
    refine ⟨_, rfl, p, _, dx, _, rfl, upd_same, T.clE, T.e, (by show 6 < 1000; decide), ?_⟩
    refine ⟨_, rfl, p, _, dx, _, rfl, upd_same, T.clE, T.e, (by show 7 < 1000; decide), ?_⟩
    refine ⟨_, rfl, p, _, dx, _, rfl, upd_same, T.clE, T.e, (by show 8 < 1000; decide), ?_⟩
    refine ⟨_, rfl, p, _, dx, _, rfl, upd_same, T.clE, T.e, (by show 9 < 1000; decide), ?_⟩
    refine h _ pa hpa0 (upd_same.trans (congrArg (fun q => some (HO.ins _ dx q)) put_newE)) ?_ fun b o e hb => ?_
    · rw [upd_ne ne.symm, upd_ne ne.symm, upd_ne ne.symm, upd_ne ne.symm, upd_ne ne.symm, upd_ne ne.symm, upd_same]
    · have hb2 : b ≠ pa := fun q => by rw [q, hpa0] at e; cases e
      rw [upd_ne hb, upd_ne hb, upd_ne hb, upd_ne hb, upd_ne hb, upd_ne hb, upd_ne hb2, upd_ne hb, upd_ne hb, upd_ne hb, upd_ne hb]
      exact e
abbrev s_make_string : Stmt := top 16
theorem sc_make_string : FnScope ["text", "place", "expression"] ["text", "place"] (defScope s_make_string) := ⟨rfl, rfl, rfl, by decide +kernel, rfl, by decide +kernel, by decide +kernel⟩
theorem ok_make_string (T : Txt w K mg) (c_Expression : KeptC P w K mg base CX0 1 "Expression" ["self", "shape", "place"] (spInitE (He.ga K "Expression"))) {f : Addr} {fd : FuncData} {dv : List V} (F : FunD K "make_string" "make_string" (defArgs s_make_string) (defBody s_make_string) (defScope s_make_string) dv [] f fd) :
    FnOk P w K mg base CX0 3 f fd ["text", "place"] (spMkStr (He.ga K "Expression")) := by
  refine F.ok sc_make_string (fun vs H Q E h => ?_) (fun cdv A outer s H vs Q E hr h => ⟨_, PSs.nox (pss_cons (ps_set (i := 2) sc_make_string.nd rfl (Or.inl rfl) (pe_kmk c_Expression hr (by omega) pass0 (pa_cons pe_str (pa_cons (pv 1) pa_nil)))) (pss_cons (ps_fld (pv 2) (pv 0) rfl) (pss_cons (ps_fld (pv 2) pe_str rfl) (pss_one (ps_ret (pv 2)))))), ?_⟩)
  · obtain ⟨t, p, rfl, _⟩ := h
    rfl
  · obtain ⟨t, p, rfl, hz, h⟩ := h
    refine ⟨_, rfl, fun x dx nx nd ne => ?_⟩
    refine ⟨x, dx, _, _, rfl, upd_same, fun H1 pa hpa h1 h2 kp => ?_⟩
    have s1 : Same H H1 := Same.made nx nd kp
    have pax : pa ≠ x := fun e => by rw [e, upd_same] at hpa; cases hpa
    refine ⟨rfl, _, rfl, _, rfl, x, _, dx, _, rfl, h1, T.clE, T.e, (by show 10 < 1000; decide), ?_⟩
    refine ⟨_, rfl, x, _, dx, _, rfl, upd_same, T.clE, T.e, (by show 10 < 1000; decide), ?_⟩
    refine ⟨_, rfl, h _ x (fun b o e => ?_) nx ?_⟩
    · have hb : b ≠ x := ne_of_none e nx
      rw [upd_ne hb, upd_ne hb]
      exact s1 b o e
    · rw [ExAt]
      refine ⟨dx, pa, upd_same.trans ?_, ?_, hz⟩
      · rw [put_text, put_role]
        rfl
      · rw [upd_ne pax, upd_ne pax]
        exact h2
abbrev s_make_integer : Stmt := top 17
theorem sc_make_integer : FnScope ["number", "place", "expression"] ["number", "place"] (defScope s_make_integer) := ⟨rfl, rfl, rfl, by decide +kernel, rfl, by decide +kernel, by decide +kernel⟩
theorem ok_make_integer (T : Txt w K mg) (c_Expression : KeptC P w K mg base CX0 1 "Expression" ["self", "shape", "place"] (spInitE (He.ga K "Expression"))) {f : Addr} {fd : FuncData} {dv : List V} (F : FunD K "make_integer" "make_integer" (defArgs s_make_integer) (defBody s_make_integer) (defScope s_make_integer) dv [] f fd) :
    FnOk P w K mg base CX0 3 f fd ["number", "place"] (spMkInt (He.ga K "Expression")) := by
  refine F.ok sc_make_integer (fun vs H Q E h => ?_) (fun cdv A outer s H vs Q E hr h => ⟨_, PSs.nox (pss_cons (ps_set (i := 2) sc_make_integer.nd rfl (Or.inl rfl) (pe_kmk c_Expression hr (by omega) pass0 (pa_cons pe_str (pa_cons (pv 1) pa_nil)))) (pss_cons (ps_fld (pv 2) (pv 0) rfl) (pss_one (ps_ret (pv 2))))), ?_⟩)
  · obtain ⟨v, p, rfl, _⟩ := h
    rfl
  · obtain ⟨v, p, rfl, h⟩ := h
    refine ⟨_, rfl, fun x dx nx nd ne => ?_⟩
    refine ⟨x, dx, _, _, rfl, upd_same, fun H1 pa hpa h1 h2 kp => ?_⟩
    have s1 : Same H H1 := Same.made nx nd kp
    have pax : pa ≠ x := fun e => by rw [e, upd_same] at hpa; cases hpa
    refine ⟨rfl, _, rfl, _, rfl, x, _, dx, _, rfl, h1, T.clE, T.e, (by show 10 < 1000; decide), ?_⟩
    refine ⟨_, rfl, h _ x (fun b o e => ?_) nx ?_⟩
    · have hb : b ≠ x := ne_of_none e nx
      rw [upd_ne hb]
      exact s1 b o e
    · rw [ExAt]
      refine ⟨dx, pa, upd_same.trans ?_, ?_⟩
      · rw [put_number]
        rfl
      · rw [upd_ne pax]
        exact h2
abbrev s_make_symbol : Stmt := top 18
theorem sc_make_symbol : FnScope ["name", "place", "expression"] ["name", "place"] (defScope s_make_symbol) := ⟨rfl, rfl, rfl, by decide +kernel, rfl, by decide +kernel, by decide +kernel⟩
theorem ok_make_symbol (T : Txt w K mg) (c_Expression : KeptC P w K mg base CX0 1 "Expression" ["self", "shape", "place"] (spInitE (He.ga K "Expression"))) {f : Addr} {fd : FuncData} {dv : List V} (F : FunD K "make_symbol" "make_symbol" (defArgs s_make_symbol) (defBody s_make_symbol) (defScope s_make_symbol) dv [] f fd) :
    FnOk P w K mg base CX0 3 f fd ["name", "place"] (spMkSym (He.ga K "Expression")) := by
  refine F.ok sc_make_symbol (fun vs H Q E h => ?_) (fun cdv A outer s H vs Q E hr h => ⟨_, PSs.nox (pss_cons (ps_set (i := 2) sc_make_symbol.nd rfl (Or.inl rfl) (pe_kmk c_Expression hr (by omega) pass0 (pa_cons pe_str (pa_cons (pv 1) pa_nil)))) (pss_cons (ps_fld (pv 2) (pv 0) rfl) (pss_one (ps_ret (pv 2))))), ?_⟩)
  · obtain ⟨v, p, rfl, _⟩ := h
    rfl
  · obtain ⟨v, p, rfl, hz, h⟩ := h
    refine ⟨_, rfl, fun x dx nx nd ne => ?_⟩
    refine ⟨x, dx, _, _, rfl, upd_same, fun H1 pa hpa h1 h2 kp => ?_⟩
    have s1 : Same H H1 := Same.made nx nd kp
    have pax : pa ≠ x := fun e => by rw [e, upd_same] at hpa; cases hpa
    refine ⟨rfl, _, rfl, _, rfl, x, _, dx, _, rfl, h1, T.clE, T.e, (by show 10 < 1000; decide), ?_⟩
    refine ⟨_, rfl, h _ x (fun b o e => ?_) nx ?_⟩
    · have hb : b ≠ x := ne_of_none e nx
      rw [upd_ne hb]
      exact s1 b o e
    · rw [ExAt]
      refine ⟨dx, pa, upd_same.trans ?_, ?_, hz⟩
      · rw [put_text]
        rfl
      · rw [upd_ne pax]
        exact h2
end
end Ck
namespace Ck
open PySem PySem.Spec PyProof.Rows L2
open Kh450 (Node)
section
variable {w : World} {K : PySem.W.Frag} {mg : Str → Option Value}
theorem eN_shape (T : Txt w K mg) : NoAttr K (He.ga K "Expression") "shape" := T.e
theorem eN_place (T : Txt w K mg) : NoAttr K (He.ga K "Expression") "place" := T.e
theorem eN_text (T : Txt w K mg) : NoAttr K (He.ga K "Expression") "text" := T.e
theorem eN_number (T : Txt w K mg) : NoAttr K (He.ga K "Expression") "number" := T.e
theorem eN_parts (T : Txt w K mg) : NoAttr K (He.ga K "Expression") "parts" := T.e
theorem eN_head (T : Txt w K mg) : NoAttr K (He.ga K "Expression") "head" := T.e
theorem eN_depth (T : Txt w K mg) : NoAttr K (He.ga K "Expression") "depth" := T.e
theorem eN_role (T : Txt w K mg) : NoAttr K (He.ga K "Expression") "role" := T.e
theorem rN_data (T : Txt w K mg) : NoAttr K (He.ga K "Reader") "data" := T.r
theorem rN_at (T : Txt w K mg) : NoAttr K (He.ga K "Reader") "at" := T.r
end
/-- the rule of a list whose head and number of parts are known -/
def spRuleOf (K : PySem.W.Frag) (C : Addr) : Sp := fun vs H Q _ => ∃ (a dx pa : Addr) (sh tx hd ro : Str) (pl nu de : Int) (ps : List V), vs = [.ref a] ∧ H a = some (.ins C dx (exF sh pl tx nu pa hd de ro)) ∧ H pa = some (.tup ps) ∧
  (ruleOf hd ps.length = none → Q .non H) ∧ ∀ r b, ruleOf hd ps.length = some r → RuleAt K b r → Q (.ref b) H
def spHasForm (C : Addr) : Sp := fun vs H Q _ => ∃ (a : Addr) (n : Node) (form : Str), vs = [.ref a, .str form] ∧ ExAt C H n a ∧ ∀ H', Same H H' → Q (.bl (formOk n (roleN n) form)) H'
section
variable {P : Program} {w : World} {K : PySem.W.Frag} {mg : Str → Option Value} {base : Heap}
theorem tab_get {α : Type} {d : Addr} {at_ : Addr → α → Prop} {tb : List (Str × α)} (t : Tab K d at_ tb) {z : Str} {q : α} (h : tb.lookup z = some q) : ∃ a, PySem.W.nsIn K d z = some (some (.ref a)) ∧ at_ a q := by
  rcases t z with ⟨e, _⟩ | ⟨q2, a, e, e2, h2⟩
  · rw [e] at h; cases h
  · rw [e] at h
    cases h
    exact ⟨a, e2, h2⟩
abbrev s_rule_of : Stmt := top 20
theorem sc_rule_of : FnScope ["expression"] ["expression"] (defScope s_rule_of) := ⟨rfl, rfl, rfl, by decide +kernel, rfl, by decide +kernel, by decide +kernel⟩
theorem ok_rule_of (T : Txt w K mg) {f : Addr} {fd : FuncData} (F : FnP K "rule_of" s_rule_of f fd) : FnOk P w K mg base CX0 1 f fd ["expression"] (spRuleOf K (He.ga K "Expression")) := by
  refine F.ok sc_rule_of (fun vs H Q E h => ?_) (fun cdv A outer s H vs Q E hr h => ⟨_, PSs.nox (pss_cons (ps_if (PW.pt (pw_and (pt_cmpR op_eq (pe_fld (pv 0) rfl) pe_str (nomark _)) (pw_and1 (pt_cmpR op_eq (pe_callB call_len_seq (by rfl) T.nlen PySem.boot_len (pa_cons (pe_fld (pv 0) rfl) pa_nil)) pe_int (nomark _))))) (pss_one (ps_ret (pe_ix ix_kd (pe_gref T.gRULES) pe_str (fun _ _ => rfl)))) pss_nil) (pss_cons (ps_if (pt_cmpR op_eq (pe_fld (pv 0) rfl) pe_str (nomark _)) (pss_one (ps_ret (pe_ix ix_kd (pe_gref T.gRULES) pe_str (fun _ _ => rfl)))) pss_nil) (pss_one (ps_ret (pe_kget (pe_gref T.gRULES) (pe_fld (pv 0) rfl)))))), ?_⟩)
  · obtain ⟨a, dx, pa, sh, tx, hd, ro, pl, nu, de, ps, rfl, _⟩ := h
    rfl
  · obtain ⟨a, dx, pa, sh, tx, hd, ro, pl, nu, de, ps, rfl, ha, hp, kN, kS⟩ := h
    simp only [cxK, cxW, cxKn, cxWn, tRet, tRetN, tC, tVar, tOp, tUn, rI0, rI, rU, rEq, rNe, scal, tChain, tTest, tB, tIfS, tAnd, tOr, tNot, tAndV, tOrV, tNotV, tIf, tSeq, tNext, tAsg, gName, tDrop, tCons, tNil, tCall, tMeth, tCB, tBM, tBM0, L2.start, List.map_cons, List.map_nil, List.length_cons, List.length_nil, List.replicate, Nat.reduceAdd, Nat.reduceSub, List.cons_append, List.nil_append, List.append_nil, List.getElem?_cons_zero, List.getElem?_cons_succ, List.set_cons_zero, List.set_cons_succ, Option.some.injEq, exists_and_left, exists_and_right, exists_eq_left, exists_eq_left', exists_eq_right, exists_eq_right', exists_eq, exists_eq', V.int.injEq, V.str.injEq, V.ref.injEq, V.bl.injEq, List.cons.injEq, true_and, and_true, and_self, decide_eq_true_eq, exists_const, if_true, if_false, Bool.not_eq_true', decide_eq_false_iff_not, Bool.false_eq_true, reduceIte, Bool.not_true, Bool.not_false, tFld, T.clE, eN_shape T, eN_place T, eN_text T, eN_number T, eN_parts T, eN_head T, eN_depth T, eN_role T, lk_shape, lk_place, lk_text, lk_number, lk_parts, lk_head, lk_depth, lk_role, HO.ins.injEq, and_assoc, ha, rIxKd, tKGet]
    have len3 : ((ps.length : Int) = 3) ↔ ps.length = 3 := by omega
    have seq : SqT K H pa ps := SqT.of hp
    have fall : ruleOf hd ps.length = rulesT.lookup hd → KD K w (He.ga K "RULES") ∧ ∃ x, PySem.W.nsIn K (He.ga K "RULES") hd = some x ∧ ∃ x_1, RelO x_1 x ∧ Q (x_1.getD V.non) H := fun z => by
      rcases T.vRULES hd with ⟨e, e2⟩ | ⟨q, b, e, e2, r⟩
      · exact ⟨T.kRULES, none, e2, none, trivial, kN (z.trans e)⟩
      · exact ⟨T.kRULES, _, e2, some (.ref b), rfl, kS q b (z.trans e) r⟩
    have at_ : ∀ key : Str, (rulesT.lookup key).isSome = true → ruleOf hd ps.length = rulesT.lookup key → KD K w (He.ga K "RULES") ∧ ∃ x, PySem.W.nsIn K (He.ga K "RULES") key = some (some x) ∧ ∃ x_1, L2.RelV x_1 x ∧ Q x_1 H := fun key hs z => by
      obtain ⟨q, hq⟩ := Option.isSome_iff_exists.mp hs
      obtain ⟨b, h1, h2⟩ := tab_get T.vRULES hq
      exact ⟨T.kRULES, _, h1, .ref b, rfl, kS q b (z.trans hq) h2⟩
    by_cases c1 : hd = "code"
    · rw [if_pos c1]
      refine ⟨_, .inr seq, ?_⟩
      by_cases c2 : ps.length = 3
      · rw [if_pos (len3.mpr c2)]
        exact at_ _ (by decide +kernel) (by unfold ruleOf; rw [if_pos ⟨c1, c2⟩])
      · rw [if_neg (fun q => c2 (len3.mp q)), if_neg (by rw [c1]; decide +kernel)]
        exact fall (by unfold ruleOf; rw [if_neg (fun q => c2 q.2), if_neg (by rw [c1]; decide +kernel)])
    · rw [if_neg c1]
      by_cases c2 : hd = ""
      · rw [if_pos c2]
        exact at_ _ (by decide +kernel) (by unfold ruleOf; rw [if_neg (fun q => c1 q.1), if_pos c2])
      · rw [if_neg c2]
        exact fall (by unfold ruleOf; rw [if_neg (fun q => c1 q.1), if_neg c2])
abbrev s_has_form : Stmt := top 22
theorem sc_has_form : FnScope ["expression", "form"] ["expression", "form"] (defScope s_has_form) := ⟨rfl, rfl, rfl, by decide +kernel, rfl, by decide +kernel, by decide +kernel⟩
theorem ok_has_form (T : Txt w K mg) (c_is_label : Kept P w K mg base CX0 1 "is_label" ["text"] spLab) {f : Addr} {fd : FuncData} (F : FnP K "has_form" s_has_form f fd) : FnOk P w K mg base CX0 2 f fd ["expression", "form"] (spHasForm (He.ga K "Expression")) := by
  refine F.ok sc_has_form (fun vs H Q E h => ?_) (fun cdv A outer s H vs Q E hr h => ⟨_, PSs.nox (pss_cons (ps_if (pt_cmpR op_eq (pv 1) (pe_fld (pv 0) rfl) (nomark _)) (pss_one (ps_ret (pe_cmpR op_ne (pv 1) pe_str (nomark _)))) pss_nil) (pss_cons (ps_if (pt_cmpR op_eq (pv 1) pe_str (nomark _)) (pss_one (ps_ret (pe_and (pe_cmpR op_eq (pe_fld (pv 0) rfl) pe_str (nomark _)) (pe_one (pe_k c_is_label hr (by omega) pass0 (pa_cons (pe_fld (pv 0) rfl) pa_nil)))))) pss_nil) (pss_cons (ps_if (pt_cmpR op_eq (pv 1) pe_str (nomark _)) (pss_one (ps_ret (pe_and (pe_cmpR op_eq (pe_fld (pv 0) rfl) pe_str (nomark _)) (pe_one (pe_or (pe_cmpR op_eq (pe_fld (pv 0) rfl) pe_str (nomark _)) (pe_one (pe_k c_is_label hr (by omega) pass0 (pa_cons (pe_fld (pv 0) rfl) pa_nil)))))))) pss_nil) (pss_cons (ps_if (pt_cmpR op_eq (pv 1) pe_str (nomark _)) (pss_one (ps_ret (pe_and (pe_cmpR op_eq (pe_fld (pv 0) rfl) pe_str (nomark _)) (pe_one (pe_chain op_le op_le pe_int (pe_fld (pv 0) rfl) pe_int))))) pss_nil) (pss_cons (ps_if (pt_cmpR op_eq (pv 1) pe_str (nomark _)) (pss_one (ps_ret (pe_and (pe_cmpR op_eq (pe_fld (pv 0) rfl) pe_str (nomark _)) (pe_one (pe_cmpR op_in_seq (pe_fld (pv 0) rfl) (pe_gref T.gALIGNMENTS) (by with_unfolding_all rfl)))))) pss_nil) (pss_one (ps_ret (pe_and (pe_cmpR op_in_seq (pv 1) (pe_tup (pa_cons pe_str (pa_cons pe_str (pa_cons pe_str pa_nil)))) (by with_unfolding_all rfl)) (pe_one (pe_cmpR op_eq (pe_fld (pv 0) rfl) (pv 1) (nomark _))))))))))), ?_⟩)
  · obtain ⟨a, n, form, rfl, _⟩ := h
    rfl
  · obtain ⟨a, n, form, rfl, ha, h⟩ := h
    obtain ⟨dx, pa, as, h1, h2, h3, h4⟩ := ha.any
    simp only [cxK, cxW, cxKn, cxWn, tRet, tRetN, tC, tVar, tOp, tUn, rI0, rI, rU, rEq, rNe, scal, tChain, tTest, tB, tIfS, tAnd, tOr, tNot, tAndV, tOrV, tNotV, tIf, tSeq, tNext, tAsg, gName, tDrop, tCons, tNil, tCall, tMeth, tCB, tBM, tBM0, L2.start, List.map_cons, List.map_nil, List.length_cons, List.length_nil, List.replicate, Nat.reduceAdd, Nat.reduceSub, List.cons_append, List.nil_append, List.append_nil, List.getElem?_cons_zero, List.getElem?_cons_succ, List.set_cons_zero, List.set_cons_succ, Option.some.injEq, exists_and_left, exists_and_right, exists_eq_left, exists_eq_left', exists_eq_right, exists_eq_right', exists_eq, exists_eq', V.int.injEq, V.str.injEq, V.ref.injEq, V.bl.injEq, List.cons.injEq, true_and, and_true, and_self, decide_eq_true_eq, exists_const, if_true, if_false, Bool.not_eq_true', decide_eq_false_iff_not, Bool.false_eq_true, reduceIte, Bool.not_true, Bool.not_false, tFld, T.clE, eN_shape T, eN_place T, eN_text T, eN_number T, eN_parts T, eN_head T, eN_depth T, eN_role T, lk_shape, lk_place, lk_text, lk_number, lk_parts, lk_head, lk_depth, lk_role, HO.ins.injEq, and_assoc, h1, nodeF, spLab, tTup, rIn]
    have h0 := h H (Same.refl H)
    have sz : (textN n).length ≤ sizeLine := Nat.le_trans h4 (by rw [sizeLine_eq]; decide)
    simp only [formOk] at h h0
    by_cases c1 : form = roleN n
    · simp only [if_pos c1] at h0 ⊢
      exact h0
    simp only [if_neg c1] at h h0 ⊢
    by_cases c2 : form = "label"
    · simp only [if_pos c2] at h0 ⊢
      split <;> simp_all
    simp only [if_neg c2] at h h0 ⊢
    by_cases c3 : form = "identifier"
    · simp only [if_pos c3] at h0 ⊢
      (repeat' split) <;> simp_all
    simp only [if_neg c3] at h h0 ⊢
    by_cases c4 : form = "level"
    · simp only [if_pos c4] at h0 ⊢
      (repeat' split) <;> simp_all
    simp only [if_neg c4] at h h0 ⊢
    by_cases c5 : form = "alignment"
    · simp only [if_pos c5] at h0 ⊢
      split
      · rename_i q
        rw [if_pos q] at h0
        exact ⟨_, .inr (T.tALIGNMENTS H), rfl, by decide +kernel, h0⟩
      · rename_i q
        rw [if_neg q] at h0
        exact h0
    simp only [if_neg c5] at h h0 ⊢
    refine ⟨by rw [sizeLine_eq]; decide, fun p hp => ?_⟩
    have ne : a ≠ p := ne_of_none h1 hp
    have sm := Same.new (o := .tup [V.str "string", V.str "integer", V.str "symbol"]) hp
    refine ⟨_, .inr (SqT.of upd_same), rfl, rfl, ?_⟩
    have h5 := h _ sm
    split
    · rename_i q
      rw [if_pos q] at h5
      refine ⟨_, _, _, (upd_ne ne).trans h1, T.clE, eN_shape T, _, lk_shape, rfl, ?_⟩
      simpa using h5
    · rename_i q
      rw [if_neg q] at h5
      exact h5
end
end Ck
namespace Ck
open PySem PySem.Spec PyProof.Rows L2 RZ 
open Kh450 (Node)
theorem Same.seqT {K : PySem.W.Frag} {H H' : Hp} {a : Addr} {xs : List V} (e : Same H H') (h : SqT K H a xs) : SqT K H' a xs := by
  rcases h with (h | ⟨o, h⟩) | h
  · exact .inl (.inl (e _ _ h))
  · exact .inl (.inr ⟨o, e _ _ h⟩)
  · exact .inr h
theorem cut_whole {xs : List V} {lo hi : Option Int} (h : HT.sIx xs.length 0 lo = 0 ∧ HT.sIx xs.length xs.length hi = xs.length) : cutV xs lo hi = xs := by
  unfold cutV
  rw [h.1, h.2, List.drop_zero, Nat.sub_zero, List.take_length]
theorem rSlA_of {K : PySem.W.Frag} {H : Hp} {a : Addr} {xs : List V} {lo hi : Option Int} {Q : VK} (h : SqT K H a xs) (q : ∀ p H', Same H H' → SqT K H' p (cutV xs lo hi) → Q (.ref p) H') : rSlA K (.ref a) lo hi H Q :=
  ⟨a, xs, rfl, h, fun wh => q a H (Same.refl H) (by rw [cut_whole wh]; exact h), fun _ p hp => q p _ (Same.new hp) (SqT.of upd_same)⟩
theorem cut_from (xs : List V) (k : Nat) : cutV xs (some (k : Int)) none = xs.drop k := by
  unfold cutV
  rw [HT.sIx_nat, HT.sIx_none]
  by_cases h : k ≤ xs.length
  · rw [Nat.min_eq_left h, ← List.length_drop, List.take_length]
  · rw [Nat.min_eq_right (by omega), Nat.sub_self, List.take_zero, List.drop_eq_nil_of_le (by omega)]
theorem cut_to (xs : List V) (k : Nat) : cutV xs none (some (k : Int)) = xs.take k := by
  unfold cutV
  rw [HT.sIx_nat, HT.sIx_none, List.drop_zero, Nat.sub_zero]
  by_cases h : k ≤ xs.length
  · rw [Nat.min_eq_left h]
  · rw [Nat.min_eq_right (by omega), List.take_length, List.take_of_length_le (by omega)]
theorem sq {t u : TS} {D : Ends} {σ : L2.St} {H : Hp} (h : t { D with nx := u D } σ H) : tSeq t u D σ H := h
theorem nxt {D : Ends} {σ : L2.St} {H : Hp} (h : D.nx σ H) : tNext D σ H := h
/-- a for over a tuple that an expression gives -/
theorem for_tup_of {K : PySem.W.Frag} {te : TE} {xs : List V} {g : TG} {tb : TS} {D : Ends} {σ : L2.St} {H : Hp} (he : ∀ R : VK, (∀ H1 a, Same H H1 → SqT K H1 a xs → R (.ref a) H1) → te σ H R) (Pv : Nat → L2.St → Hp → Prop) (h0 : ∀ H1, Same H H1 → Pv 0 σ H1)
    (hs : ∀ H1, Same H H1 → ∀ i x σ H', xs[i]? = some x → Same H1 H' → Pv i σ H' → g x σ H' fun σ2 H2 => tb { D with nx := fun σ H => Same H1 H ∧ Pv (i + 1) σ H, ct := fun σ H => Same H1 H ∧ Pv (i + 1) σ H, bk := D.nx } σ2 H2)
    (hd : ∀ σ H', Same H H' → Pv xs.length σ H' → D.nx σ H') : tFor (iTup K te) g tb D σ H :=
  he _ fun H1 a s1 hq => ⟨a, rfl, ⟨_, hq⟩, for_tup (xs := xs) (fun i σ H' => Same H1 H' ∧ Pv i σ H') ⟨Same.refl _, h0 H1 s1⟩ (fun i σ H' _ q => Same.seqT q.1 hq) (fun i x σ H' hi q => hs H1 s1 i x σ H' hi q.1 q.2) (fun σ H' q => hd σ H' (Same.trans s1 q.1) q.2)⟩
/-- .. over a list -/
theorem for_list_of {K : PySem.W.Frag} {te : TE} {xs : List V} {g : TG} {tb : TS} {D : Ends} {σ : L2.St} {H : Hp} (he : ∀ R : VK, (∀ H1 a, Same H H1 → SqL K H1 a xs → R (.ref a) H1) → te σ H R) (Pv : Nat → L2.St → Hp → Prop) (h0 : ∀ H1, Same H H1 → Pv 0 σ H1)
    (hs : ∀ H1, Same H H1 → ∀ i x σ H', xs[i]? = some x → Same H1 H' → Pv i σ H' → g x σ H' fun σ2 H2 => tb { D with nx := fun σ H => Same H1 H ∧ Pv (i + 1) σ H, ct := fun σ H => Same H1 H ∧ Pv (i + 1) σ H, bk := D.nx } σ2 H2)
    (hd : ∀ σ H', Same H H' → Pv xs.length σ H' → D.nx σ H') : tFor (iList K te) g tb D σ H :=
  he _ fun H1 a s1 hq => ⟨a, rfl, ⟨_, hq⟩, for_list (xs := xs) (fun i σ H' => Same H1 H' ∧ Pv i σ H') ⟨Same.refl _, h0 H1 s1⟩ (fun i σ H' _ q => Same.seq q.1 hq) (fun i x σ H' hi q => hs H1 s1 i x σ H' hi q.1 q.2) (fun σ H' q => hd σ H' (Same.trans s1 q.1) q.2)⟩
/-- .. over two tuples of one length -/
theorem for_zip_of {K : PySem.W.Frag} {ta : TA} {xs ys : List V} {u v : Nat} {tb : TS} {D : Ends} {σ : L2.St} {H : Hp} (hl : xs.length = ys.length) (he : ∀ R : List V → Hp → Prop, (∀ H1 a b, Same H H1 → SqT K H1 a xs → SqT K H1 b ys → R [.ref a, .ref b] H1) → ta σ H R)
    (Pv : Nat → L2.St → Hp → Prop) (h0 : ∀ H1, Same H H1 → Pv 0 σ H1)
    (hs : ∀ H1, Same H H1 → ∀ i x y σ H', xs[i]? = some x → ys[i]? = some y → Same H1 H' → (∃ H0, Same H0 H' ∧ Pv i σ H0) → tb { D with nx := fun σ H => Same H1 H ∧ Pv (i + 1) σ H, ct := fun σ H => Same H1 H ∧ Pv (i + 1) σ H, bk := D.nx } ((σ.set u (some x)).set v (some y)) H')
    (hd : ∀ σ H', Same H H' → Pv xs.length σ H' → D.nx σ H') : tFor (iZipA K ta) (gTup K 2 (gCons (gName u) (gCons (gName v) gNil))) tb D σ H :=
  he _ fun H1 a b s1 ha hb => ⟨a, b, xs, ys, rfl, .inr ⟨ha, hb, for_zipT hl (fun i σ H' => Same H1 H' ∧ Pv i σ H') ⟨Same.refl _, h0 H1 s1⟩ (fun i σ H' q => ⟨Same.seqT q.1 ha, Same.seqT q.1 hb⟩)
    (fun i x y T σ H' hx hy q hT => ⟨T, _, rfl, SqT.of upd_same, rfl, x, _, rfl, y, _, rfl, rfl, hs H1 s1 i x y σ _ hx hy (Same.trans q.1 (Same.new hT)) ⟨H', Same.new hT, q.2⟩⟩) (fun σ H' q => hd σ H' (Same.trans s1 q.1) q.2)⟩⟩
theorem ref_at {as : List Addr} {i : Nat} {x : V} (h : (as.map V.ref)[i]? = some x) : ∃ a, as[i]? = some a ∧ x = .ref a := by
  rw [List.getElem?_map] at h
  cases e : as[i]? with
  | none => rw [e] at h; cases h
  | some a => rw [e] at h; exact ⟨a, rfl, (Option.some.inj h).symm⟩
theorem ExsAt.at {C : Addr} {H : Hp} {l : List Node} {as : List Addr} {i : Nat} {a : Addr} (h : ExsAt C H l as) (e : as[i]? = some a) : ∃ n, l[i]? = some n ∧ ExAt C H n a := by
  have lt : i < l.length := by rw [← h.len]; exact (List.getElem?_eq_some_iff.mp e).1
  obtain ⟨b, e2, q⟩ := h.get (List.getElem?_eq_getElem lt)
  rw [e] at e2
  cases e2
  exact ⟨_, List.getElem?_eq_getElem lt, q⟩
theorem all_false {α : Type} {l : List α} {f : α → Bool} {i : Nat} {x : α} (h : l[i]? = some x) (hf : f x = false) : l.all f = false := by
  rw [Bool.eq_false_iff]
  intro q
  have := List.all_eq_true.mp q x (List.mem_of_getElem? h)
  rw [hf] at this
  cases this
theorem all_more {α : Type} {l : List α} {f : α → Bool} {i : Nat} {x : α} (h : l[i]? = some x) (hf : f x = true) (ha : (l.take i).all f = true) : (l.take (i + 1)).all f = true := by
  rw [List.take_add_one, h, List.all_append, ha]
  simp [hf]
/-- a list's object while it is being made -/
def PartAt (C : Addr) (H : Hp) (a pa : Addr) (items : List Node) (as : List Addr) : Prop := ∃ (dx : Addr) (sh tx ro : Str) (pl nu de : Int), H a = some (.ins C dx (exF sh pl tx nu pa (headL items) de ro)) ∧ H pa = some (.tup (as.map V.ref)) ∧ ExsAt C H items as
def spEven (C : Addr) : Sp := fun vs H Q _ => ∃ (a pa : Addr) (items : List Node) (as : List Addr), vs = [.ref a] ∧ PartAt C H a pa items as ∧ 4 ≤ items.length ∧ ∀ H', Same H H' → Q (.bl (evenRows items)) H'
def spRole (C : Addr) : Sp := fun vs H Q _ => ∃ (a pa : Addr) (items : List Node) (as : List Addr), vs = [.ref a] ∧ PartAt C H a pa items as ∧ ∀ H', Same H H' → Q (.str (roleL items (rolesN items))) H'
section
variable {P : Program} {w : World} {K : PySem.W.Frag} {mg : Str → Option Value} {base : Heap}
abbrev s_has_even_rows : Stmt := top 23
theorem sc_has_even_rows : FnScope ["table", "row"] ["table"] (defScope s_has_even_rows) := ⟨rfl, rfl, rfl, by decide +kernel, rfl, by decide +kernel, by decide +kernel⟩
theorem ok_has_even_rows (T : Txt w K mg) {f : Addr} {fd : FuncData} (F : FnP K "has_even_rows" s_has_even_rows f fd) : FnOk P w K mg base CX0 1 f fd ["table"] (spEven (He.ga K "Expression")) := by
  refine F.ok sc_has_even_rows (fun vs H Q E h => ?_) (fun cdv A outer s H vs Q E hr h => ⟨_, PSs.nox (pss_cons (ps_for PassesOwn.never rfl (pi_tup (pe_slice sl_tupA (pe_fld (pv 0) rfl) (po_some pe_int) po_none)) (pg_name (i := 1) sc_has_even_rows.nd rfl (Or.inl rfl)) (pss_one (ps_if (pt_cmpR op_ne (pe_callB call_len_seq (by rfl) T.nlen PySem.boot_len (pa_cons (pe_fld (pv 1) rfl) pa_nil)) (pe_callB call_len_seq (by rfl) T.nlen PySem.boot_len (pa_cons (pe_fld (pe_ix ix_tup (pe_fld (pv 0) rfl) pe_int (fun _ _ => rfl)) rfl) pa_nil)) (nomark _)) (pss_one (ps_ret pe_bl)) pss_nil))) (pss_one (ps_ret pe_bl))), ?_⟩)
  · obtain ⟨a, pa, items, as, rfl, _⟩ := h
    rfl
  · obtain ⟨a, pa, items, as, rfl, ⟨dx, sh, tx, ro, pl, nu, de, ha, hp, hx⟩, h4, h⟩ := h
    refine sq (for_tup_of (xs := (as.drop 4).map V.ref) (fun R q => ?_) (fun i σ H' => Same H H' ∧ (∃ v, σ = [some (.ref a), v]) ∧ ((items.drop 4).take i).all (fun row => decide ((kids row).length = (kids (items.getD 3 (.list 0 []))).length)) = true) (fun H1 s1 => ⟨s1, ⟨none, rfl⟩, rfl⟩) ?_ ?_)
    · simp only [cxK, cxW, cxKn, cxWn, tRet, tRetN, tC, tVar, tOp, tUn, rI0, rI, rU, rEq, rNe, scal, tChain, tTest, tB, tIfS, tAnd, tOr, tNot, tAndV, tOrV, tNotV, tIf, tSeq, tNext, tAsg, gName, tDrop, tCons, tNil, tCall, tMeth, tCB, tBM, tBM0, L2.start, List.map_cons, List.map_nil, List.length_cons, List.length_nil, List.replicate, Nat.reduceAdd, Nat.reduceSub, List.cons_append, List.nil_append, List.append_nil, List.getElem?_cons_zero, List.getElem?_cons_succ, List.set_cons_zero, List.set_cons_succ, Option.some.injEq, exists_and_left, exists_and_right, exists_eq_left, exists_eq_left', exists_eq_right, exists_eq_right', exists_eq, exists_eq', V.int.injEq, V.str.injEq, V.ref.injEq, V.bl.injEq, List.cons.injEq, true_and, and_true, and_self, decide_eq_true_eq, exists_const, if_true, if_false, Bool.not_eq_true', decide_eq_false_iff_not, Bool.false_eq_true, reduceIte, Bool.not_true, Bool.not_false, tFld, T.clE, eN_shape T, eN_place T, eN_text T, eN_number T, eN_parts T, eN_head T, eN_depth T, eN_role T, lk_shape, lk_place, lk_text, lk_number, lk_parts, lk_head, lk_depth, lk_role, HO.ins.injEq, and_assoc, ha, tSl, tPart, tNoPart]
      refine rSlA_of (SqT.of hp) fun p H1 s1 hq => q H1 p s1 ?_
      have e := cut_from (as.map V.ref) 4
      rw [List.map_drop, ← e]
      exact hq
    · rintro H1 s1 i x σ H' hi s2 ⟨sm, ⟨v, rfl⟩, hall⟩
      obtain ⟨ra, hra, rfl⟩ := ref_at hi
      obtain ⟨n, hn, hrow⟩ := ((hx.drop 4).stay (Stay.of sm)).at hra
      obtain ⟨rdx, rpa, ras, r1, r2, r3, _⟩ := hrow.any
      have l3 : 3 < items.length := by omega
      obtain ⟨ca, hca, hc⟩ := (hx.stay (Stay.of sm)).get (List.getElem?_eq_getElem l3)
      obtain ⟨cdx, cpa, cas, q1, q2, q3, _⟩ := hc.any
      have ha2 := sm _ _ ha
      have g3 : items.getD 3 (.list 0 []) = items[3] := by simp [List.getD, List.getElem?_eq_getElem l3]
      rw [g3] at hall ⊢
      simp only [cxK, cxW, cxKn, cxWn, tRet, tRetN, tC, tVar, tOp, tUn, rI0, rI, rU, rEq, rNe, scal, tChain, tTest, tB, tIfS, tAnd, tOr, tNot, tAndV, tOrV, tNotV, tIf, tSeq, tNext, tAsg, gName, tDrop, tCons, tNil, tCall, tMeth, tCB, tBM, tBM0, L2.start, List.map_cons, List.map_nil, List.length_cons, List.length_nil, List.replicate, Nat.reduceAdd, Nat.reduceSub, List.cons_append, List.nil_append, List.append_nil, List.getElem?_cons_zero, List.getElem?_cons_succ, List.set_cons_zero, List.set_cons_succ, Option.some.injEq, exists_and_left, exists_and_right, exists_eq_left, exists_eq_left', exists_eq_right, exists_eq_right', exists_eq, exists_eq', V.int.injEq, V.str.injEq, V.ref.injEq, V.bl.injEq, List.cons.injEq, true_and, and_true, and_self, decide_eq_true_eq, exists_const, if_true, if_false, Bool.not_eq_true', decide_eq_false_iff_not, Bool.false_eq_true, reduceIte, Bool.not_true, Bool.not_false, tFld, T.clE, eN_shape T, eN_place T, eN_text T, eN_number T, eN_parts T, eN_head T, eN_depth T, eN_role T, lk_shape, lk_place, lk_text, lk_number, lk_parts, lk_head, lk_depth, lk_role, HO.ins.injEq, and_assoc, ha2, r1, nodeF, rIxT]
      refine ⟨_, .inr (SqT.of r2), _, SqT.of (sm _ _ hp), _, atI_nat (j := 3) (by rw [List.getElem?_map, hca]; rfl), ?_⟩
      refine ⟨ca, rfl, _, cdx, _, q1, T.clE, eN_parts T, _, lk_parts, cpa, rfl, _, .inr (SqT.of q2), ?_⟩
      have lens : (((ras.map V.ref).length : Int) = ((cas.map V.ref).length : Int)) ↔ (kids n).length = (kids items[3]).length := by
        rw [List.length_map, List.length_map, r3.len, q3.len]
        omega
      simp only [lens]
      by_cases e : (kids n).length = (kids items[3]).length
      · rw [if_neg (fun q => q e)]
        exact ⟨s2, sm, all_more hn (by simp [e]) hall⟩
      · rw [if_pos e]
        have := h H' sm
        rw [show evenRows items = false by unfold evenRows; rw [g3]; exact all_false hn (by simp [e])] at this
        exact this
    · rintro σ H' s2 ⟨sm, ⟨v, rfl⟩, hall⟩
      have e : (as.drop 4).length = (items.drop 4).length := (hx.drop 4).len
      rw [List.length_map, e, List.take_length] at hall
      have := h H' sm
      rw [show evenRows items = true from hall] at this
      exact this
end
end Ck
namespace Ck
open PySem PySem.Spec PyProof.Rows L2 RZ
open Kh450 (Node)
theorem zip_roles {l : List Node} {i : Nat} {n : Node} (h : l[i]? = some n) : (l.zip (rolesN l))[i]? = some (n, roleN n) := by
  rw [rolesN_map, List.getElem?_zip_eq_some]
  refine ⟨h, ?_⟩
  rw [List.getElem?_map, h]
  rfl
theorem zip_len (l : List Node) : (l.zip (rolesN l)).length = l.length := by
  rw [rolesN_map, List.length_zip, List.length_map, Nat.min_self]
theorem table_len {items : List Node} {r : Rule} (h : headL items = "table") (hr : ruleOf (headL items) items.length = some r) (hl : ¬ items.length < r.2.1.length + r.2.2.2) : 4 ≤ items.length := by
  rw [h] at hr
  unfold ruleOf at hr
  rw [if_neg (fun q => absurd q.1 (by decide +kernel)), if_neg (by decide +kernel)] at hr
  have e : (rulesT.lookup ("table" : Str)).map (fun q => q.2.1.length) = some 4 := by decide +kernel
  rw [hr] at e
  have e2 : r.2.1.length = 4 := Option.some.inj e
  omega
section
variable {P : Program} {w : World} {K : PySem.W.Frag} {mg : Str → Option Value} {base : Heap}
abbrev s_role_of_list : Stmt := top 21
theorem sc_role_of_list : FnScope ["expression", "rule", "firsts", "parts", "part", "form"] ["expression"] (defScope s_role_of_list) := ⟨rfl, rfl, rfl, by decide +kernel, rfl, by decide +kernel, by decide +kernel⟩
theorem ok_role_of_list (T : Txt w K mg) (c_rule_of : Kept P w K mg base CX0 1 "rule_of" ["expression"] (spRuleOf K (He.ga K "Expression"))) (c_has_form : Kept P w K mg base CX0 2 "has_form" ["expression", "form"] (spHasForm (He.ga K "Expression")))
    (c_has_even_rows : Kept P w K mg base CX0 1 "has_even_rows" ["table"] (spEven (He.ga K "Expression"))) {f : Addr} {fd : FuncData} (F : FnP K "role_of_list" s_role_of_list f fd) : FnOk P w K mg base CX0 3 f fd ["expression"] (spRole (He.ga K "Expression")) := by
  refine F.ok sc_role_of_list (fun vs H Q E h => ?_) (fun cdv A outer s H vs Q E hr h => ⟨_, PSs.nox (pss_cons (ps_set (i := 1) sc_role_of_list.nd rfl (Or.inl rfl) (pe_k c_rule_of hr (by omega) pass0 (pa_cons (pv 0) pa_nil))) (pss_cons (ps_if (pt_cmpR op_isN (pv 1) pe_non (nomark _)) (pss_one (ps_ret pe_str)) pss_nil) (pss_cons (ps_set (i := 2) sc_role_of_list.nd rfl (Or.inl rfl) (pe_callB call_len_seq (by rfl) T.nlen PySem.boot_len (pa_cons (pe_ix ix_tup (pv 1) pe_int (fun _ _ => rfl)) pa_nil))) (pss_cons (ps_set (i := 3) sc_role_of_list.nd rfl (Or.inl rfl) (pe_fld (pv 0) rfl)) (pss_cons (ps_if (pt_cmpR op_lt (pe_callB call_len_seq (by rfl) T.nlen PySem.boot_len (pa_cons (pv 3) pa_nil)) (pe_op op_add (pv 2) (pe_ix ix_tup (pv 1) pe_int (fun _ _ => rfl))) (nomark _)) (pss_one (ps_ret pe_str)) pss_nil) (pss_cons (ps_for PassesOwn.never rfl (pi_zipA (by rfl) T.nzip (pa_cons (pe_slice sl_tupA (pv 3) po_none (po_some (pv 2))) (pa_cons (pe_ix ix_tup (pv 1) pe_int (fun _ _ => rfl)) pa_nil))) (pg_tup (n := 2) rfl (pgs_cons (pg_name (i := 4) sc_role_of_list.nd rfl (Or.inl rfl)) (pgs_cons (pg_name (i := 5) sc_role_of_list.nd rfl (Or.inl rfl)) pgs_nil))) (pss_one (ps_if (pt_not (pt_val (pe_k c_has_form hr (by omega) pass0 (pa_cons (pv 4) (pa_cons (pv 5) pa_nil))))) (pss_one (ps_ret pe_str)) pss_nil))) (pss_cons (ps_for PassesOwn.never rfl (pi_tup (pe_slice sl_tupA (pv 3) (po_some (pv 2)) po_none)) (pg_name (i := 4) sc_role_of_list.nd rfl (Or.inl rfl)) (pss_one (ps_if (pt_not (pt_val (pe_k c_has_form hr (by omega) pass0 (pa_cons (pv 4) (pa_cons (pe_ix ix_tup (pv 1) pe_int (fun _ _ => rfl)) pa_nil))))) (pss_one (ps_ret pe_str)) pss_nil))) (pss_cons (ps_if (PW.pt (pw_and (pt_cmpR op_eq (pe_fld (pv 0) rfl) pe_str (nomark _)) (pw_and1 (pt_not (pt_val (pe_k c_has_even_rows hr (by omega) pass0 (pa_cons (pv 0) pa_nil))))))) (pss_one (ps_ret pe_str)) pss_nil) (pss_one (ps_ret (pe_ix ix_tup (pv 1) pe_int (fun _ _ => rfl)))))))))))), ?_⟩)
  · obtain ⟨a, pa, items, as, rfl, _⟩ := h
    rfl
  · obtain ⟨a, pa, items, as, rfl, ⟨dx, sh, tx, ro, pl, nu, de, ha, hp, hx⟩, h⟩ := h
    have las : as.length = items.length := hx.len
    have h0 := h H (Same.refl H)
    refine sq ⟨_, rfl, a, dx, pa, sh, tx, headL items, ro, pl, nu, de, as.map V.ref, rfl, ha, hp, fun e => ?_, fun r b e hb => ?_⟩
    · -- no rule
      rw [List.length_map, las] at e
      unfold roleL at h0
      rw [e] at h0
      exact sq ⟨_, rfl, rfl, true, rfl, iteT h0⟩
    · rw [List.length_map, las] at e
      obtain ⟨fb, hfb, hrule⟩ := hb
      unfold roleL at h h0
      rw [e] at h h0
      dsimp only at h h0
      refine sq ⟨_, rfl, rfl, false, rfl, iteF ?_⟩
      have kl : (r.2.1.map V.str).length = r.2.1.length := List.length_map ..
      have pl2 : (as.map V.ref).length = items.length := (List.length_map ..).trans las
      refine sq ⟨_, rfl, b, _, 1, _, rfl, rfl, hrule H, rfl, fb, _, rfl, .inr (hfb H), ?_⟩
      refine sq ⟨_, rfl, a, _, dx, _, _, rfl, ha, T.clE, eN_parts T, lk_parts, ?_⟩
      refine sq ⟨_, rfl, pa, _, rfl, .inr (SqT.of hp), _, rfl, _, rfl, b, _, 3, _, rfl, rfl, hrule H, rfl, _, _, rfl, rfl, _, _, rfl, rfl, _, rfl, ite2 (fun q => ?_) (fun q => ?_)⟩
      · have sh1 : items.length < r.2.1.length + r.2.2.2 := by
          have q2 := of_decide_eq_true q
          rw [pl2, kl] at q2
          omega
        rw [if_pos sh1] at h0
        exact h0
      have sh1 : ¬ items.length < r.2.1.length + r.2.2.2 := fun z => q (decide_eq_true (by rw [pl2, kl]; omega))
      rw [if_neg sh1] at h h0
      have k_le : r.2.1.length ≤ items.length := by omega
      refine nxt ?_
      dsimp only
      refine sq (for_zip_of (xs := (as.take r.2.1.length).map V.ref) (ys := r.2.1.map V.str) (by simp; omega) (fun R q => ?_)
        (fun i σ H' => Same H H' ∧ (∃ v1 v2, σ = [some (.ref a), some (.ref b), some (.int ((r.2.1.map V.str).length : Nat)), some (.ref pa), v1, v2]) ∧ ((((items.zip (rolesN items)).zip r.2.1)).take i).all (fun q => formOk q.1.1 q.1.2 q.2) = true) (fun H1 s1 => ⟨s1, ⟨none, none, rfl⟩, rfl⟩) ?_ ?_)
      · simp only [cxK, cxW, cxKn, cxWn, tRet, tRetN, tC, tVar, tOp, tUn, rI0, rI, rU, rEq, rNe, scal, tChain, tTest, tB, tIfS, tAnd, tOr, tNot, tAndV, tOrV, tNotV, tIf, tSeq, tNext, tAsg, gName, tDrop, tCons, tNil, tCall, tMeth, tCB, tBM, tBM0, L2.start, List.map_cons, List.map_nil, List.length_cons, List.length_nil, List.replicate, Nat.reduceAdd, Nat.reduceSub, List.cons_append, List.nil_append, List.append_nil, List.getElem?_cons_zero, List.getElem?_cons_succ, List.set_cons_zero, List.set_cons_succ, Option.some.injEq, exists_and_left, exists_and_right, exists_eq_left, exists_eq_left', exists_eq_right, exists_eq_right', exists_eq, exists_eq', V.int.injEq, V.str.injEq, V.ref.injEq, V.bl.injEq, List.cons.injEq, true_and, and_true, and_self, decide_eq_true_eq, exists_const, if_true, if_false, Bool.not_eq_true', decide_eq_false_iff_not, Bool.false_eq_true, reduceIte, Bool.not_true, Bool.not_false, tSl, tPart, tNoPart, rIxT]
        refine rSlA_of (SqT.of hp) fun p H1 s1 hq => ?_
        rw [cut_to, kl] at hq
        refine ⟨_, hrule H1, _, rfl, q H1 p fb s1 (by rw [List.map_take]; exact hq) (hfb H1)⟩
      · rintro H1 s1 i x y σ H' hx1 hy1 s2 ⟨H0, s0, sm0, ⟨v1, v2, rfl⟩, hall⟩
        obtain ⟨ca, hca, rfl⟩ := ref_at hx1
        have hca2 : as[i]? = some ca := by
          have lt : i < (as.take r.2.1.length).length := (List.getElem?_eq_some_iff.mp hca).1
          rw [List.getElem?_take] at hca
          split at hca
          · exact hca
          · cases hca
        obtain ⟨g, hg, rfl⟩ : ∃ g, r.2.1[i]? = some g ∧ y = V.str g := by
          rw [List.getElem?_map] at hy1
          cases e2 : r.2.1[i]? with
          | none => rw [e2] at hy1; cases hy1
          | some g => rw [e2] at hy1; exact ⟨g, rfl, (Option.some.inj hy1).symm⟩
        have sm : Same H H' := s1.trans s2
        obtain ⟨n, hn, hc⟩ := (hx.stay (Stay.of sm)).at hca2
        have hL : ((items.zip (rolesN items)).zip r.2.1)[i]? = some ((n, roleN n), g) := by
          rw [List.getElem?_zip_eq_some]
          exact ⟨zip_roles hn, hg⟩
        refine ⟨_, rfl, _, rfl, ca, n, g, rfl, hc, fun H2 s3 => ⟨_, rfl, ?_⟩⟩
        have sm2 := sm.trans s3
        cases fo : formOk n (roleN n) g with
        | false =>
          have := h H2 sm2
          rw [if_pos (all_false hL fo)] at this
          exact this
        | true => exact ⟨s2.trans s3, sm2, ⟨_, _, rfl⟩, all_more hL fo hall⟩
      · rintro σ H' _ ⟨sm, ⟨v1, v2, rfl⟩, hall⟩
        have e1 : ((as.take r.2.1.length).map V.ref).length = ((items.zip (rolesN items)).zip r.2.1).length := by
          rw [List.length_map, List.length_take, List.length_zip, zip_len]
          omega
        rw [e1, List.take_length] at hall
        rw [if_neg (by rw [hall]; decide)] at h
        dsimp only
        refine sq (for_tup_of (xs := (as.drop r.2.1.length).map V.ref) (fun R q => ?_)
          (fun i σ H' => Same H H' ∧ (∃ v1 v2, σ = [some (.ref a), some (.ref b), some (.int ((r.2.1.map V.str).length : Nat)), some (.ref pa), v1, v2]) ∧ ((((items.zip (rolesN items)).drop r.2.1.length)).take i).all (fun q => formOk q.1 q.2 r.2.2.1) = true) (fun H1 s1 => ⟨sm.trans s1, ⟨_, _, rfl⟩, rfl⟩) ?_ ?_)
        · simp only [cxK, cxW, cxKn, cxWn, tRet, tRetN, tC, tVar, tOp, tUn, rI0, rI, rU, rEq, rNe, scal, tChain, tTest, tB, tIfS, tAnd, tOr, tNot, tAndV, tOrV, tNotV, tIf, tSeq, tNext, tAsg, gName, tDrop, tCons, tNil, tCall, tMeth, tCB, tBM, tBM0, L2.start, List.map_cons, List.map_nil, List.length_cons, List.length_nil, List.replicate, Nat.reduceAdd, Nat.reduceSub, List.cons_append, List.nil_append, List.append_nil, List.getElem?_cons_zero, List.getElem?_cons_succ, List.set_cons_zero, List.set_cons_succ, Option.some.injEq, exists_and_left, exists_and_right, exists_eq_left, exists_eq_left', exists_eq_right, exists_eq_right', exists_eq, exists_eq', V.int.injEq, V.str.injEq, V.ref.injEq, V.bl.injEq, List.cons.injEq, true_and, and_true, and_self, decide_eq_true_eq, exists_const, if_true, if_false, Bool.not_eq_true', decide_eq_false_iff_not, Bool.false_eq_true, reduceIte, Bool.not_true, Bool.not_false, tSl, tPart, tNoPart]
          refine rSlA_of (SqT.of (sm _ _ hp)) fun p H1 s1 hq => ?_
          rw [cut_from, kl] at hq
          exact q H1 p s1 (by rw [List.map_drop]; exact hq)
        · rintro H1 s1 i x σ H2 hx1 s2 ⟨sm2, ⟨w1, w2, rfl⟩, hall2⟩
          obtain ⟨ca, hca, rfl⟩ := ref_at hx1
          obtain ⟨n, hn, hc⟩ := ((hx.drop r.2.1.length).stay (Stay.of sm2)).at hca
          have hn2 : items[r.2.1.length + i]? = some n := by rw [← List.getElem?_drop]; exact hn
          have hL : ((items.zip (rolesN items)).drop r.2.1.length)[i]? = some (n, roleN n) := by
            rw [List.getElem?_drop]
            exact zip_roles hn2
          refine ⟨_, rfl, _, rfl, b, _, 2, _, rfl, rfl, hrule H2, rfl, ca, n, r.2.2.1, rfl, hc, fun H3 s3 => ⟨_, rfl, ?_⟩⟩
          have sm3 := sm2.trans s3
          cases fo : formOk n (roleN n) r.2.2.1 with
          | false =>
            have := h H3 sm3
            rw [if_pos (all_false hL fo)] at this
            exact this
          | true => exact ⟨s2.trans s3, sm3, ⟨_, _, rfl⟩, all_more hL fo hall2⟩
        · rintro σ H2 _ ⟨sm2, ⟨w1, w2, rfl⟩, hall2⟩
          have e2 : ((as.drop r.2.1.length).map V.ref).length = ((items.zip (rolesN items)).drop r.2.1.length).length := by
            rw [List.length_map, List.length_drop, List.length_drop, zip_len]
            omega
          rw [e2, List.take_length] at hall2
          rw [if_neg (by rw [hall2]; decide)] at h
          have ha2 := sm2 _ _ ha
          have last : ∀ H3, Same H H3 → (if headL items = "table" ∧ evenRows items = false then ("" : Str) else r.1) = r.1 → Q (.str r.1) H3 := fun H3 s3 q => by
            have := h H3 s3
            rw [q] at this
            exact this
          simp only [cxK, cxW, cxKn, cxWn, tRet, tRetN, tC, tVar, tOp, tUn, rI0, rI, rU, rEq, rNe, scal, tChain, tTest, tB, tIfS, tAnd, tOr, tNot, tAndV, tOrV, tNotV, tIf, tSeq, tNext, tAsg, gName, tDrop, tCons, tNil, tCall, tMeth, tCB, tBM, tBM0, L2.start, List.map_cons, List.map_nil, List.length_cons, List.length_nil, List.replicate, Nat.reduceAdd, Nat.reduceSub, List.cons_append, List.nil_append, List.append_nil, List.getElem?_cons_zero, List.getElem?_cons_succ, List.set_cons_zero, List.set_cons_succ, Option.some.injEq, exists_and_left, exists_and_right, exists_eq_left, exists_eq_left', exists_eq_right, exists_eq_right', exists_eq, exists_eq', V.int.injEq, V.str.injEq, V.ref.injEq, V.bl.injEq, List.cons.injEq, true_and, and_true, and_self, decide_eq_true_eq, exists_const, if_true, if_false, Bool.not_eq_true', decide_eq_false_iff_not, Bool.false_eq_true, reduceIte, Bool.not_true, Bool.not_false, tFld, T.clE, eN_shape T, eN_place T, eN_text T, eN_number T, eN_parts T, eN_head T, eN_depth T, eN_role T, lk_shape, lk_place, lk_text, lk_number, lk_parts, lk_head, lk_depth, lk_role, HO.ins.injEq, and_assoc, ha2, rIxT]
          by_cases ht : headL items = "table"
          · rw [if_pos ht]
            refine ⟨a, pa, items, as, rfl, ⟨dx, sh, tx, ro, pl, nu, de, ha2, sm2 _ _ hp, hx.stay (Stay.of sm2)⟩, table_len ht e sh1, fun H3 s3 => ⟨_, rfl, ?_⟩⟩
            have := h H3 (sm2.trans s3)
            cases ev : evenRows items with
            | false =>
              rw [if_pos ⟨ht, ev⟩] at this
              exact this
            | true =>
              rw [if_neg (fun q => by rw [ev] at q; cases q.2)] at this
              exact ⟨_, hrule H3, _, rfl, this⟩
          · rw [if_neg ht]
            have := h H2 sm2
            rw [if_neg (fun q => ht q.1)] at this
            exact ⟨_, hrule H2, _, rfl, this⟩
end
end Ck
namespace Ck
open PySem PySem.Spec PyProof.Rows L2 RZ
open Kh450 (Node)
def spMkList (C : Addr) : Sp := fun vs H Q _ => ∃ (l : Addr) (items : List Node) (as : List Addr) (p : Nat), vs = [.ref l, .int p] ∧ H l = some (.lst (as.map V.ref)) ∧ ExsAt C H items as ∧ items.length ≤ 1000 ∧
  ∀ H' a, Same H H' → H a = none → ExAt C H' (.list p items) a → Q (.ref a) H'
theorem depths_max : ∀ (l : List Node) (d : Nat), ((l.map fun n => ((depthN n : Nat) : Int)).foldl max (d : Int)) = ((max d (depthsN l) : Nat) : Int)
  | [], d => by simp [depthsN]
  | n :: r, d => by
    rw [List.map_cons, List.foldl_cons]
    have e : max (d : Int) (depthN n : Int) = ((max d (depthN n) : Nat) : Int) := by omega
    rw [e, depths_max r, depthsN]
    congr 1
    omega
theorem ExsAt.depths {C : Addr} {H : Hp} {l : List Node} {as : List Addr} (h : ExsAt C H l as) {i : Nat} {a : Addr} (e : as[i]? = some a) : ∃ n dx pa, l[i]? = some n ∧ H a = some (.ins C dx (nodeF n pa)) := by
  obtain ⟨n, hn, q⟩ := h.at e
  obtain ⟨dx, pa, as', h1, _⟩ := q.any
  exact ⟨n, dx, pa, hn, h1⟩
section
variable {P : Program} {w : World} {K : PySem.W.Frag} {mg : Str → Option Value} {base : Heap}
theorem mk_tail (T : Txt w K mg) {C : Addr} (hC : C = He.ga K "Expression") {Q : VK} {D : Ends} (hD : D.rt = Q) {H H5 : Hp} {l x dx q : Addr} {p : Nat} {v : Option V} {items : List Node} {as : List Addr} (hx : ExsAt C H items as) (nx : H x = none) (s5 : Same H H5)
    (h5 : H5 x = some (.ins C dx (exF "list" p "" 0 q (headL items) ((depthN (.list p items) : Nat) : Int) ""))) (h6 : H5 q = some (.tup (as.map V.ref))) (h : ∀ H' a, Same H H' → H a = none → ExAt C H' (.list p items) a → Q (.ref a) H') :
    tSeq (sFld K (tVar 2) (tCall (spRole C) [] E0 (tCons (tVar 2) tNil)) "role") (tRet (tVar 2)) D [some (.ref l), some (.int p), some (.ref x), v] H5 := by
  subst hC
  refine sq ⟨_, rfl, x, q, items, as, rfl, ⟨dx, _, _, _, _, _, _, h5, h6, hx.stay (Stay.of s5)⟩, fun H6 s6 => ?_⟩
  refine ⟨_, rfl, x, _, dx, _, rfl, s6 _ _ h5, T.clE, T.e, (by show 10 < 1000; decide), _, rfl, ?_⟩
  rw [hD, put_role]
  have sm : Same H (upd H6 x (.ins (He.ga K "Expression") dx (exF "list" p "" 0 q (headL items) ((depthN (.list p items) : Nat) : Int) (roleL items (rolesN items))))) := fun b o e => by
    rw [upd_ne (ne_of_none e nx)]
    exact s6 _ _ (s5 _ _ e)
  refine h _ x sm nx ?_
  rw [ExAt]
  refine ⟨dx, q, as, upd_same.trans ?_, ?_, hx.stay (Stay.of sm)⟩
  · rw [nodeF, roleN]
    rfl
  · rw [upd_ne (fun e => by rw [e, h5] at h6; cases h6)]
    exact s6 _ _ h6
abbrev s_make_list : Stmt := top 19
theorem sc_make_list : FnScope ["parts", "place", "expression", "part"] ["parts", "place"] (defScope s_make_list) := ⟨rfl, rfl, rfl, by decide +kernel, rfl, by decide +kernel, by decide +kernel⟩
theorem ok_make_list (T : Txt w K mg) (c_Expression : KeptC P w K mg base CX0 1 "Expression" ["self", "shape", "place"] (spInitE (He.ga K "Expression"))) (c_role_of_list : Kept P w K mg base CX0 3 "role_of_list" ["expression"] (spRole (He.ga K "Expression")))
    {f : Addr} {fd : FuncData} {dv : List V} (F : FunD K "make_list" "make_list" (defArgs s_make_list) (defBody s_make_list) (defScope s_make_list) dv [] f fd) :
    FnOk P w K mg base CX0 4 f fd ["parts", "place"] (spMkList (He.ga K "Expression")) := by
  refine F.ok sc_make_list (fun vs H Q E h => ?_) (fun cdv A outer s H vs Q E hr h => ⟨_, PSs.nox (pss_cons (ps_set (i := 2) sc_make_list.nd rfl (Or.inl rfl) (pe_kmk c_Expression hr (by omega) pass0 (pa_cons pe_str (pa_cons (pv 1) pa_nil)))) (pss_cons (ps_fld (pv 2) (pe_tupleOf rfl T.ntuple (pv 0)) rfl) (pss_cons (ps_fld (pv 2) (pe_op op_add pe_int (pe_maxD rfl T.nmax (pe_lc (te := tFld K (tVar 3) "depth") (own := [("part", 3)]) (g := gName 3) (tt := tYes) rfl sc_make_list.nd (pi_list (pv 0)) (blkOk_by (N := ["parts", "place", "expression", "part"]) (sc := defScope s_make_list) (by decide +kernel)) (fun _ _ _ _ _ => pg_name (i := 3) sc_make_list.nd rfl (Or.inl rfl)) (fun _ _ _ _ _ => pts_nil) (fun _ _ _ _ _ => (pe_fld (pv 3) rfl))))) rfl) (pss_cons (ps_if (PW.pt (pw_and (pt_truth (pv 0) (by intro _; rfl)) (pw_and1 (pt_cmpR op_eq (pe_fld (pe_ix ix_list (pv 0) pe_int (fun _ _ => rfl)) rfl) pe_str (nomark _))))) (pss_one (ps_fld (pv 2) (pe_fld (pe_ix ix_list (pv 0) pe_int (fun _ _ => rfl)) rfl) rfl)) pss_nil) (pss_cons (ps_fld (pv 2) (pe_k c_role_of_list hr (by omega) pass0 (pa_cons (pv 2) pa_nil)) rfl) (pss_one (ps_ret (pv 2)))))))), ?_⟩)
  · obtain ⟨l, items, as, p, rfl, _⟩ := h
    rfl
  · obtain ⟨l, items, as, p, rfl, hl, hx, hz, h⟩ := h
    have las : as.length = items.length := hx.len
    refine sq ⟨_, rfl, fun x dx nx nd ne => ?_⟩
    refine ⟨x, dx, _, _, rfl, upd_same, fun H1 pa0 hpa h1 h2 kp => ⟨rfl, ?_⟩⟩
    have s1 : Same H H1 := Same.made nx nd kp
    have lx : l ≠ x := ne_of_none hl nx
    -- parts
    refine sq ⟨_, rfl, .inl ⟨l, _, rfl, SqL.of (s1 _ _ hl), fun q hq => ?_⟩⟩
    have qx : x ≠ q := ne_of_none h1 hq
    refine ⟨_, rfl, x, _, dx, _, rfl, (upd_ne qx).trans h1, T.clE, T.e, (by show 10 < 1000; decide), ?_⟩
    rw [put_parts]
    -- what has been made so far
    have st : ∀ o, Stay H (upd (upd H1 q (.tup (as.map V.ref))) x o) := fun o b u e _ => by
      rw [upd_ne (ne_of_none e nx), upd_ne (ne_of_none (s1 _ _ e) hq)]
      exact s1 _ _ e
    have sm : ∀ o, Same H (upd (upd H1 q (.tup (as.map V.ref))) x o) := fun o b u e => by
      rw [upd_ne (ne_of_none e nx), upd_ne (ne_of_none (s1 _ _ e) hq)]
      exact s1 _ _ e
    -- depth
    have hl3 : ∀ o, upd (upd H1 q (.tup (as.map V.ref))) x o l = some (.lst (as.map V.ref)) := fun o => sm o _ _ hl
    dsimp only
    refine sq ⟨_, rfl, l, rfl, ⟨_, SqL.of (hl3 _)⟩, fun D hD => ?_⟩
    refine lc_list (K := K) (a := l) (xs := as.map V.ref) (fun i H' => Same (upd (upd H1 q (.tup (as.map V.ref))) x (.ins (He.ga K "Expression") dx (exF "list" p "" 0 q "" 0 ""))) H' ∧ H' D = some (.lst ((items.take i).map fun n => V.int ((depthN n : Nat) : Int)))) ⟨Same.new hD, upd_same⟩ (fun i H' _ z => z.1.seq (SqL.of (hl3 _))) ?_ ?_
    · rintro i y H' hi ⟨s2, hd⟩
      obtain ⟨ca, hca, rfl⟩ := ref_at hi
      obtain ⟨n, cdx, cpa, hn, hc⟩ := (hx.stay (fun b o e z => s2 _ _ (sm _ _ _ e))).depths hca
      have lt : i < items.length := (List.getElem?_eq_some_iff.mp hn).1
      refine ⟨rfl, _, rfl, ca, _, cdx, _, _, rfl, hc, T.clE, eN_depth T, lk_depth, ?_⟩
      refine ⟨_, hd, ?_, fun b o e => ?_, ?_⟩
      · rw [List.length_map, List.length_take, sizeLine_eq]
        omega
      · rw [upd_ne (ne_of_none e hD)]
        exact s2 b o e
      · rw [upd_same, List.take_add_one, hn]
        simp
    · rintro H3 ⟨s2, hd⟩
      rw [List.length_map, las, List.take_length] at hd
      refine ⟨D, items.map fun n => ((depthN n : Nat) : Int), 0, rfl, rfl, SqL.of (by rw [hd, List.map_map]; rfl), fun m hm => ?_⟩
      have em := maxD_fold hm (by intro y hy; obtain ⟨n, _, rfl⟩ := List.mem_map.mp hy; omega)
      have e0 := depths_max items 0
      have em2 : m = ((depthsN items : Nat) : Int) := by
        rw [em]
        have : ((0 : Nat) : Int) = 0 := rfl
        rw [this] at e0
        rw [e0]
        congr 1
        first | done | omega
      have hx3 := s2 _ _ upd_same
      refine ⟨1, m, rfl, rfl, _, rfl, x, _, dx, _, rfl, hx3, T.clE, T.e, (by show 10 < 1000; decide), ?_⟩
      rw [put_depth]
      have dep : (1 : Int) + m = ((depthN (.list p items) : Nat) : Int) := by
        rw [em2, depthN]
        omega
      rw [dep]
      have qx2 : q ≠ x := qx.symm
      have s3 : ∀ o, Same H (upd H3 x o) := fun o b u e => by
        rw [upd_ne (ne_of_none e nx)]
        exact s2 _ _ (sm _ _ _ e)
      have hq3 : ∀ o, upd H3 x o q = some (.tup (as.map V.ref)) := fun o => by
        rw [upd_ne qx2]
        refine s2 _ _ ?_
        rw [upd_ne qx2, upd_same]
      dsimp only
      refine sq ?_
      -- the head
      cases items with
      | nil =>
        have e : as = [] := by rw [ExsAt] at hx; exact hx
        subst e
        refine ⟨_, rfl, false, .inl ⟨_, SqL.of (s3 _ _ _ hl), rfl⟩, iteF (iteF ?_)⟩
        exact mk_tail T rfl rfl hx nx (s3 _) upd_same (hq3 _) h
      | cons n0 r =>
        obtain ⟨a0, as', rfl, h0, hr0⟩ := (by rw [ExsAt] at hx; exact hx : ∃ a as', as = a :: as' ∧ ExAt (He.ga K "Expression") H n0 a ∧ ExsAt (He.ga K "Expression") H r as')
        obtain ⟨dx0, pa1, as0, g1, g2, g3, _⟩ := (h0.stay (Stay.of (s3 _))).any
        refine ⟨_, rfl, true, .inl ⟨_, SqL.of (s3 _ _ _ hl), rfl⟩, iteT ?_⟩
        refine ⟨_, rfl, l, _, 0, _, rfl, rfl, SqL.of (s3 _ _ _ hl), atI_nat (j := 0) rfl, a0, _, dx0, _, _, rfl, g1, T.clE, eN_shape T, lk_shape, rfl, _, rfl, ite2 (fun z => ?_) (fun z => ?_)⟩
        · have z2 := of_decide_eq_true z
          have sy : shapeN n0 = "symbol" := V.str.inj z2
          refine ⟨_, rfl, l, _, 0, _, rfl, rfl, SqL.of (s3 _ _ _ hl), atI_nat (j := 0) rfl, a0, _, dx0, _, _, rfl, g1, T.clE, eN_text T, lk_text, _, rfl, x, _, dx, _, rfl, upd_same, T.clE, T.e, (by show 10 < 1000; decide), ?_⟩
          rw [put_head, upd_upd]
          have eh : textN n0 = headL (n0 :: r) := by
            cases n0 with
            | symbol p s => rfl
            | integer p v => exact absurd (show ("integer" : Str) = "symbol" from sy) (by decide +kernel)
            | string p t => exact absurd (show ("string" : Str) = "symbol" from sy) (by decide +kernel)
            | list p l => exact absurd (show ("list" : Str) = "symbol" from sy) (by decide +kernel)
          rw [eh]
          exact mk_tail T rfl rfl hx nx (s3 _) upd_same (hq3 _) h
        · have eh : headL (n0 :: r) = "" := by
            cases n0 with
            | symbol p s => exact absurd (decide_eq_true rfl) z
            | integer p v => rfl
            | string p t => rfl
            | list p l => rfl
          have t := mk_tail (v := none) T (l := l) (p := p) rfl (D := ⟨fun _ H' => Q .non H', Q, fun _ _ => False, fun _ _ => False⟩) rfl hx nx (s3 (.ins (He.ga K "Expression") dx (exF "list" p "" 0 q "" ((depthN (.list p (n0 :: r)) : Nat) : Int) ""))) (by rw [eh]; exact upd_same) (hq3 _) h
          exact t
end
end Ck
namespace Ck
open PySem PySem.Spec PyProof.Rows L2 RZ
open Kh450 (Node)
/-- all but the object at r -/
def Only (r : Addr) (H H' : Hp) : Prop := ∀ b o, H b = some o → b ≠ r → H' b = some o
theorem Only.refl {r : Addr} {H : Hp} : Only r H H := fun _ _ h _ => h
theorem Only.trans {r : Addr} {H H1 H2 : Hp} (a : Only r H H1) (b : Only r H1 H2) : Only r H H2 := fun c o h n => b c o (a c o h n) n
theorem Only.upd {r : Addr} {H H1 : Hp} {o : HO} (a : Only r H H1) : Only r H (L2.upd H1 r o) := fun b u h n => by rw [upd_ne n]; exact a b u h n
theorem Only.same {r : Addr} {H H1 : Hp} (s : Same H H1) : Only r H H1 := fun b u h _ => s b u h
theorem Only.seq {K : PySem.W.Frag} {r C dx a : Addr} {fs : List (Str × V)} {H H' : Hp} {xs : List V} (e : Only r H H') (hr : H r = some (.ins C dx fs)) (h : SqL K H a xs) : SqL K H' a xs := by
  rcases h with (h | ⟨o, h⟩) | h
  · exact .inl (.inl (e _ _ h (fun z => by rw [z, hr] at h; cases h)))
  · exact .inl (.inr ⟨o, e _ _ h (fun z => by rw [z, hr] at h; cases h)⟩)
  · exact .inr h
theorem Only.stay {r C dx : Addr} {fs : List (Str × V)} {H H' : Hp} (e : Only r H H') (hr : H r = some (.ins C dx fs)) (hl : fs.length ≠ 10) : Stay H H' := fun b o h s => e b o h (fun z => by
  rw [z, hr] at h
  cases h
  exact hl (by simpa [solid] using s))
theorem int_eq {n c : Nat} : (V.int (n : Int) = V.int (c : Int)) ↔ n = c := by
  constructor
  · intro q
    have := V.int.inj q
    omega
  · intro q
    rw [q]
theorem rF_none {da : Addr} {i : Int} {f : Str} (h1 : (f == ("data" : Str)) = false := by decide +kernel) (h2 : (f == ("at" : Str)) = false := by decide +kernel) : (rF da i).lookup f = none := (lk2 h1).trans ((lk2 h2).trans rfl)
theorem rF_len {da : Addr} {i : Int} : (rF da i).length = 2 := rfl
theorem wh_of {c : TT} {tb : TS} {D : Ends} {σ : L2.St} {H : Hp} (Pv : Nat → L2.St → Hp → Prop) (m0 : Nat) (h0 : Pv m0 σ H)
    (hs : ∀ m σ H, Pv m σ H → c σ H fun b H1 => if b = true then ∃ N : L2.St → Hp → Prop, (∀ σ' H', N σ' H' → ∃ m', m' < m ∧ Pv m' σ' H') ∧ tb { D with nx := N, ct := N, bk := D.nx } σ H1 else D.nx σ H1) : tWhile c tb D σ H := ⟨Pv, ⟨m0, h0⟩, hs⟩
/-- a reader at r, at place i of the bytes bs -/
def RdAt (K : PySem.W.Frag) (H : Hp) (r dx da : Addr) (bs : List Nat) (i : Nat) : Prop := H r = some (.ins (He.ga K "Reader") dx (rF da (i : Int))) ∧ SqL K H da (vI bs) ∧ i ≤ bs.length
def spSkipC (K : PySem.W.Frag) : Sp := fun vs H Q _ => ∃ (r dx da : Addr) (bs : List Nat) (i : Nat), vs = [.ref r] ∧ RdAt K H r dx da bs i ∧
  ∀ H' j, RdAt K H' r dx da bs j → Only r H H' → i ≤ j → (∀ h : i < bs.length, bs[i] = 59 → i < j) → Kh450.skipSpace false (bs.drop j) = Kh450.skipSpace true (bs.drop i) → Q .non H'
def spSkipW (K : PySem.W.Frag) : Sp := fun vs H Q _ => ∃ (r dx da : Addr) (bs : List Nat) (i : Nat), vs = [.ref r] ∧ RdAt K H r dx da bs i ∧
  ∀ H' j, RdAt K H' r dx da bs j → Only r H H' → i ≤ j → bs.drop j = Kh450.skipSpace false (bs.drop i) → Q .non H'
theorem drop_at {bs : List Nat} {i : Nat} (h : i < bs.length) : bs.drop i = bs[i] :: bs.drop (i + 1) := List.drop_eq_getElem_cons h
section
variable {P : Program} {w : World} {K : PySem.W.Frag} {mg : Str → Option Value} {base : Heap}
theorem RdAt.step {H : Hp} {r dx da : Addr} {bs : List Nat} {i j : Nat} (h : RdAt K H r dx da bs i) (hj : j ≤ bs.length) : RdAt K (upd H r (.ins (He.ga K "Reader") dx (rF da (j : Int)))) r dx da bs j :=
  ⟨upd_same, (Only.upd Only.refl).seq h.1 h.2.1, hj⟩
abbrev s_Reader_skip_comment : Stmt := inClass (top 38) 2
theorem sc_Reader_skip_comment : FnScope ["self"] ["self"] (defScope s_Reader_skip_comment) := ⟨rfl, rfl, rfl, by decide +kernel, rfl, by decide +kernel, by decide +kernel⟩
theorem ok_skip_comment (T : Txt w K mg) {f : Addr} {fd : FuncData} (F : FunD K "skip_comment" "Reader.skip_comment" (defArgs s_Reader_skip_comment) (defBody s_Reader_skip_comment) (defScope s_Reader_skip_comment) [] [] f fd) : FnOk P w K mg base CX0 1 f fd ["self"] (spSkipC K) := by
  refine F.ok sc_Reader_skip_comment (fun vs H Q E h => ?_) (fun cdv A outer s H vs Q E hr h => ⟨_, PSs.nox (pss_one (ps_while PassesOwn.never (PW.pt (pw_and (pt_cmpR op_lt (pe_fld (pv 0) rfl) (pe_callB call_len_seq (by rfl) T.nlen PySem.boot_len (pa_cons (pe_fld (pv 0) rfl) pa_nil)) (nomark _)) (pw_and1 (pt_cmpR op_ne (pe_ix ix_list (pe_fld (pv 0) rfl) (pe_fld (pv 0) rfl) (fun _ _ => rfl)) (C8.pe_gc rfl T.cLINE_FEED) (nomark _))))) (pss_one (ps_fldaug (pv 0) pe_int in_add)))), ?_⟩)
  · obtain ⟨r, dx, da, bs, i, rfl, _⟩ := h
    rfl
  · obtain ⟨r, dx, da, bs, i, rfl, hR, h⟩ := h
    refine wh_of (fun m σ H' => ∃ j, m = bs.length - j ∧ σ = [some (.ref r)] ∧ RdAt K H' r dx da bs j ∧ Only r H H' ∧ i ≤ j ∧ (i = j ∨ ∀ h : i < bs.length, bs[i] = 59 → i < j) ∧ Kh450.skipSpace true (bs.drop j) = Kh450.skipSpace true (bs.drop i)) (bs.length - i) ⟨i, rfl, rfl, hR, Only.refl, Nat.le_refl _, .inl rfl, rfl⟩ ?_
    rintro m σ H' ⟨j, rfl, rfl, hR', on, hij, hgo, hsk⟩
    obtain ⟨h1, h2, h3⟩ := hR'
    simp only [cxK, cxW, cxKn, cxWn, tRet, tRetN, tC, tVar, tOp, tUn, rI0, rI, rU, rEq, rNe, scal, tChain, tTest, tB, tIfS, tAnd, tOr, tNot, tAndV, tOrV, tNotV, tIf, tSeq, tNext, tAsg, gName, tDrop, tCons, tNil, tCall, tMeth, tCB, tBM, tBM0, L2.start, List.map_cons, List.map_nil, List.length_cons, List.length_nil, List.replicate, Nat.reduceAdd, Nat.reduceSub, List.cons_append, List.nil_append, List.append_nil, List.getElem?_cons_zero, List.getElem?_cons_succ, List.set_cons_zero, List.set_cons_succ, Option.some.injEq, exists_and_left, exists_and_right, exists_eq_left, exists_eq_left', exists_eq_right, exists_eq_right', exists_eq, exists_eq', V.int.injEq, V.str.injEq, V.ref.injEq, V.bl.injEq, List.cons.injEq, true_and, and_true, and_self, decide_eq_true_eq, exists_const, if_true, if_false, Bool.not_eq_true', decide_eq_false_iff_not, Bool.false_eq_true, reduceIte, Bool.not_true, Bool.not_false, tFld, sFldAug, sFld, L2.rAdd, put_at, rF_len, T.clR, rN_data T, rN_at T, lk_data, lk_at, HO.ins.injEq, and_assoc, h1, rIxL]
    refine ⟨_, .inl h2, ?_⟩
    rw [vI_len]
    by_cases lt : j < bs.length
    · rw [if_pos (by omega)]
      refine ⟨_, h2, _, vI_at lt, ?_⟩
      refine ⟨rfl, ?_⟩
      have e10 : (V.int (bs[j] : Nat) = V.int 10) ↔ bs[j] = 10 := int_eq
      by_cases e : bs[j] = 10
      · rw [if_neg (fun q => q (e10.mpr e))]
        refine h H' j ⟨h1, h2, h3⟩ on hij ?_ ?_
        · rcases hgo with q | q
          · subst q
            intro z q2
            omega
          · exact q
        · rw [← hsk, drop_at lt, e]
          rfl
      · rw [if_pos (fun q => e (e10.mp q))]
        refine ⟨_, fun _ _ z => z, by decide, bs.length - (j + 1), by omega, j + 1, rfl, rfl, RdAt.step ⟨h1, h2, h3⟩ lt, on.upd, by omega, .inr (fun _ _ => by omega), ?_⟩
        rw [← hsk, drop_at lt]
        show _ = Kh450.skipSpace (bs[j] != 10) (bs.drop (j + 1))
        have q : (bs[j] != 10) = true := by simpa using e
        rw [q]
    · rw [if_neg (by omega)]
      have ej : j = bs.length := by omega
      refine h H' j ⟨h1, h2, h3⟩ on hij ?_ ?_
      · rcases hgo with q | q
        · subst q
          intro z q2
          omega
        · exact q
      · rw [← hsk, ej, List.drop_length]
        rfl
abbrev s_Reader_skip_white_space : Stmt := inClass (top 38) 1
theorem sc_Reader_skip_white_space : FnScope ["self"] ["self"] (defScope s_Reader_skip_white_space) := ⟨rfl, rfl, rfl, by decide +kernel, rfl, by decide +kernel, by decide +kernel⟩
theorem ok_skip_white_space (T : Txt w K mg) (c_Reader_skip_comment : KeptM P w K mg base CX0 1 "Reader" "skip_comment" ["self"] (spSkipC K)) {f : Addr} {fd : FuncData} (F : FunD K "skip_white_space" "Reader.skip_white_space" (defArgs s_Reader_skip_white_space) (defBody s_Reader_skip_white_space) (defScope s_Reader_skip_white_space) [] [] f fd) : FnOk P w K mg base CX0 2 f fd ["self"] (spSkipW K) := by
  refine F.ok sc_Reader_skip_white_space (fun vs H Q E h => ?_) (fun cdv A outer s H vs Q E hr h => ⟨_, PSs.nox (pss_one (ps_while PassesOwn.never (pt_cmpR op_lt (pe_fld (pv 0) rfl) (pe_callB call_len_seq (by rfl) T.nlen PySem.boot_len (pa_cons (pe_fld (pv 0) rfl) pa_nil)) (nomark _)) (pss_one (ps_if (pt_cmpR op_eq (pe_ix ix_list (pe_fld (pv 0) rfl) (pe_fld (pv 0) rfl) (fun _ _ => rfl)) (C8.pe_gc rfl T.cSEMICOLON) (nomark _)) (pss_one (ps_expr (pe_km0 c_Reader_skip_comment hr (by omega) pass0 (pv 0)))) (pss_one (ps_if (pt_cmpR op_in_seq (pe_ix ix_list (pe_fld (pv 0) rfl) (pe_fld (pv 0) rfl) (fun _ _ => rfl)) (pe_gref T.gWHITE_SPACE) (by with_unfolding_all rfl)) (pss_one (ps_fldaug (pv 0) pe_int in_add)) (pss_one ps_retN))))))), ?_⟩)
  · obtain ⟨r, dx, da, bs, i, rfl, _⟩ := h
    rfl
  · obtain ⟨r, dx, da, bs, i, rfl, hR, h⟩ := h
    refine wh_of (fun m σ H' => ∃ j, m = bs.length - j ∧ σ = [some (.ref r)] ∧ RdAt K H' r dx da bs j ∧ Only r H H' ∧ i ≤ j ∧ Kh450.skipSpace false (bs.drop j) = Kh450.skipSpace false (bs.drop i)) (bs.length - i) ⟨i, rfl, rfl, hR, Only.refl, Nat.le_refl _, rfl⟩ ?_
    rintro m σ H' ⟨j, rfl, rfl, hR', on, hij, hsk⟩
    obtain ⟨h1, h2, h3⟩ := hR'
    simp only [cxK, cxW, cxKn, cxWn, tRet, tRetN, tC, tVar, tOp, tUn, rI0, rI, rU, rEq, rNe, scal, tChain, tTest, tB, tIfS, tAnd, tOr, tNot, tAndV, tOrV, tNotV, tIf, tSeq, tNext, tAsg, gName, tDrop, tCons, tNil, tCall, tMeth, tCB, tBM, tBM0, L2.start, List.map_cons, List.map_nil, List.length_cons, List.length_nil, List.replicate, Nat.reduceAdd, Nat.reduceSub, List.cons_append, List.nil_append, List.append_nil, List.getElem?_cons_zero, List.getElem?_cons_succ, List.set_cons_zero, List.set_cons_succ, Option.some.injEq, exists_and_left, exists_and_right, exists_eq_left, exists_eq_left', exists_eq_right, exists_eq_right', exists_eq, exists_eq', V.int.injEq, V.str.injEq, V.ref.injEq, V.bl.injEq, List.cons.injEq, true_and, and_true, and_self, decide_eq_true_eq, exists_const, if_true, if_false, Bool.not_eq_true', decide_eq_false_iff_not, Bool.false_eq_true, reduceIte, Bool.not_true, Bool.not_false, tFld, sFldAug, sFld, L2.rAdd, put_at, rF_len, T.clR, rN_data T, rN_at T, lk_data, lk_at, HO.ins.injEq, and_assoc, h1, rIxL, rIn]
    refine ⟨_, .inl h2, ?_⟩
    rw [vI_len]
    by_cases lt : j < bs.length
    · rw [if_pos (by omega)]
      have e59 : (V.int (bs[j] : Nat) = V.int 59) ↔ bs[j] = 59 := int_eq
      refine ⟨_, fun _ _ z => z, _, h2, _, vI_at lt, rfl, ?_⟩
      by_cases e : bs[j] = 59
      · rw [if_pos (e59.mpr e)]
        refine ⟨rF_none, r, dx, da, bs, j, rfl, ⟨h1, h2, h3⟩, fun H2 j2 hR2 on2 h4 h5 h6 => ?_⟩
        have lt2 := h5 lt e
        refine ⟨bs.length - j2, by omega, j2, rfl, rfl, hR2, on.trans on2, by omega, ?_⟩
        rw [h6, ← hsk, drop_at lt, e]
        rfl
      · rw [if_neg (fun q => e (e59.mp q))]
        refine ⟨_, h2, _, vI_at lt, _, .inr (T.tWHITE_SPACE H'), by first | rfl | trivial, by first | rfl | trivial, ?_⟩
        have ws : inV (V.int (bs[j] : Nat)) [.int 32, .int 9, .int 10, .int 13] = Kh450.isSpace bs[j] := by
          have q : ∀ c : Nat, ((c : Int) == (bs[j] : Int)) = (bs[j] == c) := fun c => by
            rw [Bool.eq_iff_iff, beq_iff_eq, beq_iff_eq]
            omega
          show (eqV (.int 32) (.int (bs[j] : Nat)) || (eqV (.int 9) (.int (bs[j] : Nat)) || (eqV (.int 10) (.int (bs[j] : Nat)) || (eqV (.int 13) (.int (bs[j] : Nat)) || false)))) = _
          show (((32 : Nat) : Int) == (bs[j] : Int) || (((9 : Nat) : Int) == (bs[j] : Int) || (((10 : Nat) : Int) == (bs[j] : Int) || (((13 : Nat) : Int) == (bs[j] : Int) || false)))) = _
          rw [q, q, q, q, Bool.or_false]
          unfold Kh450.isSpace
          simp only [Bool.or_assoc]
        rw [ws]
        cases sp : Kh450.isSpace bs[j] with
        | true =>
          refine iteT ⟨by decide, bs.length - (j + 1), by omega, j + 1, rfl, rfl, RdAt.step ⟨h1, h2, h3⟩ lt, on.upd, by omega, ?_⟩
          rw [← hsk, drop_at lt]
          show _ = (if Kh450.isSpace bs[j] then Kh450.skipSpace false (bs.drop (j + 1)) else _)
          rw [if_pos sp]
        | false =>
          refine iteF (h H' j ⟨h1, h2, h3⟩ on hij ?_)
          rw [← hsk, drop_at lt]
          show _ = (if Kh450.isSpace bs[j] then _ else if bs[j] = 59 then _ else bs[j] :: bs.drop (j + 1))
          rw [if_neg (by rw [sp]; decide), if_neg e]
    · rw [if_neg (by omega)]
      have ej : j = bs.length := by omega
      refine h H' j ⟨h1, h2, h3⟩ on hij ?_
      rw [← hsk, ej, List.drop_length]
      rfl
end
end Ck
namespace Ck
open PySem PySem.Spec PyProof.Rows L2 RZ
open Kh450 (Node)
/-- what is raised: a Fault of this kind and place -/
def FaultE (K : PySem.W.Frag) (E : XK) (k p : Nat) : Prop := ∀ (H' : Hp) (d : Addr), H' d = some (.xd (faultF (.int (k : Int)) (.int (p : Int)))) → E (.ref (He.ga K "Fault")) (some d) H'
theorem Only.exAt {C CR r dx : Addr} {fs : List (Str × V)} {H H' : Hp} {n : Node} {a : Addr} (e : Only r H H') (hr : H r = some (.ins CR dx fs)) (hl : fs.length ≠ 10) (h : ExAt C H n a) : ExAt C H' n a := h.stay (e.stay hr hl)
abbrev ECl (K : PySem.W.Frag) : Addr := He.ga K "Expression"
theorem takeWhile_go {p : Nat → Bool} {b : Nat} {r : List Nat} (h : p b = true) : Kh450.takeWhile p (b :: r) = (b :: (Kh450.takeWhile p r).1, (Kh450.takeWhile p r).2) := by
  show (if p b then _ else _) = _
  rw [if_pos h]
theorem takeWhile_stop {p : Nat → Bool} {b : Nat} {r : List Nat} (h : p b = false) : Kh450.takeWhile p (b :: r) = ([], b :: r) := by
  show (if p b then _ else _) = _
  rw [if_neg (by rw [h]; decide)]
def intVal (l : List Nat) : Nat := l.foldl (fun n d => 10 * n + (d - 48)) 0
def spReadInt (K : PySem.W.Frag) : Sp := fun vs H Q E => ∃ (r dx da : Addr) (bs : List Nat) (i : Nat), vs = [.ref r] ∧ RdAt K H r dx da bs i ∧
  (let d := Kh450.takeWhile Kh450.isDigit (bs.drop i)
   if 6 < d.1.length ∨ (1 < d.1.length ∧ (bs.drop i).headD 0 = 48) then FaultE K E 5 i
   else ∀ H' j a, RdAt K H' r dx da bs j → Only r H H' → bs.drop j = d.2 → ExAt (ECl K) H' (.integer i (intVal d.1)) a → Q (.ref a) H')
def spReadSym (K : PySem.W.Frag) : Sp := fun vs H Q E => ∃ (r dx da : Addr) (bs : List Nat) (i : Nat), vs = [.ref r] ∧ RdAt K H r dx da bs i ∧ (∀ b ∈ bs, b < 256) ∧ bs.length ≤ 600 ∧
  (let d := Kh450.takeWhile Kh450.isSymbolPart (bs.drop i)
   ∀ H' j a, RdAt K H' r dx da bs j → Only r H H' → bs.drop j = d.2 → ExAt (ECl K) H' (.symbol i d.1) a → Q (.ref a) H')
theorem encB_len (bs : List Nat) : (encB bs).length ≤ 5 * bs.length := by
  unfold encB catS
  show (List.toArray _).size ≤ _
  rw [List.size_toArray]
  induction bs with
  | nil => simp
  | cons b r ih =>
    have := signOf_len b
    have e : (signOf b).cps.toList.length = (signOf b).length := by rw [Array.length_toList]; rfl
    simp only [List.map_cons, List.flatMap_cons, List.length_append, List.length_cons]
    omega
section
variable {P : Program} {w : World} {K : PySem.W.Frag} {mg : Str → Option Value} {base : Heap}
theorem raise_at {C : Addr} (hC : C = He.ga K "Fault") {W : WX} {E : XK} (hW : W = fun cls d _ H => E cls d H) {ta : TA} {D : Ends} {σ : L2.St} {H : Hp} {k p : Nat} (h : FaultE K E k p) (ht : ∀ R : List V → Hp → Prop, (∀ H1, R [.int (k : Int), .int (p : Int)] H1) → ta σ H R) : tRaiseFault C W ta D σ H := by
  subst hC hW
  exact ht _ fun H1 => ⟨_, _, rfl, fun d hd => h _ d upd_same⟩
abbrev s_Reader_read_integer : Stmt := inClass (top 38) 4
theorem sc_Reader_read_integer : FnScope ["self", "place", "number", "digits"] ["self"] (defScope s_Reader_read_integer) := ⟨rfl, rfl, rfl, by decide +kernel, rfl, by decide +kernel, by decide +kernel⟩
theorem ok_read_integer (T : Txt w K mg) (c_is_digit : Kept P w K mg base CX0 1 "is_digit" ["byte"] (spIB Kh450.isDigit)) (c_make_integer : Kept P w K mg base CX0 3 "make_integer" ["number", "place"] (spMkInt (He.ga K "Expression"))) {f : Addr} {fd : FuncData}
    (F : FunD K "read_integer" "Reader.read_integer" (defArgs s_Reader_read_integer) (defBody s_Reader_read_integer) (defScope s_Reader_read_integer) [] [] f fd) : FnOk P w K mg base (L2.CX P w) 4 f fd ["self"] (spReadInt K) := by
  refine F.ok sc_Reader_read_integer (fun vs H Q E h => ?_) (fun cdv A outer s H vs Q E hr h => ⟨_, (pss_cons (ps_set (i := 1) sc_Reader_read_integer.nd rfl (Or.inl rfl) (pe_fld (pv 0) rfl)) (pss_cons (ps_set (i := 2) sc_Reader_read_integer.nd rfl (Or.inl rfl) pe_int) (pss_cons (ps_while (passes_of rfl) (PW.pt (pw_and (pt_cmpR op_lt (pe_fld (pv 0) rfl) (pe_callB call_len_seq (by rfl) T.nlen PySem.boot_len (pa_cons (pe_fld (pv 0) rfl) pa_nil)) (nomark _)) (pw_and1 (pt_val (pe_k c_is_digit hr (by omega) pass0 (pa_cons (pe_ix ix_list (pe_fld (pv 0) rfl) (pe_fld (pv 0) rfl) (fun _ _ => rfl)) pa_nil)))))) (pss_cons (ps_set (i := 2) sc_Reader_read_integer.nd rfl (Or.inl rfl) (pe_op op_sub (pe_op op_add (pe_op op_mul pe_int (pv 2)) (pe_ix ix_list (pe_fld (pv 0) rfl) (pe_fld (pv 0) rfl) (fun _ _ => rfl))) pe_int)) (pss_one (ps_fldaug (pv 0) pe_int in_add)))) (pss_cons (ps_set (i := 3) sc_Reader_read_integer.nd rfl (Or.inl rfl) (pe_op op_sub (pe_fld (pv 0) rfl) (pv 1))) (pss_cons (ps_if (PW.pt (pw_or (pt_cmpR op_gt (pv 3) pe_int (nomark _)) (pw_or1 (PW.pt (pw_and (pt_cmpR op_gt (pv 3) pe_int (nomark _)) (pw_and1 (pt_cmpR op_eq (pe_ix ix_list (pe_fld (pv 0) rfl) (pv 1) (fun _ _ => rfl)) pe_int (nomark _)))))))) (pss_one (ps_raiseFault rfl T.fault hr (by omega) (takes_of rfl rfl rfl rfl) (pa_cons pe_int (pa_cons (pv 1) pa_nil)))) pss_nil) (pss_one (ps_ret (pe_k c_make_integer hr (by omega) pass0 (pa_cons (pv 2) (pa_cons (pv 1) pa_nil)))))))))), ?_⟩)
  · obtain ⟨r, dx, da, bs, i, rfl, _⟩ := h
    rfl
  · obtain ⟨r, dx, da, bs, i, rfl, hR, h⟩ := h
    obtain ⟨h1, h2, h3⟩ := hR
    refine sq ⟨_, rfl, r, _, dx, _, _, rfl, h1, T.clR, rN_at T, lk_at, ?_⟩
    refine sq ?_
    refine sq (wh_of (fun m σ H' => ∃ j, m = bs.length - j ∧ (∃ v, σ = [some (.ref r), some (.int (i : Int)), some (.int (intVal ((bs.drop i).take (j - i)) : Nat)), v]) ∧ RdAt K H' r dx da bs j ∧ Only r H H' ∧ i ≤ j ∧
      Kh450.takeWhile Kh450.isDigit (bs.drop i) = ((bs.drop i).take (j - i) ++ (Kh450.takeWhile Kh450.isDigit (bs.drop j)).1, (Kh450.takeWhile Kh450.isDigit (bs.drop j)).2)) (bs.length - i) ⟨i, rfl, ⟨none, ?_⟩, ⟨h1, h2, h3⟩, Only.refl, Nat.le_refl _, ?_⟩ ?_)
    · rw [Nat.sub_self, List.take_zero]
      rfl
    · rw [Nat.sub_self, List.take_zero]
      rfl
    rintro m σ H' ⟨j, rfl, ⟨v, rfl⟩, hR', on, hij, htw⟩
    obtain ⟨g1, g2, g3⟩ := hR'
    simp only [cxK, cxW, cxKn, cxWn, tRet, tRetN, tC, tVar, tOp, tUn, rI0, rI, rU, rEq, rNe, scal, tChain, tTest, tB, tIfS, tAnd, tOr, tNot, tAndV, tOrV, tNotV, tIf, tSeq, tNext, tAsg, gName, tDrop, tCons, tNil, tCall, tMeth, tCB, tBM, tBM0, L2.start, List.map_cons, List.map_nil, List.length_cons, List.length_nil, List.replicate, Nat.reduceAdd, Nat.reduceSub, List.cons_append, List.nil_append, List.append_nil, List.getElem?_cons_zero, List.getElem?_cons_succ, List.set_cons_zero, List.set_cons_succ, Option.some.injEq, exists_and_left, exists_and_right, exists_eq_left, exists_eq_left', exists_eq_right, exists_eq_right', exists_eq, exists_eq', V.int.injEq, V.str.injEq, V.ref.injEq, V.bl.injEq, List.cons.injEq, true_and, and_true, and_self, decide_eq_true_eq, exists_const, if_true, if_false, Bool.not_eq_true', decide_eq_false_iff_not, Bool.false_eq_true, reduceIte, Bool.not_true, Bool.not_false, tFld, sFldAug, sFld, L2.rAdd, put_at, rF_len, T.clR, rN_data T, rN_at T, lk_data, lk_at, HO.ins.injEq, and_assoc, g1, rIxL, spIB]
    refine ⟨_, .inl g2, ?_⟩
    rw [vI_len]
    by_cases lt : j < bs.length
    · rw [if_pos (by omega)]
      refine ⟨_, g2, _, vI_at lt, _, rfl, ?_⟩
      cases dg : Kh450.isDigit bs[j] with
      | true =>
        have e1 : (bs.drop i).take (j + 1 - i) = (bs.drop i).take (j - i) ++ [bs[j]] := by
          have e2 : j + 1 - i = (j - i) + 1 := by omega
          rw [e2, List.take_add_one, List.getElem?_drop]
          have e3 : i + (j - i) = j := by omega
          rw [e3, List.getElem?_eq_getElem lt]
          rfl
        have d48 : 48 ≤ bs[j] := by
          unfold Kh450.isDigit at dg
          simp at dg
          exact dg.1
        refine iteT ⟨_, fun _ _ z => z, .inl ⟨by decide, by decide⟩, _, g2, _, vI_at lt, _, rfl, by decide, bs.length - (j + 1), by omega, j + 1, rfl, ⟨v, ?_⟩, RdAt.step ⟨g1, g2, g3⟩ lt, on.upd, by omega, ?_⟩
        · rw [e1]
          have e4 : intVal ((bs.drop i).take (j - i) ++ [bs[j]]) = 10 * intVal ((bs.drop i).take (j - i)) + (bs[j] - 48) := by
            unfold intVal
            rw [List.foldl_append]
            rfl
          rw [e4]
          have e5 : (10 * (intVal ((bs.drop i).take (j - i)) : Int) + (bs[j] : Int) - 48) = ((10 * intVal ((bs.drop i).take (j - i)) + (bs[j] - 48) : Nat) : Int) := by omega
          rw [e5]
        · rw [htw, e1, drop_at lt, takeWhile_go dg]
          simp
      | false =>
        refine iteF ?_
        have hstop : Kh450.takeWhile Kh450.isDigit (bs.drop j) = ([], bs.drop j) := by rw [drop_at lt, takeWhile_stop dg]
        have htw2 : Kh450.takeWhile Kh450.isDigit (bs.drop i) = ((bs.drop i).take (j - i), bs.drop j) := by rw [htw, hstop, List.append_nil]
        rw [htw2] at h
        dsimp only at h
        have tl2 : ((bs.drop i).take (j - i)).length = j - i := by rw [List.length_take, List.length_drop]; omega
        rw [tl2] at h
        have make : (∀ H3 a, RdAt K H3 r dx da bs j → Only r H H3 → ExAt (ECl K) H3 (.integer i (intVal ((bs.drop i).take (j - i)))) a → Q (.ref a) H3) → spMkInt (He.ga K "Expression") [V.int (intVal ((bs.drop i).take (j - i)) : Nat), V.int (i : Int)] H' Q E0 := fun z =>
          ⟨_, _, rfl, fun H3 a s3 _ ha => z H3 a ⟨s3 _ _ g1, s3.seq g2, g3⟩ (on.trans (Only.same s3)) ha⟩
        by_cases c6 : 6 < j - i
        · rw [if_pos (by omega)]
          rw [if_pos (.inl c6)] at h
          exact raise_at rfl rfl h (fun R q => ⟨_, rfl, q _⟩)
        · rw [if_neg (by omega)]
          by_cases c1 : 1 < j - i
          · rw [if_pos (by omega)]
            have lti : i < bs.length := by omega
            refine ⟨_, g2, _, vI_at lti, rfl, ?_⟩
            have hd48 : (bs.drop i).headD 0 = bs[i] := by rw [drop_at lti]; rfl
            rw [hd48] at h
            by_cases e48 : bs[i] = 48
            · rw [if_pos (show V.int (bs[i] : Nat) = V.int 48 from (int_eq (c := 48)).mpr e48)]
              rw [if_pos (.inr ⟨c1, e48⟩)] at h
              exact raise_at rfl rfl h (fun R q => ⟨_, rfl, q _⟩)
            · rw [if_neg (show ¬ V.int (bs[i] : Nat) = V.int 48 from fun q => e48 ((int_eq (c := 48)).mp q))]
              rw [if_neg (fun q => q.elim c6 (fun q => e48 q.2))] at h
              exact make fun H3 a r3 o3 ha => h H3 j a r3 o3 rfl ha
          · rw [if_neg (by omega)]
            rw [if_neg (fun q => q.elim c6 (fun q => c1 q.1))] at h
            exact make fun H3 a r3 o3 ha => h H3 j a r3 o3 rfl ha
    · rw [if_neg (by omega)]
      have hstop : Kh450.takeWhile Kh450.isDigit (bs.drop j) = ([], bs.drop j) := by
        rw [List.drop_eq_nil_of_le (by omega)]
        rfl
      have htw2 : Kh450.takeWhile Kh450.isDigit (bs.drop i) = ((bs.drop i).take (j - i), bs.drop j) := by rw [htw, hstop, List.append_nil]
      rw [htw2] at h
      dsimp only at h
      have tl2 : ((bs.drop i).take (j - i)).length = j - i := by rw [List.length_take, List.length_drop]; omega
      rw [tl2] at h
      have make : (∀ H3 a, RdAt K H3 r dx da bs j → Only r H H3 → ExAt (ECl K) H3 (.integer i (intVal ((bs.drop i).take (j - i)))) a → Q (.ref a) H3) → spMkInt (He.ga K "Expression") [V.int (intVal ((bs.drop i).take (j - i)) : Nat), V.int (i : Int)] H' Q E0 := fun z =>
        ⟨_, _, rfl, fun H3 a s3 _ ha => z H3 a ⟨s3 _ _ g1, s3.seq g2, g3⟩ (on.trans (Only.same s3)) ha⟩
      by_cases c6 : 6 < j - i
      · rw [if_pos (by omega)]
        rw [if_pos (.inl c6)] at h
        exact raise_at rfl rfl h (fun R q => ⟨_, rfl, q _⟩)
      · rw [if_neg (by omega)]
        by_cases c1 : 1 < j - i
        · rw [if_pos (by omega)]
          have lti : i < bs.length := by omega
          refine ⟨_, g2, _, vI_at lti, rfl, ?_⟩
          have hd48 : (bs.drop i).headD 0 = bs[i] := by rw [drop_at lti]; rfl
          rw [hd48] at h
          by_cases e48 : bs[i] = 48
          · rw [if_pos (show V.int (bs[i] : Nat) = V.int 48 from (int_eq (c := 48)).mpr e48)]
            rw [if_pos (.inr ⟨c1, e48⟩)] at h
            exact raise_at rfl rfl h (fun R q => ⟨_, rfl, q _⟩)
          · rw [if_neg (show ¬ V.int (bs[i] : Nat) = V.int 48 from fun q => e48 ((int_eq (c := 48)).mp q))]
            rw [if_neg (fun q => q.elim c6 (fun q => e48 q.2))] at h
            exact make fun H3 a r3 o3 ha => h H3 j a r3 o3 rfl ha
        · rw [if_neg (by omega)]
          rw [if_neg (fun q => q.elim c6 (fun q => c1 q.1))] at h
          exact make fun H3 a r3 o3 ha => h H3 j a r3 o3 rfl ha
abbrev s_Reader_read_symbol : Stmt := inClass (top 38) 5
theorem sc_Reader_read_symbol : FnScope ["self", "place"] ["self"] (defScope s_Reader_read_symbol) := ⟨rfl, rfl, rfl, by decide +kernel, rfl, by decide +kernel, by decide +kernel⟩
theorem ok_read_symbol (T : Txt w K mg) (c_is_symbol_sign : Kept P w K mg base CX0 2 "is_symbol_sign" ["byte"] (spIB Kh450.isSymbolPart)) (c_text_of : Kept P w K mg base CX0 2 "text_of" ["data"] (spTextOf K)) (c_make_symbol : Kept P w K mg base CX0 3 "make_symbol" ["name", "place"] (spMkSym (He.ga K "Expression"))) {f : Addr} {fd : FuncData}
    (F : FunD K "read_symbol" "Reader.read_symbol" (defArgs s_Reader_read_symbol) (defBody s_Reader_read_symbol) (defScope s_Reader_read_symbol) [] [] f fd) : FnOk P w K mg base CX0 4 f fd ["self"] (spReadSym K) := by
  refine F.ok sc_Reader_read_symbol (fun vs H Q E h => ?_) (fun cdv A outer s H vs Q E hr h => ⟨_, PSs.nox (pss_cons (ps_set (i := 1) sc_Reader_read_symbol.nd rfl (Or.inl rfl) (pe_fld (pv 0) rfl)) (pss_cons (ps_while PassesOwn.never (PW.pt (pw_and (pt_cmpR op_lt (pe_fld (pv 0) rfl) (pe_callB call_len_seq (by rfl) T.nlen PySem.boot_len (pa_cons (pe_fld (pv 0) rfl) pa_nil)) (nomark _)) (pw_and1 (pt_val (pe_k c_is_symbol_sign hr (by omega) pass0 (pa_cons (pe_ix ix_list (pe_fld (pv 0) rfl) (pe_fld (pv 0) rfl) (fun _ _ => rfl)) pa_nil)))))) (pss_one (ps_fldaug (pv 0) pe_int in_add))) (pss_one (ps_ret (pe_k c_make_symbol hr (by omega) pass0 (pa_cons (pe_k c_text_of hr (by omega) pass0 (pa_cons (pe_slice sl_list (pe_fld (pv 0) rfl) (po_some (pv 1)) (po_some (pe_fld (pv 0) rfl))) pa_nil)) (pa_cons (pv 1) pa_nil))))))), ?_⟩)
  · obtain ⟨r, dx, da, bs, i, rfl, _⟩ := h
    rfl
  · obtain ⟨r, dx, da, bs, i, rfl, hR, h256, h600, h⟩ := h
    obtain ⟨h1, h2, h3⟩ := hR
    refine sq ⟨_, rfl, r, _, dx, _, _, rfl, h1, T.clR, rN_at T, lk_at, ?_⟩
    refine sq (wh_of (fun m σ H' => ∃ j, m = bs.length - j ∧ σ = [some (.ref r), some (.int (i : Int))] ∧ RdAt K H' r dx da bs j ∧ Only r H H' ∧ i ≤ j ∧
      Kh450.takeWhile Kh450.isSymbolPart (bs.drop i) = ((bs.drop i).take (j - i) ++ (Kh450.takeWhile Kh450.isSymbolPart (bs.drop j)).1, (Kh450.takeWhile Kh450.isSymbolPart (bs.drop j)).2)) (bs.length - i) ⟨i, rfl, rfl, ⟨h1, h2, h3⟩, Only.refl, Nat.le_refl _, ?_⟩ ?_)
    · rw [Nat.sub_self, List.take_zero]
      rfl
    rintro m σ H' ⟨j, rfl, rfl, hR', on, hij, htw⟩
    obtain ⟨g1, g2, g3⟩ := hR'
    simp only [cxK, cxW, cxKn, cxWn, tRet, tRetN, tC, tVar, tOp, tUn, rI0, rI, rU, rEq, rNe, scal, tChain, tTest, tB, tIfS, tAnd, tOr, tNot, tAndV, tOrV, tNotV, tIf, tSeq, tNext, tAsg, gName, tDrop, tCons, tNil, tCall, tMeth, tCB, tBM, tBM0, L2.start, List.map_cons, List.map_nil, List.length_cons, List.length_nil, List.replicate, Nat.reduceAdd, Nat.reduceSub, List.cons_append, List.nil_append, List.append_nil, List.getElem?_cons_zero, List.getElem?_cons_succ, List.set_cons_zero, List.set_cons_succ, Option.some.injEq, exists_and_left, exists_and_right, exists_eq_left, exists_eq_left', exists_eq_right, exists_eq_right', exists_eq, exists_eq', V.int.injEq, V.str.injEq, V.ref.injEq, V.bl.injEq, List.cons.injEq, true_and, and_true, and_self, decide_eq_true_eq, exists_const, if_true, if_false, Bool.not_eq_true', decide_eq_false_iff_not, Bool.false_eq_true, reduceIte, Bool.not_true, Bool.not_false, tFld, sFldAug, sFld, L2.rAdd, put_at, rF_len, T.clR, rN_data T, rN_at T, lk_data, lk_at, HO.ins.injEq, and_assoc, g1, rIxL, spIB, tSl, tPart, rSlL]
    refine ⟨_, .inl g2, ?_⟩
    rw [vI_len]
    by_cases lt : j < bs.length
    · rw [if_pos (by omega)]
      refine ⟨_, g2, _, vI_at lt, _, rfl, ?_⟩
      cases dg : Kh450.isSymbolPart bs[j] with
      | true =>
        have e1 : (bs.drop i).take (j + 1 - i) = (bs.drop i).take (j - i) ++ [bs[j]] := by
          have e2 : j + 1 - i = (j - i) + 1 := by omega
          rw [e2, List.take_add_one, List.getElem?_drop]
          have e3 : i + (j - i) = j := by omega
          rw [e3, List.getElem?_eq_getElem lt]
          rfl
        refine iteT ⟨_, fun _ _ z => z, by decide, bs.length - (j + 1), by omega, j + 1, rfl, rfl, RdAt.step ⟨g1, g2, g3⟩ lt, on.upd, by omega, ?_⟩
        rw [htw, e1, drop_at lt, takeWhile_go dg]
        simp
      | false =>
        refine iteF ?_
        have hstop : Kh450.takeWhile Kh450.isSymbolPart (bs.drop j) = ([], bs.drop j) := by rw [drop_at lt, takeWhile_stop dg]
        have htw2 : Kh450.takeWhile Kh450.isSymbolPart (bs.drop i) = ((bs.drop i).take (j - i), bs.drop j) := by rw [htw, hstop, List.append_nil]
        rw [htw2] at h
        dsimp only at h
        refine ⟨_, g2, fun p hp => ?_⟩
        rw [cut_vI bs i j hij g3]
        have s1 := Same.new (o := .lst (vI ((bs.drop i).take (j - i)))) hp
        refine ⟨p, (bs.drop i).take (j - i), rfl, SqL.of upd_same, fun b hb => h256 b (List.mem_of_mem_drop (List.mem_of_mem_take hb)), by rw [List.length_take, List.length_drop]; omega, fun H2 s2 => ?_⟩
        refine ⟨_, i, rfl, ?_, fun H3 a s3 _ ha => ?_⟩
        · have q := encB_len ((bs.drop i).take (j - i))
          have q2 : ((bs.drop i).take (j - i)).length ≤ 600 := by rw [List.length_take, List.length_drop]; omega
          omega
        · have sm := (s1.trans s2).trans s3
          exact h H3 j a ⟨sm _ _ g1, sm.seq g2, g3⟩ (on.trans (Only.same sm)) rfl ha
    · rw [if_neg (by omega)]
      have hstop : Kh450.takeWhile Kh450.isSymbolPart (bs.drop j) = ([], bs.drop j) := by
        rw [List.drop_eq_nil_of_le (by omega)]
        rfl
      have htw2 : Kh450.takeWhile Kh450.isSymbolPart (bs.drop i) = ((bs.drop i).take (j - i), bs.drop j) := by rw [htw, hstop, List.append_nil]
      rw [htw2] at h
      dsimp only at h
      refine ⟨_, g2, fun p hp => ?_⟩
      rw [cut_vI bs i j hij g3]
      have s1 := Same.new (o := .lst (vI ((bs.drop i).take (j - i)))) hp
      refine ⟨p, (bs.drop i).take (j - i), rfl, SqL.of upd_same, fun b hb => h256 b (List.mem_of_mem_drop (List.mem_of_mem_take hb)), by rw [List.length_take, List.length_drop]; omega, fun H2 s2 => ?_⟩
      refine ⟨_, i, rfl, ?_, fun H3 a s3 _ ha => ?_⟩
      · have q := encB_len ((bs.drop i).take (j - i))
        have q2 : ((bs.drop i).take (j - i)).length ≤ 600 := by rw [List.length_take, List.length_drop]; omega
        omega
      · have sm := (s1.trans s2).trans s3
        exact h H3 j a ⟨sm _ _ g1, sm.seq g2, g3⟩ (on.trans (Only.same sm)) rfl ha
end
end Ck
namespace Ck
open PySem PySem.Spec PyProof.Rows L2 RZ
open Kh450 (Node)
/-! ### sequences -/
theorem cont_eq (b : Nat) : Kh450.isContinuation b = isCont b := by
  unfold Kh450.isContinuation isCont
  congr 1
  rw [decide_eq_decide]
  omega
/-- what decodes is what has a length -/
theorem dec_seq (a : Nat) (r : List Nat) (ha : 128 ≤ a) : (seqLen (a :: r) = 0 ∧ Kh450.decodeUtf8 (a :: r) = none) ∨
    (2 ≤ seqLen (a :: r) ∧ seqLen (a :: r) ≤ r.length + 1 ∧ ∃ c, Kh450.decodeUtf8 (a :: r) = some (c, (a :: r).drop (seqLen (a :: r))) ∧ Kh450.encodeUtf8 c = (a :: r).take (seqLen (a :: r)) ∧ c < 0x110000) := by
  by_cases h1 : a < 0xC2
  · left
    have e1 : Kh450.decodeUtf8 (a :: r) = none := by
      show (if a < 0x80 then _ else if a < 0xC2 then none else _) = none
      rw [if_neg (by omega), if_pos h1]
    have : lenFirst a = 0 := by unfold lenFirst; (repeat' split) <;> omega
    rw [seqLen_cons, if_pos (.inl this)]
    exact ⟨rfl, e1⟩
  by_cases h2 : a < 0xE0
  · have l2 : lenFirst a = 2 := by unfold lenFirst; (repeat' split) <;> omega
    match r with
    | [] =>
      left
      refine ⟨by rw [seqLen_cons, l2]; rfl, ?_⟩
      show (if a < 0x80 then _ else if a < 0xC2 then none else if a < 0xE0 then none else _) = none
      rw [if_neg (by omega), if_neg h1, if_pos h2]
    | b :: t =>
      have e1 : Kh450.decodeUtf8 (a :: b :: t) = if isCont b then some (a % 32 * 64 + b % 64, t) else none := by
        rw [← cont_eq]
        show (if a < 0x80 then _ else if a < 0xC2 then none else if a < 0xE0 then _ else _) = _
        rw [if_neg (by omega), if_neg h1, if_pos h2]
      have f : fits2 a b = true := by unfold fits2; (repeat' split) <;> first | omega | rfl
      have e2 : seqLen (a :: b :: t) = if isCont b then 2 else 0 := by
        rw [seqLen_cons, l2, if_neg (by simp)]
        simp only [List.take_succ_cons, List.take_zero, List.all_cons, List.all_nil, Bool.and_true, List.headD_cons, f, if_true]
      rw [e1, e2]
      cases q : isCont b with
      | false => left; simp
      | true =>
        right
        unfold isCont at q
        simp only [Bool.and_eq_true, decide_eq_true_eq] at q
        refine ⟨Nat.le_refl _, by simp, _, rfl, ?_, by omega⟩
        unfold Kh450.encodeUtf8
        rw [if_neg (by omega), if_pos (by omega)]
        show [_, _] = [a, b]
        have x1 : 0xC0 + (a % 32 * 64 + b % 64) / 64 = a := by omega
        have x2 : 0x80 + (a % 32 * 64 + b % 64) % 64 = b := by omega
        rw [x1, x2]
  by_cases h3 : a < 0xF0
  · have l3 : lenFirst a = 3 := by unfold lenFirst; (repeat' split) <;> omega
    match r with
    | [] =>
      left
      refine ⟨by rw [seqLen_cons, l3]; rfl, ?_⟩
      show (if a < 0x80 then _ else if a < 0xC2 then none else if a < 0xE0 then _ else if a < 0xF0 then none else _) = none
      rw [if_neg (by omega), if_neg h1, if_neg h2, if_pos h3]
    | [b] =>
      left
      refine ⟨by rw [seqLen_cons, l3]; rfl, ?_⟩
      show (if a < 0x80 then _ else if a < 0xC2 then none else if a < 0xE0 then _ else if a < 0xF0 then none else _) = none
      rw [if_neg (by omega), if_neg h1, if_neg h2, if_pos h3]
    | b :: c :: t =>
      have e1 : Kh450.decodeUtf8 (a :: b :: c :: t) = if isCont b && isCont c && decide (0x800 ≤ a % 16 * 4096 + b % 64 * 64 + c % 64) && Kh450.isScalar (a % 16 * 4096 + b % 64 * 64 + c % 64) then some (a % 16 * 4096 + b % 64 * 64 + c % 64, t) else none := by
        rw [← cont_eq, ← cont_eq]
        show (if a < 0x80 then _ else if a < 0xC2 then none else if a < 0xE0 then _ else if a < 0xF0 then _ else _) = _
        rw [if_neg (by omega), if_neg h1, if_neg h2, if_pos h3]
      have e2 : seqLen (a :: b :: c :: t) = if isCont b && isCont c then (if fits2 a b then 3 else 0) else 0 := by
        rw [seqLen_cons, l3, if_neg (by simp)]
        simp only [List.take_succ_cons, List.take_zero, List.all_cons, List.all_nil, Bool.and_true, List.headD_cons]
        rfl
      rw [e1, e2]
      cases q1 : isCont b with
      | false => left; simp
      | true =>
        cases q2 : isCont c with
        | false => left; simp
        | true =>
          unfold isCont at q1 q2
          simp only [Bool.and_eq_true, decide_eq_true_eq] at q1 q2
          have g : (decide (0x800 ≤ a % 16 * 4096 + b % 64 * 64 + c % 64) && Kh450.isScalar (a % 16 * 4096 + b % 64 * 64 + c % 64)) = fits2 a b := by
            unfold Kh450.isScalar fits2
            rw [Bool.eq_iff_iff]
            (repeat' split) <;> simp only [Bool.and_eq_true, Bool.not_eq_true', Bool.and_eq_false_iff, decide_eq_true_eq, decide_eq_false_iff_not] <;> first | omega | (simp; omega)
          simp only [Bool.true_and, Bool.and_self, g, if_true]
          cases f : fits2 a b with
          | false => left; simp
          | true =>
            right
            rw [f] at g
            simp only [Bool.and_eq_true, decide_eq_true_eq, Kh450.isScalar] at g
            refine ⟨by simp, by simp, _, rfl, ?_, by omega⟩
            unfold Kh450.encodeUtf8
            rw [if_neg (by omega), if_neg (by omega), if_pos (by omega)]
            show [_, _, _] = [a, b, c]
            have x1 : 0xE0 + (a % 16 * 4096 + b % 64 * 64 + c % 64) / 4096 = a := by omega
            have x2 : 0x80 + (a % 16 * 4096 + b % 64 * 64 + c % 64) / 64 % 64 = b := by omega
            have x3 : 0x80 + (a % 16 * 4096 + b % 64 * 64 + c % 64) % 64 = c := by omega
            rw [x1, x2, x3]
  by_cases h4 : a < 0xF5
  · have l4 : lenFirst a = 4 := by unfold lenFirst; (repeat' split) <;> omega
    match r with
    | [] =>
      left
      refine ⟨by rw [seqLen_cons, l4]; rfl, ?_⟩
      show (if a < 0x80 then _ else if a < 0xC2 then none else if a < 0xE0 then _ else if a < 0xF0 then _ else if a < 0xF5 then none else none) = none
      rw [if_neg (by omega), if_neg h1, if_neg h2, if_neg h3, if_pos h4]
    | [b] =>
      left
      refine ⟨by rw [seqLen_cons, l4]; rfl, ?_⟩
      show (if a < 0x80 then _ else if a < 0xC2 then none else if a < 0xE0 then _ else if a < 0xF0 then _ else if a < 0xF5 then none else none) = none
      rw [if_neg (by omega), if_neg h1, if_neg h2, if_neg h3, if_pos h4]
    | [b, c] =>
      left
      refine ⟨by rw [seqLen_cons, l4]; rfl, ?_⟩
      show (if a < 0x80 then _ else if a < 0xC2 then none else if a < 0xE0 then _ else if a < 0xF0 then _ else if a < 0xF5 then none else none) = none
      rw [if_neg (by omega), if_neg h1, if_neg h2, if_neg h3, if_pos h4]
    | b :: c :: d :: t =>
      have e1 : Kh450.decodeUtf8 (a :: b :: c :: d :: t) = if isCont b && isCont c && isCont d && decide (0x10000 ≤ a % 8 * 262144 + b % 64 * 4096 + c % 64 * 64 + d % 64) && Kh450.isScalar (a % 8 * 262144 + b % 64 * 4096 + c % 64 * 64 + d % 64) then some (a % 8 * 262144 + b % 64 * 4096 + c % 64 * 64 + d % 64, t) else none := by
        rw [← cont_eq, ← cont_eq, ← cont_eq]
        show (if a < 0x80 then _ else if a < 0xC2 then none else if a < 0xE0 then _ else if a < 0xF0 then _ else if a < 0xF5 then _ else none) = _
        rw [if_neg (by omega), if_neg h1, if_neg h2, if_neg h3, if_pos h4]
      have e2 : seqLen (a :: b :: c :: d :: t) = if isCont b && (isCont c && isCont d) then (if fits2 a b then 4 else 0) else 0 := by
        rw [seqLen_cons, l4, if_neg (by simp)]
        simp only [List.take_succ_cons, List.take_zero, List.all_cons, List.all_nil, Bool.and_true, List.headD_cons]
        rfl
      rw [e1, e2]
      cases q1 : isCont b with
      | false => left; simp
      | true =>
        cases q2 : isCont c with
        | false => left; simp
        | true =>
          cases q3 : isCont d with
          | false => left; simp
          | true =>
            unfold isCont at q1 q2 q3
            simp only [Bool.and_eq_true, decide_eq_true_eq] at q1 q2 q3
            have g : (decide (0x10000 ≤ a % 8 * 262144 + b % 64 * 4096 + c % 64 * 64 + d % 64) && Kh450.isScalar (a % 8 * 262144 + b % 64 * 4096 + c % 64 * 64 + d % 64)) = fits2 a b := by
              unfold Kh450.isScalar fits2
              rw [Bool.eq_iff_iff]
              (repeat' split) <;> simp only [Bool.and_eq_true, Bool.not_eq_true', Bool.and_eq_false_iff, decide_eq_true_eq, decide_eq_false_iff_not] <;> first | omega | (simp; omega)
            simp only [Bool.true_and, Bool.and_self, g, if_true]
            cases f : fits2 a b with
            | false => left; simp
            | true =>
              right
              rw [f] at g
              simp only [Bool.and_eq_true, decide_eq_true_eq, Kh450.isScalar] at g
              refine ⟨by simp, by simp, _, rfl, ?_, by omega⟩
              unfold Kh450.encodeUtf8
              rw [if_neg (by omega), if_neg (by omega), if_neg (by omega)]
              show [_, _, _, _] = [a, b, c, d]
              have x1 : 0xF0 + (a % 8 * 262144 + b % 64 * 4096 + c % 64 * 64 + d % 64) / 262144 = a := by omega
              have x2 : 0x80 + (a % 8 * 262144 + b % 64 * 4096 + c % 64 * 64 + d % 64) / 4096 % 64 = b := by omega
              have x3 : 0x80 + (a % 8 * 262144 + b % 64 * 4096 + c % 64 * 64 + d % 64) / 64 % 64 = c := by omega
              have x4 : 0x80 + (a % 8 * 262144 + b % 64 * 4096 + c % 64 * 64 + d % 64) % 64 = d := by omega
              rw [x1, x2, x3, x4]
  left
  have e1 : Kh450.decodeUtf8 (a :: r) = none := by
    show (if a < 0x80 then _ else if a < 0xC2 then none else if a < 0xE0 then _ else if a < 0xF0 then _ else if a < 0xF5 then _ else none) = none
    rw [if_neg (by omega), if_neg h1, if_neg h2, if_neg h3, if_neg h4]
  have : lenFirst a = 0 := by unfold lenFirst; (repeat' split) <;> omega
  rw [seqLen_cons, if_pos (.inl this)]
  exact ⟨rfl, e1⟩
/-! ### escapes by a number -/
def isHexB (b : Nat) : Bool := (Kh450.hexValue b).isSome
def hv (b : Nat) : Nat := (Kh450.hexValue b).getD 0
def hexVal (l : List Nat) : Nat := l.foldl (fun n d => 16 * n + hv d) 0
theorem hexv_neg (b : Nat) (h : isHexB b = false) : hexv b = -1 := by
  unfold isHexB Kh450.hexValue at h
  unfold hexv
  by_cases d : Kh450.isDigit b = true
  · rw [if_pos d] at h; cases h
  · rw [if_neg d] at h ⊢
    by_cases c : 97 ≤ b ∧ b ≤ 102
    · rw [if_pos c] at h; cases h
    · rw [if_neg c]
theorem hexv_pos (b : Nat) (h : isHexB b = true) : hexv b = (hv b : Nat) := by
  unfold isHexB Kh450.hexValue at h
  unfold hexv hv Kh450.hexValue
  by_cases d : Kh450.isDigit b = true
  · rw [if_pos d, if_pos d]
    have q := d
    unfold Kh450.isDigit at q
    simp only [Bool.and_eq_true, decide_eq_true_eq] at q
    show ((b : Int) - 48) = ((b - 48 : Nat) : Int)
    omega
  · rw [if_neg d] at h
    rw [if_neg d, if_neg d]
    by_cases c : 97 ≤ b ∧ b ≤ 102
    · rw [if_pos c, if_pos c]
      show ((b : Int) - 87) = ((b - 87 : Nat) : Int)
      omega
    · rw [if_neg c] at h; cases h
theorem hexNumber_all : ∀ (l : List Nat) (x : Nat), l.all isHexB = true → l.foldl (fun n d => match n, Kh450.hexValue d with | some x, some y => some (16 * x + y) | _, _ => none) (some x) = some (l.foldl (fun n d => 16 * n + hv d) x)
  | [], x, _ => rfl
  | d :: r, x, h => by
    rw [List.all_cons, Bool.and_eq_true] at h
    obtain ⟨y, hy⟩ := Option.isSome_iff_exists.mp h.1
    rw [List.foldl_cons, List.foldl_cons, hy]
    have e : hv d = y := by unfold hv; rw [hy]; rfl
    rw [e]
    exact hexNumber_all r _ h.2
theorem hexNumber_none : ∀ (l : List Nat), l.foldl (fun n d => match n, Kh450.hexValue d with | some x, some y => some (16 * x + y) | _, _ => none) (none : Option Nat) = none
  | [] => rfl
  | d :: r => by
    rw [List.foldl_cons]
    exact hexNumber_none r
theorem hexNumber_bad : ∀ (l : List Nat) (x : Nat), l.all isHexB = false → l.foldl (fun n d => match n, Kh450.hexValue d with | some x, some y => some (16 * x + y) | _, _ => none) (some x) = none
  | [], x, h => by cases h
  | d :: r, x, h => by
    rw [List.foldl_cons]
    cases e : Kh450.hexValue d with
    | none => exact hexNumber_none r
    | some y =>
      refine hexNumber_bad r _ ?_
      rw [List.all_cons] at h
      have q : isHexB d = true := by unfold isHexB; rw [e]; rfl
      rw [q] at h
      exact h
theorem hexB_ne (b : Nat) (h : isHexB b = true) : (b != 125) = true := by
  rw [bne_iff_ne]
  intro e
  subst e
  cases h
/-- the digits up to the brace, where the hexadecimal digits end -/
theorem brace_split : ∀ (t : List Nat), ((Kh450.takeWhile isHexB t).2.headD 0 = 125 ∧ Kh450.takeWhile (fun b => b != 125) t = Kh450.takeWhile isHexB t ∧ (Kh450.takeWhile isHexB t).1.all isHexB = true) ∨
    ((Kh450.takeWhile isHexB t).2.headD 0 ≠ 125 ∧ ((Kh450.takeWhile (fun b => b != 125) t).2 = [] ∨ (Kh450.takeWhile (fun b => b != 125) t).1.all isHexB = false))
  | [] => .inr ⟨by show (0 : Nat) ≠ 125; decide, .inl rfl⟩
  | b :: r => by
    cases h : isHexB b with
    | true =>
      have h2 := hexB_ne b h
      rw [takeWhile_go h, takeWhile_go (p := fun b => b != 125) h2]
      rcases brace_split r with ⟨e1, e2, e3⟩ | ⟨e1, e2⟩
      · refine .inl ⟨e1, by rw [e2], ?_⟩
        rw [List.all_cons, h, e3]
        rfl
      · refine .inr ⟨e1, ?_⟩
        rcases e2 with e2 | e2
        · exact .inl e2
        · refine .inr ?_
          rw [List.all_cons, e2, Bool.and_false]
    | false =>
      rw [takeWhile_stop h]
      by_cases e : b = 125
      · subst e
        left
        refine ⟨rfl, ?_, rfl⟩
        exact takeWhile_stop rfl
      · right
        refine ⟨e, .inr ?_⟩
        rw [takeWhile_go (p := fun b => b != 125) (by simpa using e), List.all_cons, h]
        rfl
/-- an escape by a number, as it is read: t stands behind the brace -/
def cpOf (t : List Nat) : Option (Nat × List Nat) :=
  let d := Kh450.takeWhile isHexB t
  if d.2.headD 0 = 125 ∧ (1 ≤ d.1.length ∧ d.1.length ≤ 6) ∧ hexVal d.1 ≤ 1114111 ∧ ¬ (55296 ≤ hexVal d.1 ∧ hexVal d.1 ≤ 57343) then some (hexVal d.1, d.2.drop 1) else none
theorem readEscape_u (t : List Nat) : Kh450.readEscape (117 :: 123 :: t) = cpOf t := by
  show (if (Kh450.takeWhile (fun b => b != 125) t).1.isEmpty ∨ 6 < (Kh450.takeWhile (fun b => b != 125) t).1.length ∨ (Kh450.takeWhile (fun b => b != 125) t).2.isEmpty then none
    else match Kh450.hexNumber (Kh450.takeWhile (fun b => b != 125) t).1 with | none => none | some c => if Kh450.isScalar c then some (c, (Kh450.takeWhile (fun b => b != 125) t).2.drop 1) else none) = _
  unfold cpOf
  dsimp only
  rcases brace_split t with ⟨e1, e2, e3⟩ | ⟨e1, e2⟩
  · rw [e2]
    have ne2 : (Kh450.takeWhile isHexB t).2 ≠ [] := fun q => by rw [q] at e1; cases e1
    have hn : Kh450.hexNumber (Kh450.takeWhile isHexB t).1 = some (hexVal (Kh450.takeWhile isHexB t).1) := hexNumber_all _ _ e3
    rw [hn]
    by_cases c : (1 ≤ (Kh450.takeWhile isHexB t).1.length ∧ (Kh450.takeWhile isHexB t).1.length ≤ 6)
    · have n1 : ¬ ((Kh450.takeWhile isHexB t).1.isEmpty = true ∨ 6 < (Kh450.takeWhile isHexB t).1.length ∨ (Kh450.takeWhile isHexB t).2.isEmpty = true) := by
        rintro (q | q | q)
        · rw [List.isEmpty_iff_length_eq_zero] at q; omega
        · omega
        · exact ne2 (List.isEmpty_iff.mp q)
      rw [if_neg n1]
      dsimp only
      by_cases s : hexVal (Kh450.takeWhile isHexB t).1 ≤ 1114111 ∧ ¬ (55296 ≤ hexVal (Kh450.takeWhile isHexB t).1 ∧ hexVal (Kh450.takeWhile isHexB t).1 ≤ 57343)
      · refine Eq.trans (if_pos ?_) (if_pos ⟨e1, c, s.1, s.2⟩).symm
        unfold Kh450.isScalar
        simp only [Bool.and_eq_true, Bool.not_eq_true', Bool.and_eq_false_iff, decide_eq_true_eq, decide_eq_false_iff_not]
        omega
      · refine Eq.trans (if_neg ?_) (if_neg (fun q => s q.2.2)).symm
        unfold Kh450.isScalar
        simp only [Bool.and_eq_true, Bool.not_eq_true', Bool.and_eq_false_iff, decide_eq_true_eq, decide_eq_false_iff_not]
        omega
    · refine Eq.trans (if_pos ?_) (if_neg (fun q => c q.2.1)).symm
      by_cases z : (Kh450.takeWhile isHexB t).1.length = 0
      · left
        rw [List.isEmpty_iff_length_eq_zero]
        exact z
      · right
        left
        omega
  · refine Eq.trans ?_ (if_neg (fun q => e1 q.1)).symm
    rcases e2 with e2 | e2
    · rw [e2]
      exact if_pos (.inr (.inr rfl))
    · have hn : Kh450.hexNumber (Kh450.takeWhile (fun b => b != 125) t).1 = none := hexNumber_bad _ _ e2
      rw [hn]
      split <;> rfl
theorem readEscape_u0 (t : List Nat) (h : t.headD 0 ≠ 123) : Kh450.readEscape (117 :: t) = none := by
  match t, h with
  | [], _ => rfl
  | b :: r, h =>
    have h2 : b ≠ 123 := h
    unfold Kh450.readEscape
    split <;> simp_all
end Ck
namespace Ck
open PySem PySem.Spec PyProof.Rows L2 RZ
open Kh450 (Node)
def spInitR (K : PySem.W.Frag) : Sp := fun vs H Q _ => ∃ (p dx da : Addr), vs = [.ref p, .ref da] ∧ H p = some (.ins (He.ga K "Reader") dx []) ∧
  ∀ H', H' p = some (.ins (He.ga K "Reader") dx (rF da 0)) → (∀ b o, H b = some o → b ≠ p → H' b = some o) → Q .non H'
def EscTo (K : PySem.W.Frag) (H : Hp) (Q : VK) (E : XK) (r dx da : Addr) (bs : List Nat) (i : Nat) : Option (Nat × List Nat) → Prop
  | none => FaultE K E 3 i
  | some (c, rest) => ∀ H' j, RdAt K H' r dx da bs j → Only r H H' → i < j → bs.drop j = rest → Q (.str (encB (Kh450.encodeUtf8 c))) H'
def spEscU (K : PySem.W.Frag) : Sp := fun vs H Q E => ∃ (r dx da : Addr) (bs : List Nat) (i : Nat), vs = [.ref r] ∧ RdAt K H r dx da bs i ∧ i + 1 < bs.length ∧ bs.getD (i + 1) 0 = 117 ∧ EscTo K H Q E r dx da bs i (Kh450.readEscape (bs.drop (i + 1)))
theorem put_newR {da : Addr} {i : Int} : putF "at" (.int i) (putF "data" (.ref da) []) = rF da i := by
  have p0 : putF "data" (.ref da) [] = [(("data" : Str), V.ref da)] := rfl
  rw [p0]
  exact (pt2 (by decide +kernel)).trans rfl
theorem wh_cut {c : TT} {tb : TS} {D : Ends} {σ : L2.St} {H : Hp} (Pv : Nat → L2.St → Hp → Prop) (m0 : Nat) (Dn : L2.St → Hp → Prop) (h0 : Pv m0 σ H)
    (hs : ∀ X : L2.St → Hp → Prop, (∀ σ H, Dn σ H → X σ H) → ∀ m σ H, Pv m σ H → c σ H fun b H1 => if b = true then ∃ N : L2.St → Hp → Prop, (∀ σ' H', N σ' H' → ∃ m', m' < m ∧ Pv m' σ' H') ∧ tb { D with nx := N, ct := N, bk := X } σ H1 else X σ H1)
    (hd : ∀ σ H, Dn σ H → D.nx σ H) : tWhile c tb D σ H := wh_of Pv m0 h0 (hs D.nx hd)
theorem cut_any {α : Type} (f : α → V) (bs : List α) (i j : Nat) : cutV (bs.map f) (some (i : Int)) (some (j : Int)) = ((bs.drop i).take (j - i)).map f := by
  unfold cutV
  rw [HT.sIx_nat, HT.sIx_nat, List.length_map, List.map_take, List.map_drop]
  by_cases hi : i ≤ bs.length
  · rw [Nat.min_eq_left hi]
    by_cases hj : j ≤ bs.length
    · rw [Nat.min_eq_left hj]
    · rw [Nat.min_eq_right (by omega), List.take_of_length_le (by simp), List.take_of_length_le (by simp; omega)]
  · rw [Nat.min_eq_right (show bs.length ≤ i by omega)]
    have e1 : (bs.map f).drop bs.length = [] := List.drop_eq_nil_of_le (by simp)
    have e2 : (bs.map f).drop i = [] := List.drop_eq_nil_of_le (by simp; omega)
    rw [e1, e2, List.take_nil, List.take_nil]
theorem take1_eq (l : List Nat) (c : Nat) (hc : c ≠ 0) : (l.take 1 = [c]) ↔ l.headD 0 = c := by
  match l with
  | [] => 
    constructor
    · intro h; cases h
    · intro h; exact absurd h.symm hc
  | b :: r =>
    show ([b] = [c]) ↔ b = c
    simp
theorem enc_256 (c : Nat) (h : c < 1114112) : (∀ b ∈ Kh450.encodeUtf8 c, b < 256) ∧ (Kh450.encodeUtf8 c).length ≤ 4 := by
  unfold Kh450.encodeUtf8
  split
  · simp; omega
  · split
    · simp; omega
    · split
      · simp; omega
      · simp; omega
/-- a row of bytes as data -/
theorem dpA {K : PySem.W.Frag} {H : Hp} : ∀ (bs : List Nat), DpAll K H (bs.map fun b : Nat => V.int (b : Int)) (bs.map fun b : Nat => PyData.int (b : Int))
  | [] => .nil
  | b :: r => .cons (.int _) (dpA r)
theorem dpL {K : PySem.W.Frag} {H : Hp} {a : Addr} {bs : List Nat} (h : SqL K H a (vI bs)) : Dp K H (.ref a) (.list (bs.map fun b : Nat => PyData.int (b : Int))) := .lst h (dpA bs)
theorem eqv_one (l : List Nat) (c : Nat) : PyData.eqv (.list (l.map fun b : Nat => PyData.int (b : Int))) (.list [PyData.int (c : Int)]) = decide (l = [c]) := by
  match l with
  | [] => simp [PyData.eqv, PyData.eqvAll]
  | [b] => 
    simp only [List.map_cons, List.map_nil, PyData.eqv, PyData.eqvAll, Bool.and_true]
    rw [Bool.eq_iff_iff, beq_iff_eq, decide_eq_true_eq]
    constructor
    · intro h
      rw [show b = c by omega]
    · intro h
      cases h
      rfl
  | b :: d :: r => simp [PyData.eqv, PyData.eqvAll]
theorem one_le : 1 ≤ sizeLine := by rw [sizeLine_eq]; decide
theorem shaped_one (l : List Nat) : SeqAt.shaped (.list (l.map fun b : Nat => PyData.int (b : Int))) = true := by
  have a : ∀ l : List Nat, PyData.canLayAll0 (l.map fun b : Nat => PyData.int (b : Int)) = true := fun l => by
    induction l with
    | nil => rfl
    | cons b r ih => simpa [PyData.canLayAll0, PyData.canLay0] using ih
  have d : ∀ l : List Nat, PyData.depthAll (l.map fun b : Nat => PyData.int (b : Int)) = 0 := fun l => by
    induction l with
    | nil => rfl
    | cons b r ih => simpa [PyData.depthAll, PyData.depth] using ih
  unfold SeqAt.shaped
  rw [show PyData.canLay0 (.list (l.map fun b : Nat => PyData.int (b : Int))) = true from a l, show PyData.depth (.list (l.map fun b : Nat => PyData.int (b : Int))) = 1 by rw [PyData.depth, d]]
  rfl
section
variable {P : Program} {w : World} {K : PySem.W.Frag} {mg : Str → Option Value} {base : Heap}
abbrev s_Reader___init__ : Stmt := inClass (top 38) 0
theorem sc_Reader___init__ : FnScope ["self", "data"] ["self", "data"] (defScope s_Reader___init__) := ⟨rfl, rfl, rfl, by decide +kernel, rfl, by decide +kernel, by decide +kernel⟩
theorem ok_initR (T : Txt w K mg) {f : Addr} {fd : FuncData} (F : FunD K "__init__" "Reader.__init__" (defArgs s_Reader___init__) (defBody s_Reader___init__) (defScope s_Reader___init__) [] [] f fd) : FnOk P w K mg base CX0 1 f fd ["self", "data"] (spInitR K) := by
  refine F.ok sc_Reader___init__ (fun vs H Q E h => ?_) (fun cdv A outer s H vs Q E hr h => ⟨_, PSs.nox (pss_cons (ps_fld (pv 0) (pv 1) rfl) (pss_one (ps_fld (pv 0) pe_int rfl))), ?_⟩)
  · obtain ⟨p, dx, da, rfl, _⟩ := h
    rfl
  · obtain ⟨p, dx, da, rfl, hp, h⟩ := h
    refine ⟨_, rfl, _, rfl, p, _, dx, _, rfl, hp, T.clR, T.r, (by show 0 < 1000; decide), ?_⟩
    refine ⟨_, rfl, p, _, dx, _, rfl, upd_same, T.clR, T.r, (by show 1 < 1000; decide), ?_⟩
    refine h _ (upd_same.trans (congrArg (fun q => some (HO.ins _ dx q)) put_newR)) fun b o e hb => ?_
    rw [upd_ne hb, upd_ne hb]
    exact e
abbrev s_Reader_read_code_point : Stmt := inClass (top 38) 9
theorem sc_Reader_read_code_point : FnScope ["self", "place", "end", "code"] ["self"] (defScope s_Reader_read_code_point) := ⟨rfl, rfl, rfl, by decide +kernel, rfl, by decide +kernel, by decide +kernel⟩
theorem ok_read_code_point (T : Txt w K mg) (c_hexadecimal_value : Kept P w K mg base CX0 2 "hexadecimal_value" ["byte"] (spII hexv)) (c_bytes_of_code_point : Kept P w K mg base CX0 1 "bytes_of_code_point" ["code"] spBytes) (c_text_of : Kept P w K mg base CX0 2 "text_of" ["data"] (spTextOf K))
    {f : Addr} {fd : FuncData} (F : FunD K "read_code_point" "Reader.read_code_point" (defArgs s_Reader_read_code_point) (defBody s_Reader_read_code_point) (defScope s_Reader_read_code_point) [] [] f fd) : FnOk P w K mg base (L2.CX P w) 3 f fd ["self"] (spEscU K) := by
  refine F.ok sc_Reader_read_code_point (fun vs H Q E h => ?_) (fun cdv A outer s H vs Q E hr h => ⟨_, (pss_cons (ps_set (i := 1) sc_Reader_read_code_point.nd rfl (Or.inl rfl) (pe_fld (pv 0) rfl)) (pss_cons (ps_set (i := 2) sc_Reader_read_code_point.nd rfl (Or.inl rfl) (pe_op op_add (pv 1) pe_int)) (pss_cons (ps_set (i := 3) sc_Reader_read_code_point.nd rfl (Or.inl rfl) pe_int) (pss_cons (ps_while (passes_of rfl) (PW.pt (pw_and (pt_cmpR op_lt (pv 2) (pe_callB call_len_seq (by rfl) T.nlen PySem.boot_len (pa_cons (pe_fld (pv 0) rfl) pa_nil)) (nomark _)) (pw_and1 (pt_cmpR op_ge (pe_k c_hexadecimal_value hr (by omega) pass0 (pa_cons (pe_ix ix_list (pe_fld (pv 0) rfl) (pv 2) (fun _ _ => rfl)) pa_nil)) pe_int (nomark _))))) (pss_cons (ps_set (i := 3) sc_Reader_read_code_point.nd rfl (Or.inl rfl) (pe_op op_add (pe_op op_mul pe_int (pv 3)) (pe_k c_hexadecimal_value hr (by omega) pass0 (pa_cons (pe_ix ix_list (pe_fld (pv 0) rfl) (pv 2) (fun _ _ => rfl)) pa_nil)))) (pss_one (ps_aug (i := 2) sc_Reader_read_code_point.nd rfl (Or.inl rfl) pe_int ip_add)))) (pss_cons (ps_if (PW.pt (pw_or (pt_cmpR (op_neD (hr64 hr)) (pe_slice sl_list (pe_fld (pv 0) rfl) (po_some (pe_op op_add (pv 1) pe_int)) (po_some (pe_op op_add (pv 1) pe_int))) (pe_lst (pa_cons (C8.pe_gc rfl T.cOPENING_BRACE) pa_nil)) (nomark _)) (pw_or1 (pt_cmpR (op_neD (hr64 hr)) (pe_slice sl_list (pe_fld (pv 0) rfl) (po_some (pv 2)) (po_some (pe_op op_add (pv 2) pe_int))) (pe_lst (pa_cons (C8.pe_gc rfl T.cCLOSING_BRACE) pa_nil)) (nomark _))))) (pss_one (ps_raiseFault rfl T.fault hr (by omega) (takes_of rfl rfl rfl rfl) (pa_cons pe_int (pa_cons (pv 1) pa_nil)))) pss_nil) (pss_cons (ps_if (PW.pt (pw_or (pt_not (pt_chain op_le op_le pe_int (pe_op op_sub (pe_op op_sub (pv 2) (pv 1)) pe_int) pe_int)) (pw_or (pt_cmpR op_gt (pv 3) pe_int (nomark _)) (pw_or1 (pt_chain op_le op_le pe_int (pv 3) pe_int))))) (pss_one (ps_raiseFault rfl T.fault hr (by omega) (takes_of rfl rfl rfl rfl) (pa_cons pe_int (pa_cons (pv 1) pa_nil)))) pss_nil) (pss_cons (ps_fld (pv 0) (pe_op op_add (pv 2) pe_int) rfl) (pss_one (ps_ret (pe_k c_text_of hr (by omega) pass0 (pa_cons (pe_k c_bytes_of_code_point hr (by omega) pass0 (pa_cons (pv 3) pa_nil)) pa_nil))))))))))), ?_⟩)
  · obtain ⟨r, dx, da, bs, i, rfl, _⟩ := h
    rfl
  · obtain ⟨r, dx, da, bs, i, rfl, hR, hi, h117, h⟩ := h
    obtain ⟨h1, h2, h3⟩ := hR
    refine sq ⟨_, rfl, r, _, dx, _, _, rfl, h1, T.clR, rN_at T, lk_at, ?_⟩
    refine sq ⟨_, rfl, _, _, rfl, rfl, ?_⟩
    refine sq ?_
    have hexd : ∀ j, i + 3 ≤ j → Kh450.takeWhile isHexB (bs.drop (i + 3)) = ((bs.drop (i + 3)).take (j - (i + 3)), bs.drop j) → (bs.drop (i + 3)).take (j - (i + 3)) = (Kh450.takeWhile isHexB (bs.drop (i + 3))).1 := fun j _ e => by rw [e]
    refine sq (wh_cut (fun m σ H' => ∃ j, m = bs.length - j ∧ H' = H ∧ σ = [some (.ref r), some (.int (i : Int)), some (.int (j : Nat)), some (.int (hexVal ((bs.drop (i + 3)).take (j - (i + 3))) : Nat))] ∧ i + 3 ≤ j ∧ (j ≤ bs.length ∨ j = i + 3) ∧ 
      Kh450.takeWhile isHexB (bs.drop (i + 3)) = ((bs.drop (i + 3)).take (j - (i + 3)) ++ (Kh450.takeWhile isHexB (bs.drop j)).1, (Kh450.takeWhile isHexB (bs.drop j)).2)) (bs.length - (i + 3))
      (fun σ H' => H' = H ∧ ∃ j, σ = [some (.ref r), some (.int (i : Int)), some (.int (j : Nat)), some (.int (hexVal ((bs.drop (i + 3)).take (j - (i + 3))) : Nat))] ∧ i + 3 ≤ j ∧ (j ≤ bs.length ∨ j = i + 3) ∧ Kh450.takeWhile isHexB (bs.drop (i + 3)) = ((bs.drop (i + 3)).take (j - (i + 3)), bs.drop j)) ⟨i + 3, rfl, rfl, ?_, Nat.le_refl _, .inr rfl, ?_⟩ ?_ ?_)
    · rw [Nat.sub_self, List.take_zero]
      rfl
    · rw [Nat.sub_self, List.take_zero]
      rfl
    · rintro X hX m σ H' ⟨j, rfl, rfl, rfl, hij, hjl, htw⟩
      simp only [cxK, cxW, cxKn, cxWn, tRet, tRetN, tC, tVar, tOp, tUn, rI0, rI, rU, rEq, rNe, scal, tChain, tTest, tB, tIfS, tAnd, tOr, tNot, tAndV, tOrV, tNotV, tIf, tSeq, tNext, tAsg, gName, tDrop, tCons, tNil, tCall, tMeth, tCB, tBM, tBM0, L2.start, List.map_cons, List.map_nil, List.length_cons, List.length_nil, List.replicate, Nat.reduceAdd, Nat.reduceSub, List.cons_append, List.nil_append, List.append_nil, List.getElem?_cons_zero, List.getElem?_cons_succ, List.set_cons_zero, List.set_cons_succ, Option.some.injEq, exists_and_left, exists_and_right, exists_eq_left, exists_eq_left', exists_eq_right, exists_eq_right', exists_eq, exists_eq', V.int.injEq, V.str.injEq, V.ref.injEq, V.bl.injEq, List.cons.injEq, true_and, and_true, and_self, decide_eq_true_eq, exists_const, if_true, if_false, Bool.not_eq_true', decide_eq_false_iff_not, Bool.false_eq_true, reduceIte, Bool.not_true, Bool.not_false, tFld, sFldAug, sFld, L2.rAdd, put_at, rF_len, T.clR, rN_data T, rN_at T, lk_data, lk_at, HO.ins.injEq, and_assoc, h1, rIxL, spII]
      refine ⟨_, .inl h2, ?_⟩
      rw [vI_len]
      by_cases lt : j < bs.length
      · rw [if_pos (by omega)]
        refine ⟨_, h2, _, vI_at lt, _, rfl, ?_⟩
        cases dg : isHexB bs[j] with
        | true =>
          have e0 := hexv_pos _ dg
          rw [if_pos (by omega)]
          have e1 : (bs.drop (i + 3)).take (j + 1 - (i + 3)) = (bs.drop (i + 3)).take (j - (i + 3)) ++ [bs[j]] := by
            have e2 : j + 1 - (i + 3) = (j - (i + 3)) + 1 := by omega
            rw [e2, List.take_add_one, List.getElem?_drop]
            have e3 : i + 3 + (j - (i + 3)) = j := by omega
            rw [e3, List.getElem?_eq_getElem lt]
            rfl
          have e4 : hexVal ((bs.drop (i + 3)).take (j + 1 - (i + 3))) = 16 * hexVal ((bs.drop (i + 3)).take (j - (i + 3))) + hv bs[j] := by
            rw [e1]
            unfold hexVal
            rw [List.foldl_append]
            rfl
          refine ⟨_, fun _ _ z => z, .inl ⟨by decide, by decide⟩, _, h2, _, vI_at lt, _, rfl, ?_⟩
          rw [e0]
          refine ⟨_, rfl, _, _, rfl, rfl, bs.length - (j + 1), by omega, j + 1, rfl, rfl, ?_, by omega, .inl lt, ?_⟩
          · rw [e4]
            simp
          · rw [htw, e1, drop_at lt, takeWhile_go dg]
            simp
        | false =>
          have e0 := hexv_neg _ dg
          rw [if_neg (by omega)]
          refine hX _ _ ⟨rfl, j, rfl, hij, hjl, ?_⟩
          rw [htw, drop_at lt, takeWhile_stop dg, List.append_nil]
      · rw [if_neg (by omega)]
        refine hX _ _ ⟨rfl, j, rfl, hij, hjl, ?_⟩
        have ed : bs.drop j = [] := List.drop_eq_nil_of_le (by omega)
        rw [htw, ed]
        show (_ ++ [], _) = _
        rw [List.append_nil]
        rfl
    · rintro σ H' ⟨rfl, j, rfl, hij, hjl, htw⟩
      dsimp only
      simp only [cxK, cxW, cxKn, cxWn, tRet, tRetN, tC, tVar, tOp, tUn, rI0, rI, rU, rEq, rNe, scal, tChain, tTest, tB, tIfS, tAnd, tOr, tNot, tAndV, tOrV, tNotV, tIf, tSeq, tNext, tAsg, gName, tDrop, tCons, tNil, tCall, tMeth, tCB, tBM, tBM0, L2.start, List.map_cons, List.map_nil, List.length_cons, List.length_nil, List.replicate, Nat.reduceAdd, Nat.reduceSub, List.cons_append, List.nil_append, List.append_nil, List.getElem?_cons_zero, List.getElem?_cons_succ, List.set_cons_zero, List.set_cons_succ, Option.some.injEq, exists_and_left, exists_and_right, exists_eq_left, exists_eq_left', exists_eq_right, exists_eq_right', exists_eq, exists_eq', V.int.injEq, V.str.injEq, V.ref.injEq, V.bl.injEq, List.cons.injEq, true_and, and_true, and_self, decide_eq_true_eq, exists_const, if_true, if_false, Bool.not_eq_true', decide_eq_false_iff_not, Bool.false_eq_true, reduceIte, Bool.not_true, Bool.not_false, tFld, sFldAug, sFld, L2.rAdd, put_at, rF_len, T.clR, rN_data T, rN_at T, lk_data, lk_at, HO.ins.injEq, and_assoc, h1, rIxL, spTextOf, spBytes, tSl, tPart, rSlL, rNeD, tLst]
      have e117 : bs.drop (i + 1) = 117 :: bs.drop (i + 2) := by
        rw [drop_at hi]
        congr 1
        simpa [List.getD, List.getElem?_eq_getElem hi] using h117
      rw [e117] at h
      have c1' : ((i : Int) + 2) = ((i + 2 : Nat) : Int) := by omega
      have c2' : ((i : Int) + 3) = ((i + 3 : Nat) : Int) := by omega
      have c3' : ((j : Int) + 1) = ((j + 1 : Nat) : Int) := by omega
      have d1 : cutV (vI bs) (some ((i : Int) + 2)) (some ((i : Int) + 3)) = vI ((bs.drop (i + 2)).take 1) := by
        rw [c1', c2']
        unfold vI
        rw [cut_any]
        have : i + 3 - (i + 2) = 1 := by omega
        rw [this]
      have d2 : cutV (vI bs) (some (j : Int)) (some ((j : Int) + 1)) = vI ((bs.drop j).take 1) := by
        rw [c3']
        unfold vI
        rw [cut_any]
        have : j + 1 - j = 1 := by omega
        rw [this]
      refine ⟨_, h2, fun p1 n1 => ⟨one_le, fun p2 n2 => ?_⟩⟩
      rw [d1] at n2 ⊢
      have s1 := Same.new (o := .lst (vI ((bs.drop (i + 2)).take 1))) n1
      have s2 := s1.trans (Same.new (o := .lst [V.int 123]) n2)
      have ne12 : p1 ≠ p2 := ne_of_none upd_same n2
      refine ⟨.list (((bs.drop (i + 2)).take 1).map fun b : Nat => PyData.int (b : Int)), dpL (SqL.of ((upd_ne ne12).trans upd_same)), .list [PyData.int ((123 : Nat) : Int)], .lst (SqL.of upd_same) (.cons (.int _) .nil), shaped_one _, shaped_one [123], ?_⟩
      rw [eqv_one]
      by_cases k1 : (bs.drop (i + 2)).headD 0 = 123
      · have q1 := (take1_eq (bs.drop (i + 2)) 123 (by decide)).mpr k1
        rw [if_neg (by rw [q1]; decide)]
        have lt2 : i + 2 < bs.length := by
          rcases Nat.lt_or_ge (i + 2) bs.length with q | q
          · exact q
          · rw [List.drop_eq_nil_of_le q] at k1
            cases k1
        have e123 : bs.drop (i + 2) = 123 :: bs.drop (i + 3) := by
          rw [drop_at lt2] at k1 ⊢
          congr 1
        rw [e123, readEscape_u] at h
        have hcp : cpOf (bs.drop (i + 3)) = if (bs.drop j).headD 0 = 125 ∧ (1 ≤ j - (i + 3) ∧ j - (i + 3) ≤ 6) ∧ hexVal ((bs.drop (i + 3)).take (j - (i + 3))) ≤ 1114111 ∧ ¬ (55296 ≤ hexVal ((bs.drop (i + 3)).take (j - (i + 3))) ∧ hexVal ((bs.drop (i + 3)).take (j - (i + 3))) ≤ 57343) then some (hexVal ((bs.drop (i + 3)).take (j - (i + 3))), (bs.drop j).drop 1) else none := by
          unfold cpOf
          rw [htw]
          dsimp only
          rw [show ((bs.drop (i + 3)).take (j - (i + 3))).length = j - (i + 3) by rw [List.length_take, List.length_drop]; omega]
        rw [hcp] at h
        refine ⟨_, _, _, s2 _ _ h1, T.clR, rN_data T, _, lk_data, _, rfl, _, s2.seq h2, fun p3 n3 => ⟨one_le, fun p4 n4 => ?_⟩⟩
        rw [d2] at n4 ⊢
        have s3 := s2.trans (Same.new (o := .lst (vI ((bs.drop j).take 1))) n3)
        have s4 := s3.trans (Same.new (o := .lst [V.int 125]) n4)
        have ne34 : p3 ≠ p4 := ne_of_none upd_same n4
        refine ⟨.list (((bs.drop j).take 1).map fun b : Nat => PyData.int (b : Int)), dpL (SqL.of ((upd_ne ne34).trans upd_same)), .list [PyData.int ((125 : Nat) : Int)], .lst (SqL.of upd_same) (.cons (.int _) .nil), shaped_one _, shaped_one [125], ?_⟩
        rw [eqv_one]
        by_cases k2 : (bs.drop j).headD 0 = 125
        · have q2 := (take1_eq (bs.drop j) 125 (by decide)).mpr k2
          rw [if_neg (by rw [q2]; decide)]
          by_cases k3 : 1 ≤ j - (i + 3)
          · rw [if_pos (by omega)]
            by_cases k4 : j - (i + 3) ≤ 6
            · rw [if_neg (by omega)]
              by_cases k5 : 1114111 < hexVal ((bs.drop (i + 3)).take (j - (i + 3)))
              · rw [if_pos (by omega)]
                rw [if_neg (fun q => by omega)] at h
                exact raise_at rfl rfl h (fun R q => ⟨_, rfl, q _⟩)
              · rw [if_neg (by omega)]
                by_cases k6 : 55296 ≤ hexVal ((bs.drop (i + 3)).take (j - (i + 3)))
                · rw [if_pos (by omega)]
                  by_cases k7 : hexVal ((bs.drop (i + 3)).take (j - (i + 3))) ≤ 57343
                  · rw [if_pos (by omega)]
                    rw [if_neg (fun q => by omega)] at h
                    exact raise_at rfl rfl h (fun R q => ⟨_, rfl, q _⟩)
                  · rw [if_neg (by omega)]
                    refine ⟨_, _, _, s4 _ _ h1, T.clR, rN_at T, (by rw [rF_len]; decide), _, rfl, by omega, fun H5 p5 s5 h5 => ⟨_, SqL.of h5, (enc_256 _ (by omega)).1, by have := (enc_256 (hexVal ((bs.drop (i + 3)).take (j - (i + 3)))) (by omega)).2; omega, fun H6 s6 => ?_⟩⟩
                    rw [if_pos ⟨k2, ⟨k3, k4⟩, by omega, by omega⟩] at h
                    have sR : Same (upd (upd (upd (upd (upd H' p1 (HO.lst (vI (List.take 1 (List.drop (i + 2) bs))))) p2 (HO.lst [V.int 123])) p3 (HO.lst (vI (List.take 1 (List.drop j bs))))) p4 (HO.lst [V.int 125])) r (HO.ins (He.ga K "Reader") dx (rF da ((j + 1 : Nat) : Int)))) H6 := by
                      rw [put_at, c3'] at s5
                      exact s5.trans s6
                    have ltj : j < bs.length := by
                      rcases Nat.lt_or_ge j bs.length with q | q
                      · exact q
                      · rw [List.drop_eq_nil_of_le q] at k2
                        cases k2
                    have on4 : Only r H' (upd (upd (upd (upd (upd H' p1 (HO.lst (vI (List.take 1 (List.drop (i + 2) bs))))) p2 (HO.lst [V.int 123])) p3 (HO.lst (vI (List.take 1 (List.drop j bs))))) p4 (HO.lst [V.int 125])) r (HO.ins (He.ga K "Reader") dx (rF da ((j + 1 : Nat) : Int)))) := (Only.same s4).upd
                    have on6 := on4.trans (Only.same sR)
                    refine h H6 (j + 1) ⟨sR _ _ upd_same, on6.seq h1 h2, ltj⟩ on6 (by omega) ?_
                    rw [List.drop_drop]
                · rw [if_neg (by omega)]
                  refine ⟨_, _, _, s4 _ _ h1, T.clR, rN_at T, (by rw [rF_len]; decide), _, rfl, by omega, fun H5 p5 s5 h5 => ⟨_, SqL.of h5, (enc_256 _ (by omega)).1, by have := (enc_256 (hexVal ((bs.drop (i + 3)).take (j - (i + 3)))) (by omega)).2; omega, fun H6 s6 => ?_⟩⟩
                  rw [if_pos ⟨k2, ⟨k3, k4⟩, by omega, by omega⟩] at h
                  have sR : Same (upd (upd (upd (upd (upd H' p1 (HO.lst (vI (List.take 1 (List.drop (i + 2) bs))))) p2 (HO.lst [V.int 123])) p3 (HO.lst (vI (List.take 1 (List.drop j bs))))) p4 (HO.lst [V.int 125])) r (HO.ins (He.ga K "Reader") dx (rF da ((j + 1 : Nat) : Int)))) H6 := by
                    rw [put_at, c3'] at s5
                    exact s5.trans s6
                  have ltj : j < bs.length := by
                    rcases Nat.lt_or_ge j bs.length with q | q
                    · exact q
                    · rw [List.drop_eq_nil_of_le q] at k2
                      cases k2
                  have on4 : Only r H' (upd (upd (upd (upd (upd H' p1 (HO.lst (vI (List.take 1 (List.drop (i + 2) bs))))) p2 (HO.lst [V.int 123])) p3 (HO.lst (vI (List.take 1 (List.drop j bs))))) p4 (HO.lst [V.int 125])) r (HO.ins (He.ga K "Reader") dx (rF da ((j + 1 : Nat) : Int)))) := (Only.same s4).upd
                  have on6 := on4.trans (Only.same sR)
                  refine h H6 (j + 1) ⟨sR _ _ upd_same, on6.seq h1 h2, ltj⟩ on6 (by omega) ?_
                  rw [List.drop_drop]
            · rw [if_pos (by omega)]
              rw [if_neg (fun q => k4 q.2.1.2)] at h
              exact raise_at rfl rfl h (fun R q => ⟨_, rfl, q _⟩)
          · rw [if_neg (by omega)]
            rw [if_neg (fun q => k3 q.2.1.1)] at h
            exact raise_at rfl rfl h (fun R q => ⟨_, rfl, q _⟩)
        · rw [if_pos (by rw [decide_eq_false_iff_not, take1_eq _ _ (by decide)]; exact k2)]
          rw [if_neg (fun q => k2 q.1)] at h
          exact raise_at rfl rfl h (fun R q => ⟨_, rfl, q _⟩)
      · rw [if_pos (by rw [decide_eq_false_iff_not, take1_eq _ _ (by decide)]; exact k1)]
        rw [readEscape_u0 _ k1] at h
        exact raise_at rfl rfl h (fun R q => ⟨_, rfl, q _⟩)
end
end Ck
namespace Ck
open PySem PySem.Spec PyProof.Rows L2 RZ
open Kh450 (Node)
/-- an escape sequence from the backslash at i on -/
def spEsc (K : PySem.W.Frag) : Sp := fun vs H Q E => ∃ (r dx da : Addr) (bs : List Nat) (i : Nat), vs = [.ref r] ∧ RdAt K H r dx da bs i ∧ i < bs.length ∧
  (if i + 1 = bs.length then FaultE K E 1 bs.length else EscTo K H Q E r dx da bs i (Kh450.readEscape (bs.drop (i + 1))))
theorem esc_other (l : List Nat) (b : Nat) (h : b ≠ 117) : Kh450.readEscape (b :: l) = (escT.lookup (b : Int)).map fun z => (z.toNat, l) := by
  have e : ∀ c : Nat, ((b : Int) == (c : Int)) = (b == c) := fun c => by
    rw [Bool.eq_iff_iff, beq_iff_eq, beq_iff_eq]
    omega
  show _ = (List.lookup (b : Int) [(((34 : Nat) : Int), (34 : Int)), (((92 : Nat) : Int), 92), (((110 : Nat) : Int), 10), (((116 : Nat) : Int), 9)]).map _
  simp only [List.lookup, e]
  by_cases h1 : b = 34
  · subst h1; rfl
  by_cases h2 : b = 92
  · subst h2; rfl
  by_cases h3 : b = 110
  · subst h3; rfl
  by_cases h4 : b = 116
  · subst h4; rfl
  rw [show (b == 34) = false by simpa using h1, show (b == 92) = false by simpa using h2, show (b == 110) = false by simpa using h3, show (b == 116) = false by simpa using h4]
  unfold Kh450.readEscape
  split <;> simp_all
theorem escT_small (b z : Int) (h : escT.lookup b = some z) : 0 ≤ z ∧ z < 128 := by
  unfold escT at h
  simp only [List.lookup] at h
  (repeat' split at h) <;> first | (cases h; omega) | cases h
def DecTo (K : PySem.W.Frag) (H : Hp) (Q : VK) (E : XK) (r dx da : Addr) (bs : List Nat) (i : Nat) : Option (Nat × List Nat) → Prop
  | none => FaultE K E 4 i
  | some (c, rest) => ∀ H' j, RdAt K H' r dx da bs j → Only r H H' → i < j → bs.drop j = rest → Q (.str (encB (Kh450.encodeUtf8 c))) H'
def spChar (K : PySem.W.Frag) : Sp := fun vs H Q E => ∃ (r dx da : Addr) (bs : List Nat) (i : Nat), vs = [.ref r] ∧ RdAt K H r dx da bs i ∧ (∀ b ∈ bs, b < 256) ∧ i < bs.length ∧
  (if bs.getD i 0 = 92 then (if i + 1 = bs.length then FaultE K E 1 bs.length else EscTo K H Q E r dx da bs i (Kh450.readEscape (bs.drop (i + 1)))) else if bs.getD i 0 < 32 then FaultE K E 2 i else DecTo K H Q E r dx da bs i (Kh450.decodeUtf8 (bs.drop i)))
theorem encB_one (b : Nat) : encB [b] = signOf b := by
  unfold encB catS
  simp
section
variable {P : Program} {w : World} {K : PySem.W.Frag} {mg : Str → Option Value} {base : Heap}
abbrev s_Reader_read_escape : Stmt := inClass (top 38) 8
theorem sc_Reader_read_escape : FnScope ["self", "place", "letter"] ["self"] (defScope s_Reader_read_escape) := ⟨rfl, rfl, rfl, by decide +kernel, rfl, by decide +kernel, by decide +kernel⟩
theorem ok_read_escape (T : Txt w K mg) (c_Reader_read_code_point : KeptM P w K mg base (L2.CX P w) 3 "Reader" "read_code_point" ["self"] (spEscU K)) (c_sign_of : Kept P w K mg base CX0 1 "sign_of" ["byte"] spSign)
    {f : Addr} {fd : FuncData} (F : FunD K "read_escape" "Reader.read_escape" (defArgs s_Reader_read_escape) (defBody s_Reader_read_escape) (defScope s_Reader_read_escape) [] [] f fd) : FnOk P w K mg base (L2.CX P w) 4 f fd ["self"] (spEsc K) := by
  refine F.ok sc_Reader_read_escape (fun vs H Q E h => ?_) (fun cdv A outer s H vs Q E hr h => ⟨_, (pss_cons (ps_set (i := 1) sc_Reader_read_escape.nd rfl (Or.inl rfl) (pe_fld (pv 0) rfl)) (pss_cons (ps_if (pt_cmpR op_eq (pe_op op_add (pv 1) pe_int) (pe_callB call_len_seq (by rfl) T.nlen PySem.boot_len (pa_cons (pe_fld (pv 0) rfl) pa_nil)) (nomark _)) (pss_one (ps_raiseFault rfl T.fault hr (by omega) (takes_of rfl rfl rfl rfl) (pa_cons pe_int (pa_cons (pe_callB call_len_seq (by rfl) T.nlen PySem.boot_len (pa_cons (pe_fld (pv 0) rfl) pa_nil)) pa_nil)))) pss_nil) (pss_cons (ps_set (i := 2) sc_Reader_read_escape.nd rfl (Or.inl rfl) (pe_ix ix_list (pe_fld (pv 0) rfl) (pe_op op_add (pv 1) pe_int) (fun _ _ => rfl))) (pss_cons (ps_if (pt_cmpR op_eq (pv 2) (C8.pe_gc rfl T.cLETTER_U) (nomark _)) (pss_one (ps_ret (pe_km0 c_Reader_read_code_point hr (by omega) (pass_on (CX' := L2.CX P w)) (pv 0)))) pss_nil) (pss_cons (ps_if (pt_cmpR (op_notIn_kdi T.dSHORT_ESCAPES) (pv 2) (pe_gref T.gSHORT_ESCAPES) (by with_unfolding_all rfl)) (pss_one (ps_raiseFault rfl T.fault hr (by omega) (takes_of rfl rfl rfl rfl) (pa_cons pe_int (pa_cons (pv 1) pa_nil)))) pss_nil) (pss_cons (ps_fldaug (pv 0) pe_int in_add) (pss_one (ps_ret (pe_k c_sign_of hr (by omega) pass0 (pa_cons (pe_ix (ix_kdi T.dSHORT_ESCAPES) (pe_gref T.gSHORT_ESCAPES) (pv 2) (fun _ _ => rfl)) pa_nil)))))))))), ?_⟩)
  · obtain ⟨r, dx, da, bs, i, rfl, _⟩ := h
    rfl
  · obtain ⟨r, dx, da, bs, i, rfl, hR, hi, h⟩ := h
    obtain ⟨h1, h2, h3⟩ := hR
    refine sq ⟨_, rfl, r, _, dx, _, _, rfl, h1, T.clR, rN_at T, lk_at, ?_⟩
    simp only [cxK, cxW, cxKn, cxWn, tRet, tRetN, tC, tVar, tOp, tUn, rI0, rI, rU, rEq, rNe, scal, tChain, tTest, tB, tIfS, tAnd, tOr, tNot, tAndV, tOrV, tNotV, tIf, tSeq, tNext, tAsg, gName, tDrop, tCons, tNil, tCall, tMeth, tCB, tBM, tBM0, L2.start, List.map_cons, List.map_nil, List.length_cons, List.length_nil, List.replicate, Nat.reduceAdd, Nat.reduceSub, List.cons_append, List.nil_append, List.append_nil, List.getElem?_cons_zero, List.getElem?_cons_succ, List.set_cons_zero, List.set_cons_succ, Option.some.injEq, exists_and_left, exists_and_right, exists_eq_left, exists_eq_left', exists_eq_right, exists_eq_right', exists_eq, exists_eq', V.int.injEq, V.str.injEq, V.ref.injEq, V.bl.injEq, List.cons.injEq, true_and, and_true, and_self, decide_eq_true_eq, exists_const, if_true, if_false, Bool.not_eq_true', decide_eq_false_iff_not, Bool.false_eq_true, reduceIte, Bool.not_true, Bool.not_false, tFld, sFldAug, sFld, L2.rAdd, put_at, rF_len, T.clR, rN_data T, rN_at T, lk_data, lk_at, HO.ins.injEq, and_assoc, h1, rIxL]
    refine ⟨_, .inl h2, ?_⟩
    rw [vI_len]
    by_cases e : i + 1 = bs.length
    · rw [if_pos (by omega)]
      rw [if_pos e] at h
      refine raise_at rfl rfl h (fun R q => ?_)
      simp only [cxK, cxW, cxKn, cxWn, tRet, tRetN, tC, tVar, tOp, tUn, rI0, rI, rU, rEq, rNe, scal, tChain, tTest, tB, tIfS, tAnd, tOr, tNot, tAndV, tOrV, tNotV, tIf, tSeq, tNext, tAsg, gName, tDrop, tCons, tNil, tCall, tMeth, tCB, tBM, tBM0, L2.start, List.map_cons, List.map_nil, List.length_cons, List.length_nil, List.replicate, Nat.reduceAdd, Nat.reduceSub, List.cons_append, List.nil_append, List.append_nil, List.getElem?_cons_zero, List.getElem?_cons_succ, List.set_cons_zero, List.set_cons_succ, Option.some.injEq, exists_and_left, exists_and_right, exists_eq_left, exists_eq_left', exists_eq_right, exists_eq_right', exists_eq, exists_eq', V.int.injEq, V.str.injEq, V.ref.injEq, V.bl.injEq, List.cons.injEq, true_and, and_true, and_self, decide_eq_true_eq, exists_const, if_true, if_false, Bool.not_eq_true', decide_eq_false_iff_not, Bool.false_eq_true, reduceIte, Bool.not_true, Bool.not_false, tFld, sFldAug, sFld, L2.rAdd, put_at, rF_len, T.clR, rN_data T, rN_at T, lk_data, lk_at, HO.ins.injEq, and_assoc, h1]
      refine ⟨_, .inl h2, ?_⟩
      rw [vI_len]
      exact q _
    · rw [if_neg (by omega)]
      rw [if_neg e] at h
      have lt : i + 1 < bs.length := by omega
      have c1 : ((i : Int) + 1) = ((i + 1 : Nat) : Int) := by omega
      refine ⟨_, h2, _, by rw [c1]; exact vI_at lt, ?_⟩
      have ed : bs.drop (i + 1) = bs[i + 1] :: bs.drop (i + 2) := drop_at lt
      have g0 : bs.getD (i + 1) 0 = bs[i + 1] := by simp [List.getD, List.getElem?_eq_getElem lt]
      refine ⟨(by first | rfl | trivial), ?_⟩
      by_cases u : bs[i + 1] = 117
      · rw [if_pos (show V.int (bs[i + 1] : Nat) = V.int 117 from (int_eq (c := 117)).mpr u)]
        exact ⟨rF_none, r, dx, da, bs, i, rfl, ⟨h1, h2, h3⟩, lt, by rw [g0, u], h⟩
      · rw [if_neg (show ¬ V.int (bs[i + 1] : Nat) = V.int 117 from fun q => u ((int_eq (c := 117)).mp q))]
        rw [ed, esc_other _ _ u] at h
        refine ⟨_, rfl, ?_⟩
        cases lk : escT.lookup (bs[i + 1] : Int) with
        | none =>
          rw [if_pos (by first | rfl | trivial)]
          rw [lk] at h
          exact raise_at rfl rfl h (fun R q => ⟨_, rfl, q _⟩)
        | some z =>
          rw [if_neg (by simp)]
          rw [lk] at h
          obtain ⟨z0, z1⟩ := escT_small _ _ lk
          obtain ⟨zn, rfl⟩ := Int.eq_ofNat_of_zero_le z0
          refine ⟨(by decide), _, _, rfl, rfl, lk, zn, rfl, by omega, ?_⟩
          have c2 : ((i : Int) + 2) = ((i + 2 : Nat) : Int) := by omega
          rw [c2]
          have e1 : Kh450.encodeUtf8 zn = [zn] := by
            unfold Kh450.encodeUtf8
            rw [if_pos (by omega)]
          have e2 : encB [zn] = signOf zn := by
            unfold encB catS
            simp
          have := h _ (i + 2) (RdAt.step ⟨h1, h2, h3⟩ (by omega)) (Only.upd Only.refl) (by omega) rfl
          rw [show ((zn : Int)).toNat = zn from rfl, e1, e2] at this
          exact this
abbrev s_Reader_read_character : Stmt := inClass (top 38) 7
theorem sc_Reader_read_character : FnScope ["self", "byte", "length"] ["self"] (defScope s_Reader_read_character) := ⟨rfl, rfl, rfl, by decide +kernel, rfl, by decide +kernel, by decide +kernel⟩
theorem ok_read_character (T : Txt w K mg) (c_Reader_read_escape : KeptM P w K mg base (L2.CX P w) 4 "Reader" "read_escape" ["self"] (spEsc K)) (c_sign_of : Kept P w K mg base CX0 1 "sign_of" ["byte"] spSign)
    (c_sequence_length : Kept P w K mg base CX0 2 "sequence_length" ["data", "at"] (spSeqLen K)) (c_text_of : Kept P w K mg base CX0 2 "text_of" ["data"] (spTextOf K))
    {f : Addr} {fd : FuncData} (F : FunD K "read_character" "Reader.read_character" (defArgs s_Reader_read_character) (defBody s_Reader_read_character) (defScope s_Reader_read_character) [] [] f fd) : FnOk P w K mg base (L2.CX P w) 5 f fd ["self"] (spChar K) := by
  refine F.ok sc_Reader_read_character (fun vs H Q E h => ?_) (fun cdv A outer s H vs Q E hr h => ⟨_, (pss_cons (ps_set (i := 1) sc_Reader_read_character.nd rfl (Or.inl rfl) (pe_ix ix_list (pe_fld (pv 0) rfl) (pe_fld (pv 0) rfl) (fun _ _ => rfl))) (pss_cons (ps_if (pt_cmpR op_lt (pv 1) pe_int (nomark _)) (pss_one (ps_raiseFault rfl T.fault hr (by omega) (takes_of rfl rfl rfl rfl) (pa_cons pe_int (pa_cons (pe_fld (pv 0) rfl) pa_nil)))) pss_nil) (pss_cons (ps_if (pt_cmpR op_eq (pv 1) (C8.pe_gc rfl T.cBACKSLASH) (nomark _)) (pss_one (ps_ret (pe_km0 c_Reader_read_escape hr (by omega) (pass_on (CX' := L2.CX P w)) (pv 0)))) pss_nil) (pss_cons (ps_if (pt_cmpR op_lt (pv 1) pe_int (nomark _)) (pss_cons (ps_fldaug (pv 0) pe_int in_add) (pss_one (ps_ret (pe_k c_sign_of hr (by omega) pass0 (pa_cons (pv 1) pa_nil))))) pss_nil) (pss_cons (ps_set (i := 2) sc_Reader_read_character.nd rfl (Or.inl rfl) (pe_k c_sequence_length hr (by omega) pass0 (pa_cons (pe_fld (pv 0) rfl) (pa_cons (pe_fld (pv 0) rfl) pa_nil)))) (pss_cons (ps_if (pt_cmpR op_eq (pv 2) pe_int (nomark _)) (pss_one (ps_raiseFault rfl T.fault hr (by omega) (takes_of rfl rfl rfl rfl) (pa_cons pe_int (pa_cons (pe_fld (pv 0) rfl) pa_nil)))) pss_nil) (pss_cons (ps_fldaug (pv 0) (pv 2) in_add) (pss_one (ps_ret (pe_k c_text_of hr (by omega) pass0 (pa_cons (pe_slice sl_list (pe_fld (pv 0) rfl) (po_some (pe_op op_sub (pe_fld (pv 0) rfl) (pv 2))) (po_some (pe_fld (pv 0) rfl))) pa_nil))))))))))), ?_⟩)
  · obtain ⟨r, dx, da, bs, i, rfl, _⟩ := h
    rfl
  · obtain ⟨r, dx, da, bs, i, rfl, hR, h256, lt, h⟩ := h
    obtain ⟨h1, h2, h3⟩ := hR
    have g0 : bs.getD i 0 = bs[i] := by simp [List.getD, List.getElem?_eq_getElem lt]
    rw [g0] at h
    refine sq ?_
    simp only [cxK, cxW, cxKn, cxWn, tRet, tRetN, tC, tVar, tOp, tUn, rI0, rI, rU, rEq, rNe, scal, tChain, tTest, tB, tIfS, tAnd, tOr, tNot, tAndV, tOrV, tNotV, tIf, tSeq, tNext, tAsg, gName, tDrop, tCons, tNil, tCall, tMeth, tCB, tBM, tBM0, L2.start, List.map_cons, List.map_nil, List.length_cons, List.length_nil, List.replicate, Nat.reduceAdd, Nat.reduceSub, List.cons_append, List.nil_append, List.append_nil, List.getElem?_cons_zero, List.getElem?_cons_succ, List.set_cons_zero, List.set_cons_succ, Option.some.injEq, exists_and_left, exists_and_right, exists_eq_left, exists_eq_left', exists_eq_right, exists_eq_right', exists_eq, exists_eq', V.int.injEq, V.str.injEq, V.ref.injEq, V.bl.injEq, List.cons.injEq, true_and, and_true, and_self, decide_eq_true_eq, exists_const, if_true, if_false, Bool.not_eq_true', decide_eq_false_iff_not, Bool.false_eq_true, reduceIte, Bool.not_true, Bool.not_false, tFld, sFldAug, sFld, L2.rAdd, put_at, rF_len, T.clR, rN_data T, rN_at T, lk_data, lk_at, HO.ins.injEq, and_assoc, h1, rIxL]
    refine ⟨_, h2, _, vI_at lt, _, rfl, ?_⟩
    by_cases k1 : bs[i] < 32
    · rw [if_pos (by omega)]
      rw [if_neg (by omega), if_pos k1] at h
      refine raise_at rfl rfl h (fun R q => ?_)
      simp only [cxK, cxW, cxKn, cxWn, tRet, tRetN, tC, tVar, tOp, tUn, rI0, rI, rU, rEq, rNe, scal, tChain, tTest, tB, tIfS, tAnd, tOr, tNot, tAndV, tOrV, tNotV, tIf, tSeq, tNext, tAsg, gName, tDrop, tCons, tNil, tCall, tMeth, tCB, tBM, tBM0, L2.start, List.map_cons, List.map_nil, List.length_cons, List.length_nil, List.replicate, Nat.reduceAdd, Nat.reduceSub, List.cons_append, List.nil_append, List.append_nil, List.getElem?_cons_zero, List.getElem?_cons_succ, List.set_cons_zero, List.set_cons_succ, Option.some.injEq, exists_and_left, exists_and_right, exists_eq_left, exists_eq_left', exists_eq_right, exists_eq_right', exists_eq, exists_eq', V.int.injEq, V.str.injEq, V.ref.injEq, V.bl.injEq, List.cons.injEq, true_and, and_true, and_self, decide_eq_true_eq, exists_const, if_true, if_false, Bool.not_eq_true', decide_eq_false_iff_not, Bool.false_eq_true, reduceIte, Bool.not_true, Bool.not_false, tFld, sFldAug, sFld, L2.rAdd, put_at, rF_len, T.clR, rN_data T, rN_at T, lk_data, lk_at, HO.ins.injEq, and_assoc, h1]
      exact q _
    rw [if_neg (by omega)]
    refine ⟨(by first | rfl | trivial), ?_⟩
    by_cases k2 : bs[i] = 92
    · rw [if_pos (show V.int (bs[i] : Nat) = V.int 92 from (int_eq (c := 92)).mpr k2)]
      rw [if_pos k2] at h
      exact ⟨rF_none, r, dx, da, bs, i, rfl, ⟨h1, h2, h3⟩, lt, h⟩
    rw [if_neg (show ¬ V.int (bs[i] : Nat) = V.int 92 from fun q => k2 ((int_eq (c := 92)).mp q))]
    rw [if_neg k2, if_neg k1] at h
    have ed : bs.drop i = bs[i] :: bs.drop (i + 1) := drop_at lt
    refine ⟨_, rfl, ?_⟩
    by_cases k3 : bs[i] < 128
    · rw [if_pos (by omega)]
      rw [ed, show Kh450.decodeUtf8 (bs[i] :: bs.drop (i + 1)) = some (bs[i], bs.drop (i + 1)) from if_pos k3] at h
      have e1 : Kh450.encodeUtf8 bs[i] = [bs[i]] := by
        unfold Kh450.encodeUtf8
        rw [if_pos k3]
      have c1 : ((i : Int) + 1) = ((i + 1 : Nat) : Int) := by omega
      have := h _ (i + 1) (RdAt.step ⟨h1, h2, h3⟩ lt) (Only.upd Only.refl) (by omega) rfl
      rw [e1, encB_one] at this
      rw [c1]
      exact ⟨(by decide), _, rfl, by omega, this⟩
    rw [if_neg (by omega)]
    refine ⟨da, bs, i, rfl, h2, lt, fun H1 s1 => ⟨(by first | rfl | trivial), ?_⟩⟩
    have g1 := s1 _ _ h1
    have ds := dec_seq bs[i] (bs.drop (i + 1)) (by omega)
    rw [← ed] at ds
    rcases ds with ⟨z, dn⟩ | ⟨n2, nl, c, dc, ec, cb⟩
    · rw [z, if_pos (by rfl)]
      rw [dn] at h
      refine raise_at rfl rfl h (fun R q => ?_)
      simp only [cxK, cxW, cxKn, cxWn, tRet, tRetN, tC, tVar, tOp, tUn, rI0, rI, rU, rEq, rNe, scal, tChain, tTest, tB, tIfS, tAnd, tOr, tNot, tAndV, tOrV, tNotV, tIf, tSeq, tNext, tAsg, gName, tDrop, tCons, tNil, tCall, tMeth, tCB, tBM, tBM0, L2.start, List.map_cons, List.map_nil, List.length_cons, List.length_nil, List.replicate, Nat.reduceAdd, Nat.reduceSub, List.cons_append, List.nil_append, List.append_nil, List.getElem?_cons_zero, List.getElem?_cons_succ, List.set_cons_zero, List.set_cons_succ, Option.some.injEq, exists_and_left, exists_and_right, exists_eq_left, exists_eq_left', exists_eq_right, exists_eq_right', exists_eq, exists_eq', V.int.injEq, V.str.injEq, V.ref.injEq, V.bl.injEq, List.cons.injEq, true_and, and_true, and_self, decide_eq_true_eq, exists_const, if_true, if_false, Bool.not_eq_true', decide_eq_false_iff_not, Bool.false_eq_true, reduceIte, Bool.not_true, Bool.not_false, tFld, sFldAug, sFld, L2.rAdd, put_at, rF_len, T.clR, rN_data T, rN_at T, lk_data, lk_at, HO.ins.injEq, and_assoc, g1]
      exact q _
    · rw [if_neg (fun q => by have := V.int.inj q; omega)]
      rw [dc] at h
      generalize seqLen (bs.drop i) = n at *
      have nl2 : i + n ≤ bs.length := by
        rw [List.length_drop] at nl
        omega
      refine ⟨_, _, _, g1, T.clR, rN_at T, _, lk_at, _, rfl, _, rfl, _, _, g1, (by rw [rF_len]; decide), ?_⟩
      have c1 : ((i : Int) + (n : Int)) = ((i + n : Nat) : Int) := by omega
      rw [put_at, c1]
      have hR2 := RdAt.step (dx := dx) (j := i + n) ⟨g1, s1.seq h2, h3⟩ nl2
      obtain ⟨u1, u2, u3⟩ := hR2
      have on1 : Only r H (upd H1 r (.ins (He.ga K "Reader") dx (rF da ((i + n : Nat) : Int)))) := (Only.same s1).upd
      generalize upd H1 r (.ins (He.ga K "Reader") dx (rF da ((i + n : Nat) : Int))) = H2 at *
      simp only [cxK, cxW, cxKn, cxWn, tRet, tRetN, tC, tVar, tOp, tUn, rI0, rI, rU, rEq, rNe, scal, tChain, tTest, tB, tIfS, tAnd, tOr, tNot, tAndV, tOrV, tNotV, tIf, tSeq, tNext, tAsg, gName, tDrop, tCons, tNil, tCall, tMeth, tCB, tBM, tBM0, L2.start, List.map_cons, List.map_nil, List.length_cons, List.length_nil, List.replicate, Nat.reduceAdd, Nat.reduceSub, List.cons_append, List.nil_append, List.append_nil, List.getElem?_cons_zero, List.getElem?_cons_succ, List.set_cons_zero, List.set_cons_succ, Option.some.injEq, exists_and_left, exists_and_right, exists_eq_left, exists_eq_left', exists_eq_right, exists_eq_right', exists_eq, exists_eq', V.int.injEq, V.str.injEq, V.ref.injEq, V.bl.injEq, List.cons.injEq, true_and, and_true, and_self, decide_eq_true_eq, exists_const, if_true, if_false, Bool.not_eq_true', decide_eq_false_iff_not, Bool.false_eq_true, reduceIte, Bool.not_true, Bool.not_false, tFld, sFldAug, sFld, L2.rAdd, put_at, rF_len, T.clR, rN_data T, rN_at T, lk_data, lk_at, HO.ins.injEq, and_assoc, tSl, tPart, rSlL, u1]
      refine ⟨_, u2, fun p hp => ?_⟩
      have c2 : (((i + n : Nat) : Int) - (n : Int)) = ((i : Nat) : Int) := by omega
      rw [c2, cut_vI bs i (i + n) (by omega) nl2, show i + n - i = n by omega]
      have s2 := Same.new (o := .lst (vI ((bs.drop i).take n))) hp
      refine ⟨p, (bs.drop i).take n, rfl, SqL.of upd_same, fun b hb => h256 b (List.mem_of_mem_drop (List.mem_of_mem_take hb)), ?_, fun H3 s3 => ?_⟩
      · rw [← ec]
        have := (enc_256 c cb).2
        omega
      · rw [← ec]
        have sm := s2.trans s3
        exact h H3 (i + n) ⟨sm _ _ u1, sm.seq u2, u3⟩ (on1.trans (Only.same sm)) (by omega) (by rw [List.drop_drop])
end
end Ck
namespace Ck
open PySem PySem.Spec PyProof.Rows L2 RZ
open Kh450 (Node)
def NodeTo (K : PySem.W.Frag) (H : Hp) (Q : VK) (E : XK) (r dx da : Addr) (bs : List Nat) (i : Nat) : Kh450.Read Node → Prop
  | .error k rest => FaultE K E k (bs.length - rest.length)
  | .ok n rest => ∀ H' j a, RdAt K H' r dx da bs j → Only r H H' → i < j → bs.drop j = rest → ExAt (ECl K) H' n a → Q (.ref a) H'
def spReadStr (K : PySem.W.Frag) : Sp := fun vs H Q E => ∃ (r dx da : Addr) (bs : List Nat) (i : Nat), vs = [.ref r] ∧ RdAt K H r dx da bs i ∧ (∀ b ∈ bs, b < 256) ∧ bs.length ≤ 600 ∧ i < bs.length ∧
  NodeTo K H Q E r dx da bs i ((Kh450.readString (bs.drop (i + 1)).length (bs.drop (i + 1))).bind fun content rest => .ok (.string i content) rest)
theorem enc_len (c : Nat) : (Kh450.encodeUtf8 c).length ≤ 4 := by
  unfold Kh450.encodeUtf8
  split
  · simp
  · split
    · simp
    · split <;> simp
theorem rs_step (f b : Nat) (rest : List Nat) (hb : b ≠ 34) : Kh450.readString (f + 1) (b :: rest) =
    if b = 92 then (if rest = [] then .error 1 [] else match Kh450.readEscape rest with
      | none => .error 3 (b :: rest)
      | some (c, rest) => (Kh450.readString f rest).bind fun codes rest => .ok (c :: codes) rest)
    else if b < 32 then .error 2 (b :: rest)
    else match Kh450.decodeUtf8 (b :: rest) with
      | none => .error 4 (b :: rest)
      | some (c, rest) => (Kh450.readString f rest).bind fun codes rest => .ok (c :: codes) rest := by
  match rest with
  | [] =>
    by_cases h : b = 92
    · subst h
      rfl
    · rw [if_neg h]
      show (if b = 34 then _ else if b = 92 then _ else _) = _
      rw [if_neg hb, if_neg h]
      rfl
  | x :: y =>
    show (if b = 34 then _ else if b = 92 then _ else _) = _
    rw [if_neg hb]
    split <;> rfl
theorem bind_bind {α β γ : Type} (r : Kh450.Read α) (f : α → List Nat → Kh450.Read β) (g : β → List Nat → Kh450.Read γ) : (r.bind f).bind g = r.bind fun a rest => (f a rest).bind g := by
  cases r <;> rfl
theorem bind_err {α β : Type} (k : Nat) (rest : List Nat) (f : α → List Nat → Kh450.Read β) : (Kh450.Read.error k rest).bind f = .error k rest := rfl
theorem bind_ok {α β : Type} (a : α) (rest : List Nat) (f : α → List Nat → Kh450.Read β) : (Kh450.Read.ok a rest).bind f = f a rest := rfl
theorem catS_enc (pre : List Nat) : catS (pre.map fun c => encB (Kh450.encodeUtf8 c)) = encB (Kh450.encodeAll pre) := by
  unfold encB Kh450.encodeAll
  unfold catS
  congr 1
  congr 1
  induction pre with
  | nil => rfl
  | cons c r ih =>
    rw [List.map_cons, List.flatMap_cons, ih, List.flatMap_cons, List.map_append, List.flatMap_append]
theorem encAll_len (pre : List Nat) : (Kh450.encodeAll pre).length ≤ 4 * pre.length := by
  unfold Kh450.encodeAll
  induction pre with
  | nil => simp
  | cons c r ih =>
    have := enc_len c
    rw [List.flatMap_cons, List.length_append, List.length_cons]
    omega
theorem sum_encB (pre : List Nat) : ((pre.map fun c => encB (Kh450.encodeUtf8 c)).map fun y : Str => y.length).sum ≤ 20 * pre.length := by
  induction pre with
  | nil => simp
  | cons c r ih =>
    have h1 := encB_len (Kh450.encodeUtf8 c)
    have h2 := enc_len c
    rw [List.map_cons, List.map_cons, List.sum_cons, List.length_cons]
    omega
section
variable {P : Program} {w : World} {K : PySem.W.Frag} {mg : Str → Option Value} {base : Heap}
abbrev s_Reader_read_string : Stmt := inClass (top 38) 6
theorem sc_Reader_read_string : FnScope ["self", "place", "pieces", "byte"] ["self"] (defScope s_Reader_read_string) := ⟨rfl, rfl, rfl, by decide +kernel, rfl, by decide +kernel, by decide +kernel⟩
theorem ok_read_string (T : Txt w K mg) (c_Reader_read_character : KeptM P w K mg base (L2.CX P w) 5 "Reader" "read_character" ["self"] (spChar K)) (c_make_string : Kept P w K mg base CX0 3 "make_string" ["text", "place"] (spMkStr (He.ga K "Expression")))
    {f : Addr} {fd : FuncData} (F : FunD K "read_string" "Reader.read_string" (defArgs s_Reader_read_string) (defBody s_Reader_read_string) (defScope s_Reader_read_string) [] [] f fd) : FnOk P w K mg base (L2.CX P w) 6 f fd ["self"] (spReadStr K) := by
  refine F.ok sc_Reader_read_string (fun vs H Q E h => ?_) (fun cdv A outer s H vs Q E hr h => ⟨_, (pss_cons (ps_set (i := 1) sc_Reader_read_string.nd rfl (Or.inl rfl) (pe_fld (pv 0) rfl)) (pss_cons (ps_set (i := 2) sc_Reader_read_string.nd rfl (Or.inl rfl) (pe_lst pa_nil)) (pss_cons (ps_fldaug (pv 0) pe_int in_add) (pss_cons (ps_while (passes_of rfl) (pt_cmpR op_lt (pe_fld (pv 0) rfl) (pe_callB call_len_seq (by rfl) T.nlen PySem.boot_len (pa_cons (pe_fld (pv 0) rfl) pa_nil)) (nomark _)) (pss_cons (ps_set (i := 3) sc_Reader_read_string.nd rfl (Or.inl rfl) (pe_ix ix_list (pe_fld (pv 0) rfl) (pe_fld (pv 0) rfl) (fun _ _ => rfl))) (pss_cons (ps_if (pt_cmpR op_eq (pv 3) (C8.pe_gc rfl T.cQUOTATION_MARK) (nomark _)) (pss_cons (ps_fldaug (pv 0) pe_int in_add) (pss_one (ps_ret (pe_k c_make_string hr (by omega) pass0 (pa_cons (pe_join pe_str (pv 2)) (pa_cons (pv 1) pa_nil)))))) pss_nil) (pss_one (ps_expr (pe_bm PySem.F.plainAttrs_list PySem.F.slot_list_append PySem.F.type_list_append mt_append (pv 2) (pa_cons (pe_km0 c_Reader_read_character hr (by omega) (pass_on (CX' := L2.CX P w)) (pv 0)) pa_nil))))))) (pss_one (ps_raiseFault rfl T.fault hr (by omega) (takes_of rfl rfl rfl rfl) (pa_cons pe_int (pa_cons (pe_callB call_len_seq (by rfl) T.nlen PySem.boot_len (pa_cons (pe_fld (pv 0) rfl) pa_nil)) pa_nil)))))))), ?_⟩)
  · obtain ⟨r, dx, da, bs, i, rfl, _⟩ := h
    rfl
  · obtain ⟨r, dx, da, bs, i, rfl, hR, h256, h600, lt0, h⟩ := h
    obtain ⟨h1, h2, h3⟩ := hR
    refine sq ⟨_, rfl, r, _, dx, _, _, rfl, h1, T.clR, rN_at T, lk_at, ?_⟩
    refine sq ⟨Nat.zero_le _, fun pl npl => ?_⟩
    have rpl : r ≠ pl := ne_of_none h1 npl
    have s1 := Same.new (o := .lst []) npl
    refine sq ⟨_, rfl, r, _, dx, _, _, rfl, s1 _ _ h1, T.clR, rN_at T, lk_at, ?_⟩
    refine ⟨_, _, rfl, rfl, _, _, s1 _ _ h1, (by rw [rF_len]; decide), ?_⟩
    have c1 : ((i : Int) + 1) = ((i + 1 : Nat) : Int) := by omega
    rw [put_at, c1]
    have hR2 := RdAt.step (dx := dx) (j := i + 1) ⟨s1 _ _ h1, s1.seq h2, h3⟩ lt0
    have on1 : Only r H (upd (upd H pl (.lst [])) r (.ins (He.ga K "Reader") dx (rF da ((i + 1 : Nat) : Int)))) := (Only.same s1).upd
    have hpl : upd (upd H pl (.lst [])) r (.ins (He.ga K "Reader") dx (rF da ((i + 1 : Nat) : Int))) pl = some (.lst []) := (upd_ne rpl.symm).trans upd_same
    generalize upd (upd H pl (.lst [])) r (.ins (He.ga K "Reader") dx (rF da ((i + 1 : Nat) : Int))) = H2 at *
    dsimp only
    refine sq (wh_cut (fun m σ H' => ∃ j fuel pre, m = bs.length - j ∧ (∃ v, σ = [some (.ref r), some (.int (i : Int)), some (.ref pl), v]) ∧ RdAt K H' r dx da bs j ∧ Only r H H' ∧ H' pl = some (.lst (pre.map fun c => V.str (encB (Kh450.encodeUtf8 c)))) ∧ pre.length + i + 1 ≤ j ∧ (bs.drop j).length ≤ fuel ∧
      Kh450.readString (bs.drop (i + 1)).length (bs.drop (i + 1)) = (Kh450.readString fuel (bs.drop j)).bind fun codes rest => .ok (pre ++ codes) rest) (bs.length - (i + 1))
      (fun σ H' => ∃ v, σ = [some (.ref r), some (.int (i : Int)), some (.ref pl), v] ∧ RdAt K H' r dx da bs bs.length ∧ FaultE K E 1 bs.length) ⟨i + 1, _, [], rfl, ⟨none, rfl⟩, hR2, on1, hpl, (by simp), Nat.le_refl _, ?_⟩ ?_ ?_)
    · cases Kh450.readString (bs.drop (i + 1)).length (bs.drop (i + 1)) <;> rfl
    · rintro X hX m σ H' ⟨j, fuel, pre, rfl, ⟨v, rfl⟩, ⟨u1, u2, u3⟩, on, hp, hj, hf, hrs⟩
      rw [hrs] at h
      simp only [cxK, cxW, cxKn, cxWn, tRet, tRetN, tC, tVar, tOp, tUn, rI0, rI, rU, rEq, rNe, scal, tChain, tTest, tB, tIfS, tAnd, tOr, tNot, tAndV, tOrV, tNotV, tIf, tSeq, tNext, tAsg, gName, tDrop, tCons, tNil, tCall, tMeth, tCB, tBM, tBM0, L2.start, List.map_cons, List.map_nil, List.length_cons, List.length_nil, List.replicate, Nat.reduceAdd, Nat.reduceSub, List.cons_append, List.nil_append, List.append_nil, List.getElem?_cons_zero, List.getElem?_cons_succ, List.set_cons_zero, List.set_cons_succ, Option.some.injEq, exists_and_left, exists_and_right, exists_eq_left, exists_eq_left', exists_eq_right, exists_eq_right', exists_eq, exists_eq', V.int.injEq, V.str.injEq, V.ref.injEq, V.bl.injEq, List.cons.injEq, true_and, and_true, and_self, decide_eq_true_eq, exists_const, if_true, if_false, Bool.not_eq_true', decide_eq_false_iff_not, Bool.false_eq_true, reduceIte, Bool.not_true, Bool.not_false, tFld, sFldAug, sFld, L2.rAdd, put_at, rF_len, T.clR, rN_data T, rN_at T, lk_data, lk_at, HO.ins.injEq, and_assoc, u1, rIxL]
      refine ⟨_, .inl u2, ?_⟩
      rw [vI_len]
      by_cases lt : j < bs.length
      · rw [if_pos (by omega)]
        have ed := drop_at lt
        have lf : (bs.drop j).length = bs.length - j := List.length_drop
        obtain ⟨f, rfl⟩ : ∃ f, fuel = f + 1 := ⟨fuel - 1, by omega⟩
        refine ⟨_, fun _ _ z => z, _, u2, _, vI_at lt, (by first | rfl | trivial), ?_⟩
        by_cases k1 : bs[j] = 34
        · rw [if_pos (show V.int (bs[j] : Nat) = V.int 34 from (int_eq (c := 34)).mpr k1)]
          have e1 : Kh450.readString (f + 1) (bs.drop j) = .ok [] (bs.drop (j + 1)) := by
            rw [ed]
            show (if bs[j] = 34 then _ else _) = _
            rw [if_pos k1]
          rw [e1] at h
          simp only [bind_ok, List.append_nil] at h
          have c2 : ((j : Int) + 1) = ((j + 1 : Nat) : Int) := by omega
          have hR5 := RdAt.step (dx := dx) (j := j + 1) ⟨u1, u2, u3⟩ lt
          have on5 : Only r H (upd H' r (.ins (He.ga K "Reader") dx (rF da ((j + 1 : Nat) : Int)))) := on.upd
          have rp : pl ≠ r := rpl.symm
          have hp5 : upd H' r (.ins (He.ga K "Reader") dx (rF da ((j + 1 : Nat) : Int))) pl = some (.lst (pre.map fun c => V.str (encB (Kh450.encodeUtf8 c)))) := (upd_ne rp).trans hp
          rw [c2]
          generalize upd H' r (.ins (He.ga K "Reader") dx (rF da ((j + 1 : Nat) : Int))) = H5 at *
          refine ⟨(by decide), ?_⟩
          simp only [tM1, cxK, cxW, cxKn, cxWn, tRet, tRetN, tC, tVar, tOp, tUn, rI0, rI, rU, rEq, rNe, scal, tChain, tTest, tB, tIfS, tAnd, tOr, tNot, tAndV, tOrV, tNotV, tIf, tSeq, tNext, tAsg, gName, tDrop, tCons, tNil, tCall, tMeth, tCB, tBM, tBM0, L2.start, List.map_cons, List.map_nil, List.length_cons, List.length_nil, List.replicate, Nat.reduceAdd, Nat.reduceSub, List.cons_append, List.nil_append, List.append_nil, List.getElem?_cons_zero, List.getElem?_cons_succ, List.set_cons_zero, List.set_cons_succ, Option.some.injEq, exists_and_left, exists_and_right, exists_eq_left, exists_eq_left', exists_eq_right, exists_eq_right', exists_eq, exists_eq', V.int.injEq, V.str.injEq, V.ref.injEq, V.bl.injEq, List.cons.injEq, true_and, and_true, and_self, decide_eq_true_eq, exists_const, if_true, if_false, Bool.not_eq_true', decide_eq_false_iff_not, Bool.false_eq_true, reduceIte, Bool.not_true, Bool.not_false]
          have pl600 : pre.length ≤ 600 := by omega
          refine ⟨pre.map fun c => encB (Kh450.encodeUtf8 c), .inl (SqL.of (by rw [hp5, List.map_map]; rfl)), ?_, pre, i, ?_, ?_, fun H6 a s6 _ ha => ?_⟩
          · have z : ("" : Str).length = 0 := by decide +kernel
            have := sum_encB pre
            rw [z, Nat.mul_zero, Nat.add_zero]
            omega
          · rw [join0, catS_enc]
            rfl
          · have := encAll_len pre
            have := encB_len (Kh450.encodeAll pre)
            show (encB (Kh450.encodeAll pre)).length ≤ 100000
            omega
          · exact h H6 (j + 1) a ⟨s6 _ _ hR5.1, s6.seq hR5.2.1, hR5.2.2⟩ (on5.trans (Only.same s6)) (by omega) rfl ha
        · rw [if_neg (show ¬ V.int (bs[j] : Nat) = V.int 34 from fun q => k1 ((int_eq (c := 34)).mp q))]
          have g0 : bs.getD j 0 = bs[j] := by simp [List.getD, List.getElem?_eq_getElem lt]
          have ne1 : bs.length - (bs.drop j).length = j := by rw [lf]; omega
          have next : ∀ (c : Nat) (rest : List Nat), Kh450.readString (f + 1) (bs.drop j) = (Kh450.readString f rest).bind (fun codes rest => .ok (c :: codes) rest) → ∀ H6 j2, RdAt K H6 r dx da bs j2 → Only r H' H6 → j < j2 → bs.drop j2 = rest →
              rAppend (.ref pl) [.str (encB (Kh450.encodeUtf8 c))] H6 fun _ H1 => ∃ m', m' < bs.length - j ∧ ∃ j_1, m' = bs.length - j_1 ∧ (∃ v, [some (V.ref r), some (V.int (i : Int)), some (V.ref pl), some (V.int (bs[j] : Nat))] = [some (V.ref r), some (V.int (i : Int)), some (V.ref pl), v]) ∧ RdAt K H1 r dx da bs j_1 ∧ Only r H H1 ∧
                ∃ x x_1, H1 pl = some (.lst (x_1.map fun c => V.str (encB (Kh450.encodeUtf8 c)))) ∧ x_1.length + i + 1 ≤ j_1 ∧ (bs.drop j_1).length ≤ x ∧ Kh450.readString (bs.drop (i + 1)).length (bs.drop (i + 1)) = (Kh450.readString x (bs.drop j_1)).bind fun codes rest => .ok (x_1 ++ codes) rest := by
            intro c rest hc H6 j2 hR6 on6 lj e6
            have lr : j2 ≤ bs.length := hR6.2.2
            have rp : pl ≠ r := rpl.symm
            have hp6 := on6 _ _ hp rp
            have lf2 : (bs.drop j2).length = bs.length - j2 := List.length_drop
            refine ⟨pl, _, _, rfl, rfl, hp6, by rw [List.length_map, sizeLine_eq]; omega, bs.length - j2, by omega, j2, rfl, ⟨_, rfl⟩, ?_, ?_, f, pre ++ [c], ?_, ?_, by omega, ?_⟩
            · refine ⟨(upd_ne rpl).trans hR6.1, ?_, lr⟩
              have on7 : Only r H (upd H6 pl (.lst ((pre.map fun c => V.str (encB (Kh450.encodeUtf8 c))) ++ [V.str (encB (Kh450.encodeUtf8 c))]))) := fun b o e n => by
                rw [upd_ne (ne_of_none e npl)]
                exact on6 _ _ (on _ _ e n) n
              exact on7.seq h1 h2
            · intro b o e n
              have bp : b ≠ pl := ne_of_none e npl
              rw [upd_ne bp]
              exact on6 _ _ (on _ _ e n) n
            · rw [upd_same, List.map_append]
              rfl
            · rw [List.length_append, List.length_singleton]
              omega
            · rw [hrs, hc, e6, bind_bind]
              simp [bind_ok]
          refine ⟨.inl ⟨rfl, _, SqL.of hp⟩, rF_none, r, dx, da, bs, j, rfl, ⟨u1, u2, u3⟩, h256, lt, ?_⟩
          rw [g0]
          have st := rs_step f bs[j] (bs.drop (j + 1)) k1
          rw [← ed] at st
          by_cases k2 : bs[j] = 92
          · rw [if_pos k2] at st ⊢
            by_cases k3 : j + 1 = bs.length
            · rw [if_pos k3]
              rw [if_pos (List.drop_eq_nil_of_le (by omega))] at st
              rw [st] at h
              exact h
            · rw [if_neg k3]
              rw [if_neg (fun q => by have := congrArg List.length q; rw [List.length_drop] at this; exact absurd this (by show ¬ bs.length - (j + 1) = 0; omega))] at st
              cases es : Kh450.readEscape (bs.drop (j + 1)) with
              | none =>
                rw [es] at st
                rw [st] at h
                have h' : FaultE K E 3 (bs.length - (bs.drop j).length) := h
                rw [ne1] at h'
                exact h'
              | some q =>
                obtain ⟨c, rest⟩ := q
                rw [es] at st
                exact fun H6 j2 a1 a2 a3 a4 => next c rest st H6 j2 a1 a2 a3 a4
          · rw [if_neg k2] at st ⊢
            by_cases k3 : bs[j] < 32
            · rw [if_pos k3] at st ⊢
              rw [st] at h
              have h' : FaultE K E 2 (bs.length - (bs.drop j).length) := h
              rw [ne1] at h'
              exact h'
            · rw [if_neg k3] at st ⊢
              cases es : Kh450.decodeUtf8 (bs.drop j) with
              | none =>
                rw [es] at st
                rw [st] at h
                have h' : FaultE K E 4 (bs.length - (bs.drop j).length) := h
                rw [ne1] at h'
                exact h'
              | some q =>
                obtain ⟨c, rest⟩ := q
                rw [es] at st
                exact fun H6 j2 a1 a2 a3 a4 => next c rest st H6 j2 a1 a2 a3 a4
      · rw [if_neg (by omega)]
        have ej : j = bs.length := by omega
        subst ej
        refine hX _ _ ⟨v, rfl, ⟨u1, u2, u3⟩, ?_⟩
        have e1 : ∀ f, Kh450.readString f (bs.drop bs.length) = .error 1 [] := fun f => by
          rw [List.drop_length]
          cases f <;> rfl
        rw [e1] at h
        exact h
    · rintro σ H' ⟨v, rfl, ⟨u1, u2, u3⟩, h⟩
      dsimp only
      refine raise_at rfl rfl h (fun R q => ?_)
      simp only [cxK, cxW, cxKn, cxWn, tRet, tRetN, tC, tVar, tOp, tUn, rI0, rI, rU, rEq, rNe, scal, tChain, tTest, tB, tIfS, tAnd, tOr, tNot, tAndV, tOrV, tNotV, tIf, tSeq, tNext, tAsg, gName, tDrop, tCons, tNil, tCall, tMeth, tCB, tBM, tBM0, L2.start, List.map_cons, List.map_nil, List.length_cons, List.length_nil, List.replicate, Nat.reduceAdd, Nat.reduceSub, List.cons_append, List.nil_append, List.append_nil, List.getElem?_cons_zero, List.getElem?_cons_succ, List.set_cons_zero, List.set_cons_succ, Option.some.injEq, exists_and_left, exists_and_right, exists_eq_left, exists_eq_left', exists_eq_right, exists_eq_right', exists_eq, exists_eq', V.int.injEq, V.str.injEq, V.ref.injEq, V.bl.injEq, List.cons.injEq, true_and, and_true, and_self, decide_eq_true_eq, exists_const, if_true, if_false, Bool.not_eq_true', decide_eq_false_iff_not, Bool.false_eq_true, reduceIte, Bool.not_true, Bool.not_false, tFld, sFldAug, sFld, L2.rAdd, put_at, rF_len, T.clR, rN_data T, rN_at T, lk_data, lk_at, HO.ins.injEq, and_assoc, u1]
      refine ⟨_, .inl u2, ?_⟩
      rw [vI_len]
      exact q _
end
end Ck
namespace Ck
open PySem PySem.Spec PyProof.Rows L2 RZ
open Kh450 (Node)
def spSimple (K : PySem.W.Frag) : Sp := fun vs H Q E => ∃ (r dx da : Addr) (bs : List Nat) (i d : Nat), vs = [.ref r] ∧ RdAt K H r dx da bs i ∧ (∀ b ∈ bs, b < 256) ∧ bs.length ≤ 600 ∧ i < bs.length ∧ bs.getD i 0 ≠ 40 ∧
  NodeTo K H Q E r dx da bs i (Kh450.readNode bs.length d (bs.drop i))
theorem rn_step (total d b : Nat) (rest : List Nat) (hb : b ≠ 40) : Kh450.readNode total d (b :: rest) =
    if b = 34 then (Kh450.readString rest.length rest).bind fun content rest' => .ok (.string (total - (b :: rest).length) content) rest'
    else if Kh450.isDigit b then (if 6 < (Kh450.takeWhile Kh450.isDigit (b :: rest)).1.length ∨ (1 < (Kh450.takeWhile Kh450.isDigit (b :: rest)).1.length ∧ b = 48) then .error 5 (b :: rest) else .ok (.integer (total - (b :: rest).length) (intVal (Kh450.takeWhile Kh450.isDigit (b :: rest)).1)) (Kh450.takeWhile Kh450.isDigit (b :: rest)).2)
    else if Kh450.isLower b then .ok (.symbol (total - (b :: rest).length) (Kh450.takeWhile Kh450.isSymbolPart (b :: rest)).1) (Kh450.takeWhile Kh450.isSymbolPart (b :: rest)).2
    else .error 2 (b :: rest) := by
  cases d with
  | zero =>
    show (if b = 40 then _ else if b = 34 then _ else _) = _
    rw [if_neg hb]
    rfl
  | succ d =>
    show (if b = 40 then _ else if b = 34 then _ else _) = _
    rw [if_neg hb]
    rfl
theorem takeWhile_len (p : Nat → Bool) : ∀ l : List Nat, (Kh450.takeWhile p l).2.length ≤ l.length
  | [] => Nat.le_refl _
  | b :: r => by
    cases h : p b with
    | true =>
      rw [takeWhile_go h]
      have := takeWhile_len p r
      simp only [List.length_cons]
      omega
    | false =>
      rw [takeWhile_stop h]
      exact Nat.le_refl _
theorem past_of {bs : List Nat} {i j : Nat} {p : Nat → Bool} (lt : i < bs.length) (hp : p bs[i] = true) (hj : j ≤ bs.length) (e : bs.drop j = (Kh450.takeWhile p (bs.drop i)).2) : i < j := by
  rw [drop_at lt, takeWhile_go hp] at e
  have h1 := congrArg List.length e
  have h2 := takeWhile_len p (bs.drop (i + 1))
  rw [List.length_drop] at h1
  rw [List.length_drop] at h2
  have h3 : bs.length - j = (Kh450.takeWhile p (bs.drop (i + 1))).2.length := h1
  omega
section
variable {P : Program} {w : World} {K : PySem.W.Frag} {mg : Str → Option Value} {base : Heap}
abbrev s_Reader_read_simple : Stmt := inClass (top 38) 3
theorem sc_Reader_read_simple : FnScope ["self", "byte"] ["self"] (defScope s_Reader_read_simple) := ⟨rfl, rfl, rfl, by decide +kernel, rfl, by decide +kernel, by decide +kernel⟩
theorem ok_read_simple (T : Txt w K mg) (c_is_digit : Kept P w K mg base CX0 1 "is_digit" ["byte"] (spIB Kh450.isDigit)) (c_is_letter : Kept P w K mg base CX0 1 "is_letter" ["byte"] (spIB Kh450.isLower))
    (c_Reader_read_string : KeptM P w K mg base (L2.CX P w) 6 "Reader" "read_string" ["self"] (spReadStr K)) (c_Reader_read_integer : KeptM P w K mg base (L2.CX P w) 4 "Reader" "read_integer" ["self"] (spReadInt K)) (c_Reader_read_symbol : KeptM P w K mg base CX0 4 "Reader" "read_symbol" ["self"] (spReadSym K))
    {f : Addr} {fd : FuncData} (F : FunD K "read_simple" "Reader.read_simple" (defArgs s_Reader_read_simple) (defBody s_Reader_read_simple) (defScope s_Reader_read_simple) [] [] f fd) : FnOk P w K mg base (L2.CX P w) 7 f fd ["self"] (spSimple K) := by
  refine F.ok sc_Reader_read_simple (fun vs H Q E h => ?_) (fun cdv A outer s H vs Q E hr h => ⟨_, (pss_cons (ps_set (i := 1) sc_Reader_read_simple.nd rfl (Or.inl rfl) (pe_ix ix_list (pe_fld (pv 0) rfl) (pe_fld (pv 0) rfl) (fun _ _ => rfl))) (pss_cons (ps_if (pt_cmpR op_eq (pv 1) (C8.pe_gc rfl T.cQUOTATION_MARK) (nomark _)) (pss_one (ps_ret (pe_km0 c_Reader_read_string hr (by omega) (pass_on (CX' := L2.CX P w)) (pv 0)))) pss_nil) (pss_cons (ps_if (pt_val (pe_k c_is_digit hr (by omega) pass0 (pa_cons (pv 1) pa_nil))) (pss_one (ps_ret (pe_km0 c_Reader_read_integer hr (by omega) (pass_on (CX' := L2.CX P w)) (pv 0)))) pss_nil) (pss_cons (ps_if (pt_val (pe_k c_is_letter hr (by omega) pass0 (pa_cons (pv 1) pa_nil))) (pss_one (ps_ret (pe_km0 c_Reader_read_symbol hr (by omega) pass0 (pv 0)))) pss_nil) (pss_one (ps_raiseFault rfl T.fault hr (by omega) (takes_of rfl rfl rfl rfl) (pa_cons pe_int (pa_cons (pe_fld (pv 0) rfl) pa_nil)))))))), ?_⟩)
  · obtain ⟨r, dx, da, bs, i, d, rfl, _⟩ := h
    rfl
  · obtain ⟨r, dx, da, bs, i, d, rfl, hR, h256, h600, lt, n40, h⟩ := h
    obtain ⟨h1, h2, h3⟩ := hR
    have g0 : bs.getD i 0 = bs[i] := by simp [List.getD, List.getElem?_eq_getElem lt]
    rw [g0] at n40
    have ed := drop_at lt
    have lf : (bs.drop i).length = bs.length - i := List.length_drop
    have ne1 : bs.length - (bs.drop i).length = i := by rw [lf]; omega
    have st := rn_step bs.length d bs[i] (bs.drop (i + 1)) n40
    rw [← ed, ne1] at st
    rw [st] at h
    refine sq ?_
    simp only [cxK, cxW, cxKn, cxWn, tRet, tRetN, tC, tVar, tOp, tUn, rI0, rI, rU, rEq, rNe, scal, tChain, tTest, tB, tIfS, tAnd, tOr, tNot, tAndV, tOrV, tNotV, tIf, tSeq, tNext, tAsg, gName, tDrop, tCons, tNil, tCall, tMeth, tCB, tBM, tBM0, L2.start, List.map_cons, List.map_nil, List.length_cons, List.length_nil, List.replicate, Nat.reduceAdd, Nat.reduceSub, List.cons_append, List.nil_append, List.append_nil, List.getElem?_cons_zero, List.getElem?_cons_succ, List.set_cons_zero, List.set_cons_succ, Option.some.injEq, exists_and_left, exists_and_right, exists_eq_left, exists_eq_left', exists_eq_right, exists_eq_right', exists_eq, exists_eq', V.int.injEq, V.str.injEq, V.ref.injEq, V.bl.injEq, List.cons.injEq, true_and, and_true, and_self, decide_eq_true_eq, exists_const, if_true, if_false, Bool.not_eq_true', decide_eq_false_iff_not, Bool.false_eq_true, reduceIte, Bool.not_true, Bool.not_false, tFld, sFldAug, sFld, L2.rAdd, put_at, rF_len, T.clR, rN_data T, rN_at T, lk_data, lk_at, HO.ins.injEq, and_assoc, h1, rIxL, spIB]
    refine ⟨_, h2, _, vI_at lt, (by first | rfl | trivial), ?_⟩
    by_cases k1 : bs[i] = 34
    · rw [if_pos (show V.int (bs[i] : Nat) = V.int 34 from (int_eq (c := 34)).mpr k1)]
      rw [if_pos k1] at h
      exact ⟨rF_none, r, dx, da, bs, i, rfl, ⟨h1, h2, h3⟩, h256, h600, lt, h⟩
    rw [if_neg (show ¬ V.int (bs[i] : Nat) = V.int 34 from fun q => k1 ((int_eq (c := 34)).mp q))]
    rw [if_neg k1] at h
    refine ⟨_, rfl, ?_⟩
    cases k2 : Kh450.isDigit bs[i] with
    | true =>
      rw [if_pos k2] at h
      refine iteT ⟨rF_none, r, dx, da, bs, i, rfl, ⟨h1, h2, h3⟩, ?_⟩
      dsimp only
      rw [show (bs.drop i).headD 0 = bs[i] by rw [ed]; rfl]
      by_cases k3 : 6 < (Kh450.takeWhile Kh450.isDigit (bs.drop i)).1.length ∨ (1 < (Kh450.takeWhile Kh450.isDigit (bs.drop i)).1.length ∧ bs[i] = 48)
      · rw [if_pos k3] at h ⊢
        have h' : FaultE K E 5 (bs.length - (bs.drop i).length) := h
        rw [ne1] at h'
        exact h'
      · rw [if_neg k3] at h ⊢
        exact fun H' j a a1 a2 a3 a4 => h H' j a a1 a2 (past_of lt k2 a1.2.2 a3) a3 a4
    | false =>
      rw [if_neg (by rw [k2]; decide)] at h
      refine iteF ⟨_, rfl, ?_⟩
      cases k3 : Kh450.isLower bs[i] with
      | true =>
        rw [if_pos k3] at h
        have sp : Kh450.isSymbolPart bs[i] = true := by unfold Kh450.isSymbolPart; rw [k3]; rfl
        refine iteT ⟨rF_none, r, dx, da, bs, i, rfl, ⟨h1, h2, h3⟩, h256, h600, ?_⟩
        exact fun H' j a a1 a2 a3 a4 => h H' j a a1 a2 (past_of lt sp a1.2.2 a3) a3 a4
      | false =>
        rw [if_neg (by rw [k3]; decide)] at h
        have h' : FaultE K E 2 (bs.length - (bs.drop i).length) := h
        rw [ne1] at h'
        refine iteF (raise_at rfl rfl h' (fun R q => ?_))
        simp only [cxK, cxW, cxKn, cxWn, tRet, tRetN, tC, tVar, tOp, tUn, rI0, rI, rU, rEq, rNe, scal, tChain, tTest, tB, tIfS, tAnd, tOr, tNot, tAndV, tOrV, tNotV, tIf, tSeq, tNext, tAsg, gName, tDrop, tCons, tNil, tCall, tMeth, tCB, tBM, tBM0, L2.start, List.map_cons, List.map_nil, List.length_cons, List.length_nil, List.replicate, Nat.reduceAdd, Nat.reduceSub, List.cons_append, List.nil_append, List.append_nil, List.getElem?_cons_zero, List.getElem?_cons_succ, List.set_cons_zero, List.set_cons_succ, Option.some.injEq, exists_and_left, exists_and_right, exists_eq_left, exists_eq_left', exists_eq_right, exists_eq_right', exists_eq, exists_eq', V.int.injEq, V.str.injEq, V.ref.injEq, V.bl.injEq, List.cons.injEq, true_and, and_true, and_self, decide_eq_true_eq, exists_const, if_true, if_false, Bool.not_eq_true', decide_eq_false_iff_not, Bool.false_eq_true, reduceIte, Bool.not_true, Bool.not_false, tFld, sFldAug, sFld, L2.rAdd, put_at, rF_len, T.clR, rN_data T, rN_at T, lk_data, lk_at, HO.ins.injEq, and_assoc, h1]
        exact q _
end
end Ck
namespace Ck
open PySem PySem.Spec PyProof.Rows L2 RZ
open Kh450 (Node)
/-! ### expressions, level by level -/
def lv (total : Nat) : Nat → Nat → List Nat → Kh450.Read (List Node)
  | 0, f, b => Kh450.readAllLoop total f b
  | k + 1, f, b => Kh450.readList (Kh450.readNode total (15 - k)) f b
abbrev Frame : Type := List Node × Nat × Nat
def wrapF (total : Nat) : List Frame → Kh450.Read (List Node) → Kh450.Read (List Node)
  | [], r => r
  | (acc, p, f) :: fs, r => wrapF total fs (r.bind fun items rest => (lv total fs.length f rest).bind fun nodes rest => .ok (acc ++ .list p items :: nodes) rest)
def cur (total : Nat) (fs : List Frame) (acc : List Node) (f : Nat) (b : List Nat) : Kh450.Read (List Node) := wrapF total fs ((lv total fs.length f b).bind fun nodes rest => .ok (acc ++ nodes) rest)
theorem wrapF_err (total k : Nat) (rest : List Nat) : ∀ fs : List Frame, wrapF total fs (.error k rest) = .error k rest
  | [] => rfl
  | (acc, p, f) :: fs => wrapF_err total k rest fs
theorem skip_idem : ∀ (l : List Nat) (c : Bool), Kh450.skipSpace false (Kh450.skipSpace c l) = Kh450.skipSpace c l
  | [], c => by cases c <;> rfl
  | b :: r, true => skip_idem r _
  | b :: r, false => by
    show Kh450.skipSpace false (if Kh450.isSpace b then Kh450.skipSpace false r else if b = 59 then Kh450.skipSpace true r else b :: r) = (if Kh450.isSpace b then Kh450.skipSpace false r else if b = 59 then Kh450.skipSpace true r else b :: r)
    by_cases h1 : Kh450.isSpace b = true
    · rw [if_pos h1]
      exact skip_idem r _
    · rw [if_neg h1]
      by_cases h2 : b = 59
      · rw [if_pos h2]
        exact skip_idem r _
      · rw [if_neg h2]
        show (if Kh450.isSpace b then Kh450.skipSpace false r else if b = 59 then Kh450.skipSpace true r else b :: r) = _
        rw [if_neg h1, if_neg h2]
theorem lv_skip (total k f : Nat) (b : List Nat) : lv total k (f + 1) (Kh450.skipSpace false b) = lv total k (f + 1) b := by
  cases k with
  | zero =>
    show Kh450.readAllLoop total (f + 1) _ = Kh450.readAllLoop total (f + 1) _
    rw [Kh450.readAllLoop, Kh450.readAllLoop, skip_idem]
  | succ k =>
    show Kh450.readList _ (f + 1) _ = Kh450.readList _ (f + 1) _
    rw [Kh450.readList, Kh450.readList, skip_idem]
theorem lv_end (total k f : Nat) : lv total k (f + 1) [] = if k = 0 then .ok [] [] else .error 1 [] := by
  cases k <;> rfl
theorem lv_node (total k f b : Nat) (rest : List Nat) (hk : k ≤ 16) (hs : Kh450.skipSpace false (b :: rest) = b :: rest) (hb : k = 0 ∨ b ≠ 41) :
    lv total k (f + 1) (b :: rest) = (Kh450.readNode total (16 - k) (b :: rest)).bind fun node rest => (lv total k f rest).bind fun nodes rest => .ok (node :: nodes) rest := by
  cases k with
  | zero =>
    show Kh450.readAllLoop total (f + 1) _ = _
    rw [Kh450.readAllLoop, hs]
    rfl
  | succ k =>
    have hb2 : b ≠ 41 := hb.resolve_left (by omega)
    show Kh450.readList _ (f + 1) _ = _
    rw [Kh450.readList, hs]
    have e : 16 - (k + 1) = 15 - k := by omega
    rw [e]
    split
    · simp_all
    · simp_all
    · rfl
theorem lv_close (total k f : Nat) (rest : List Nat) : lv total (k + 1) (f + 1) (41 :: rest) = .ok [] rest := rfl
theorem rn_open (total d : Nat) (rest : List Nat) : Kh450.readNode total (d + 1) (40 :: rest) = (Kh450.readList (Kh450.readNode total d) (rest.length + 1) rest).bind fun items r => .ok (.list (total - (rest.length + 1)) items) r := rfl
theorem rn_deep (total : Nat) (rest : List Nat) : Kh450.readNode total 0 (40 :: rest) = .error 6 (40 :: rest) := rfl
section
variable (total : Nat) (fs : List Frame) (acc : List Node) (f : Nat)
theorem cur_skip (b : List Nat) : cur total fs acc (f + 1) (Kh450.skipSpace false b) = cur total fs acc (f + 1) b := by
  unfold cur
  rw [lv_skip]
theorem cur_node {b : Nat} {rest : List Nat} (hk : fs.length ≤ 16) (hs : Kh450.skipSpace false (b :: rest) = b :: rest) (hb : fs.length = 0 ∨ b ≠ 41) {n : Node} {r : List Nat} (h : Kh450.readNode total (16 - fs.length) (b :: rest) = .ok n r) : cur total fs acc (f + 1) (b :: rest) = cur total fs (acc ++ [n]) f r := by
  unfold cur
  rw [lv_node _ _ _ _ _ hk hs hb, h, bind_ok, bind_bind]
  simp only [bind_ok, List.append_assoc, List.singleton_append]
theorem cur_err {b : Nat} {rest : List Nat} (hk : fs.length ≤ 16) (hs : Kh450.skipSpace false (b :: rest) = b :: rest) (hb : fs.length = 0 ∨ b ≠ 41) {k : Nat} {r : List Nat} (h : Kh450.readNode total (16 - fs.length) (b :: rest) = .error k r) : cur total fs acc (f + 1) (b :: rest) = .error k r := by
  unfold cur
  rw [lv_node _ _ _ _ _ hk hs hb, h, bind_err, bind_err, wrapF_err]
theorem cur_open {rest : List Nat} (hk : fs.length < 16) : cur total fs acc (f + 1) (40 :: rest) = cur total ((acc, total - (rest.length + 1), f) :: fs) [] (rest.length + 1) rest := by
  unfold cur
  rw [lv_node _ _ _ _ _ (by omega) rfl (.inr (by decide))]
  have e : 16 - fs.length = (15 - fs.length) + 1 := by omega
  rw [e, rn_open]
  show _ = wrapF total fs (((lv total (fs.length + 1) _ rest).bind _).bind _)
  rw [bind_bind, bind_bind, bind_bind]
  simp only [bind_ok, bind_bind, List.nil_append]
  rfl
theorem cur_close {acc0 : List Node} {p f0 : Nat} {rest : List Nat} : cur total ((acc0, p, f0) :: fs) acc (f + 1) (41 :: rest) = cur total fs (acc0 ++ [.list p acc]) f0 rest := by
  unfold cur
  show wrapF total fs (((lv total (fs.length + 1) _ _).bind _).bind _) = _
  rw [lv_close, bind_ok, bind_ok]
  simp only [List.append_nil, List.append_assoc, List.singleton_append]
end
end Ck
namespace Ck
open PySem PySem.Spec PyProof.Rows L2 RZ
open Kh450 (Node)
/-- the levels that are open, the innermost first -/
def LvAt (C : Addr) (H : Hp) : List (List Node) → List Addr → Prop
  | [], [] => True
  | acc :: r, a :: as => (∃ es, H a = some (.lst (es.map V.ref)) ∧ ExsAt C H acc es) ∧ LvAt C H r as
  | _, _ => False
theorem LvAt.keep {C x : Addr} {H H' : Hp} (o : Only x H H') (s : Stay H H') : ∀ {l : List (List Node)} {as : List Addr}, x ∉ as → LvAt C H l as → LvAt C H' l as
  | [], [], _, _ => trivial
  | [], _ :: _, _, h => h
  | _ :: _, [], _, h => h
  | acc :: r, a :: as, hx, ⟨⟨es, h1, h2⟩, h3⟩ => ⟨⟨es, o _ _ h1 (fun e => hx (by rw [e]; exact List.mem_cons_self)), h2.stay s⟩, LvAt.keep o s (fun q => hx (List.mem_cons_of_mem _ q)) h3⟩
theorem LvAt.len {C : Addr} {H : Hp} : ∀ {l : List (List Node)} {as : List Addr}, LvAt C H l as → as.length = l.length
  | [], [], _ => rfl
  | [], _ :: _, h => h.elim
  | _ :: _, [], h => h.elim
  | acc :: r, a :: as, ⟨_, h⟩ => congrArg (· + 1) h.len
theorem LvAt.there {C : Addr} {H : Hp} : ∀ {l : List (List Node)} {as : List Addr}, LvAt C H l as → ∀ a ∈ as, H a ≠ none
  | [], [], _, a, h => by cases h
  | [], _ :: _, h, _, _ => h.elim
  | _ :: _, [], h, _, _ => h.elim
  | acc :: r, a :: as, ⟨⟨es, h1, _⟩, h⟩, b, hb => by
    rcases List.mem_cons.mp hb with q | q
    · rw [q, h1]
      simp
    · exact h.there b q
theorem LvAt.one {C : Addr} {H : Hp} {acc : List Node} : ∀ {as : List Addr}, LvAt C H [acc] as → ∃ a es, as = [a] ∧ H a = some (HO.lst (es.map V.ref)) ∧ ExsAt C H acc es
  | [], h => h.elim
  | [a], h => ⟨a, h.1.choose, rfl, h.1.choose_spec⟩
  | a :: b :: r, h => h.2.elim
theorem Only.stayL {x : Addr} {l : List V} {H H' : Hp} (o : Only x H H') (h : H x = some (.lst l)) : Stay H H' := fun b u e s => o b u e (fun z => by
  rw [z, h] at e
  cases e
  cases s)
theorem Only.new {x : Addr} {o : HO} {H : Hp} : Only x H (L2.upd H x o) := fun b u h n => by rw [upd_ne n]; exact h
theorem none_of {H H' : Hp} {a : Addr} (s : Same H H') (h : H' a = none) : H a = none := by
  cases e : H a with
  | none => rfl
  | some o => rw [s _ _ e] at h; cases h
def spReadX (K : PySem.W.Frag) : Sp := fun vs H Q E => ∃ (da : Addr) (bs : List Nat), vs = [.ref da] ∧ SqL K H da (vI bs) ∧ (∀ b ∈ bs, b < 256) ∧ bs.length ≤ 600 ∧
  (match Kh450.readAll bs with
   | .error k rest => FaultE K E k (bs.length - rest.length)
   | .ok ns _ => ∀ H' l as, Same H H' → H' l = some (.lst (as.map V.ref)) → ExsAt (ECl K) H' ns as → Q (.ref l) H')
/-- what holds between two expressions: of the heap -/
structure RdH (K : PySem.W.Frag) (H0 H : Hp) (r lvA plA : Addr) (fs : List Frame) (acc : List Node) (ads : List Addr) : Prop where
  same : Same H0 H
  lvs : H lvA = some (.lst (ads.reverse.map V.ref))
  pls : H plA = some (.lst ((fs.map fun q => V.int (q.2.1 : Nat)).reverse))
  lev : LvAt (ECl K) H (acc :: fs.map Prod.fst) ads
  dis : (lvA :: plA :: ads).Nodup
  new : ∀ a ∈ r :: lvA :: plA :: ads, H0 a = none
  rin : ∃ C dx da i, H r = some (.ins C dx (rF da i))
/-- .. and of the text -/
structure RdP (bs : List Nat) (j : Nat) (fs : List Frame) (acc : List Node) (f : Nat) : Prop where
  deep : fs.length ≤ 16
  few : acc.length ≤ j ∧ ∀ q ∈ fs, q.1.length ≤ j
  fuel : (bs.drop j).length + 1 ≤ f ∧ ∀ q ∈ fs, (bs.drop j).length + 1 ≤ q.2.2
  due : Kh450.readAll bs = cur bs.length fs acc f (bs.drop j)
theorem RdP.skip {bs : List Nat} {j j2 : Nat} {fs : List Frame} {acc : List Node} {f : Nat} (R : RdP bs j fs acc f) (h : j ≤ j2) (e : bs.drop j2 = Kh450.skipSpace false (bs.drop j)) : RdP bs j2 fs acc f := by
  have l : (bs.drop j2).length ≤ (bs.drop j).length := by rw [List.length_drop, List.length_drop]; omega
  obtain ⟨f', rfl⟩ : ∃ f', f = f' + 1 := ⟨f - 1, by have := R.fuel.1; omega⟩
  refine ⟨R.deep, ⟨Nat.le_trans R.few.1 h, fun q hq => Nat.le_trans (R.few.2 q hq) h⟩, ⟨by have := R.fuel.1; omega, fun q hq => by have := R.fuel.2 q hq; omega⟩, ?_⟩
  rw [R.due, e, cur_skip]
theorem RdP.opening {bs : List Nat} {j : Nat} {fs : List Frame} {acc : List Node} {f : Nat} (R : RdP bs j fs acc (f + 1)) (lt : j < bs.length) (h : bs[j] = 40) (hd : fs.length < 16) : RdP bs (j + 1) ((acc, j, f) :: fs) [] ((bs.drop (j + 1)).length + 1) := by
  have l : (bs.drop j).length = (bs.drop (j + 1)).length + 1 := by rw [List.length_drop, List.length_drop]; omega
  refine ⟨by rw [List.length_cons]; omega, ⟨Nat.zero_le _, fun q hq => ?_⟩, ⟨Nat.le_refl _, fun q hq => ?_⟩, ?_⟩
  · rcases List.mem_cons.mp hq with e | e
    · rw [e]; have := R.few.1; show acc.length ≤ j + 1; omega
    · have := R.few.2 q e; omega
  · rcases List.mem_cons.mp hq with e | e
    · rw [e]; have := R.fuel.1; show _ ≤ f; omega
    · have := R.fuel.2 q e; omega
  · rw [R.due, drop_at lt, h, cur_open _ _ _ _ hd]
    have : bs.length - ((bs.drop (j + 1)).length + 1) = j := by rw [List.length_drop]; omega
    rw [this]
theorem RdP.closing {bs : List Nat} {j : Nat} {fs : List Frame} {acc acc0 : List Node} {f f0 p : Nat} (R : RdP bs j ((acc0, p, f0) :: fs) acc (f + 1)) (lt : j < bs.length) (h : bs[j] = 41) : RdP bs (j + 1) fs (acc0 ++ [.list p acc]) f0 := by
  have l : (bs.drop j).length = (bs.drop (j + 1)).length + 1 := by rw [List.length_drop, List.length_drop]; omega
  have d := R.deep
  rw [List.length_cons] at d
  have f1 := R.few.2 _ List.mem_cons_self
  have f2 := R.fuel.2 _ List.mem_cons_self
  dsimp only at f1 f2
  refine ⟨by omega, ⟨by rw [List.length_append, List.length_singleton]; omega, fun q hq => ?_⟩, ⟨by omega, fun q hq => ?_⟩, ?_⟩
  · have := R.few.2 q (List.mem_cons_of_mem _ hq); omega
  · have := R.fuel.2 q (List.mem_cons_of_mem _ hq); omega
  · rw [R.due, drop_at lt, h, cur_close]
theorem RdP.node {bs : List Nat} {j j2 : Nat} {fs : List Frame} {acc : List Node} {f : Nat} {n : Node} (R : RdP bs j fs acc (f + 1)) (lt : j < bs.length) (hs : Kh450.skipSpace false (bs.drop j) = bs.drop j) (hb : fs.length = 0 ∨ bs[j] ≠ 41) (h : Kh450.readNode bs.length (16 - fs.length) (bs.drop j) = .ok n (bs.drop j2)) (l2 : j < j2) (l3 : j2 ≤ bs.length) :
    RdP bs j2 fs (acc ++ [n]) f := by
  have l : (bs.drop j).length = bs.length - j := List.length_drop
  have l' : (bs.drop j2).length = bs.length - j2 := List.length_drop
  refine ⟨R.deep, ⟨by have := R.few.1; rw [List.length_append, List.length_singleton]; omega, fun q hq => by have := R.few.2 q hq; omega⟩, ⟨by have := R.fuel.1; omega, fun q hq => by have := R.fuel.2 q hq; omega⟩, ?_⟩
  rw [R.due]
  rw [drop_at lt] at hs h ⊢
  exact cur_node _ _ _ _ R.deep hs hb h
section
variable {K : PySem.W.Frag} {H0 H : Hp} {r lvA plA : Addr} {fs : List Frame} {acc : List Node} {ads : List Addr}
theorem RdH.lr (R : RdH K H0 H r lvA plA fs acc ads) : lvA ≠ r := fun e => by
  obtain ⟨C, dx, da, i, h⟩ := R.rin
  rw [← e, R.lvs] at h
  cases h
theorem RdH.pr (R : RdH K H0 H r lvA plA fs acc ads) : plA ≠ r := fun e => by
  obtain ⟨C, dx, da, i, h⟩ := R.rin
  rw [← e, R.pls] at h
  cases h
theorem RdH.ar (R : RdH K H0 H r lvA plA fs acc ads) : r ∉ ads := fun e => by
  obtain ⟨C, dx, da, i, h⟩ := R.rin
  have : ∀ {l : List (List Node)} {as : List Addr}, LvAt (ECl K) H l as → r ∉ as := by
    intro l as
    induction as generalizing l with
    | nil => intro _ q; cases q
    | cons a as ih =>
      intro hl q
      cases l with
      | nil => exact hl.elim
      | cons x l =>
        obtain ⟨⟨es, h1, _⟩, h2⟩ := hl
        rcases List.mem_cons.mp q with q | q
        · rw [← q, h] at h1
          cases h1
        · exact ih h2 q
  exact this R.lev e
/-- the reader goes on -/
theorem RdH.only {H' : Hp} {C dx da : Addr} {i : Int} (R : RdH K H0 H r lvA plA fs acc ads) (o : Only r H H') (h : H' r = some (.ins C dx (rF da i))) : RdH K H0 H' r lvA plA fs acc ads := by
  have st : Stay H H' := by
    obtain ⟨C', dx', da', i', h'⟩ := R.rin
    exact o.stay h' (by rw [rF_len]; decide)
  exact ⟨fun b u e => o b u (R.same b u e) (fun z => by rw [z, R.new r List.mem_cons_self] at e; cases e), o _ _ R.lvs R.lr, o _ _ R.pls R.pr, R.lev.keep o st R.ar, R.dis, R.new, ⟨C, dx, da, i, h⟩⟩
/-- a level is opened -/
theorem RdH.opening {p : Nat} {f : Nat} {a : Addr} (R : RdH K H0 H r lvA plA fs acc ads) (ha : H a = none) :
    RdH K H0 (L2.upd (L2.upd (L2.upd H plA (.lst ((fs.map fun q => V.int (q.2.1 : Nat)).reverse ++ [V.int (p : Nat)]))) a (.lst [])) lvA (.lst (ads.reverse.map V.ref ++ [V.ref a]))) r lvA plA ((acc, p, f) :: fs) [] (a :: ads) := by
  have dis := R.dis
  rw [List.nodup_cons, List.nodup_cons] at dis
  obtain ⟨d1, d2, d3⟩ := dis
  have lp : lvA ≠ plA := fun e => d1 (by rw [e]; exact List.mem_cons_self)
  have la : lvA ∉ ads := fun e => d1 (List.mem_cons_of_mem _ e)
  have al : lvA ≠ a := fun e => by rw [← e, R.lvs] at ha; cases ha
  have ap : plA ≠ a := fun e => by rw [← e, R.pls] at ha; cases ha
  have ar : r ≠ a := fun e => by
    obtain ⟨C, dx, da, i, h⟩ := R.rin
    rw [← e, h] at ha; cases ha
  have aa : a ∉ ads := fun e => R.lev.there a e ha
  have o1 : Only plA H (L2.upd H plA (.lst ((fs.map fun q => V.int (q.2.1 : Nat)).reverse ++ [V.int (p : Nat)]))) := Only.new
  have st1 := o1.stayL R.pls
  have n1 : L2.upd H plA (.lst ((fs.map fun q => V.int (q.2.1 : Nat)).reverse ++ [V.int (p : Nat)])) a = none := (upd_ne ap.symm).trans ha
  have s2 := Same.new (o := .lst []) n1
  have g2 := s2 _ _ (o1 _ _ R.lvs lp)
  have o3 : Only lvA (L2.upd (L2.upd H plA (.lst ((fs.map fun q => V.int (q.2.1 : Nat)).reverse ++ [V.int (p : Nat)]))) a (.lst [])) (L2.upd (L2.upd (L2.upd H plA (.lst ((fs.map fun q => V.int (q.2.1 : Nat)).reverse ++ [V.int (p : Nat)]))) a (.lst [])) lvA (.lst (ads.reverse.map V.ref ++ [V.ref a]))) := Only.new
  have st3 := o3.stayL g2
  refine ⟨fun b u e => ?_, ?_, ?_, ⟨⟨[], ?_, by rw [ExsAt]⟩, ?_⟩, ?_, ?_, ?_⟩
  · have b1 : b ≠ plA := fun z => by rw [z, R.new plA (by simp)] at e; cases e
    have b3 : b ≠ lvA := fun z => by rw [z, R.new lvA (by simp)] at e; cases e
    exact o3 _ _ (s2 _ _ (o1 _ _ (R.same _ _ e) b1)) b3
  · rw [upd_same, List.reverse_cons, List.map_append]
    rfl
  · rw [upd_ne lp.symm, upd_ne ap, upd_same, List.map_cons, List.reverse_cons]
  · rw [upd_ne al.symm, upd_same]
    rfl
  · exact ((R.lev.keep o1 st1 (fun e => d2 e)).keep (x := a) (Only.same s2) (Stay.of s2) aa).keep o3 st3 la
  · rw [List.nodup_cons, List.nodup_cons, List.nodup_cons]
    refine ⟨fun q => ?_, fun q => ?_, aa, d3⟩
    · rcases List.mem_cons.mp q with q | q
      · exact lp q
      · rcases List.mem_cons.mp q with q | q
        · exact al q
        · exact la q
    · rcases List.mem_cons.mp q with q | q
      · exact ap q
      · exact d2 q
  · intro b hb
    simp only [List.mem_cons] at hb
    rcases hb with q | q | q | q | q
    · exact R.new b (by simp [q])
    · exact R.new b (by simp [q])
    · exact R.new b (by simp [q])
    · rw [q]
      exact none_of R.same ha
    · exact R.new b (by simp [q])
  · obtain ⟨C, dx, da, i, h⟩ := R.rin
    exact ⟨C, dx, da, i, o3 _ _ (s2 _ _ (o1 _ _ h R.pr.symm)) R.lr.symm⟩
/-- an expression is put into the innermost level -/
theorem RdH.node {n : Node} {a e : Addr} {es : List Addr} (R : RdH K H0 H r lvA plA fs acc (a :: ads)) (h1 : H a = some (.lst (es.map V.ref))) (hx : ExsAt (ECl K) H acc es) (hn : ExAt (ECl K) H n e) :
    RdH K H0 (L2.upd H a (.lst (es.map V.ref ++ [V.ref e]))) r lvA plA fs (acc ++ [n]) (a :: ads) := by
  have dis := R.dis
  rw [List.nodup_cons, List.nodup_cons, List.nodup_cons] at dis
  obtain ⟨d1, d2, d3, d4⟩ := dis
  have al : lvA ≠ a := fun e => d1 (by rw [e]; simp)
  have ap : plA ≠ a := fun e => d2 (by rw [e]; simp)
  have ar : r ≠ a := fun e => R.ar (by rw [e]; simp)
  have o : Only a H (L2.upd H a (.lst (es.map V.ref ++ [V.ref e]))) := Only.new
  have st := o.stayL h1
  refine ⟨fun b u e => o _ _ (R.same _ _ e) (fun z => by rw [z, R.new a (by simp)] at e; cases e), o _ _ R.lvs al, o _ _ R.pls ap, ⟨⟨es ++ [e], ?_, (hx.stay st).snoc (hn.stay st)⟩, R.lev.2.keep o st d3⟩, R.dis, R.new, ?_⟩
  · rw [upd_same, List.map_append]
    rfl
  · obtain ⟨C, dx, da, i, h⟩ := R.rin
    exact ⟨C, dx, da, i, o _ _ h ar⟩
theorem RdH.sm {H' : Hp} (R : RdH K H0 H r lvA plA fs acc ads) (s : Same H H') : RdH K H0 H' r lvA plA fs acc ads := by
  have dis := R.dis
  rw [List.nodup_cons] at dis
  have la : lvA ∉ ads := fun e => dis.1 (List.mem_cons_of_mem _ e)
  obtain ⟨C, dx, da, i, h⟩ := R.rin
  exact ⟨R.same.trans s, s _ _ R.lvs, s _ _ R.pls, R.lev.keep (x := lvA) (Only.same s) (Stay.of s) la, R.dis, R.new, ⟨C, dx, da, i, s _ _ h⟩⟩
/-- a level is closed -/
theorem RdH.pop {acc0 : List Node} {p f0 : Nat} {a : Addr} (R : RdH K H0 H r lvA plA ((acc0, p, f0) :: fs) acc (a :: ads)) :
    RdH K H0 (L2.upd (L2.upd H lvA (.lst (ads.reverse.map V.ref))) plA (.lst ((fs.map fun q => V.int (q.2.1 : Nat)).reverse))) r lvA plA fs acc0 ads ∧
    ∃ es, L2.upd (L2.upd H lvA (.lst (ads.reverse.map V.ref))) plA (.lst ((fs.map fun q => V.int (q.2.1 : Nat)).reverse)) a = some (.lst (es.map V.ref)) ∧ ExsAt (ECl K) (L2.upd (L2.upd H lvA (.lst (ads.reverse.map V.ref))) plA (.lst ((fs.map fun q => V.int (q.2.1 : Nat)).reverse))) acc es := by
  have dis := R.dis
  rw [List.nodup_cons, List.nodup_cons, List.nodup_cons] at dis
  obtain ⟨d1, d2, d3, d4⟩ := dis
  have lp : lvA ≠ plA := fun e => d1 (by rw [e]; simp)
  have al : lvA ≠ a := fun e => d1 (by rw [e]; simp)
  have ap : plA ≠ a := fun e => d2 (by rw [e]; simp)
  have la : lvA ∉ ads := fun e => d1 (by simp [e])
  have pa : plA ∉ ads := fun e => d2 (by simp [e])
  have o1 : Only lvA H (L2.upd H lvA (.lst (ads.reverse.map V.ref))) := Only.new
  have st1 := o1.stayL R.lvs
  have g2 := o1 _ _ R.pls lp.symm
  have o2 : Only plA (L2.upd H lvA (.lst (ads.reverse.map V.ref))) (L2.upd (L2.upd H lvA (.lst (ads.reverse.map V.ref))) plA (.lst ((fs.map fun q => V.int (q.2.1 : Nat)).reverse))) := Only.new
  have st2 := o2.stayL g2
  obtain ⟨⟨es, h1, hx⟩, hl⟩ := R.lev
  refine ⟨⟨fun b u e => ?_, ?_, upd_same, (hl.keep o1 st1 la).keep o2 st2 pa, ?_, ?_, ?_⟩, es, o2 _ _ (o1 _ _ h1 al.symm) ap.symm, (hx.stay st1).stay st2⟩
  · have b1 : b ≠ plA := fun z => by rw [z, R.new plA (by simp)] at e; cases e
    have b3 : b ≠ lvA := fun z => by rw [z, R.new lvA (by simp)] at e; cases e
    exact o2 _ _ (o1 _ _ (R.same _ _ e) b3) b1
  · rw [upd_ne lp, upd_same]
  · rw [List.nodup_cons, List.nodup_cons]
    refine ⟨fun q => ?_, pa, d4⟩
    rcases List.mem_cons.mp q with q | q
    · exact lp q
    · exact la q
  · intro b hb
    refine R.new b ?_
    simp only [List.mem_cons] at hb ⊢
    rcases hb with q | q | q | q
    · exact .inl q
    · exact .inr (.inl q)
    · exact .inr (.inr (.inl q))
    · exact .inr (.inr (.inr (.inr q)))
  · obtain ⟨C, dx, da, i, h⟩ := R.rin
    exact ⟨C, dx, da, i, o2 _ _ (o1 _ _ h R.lr.symm) R.pr.symm⟩
end
end Ck
namespace Ck
open PySem PySem.Spec PyProof.Rows L2 RZ
open Kh450 (Node)
section
variable {P : Program} {w : World} {K : PySem.W.Frag} {mg : Str → Option Value} {base : Heap}
abbrev s_read_expressions : Stmt := top 37
theorem sc_read_expressions : FnScope ["data", "reader", "levels", "places", "place", "parts"] ["data"] (defScope s_read_expressions) := ⟨rfl, rfl, rfl, by decide +kernel, rfl, by decide +kernel, by decide +kernel⟩
theorem ok_read_expressions (T : Txt w K mg) (c_Reader : KeptC P w K mg base CX0 1 "Reader" ["self", "data"] (spInitR K)) (c_Reader_skip_white_space : KeptM P w K mg base CX0 2 "Reader" "skip_white_space" ["self"] (spSkipW K)) (c_make_list : Kept P w K mg base CX0 4 "make_list" ["parts", "place"] (spMkList (He.ga K "Expression")))
    (c_Reader_read_simple : KeptM P w K mg base (L2.CX P w) 7 "Reader" "read_simple" ["self"] (spSimple K)) {f : Addr} {fd : FuncData} (F : FnP K "read_expressions" s_read_expressions f fd) : FnOk P w K mg base (L2.CX P w) 8 f fd ["data"] (spReadX K) := by
  refine F.ok sc_read_expressions (fun vs H Q E h => ?_) (fun cdv A outer s H vs Q E hr h => ⟨_, (pss_cons (ps_set (i := 1) sc_read_expressions.nd rfl (Or.inl rfl) (pe_kmk c_Reader hr (by omega) pass0 (pa_cons (pv 0) pa_nil))) (pss_cons (ps_set (i := 2) sc_read_expressions.nd rfl (Or.inl rfl) (pe_lst (pa_cons (pe_lst pa_nil) pa_nil))) (pss_cons (ps_set (i := 3) sc_read_expressions.nd rfl (Or.inl rfl) (pe_lst pa_nil)) (pss_cons (ps_expr (pe_km0 c_Reader_skip_white_space hr (by omega) pass0 (pv 1))) (pss_cons (ps_while (passes_of rfl) (pt_cmpR op_lt (pe_fld (pv 1) rfl) (pe_callB call_len_seq (by rfl) T.nlen PySem.boot_len (pa_cons (pv 0) pa_nil)) (nomark _)) (pss_cons (ps_set (i := 4) sc_read_expressions.nd rfl (Or.inl rfl) (pe_fld (pv 1) rfl)) (pss_cons (ps_if (pt_cmpR op_eq (pe_ix ix_list (pv 0) (pv 4) (fun _ _ => rfl)) (C8.pe_gc rfl T.cOPENING) (nomark _)) (pss_cons (ps_if (pt_cmpR op_eq (pe_callB call_len_seq (by rfl) T.nlen PySem.boot_len (pa_cons (pv 3) pa_nil)) (C8.pe_gc rfl T.cDEEPEST) (nomark _)) (pss_one (ps_raiseFault rfl T.fault hr (by omega) (takes_of rfl rfl rfl rfl) (pa_cons pe_int (pa_cons (pv 4) pa_nil)))) pss_nil) (pss_cons (ps_expr (pe_bm PySem.F.plainAttrs_list PySem.F.slot_list_append PySem.F.type_list_append mt_append (pv 3) (pa_cons (pv 4) pa_nil))) (pss_cons (ps_expr (pe_bm PySem.F.plainAttrs_list PySem.F.slot_list_append PySem.F.type_list_append mt_append (pv 2) (pa_cons (pe_lst pa_nil) pa_nil))) (pss_one (ps_fldaug (pv 1) pe_int in_add))))) (pss_one (ps_if (PW.pt (pw_and (pt_cmpR op_eq (pe_ix ix_list (pv 0) (pv 4) (fun _ _ => rfl)) (C8.pe_gc rfl T.cCLOSING) (nomark _)) (pw_and1 (pt_truth (pv 3) (by intro _; rfl))))) (pss_cons (ps_set (i := 5) sc_read_expressions.nd rfl (Or.inl rfl) (pe_bm0 PySem.F.plainAttrs_list PySem.F.slot_list_pop PySem.F.type_list_pop mt_pop (pv 2))) (pss_cons (ps_expr (pe_bm PySem.F.plainAttrs_list PySem.F.slot_list_append PySem.F.type_list_append mt_append (pe_ix ix_list (pv 2) (pe_un un_neg pe_int) (fun _ _ => rfl)) (pa_cons (pe_k c_make_list hr (by omega) pass0 (pa_cons (pv 5) (pa_cons (pe_bm0 PySem.F.plainAttrs_list PySem.F.slot_list_pop PySem.F.type_list_pop mt_pop (pv 3)) pa_nil))) pa_nil))) (pss_one (ps_fldaug (pv 1) pe_int in_add)))) (pss_one (ps_expr (pe_bm PySem.F.plainAttrs_list PySem.F.slot_list_append PySem.F.type_list_append mt_append (pe_ix ix_list (pv 2) (pe_un un_neg pe_int) (fun _ _ => rfl)) (pa_cons (pe_km0 c_Reader_read_simple hr (by omega) (pass_on (CX' := L2.CX P w)) (pv 1)) pa_nil))))))) (pss_one (ps_expr (pe_km0 c_Reader_skip_white_space hr (by omega) pass0 (pv 1))))))) (pss_cons (ps_if (pt_truth (pv 3) (by intro _; rfl)) (pss_one (ps_raiseFault rfl T.fault hr (by omega) (takes_of rfl rfl rfl rfl) (pa_cons pe_int (pa_cons (pe_callB call_len_seq (by rfl) T.nlen PySem.boot_len (pa_cons (pv 0) pa_nil)) pa_nil)))) pss_nil) (pss_one (ps_ret (pe_ix ix_list (pv 2) pe_int (fun _ _ => rfl)))))))))), ?_⟩)
  · obtain ⟨da, bs, rfl, _⟩ := h
    rfl
  · obtain ⟨da, bs, rfl, hS, h256, h600, h⟩ := h
    refine sq ⟨_, rfl, fun r dx nr nd ne => ?_⟩
    refine ⟨r, dx, da, rfl, upd_same, fun H1 u1 kp => ⟨rfl, ?_⟩⟩
    have s1 : Same H H1 := Same.made nr nd kp
    refine sq ⟨Nat.zero_le _, fun a0 n0 => ⟨one_le, fun lvA n1 => ?_⟩⟩
    refine sq ⟨Nat.zero_le _, fun plA n2 => ?_⟩
    have s2 := s1.trans (Same.new (o := .lst []) n0)
    have s3 := s2.trans (Same.new (o := .lst [V.ref a0]) n1)
    have s4 := s3.trans (Same.new (o := .lst []) n2)
    have ra0 : r ≠ a0 := ne_of_none u1 n0
    have u2 := (Same.new (o := .lst []) n0) _ _ u1
    have a0l : a0 ≠ lvA := ne_of_none upd_same n1
    have v2 : upd (upd H1 a0 (.lst [])) lvA (.lst [V.ref a0]) a0 = some (.lst []) := (upd_ne a0l).trans upd_same
    have u3 := (Same.new (o := .lst [V.ref a0]) n1) _ _ u2
    have a0p : a0 ≠ plA := ne_of_none v2 n2
    have lp : lvA ≠ plA := ne_of_none upd_same n2
    have n0' : H a0 = none := none_of s1 n0
    have n1' : H lvA = none := none_of s2 n1
    have n2' : H plA = none := none_of s3 n2
    have w1 := (Same.new (o := .lst []) n2) _ _ u3
    have w2 := (Same.new (o := .lst []) n2) _ _ v2
    have w3 : upd (upd (upd H1 a0 (.lst [])) lvA (.lst [V.ref a0])) plA (.lst []) lvA = some (.lst [V.ref a0]) := (upd_ne lp).trans upd_same
    have w4 : upd (upd (upd H1 a0 (.lst [])) lvA (.lst [V.ref a0])) plA (.lst []) plA = some (.lst []) := upd_same
    refine sq ⟨_, rfl, r, dx, _, rfl, w1, rF_none, r, dx, da, bs, 0, rfl, ⟨w1, s4.seq hS, Nat.zero_le _⟩, fun H5 j hR5 on5 _ e5 => ?_⟩
    generalize upd (upd (upd H1 a0 (.lst [])) lvA (.lst [V.ref a0])) plA (.lst []) = H4 at *
    have rl : lvA ≠ r := fun e => by rw [e, w1] at w3; cases w3
    have rp : plA ≠ r := fun e => by rw [e, w1] at w4; cases w4
    have firstH : RdH K H H5 r lvA plA [] [] [a0] := by
      refine ⟨fun b o e => on5 _ _ (s4 _ _ e) (ne_of_none e nr), on5 _ _ w3 rl, on5 _ _ w4 rp, ⟨⟨[], on5 _ _ w2 ra0.symm, by rw [ExsAt]⟩, trivial⟩, ?_, ?_, ⟨_, _, _, _, hR5.1⟩⟩
      · simp [lp, a0l.symm, a0p.symm]
      · intro a ha
        simp only [List.mem_cons, List.not_mem_nil, or_false] at ha
        rcases ha with q | q | q | q <;> rw [q] <;> assumption
    have firstP : RdP bs j [] [] (bs.length + 1) := by
      refine ⟨Nat.zero_le _, ⟨Nat.zero_le _, fun q hq => by cases hq⟩, ⟨by rw [List.length_drop]; omega, fun q hq => by cases hq⟩, ?_⟩
      · rw [e5, cur_skip]
        show _ = (Kh450.readAllLoop bs.length (bs.length + 1) bs).bind _
        unfold Kh450.readAll
        cases Kh450.readAllLoop bs.length (bs.length + 1) bs <;> rfl
    have hsk : Kh450.skipSpace false (bs.drop j) = bs.drop j := by rw [e5, skip_idem]
    dsimp only
    refine sq (wh_cut (fun m σ H' => ∃ j fs acc f ads, m = bs.length - j ∧ (∃ v u, σ = [some (.ref da), some (.ref r), some (.ref lvA), some (.ref plA), v, u]) ∧ RdAt K H' r dx da bs j ∧ RdH K H H' r lvA plA fs acc ads ∧ RdP bs j fs acc f ∧ Kh450.skipSpace false (bs.drop j) = bs.drop j) (bs.length - j)
      (fun σ H' => ∃ j fs acc f ads, (∃ v u, σ = [some (.ref da), some (.ref r), some (.ref lvA), some (.ref plA), v, u]) ∧ RdAt K H' r dx da bs j ∧ RdH K H H' r lvA plA fs acc ads ∧ RdP bs j fs acc f ∧ bs.drop j = []) ⟨j, [], [], _, [a0], rfl, ⟨none, none, rfl⟩, hR5, firstH, firstP, hsk⟩ ?_ ?_)
    · rintro X hX m σ H' ⟨j, fs, acc, f, ads, rfl, ⟨v, u, rfl⟩, R1, R2, R3, sk⟩
      obtain ⟨g1, g2, g3⟩ := R1
      have e40 : ∀ c : Nat, (V.int (c : Nat) = V.int 40) ↔ c = 40 := fun c => int_eq (c := 40)
      have e41 : ∀ c : Nat, (V.int (c : Nat) = V.int 41) ↔ c = 41 := fun c => int_eq (c := 41)
      simp only [cxK, cxW, cxKn, cxWn, tRet, tRetN, tC, tVar, tOp, tUn, rI0, rI, rU, rEq, rNe, scal, tChain, tTest, tB, tIfS, tAnd, tOr, tNot, tAndV, tOrV, tNotV, tIf, tSeq, tNext, tAsg, gName, tDrop, tCons, tNil, tCall, tMeth, tCB, tBM, tBM0, L2.start, List.map_cons, List.map_nil, List.length_cons, List.length_nil, List.replicate, Nat.reduceAdd, Nat.reduceSub, List.cons_append, List.nil_append, List.append_nil, List.getElem?_cons_zero, List.getElem?_cons_succ, List.set_cons_zero, List.set_cons_succ, Option.some.injEq, exists_and_left, exists_and_right, exists_eq_left, exists_eq_left', exists_eq_right, exists_eq_right', exists_eq, exists_eq', V.int.injEq, V.str.injEq, V.ref.injEq, V.bl.injEq, List.cons.injEq, true_and, and_true, and_self, decide_eq_true_eq, exists_const, if_true, if_false, Bool.not_eq_true', decide_eq_false_iff_not, Bool.false_eq_true, reduceIte, Bool.not_true, Bool.not_false, tFld, sFldAug, sFld, L2.rAdd, put_at, rF_len, T.clR, rN_data T, rN_at T, lk_data, lk_at, HO.ins.injEq, and_assoc, g1, rIxL]
      refine ⟨_, .inl g2, ?_⟩
      rw [vI_len]
      by_cases lt : j < bs.length
      · rw [if_pos (by omega)]
        have ed := drop_at lt
        have lf : (bs.drop j).length = bs.length - j := List.length_drop
        have ne1 : bs.length - (bs.drop j).length = j := by rw [lf]; omega
        obtain ⟨f, rfl⟩ : ∃ f', f = f' + 1 := ⟨f - 1, by have := R3.fuel.1; omega⟩
        have deep := R3.deep
        have dis := R2.dis
        rw [List.nodup_cons] at dis
        have lp : lvA ≠ plA := fun e => dis.1 (by rw [e]; exact List.mem_cons_self)
        have c1 : ((j : Int) + 1) = ((j + 1 : Nat) : Int) := by omega
        have skip : ∀ H2 j2 fs2 acc2 f2 ads2 (v2 u2 : Option V), j < j2 → RdAt K H2 r dx da bs j2 → RdH K H H2 r lvA plA fs2 acc2 ads2 → RdP bs j2 fs2 acc2 f2 → spSkipW K [.ref r] H2 (fun _ H1 => ∃ m', m' < bs.length - j ∧ ∃ j_1, m' = bs.length - j_1 ∧ (∃ v u, [some (V.ref da), some (.ref r), some (.ref lvA), some (.ref plA), v2, u2] = [some (V.ref da), some (.ref r), some (.ref lvA), some (.ref plA), v, u]) ∧ RdAt K H1 r dx da bs j_1 ∧ ∃ x x_1, (∃ x_2, RdH K H H1 r lvA plA x x_1 x_2) ∧ (∃ x_2, RdP bs j_1 x x_1 x_2) ∧ Kh450.skipSpace false (bs.drop j_1) = bs.drop j_1) E0 := by
          intro H2 j2 fs2 acc2 f2 ads2 v2 u2 lj q1 q2 q3
          refine ⟨r, dx, da, bs, j2, rfl, q1, fun H3 j3 p1 p2 p3 p4 => ⟨bs.length - j3, by omega, j3, rfl, ⟨_, _, rfl⟩, p1, fs2, acc2, ⟨ads2, q2.only p2 p1.1⟩, ⟨f2, q3.skip p3 p4⟩, by rw [p4, skip_idem]⟩⟩
        have bump : ∀ H1 fs2 acc2 f2 ads2 (v2 u2 : Option V), RdAt K H1 r dx da bs j → RdH K H H1 r lvA plA fs2 acc2 ads2 → RdP bs (j + 1) fs2 acc2 f2 →
            ∃ x x_1 x_2, H1 r = some (.ins x x_1 x_2) ∧ Cls K x ∧ NoAttr K x "at" ∧ ∃ x_3, x_2.lookup ("at" : Str) = some x_3 ∧ ∃ i, x_3 = V.int i ∧ ∃ dx' fs', H1 r = some (.ins x dx' fs') ∧ fs'.length < 1000 ∧ ∃ x_4 x_5, upd H1 r (.ins x dx' (putF "at" (.int (i + 1)) fs')) r = some (.ins (He.ga K "Reader") x_4 x_5) ∧ x_5.lookup ("skip_white_space" : Str) = none ∧
              spSkipW K [.ref r] (upd H1 r (.ins x dx' (putF "at" (.int (i + 1)) fs'))) (fun _ H1 => ∃ m', m' < bs.length - j ∧ ∃ j_1, m' = bs.length - j_1 ∧ (∃ v u, [some (V.ref da), some (.ref r), some (.ref lvA), some (.ref plA), v2, u2] = [some (V.ref da), some (.ref r), some (.ref lvA), some (.ref plA), v, u]) ∧ RdAt K H1 r dx da bs j_1 ∧ ∃ x x_1, (∃ x_2, RdH K H H1 r lvA plA x x_1 x_2) ∧ (∃ x_2, RdP bs j_1 x x_1 x_2) ∧ Kh450.skipSpace false (bs.drop j_1) = bs.drop j_1) E0 := by
          intro H1 fs2 acc2 f2 ads2 v2 u2 q1 q2 q3
          refine ⟨_, _, _, q1.1, T.clR, rN_at T, _, lk_at, _, rfl, _, _, q1.1, (by rw [rF_len]; decide), _, _, upd_same, ?_, ?_⟩
          · rw [put_at]
            exact rF_none
          · rw [put_at, c1]
            have q4 := q1.step (j := j + 1) lt
            exact skip _ (j + 1) fs2 acc2 f2 ads2 v2 u2 (by omega) q4 (q2.only Only.new q4.1) q3
        have len17 : ads.length ≤ 17 := by
          have := R2.lev.len
          rw [List.length_cons, List.length_map] at this
          omega
        refine ⟨_, fun _ _ z => z, _, g2, _, vI_at lt, (by first | rfl | trivial), ?_⟩
        by_cases k1 : bs[j] = 40
        · rw [if_pos ((e40 _).mpr k1)]
          refine ⟨_, .inl (SqL.of R2.pls), ?_⟩
          rw [List.length_reverse, List.length_map]
          by_cases k2 : fs.length = 16
          · rw [if_pos (by omega)]
            have e1 : cur bs.length fs acc (f + 1) (bs.drop j) = .error 6 (bs.drop j) := by
              have hs2 := sk
              rw [ed, k1] at hs2 ⊢
              refine cur_err _ _ _ _ deep hs2 (.inr (by decide)) ?_
              rw [k2]
              exact rn_deep _ _
            rw [R3.due, e1] at h
            have h' : FaultE K E 6 (bs.length - (bs.drop j).length) := h
            rw [ne1] at h'
            exact raise_at rfl rfl h' (fun R q => ⟨_, rfl, q _⟩)
          rw [if_neg (by omega)]
          refine ⟨.inl ⟨rfl, _, SqL.of R2.pls⟩, plA, _, _, rfl, rfl, R2.pls, by rw [List.length_reverse, List.length_map, sizeLine_eq]; omega, .inl ⟨rfl, _, SqL.of ((upd_ne lp).trans R2.lvs)⟩, Nat.zero_le _, fun a na => ?_⟩
          have npa : plA ≠ a := ne_of_none upd_same na
          have na0 : H' a = none := by
            rw [upd_ne npa.symm] at na
            exact na
          have al : lvA ≠ a := ne_of_none R2.lvs na0
          refine ⟨lvA, _, _, rfl, rfl, (upd_ne al).trans ((upd_ne lp).trans R2.lvs), by rw [List.length_map, List.length_reverse, sizeLine_eq]; omega, ?_⟩
          have o1 : Only r H' H' := Only.refl
          have R4 := R2.opening (p := j) (f := f) na0
          have hr4 : upd (upd (upd H' plA (.lst ((fs.map fun q => V.int (q.2.1 : Nat)).reverse ++ [V.int (j : Nat)]))) a (.lst [])) lvA (.lst (ads.reverse.map V.ref ++ [V.ref a])) r = some (.ins (He.ga K "Reader") dx (rF da (j : Int))) := by
            rw [upd_ne R2.lr.symm, upd_ne (ne_of_none g1 na0), upd_ne R2.pr.symm]
            exact g1
          exact bump _ _ _ _ _ _ _ ⟨hr4, R4.same.seq hS, g3⟩ R4 (R3.opening lt k1 (by omega))
        rw [if_neg (fun q => k1 ((e40 _).mp q))]
        have g0 : bs.getD j 0 = bs[j] := by simp [List.getD, List.getElem?_eq_getElem lt]
        refine ⟨_, g2, _, vI_at lt, (by first | rfl | trivial), ?_⟩
        cases ads with
        | nil => exact R2.lev.elim
        | cons a ads =>
          obtain ⟨es, h1, hx⟩ := R2.lev.1
          by_cases k2 : bs[j] = 41
          · rw [if_pos ((e41 _).mpr k2)]
            cases fs with
            | nil =>
              refine ⟨false, .inl ⟨[], SqL.of R2.pls, rfl⟩, ?_⟩
              rw [if_neg (by decide)]
              refine ⟨_, SqL.of R2.lvs, .ref a, by rw [List.reverse_cons, List.map_append]; exact atI_last _ _, .inl ⟨rfl, _, SqL.of h1⟩, rF_none, r, dx, da, bs, j, 16 - ([] : List Frame).length, rfl, ⟨g1, g2, g3⟩, h256, h600, lt, by rw [g0]; exact k1, ?_⟩
              cases rn : Kh450.readNode bs.length (16 - ([] : List Frame).length) (bs.drop j) with
              | error k rest =>
                have e1 : cur bs.length [] acc (f + 1) (bs.drop j) = .error k rest := by
                  have hs2 := sk
                  rw [ed] at hs2 rn ⊢
                  exact cur_err _ _ _ _ deep hs2 (.inl rfl) rn
                rw [R3.due, e1] at h
                exact h
              | ok n rest =>
                intro H2 j2 e q1 q2 q3 q4 q5
                have ar : a ≠ r := fun z => R2.ar (by rw [z]; exact List.mem_cons_self)
                have st := q2.stay g1 (by rw [rF_len]; decide)
                have h1' := q2 _ _ h1 ar
                have R4 := (R2.only q2 q1.1).node h1' (hx.stay st) q5
                rw [← q4] at rn
                have hr4 : upd H2 a (.lst (es.map V.ref ++ [V.ref e])) r = some (.ins (He.ga K "Reader") dx (rF da (j2 : Int))) := (upd_ne ar.symm).trans q1.1
                have es600 : es.length ≤ 600 := by
                  have := hx.len
                  have := R3.few.1
                  omega
                exact ⟨a, _, _, rfl, rfl, h1', by rw [List.length_map, sizeLine_eq]; omega, _, _, hr4, rF_none, skip _ j2 _ _ _ _ _ _ q3 ⟨hr4, R4.same.seq hS, q1.2.2⟩ R4 (R3.node lt sk (.inl rfl) rn q3 q1.2.2)⟩
            | cons q fs =>
              obtain ⟨acc0, p0, f0⟩ := q
              have pls2 : H' plA = some (.lst ((fs.map fun q => V.int (q.2.1 : Nat)).reverse ++ [V.int (p0 : Nat)])) := by
                rw [R2.pls, List.map_cons, List.reverse_cons]
              have lvs2 : H' lvA = some (.lst (ads.reverse.map V.ref ++ [V.ref a])) := by
                rw [R2.lvs, List.reverse_cons, List.map_append]
                rfl
              refine ⟨true, .inl ⟨_, SqL.of R2.pls, by simp⟩, ?_⟩
              rw [if_pos rfl]
              cases ads with
              | nil => exact R2.lev.2.elim
              | cons a1 ads =>
                obtain ⟨R5, es5, h5, hx5⟩ := R2.pop
                have al : a1 ≠ lvA := fun e => dis.1 (by rw [← e]; simp)
                obtain ⟨es1, i1, ix1⟩ := R2.lev.2.1
                refine ⟨.inl ⟨rfl, _, SqL.of R2.lvs⟩, lvA, _, .ref a, rfl, rfl, lvs2, by simp, ?_⟩
                rw [List.dropLast_concat]
                refine ⟨_, SqL.of upd_same, .ref a1, by rw [List.reverse_cons, List.map_append]; exact atI_last _ _, .inl ⟨rfl, _, SqL.of ((upd_ne al).trans i1)⟩, .inl ⟨rfl, _, SqL.of ((upd_ne lp.symm).trans pls2)⟩, plA, _, .int (p0 : Nat), rfl, rfl, (upd_ne lp.symm).trans pls2, by simp, ?_⟩
                rw [List.dropLast_concat]
                have ac : acc.length ≤ 1000 := by
                  have := R3.few.1
                  omega
                refine ⟨a, acc, es5, p0, rfl, h5, hx5, ac, fun H3 e s3 _ he => ?_⟩
                have R6 := R5.sm s3
                obtain ⟨es6, h6, hx6⟩ := R6.lev.1
                have R7 := R6.node h6 hx6 he
                have a1r : r ≠ a1 := fun z => R6.ar (by rw [z]; exact List.mem_cons_self)
                have hr7 : upd H3 a1 (.lst (es6.map V.ref ++ [V.ref e])) r = some (.ins (He.ga K "Reader") dx (rF da (j : Int))) :=
                  (upd_ne a1r).trans (s3 _ _ ((upd_ne R2.pr.symm).trans ((upd_ne R2.lr.symm).trans g1)))
                have es600 : es6.length ≤ 600 := by
                  have := hx6.len
                  have := R3.few.2 _ List.mem_cons_self
                  dsimp only at this
                  omega
                exact ⟨a1, _, _, rfl, rfl, h6, by rw [List.length_map, sizeLine_eq]; omega, bump _ _ _ _ _ _ _ ⟨hr7, R7.same.seq hS, g3⟩ R7 (R3.closing lt k2)⟩
          · rw [if_neg (fun q => k2 ((e41 _).mp q))]
            refine ⟨_, SqL.of R2.lvs, .ref a, by rw [List.reverse_cons, List.map_append]; exact atI_last _ _, .inl ⟨rfl, _, SqL.of h1⟩, rF_none, r, dx, da, bs, j, 16 - fs.length, rfl, ⟨g1, g2, g3⟩, h256, h600, lt, by rw [g0]; exact k1, ?_⟩
            cases rn : Kh450.readNode bs.length (16 - fs.length) (bs.drop j) with
            | error k rest =>
              have e1 : cur bs.length fs acc (f + 1) (bs.drop j) = .error k rest := by
                have hs2 := sk
                rw [ed] at hs2 rn ⊢
                exact cur_err _ _ _ _ deep hs2 (.inr k2) rn
              rw [R3.due, e1] at h
              exact h
            | ok n rest =>
              intro H2 j2 e q1 q2 q3 q4 q5
              have ar : a ≠ r := fun z => R2.ar (by rw [z]; exact List.mem_cons_self)
              have st := q2.stay g1 (by rw [rF_len]; decide)
              have h1' := q2 _ _ h1 ar
              have R4 := (R2.only q2 q1.1).node h1' (hx.stay st) q5
              rw [← q4] at rn
              have hr4 : upd H2 a (.lst (es.map V.ref ++ [V.ref e])) r = some (.ins (He.ga K "Reader") dx (rF da (j2 : Int))) := (upd_ne ar.symm).trans q1.1
              have es600 : es.length ≤ 600 := by
                have := hx.len
                have := R3.few.1
                omega
              exact ⟨a, _, _, rfl, rfl, h1', by rw [List.length_map, sizeLine_eq]; omega, _, _, hr4, rF_none, skip _ j2 _ _ _ _ _ _ q3 ⟨hr4, R4.same.seq hS, q1.2.2⟩ R4 (R3.node lt sk (.inr k2) rn q3 q1.2.2)⟩
      · rw [if_neg (by omega)]
        exact hX _ _ ⟨j, fs, acc, f, ads, ⟨v, u, rfl⟩, ⟨g1, g2, g3⟩, R2, R3, List.drop_eq_nil_of_le (by omega)⟩
    · rintro σ H' ⟨j, fs, acc, f, ads, ⟨v, u, rfl⟩, R1, R2, R3, ed⟩
      dsimp only
      refine sq ?_
      simp only [cxK, cxW, cxKn, cxWn, tRet, tRetN, tC, tVar, tOp, tUn, rI0, rI, rU, rEq, rNe, scal, tChain, tTest, tB, tIfS, tAnd, tOr, tNot, tAndV, tOrV, tNotV, tIf, tSeq, tNext, tAsg, gName, tDrop, tCons, tNil, tCall, tMeth, tCB, tBM, tBM0, L2.start, List.map_cons, List.map_nil, List.length_cons, List.length_nil, List.replicate, Nat.reduceAdd, Nat.reduceSub, List.cons_append, List.nil_append, List.append_nil, List.getElem?_cons_zero, List.getElem?_cons_succ, List.set_cons_zero, List.set_cons_succ, Option.some.injEq, exists_and_left, exists_and_right, exists_eq_left, exists_eq_left', exists_eq_right, exists_eq_right', exists_eq, exists_eq', V.int.injEq, V.str.injEq, V.ref.injEq, V.bl.injEq, List.cons.injEq, true_and, and_true, and_self, decide_eq_true_eq, exists_const, if_true, if_false, Bool.not_eq_true', decide_eq_false_iff_not, Bool.false_eq_true, reduceIte, Bool.not_true, Bool.not_false, rIxL]
      have due := R3.due
      obtain ⟨f, rfl⟩ : ∃ f', f = f' + 1 := ⟨f - 1, by have := R3.fuel.1; omega⟩
      rw [ed] at due
      cases fs with
      | nil =>
        obtain ⟨a, es, rfl, ha, hx⟩ := R2.lev.one
        refine ⟨false, .inl ⟨[], SqL.of R2.pls, rfl⟩, ?_⟩
        rw [if_neg (by decide)]
        have e1 : cur bs.length [] acc (f + 1) [] = .ok (acc ++ []) [] := by
          unfold cur
          rw [lv_end, if_pos (show ([] : List Frame).length = 0 from rfl)]
          rfl
        rw [due, e1, List.append_nil] at h
        exact ⟨_, SqL.of R2.lvs, _, atI_nat (j := 0) rfl, h H' a es R2.same ha hx⟩
      | cons q fs =>
        have e1 : cur bs.length (q :: fs) acc (f + 1) [] = .error 1 [] := by
          unfold cur
          rw [lv_end, if_neg (by simp), bind_err, wrapF_err]
        rw [due, e1] at h
        have pls := R2.pls
        refine ⟨true, .inl ⟨_, SqL.of pls, by simp⟩, ?_⟩
        rw [if_pos rfl]
        refine raise_at rfl rfl h (fun R7 q => ?_)
        simp only [cxK, cxW, cxKn, cxWn, tRet, tRetN, tC, tVar, tOp, tUn, rI0, rI, rU, rEq, rNe, scal, tChain, tTest, tB, tIfS, tAnd, tOr, tNot, tAndV, tOrV, tNotV, tIf, tSeq, tNext, tAsg, gName, tDrop, tCons, tNil, tCall, tMeth, tCB, tBM, tBM0, L2.start, List.map_cons, List.map_nil, List.length_cons, List.length_nil, List.replicate, Nat.reduceAdd, Nat.reduceSub, List.cons_append, List.nil_append, List.append_nil, List.getElem?_cons_zero, List.getElem?_cons_succ, List.set_cons_zero, List.set_cons_succ, Option.some.injEq, exists_and_left, exists_and_right, exists_eq_left, exists_eq_left', exists_eq_right, exists_eq_right', exists_eq, exists_eq', V.int.injEq, V.str.injEq, V.ref.injEq, V.bl.injEq, List.cons.injEq, true_and, and_true, and_self, decide_eq_true_eq, exists_const, if_true, if_false, Bool.not_eq_true', decide_eq_false_iff_not, Bool.false_eq_true, reduceIte, Bool.not_true, Bool.not_false]
        refine ⟨_, .inl (R2.same.seq hS), ?_⟩
        rw [vI_len]
        exact q _
end
end Ck
namespace Ck
open PySem PySem.Spec PyProof.Rows L2 RZ
open Kh450 (Node)
abbrev Err : Type := Option (Nat × Nat)
/-- nothing, or what is raised -/
def ErrTo (K : PySem.W.Frag) (H : Hp) (Q : VK) (E : XK) : Err → Prop
  | none => ∀ H', Same H H' → Q .non H'
  | some q => FaultE K E q.1 q.2
def shapeErr (n : Node) (sh : Str) : Err := if shapeN n = sh then none else some (8, n.position)
def rangeOk (n : Node) (form : Str) : Bool := if form = "filled" then !decide (textN n = "") else formOk n (roleN n) form
def rangeErr (n : Node) (form : Str) : Err := if rangeOk n form = true then none else some (9, n.position)
def kindErr (p : Nat) (n : Node) : Err := if shapeN n = "symbol" then (if textN n ∈ kindsT then none else some (9, n.position)) else some (8, p)
def both (a b : Err) : Err := match a with
  | none => b
  | some q => some q
def firstErr {α : Type} (f : α → Err) : List α → Err
  | [] => none
  | x :: r => both (f x) (firstErr f r)
def argErr (sel : Node → Err) (p : Nat) (form : Str) (n : Node) : Err :=
  if form = "selector" then sel n else if form = "kind" then kindErr p n else if form = "level" ∨ form = "integer" then both (shapeErr n "integer") (rangeErr n form) else both (shapeErr n "string") (rangeErr n form)
def argsErr (sel : Node → Err) (p : Nat) (forms : List Str) (args : List Node) : Err := if args.length = forms.length then firstErr (fun q : Node × Str => argErr sel p q.2 q.1) (args.zip forms) else some (8, p)
/-- one expression, and what is wrong with it -/
def spOne (K : PySem.W.Frag) (ok : Node → Prop) (f : Node → Err) : Sp := fun vs H Q E => ∃ (a : Addr) (n : Node), vs = [.ref a] ∧ ExAt (ECl K) H n a ∧ ok n ∧ ErrTo K H Q E (f n)
def spWith (K : PySem.W.Frag) (f : Node → Str → Err) : Sp := fun vs H Q E => ∃ (a : Addr) (n : Node) (z : Str), vs = [.ref a, .str z] ∧ ExAt (ECl K) H n a ∧ ErrTo K H Q E (f n z)
def spKind (K : PySem.W.Frag) : Sp := fun vs H Q E => ∃ (e a : Addr) (m n : Node), vs = [.ref e, .ref a] ∧ ExAt (ECl K) H m e ∧ ExAt (ECl K) H n a ∧ ErrTo K H Q E (kindErr m.position n)
def spArgs (K : PySem.W.Frag) (ok : Node → Prop) (sel : Node → Err) : Sp := fun vs H Q E => ∃ (e fa : Addr) (m : Node) (forms : List Str), vs = [.ref e, .ref fa] ∧ ExAt (ECl K) H m e ∧ TupS K fa forms ∧ kids m ≠ [] ∧ (("selector" : Str) ∈ forms → ∀ n ∈ (kids m).drop 1, ok n) ∧ ErrTo K H Q E (argsErr sel m.position forms ((kids m).drop 1))
theorem inV_str (z : Str) : ∀ l : List Str, inV (.str z) (l.map V.str) = decide (z ∈ l)
  | [] => rfl
  | x :: r => by
    show (eqV (.str x) (.str z) || inV (.str z) (r.map V.str)) = _
    rw [inV_str z r]
    show ((x == z) || _) = _
    rw [Bool.eq_iff_iff, Bool.or_eq_true, beq_iff_eq, decide_eq_true_eq, decide_eq_true_eq, List.mem_cons]
    constructor
    · rintro (q | q)
      · exact .inl q.symm
      · exact .inr q
    · rintro (q | q)
      · exact .inl q.symm
      · exact .inr q
theorem ifs_of {c : TT} {t e : TS} {D : Ends} {σ : L2.St} {H : Hp} (b : Bool) (hc : ∀ R : Bool → Hp → Prop, R b H → c σ H R) (ht : b = true → t D σ H) (he : b = false → e D σ H) : tIfS c t e D σ H := by
  refine hc _ ?_
  cases b with
  | true => exact ht rfl
  | false => exact he rfl
theorem fe_more {α : Type} {f : α → Err} : ∀ {l : List α} {i : Nat} {x : α}, l[i]? = some x → firstErr f (l.take i) = none → f x = none → firstErr f (l.take (i + 1)) = none
  | [], i, x, h, _, _ => by simp at h
  | y :: r, 0, x, h, _, hx => by
    have e : y = x := Option.some.inj h
    rw [e]
    show both (f x) none = none
    rw [hx]
    rfl
  | y :: r, i + 1, x, h, h0, hx => by
    have h0 : both (f y) (firstErr f (r.take i)) = none := h0
    show both (f y) (firstErr f (r.take (i + 1))) = none
    cases e : f y with
    | some q => rw [e] at h0; cases h0
    | none =>
      rw [e] at h0
      exact fe_more (by simpa using h) h0 hx
theorem fe_stop {α : Type} {f : α → Err} : ∀ {l : List α} {i : Nat} {x : α} {q : Nat × Nat}, l[i]? = some x → firstErr f (l.take i) = none → f x = some q → firstErr f l = some q
  | [], i, x, q, h, _, _ => by simp at h
  | y :: r, 0, x, q, h, _, hx => by
    have e : y = x := Option.some.inj h
    rw [e]
    show both (f x) _ = _
    rw [hx]
    rfl
  | y :: r, i + 1, x, q, h, h0, hx => by
    have h0 : both (f y) (firstErr f (r.take i)) = none := h0
    show both (f y) (firstErr f r) = _
    cases e : f y with
    | some q => rw [e] at h0; cases h0
    | none =>
      rw [e] at h0
      exact fe_stop (by simpa using h) h0 hx
theorem err_go {K : PySem.W.Frag} {H : Hp} {Q : VK} {E : XK} {e : Err} (h0 : e = none → ∀ H', Same H H' → Q .non H') (h1 : ∀ q, e = some q → FaultE K E q.1 q.2) : ErrTo K H Q E e := by
  cases e with
  | none => exact h0 rfl
  | some q => exact h1 q rfl
section
variable {P : Program} {w : World} {K : PySem.W.Frag} {mg : Str → Option Value} {base : Heap}
theorem raise_pl (T : Txt w K mg) {C : Addr} (hC : C = He.ga K "Fault") {W : WX} {E : XK} (hW : W = fun cls d _ H => E cls d H) {D : Ends} {σ : L2.St} {H : Hp} {k i : Nat} {n : Node} {a dx pa : Addr} (ha : H a = some (.ins (ECl K) dx (nodeF n pa))) (hs : σ[i]? = some (some (.ref a))) (h : FaultE K E k n.position) :
    tRaiseFault C W (tCons (tC (V.int (k : Int))) (tCons (tFld K (tVar i) "place") tNil)) D σ H := by
  refine raise_at hC hW h (fun R q => ?_)
  exact ⟨_, hs, a, _, dx, _, _, rfl, ha, T.clE, eN_place T, lk_place, q _⟩
abbrev s_check_shape : Stmt := top 60
theorem sc_check_shape : FnScope ["argument", "shape"] ["argument", "shape"] (defScope s_check_shape) := ⟨rfl, rfl, rfl, by decide +kernel, rfl, by decide +kernel, by decide +kernel⟩
theorem ok_check_shape (T : Txt w K mg) {f : Addr} {fd : FuncData} (F : FnP K "check_shape" s_check_shape f fd) : FnOk P w K mg base (L2.CX P w) 2 f fd ["argument", "shape"] (spWith K shapeErr) := by
  refine F.ok sc_check_shape (fun vs H Q E h => ?_) (fun cdv A outer s H vs Q E hr h => ⟨_, (pss_one (ps_if (pt_cmpR op_ne (pe_fld (pv 0) rfl) (pv 1) (nomark _)) (pss_one (ps_raiseFault rfl T.fault hr (by omega) (takes_of rfl rfl rfl rfl) (pa_cons pe_int (pa_cons (pe_fld (pv 0) rfl) pa_nil)))) pss_nil)), ?_⟩)
  · obtain ⟨a, n, z, rfl, _⟩ := h
    rfl
  · obtain ⟨a, n, z, rfl, ha, h⟩ := h
    obtain ⟨dx, pa, as, h1, h2, h3, h4⟩ := ha.any
    simp only [cxK, cxW, cxKn, cxWn, tRet, tRetN, tC, tVar, tOp, tUn, rI0, rI, rU, rEq, rNe, scal, tChain, tTest, tB, tIfS, tAnd, tOr, tNot, tAndV, tOrV, tNotV, tIf, tSeq, tNext, tAsg, gName, tDrop, tCons, tNil, tCall, tMeth, tCB, tBM, tBM0, L2.start, List.map_cons, List.map_nil, List.length_cons, List.length_nil, List.replicate, Nat.reduceAdd, Nat.reduceSub, List.cons_append, List.nil_append, List.append_nil, List.getElem?_cons_zero, List.getElem?_cons_succ, List.set_cons_zero, List.set_cons_succ, Option.some.injEq, exists_and_left, exists_and_right, exists_eq_left, exists_eq_left', exists_eq_right, exists_eq_right', exists_eq, exists_eq', V.int.injEq, V.str.injEq, V.ref.injEq, V.bl.injEq, List.cons.injEq, true_and, and_true, and_self, decide_eq_true_eq, exists_const, if_true, if_false, Bool.not_eq_true', decide_eq_false_iff_not, Bool.false_eq_true, reduceIte, Bool.not_true, Bool.not_false, tFld, T.clE, eN_shape T, eN_place T, eN_text T, eN_number T, eN_parts T, eN_head T, eN_depth T, eN_role T, lk_shape, lk_place, lk_text, lk_number, lk_parts, lk_head, lk_depth, lk_role, HO.ins.injEq, and_assoc, h1, nodeF]
    unfold shapeErr at h
    by_cases c : shapeN n = z
    · rw [if_pos c] at h
      rw [if_neg (fun q => q c)]
      exact h H (Same.refl H)
    · rw [if_neg c] at h
      rw [if_pos c]
      exact raise_pl T rfl rfl h1 rfl h
abbrev s_check_range : Stmt := top 61
theorem sc_check_range : FnScope ["argument", "form", "fits"] ["argument", "form"] (defScope s_check_range) := ⟨rfl, rfl, rfl, by decide +kernel, rfl, by decide +kernel, by decide +kernel⟩
theorem ok_check_range (T : Txt w K mg) (c_has_form : Kept P w K mg base CX0 2 "has_form" ["expression", "form"] (spHasForm (He.ga K "Expression"))) {f : Addr} {fd : FuncData} (F : FnP K "check_range" s_check_range f fd) : FnOk P w K mg base (L2.CX P w) 3 f fd ["argument", "form"] (spWith K rangeErr) := by
  refine F.ok sc_check_range (fun vs H Q E h => ?_) (fun cdv A outer s H vs Q E hr h => ⟨_, (pss_cons (ps_set (i := 2) sc_check_range.nd rfl (Or.inl rfl) (pe_ifExp (pt_cmpR op_eq (pv 1) pe_str (nomark _)) (pe_cmpR op_ne (pe_fld (pv 0) rfl) pe_str (nomark _)) (pe_k c_has_form hr (by omega) pass0 (pa_cons (pv 0) (pa_cons (pv 1) pa_nil))))) (pss_one (ps_if (pt_not (pt_val (pv 2))) (pss_one (ps_raiseFault rfl T.fault hr (by omega) (takes_of rfl rfl rfl rfl) (pa_cons pe_int (pa_cons (pe_fld (pv 0) rfl) pa_nil)))) pss_nil))), ?_⟩)
  · obtain ⟨a, n, z, rfl, _⟩ := h
    rfl
  · obtain ⟨a, n, z, rfl, ha, h⟩ := h
    obtain ⟨dx, pa, as, h1, h2, h3, h4⟩ := ha.any
    refine sq ?_
    simp only [cxK, cxW, cxKn, cxWn, tRet, tRetN, tC, tVar, tOp, tUn, rI0, rI, rU, rEq, rNe, scal, tChain, tTest, tB, tIfS, tAnd, tOr, tNot, tAndV, tOrV, tNotV, tIf, tSeq, tNext, tAsg, gName, tDrop, tCons, tNil, tCall, tMeth, tCB, tBM, tBM0, L2.start, List.map_cons, List.map_nil, List.length_cons, List.length_nil, List.replicate, Nat.reduceAdd, Nat.reduceSub, List.cons_append, List.nil_append, List.append_nil, List.getElem?_cons_zero, List.getElem?_cons_succ, List.set_cons_zero, List.set_cons_succ, Option.some.injEq, exists_and_left, exists_and_right, exists_eq_left, exists_eq_left', exists_eq_right, exists_eq_right', exists_eq, exists_eq', V.int.injEq, V.str.injEq, V.ref.injEq, V.bl.injEq, List.cons.injEq, true_and, and_true, and_self, decide_eq_true_eq, exists_const, if_true, if_false, Bool.not_eq_true', decide_eq_false_iff_not, Bool.false_eq_true, reduceIte, Bool.not_true, Bool.not_false, tFld, T.clE, eN_shape T, eN_place T, eN_text T, eN_number T, eN_parts T, eN_head T, eN_depth T, eN_role T, lk_shape, lk_place, lk_text, lk_number, lk_parts, lk_head, lk_depth, lk_role, HO.ins.injEq, and_assoc, h1, nodeF]
    unfold rangeErr rangeOk at h
    by_cases c : z = "filled"
    · rw [if_pos c]
      rw [if_pos c] at h
      by_cases c2 : textN n = ""
      · rw [if_pos (by simp [c2])]
        rw [if_neg (by simp [c2])] at h
        exact raise_pl T rfl rfl h1 rfl h
      · rw [if_neg (by simp [c2])]
        rw [if_pos (by simp [c2])] at h
        exact h H (Same.refl H)
    · rw [if_neg c]
      rw [if_neg c] at h
      refine ⟨a, n, z, rfl, ha, fun H1 s1 => ⟨_, rfl, ?_⟩⟩
      cases c2 : formOk n (roleN n) z with
      | false =>
        rw [c2] at h
        rw [if_pos rfl]
        exact raise_pl T rfl rfl (s1 _ _ h1) rfl h
      | true =>
        rw [c2] at h
        rw [if_neg (by decide)]
        exact h H1 s1
abbrev s_check_kind : Stmt := top 59
theorem sc_check_kind : FnScope ["expression", "argument"] ["expression", "argument"] (defScope s_check_kind) := ⟨rfl, rfl, rfl, by decide +kernel, rfl, by decide +kernel, by decide +kernel⟩
theorem ok_check_kind (T : Txt w K mg) {f : Addr} {fd : FuncData} (F : FnP K "check_kind" s_check_kind f fd) : FnOk P w K mg base (L2.CX P w) 2 f fd ["expression", "argument"] (spKind K) := by
  refine F.ok sc_check_kind (fun vs H Q E h => ?_) (fun cdv A outer s H vs Q E hr h => ⟨_, (pss_cons (ps_if (pt_cmpR op_ne (pe_fld (pv 1) rfl) pe_str (nomark _)) (pss_one (ps_raiseFault rfl T.fault hr (by omega) (takes_of rfl rfl rfl rfl) (pa_cons pe_int (pa_cons (pe_fld (pv 0) rfl) pa_nil)))) pss_nil) (pss_one (ps_if (pt_cmpR op_notIn_seq (pe_fld (pv 1) rfl) (pe_gref T.gKINDS) (by with_unfolding_all rfl)) (pss_one (ps_raiseFault rfl T.fault hr (by omega) (takes_of rfl rfl rfl rfl) (pa_cons pe_int (pa_cons (pe_fld (pv 1) rfl) pa_nil)))) pss_nil))), ?_⟩)
  · obtain ⟨e, a, m, n, rfl, _⟩ := h
    rfl
  · obtain ⟨e, a, m, n, rfl, hm, ha, h⟩ := h
    obtain ⟨dx, pa, as, h1, h2, h3, h4⟩ := ha.any
    obtain ⟨dx2, pa2, as2, i1, i2, i3, i4⟩ := hm.any
    refine sq ?_
    simp only [cxK, cxW, cxKn, cxWn, tRet, tRetN, tC, tVar, tOp, tUn, rI0, rI, rU, rEq, rNe, scal, tChain, tTest, tB, tIfS, tAnd, tOr, tNot, tAndV, tOrV, tNotV, tIf, tSeq, tNext, tAsg, gName, tDrop, tCons, tNil, tCall, tMeth, tCB, tBM, tBM0, L2.start, List.map_cons, List.map_nil, List.length_cons, List.length_nil, List.replicate, Nat.reduceAdd, Nat.reduceSub, List.cons_append, List.nil_append, List.append_nil, List.getElem?_cons_zero, List.getElem?_cons_succ, List.set_cons_zero, List.set_cons_succ, Option.some.injEq, exists_and_left, exists_and_right, exists_eq_left, exists_eq_left', exists_eq_right, exists_eq_right', exists_eq, exists_eq', V.int.injEq, V.str.injEq, V.ref.injEq, V.bl.injEq, List.cons.injEq, true_and, and_true, and_self, decide_eq_true_eq, exists_const, if_true, if_false, Bool.not_eq_true', decide_eq_false_iff_not, Bool.false_eq_true, reduceIte, Bool.not_true, Bool.not_false, tFld, T.clE, eN_shape T, eN_place T, eN_text T, eN_number T, eN_parts T, eN_head T, eN_depth T, eN_role T, lk_shape, lk_place, lk_text, lk_number, lk_parts, lk_head, lk_depth, lk_role, HO.ins.injEq, and_assoc, h1, nodeF, rIn]
    unfold kindErr at h
    by_cases c : shapeN n = "symbol"
    · rw [if_neg (fun q => q c)]
      rw [if_pos c] at h
      refine ⟨_, .inr (T.tKINDS H), rfl, by decide +kernel, ?_⟩
      rw [inV_str]
      by_cases c2 : textN n ∈ kindsT
      · rw [if_neg (by simp [c2])]
        rw [if_pos c2] at h
        exact h H (Same.refl H)
      · rw [if_pos (by simp [c2])]
        rw [if_neg c2] at h
        exact raise_pl T rfl rfl h1 rfl h
    · rw [if_pos c]
      rw [if_neg c] at h
      exact raise_pl T rfl rfl i1 rfl h
abbrev s_check_arguments : Stmt := top 58
theorem sc_check_arguments : FnScope ["expression", "forms", "argument", "form"] ["expression", "forms"] (defScope s_check_arguments) := ⟨rfl, rfl, rfl, by decide +kernel, rfl, by decide +kernel, by decide +kernel⟩
theorem ok_check_arguments (T : Txt w K mg) {k : Nat} (h3k : 3 ≤ k) {ok : Node → Prop} {sel : Node → Err} (c_check_selector : Kept P w K mg base (L2.CX P w) k "check_selector" ["selector"] (spOne K ok sel)) (c_check_kind : Kept P w K mg base (L2.CX P w) 2 "check_kind" ["expression", "argument"] (spKind K))
    (c_check_shape : Kept P w K mg base (L2.CX P w) 2 "check_shape" ["argument", "shape"] (spWith K shapeErr)) (c_check_range : Kept P w K mg base (L2.CX P w) 3 "check_range" ["argument", "form"] (spWith K rangeErr)) {f : Addr} {fd : FuncData} (F : FnP K "check_arguments" s_check_arguments f fd) :
    FnOk P w K mg base (L2.CX P w) (k + 1) f fd ["expression", "forms"] (spArgs K ok sel) := by
  refine F.ok sc_check_arguments (fun vs H Q E h => ?_) (fun cdv A outer s H vs Q E hr h => ⟨_, (pss_cons (ps_if (pt_cmpR op_ne (pe_callB call_len_seq (by rfl) T.nlen PySem.boot_len (pa_cons (pe_fld (pv 0) rfl) pa_nil)) (pe_op op_add pe_int (pe_callB call_len_seq (by rfl) T.nlen PySem.boot_len (pa_cons (pv 1) pa_nil))) (nomark _)) (pss_one (ps_raiseFault rfl T.fault hr (by omega) (takes_of rfl rfl rfl rfl) (pa_cons pe_int (pa_cons (pe_fld (pv 0) rfl) pa_nil)))) pss_nil) (pss_one (ps_for (passes_of rfl) rfl (pi_zipA (by rfl) T.nzip (pa_cons (pe_slice sl_tupA (pe_fld (pv 0) rfl) (po_some pe_int) po_none) (pa_cons (pv 1) pa_nil))) (pg_tup (n := 2) rfl (pgs_cons (pg_name (i := 2) sc_check_arguments.nd rfl (Or.inl rfl)) (pgs_cons (pg_name (i := 3) sc_check_arguments.nd rfl (Or.inl rfl)) pgs_nil))) (pss_one (ps_if (pt_cmpR op_eq (pv 3) pe_str (nomark _)) (pss_one (ps_expr (pe_k c_check_selector hr (by omega) (pass_on (CX' := L2.CX P w)) (pa_cons (pv 2) pa_nil)))) (pss_one (ps_if (pt_cmpR op_eq (pv 3) pe_str (nomark _)) (pss_one (ps_expr (pe_k c_check_kind hr (by omega) (pass_on (CX' := L2.CX P w)) (pa_cons (pv 0) (pa_cons (pv 2) pa_nil))))) (pss_one (ps_if (pt_cmpR op_in_seq (pv 3) (pe_tup (pa_cons pe_str (pa_cons pe_str pa_nil))) (by with_unfolding_all rfl)) (pss_cons (ps_expr (pe_k c_check_shape hr (by omega) (pass_on (CX' := L2.CX P w)) (pa_cons (pv 2) (pa_cons pe_str pa_nil)))) (pss_one (ps_expr (pe_k c_check_range hr (by omega) (pass_on (CX' := L2.CX P w)) (pa_cons (pv 2) (pa_cons (pv 3) pa_nil)))))) (pss_cons (ps_expr (pe_k c_check_shape hr (by omega) (pass_on (CX' := L2.CX P w)) (pa_cons (pv 2) (pa_cons pe_str pa_nil)))) (pss_one (ps_expr (pe_k c_check_range hr (by omega) (pass_on (CX' := L2.CX P w)) (pa_cons (pv 2) (pa_cons (pv 3) pa_nil))))))))))))))), ?_⟩)
  · obtain ⟨e, fa, m, forms, rfl, _⟩ := h
    rfl
  · obtain ⟨e, fa, m, forms, rfl, hm, hf, hk, hs, h⟩ := h
    obtain ⟨dx, pa, as, h1, h2, h3, h4⟩ := hm.any
    refine sq ?_
    have las := h3.len
    have kl : (kids m).length = ((kids m).drop 1).length + 1 := by
      rw [List.length_drop]
      have : (kids m).length ≠ 0 := fun q => hk (List.length_eq_zero_iff.mp q)
      omega
    unfold argsErr at h
    refine ifs_of (!decide (((kids m).drop 1).length = forms.length)) (fun R q => ?_) (fun c => ?_) (fun c => ?_)
    · simp only [cxK, cxW, cxKn, cxWn, tRet, tRetN, tC, tVar, tOp, tUn, rI0, rI, rU, rEq, rNe, scal, tChain, tTest, tB, tIfS, tAnd, tOr, tNot, tAndV, tOrV, tNotV, tIf, tSeq, tNext, tAsg, gName, tDrop, tCons, tNil, tCall, tMeth, tCB, tBM, tBM0, L2.start, List.map_cons, List.map_nil, List.length_cons, List.length_nil, List.replicate, Nat.reduceAdd, Nat.reduceSub, List.cons_append, List.nil_append, List.append_nil, List.getElem?_cons_zero, List.getElem?_cons_succ, List.set_cons_zero, List.set_cons_succ, Option.some.injEq, exists_and_left, exists_and_right, exists_eq_left, exists_eq_left', exists_eq_right, exists_eq_right', exists_eq, exists_eq', V.int.injEq, V.str.injEq, V.ref.injEq, V.bl.injEq, List.cons.injEq, true_and, and_true, and_self, decide_eq_true_eq, exists_const, if_true, if_false, Bool.not_eq_true', decide_eq_false_iff_not, Bool.false_eq_true, reduceIte, Bool.not_true, Bool.not_false, tFld, T.clE, eN_shape T, eN_place T, eN_text T, eN_number T, eN_parts T, eN_head T, eN_depth T, eN_role T, lk_shape, lk_place, lk_text, lk_number, lk_parts, lk_head, lk_depth, lk_role, HO.ins.injEq, and_assoc, h1, nodeF]
      refine ⟨_, .inr (SqT.of h2), _, .inr (hf H), ?_⟩
      refine cast (congrArg (fun b => R b H) ?_) q
      congr 1
      rw [decide_eq_decide, List.length_map, List.length_map, las, kl]
      constructor
      · intro q
        omega
      · intro q
        omega
    · rw [if_neg (by simpa using c)] at h
      exact raise_pl T rfl rfl h1 rfl h
    · rw [if_pos (by simpa using c)] at h
      have c : ((kids m).drop 1).length = forms.length := by simpa using c
      refine nxt ?_
      dsimp only
      have d1 : ((as.drop 1).map V.ref).length = (forms.map V.str).length := by
        rw [List.length_map, List.length_map, ← c, List.length_drop, List.length_drop, las]
      refine for_zip_of (xs := (as.drop 1).map V.ref) (ys := forms.map V.str) d1 (fun R q => ?_) (fun i σ H' => Same H H' ∧ (∃ u v, σ = [some (.ref e), some (.ref fa), u, v]) ∧ firstErr (fun q : Node × Str => argErr sel m.position q.2 q.1) ((((kids m).drop 1).zip forms).take i) = none) (fun H1 s1 => ⟨s1, ⟨none, none, rfl⟩, rfl⟩) ?_ ?_
      · simp only [cxK, cxW, cxKn, cxWn, tRet, tRetN, tC, tVar, tOp, tUn, rI0, rI, rU, rEq, rNe, scal, tChain, tTest, tB, tIfS, tAnd, tOr, tNot, tAndV, tOrV, tNotV, tIf, tSeq, tNext, tAsg, gName, tDrop, tCons, tNil, tCall, tMeth, tCB, tBM, tBM0, L2.start, List.map_cons, List.map_nil, List.length_cons, List.length_nil, List.replicate, Nat.reduceAdd, Nat.reduceSub, List.cons_append, List.nil_append, List.append_nil, List.getElem?_cons_zero, List.getElem?_cons_succ, List.set_cons_zero, List.set_cons_succ, Option.some.injEq, exists_and_left, exists_and_right, exists_eq_left, exists_eq_left', exists_eq_right, exists_eq_right', exists_eq, exists_eq', V.int.injEq, V.str.injEq, V.ref.injEq, V.bl.injEq, List.cons.injEq, true_and, and_true, and_self, decide_eq_true_eq, exists_const, if_true, if_false, Bool.not_eq_true', decide_eq_false_iff_not, Bool.false_eq_true, reduceIte, Bool.not_true, Bool.not_false, tFld, T.clE, eN_shape T, eN_place T, eN_text T, eN_number T, eN_parts T, eN_head T, eN_depth T, eN_role T, lk_shape, lk_place, lk_text, lk_number, lk_parts, lk_head, lk_depth, lk_role, HO.ins.injEq, and_assoc, h1, nodeF, tSl, tPart, tNoPart]
        refine rSlA_of (SqT.of h2) fun p H1 s1 hq => q H1 p fa s1 ?_ (hf H1)
        have e := cut_from (as.map V.ref) 1
        rw [List.map_drop, ← e]
        exact hq
      · rintro H1 s1 i x y σ H' hi hj s2 ⟨H0, s0, s3, ⟨u, v, rfl⟩, hfe⟩
        obtain ⟨ca, hca, rfl⟩ := ref_at hi
        have sm : Same H H' := s3.trans s0
        obtain ⟨n, hn, hx⟩ := ((h3.drop 1).stay (Stay.of sm)).at hca
        obtain ⟨form, hform, rfl⟩ : ∃ form, forms[i]? = some form ∧ y = .str form := by
          rw [List.getElem?_map] at hj
          cases e : forms[i]? with
          | none => rw [e] at hj; cases hj
          | some z => rw [e] at hj; exact ⟨z, rfl, (Option.some.inj hj).symm⟩
        have hz : (((kids m).drop 1).zip forms)[i]? = some (n, form) := by
          rw [List.getElem?_zip_eq_some]
          exact ⟨hn, hform⟩
        have stop : ∀ q, argErr sel m.position form n = some q → FaultE K E q.1 q.2 := fun q e => by
          rw [fe_stop hz hfe e] at h
          exact h
        have more : argErr sel m.position form n = none → firstErr (fun q : Node × Str => argErr sel m.position q.2 q.1) ((((kids m).drop 1).zip forms).take (i + 1)) = none := fe_more hz hfe
        have two : ∀ (sh : Str) H4, Same H' H4 → argErr sel m.position form n = both (shapeErr n sh) (rangeErr n form) → spWith K shapeErr [.ref ca, .str sh] H4 (fun _ H2 => spWith K rangeErr [.ref ca, .str form] H2 (fun _ H3 => Same H1 H3 ∧ Same H H3 ∧ firstErr (fun q : Node × Str => argErr sel m.position q.2 q.1) ((((kids m).drop 1).zip forms).take (i + 1)) = none) E) E := by
          intro sh H4 s6 he
          refine ⟨ca, n, sh, rfl, hx.stay (Stay.of s6), err_go (fun z H2 s4 => ⟨ca, n, form, rfl, hx.stay (Stay.of (s6.trans s4)), err_go (fun z2 H3 s5 => ⟨((s2.trans s6).trans s4).trans s5, ((sm.trans s6).trans s4).trans s5, more (by rw [he, z, z2]; rfl)⟩) (fun q e => stop q (by rw [he, z, e]; rfl))⟩) (fun q e => stop q (by rw [he, e]; rfl))⟩
        simp only [cxK, cxW, cxKn, cxWn, tRet, tRetN, tC, tVar, tOp, tUn, rI0, rI, rU, rEq, rNe, scal, tChain, tTest, tB, tIfS, tAnd, tOr, tNot, tAndV, tOrV, tNotV, tIf, tSeq, tNext, tAsg, gName, tDrop, tCons, tNil, tCall, tMeth, tCB, tBM, tBM0, L2.start, List.map_cons, List.map_nil, List.length_cons, List.length_nil, List.replicate, Nat.reduceAdd, Nat.reduceSub, List.cons_append, List.nil_append, List.append_nil, List.getElem?_cons_zero, List.getElem?_cons_succ, List.set_cons_zero, List.set_cons_succ, Option.some.injEq, exists_and_left, exists_and_right, exists_eq_left, exists_eq_left', exists_eq_right, exists_eq_right', exists_eq, exists_eq', V.int.injEq, V.str.injEq, V.ref.injEq, V.bl.injEq, List.cons.injEq, true_and, and_true, and_self, decide_eq_true_eq, exists_const, if_true, if_false, Bool.not_eq_true', decide_eq_false_iff_not, Bool.false_eq_true, reduceIte, Bool.not_true, Bool.not_false, rIn, tTup]
        by_cases k1 : form = "selector"
        · rw [if_pos k1]
          have he : argErr sel m.position form n = sel n := by unfold argErr; rw [if_pos k1]
          have hok : ok n := hs (by rw [← k1]; exact List.mem_of_getElem? hform) n (List.mem_of_getElem? hn)
          exact ⟨ca, n, rfl, hx, hok, err_go (fun z H2 s4 => ⟨s2.trans s4, sm.trans s4, more (by rw [he, z])⟩) (fun q e => stop q (by rw [he, e]))⟩
        rw [if_neg k1]
        by_cases k2 : form = "kind"
        · rw [if_pos k2]
          have he : argErr sel m.position form n = kindErr m.position n := by unfold argErr; rw [if_neg k1, if_pos k2]
          exact ⟨e, ca, m, n, rfl, hm.stay (Stay.of sm), hx, err_go (fun z H2 s4 => ⟨s2.trans s4, sm.trans s4, more (by rw [he, z])⟩) (fun q e => stop q (by rw [he, e]))⟩
        rw [if_neg k2]
        refine ⟨by rw [sizeLine_eq]; decide, fun p hp => ⟨_, .inr (SqT.of upd_same), rfl, rfl, ?_⟩⟩
        have s7 := Same.new (o := .tup [V.str "level", V.str "integer"]) hp
        have iv := inV_str form ["level", "integer"]
        simp only [List.map_cons, List.map_nil] at iv
        by_cases k3 : form = "level" ∨ form = "integer"
        · rw [if_pos (by rw [iv]; simpa using k3)]
          exact two _ _ s7 (by unfold argErr; rw [if_neg k1, if_neg k2, if_pos k3])
        · rw [if_neg (by rw [iv]; simpa using k3)]
          exact two _ _ s7 (by unfold argErr; rw [if_neg k1, if_neg k2, if_neg k3])
      · rintro σ H' _ ⟨sm, ⟨u, v, rfl⟩, hfe⟩
        have e : (((kids m).drop 1).zip forms).length = (as.drop 1).length := by
          rw [List.length_zip, ← c, Nat.min_self, List.length_drop, List.length_drop, las]
        rw [List.length_map, ← e, List.take_length] at hfe
        rw [hfe] at h
        exact h H' sm
end
end Ck
namespace Ck
open PySem PySem.Spec PyProof.Rows L2 RZ
open Kh450 (Node)
def actErr (n : Node) : Err := match actionsT.lookup (headN n) with
  | none => some (7, n.position)
  | some forms => if forms = (["template"] : List Str) then none else argsErr (fun _ => none) n.position forms ((kids n).drop 1)
def selErrF (sel : Node → Err) (n : Node) : Err := match selectorsT.lookup (headN n) with
  | none => some (7, n.position)
  | some forms => if forms = (["selectors"] : List Str) then firstErr sel ((kids n).drop 1) else argsErr sel n.position forms ((kids n).drop 1)
def repErr (n : Node) : Err := both (shapeErr n "integer") (if 1 ≤ numN n ∧ numN n ≤ 50 then none else some (9, n.position))
def stepErrF (sel stp : Node → Err) (n : Node) : Err :=
  if headN n ∈ (["blocks", "inlines", "repeat", "when"] : List Str) then
    (if (kids n).length = 1 then some (8, n.position)
     else both (if headN n = "repeat" then repErr ((kids n).getD 1 (.list 0 [])) else sel ((kids n).getD 1 (.list 0 [])))
       (if headN n = "repeat" ∨ headN n = "when" then firstErr stp ((kids n).drop 2) else firstErr actErr ((kids n).drop 2)))
  else some (7, n.position)
theorem eqv_strs : ∀ (l m : List Str), PyData.eqvAll (l.map PyData.str) (m.map PyData.str) = decide (l = m)
  | [], [] => rfl
  | [], _ :: _ => rfl
  | _ :: _, [] => rfl
  | a :: l, b :: m => by
    show (PyData.eqv (.str a) (.str b) && PyData.eqvAll (l.map PyData.str) (m.map PyData.str)) = _
    rw [eqv_strs l m, Bool.eq_iff_iff, Bool.and_eq_true, decide_eq_true_eq, decide_eq_true_eq]
    show (a == b) = true ∧ _ ↔ _
    rw [beq_iff_eq, List.cons.injEq]
theorem dpS {K : PySem.W.Frag} {H : Hp} : ∀ (l : List Str), DpAll K H (l.map V.str) (l.map PyData.str)
  | [] => .nil
  | b :: r => .cons (.str _) (dpS r)
theorem lookup_mem {α : Type} {z : Str} {q : α} : ∀ {l : List (Str × α)}, l.lookup z = some q → ∃ k, (k, q) ∈ l ∧ k = z
  | [], h => by cases h
  | (k, v) :: r, h => by
    by_cases e : z == k
    · rw [List.lookup, e] at h
      cases h
      exact ⟨k, List.mem_cons_self, (beq_iff_eq.mp e).symm⟩
    · rw [List.lookup, show (z == k) = false by simpa using e] at h
      obtain ⟨k2, m, e2⟩ := lookup_mem h
      exact ⟨k2, List.mem_cons_of_mem _ m, e2⟩
theorem act_shaped : (actionsT.all fun r => SeqAt.shaped (.tuple (r.2.map PyData.str)) && !decide (("selector" : Str) ∈ r.2) && !decide (r.1 = "")) = true := by decide +kernel
theorem sel_shaped : (selectorsT.all fun r => SeqAt.shaped (.tuple (r.2.map PyData.str)) && !decide (r.1 = "")) = true := by decide +kernel
theorem kids_of {n : Node} (h : headN n ≠ "") : kids n ≠ [] := fun e => h (by unfold headN; rw [e]; rfl)
theorem ifs_sm {c : TT} {t e : TS} {D : Ends} {σ : L2.St} {H : Hp} (b : Bool) (hc : ∀ R : Bool → Hp → Prop, (∀ H1, Same H H1 → R b H1) → c σ H R) (ht : b = true → ∀ H1, Same H H1 → t D σ H1) (he : b = false → ∀ H1, Same H H1 → e D σ H1) : tIfS c t e D σ H := by
  refine hc _ fun H1 s1 => ?_
  cases b with
  | true => exact ht rfl H1 s1
  | false => exact he rfl H1 s1
section
variable {P : Program} {w : World} {K : PySem.W.Frag} {mg : Str → Option Value} {base : Heap}
abbrev s_check_action : Stmt := top 57
theorem sc_check_action : FnScope ["action", "forms"] ["action"] (defScope s_check_action) := ⟨rfl, rfl, rfl, by decide +kernel, rfl, by decide +kernel, by decide +kernel⟩
theorem ok_check_action (T : Txt w K mg) (c_check_arguments : Kept P w K mg base (L2.CX P w) 4 "check_arguments" ["expression", "forms"] (spArgs K (fun _ => False) (fun _ => none))) {f : Addr} {fd : FuncData} (F : FnP K "check_action" s_check_action f fd) :
    FnOk P w K mg base (L2.CX P w) 5 f fd ["action"] (spOne K (fun _ => True) actErr) := by
  refine F.ok sc_check_action (fun vs H Q E h => ?_) (fun cdv A outer s H vs Q E hr h => ⟨_, (pss_cons (ps_if (pt_cmpR op_notIn_kdx (pe_fld (pv 0) rfl) (pe_gref T.gACTIONS) (by with_unfolding_all rfl)) (pss_one (ps_raiseFault rfl T.fault hr (by omega) (takes_of rfl rfl rfl rfl) (pa_cons pe_int (pa_cons (pe_fld (pv 0) rfl) pa_nil)))) pss_nil) (pss_cons (ps_set (i := 1) sc_check_action.nd rfl (Or.inl rfl) (pe_ix ix_kd (pe_gref T.gACTIONS) (pe_fld (pv 0) rfl) (fun _ _ => rfl))) (pss_one (ps_if (pt_cmpR (op_neD (hr64 hr)) (pv 1) (pe_tup (pa_cons pe_str pa_nil)) (nomark _)) (pss_one (ps_expr (pe_k c_check_arguments hr (by omega) (pass_on (CX' := L2.CX P w)) (pa_cons (pv 0) (pa_cons (pv 1) pa_nil))))) pss_nil)))), ?_⟩)
  · obtain ⟨a, n, rfl, _⟩ := h
    rfl
  · obtain ⟨a, n, rfl, ha, _, h⟩ := h
    obtain ⟨dx, pa, as, h1, h2, h3, h4⟩ := ha.any
    refine sq ?_
    simp only [cxK, cxW, cxKn, cxWn, tRet, tRetN, tC, tVar, tOp, tUn, rI0, rI, rU, rEq, rNe, scal, tChain, tTest, tB, tIfS, tAnd, tOr, tNot, tAndV, tOrV, tNotV, tIf, tSeq, tNext, tAsg, gName, tDrop, tCons, tNil, tCall, tMeth, tCB, tBM, tBM0, L2.start, List.map_cons, List.map_nil, List.length_cons, List.length_nil, List.replicate, Nat.reduceAdd, Nat.reduceSub, List.cons_append, List.nil_append, List.append_nil, List.getElem?_cons_zero, List.getElem?_cons_succ, List.set_cons_zero, List.set_cons_succ, Option.some.injEq, exists_and_left, exists_and_right, exists_eq_left, exists_eq_left', exists_eq_right, exists_eq_right', exists_eq, exists_eq', V.int.injEq, V.str.injEq, V.ref.injEq, V.bl.injEq, List.cons.injEq, true_and, and_true, and_self, decide_eq_true_eq, exists_const, if_true, if_false, Bool.not_eq_true', decide_eq_false_iff_not, Bool.false_eq_true, reduceIte, Bool.not_true, Bool.not_false, tFld, T.clE, eN_shape T, eN_place T, eN_text T, eN_number T, eN_parts T, eN_head T, eN_depth T, eN_role T, lk_shape, lk_place, lk_text, lk_number, lk_parts, lk_head, lk_depth, lk_role, HO.ins.injEq, and_assoc, h1, nodeF, rIxKd, rNeD, tTup]
    unfold actErr at h
    refine ⟨T.kACTIONS, ?_⟩
    rcases T.vACTIONS (headN n) with ⟨v1, v2⟩ | ⟨forms, fa, v1, v2, v3⟩
    · rw [v1] at h
      refine ⟨_, v2, ?_⟩
      rw [if_pos (by rfl)]
      exact raise_pl T rfl rfl h1 rfl h
    · rw [v1] at h
      refine ⟨_, v2, ?_⟩
      rw [if_neg (by simp)]
      obtain ⟨ky, mem, rfl⟩ := lookup_mem v1
      have sh := List.all_eq_true.mp act_shaped _ mem
      simp only [Bool.and_eq_true, Bool.not_eq_true', decide_eq_false_iff_not] at sh
      obtain ⟨⟨sh1, sh2⟩, sh3⟩ := sh
      refine ⟨T.kACTIONS, _, v2, .ref fa, rfl, one_le, fun p hp => ?_⟩
      have sm := Same.new (o := .tup [V.str "template"]) hp
      refine ⟨.tuple (forms.map PyData.str), .tup (v3 _) (dpS _), .tuple ((["template"] : List Str).map PyData.str), .tup (SqT.of upd_same) (dpS ["template"]), sh1, by decide +kernel, ?_⟩
      have ev : PyData.eqv (.tuple (forms.map PyData.str)) (.tuple ((["template"] : List Str).map PyData.str)) = decide (forms = (["template"] : List Str)) := eqv_strs _ _
      rw [ev]
      by_cases c : forms = (["template"] : List Str)
      · rw [if_neg (by simp [c])]
        dsimp only at h
        rw [if_pos c] at h
        exact h _ sm
      · rw [if_pos (by simp [c])]
        dsimp only at h
        rw [if_neg c] at h
        refine ⟨a, fa, n, forms, rfl, ha.stay (Stay.of sm), v3, kids_of sh3, fun q => absurd q sh2, ?_⟩
        exact err_go (fun e H2 s2 => by rw [e] at h; exact h H2 (sm.trans s2)) (fun q e => by rw [e] at h; exact h)
abbrev s_check_selector : Stmt := top 56
theorem sc_check_selector : FnScope ["selector", "forms", "argument"] ["selector"] (defScope s_check_selector) := ⟨rfl, rfl, rfl, by decide +kernel, rfl, by decide +kernel, by decide +kernel⟩
theorem ok_check_selector (T : Txt w K mg) {k : Nat} {ok : Node → Prop} {sel : Node → Err} (c_check_selector : Kept P w K mg base (L2.CX P w) k "check_selector" ["selector"] (spOne K ok sel))
    (c_check_arguments : Kept P w K mg base (L2.CX P w) (k + 1) "check_arguments" ["expression", "forms"] (spArgs K ok sel)) {f : Addr} {fd : FuncData} (F : FnP K "check_selector" s_check_selector f fd) :
    FnOk P w K mg base (L2.CX P w) (k + 2) f fd ["selector"] (spOne K (fun n => ∀ c ∈ (kids n).drop 1, ok c) (selErrF sel)) := by
  refine F.ok sc_check_selector (fun vs H Q E h => ?_) (fun cdv A outer s H vs Q E hr h => ⟨_, (pss_cons (ps_if (pt_cmpR op_notIn_kdx (pe_fld (pv 0) rfl) (pe_gref T.gSELECTORS) (by with_unfolding_all rfl)) (pss_one (ps_raiseFault rfl T.fault hr (by omega) (takes_of rfl rfl rfl rfl) (pa_cons pe_int (pa_cons (pe_fld (pv 0) rfl) pa_nil)))) pss_nil) (pss_cons (ps_set (i := 1) sc_check_selector.nd rfl (Or.inl rfl) (pe_ix ix_kd (pe_gref T.gSELECTORS) (pe_fld (pv 0) rfl) (fun _ _ => rfl))) (pss_one (ps_if (pt_cmpR (op_eqD (hr64 hr)) (pv 1) (pe_tup (pa_cons pe_str pa_nil)) (nomark _)) (pss_one (ps_for (passes_of rfl) rfl (pi_tup (pe_slice sl_tupA (pe_fld (pv 0) rfl) (po_some pe_int) po_none)) (pg_name (i := 2) sc_check_selector.nd rfl (Or.inl rfl)) (pss_one (ps_expr (pe_k c_check_selector hr (by omega) (pass_on (CX' := L2.CX P w)) (pa_cons (pv 2) pa_nil)))))) (pss_one (ps_expr (pe_k c_check_arguments hr (by omega) (pass_on (CX' := L2.CX P w)) (pa_cons (pv 0) (pa_cons (pv 1) pa_nil))))))))), ?_⟩)
  · obtain ⟨a, n, rfl, _⟩ := h
    rfl
  · obtain ⟨a, n, rfl, ha, hok, h⟩ := h
    obtain ⟨dx, pa, as, h1, h2, h3, h4⟩ := ha.any
    unfold selErrF at h
    rcases T.vSELECTORS (headN n) with ⟨v1, v2⟩ | ⟨forms, fa, v1, v2, v3⟩
    · rw [v1] at h
      refine sq (ifs_of true (fun R q => ?_) (fun _ => raise_pl T rfl rfl h1 rfl h) (fun z => by cases z))
      simp only [cxK, cxW, cxKn, cxWn, tRet, tRetN, tC, tVar, tOp, tUn, rI0, rI, rU, rEq, rNe, scal, tChain, tTest, tB, tIfS, tAnd, tOr, tNot, tAndV, tOrV, tNotV, tIf, tSeq, tNext, tAsg, gName, tDrop, tCons, tNil, tCall, tMeth, tCB, tBM, tBM0, L2.start, List.map_cons, List.map_nil, List.length_cons, List.length_nil, List.replicate, Nat.reduceAdd, Nat.reduceSub, List.cons_append, List.nil_append, List.append_nil, List.getElem?_cons_zero, List.getElem?_cons_succ, List.set_cons_zero, List.set_cons_succ, Option.some.injEq, exists_and_left, exists_and_right, exists_eq_left, exists_eq_left', exists_eq_right, exists_eq_right', exists_eq, exists_eq', V.int.injEq, V.str.injEq, V.ref.injEq, V.bl.injEq, List.cons.injEq, true_and, and_true, and_self, decide_eq_true_eq, exists_const, if_true, if_false, Bool.not_eq_true', decide_eq_false_iff_not, Bool.false_eq_true, reduceIte, Bool.not_true, Bool.not_false, tFld, T.clE, eN_shape T, eN_place T, eN_text T, eN_number T, eN_parts T, eN_head T, eN_depth T, eN_role T, lk_shape, lk_place, lk_text, lk_number, lk_parts, lk_head, lk_depth, lk_role, HO.ins.injEq, and_assoc, h1, nodeF]
      exact ⟨T.kSELECTORS, _, v2, q⟩
    · rw [v1] at h
      dsimp only at h
      refine sq (ifs_of false (fun R q => ?_) (fun z => by cases z) (fun _ => ?_))
      · simp only [cxK, cxW, cxKn, cxWn, tRet, tRetN, tC, tVar, tOp, tUn, rI0, rI, rU, rEq, rNe, scal, tChain, tTest, tB, tIfS, tAnd, tOr, tNot, tAndV, tOrV, tNotV, tIf, tSeq, tNext, tAsg, gName, tDrop, tCons, tNil, tCall, tMeth, tCB, tBM, tBM0, L2.start, List.map_cons, List.map_nil, List.length_cons, List.length_nil, List.replicate, Nat.reduceAdd, Nat.reduceSub, List.cons_append, List.nil_append, List.append_nil, List.getElem?_cons_zero, List.getElem?_cons_succ, List.set_cons_zero, List.set_cons_succ, Option.some.injEq, exists_and_left, exists_and_right, exists_eq_left, exists_eq_left', exists_eq_right, exists_eq_right', exists_eq, exists_eq', V.int.injEq, V.str.injEq, V.ref.injEq, V.bl.injEq, List.cons.injEq, true_and, and_true, and_self, decide_eq_true_eq, exists_const, if_true, if_false, Bool.not_eq_true', decide_eq_false_iff_not, Bool.false_eq_true, reduceIte, Bool.not_true, Bool.not_false, tFld, T.clE, eN_shape T, eN_place T, eN_text T, eN_number T, eN_parts T, eN_head T, eN_depth T, eN_role T, lk_shape, lk_place, lk_text, lk_number, lk_parts, lk_head, lk_depth, lk_role, HO.ins.injEq, and_assoc, h1, nodeF]
        exact ⟨T.kSELECTORS, _, v2, q⟩
      obtain ⟨ky, mem, rfl⟩ := lookup_mem v1
      have sh := List.all_eq_true.mp sel_shaped _ mem
      simp only [Bool.and_eq_true, Bool.not_eq_true', decide_eq_false_iff_not] at sh
      obtain ⟨sh1, sh3⟩ := sh
      refine nxt ?_
      dsimp only
      refine sq ⟨_, rfl, a, _, dx, _, _, rfl, h1, T.clE, eN_head T, lk_head, _, _, _, .ref fa, rfl, rfl, T.kSELECTORS, v2, rfl, ?_⟩
      dsimp only [gName]
      refine ifs_sm (decide (forms = (["selectors"] : List Str))) (fun R q => ?_) (fun c H1 s1 => ?_) (fun c H1 s1 => ?_)
      · simp only [cxK, cxW, cxKn, cxWn, tRet, tRetN, tC, tVar, tOp, tUn, rI0, rI, rU, rEq, rNe, scal, tChain, tTest, tB, tIfS, tAnd, tOr, tNot, tAndV, tOrV, tNotV, tIf, tSeq, tNext, tAsg, gName, tDrop, tCons, tNil, tCall, tMeth, tCB, tBM, tBM0, L2.start, List.map_cons, List.map_nil, List.length_cons, List.length_nil, List.replicate, Nat.reduceAdd, Nat.reduceSub, List.cons_append, List.nil_append, List.append_nil, List.getElem?_cons_zero, List.getElem?_cons_succ, List.set_cons_zero, List.set_cons_succ, Option.some.injEq, exists_and_left, exists_and_right, exists_eq_left, exists_eq_left', exists_eq_right, exists_eq_right', exists_eq, exists_eq', V.int.injEq, V.str.injEq, V.ref.injEq, V.bl.injEq, List.cons.injEq, true_and, and_true, and_self, decide_eq_true_eq, exists_const, if_true, if_false, Bool.not_eq_true', decide_eq_false_iff_not, Bool.false_eq_true, reduceIte, Bool.not_true, Bool.not_false, rEqD, tTup]
        refine ⟨one_le, fun p hp => ?_⟩
        have sm := Same.new (o := .tup [V.str "selectors"]) hp
        refine ⟨.tuple (forms.map PyData.str), .tup (v3 _) (dpS _), .tuple ((["selectors"] : List Str).map PyData.str), .tup (SqT.of upd_same) (dpS ["selectors"]), sh1, by decide +kernel, ?_⟩
        have ev : PyData.eqv (.tuple (forms.map PyData.str)) (.tuple ((["selectors"] : List Str).map PyData.str)) = decide (forms = (["selectors"] : List Str)) := eqv_strs _ _
        rw [ev]
        exact q _ sm
      · rw [if_pos (by simpa using c)] at h
        have l1 : (as.drop 1).length = ((kids n).drop 1).length := (h3.drop 1).len
        refine for_tup_of (xs := (as.drop 1).map V.ref) (fun R q => ?_) (fun i σ H' => Same H H' ∧ (∃ v, σ = [some (.ref a), some (.ref fa), v]) ∧ firstErr sel (((kids n).drop 1).take i) = none) (fun H2 s2 => ⟨s1.trans s2, ⟨none, rfl⟩, rfl⟩) ?_ ?_
        · have h1' := s1 _ _ h1
          simp only [cxK, cxW, cxKn, cxWn, tRet, tRetN, tC, tVar, tOp, tUn, rI0, rI, rU, rEq, rNe, scal, tChain, tTest, tB, tIfS, tAnd, tOr, tNot, tAndV, tOrV, tNotV, tIf, tSeq, tNext, tAsg, gName, tDrop, tCons, tNil, tCall, tMeth, tCB, tBM, tBM0, L2.start, List.map_cons, List.map_nil, List.length_cons, List.length_nil, List.replicate, Nat.reduceAdd, Nat.reduceSub, List.cons_append, List.nil_append, List.append_nil, List.getElem?_cons_zero, List.getElem?_cons_succ, List.set_cons_zero, List.set_cons_succ, Option.some.injEq, exists_and_left, exists_and_right, exists_eq_left, exists_eq_left', exists_eq_right, exists_eq_right', exists_eq, exists_eq', V.int.injEq, V.str.injEq, V.ref.injEq, V.bl.injEq, List.cons.injEq, true_and, and_true, and_self, decide_eq_true_eq, exists_const, if_true, if_false, Bool.not_eq_true', decide_eq_false_iff_not, Bool.false_eq_true, reduceIte, Bool.not_true, Bool.not_false, tFld, T.clE, eN_shape T, eN_place T, eN_text T, eN_number T, eN_parts T, eN_head T, eN_depth T, eN_role T, lk_shape, lk_place, lk_text, lk_number, lk_parts, lk_head, lk_depth, lk_role, HO.ins.injEq, and_assoc, h1', nodeF, tSl, tPart, tNoPart]
          refine rSlA_of (SqT.of (s1 _ _ h2)) fun p H2 s2 hq => q H2 p s2 ?_
          have e := cut_from (as.map V.ref) 1
          rw [List.map_drop, ← e]
          exact hq
        · rintro H2 s2 i x σ H' hi s4 ⟨sm, ⟨v, rfl⟩, hfe⟩
          obtain ⟨ca, hca, rfl⟩ := ref_at hi
          obtain ⟨c1, hn, hx⟩ := ((h3.drop 1).stay (Stay.of sm)).at hca
          simp only [cxK, cxW, cxKn, cxWn, tRet, tRetN, tC, tVar, tOp, tUn, rI0, rI, rU, rEq, rNe, scal, tChain, tTest, tB, tIfS, tAnd, tOr, tNot, tAndV, tOrV, tNotV, tIf, tSeq, tNext, tAsg, gName, tDrop, tCons, tNil, tCall, tMeth, tCB, tBM, tBM0, L2.start, List.map_cons, List.map_nil, List.length_cons, List.length_nil, List.replicate, Nat.reduceAdd, Nat.reduceSub, List.cons_append, List.nil_append, List.append_nil, List.getElem?_cons_zero, List.getElem?_cons_succ, List.set_cons_zero, List.set_cons_succ, Option.some.injEq, exists_and_left, exists_and_right, exists_eq_left, exists_eq_left', exists_eq_right, exists_eq_right', exists_eq, exists_eq', V.int.injEq, V.str.injEq, V.ref.injEq, V.bl.injEq, List.cons.injEq, true_and, and_true, and_self, decide_eq_true_eq, exists_const, if_true, if_false, Bool.not_eq_true', decide_eq_false_iff_not, Bool.false_eq_true, reduceIte, Bool.not_true, Bool.not_false]
          refine ⟨ca, c1, rfl, hx, hok c1 (List.mem_of_getElem? hn), err_go (fun z H3 s5 => ⟨s4.trans s5, sm.trans s5, fe_more hn hfe z⟩) (fun q e => ?_)⟩
          rw [fe_stop hn hfe e] at h
          exact h
        · rintro σ H' _ ⟨sm, ⟨v, rfl⟩, hfe⟩
          rw [List.length_map, l1, List.take_length] at hfe
          rw [hfe] at h
          exact h H' sm
      · rw [if_neg (by simpa using c)] at h
        simp only [cxK, cxW, cxKn, cxWn, tRet, tRetN, tC, tVar, tOp, tUn, rI0, rI, rU, rEq, rNe, scal, tChain, tTest, tB, tIfS, tAnd, tOr, tNot, tAndV, tOrV, tNotV, tIf, tSeq, tNext, tAsg, gName, tDrop, tCons, tNil, tCall, tMeth, tCB, tBM, tBM0, L2.start, List.map_cons, List.map_nil, List.length_cons, List.length_nil, List.replicate, Nat.reduceAdd, Nat.reduceSub, List.cons_append, List.nil_append, List.append_nil, List.getElem?_cons_zero, List.getElem?_cons_succ, List.set_cons_zero, List.set_cons_succ, Option.some.injEq, exists_and_left, exists_and_right, exists_eq_left, exists_eq_left', exists_eq_right, exists_eq_right', exists_eq, exists_eq', V.int.injEq, V.str.injEq, V.ref.injEq, V.bl.injEq, List.cons.injEq, true_and, and_true, and_self, decide_eq_true_eq, exists_const, if_true, if_false, Bool.not_eq_true', decide_eq_false_iff_not, Bool.false_eq_true, reduceIte, Bool.not_true, Bool.not_false]
        refine ⟨a, fa, n, forms, rfl, ha.stay (Stay.of s1), v3, kids_of sh3, fun _ => hok, ?_⟩
        exact err_go (fun e H2 s2 => by rw [e] at h; exact h H2 (s1.trans s2)) (fun q e => by rw [e] at h; exact h)
end
end Ck
namespace Ck
open PySem PySem.Spec PyProof.Rows L2 RZ
open Kh450 (Node)
def spStepsL (K : PySem.W.Frag) (ok : Node → Prop) (stp : Node → Err) : Sp := fun vs H Q E => ∃ (l : Addr) (ns : List Node) (as : List Addr), vs = [.ref l] ∧ SqL K H l (as.map V.ref) ∧ ExsAt (ECl K) H ns as ∧ (∀ n ∈ ns, ok n) ∧ ErrTo K H Q E (firstErr stp ns)
def spStepsT (K : PySem.W.Frag) (ok : Node → Prop) (stp : Node → Err) : Sp := fun vs H Q E => ∃ (l : Addr) (ns : List Node) (as : List Addr), vs = [.ref l] ∧ SqT K H l (as.map V.ref) ∧ ExsAt (ECl K) H ns as ∧ (∀ n ∈ ns, ok n) ∧ ErrTo K H Q E (firstErr stp ns)
theorem dcall {sp : Sp} {E : XK} {ta : TA} {D : Ends} {σ : L2.St} {H H1 : Hp} {vs : List V} (h1 : ∀ R : List V → Hp → Prop, R vs H1 → ta σ H R) (h2 : sp vs H1 (fun _ H2 => D.nx σ H2) E) : tDrop (tCall sp [] E ta) D σ H := by
  refine h1 _ ?_
  show sp (vs ++ []) H1 _ E
  rw [List.append_nil]
  exact h2
def spReadP (K : PySem.W.Frag) (ok : Node → Prop) (stp : Node → Err) : Sp := fun vs H Q E => ∃ (da : Addr) (bs : List Nat), vs = [.ref da] ∧ SqL K H da (vI bs) ∧ (∀ b ∈ bs, b < 256) ∧ bs.length ≤ 600 ∧
  (match Kh450.readAll bs with
   | .error k rest => FaultE K E k (bs.length - rest.length)
   | .ok ns _ => (∀ n ∈ ns, ok n) ∧ match firstErr stp ns with
     | some q => FaultE K E q.1 q.2
     | none => ∀ (H' : Hp) (l : Addr) (as : List Addr), Same H H' → H' l = some (.lst (as.map V.ref)) → as.length = ns.length → Q (.ref l) H')
section
variable {P : Program} {w : World} {K : PySem.W.Frag} {mg : Str → Option Value} {base : Heap}
abbrev s_check_repeats : Stmt := top 55
theorem sc_check_repeats : FnScope ["argument"] ["argument"] (defScope s_check_repeats) := ⟨rfl, rfl, rfl, by decide +kernel, rfl, by decide +kernel, by decide +kernel⟩
theorem ok_check_repeats (T : Txt w K mg) (c_check_shape : Kept P w K mg base (L2.CX P w) 2 "check_shape" ["argument", "shape"] (spWith K shapeErr)) {f : Addr} {fd : FuncData} (F : FnP K "check_repeats" s_check_repeats f fd) :
    FnOk P w K mg base (L2.CX P w) 3 f fd ["argument"] (spOne K (fun _ => True) repErr) := by
  refine F.ok sc_check_repeats (fun vs H Q E h => ?_) (fun cdv A outer s H vs Q E hr h => ⟨_, (pss_cons (ps_expr (pe_k c_check_shape hr (by omega) (pass_on (CX' := L2.CX P w)) (pa_cons (pv 0) (pa_cons pe_str pa_nil)))) (pss_one (ps_if (pt_not (pt_chain op_le op_le pe_int (pe_fld (pv 0) rfl) (C8.pe_gc rfl T.cMOST_REPEATS))) (pss_one (ps_raiseFault rfl T.fault hr (by omega) (takes_of rfl rfl rfl rfl) (pa_cons pe_int (pa_cons (pe_fld (pv 0) rfl) pa_nil)))) pss_nil))), ?_⟩)
  · obtain ⟨a, n, rfl, _⟩ := h
    rfl
  · obtain ⟨a, n, rfl, ha, _, h⟩ := h
    obtain ⟨dx, pa, as, h1, h2, h3, h4⟩ := ha.any
    unfold repErr at h
    refine sq ⟨_, rfl, a, n, "integer", rfl, ha, err_go (fun z H1 s1 => ?_) (fun q e => by rw [e] at h; exact h)⟩
    rw [z] at h
    have h1' := s1 _ _ h1
    have h : ErrTo K H Q E (if 1 ≤ numN n ∧ numN n ≤ 50 then none else some (9, n.position)) := h
    dsimp only
    refine ifs_of (!decide (1 ≤ numN n ∧ numN n ≤ 50)) (fun R q => ?_) (fun c => ?_) (fun c => ?_)
    · simp only [cxK, cxW, cxKn, cxWn, tRet, tRetN, tC, tVar, tOp, tUn, rI0, rI, rU, rEq, rNe, scal, tChain, tTest, tB, tIfS, tAnd, tOr, tNot, tAndV, tOrV, tNotV, tIf, tSeq, tNext, tAsg, gName, tDrop, tCons, tNil, tCall, tMeth, tCB, tBM, tBM0, L2.start, List.map_cons, List.map_nil, List.length_cons, List.length_nil, List.replicate, Nat.reduceAdd, Nat.reduceSub, List.cons_append, List.nil_append, List.append_nil, List.getElem?_cons_zero, List.getElem?_cons_succ, List.set_cons_zero, List.set_cons_succ, Option.some.injEq, exists_and_left, exists_and_right, exists_eq_left, exists_eq_left', exists_eq_right, exists_eq_right', exists_eq, exists_eq', V.int.injEq, V.str.injEq, V.ref.injEq, V.bl.injEq, List.cons.injEq, true_and, and_true, and_self, decide_eq_true_eq, exists_const, if_true, if_false, Bool.not_eq_true', decide_eq_false_iff_not, Bool.false_eq_true, reduceIte, Bool.not_true, Bool.not_false, tFld, T.clE, eN_shape T, eN_place T, eN_text T, eN_number T, eN_parts T, eN_head T, eN_depth T, eN_role T, lk_shape, lk_place, lk_text, lk_number, lk_parts, lk_head, lk_depth, lk_role, HO.ins.injEq, and_assoc, h1', nodeF]
      by_cases c1 : 1 ≤ numN n
      · rw [if_pos (by omega)]
        by_cases c2 : numN n ≤ 50
        · have e : (!decide (1 ≤ numN n ∧ numN n ≤ 50)) = false := by simp [c1, c2]
          rw [e] at q
          simpa [show ((numN n : Int) ≤ 50) by omega] using q
        · have e : (!decide (1 ≤ numN n ∧ numN n ≤ 50)) = true := by simp [c2]
          rw [e] at q
          simpa [show ¬ ((numN n : Int) ≤ 50) by omega] using q
      · rw [if_neg (by omega)]
        have e : (!decide (1 ≤ numN n ∧ numN n ≤ 50)) = true := by simp [c1]
        rw [e] at q
        exact q
    · rw [Bool.not_eq_true', decide_eq_false_iff_not] at c
      rw [if_neg c] at h
      exact raise_pl T rfl rfl h1' rfl h
    · rw [if_pos (by simpa using c)] at h
      exact h H1 s1
abbrev s_check_steps : Stmt := top 53
theorem sc_check_steps : FnScope ["steps", "step"] ["steps"] (defScope s_check_steps) := ⟨rfl, rfl, rfl, by decide +kernel, rfl, by decide +kernel, by decide +kernel⟩
theorem ok_check_stepsL (T : Txt w K mg) {k : Nat} {ok : Node → Prop} {stp : Node → Err} (c_check_step : Kept P w K mg base (L2.CX P w) k "check_step" ["step"] (spOne K ok stp)) {f : Addr} {fd : FuncData} (F : FnP K "check_steps" s_check_steps f fd) :
    FnOk P w K mg base (L2.CX P w) (k + 1) f fd ["steps"] (spStepsL K ok stp) := by
  refine F.ok sc_check_steps (fun vs H Q E h => ?_) (fun cdv A outer s H vs Q E hr h => ⟨_, (pss_one (ps_for (passes_of rfl) rfl (pi_list (pv 0)) (pg_name (i := 1) sc_check_steps.nd rfl (Or.inl rfl)) (pss_one (ps_expr (pe_k c_check_step hr (by omega) (pass_on (CX' := L2.CX P w)) (pa_cons (pv 1) pa_nil)))))), ?_⟩)
  · obtain ⟨l, ns, as, rfl, _⟩ := h
    rfl
  · obtain ⟨l, ns, as, rfl, hl, hx, hok, h⟩ := h
    refine for_list_of (xs := as.map V.ref) (fun R q => ⟨_, rfl, q H l (Same.refl H) hl⟩) (fun i σ H' => Same H H' ∧ (∃ v, σ = [some (.ref l), v]) ∧ firstErr stp (ns.take i) = none) (fun H1 s1 => ⟨s1, ⟨none, rfl⟩, rfl⟩) ?_ ?_
    · rintro H1 s1 i x σ H' hi s2 ⟨sm, ⟨v, rfl⟩, hfe⟩
      obtain ⟨ca, hca, rfl⟩ := ref_at hi
      obtain ⟨n, hn, hxn⟩ := (hx.stay (Stay.of sm)).at hca
      simp only [cxK, cxW, cxKn, cxWn, tRet, tRetN, tC, tVar, tOp, tUn, rI0, rI, rU, rEq, rNe, scal, tChain, tTest, tB, tIfS, tAnd, tOr, tNot, tAndV, tOrV, tNotV, tIf, tSeq, tNext, tAsg, gName, tDrop, tCons, tNil, tCall, tMeth, tCB, tBM, tBM0, L2.start, List.map_cons, List.map_nil, List.length_cons, List.length_nil, List.replicate, Nat.reduceAdd, Nat.reduceSub, List.cons_append, List.nil_append, List.append_nil, List.getElem?_cons_zero, List.getElem?_cons_succ, List.set_cons_zero, List.set_cons_succ, Option.some.injEq, exists_and_left, exists_and_right, exists_eq_left, exists_eq_left', exists_eq_right, exists_eq_right', exists_eq, exists_eq', V.int.injEq, V.str.injEq, V.ref.injEq, V.bl.injEq, List.cons.injEq, true_and, and_true, and_self, decide_eq_true_eq, exists_const, if_true, if_false, Bool.not_eq_true', decide_eq_false_iff_not, Bool.false_eq_true, reduceIte, Bool.not_true, Bool.not_false]
      refine ⟨ca, n, rfl, hxn, hok n (List.mem_of_getElem? hn), err_go (fun z H2 s5 => ⟨s2.trans s5, sm.trans s5, fe_more hn hfe z⟩) (fun q e => ?_)⟩
      rw [fe_stop hn hfe e] at h
      exact h
    · rintro σ H' _ ⟨sm, ⟨v, rfl⟩, hfe⟩
      rw [List.length_map, hx.len, List.take_length] at hfe
      rw [hfe] at h
      exact h H' sm
theorem ok_check_stepsT (T : Txt w K mg) {k : Nat} {ok : Node → Prop} {stp : Node → Err} (c_check_step : Kept P w K mg base (L2.CX P w) k "check_step" ["step"] (spOne K ok stp)) {f : Addr} {fd : FuncData} (F : FnP K "check_steps" s_check_steps f fd) :
    FnOk P w K mg base (L2.CX P w) (k + 1) f fd ["steps"] (spStepsT K ok stp) := by
  refine F.ok sc_check_steps (fun vs H Q E h => ?_) (fun cdv A outer s H vs Q E hr h => ⟨_, (pss_one (ps_for (passes_of rfl) rfl (pi_tup (pv 0)) (pg_name (i := 1) sc_check_steps.nd rfl (Or.inl rfl)) (pss_one (ps_expr (pe_k c_check_step hr (by omega) (pass_on (CX' := L2.CX P w)) (pa_cons (pv 1) pa_nil)))))), ?_⟩)
  · obtain ⟨l, ns, as, rfl, _⟩ := h
    rfl
  · obtain ⟨l, ns, as, rfl, hl, hx, hok, h⟩ := h
    refine for_tup_of (xs := as.map V.ref) (fun R q => ⟨_, rfl, q H l (Same.refl H) hl⟩) (fun i σ H' => Same H H' ∧ (∃ v, σ = [some (.ref l), v]) ∧ firstErr stp (ns.take i) = none) (fun H1 s1 => ⟨s1, ⟨none, rfl⟩, rfl⟩) ?_ ?_
    · rintro H1 s1 i x σ H' hi s2 ⟨sm, ⟨v, rfl⟩, hfe⟩
      obtain ⟨ca, hca, rfl⟩ := ref_at hi
      obtain ⟨n, hn, hxn⟩ := (hx.stay (Stay.of sm)).at hca
      simp only [cxK, cxW, cxKn, cxWn, tRet, tRetN, tC, tVar, tOp, tUn, rI0, rI, rU, rEq, rNe, scal, tChain, tTest, tB, tIfS, tAnd, tOr, tNot, tAndV, tOrV, tNotV, tIf, tSeq, tNext, tAsg, gName, tDrop, tCons, tNil, tCall, tMeth, tCB, tBM, tBM0, L2.start, List.map_cons, List.map_nil, List.length_cons, List.length_nil, List.replicate, Nat.reduceAdd, Nat.reduceSub, List.cons_append, List.nil_append, List.append_nil, List.getElem?_cons_zero, List.getElem?_cons_succ, List.set_cons_zero, List.set_cons_succ, Option.some.injEq, exists_and_left, exists_and_right, exists_eq_left, exists_eq_left', exists_eq_right, exists_eq_right', exists_eq, exists_eq', V.int.injEq, V.str.injEq, V.ref.injEq, V.bl.injEq, List.cons.injEq, true_and, and_true, and_self, decide_eq_true_eq, exists_const, if_true, if_false, Bool.not_eq_true', decide_eq_false_iff_not, Bool.false_eq_true, reduceIte, Bool.not_true, Bool.not_false]
      refine ⟨ca, n, rfl, hxn, hok n (List.mem_of_getElem? hn), err_go (fun z H2 s5 => ⟨s2.trans s5, sm.trans s5, fe_more hn hfe z⟩) (fun q e => ?_)⟩
      rw [fe_stop hn hfe e] at h
      exact h
    · rintro σ H' _ ⟨sm, ⟨v, rfl⟩, hfe⟩
      rw [List.length_map, hx.len, List.take_length] at hfe
      rw [hfe] at h
      exact h H' sm
abbrev s_check_step : Stmt := top 54
theorem sc_check_step : FnScope ["step", "action"] ["step"] (defScope s_check_step) := ⟨rfl, rfl, rfl, by decide +kernel, rfl, by decide +kernel, by decide +kernel⟩
theorem ok_check_step (T : Txt w K mg) {ks kt kk : Nat} (hs : ks ≤ kk) (ht : kt ≤ kk) (h5 : 5 ≤ kk) {okS okT : Node → Prop} {sel stp : Node → Err} (c_check_repeats : Kept P w K mg base (L2.CX P w) 3 "check_repeats" ["argument"] (spOne K (fun _ => True) repErr)) (c_check_selector : Kept P w K mg base (L2.CX P w) ks "check_selector" ["selector"] (spOne K okS sel))
    (c_check_action : Kept P w K mg base (L2.CX P w) 5 "check_action" ["action"] (spOne K (fun _ => True) actErr)) (c_check_steps : Kept P w K mg base (L2.CX P w) kt "check_steps" ["steps"] (spStepsT K okT stp)) {f : Addr} {fd : FuncData} (F : FnP K "check_step" s_check_step f fd) :
    FnOk P w K mg base (L2.CX P w) (kk + 1) f fd ["step"] (spOne K (fun n => (∀ c, (kids n)[1]? = some c → okS c) ∧ ∀ c ∈ (kids n).drop 2, okT c) (stepErrF sel stp)) := by
  refine F.ok sc_check_step (fun vs H Q E h => ?_) (fun cdv A outer s H vs Q E hr h => ⟨_, (pss_cons (ps_if (pt_cmpR op_notIn_seq (pe_fld (pv 0) rfl) (pe_gref T.gSTEPS) (by with_unfolding_all rfl)) (pss_one (ps_raiseFault rfl T.fault hr (by omega) (takes_of rfl rfl rfl rfl) (pa_cons pe_int (pa_cons (pe_fld (pv 0) rfl) pa_nil)))) pss_nil) (pss_cons (ps_if (pt_cmpR op_eq (pe_callB call_len_seq (by rfl) T.nlen PySem.boot_len (pa_cons (pe_fld (pv 0) rfl) pa_nil)) pe_int (nomark _)) (pss_one (ps_raiseFault rfl T.fault hr (by omega) (takes_of rfl rfl rfl rfl) (pa_cons pe_int (pa_cons (pe_fld (pv 0) rfl) pa_nil)))) pss_nil) (pss_cons (ps_if (pt_cmpR op_eq (pe_fld (pv 0) rfl) pe_str (nomark _)) (pss_one (ps_expr (pe_k c_check_repeats hr (by omega) (pass_on (CX' := L2.CX P w)) (pa_cons (pe_ix ix_tup (pe_fld (pv 0) rfl) pe_int (fun _ _ => rfl)) pa_nil)))) (pss_one (ps_expr (pe_k c_check_selector hr (by omega) (pass_on (CX' := L2.CX P w)) (pa_cons (pe_ix ix_tup (pe_fld (pv 0) rfl) pe_int (fun _ _ => rfl)) pa_nil))))) (pss_one (ps_if (pt_cmpR op_in_seq (pe_fld (pv 0) rfl) (pe_tup (pa_cons pe_str (pa_cons pe_str pa_nil))) (by with_unfolding_all rfl)) (pss_one (ps_expr (pe_k c_check_steps hr (by omega) (pass_on (CX' := L2.CX P w)) (pa_cons (pe_slice sl_tupA (pe_fld (pv 0) rfl) (po_some pe_int) po_none) pa_nil)))) (pss_one (ps_for (passes_of rfl) rfl (pi_tup (pe_slice sl_tupA (pe_fld (pv 0) rfl) (po_some pe_int) po_none)) (pg_name (i := 1) sc_check_step.nd rfl (Or.inl rfl)) (pss_one (ps_expr (pe_k c_check_action hr (by omega) (pass_on (CX' := L2.CX P w)) (pa_cons (pv 1) pa_nil))))))))))), ?_⟩)
  · obtain ⟨a, n, rfl, _⟩ := h
    rfl
  · obtain ⟨a, n, rfl, ha, ⟨okS1, okT1⟩, h⟩ := h
    obtain ⟨dx, pa, as, h1, h2, h3, h4⟩ := ha.any
    unfold stepErrF at h
    have las := h3.len
    refine sq (ifs_of (!decide (headN n ∈ (["blocks", "inlines", "repeat", "when"] : List Str))) (fun R q => ?_) (fun c => ?_) (fun c => ?_))
    · simp only [cxK, cxW, cxKn, cxWn, tRet, tRetN, tC, tVar, tOp, tUn, rI0, rI, rU, rEq, rNe, scal, tChain, tTest, tB, tIfS, tAnd, tOr, tNot, tAndV, tOrV, tNotV, tIf, tSeq, tNext, tAsg, gName, tDrop, tCons, tNil, tCall, tMeth, tCB, tBM, tBM0, L2.start, List.map_cons, List.map_nil, List.length_cons, List.length_nil, List.replicate, Nat.reduceAdd, Nat.reduceSub, List.cons_append, List.nil_append, List.append_nil, List.getElem?_cons_zero, List.getElem?_cons_succ, List.set_cons_zero, List.set_cons_succ, Option.some.injEq, exists_and_left, exists_and_right, exists_eq_left, exists_eq_left', exists_eq_right, exists_eq_right', exists_eq, exists_eq', V.int.injEq, V.str.injEq, V.ref.injEq, V.bl.injEq, List.cons.injEq, true_and, and_true, and_self, decide_eq_true_eq, exists_const, if_true, if_false, Bool.not_eq_true', decide_eq_false_iff_not, Bool.false_eq_true, reduceIte, Bool.not_true, Bool.not_false, tFld, T.clE, eN_shape T, eN_place T, eN_text T, eN_number T, eN_parts T, eN_head T, eN_depth T, eN_role T, lk_shape, lk_place, lk_text, lk_number, lk_parts, lk_head, lk_depth, lk_role, HO.ins.injEq, and_assoc, h1, nodeF, rIn]
      refine ⟨_, .inr (T.tSTEPS H), rfl, by decide +kernel, ?_⟩
      rw [inV_str]
      exact q
    · rw [Bool.not_eq_true', decide_eq_false_iff_not] at c
      rw [if_neg c] at h
      exact raise_pl T rfl rfl h1 rfl h
    have hin : headN n ∈ (["blocks", "inlines", "repeat", "when"] : List Str) := by
      rw [Bool.not_eq_false', decide_eq_true_eq] at c
      exact c
    rw [if_pos hin] at h
    refine nxt ?_
    dsimp only
    refine sq (ifs_of (decide ((kids n).length = 1)) (fun R q => ?_) (fun c => ?_) (fun c => ?_))
    · simp only [cxK, cxW, cxKn, cxWn, tRet, tRetN, tC, tVar, tOp, tUn, rI0, rI, rU, rEq, rNe, scal, tChain, tTest, tB, tIfS, tAnd, tOr, tNot, tAndV, tOrV, tNotV, tIf, tSeq, tNext, tAsg, gName, tDrop, tCons, tNil, tCall, tMeth, tCB, tBM, tBM0, L2.start, List.map_cons, List.map_nil, List.length_cons, List.length_nil, List.replicate, Nat.reduceAdd, Nat.reduceSub, List.cons_append, List.nil_append, List.append_nil, List.getElem?_cons_zero, List.getElem?_cons_succ, List.set_cons_zero, List.set_cons_succ, Option.some.injEq, exists_and_left, exists_and_right, exists_eq_left, exists_eq_left', exists_eq_right, exists_eq_right', exists_eq, exists_eq', V.int.injEq, V.str.injEq, V.ref.injEq, V.bl.injEq, List.cons.injEq, true_and, and_true, and_self, decide_eq_true_eq, exists_const, if_true, if_false, Bool.not_eq_true', decide_eq_false_iff_not, Bool.false_eq_true, reduceIte, Bool.not_true, Bool.not_false, tFld, T.clE, eN_shape T, eN_place T, eN_text T, eN_number T, eN_parts T, eN_head T, eN_depth T, eN_role T, lk_shape, lk_place, lk_text, lk_number, lk_parts, lk_head, lk_depth, lk_role, HO.ins.injEq, and_assoc, h1, nodeF]
      refine ⟨_, .inr (SqT.of h2), ?_⟩
      refine cast (congrArg (fun b => R b H) ?_) q
      rw [decide_eq_decide, List.length_map, las]
      omega
    · rw [if_pos (by simpa using c)] at h
      exact raise_pl T rfl rfl h1 rfl h
    rw [if_neg (by simpa using c)] at h
    have n0 : kids n ≠ [] := kids_of (fun e => by rw [e] at hin; revert hin; decide +kernel)
    have len2 : 1 < (kids n).length := by
      have : (kids n).length ≠ 0 := fun q => n0 (List.length_eq_zero_iff.mp q)
      have : (kids n).length ≠ 1 := by simpa using c
      omega
    obtain ⟨ca, hca, hcx⟩ := h3.get (List.getElem?_eq_getElem len2)
    have gD : (kids n).getD 1 (.list 0 []) = (kids n)[1] := by simp [List.getD, List.getElem?_eq_getElem len2]
    rw [gD] at h
    refine nxt ?_
    dsimp only
    have second : ∀ H1, Same H H1 → ErrTo K H Q E (if headN n = "repeat" ∨ headN n = "when" then firstErr stp ((kids n).drop 2) else firstErr actErr ((kids n).drop 2)) →
        tIfS (tTest (tOp (rIn K false) (tFld K (tVar 0) "head") (tTup (tCons (tC (V.str "repeat")) (tCons (tC (V.str "when")) tNil)))))
          (tDrop (tCall (spStepsT K okT stp) [] E (tCons (tSl (rSlA K) (tFld K (tVar 0) "parts") (tPart (tC (V.int 2))) tNoPart) tNil)))
          (tFor (iTup K (tSl (rSlA K) (tFld K (tVar 0) "parts") (tPart (tC (V.int 2))) tNoPart)) (gName 1) (tDrop (tCall (spOne K (fun _ => True) actErr) [] E (tCons (tVar 1) tNil))))
          { nx := fun x H' => Q V.non H', rt := Q } (L2.start ["step", "action"] [V.ref a]) H1 := by
      intro H1 s1 h
      refine ifs_sm (decide (headN n = "repeat" ∨ headN n = "when")) (fun R q => ?_) (fun c H2 s2 => ?_) (fun c H2 s2 => ?_)
      · have h1' := s1 _ _ h1
        simp only [cxK, cxW, cxKn, cxWn, tRet, tRetN, tC, tVar, tOp, tUn, rI0, rI, rU, rEq, rNe, scal, tChain, tTest, tB, tIfS, tAnd, tOr, tNot, tAndV, tOrV, tNotV, tIf, tSeq, tNext, tAsg, gName, tDrop, tCons, tNil, tCall, tMeth, tCB, tBM, tBM0, L2.start, List.map_cons, List.map_nil, List.length_cons, List.length_nil, List.replicate, Nat.reduceAdd, Nat.reduceSub, List.cons_append, List.nil_append, List.append_nil, List.getElem?_cons_zero, List.getElem?_cons_succ, List.set_cons_zero, List.set_cons_succ, Option.some.injEq, exists_and_left, exists_and_right, exists_eq_left, exists_eq_left', exists_eq_right, exists_eq_right', exists_eq, exists_eq', V.int.injEq, V.str.injEq, V.ref.injEq, V.bl.injEq, List.cons.injEq, true_and, and_true, and_self, decide_eq_true_eq, exists_const, if_true, if_false, Bool.not_eq_true', decide_eq_false_iff_not, Bool.false_eq_true, reduceIte, Bool.not_true, Bool.not_false, tFld, T.clE, eN_shape T, eN_place T, eN_text T, eN_number T, eN_parts T, eN_head T, eN_depth T, eN_role T, lk_shape, lk_place, lk_text, lk_number, lk_parts, lk_head, lk_depth, lk_role, HO.ins.injEq, and_assoc, h1', nodeF, rIn, tTup]
        refine ⟨by rw [sizeLine_eq]; decide, fun p hp => ⟨_, .inr (SqT.of upd_same), rfl, rfl, ?_⟩⟩
        have s7 := Same.new (o := .tup [V.str "repeat", V.str "when"]) hp
        have iv := inV_str (headN n) ["repeat", "when"]
        simp only [List.map_cons, List.map_nil] at iv
        rw [iv]
        refine cast (congrArg (fun b => R b _) ?_) (q _ s7)
        rw [decide_eq_decide]
        simp
      · rw [if_pos (by simpa using c)] at h
        have h1' := (s1.trans s2) _ _ h1
        simp only [cxK, cxW, cxKn, cxWn, tRet, tRetN, tC, tVar, tOp, tUn, rI0, rI, rU, rEq, rNe, scal, tChain, tTest, tB, tIfS, tAnd, tOr, tNot, tAndV, tOrV, tNotV, tIf, tSeq, tNext, tAsg, gName, tDrop, tCons, tNil, tCall, tMeth, tCB, tBM, tBM0, L2.start, List.map_cons, List.map_nil, List.length_cons, List.length_nil, List.replicate, Nat.reduceAdd, Nat.reduceSub, List.cons_append, List.nil_append, List.append_nil, List.getElem?_cons_zero, List.getElem?_cons_succ, List.set_cons_zero, List.set_cons_succ, Option.some.injEq, exists_and_left, exists_and_right, exists_eq_left, exists_eq_left', exists_eq_right, exists_eq_right', exists_eq, exists_eq', V.int.injEq, V.str.injEq, V.ref.injEq, V.bl.injEq, List.cons.injEq, true_and, and_true, and_self, decide_eq_true_eq, exists_const, if_true, if_false, Bool.not_eq_true', decide_eq_false_iff_not, Bool.false_eq_true, reduceIte, Bool.not_true, Bool.not_false, tFld, T.clE, eN_shape T, eN_place T, eN_text T, eN_number T, eN_parts T, eN_head T, eN_depth T, eN_role T, lk_shape, lk_place, lk_text, lk_number, lk_parts, lk_head, lk_depth, lk_role, HO.ins.injEq, and_assoc, h1', nodeF, tSl, tPart, tNoPart]
        refine rSlA_of (SqT.of ((s1.trans s2) _ _ h2)) fun p H3 s3 hq => ?_
        have e := cut_from (as.map V.ref) 2
        have sm := (s1.trans s2).trans s3
        refine ⟨p, (kids n).drop 2, as.drop 2, rfl, ?_, (h3.drop 2).stay (Stay.of sm), okT1, err_go (fun z H4 s4 => ?_) (fun q z => by rw [z] at h; exact h)⟩
        · rw [List.map_drop, ← e]
          exact hq
        · rw [z] at h
          exact h H4 (sm.trans s4)
      · rw [if_neg (by simpa using c)] at h
        have l1 : (as.drop 2).length = ((kids n).drop 2).length := (h3.drop 2).len
        refine for_tup_of (xs := (as.drop 2).map V.ref) (fun R q => ?_) (fun i σ H' => Same H H' ∧ (∃ v, σ = [some (.ref a), v]) ∧ firstErr actErr (((kids n).drop 2).take i) = none) (fun H3 s3 => ⟨(s1.trans s2).trans s3, ⟨none, rfl⟩, rfl⟩) ?_ ?_
        · have h1' := (s1.trans s2) _ _ h1
          simp only [cxK, cxW, cxKn, cxWn, tRet, tRetN, tC, tVar, tOp, tUn, rI0, rI, rU, rEq, rNe, scal, tChain, tTest, tB, tIfS, tAnd, tOr, tNot, tAndV, tOrV, tNotV, tIf, tSeq, tNext, tAsg, gName, tDrop, tCons, tNil, tCall, tMeth, tCB, tBM, tBM0, L2.start, List.map_cons, List.map_nil, List.length_cons, List.length_nil, List.replicate, Nat.reduceAdd, Nat.reduceSub, List.cons_append, List.nil_append, List.append_nil, List.getElem?_cons_zero, List.getElem?_cons_succ, List.set_cons_zero, List.set_cons_succ, Option.some.injEq, exists_and_left, exists_and_right, exists_eq_left, exists_eq_left', exists_eq_right, exists_eq_right', exists_eq, exists_eq', V.int.injEq, V.str.injEq, V.ref.injEq, V.bl.injEq, List.cons.injEq, true_and, and_true, and_self, decide_eq_true_eq, exists_const, if_true, if_false, Bool.not_eq_true', decide_eq_false_iff_not, Bool.false_eq_true, reduceIte, Bool.not_true, Bool.not_false, tFld, T.clE, eN_shape T, eN_place T, eN_text T, eN_number T, eN_parts T, eN_head T, eN_depth T, eN_role T, lk_shape, lk_place, lk_text, lk_number, lk_parts, lk_head, lk_depth, lk_role, HO.ins.injEq, and_assoc, h1', nodeF, tSl, tPart, tNoPart]
          refine rSlA_of (SqT.of ((s1.trans s2) _ _ h2)) fun p H3 s3 hq => q H3 p s3 ?_
          have e := cut_from (as.map V.ref) 2
          rw [List.map_drop, ← e]
          exact hq
        · rintro H3 s3 i x σ H' hi s4 ⟨sm, ⟨v, rfl⟩, hfe⟩
          obtain ⟨ca, hca, rfl⟩ := ref_at hi
          obtain ⟨c1, hn, hx⟩ := ((h3.drop 2).stay (Stay.of sm)).at hca
          simp only [cxK, cxW, cxKn, cxWn, tRet, tRetN, tC, tVar, tOp, tUn, rI0, rI, rU, rEq, rNe, scal, tChain, tTest, tB, tIfS, tAnd, tOr, tNot, tAndV, tOrV, tNotV, tIf, tSeq, tNext, tAsg, gName, tDrop, tCons, tNil, tCall, tMeth, tCB, tBM, tBM0, L2.start, List.map_cons, List.map_nil, List.length_cons, List.length_nil, List.replicate, Nat.reduceAdd, Nat.reduceSub, List.cons_append, List.nil_append, List.append_nil, List.getElem?_cons_zero, List.getElem?_cons_succ, List.set_cons_zero, List.set_cons_succ, Option.some.injEq, exists_and_left, exists_and_right, exists_eq_left, exists_eq_left', exists_eq_right, exists_eq_right', exists_eq, exists_eq', V.int.injEq, V.str.injEq, V.ref.injEq, V.bl.injEq, List.cons.injEq, true_and, and_true, and_self, decide_eq_true_eq, exists_const, if_true, if_false, Bool.not_eq_true', decide_eq_false_iff_not, Bool.false_eq_true, reduceIte, Bool.not_true, Bool.not_false]
          refine ⟨ca, c1, rfl, hx, trivial, err_go (fun z H4 s5 => ⟨s4.trans s5, sm.trans s5, fe_more hn hfe z⟩) (fun q e => ?_)⟩
          rw [fe_stop hn hfe e] at h
          exact h
        · rintro σ H' _ ⟨sm, ⟨v, rfl⟩, hfe⟩
          rw [List.length_map, l1, List.take_length] at hfe
          rw [hfe] at h
          exact h H' sm
    have arg : ∀ R : List V → Hp → Prop, R [.ref ca] H → tCons (tOp (rIxT K) (tFld K (tVar 0) "parts") (tC (V.int 1))) tNil (L2.start ["step", "action"] [V.ref a]) H R := fun R q => by
      simp only [cxK, cxW, cxKn, cxWn, tRet, tRetN, tC, tVar, tOp, tUn, rI0, rI, rU, rEq, rNe, scal, tChain, tTest, tB, tIfS, tAnd, tOr, tNot, tAndV, tOrV, tNotV, tIf, tSeq, tNext, tAsg, gName, tDrop, tCons, tNil, tCall, tMeth, tCB, tBM, tBM0, L2.start, List.map_cons, List.map_nil, List.length_cons, List.length_nil, List.replicate, Nat.reduceAdd, Nat.reduceSub, List.cons_append, List.nil_append, List.append_nil, List.getElem?_cons_zero, List.getElem?_cons_succ, List.set_cons_zero, List.set_cons_succ, Option.some.injEq, exists_and_left, exists_and_right, exists_eq_left, exists_eq_left', exists_eq_right, exists_eq_right', exists_eq, exists_eq', V.int.injEq, V.str.injEq, V.ref.injEq, V.bl.injEq, List.cons.injEq, true_and, and_true, and_self, decide_eq_true_eq, exists_const, if_true, if_false, Bool.not_eq_true', decide_eq_false_iff_not, Bool.false_eq_true, reduceIte, Bool.not_true, Bool.not_false, tFld, T.clE, eN_shape T, eN_place T, eN_text T, eN_number T, eN_parts T, eN_head T, eN_depth T, eN_role T, lk_shape, lk_place, lk_text, lk_number, lk_parts, lk_head, lk_depth, lk_role, HO.ins.injEq, and_assoc, h1, nodeF, rIxT]
      exact ⟨_, SqT.of h2, _, atI_nat (j := 1) (by rw [List.getElem?_map, hca]; rfl), q⟩
    refine sq (ifs_of (decide (headN n = "repeat")) (fun R q => ?_) (fun c => ?_) (fun c => ?_))
    · simp only [cxK, cxW, cxKn, cxWn, tRet, tRetN, tC, tVar, tOp, tUn, rI0, rI, rU, rEq, rNe, scal, tChain, tTest, tB, tIfS, tAnd, tOr, tNot, tAndV, tOrV, tNotV, tIf, tSeq, tNext, tAsg, gName, tDrop, tCons, tNil, tCall, tMeth, tCB, tBM, tBM0, L2.start, List.map_cons, List.map_nil, List.length_cons, List.length_nil, List.replicate, Nat.reduceAdd, Nat.reduceSub, List.cons_append, List.nil_append, List.append_nil, List.getElem?_cons_zero, List.getElem?_cons_succ, List.set_cons_zero, List.set_cons_succ, Option.some.injEq, exists_and_left, exists_and_right, exists_eq_left, exists_eq_left', exists_eq_right, exists_eq_right', exists_eq, exists_eq', V.int.injEq, V.str.injEq, V.ref.injEq, V.bl.injEq, List.cons.injEq, true_and, and_true, and_self, decide_eq_true_eq, exists_const, if_true, if_false, Bool.not_eq_true', decide_eq_false_iff_not, Bool.false_eq_true, reduceIte, Bool.not_true, Bool.not_false, tFld, T.clE, eN_shape T, eN_place T, eN_text T, eN_number T, eN_parts T, eN_head T, eN_depth T, eN_role T, lk_shape, lk_place, lk_text, lk_number, lk_parts, lk_head, lk_depth, lk_role, HO.ins.injEq, and_assoc, h1, nodeF]
      exact q
    · have c : headN n = "repeat" := by simpa using c
      rw [if_pos c] at h
      refine dcall arg ⟨ca, _, rfl, hcx, trivial, err_go (fun z H1 s1 => second H1 s1 ?_) (fun q z => by rw [z] at h; exact h)⟩
      rw [z] at h
      exact h
    · have c : ¬ headN n = "repeat" := by simpa using c
      rw [if_neg c] at h
      refine dcall arg ⟨ca, _, rfl, hcx, okS1 _ (List.getElem?_eq_getElem len2), err_go (fun z H1 s1 => second H1 s1 ?_) (fun q z => by rw [z] at h; exact h)⟩
      rw [z] at h
      exact h
abbrev s_read_program : Stmt := top 52
theorem sc_read_program : FnScope ["data", "steps"] ["data"] (defScope s_read_program) := ⟨rfl, rfl, rfl, by decide +kernel, rfl, by decide +kernel, by decide +kernel⟩
theorem ok_read_program (T : Txt w K mg) {kk kL : Nat} (h8 : 8 ≤ kk) (hL : kL ≤ kk) {ok : Node → Prop} {stp : Node → Err} (c_read_expressions : Kept P w K mg base (L2.CX P w) 8 "read_expressions" ["data"] (spReadX K)) (c_check_steps : Kept P w K mg base (L2.CX P w) kL "check_steps" ["steps"] (spStepsL K ok stp)) {f : Addr} {fd : FuncData} (F : FnP K "read_program" s_read_program f fd) :
    FnOk P w K mg base (L2.CX P w) (kk + 1) f fd ["data"] (spReadP K ok stp) := by
  refine F.ok sc_read_program (fun vs H Q E h => ?_) (fun cdv A outer s H vs Q E hr h => ⟨_, (pss_cons (ps_set (i := 1) sc_read_program.nd rfl (Or.inl rfl) (pe_k c_read_expressions hr (by omega) (pass_on (CX' := L2.CX P w)) (pa_cons (pv 0) pa_nil))) (pss_cons (ps_expr (pe_k c_check_steps hr (by omega) (pass_on (CX' := L2.CX P w)) (pa_cons (pv 1) pa_nil))) (pss_one (ps_ret (pv 1))))), ?_⟩)
  · obtain ⟨da, bs, rfl, _⟩ := h
    rfl
  · obtain ⟨da, bs, rfl, hS, h256, h600, h⟩ := h
    refine sq ⟨_, rfl, da, bs, rfl, hS, h256, h600, ?_⟩
    cases e : Kh450.readAll bs with
    | error k rest =>
      rw [e] at h
      exact h
    | ok ns rest =>
      rw [e] at h
      obtain ⟨hok, h⟩ := h
      intro H1 l as s1 hl hx
      refine sq ⟨_, rfl, l, ns, as, rfl, SqL.of hl, hx, hok, err_go (fun z H2 s2 => ?_) (fun q z => by rw [z] at h; exact h)⟩
      rw [z] at h
      exact ⟨_, rfl, h H2 l as (s1.trans s2) (s2 _ _ hl) hx.len⟩
end
end Ck
namespace Ck
open PySem PySem.Spec PyProof.Rows L2 RZ
open Kh450 (Node)
def dueC (stp : Node → Err) (bs : List Nat) : List V := match Kh450.readAll bs with
  | .error k rest => [.int (k : Nat), .int (bs.length - rest.length : Nat)]
  | .ok ns _ => match firstErr stp ns with
    | some q => [.int (q.1 : Nat), .int (q.2 : Nat)]
    | none => [.int 0, .int (ns.length : Nat)]
def spCheck (K : PySem.W.Frag) (ok : Node → Prop) (stp : Node → Err) : Sp := fun vs H Q _ => ∃ (a : Addr) (bs : List Nat), vs = [.ref a] ∧ SqL K H a (vI bs) ∧ (∀ b ∈ bs, b < 256) ∧ bs.length ≤ 600 ∧ (∀ ns rest, Kh450.readAll bs = .ok ns rest → ∀ n ∈ ns, ok n) ∧
  ∀ (H' : Hp) (p : Addr), H' p = some (.lst (dueC stp bs)) → Q (.ref p) H'
def t_suite (C : Addr) : Addr → Value → Option Addr → TS := fun a cls d => tRet (tLst (tCons (tXf a cls d C "kind" (tVar 2)) (tCons (tXf a cls d C "position" (tVar 2)) tNil)))
section
variable {P : Program} {w : World} {K : PySem.W.Frag} {mg : Str → Option Value} {base : Heap}
abbrev s_check : Stmt := top 63
theorem sc_check : FnScope ["program", "steps", "fault"] ["program"] (defScope s_check) := ⟨rfl, rfl, rfl, by decide +kernel, rfl, by decide +kernel, by decide +kernel⟩
theorem ok_check (T : Txt w K mg) {k : Nat} {ok : Node → Prop} {stp : Node → Err} (c_read_program : Kept P w K mg base (L2.CX P w) k "read_program" ["data"] (spReadP K ok stp)) {f : Addr} {fd : FuncData} (F : FnP K "check" s_check f fd) :
    FnOk P w K mg base CX0 (k + 1) f fd ["program"] (spCheck K ok stp) := by
  obtain ⟨fd0, F0, hb0⟩ := c_read_program.ex
  have xf : XfC K (He.ga K "Fault") := ⟨T.fault.ga, T.fault.gg, T.fault.exC, T.fault.hdC⟩
  refine F.ok sc_check (fun vs H Q E h => ?_) (fun cdv A outer s H vs Q E hr h => ⟨_, (pss_cons (ps_try_as (i := 2) (tb := fun W => tAsg (tCallS (spReadP K ok stp) (WE W) (tCons (tVar 0) tNil)) (gName 1)) (ts := t_suite (He.ga K "Fault")) (Wout := fun _ _ _ _ => False) rfl rfl sc_check.nd rfl rfl ⟨rfl, by decide, Or.inl T.fault.gC⟩ takes0
          (fun W pn xe tk _ => pss_one (ps_set (i := 1) sc_check.nd rfl (Or.inl rfl) (by exact (pe_callS F0 hr rfl c_read_program.g c_read_program.kp hb0 (fun σ => passAt tk σ) (by exact (pa_cons (pv 0) pa_nil))))))
          (fun a oe cls d pn hz hf => pss_one (ps_ret (pe_lst (pa_cons (pe_xf xf T.fault.nk hz hf (pv 2)) (pa_cons (pe_xf xf T.fault.np hz hf (pv 2)) pa_nil))))))
        (pss_one (ps_ret (pe_lst (pa_cons pe_int (pa_cons (pe_callB call_len_seq (by rfl) T.nlen PySem.boot_len (pa_cons (pv 1) pa_nil)) pa_nil)))))), ?_⟩)
  · obtain ⟨a, bs, rfl, _⟩ := h
    rfl
  · obtain ⟨a, bs, rfl, hS, h256, h600, hok, h⟩ := h
    have fk : ∀ x y : V, (faultF x y).lookup ("kind" : Str) = some x := fun x y => (lk2 (by decide +kernel)).trans lk1
    have fp : ∀ x y : V, (faultF x y).lookup ("position" : Str) = some y := fun x y => lk1
    have caught : ∀ (D : Ends) (σ : L2.St) (v : Option V) (k p : Nat), D.rt = Q → σ = [some (V.ref a), v, none] → dueC stp bs = [.int (k : Nat), .int (p : Nat)] → FaultE K (WE (wAs K (Value.ref (He.ga K "Fault")) 2 (t_suite (He.ga K "Fault")) (fun _ _ _ _ => False) D) σ) k p := by
      intro D σ v k p hD hσ hd H1 d hd1
      subst hσ
      refine ⟨true, T.fault.te, fun _ a0 na => ?_, fun q => Bool.noConfusion q⟩
      refine ⟨_, rfl, rfl, rfl, d, _, _, rfl, hd1, fk _ _, _, rfl, rfl, rfl, d, _, _, rfl, hd1, fp _ _, (by rw [sizeLine_eq]; show 2 ≤ 16777216; decide), fun q hq => ?_⟩
      show D.rt _ _
      rw [hD]
      exact h _ q (by rw [hd]; exact upd_same)
    refine sq ⟨_, rfl, a, bs, rfl, hS, h256, h600, ?_⟩
    cases e : Kh450.readAll bs with
    | error k rest => exact caught _ _ none k _ rfl rfl (by unfold dueC; rw [e])
    | ok ns rest =>
      refine ⟨hok ns rest e, ?_⟩
      cases e2 : firstErr stp ns with
      | some q => exact caught _ _ none q.1 q.2 rfl rfl (by unfold dueC; rw [e]; dsimp only; rw [e2])
      | none =>
        intro H1 l as s1 hl hn
        dsimp only [gName]
        simp only [cxK, cxW, cxKn, cxWn, tRet, tRetN, tC, tVar, tOp, tUn, rI0, rI, rU, rEq, rNe, scal, tChain, tTest, tB, tIfS, tAnd, tOr, tNot, tAndV, tOrV, tNotV, tIf, tSeq, tNext, tAsg, gName, tDrop, tCons, tNil, tCall, tMeth, tCB, tBM, tBM0, L2.start, List.map_cons, List.map_nil, List.length_cons, List.length_nil, List.replicate, Nat.reduceAdd, Nat.reduceSub, List.cons_append, List.nil_append, List.append_nil, List.getElem?_cons_zero, List.getElem?_cons_succ, List.set_cons_zero, List.set_cons_succ, Option.some.injEq, exists_and_left, exists_and_right, exists_eq_left, exists_eq_left', exists_eq_right, exists_eq_right', exists_eq, exists_eq', V.int.injEq, V.str.injEq, V.ref.injEq, V.bl.injEq, List.cons.injEq, true_and, and_true, and_self, decide_eq_true_eq, exists_const, if_true, if_false, Bool.not_eq_true', decide_eq_false_iff_not, Bool.false_eq_true, reduceIte, Bool.not_true, Bool.not_false, tLst]
        refine ⟨_, .inl (SqL.of hl), by rw [sizeLine_eq]; decide, fun p hp => h _ p ?_⟩
        rw [upd_same]
        unfold dueC
        rw [e]
        dsimp only
        rw [e2, List.length_map, hn]
end
end Ck
namespace Ck
open PySem PySem.Spec PyProof.Rows L2 RZ
open Kh450 (Node)
/-! ### what is looked up behind the top -/
def d_sign_of : He.DefD := ⟨("sign_of", none), "sign_of", "sign_of", defArgs (top 7), defBody (top 7), defScope (top 7), [], []⟩
def d_text_of : He.DefD := ⟨("text_of", none), "text_of", "text_of", defArgs (top 8), defBody (top 8), defScope (top 8), [], []⟩
def d_bytes_of_code_point : He.DefD := ⟨("bytes_of_code_point", none), "bytes_of_code_point", "bytes_of_code_point", defArgs (top 9), defBody (top 9), defScope (top 9), [], []⟩
def d_is_label : He.DefD := ⟨("is_label", none), "is_label", "is_label", defArgs (top 10), defBody (top 10), defScope (top 10), [], []⟩
def d_make_string : He.DefD := ⟨("make_string", none), "make_string", "make_string", defArgs (top 16), defBody (top 16), defScope (top 16), [.int 0], []⟩
def d_make_integer : He.DefD := ⟨("make_integer", none), "make_integer", "make_integer", defArgs (top 17), defBody (top 17), defScope (top 17), [.int 0], []⟩
def d_make_symbol : He.DefD := ⟨("make_symbol", none), "make_symbol", "make_symbol", defArgs (top 18), defBody (top 18), defScope (top 18), [.int 0], []⟩
def d_make_list : He.DefD := ⟨("make_list", none), "make_list", "make_list", defArgs (top 19), defBody (top 19), defScope (top 19), [.int 0], []⟩
def d_rule_of : He.DefD := ⟨("rule_of", none), "rule_of", "rule_of", defArgs (top 20), defBody (top 20), defScope (top 20), [], []⟩
def d_role_of_list : He.DefD := ⟨("role_of_list", none), "role_of_list", "role_of_list", defArgs (top 21), defBody (top 21), defScope (top 21), [], []⟩
def d_has_form : He.DefD := ⟨("has_form", none), "has_form", "has_form", defArgs (top 22), defBody (top 22), defScope (top 22), [], []⟩
def d_has_even_rows : He.DefD := ⟨("has_even_rows", none), "has_even_rows", "has_even_rows", defArgs (top 23), defBody (top 23), defScope (top 23), [], []⟩
def d_read_expressions : He.DefD := ⟨("read_expressions", none), "read_expressions", "read_expressions", defArgs (top 37), defBody (top 37), defScope (top 37), [], []⟩
def d_is_digit : He.DefD := ⟨("is_digit", none), "is_digit", "is_digit", defArgs (top 39), defBody (top 39), defScope (top 39), [], []⟩
def d_is_letter : He.DefD := ⟨("is_letter", none), "is_letter", "is_letter", defArgs (top 40), defBody (top 40), defScope (top 40), [], []⟩
def d_is_symbol_sign : He.DefD := ⟨("is_symbol_sign", none), "is_symbol_sign", "is_symbol_sign", defArgs (top 41), defBody (top 41), defScope (top 41), [], []⟩
def d_hexadecimal_value : He.DefD := ⟨("hexadecimal_value", none), "hexadecimal_value", "hexadecimal_value", defArgs (top 42), defBody (top 42), defScope (top 42), [], []⟩
def d_sequence_length : He.DefD := ⟨("sequence_length", none), "sequence_length", "sequence_length", defArgs (top 43), defBody (top 43), defScope (top 43), [], []⟩
def d_length_from_first : He.DefD := ⟨("length_from_first", none), "length_from_first", "length_from_first", defArgs (top 44), defBody (top 44), defScope (top 44), [], []⟩
def d_second_byte_fits : He.DefD := ⟨("second_byte_fits", none), "second_byte_fits", "second_byte_fits", defArgs (top 45), defBody (top 45), defScope (top 45), [], []⟩
def d_read_program : He.DefD := ⟨("read_program", none), "read_program", "read_program", defArgs (top 52), defBody (top 52), defScope (top 52), [], []⟩
def d_check_steps : He.DefD := ⟨("check_steps", none), "check_steps", "check_steps", defArgs (top 53), defBody (top 53), defScope (top 53), [], []⟩
def d_check_step : He.DefD := ⟨("check_step", none), "check_step", "check_step", defArgs (top 54), defBody (top 54), defScope (top 54), [], []⟩
def d_check_repeats : He.DefD := ⟨("check_repeats", none), "check_repeats", "check_repeats", defArgs (top 55), defBody (top 55), defScope (top 55), [], []⟩
def d_check_selector : He.DefD := ⟨("check_selector", none), "check_selector", "check_selector", defArgs (top 56), defBody (top 56), defScope (top 56), [], []⟩
def d_check_action : He.DefD := ⟨("check_action", none), "check_action", "check_action", defArgs (top 57), defBody (top 57), defScope (top 57), [], []⟩
def d_check_arguments : He.DefD := ⟨("check_arguments", none), "check_arguments", "check_arguments", defArgs (top 58), defBody (top 58), defScope (top 58), [], []⟩
def d_check_kind : He.DefD := ⟨("check_kind", none), "check_kind", "check_kind", defArgs (top 59), defBody (top 59), defScope (top 59), [], []⟩
def d_check_shape : He.DefD := ⟨("check_shape", none), "check_shape", "check_shape", defArgs (top 60), defBody (top 60), defScope (top 60), [], []⟩
def d_check_range : He.DefD := ⟨("check_range", none), "check_range", "check_range", defArgs (top 61), defBody (top 61), defScope (top 61), [], []⟩
def d_check : He.DefD := ⟨("check", none), "check", "check", defArgs (top 63), defBody (top 63), defScope (top 63), [], []⟩
def d_Fault___init__ : He.DefD := ⟨("Fault", some "__init__"), "__init__", "Fault.__init__", defArgs (inClass (top 1) 0), defBody (inClass (top 1) 0), defScope (inClass (top 1) 0), [], []⟩
def d_Expression___init__ : He.DefD := ⟨("Expression", some "__init__"), "__init__", "Expression.__init__", defArgs (inClass (top 15) 0), defBody (inClass (top 15) 0), defScope (inClass (top 15) 0), [], []⟩
def d_Reader___init__ : He.DefD := ⟨("Reader", some "__init__"), "__init__", "Reader.__init__", defArgs (inClass (top 38) 0), defBody (inClass (top 38) 0), defScope (inClass (top 38) 0), [], []⟩
def d_Reader_skip_white_space : He.DefD := ⟨("Reader", some "skip_white_space"), "skip_white_space", "Reader.skip_white_space", defArgs (inClass (top 38) 1), defBody (inClass (top 38) 1), defScope (inClass (top 38) 1), [], []⟩
def d_Reader_skip_comment : He.DefD := ⟨("Reader", some "skip_comment"), "skip_comment", "Reader.skip_comment", defArgs (inClass (top 38) 2), defBody (inClass (top 38) 2), defScope (inClass (top 38) 2), [], []⟩
def d_Reader_read_simple : He.DefD := ⟨("Reader", some "read_simple"), "read_simple", "Reader.read_simple", defArgs (inClass (top 38) 3), defBody (inClass (top 38) 3), defScope (inClass (top 38) 3), [], []⟩
def d_Reader_read_integer : He.DefD := ⟨("Reader", some "read_integer"), "read_integer", "Reader.read_integer", defArgs (inClass (top 38) 4), defBody (inClass (top 38) 4), defScope (inClass (top 38) 4), [], []⟩
def d_Reader_read_symbol : He.DefD := ⟨("Reader", some "read_symbol"), "read_symbol", "Reader.read_symbol", defArgs (inClass (top 38) 5), defBody (inClass (top 38) 5), defScope (inClass (top 38) 5), [], []⟩
def d_Reader_read_string : He.DefD := ⟨("Reader", some "read_string"), "read_string", "Reader.read_string", defArgs (inClass (top 38) 6), defBody (inClass (top 38) 6), defScope (inClass (top 38) 6), [], []⟩
def d_Reader_read_character : He.DefD := ⟨("Reader", some "read_character"), "read_character", "Reader.read_character", defArgs (inClass (top 38) 7), defBody (inClass (top 38) 7), defScope (inClass (top 38) 7), [], []⟩
def d_Reader_read_escape : He.DefD := ⟨("Reader", some "read_escape"), "read_escape", "Reader.read_escape", defArgs (inClass (top 38) 8), defBody (inClass (top 38) 8), defScope (inClass (top 38) 8), [], []⟩
def d_Reader_read_code_point : He.DefD := ⟨("Reader", some "read_code_point"), "read_code_point", "Reader.read_code_point", defArgs (inClass (top 38) 9), defBody (inClass (top 38) 9), defScope (inClass (top 38) 9), [], []⟩
def fa0 : List He.Fa := [.glo "sign_of", .glo "text_of", .glo "bytes_of_code_point", .glo "is_label", .glo "make_string", .glo "make_integer", .glo "make_symbol", .glo "make_list", .glo "rule_of", .glo "role_of_list", .glo "has_form", .glo "has_even_rows", .glo "read_expressions", .glo "is_digit", .glo "is_letter", .glo "is_symbol_sign", .glo "hexadecimal_value", .glo "sequence_length", .glo "length_from_first", .glo "second_byte_fits", .glo "read_program", .glo "check_steps", .glo "check_step", .glo "check_repeats", .glo "check_selector", .glo "check_action", .glo "check_arguments", .glo "check_kind", .glo "check_shape", .glo "check_range"]
def fa1 : List He.Fa := [.glo "check", .glo "Expression", .glo "Reader", .glo "Fault", .glo "ALIGNMENTS", .glo "WHITE_SPACE", .glo "KINDS", .glo "STEPS", .glo "RULES", .glo "SELECTORS", .glo "ACTIONS", .glo "SHORT_ESCAPES", .free "len", .free "isinstance", .free "str", .free "max", .free "zip", .free "tuple", .int "DEEPEST" 16, .int "LINE_FEED" 10, .int "QUOTATION_MARK" 34, .int "OPENING" 40, .int "CLOSING" 41, .int "HYPHEN" 45, .int "SEMICOLON" 59, .int "BACKSLASH" 92, .int "LETTER_U" 117, .int "OPENING_BRACE" 123, .int "CLOSING_BRACE" 125, .int "MOST_REPEATS" 50]
def fa2 : List He.Fa := [.str "SIGNS" signsT, .str "MARK" "~", .str "DIGITS" "{|}^", .str "LABEL_SIGNS" labelT, .cls "Expression", .mkr "Expression", .cls "Reader", .mkr "Reader", .noat "Expression" "shape", .noat "Expression" "place", .noat "Expression" "text", .noat "Expression" "number", .noat "Expression" "parts", .noat "Expression" "head", .noat "Expression" "depth", .noat "Expression" "role", .noat "Expression" "normal", .noat "Expression" "size", .noat "Reader" "data", .noat "Reader" "at", .meth "Reader" "skip_white_space", .meth "Reader" "skip_comment", .meth "Reader" "read_simple", .meth "Reader" "read_integer", .meth "Reader" "read_symbol", .meth "Reader" "read_string", .meth "Reader" "read_character", .meth "Reader" "read_escape", .meth "Reader" "read_code_point", .keep "Fault"]
def fa3 : List He.Fa := [.exm "Fault" "Fault" true]
def fa : List He.Fa := fa0 ++ fa1 ++ fa2 ++ fa3
def fn : List He.DefD := [d_sign_of, d_text_of, d_bytes_of_code_point, d_is_label, d_make_string, d_make_integer, d_make_symbol, d_make_list, d_rule_of, d_role_of_list, d_has_form, d_has_even_rows, d_read_expressions, d_is_digit, d_is_letter, d_is_symbol_sign, d_hexadecimal_value, d_sequence_length, d_length_from_first, d_second_byte_fits, d_read_program, d_check_steps, d_check_step, d_check_repeats, d_check_selector, d_check_action, d_check_arguments, d_check_kind, d_check_shape, d_check_range] ++ [d_check, d_Fault___init__, d_Expression___init__, d_Reader___init__, d_Reader_skip_white_space, d_Reader_skip_comment, d_Reader_read_simple, d_Reader_read_integer, d_Reader_read_symbol, d_Reader_read_string, d_Reader_read_character, d_Reader_read_escape, d_Reader_read_code_point]
def ts : List He.Tab := [(fun K => He.ga K "RULES", rulesT.map Prod.fst), (fun K => He.ga K "SELECTORS", selectorsT.map Prod.fst), (fun K => He.ga K "ACTIONS", actionsT.map Prod.fst)]
def tupA (K : PySem.W.Frag) (a : Addr) (vs : List V) : Bool := match K.lookup a with
  | some ⟨.type c, _, .seq its _, _⟩ => decide (c = "tuple") && (decide (its.size ≤ sizeLine) && He.relAll vs its.toList)
  | _ => false
theorem tupA_ok {K : PySem.W.Frag} {a : Addr} {vs : List V} (h : tupA K a vs = true) (H : Hp) : SqT K H a vs := by
  unfold tupA at h
  split at h
  · rename_i c od its n osl q
    obtain ⟨h1, h2⟩ := He.ba h
    obtain ⟨h3, h4⟩ := He.ba h2
    exact .inr ⟨_, its, n, q, congrArg Value.type (of_decide_eq_true h1), rfl, of_decide_eq_true h3, He.relAll_ok h4⟩
  · cases h
def rowS (K : PySem.W.Frag) (u : Value) (fs : List Str) : Bool := match u with
  | .ref a => tupA K a (fs.map V.str)
  | _ => false
def rowR (K : PySem.W.Frag) (u : Value) (r : Rule) : Bool := match u with
  | .ref a => (match K.lookup a with
    | some ⟨.type c, _, .seq its _, _⟩ => decide (c = "tuple") && (decide (its.size ≤ sizeLine) && (match its.toList with
      | [v1, .ref b, v3, v4] => He.relB (.str r.1) v1 && (He.relB (.str r.2.2.1) v3 && (He.relB (.int (r.2.2.2 : Int)) v4 && tupA K b (r.2.1.map V.str)))
      | _ => false))
    | _ => false)
  | _ => false
theorem rowS_ok {K : PySem.W.Frag} {u : Value} {fs : List Str} (h : rowS K u fs = true) : ∃ a, u = .ref a ∧ TupS K a fs := by
  cases u with
  | ref a => exact ⟨a, rfl, fun H => tupA_ok h H⟩
  | _ => cases h
theorem rowR_ok {K : PySem.W.Frag} {u : Value} {r : Rule} (h : rowR K u r = true) : ∃ a, u = .ref a ∧ RuleAt K a r := by
  cases u with
  | ref a =>
    refine ⟨a, rfl, ?_⟩
    unfold rowR at h
    dsimp only at h
    split at h
    · rename_i c od its n osl q
      obtain ⟨h1, h2⟩ := He.ba h
      obtain ⟨h3, h4⟩ := He.ba h2
      split at h4
      · rename_i v1 b v3 v4 e
        obtain ⟨i1, h5⟩ := He.ba h4
        obtain ⟨i2, h6⟩ := He.ba h5
        obtain ⟨i3, i4⟩ := He.ba h6
        refine ⟨b, fun H => tupA_ok i4 H, fun H => .inr ⟨_, its, n, q, congrArg Value.type (of_decide_eq_true h1), rfl, of_decide_eq_true h3, ?_⟩⟩
        rw [e]
        exact .cons (He.relB_ok i1) (.cons rfl (.cons (He.relB_ok i2) (.cons (He.relB_ok i3) .nil)))
      · cases h4
    · cases h
  | _ => cases h
def allB {α : Type} (f : Value → α → Bool) : List DictEntry → List (Str × α) → Bool
  | [], [] => true
  | e :: es, r :: rs => (match e.key with
    | .str x _ => decide (x = r.1)
    | _ => false) && (f e.val r.2 && allB f es rs)
  | _, _ => false
def tabB {α : Type} (K : PySem.W.Frag) (d : Addr) (f : Value → α → Bool) (tb : List (Str × α)) : Bool := match K.lookup d with
  | some ⟨_, _, .dict es _, _⟩ => allB f es.toList tb
  | _ => false
theorem allB_ok {α : Type} {f : Value → α → Bool} (z : Str) : ∀ {es : List DictEntry} {tb : List (Str × α)}, allB f es tb = true → es.any (·.refKey) = false ∧
    ((tb.lookup z = none ∧ es.find? (·.key.isStr z) = none) ∨ ∃ q e, tb.lookup z = some q ∧ es.find? (·.key.isStr z) = some e ∧ f e.val q = true)
  | [], [], _ => ⟨rfl, .inl ⟨rfl, rfl⟩⟩
  | [], _ :: _, h => by cases h
  | _ :: _, [], h => by cases h
  | e :: es, r :: rs, h => by
    obtain ⟨h1, h2⟩ := He.ba (show ((match e.key with
    | .str x _ => decide (x = r.1)
    | _ => false) && (f e.val r.2 && allB f es rs)) = true from h)
    obtain ⟨h3, h4⟩ := He.ba h2
    obtain ⟨i1, i2⟩ := allB_ok z h4
    obtain ⟨k, v⟩ := r
    split at h1
    · rename_i x t ek
      have ex : x = k := of_decide_eq_true h1
      subst ex
      have rk : e.refKey = false := by unfold DictEntry.refKey; rw [ek]
      have ks : e.key.isStr z = decide (x = z) := by rw [ek]; rfl
      refine ⟨by rw [List.any_cons, rk, i1]; rfl, ?_⟩
      by_cases c : x = z
      · refine .inr ⟨v, e, ?_, ?_, h3⟩
        · rw [List.lookup, show (z == x) = true by simp [c]]
        · rw [List.find?_cons, ks]
          simp [c]
      · have c2 : (z == x) = false := by simpa using fun q => c q.symm
        rw [List.lookup, c2, List.find?_cons, ks]
        simpa [c] using i2
    · cases h1
theorem tabB_ok {α : Type} {K : PySem.W.Frag} {d : Addr} {f : Value → α → Bool} {tb : List (Str × α)} {at_ : Addr → α → Prop} (h : tabB K d f tb = true) (hf : ∀ u q, f u q = true → ∃ a, u = .ref a ∧ at_ a q) : Tab K d at_ tb := fun z => by
  unfold tabB at h
  split at h
  · rename_i oc od es n osl lk
    obtain ⟨i1, i2⟩ := allB_ok z h
    unfold PySem.W.nsIn
    rw [lk]
    dsimp only
    rcases i2 with ⟨e1, e2⟩ | ⟨q, e, e1, e2, e3⟩
    · refine .inl ⟨e1, ?_⟩
      rw [e2, i1]
      rfl
    · obtain ⟨a, ea, ha⟩ := hf _ _ e3
      refine .inr ⟨q, a, e1, ?_, ha⟩
      rw [e2]
      dsimp only
      rw [ea]
  · cases h
def intsB : List DictEntry → List (Int × Int) → Bool
  | [], [] => true
  | e :: es, r :: rs => (match e.key, e.val with
    | .int k _, .int v _ => decide (k = r.1) && (decide (e.hash = hashInt k) && decide (v = r.2))
    | _, _ => false) && intsB es rs
  | _, _ => false
def kdiB (K : PySem.W.Frag) (a : Addr) (tb : List (Int × Int)) : Bool := match K.lookup a with
  | some ⟨.type c, none, .dict es _, sl⟩ => decide (c = "dict") && (sl.isEmpty && (!(a == sysModules) && intsB es.toList tb))
  | _ => false
theorem intsB_ok : ∀ {es : List DictEntry} {tb : List (Int × Int)}, intsB es tb = true → (∀ e ∈ es, ∃ k t, e.key = .int k t ∧ e.hash = hashInt k) ∧ ∀ k : Int, RelO ((tb.lookup k).map V.int) ((es.find? fun e => Value.isInt k e.key).map (·.val))
  | [], [], _ => ⟨fun _ h => (by cases h), fun _ => trivial⟩
  | [], _ :: _, h => by cases h
  | _ :: _, [], h => by cases h
  | e :: es, r :: rs, h => by
    obtain ⟨h1, h2⟩ := He.ba (show ((match e.key, e.val with
    | .int k _, .int v _ => decide (k = r.1) && (decide (e.hash = hashInt k) && decide (v = r.2))
    | _, _ => false) && intsB es rs) = true from h)
    obtain ⟨i1, i2⟩ := intsB_ok h2
    obtain ⟨a, b⟩ := r
    split at h1
    · rename_i k t v t2 ek ev
      obtain ⟨h3, h4⟩ := He.ba h1
      obtain ⟨h5, h6⟩ := He.ba h4
      have e1 : k = a := of_decide_eq_true h3
      have e2 : v = b := of_decide_eq_true h6
      subst e1 e2
      refine ⟨fun x hx => ?_, fun z => ?_⟩
      · rcases List.mem_cons.mp hx with q | q
        · rw [q]
          exact ⟨k, t, ek, of_decide_eq_true h5⟩
        · exact i1 x q
      · have ks : Value.isInt z e.key = (k == z) := by rw [ek]; rfl
        by_cases c : k = z
        · subst c
          rw [List.lookup, beq_self_eq_true, List.find?_cons, ks, beq_self_eq_true]
          show RelV (.int v) e.val
          rw [ev]
          exact ⟨t2, rfl⟩
        · have c1 : (z == k) = false := by simpa using fun q => c q.symm
          have c2 : (k == z) = false := by simpa using c
          rw [List.lookup, c1, List.find?_cons, ks, c2]
          exact i2 z
    · cases h1
theorem kdiB_ok {K : PySem.W.Frag} {a : Addr} {tb : List (Int × Int)} (h : kdiB K a tb = true) : KDI K a tb := by
  unfold kdiB at h
  split at h
  · rename_i c es n sl lk
    obtain ⟨h1, h⟩ := He.ba h
    obtain ⟨h2, h⟩ := He.ba h
    obtain ⟨h3, h4⟩ := He.ba h
    have e1 : c = "dict" := of_decide_eq_true h1
    have e2 : sl = #[] := Array.isEmpty_iff.mp h2
    subst e1 e2
    obtain ⟨i1, i2⟩ := intsB_ok h4
    refine ⟨⟨es, n, lk, i1, fun k => ?_⟩, by simpa using h3⟩
    have q := i2 k
    unfold findBy
    rw [← Array.find?_toList]
    exact q
  · cases h
def exB (K : PySem.W.Frag) : Bool := He.tupB K "ALIGNMENTS" [.str "none", .str "left", .str "center", .str "right"] && (He.tupB K "WHITE_SPACE" [.int 32, .int 9, .int 10, .int 13] && (tupA K (He.ga K "KINDS") (kindsT.map V.str) && (He.tupB K "STEPS" [.str "blocks", .str "inlines", .str "repeat", .str "when"] &&
  (kdiB K (He.ga K "SHORT_ESCAPES") escT && (tabB K (He.ga K "RULES") (rowR K) rulesT && (tabB K (He.ga K "SELECTORS") (rowS K) selectorsT && (tabB K (He.ga K "ACTIONS") (rowS K) actionsT &&
  (PySem.W.excInitIn K (He.ga K "Fault") CkF.exB "Exception.__new__" && (PySem.W.excOver K (He.ga K "Fault") CkF.exB && (PySem.W.hasDictIn K (He.ga K "Fault") &&
  (He.eqO (PySem.W.findIn K (.ref (He.ga K "Fault")) "__setattr__") (some (some (.builtin "object.__setattr__"))) && (He.eqO (PySem.W.findIn K (.ref (He.ga K "Fault")) "__getattribute__") (some (some (.builtin "BaseException.__getattribute__"))) &&
  (He.eqO (PySem.W.findIn K (.ref (He.ga K "Fault")) "__getattr__") (some none) && (He.eqO (PySem.W.findIn K (.ref (He.ga K "Fault")) "kind") (some none) && (He.eqO (PySem.W.findIn K (.ref (He.ga K "Fault")) "position") (some none) &&
  (He.eqO (PySem.W.findIn K (.ref (He.ga K "Fault")) "__init__") (some (some (.ref (He.ma K (He.ga K "Fault") "__init__")))) && (decide (PySem.W.typeIn K (.ref (He.ma K (He.ga K "Fault") "__init__")) = some (.type "function")) &&
  (decide (PySem.W.subIn K (.ref (He.ga K "Fault")) (.type "BaseException") = some true) && decide (PySem.W.typeIn K (.ref (He.ga K "Fault")) = some (.type "type"))))))))))))))))))))
end Ck
namespace Ck
open PySem PySem.Spec PyProof.Rows L2 RZ
open Kh450 (Node)
section
variable {P : Program} {w : World} {K : PySem.W.Frag} {mg : Str → Option Value} {h : Heap}
theorem cInt (X : K.In h) (G : h.Ns mainGlobals mg) {x : Str} {i : Int} (c : (He.Fa.int x i).ok K = true) : Cst mg x (.int i) := by
  obtain ⟨t, e⟩ := He.int_ok X G c
  exact ⟨_, e, t, rfl⟩
theorem cStr (X : K.In h) (G : h.Ns mainGlobals mg) {x z : Str} (c : (He.Fa.str x z).ok K = true) : Cst mg x (.str z) := by
  obtain ⟨t, e⟩ := He.str_ok X G c
  exact ⟨_, e, t, rfl⟩
theorem txt_of (X : K.In h) (G : h.Ns mainGlobals mg) (c : He.SaysT fa fn ts w K) (c2 : exB K = true) : Txt w K mg := by
  simp only [exB, Bool.and_eq_true] at c2
  obtain ⟨e1, e2, e3, e4, e5, e6, e7, e8, e9, e10, e11, e12, e13, e14, e15, e16, e17, e18, e19, e20⟩ := c2
  have fault : CkF.FaultTxt K mg (He.ga K "Fault") (He.ma K (He.ga K "Fault") "__init__") := by
    obtain ⟨fd, F⟩ := c.d.def_ 31 (d := d_Fault___init__) rfl
    obtain ⟨oc, od, dV, kV, doc, pm, an, cdv, ct, osl, rfl, lk, hcd, hD, hK⟩ := F.ex
    rcases hD with ⟨_, rfl⟩ | ⟨e, _⟩
    · exact { gC := (He.glo_ok X G (c.d.fact 33 (f := .glo "Fault") rfl)), qi := e9, ov := e10, hdC := e11, sa := He.eqO_ok e12, ga := He.eqO_ok e13, gg := He.eqO_ok e14, nk := He.eqO_ok e15, np := He.eqO_ok e16, iC := He.eqO_ok e17, tC := of_decide_eq_true e18, kC := He.keep_ok (c.d.fact 89 (f := .keep "Fault") rfl), exC := of_decide_eq_true e19, tyC := of_decide_eq_true e20,
              te := He.exm_ok (c.d.fact 90 (f := .exm "Fault" "Fault" true) rfl), fn := ⟨oc, od, kV, doc, pm, an, cdv, ct, osl, _, _, _, _, _, _, _, _, _, _, _, lk, hcd⟩ }
    · exact absurd rfl e
  exact {
    cSIGNS := cStr X G (c.d.fact 60 (f := .str "SIGNS" signsT) rfl)
    cMARK := cStr X G (c.d.fact 61 (f := .str "MARK" "~") rfl)
    cDIGITS := cStr X G (c.d.fact 62 (f := .str "DIGITS" "{|}^") rfl)
    cLABEL_SIGNS := cStr X G (c.d.fact 63 (f := .str "LABEL_SIGNS" labelT) rfl)
    cDEEPEST := cInt X G (c.d.fact 48 (f := .int "DEEPEST" 16) rfl)
    cLINE_FEED := cInt X G (c.d.fact 49 (f := .int "LINE_FEED" 10) rfl)
    cQUOTATION_MARK := cInt X G (c.d.fact 50 (f := .int "QUOTATION_MARK" 34) rfl)
    cOPENING := cInt X G (c.d.fact 51 (f := .int "OPENING" 40) rfl)
    cCLOSING := cInt X G (c.d.fact 52 (f := .int "CLOSING" 41) rfl)
    cHYPHEN := cInt X G (c.d.fact 53 (f := .int "HYPHEN" 45) rfl)
    cSEMICOLON := cInt X G (c.d.fact 54 (f := .int "SEMICOLON" 59) rfl)
    cBACKSLASH := cInt X G (c.d.fact 55 (f := .int "BACKSLASH" 92) rfl)
    cLETTER_U := cInt X G (c.d.fact 56 (f := .int "LETTER_U" 117) rfl)
    cOPENING_BRACE := cInt X G (c.d.fact 57 (f := .int "OPENING_BRACE" 123) rfl)
    cCLOSING_BRACE := cInt X G (c.d.fact 58 (f := .int "CLOSING_BRACE" 125) rfl)
    cMOST_REPEATS := cInt X G (c.d.fact 59 (f := .int "MOST_REPEATS" 50) rfl)
    gALIGNMENTS := (He.glo_ok X G (c.d.fact 34 (f := .glo "ALIGNMENTS") rfl))
    gWHITE_SPACE := (He.glo_ok X G (c.d.fact 35 (f := .glo "WHITE_SPACE") rfl))
    gKINDS := (He.glo_ok X G (c.d.fact 36 (f := .glo "KINDS") rfl))
    gSTEPS := (He.glo_ok X G (c.d.fact 37 (f := .glo "STEPS") rfl))
    gRULES := (He.glo_ok X G (c.d.fact 38 (f := .glo "RULES") rfl))
    gSELECTORS := (He.glo_ok X G (c.d.fact 39 (f := .glo "SELECTORS") rfl))
    gACTIONS := (He.glo_ok X G (c.d.fact 40 (f := .glo "ACTIONS") rfl))
    gSHORT_ESCAPES := (He.glo_ok X G (c.d.fact 41 (f := .glo "SHORT_ESCAPES") rfl))
    tALIGNMENTS := fun H => He.tupB_ok e1 H
    tWHITE_SPACE := fun H => He.tupB_ok e2 H
    tKINDS := fun H => tupA_ok e3 H
    tSTEPS := fun H => He.tupB_ok e4 H
    kRULES := c.tab 0 (t := (fun K => He.ga K "RULES", rulesT.map Prod.fst)) rfl
    kSELECTORS := c.tab 1 (t := (fun K => He.ga K "SELECTORS", selectorsT.map Prod.fst)) rfl
    kACTIONS := c.tab 2 (t := (fun K => He.ga K "ACTIONS", actionsT.map Prod.fst)) rfl
    dSHORT_ESCAPES := kdiB_ok e5
    vRULES := tabB_ok e6 fun _ _ => rowR_ok
    vSELECTORS := tabB_ok e7 fun _ _ => rowS_ok
    vACTIONS := tabB_ok e8 fun _ _ => rowS_ok
    nlen := He.free_ok X G (c.d.fact 42 (f := .free "len") rfl)
    nisinstance := He.free_ok X G (c.d.fact 43 (f := .free "isinstance") rfl)
    nstr := He.free_ok X G (c.d.fact 44 (f := .free "str") rfl)
    nmax := He.free_ok X G (c.d.fact 45 (f := .free "max") rfl)
    nzip := He.free_ok X G (c.d.fact 46 (f := .free "zip") rfl)
    ntuple := He.free_ok X G (c.d.fact 47 (f := .free "tuple") rfl)
    fault := fault
    clE := He.cls_ok (c.d.fact 64 (f := .cls "Expression") rfl)
    clR := He.cls_ok (c.d.fact 66 (f := .cls "Reader") rfl)
    nE := fun f hf => by
      simp only [List.mem_cons, List.not_mem_nil, or_false] at hf
      rcases hf with rfl | rfl | rfl | rfl | rfl | rfl | rfl | rfl | rfl | rfl
      · exact He.noat_ok (c.d.fact 68 (f := .noat "Expression" "shape") rfl)
      · exact He.noat_ok (c.d.fact 69 (f := .noat "Expression" "place") rfl)
      · exact He.noat_ok (c.d.fact 70 (f := .noat "Expression" "text") rfl)
      · exact He.noat_ok (c.d.fact 71 (f := .noat "Expression" "number") rfl)
      · exact He.noat_ok (c.d.fact 72 (f := .noat "Expression" "parts") rfl)
      · exact He.noat_ok (c.d.fact 73 (f := .noat "Expression" "head") rfl)
      · exact He.noat_ok (c.d.fact 74 (f := .noat "Expression" "depth") rfl)
      · exact He.noat_ok (c.d.fact 75 (f := .noat "Expression" "role") rfl)
      · exact He.noat_ok (c.d.fact 76 (f := .noat "Expression" "normal") rfl)
      · exact He.noat_ok (c.d.fact 77 (f := .noat "Expression" "size") rfl)
    nR := fun f hf => by
      simp only [List.mem_cons, List.not_mem_nil, or_false] at hf
      rcases hf with rfl | rfl
      · exact He.noat_ok (c.d.fact 78 (f := .noat "Reader" "data") rfl)
      · exact He.noat_ok (c.d.fact 79 (f := .noat "Reader" "at") rfl) }
theorem mkKept {CX : CXT} {base : Heap} {k : Nat} {x : Str} {ps : List Str} {sp : Sp} {qual : Str} {pr : Arguments} {bd : List Stmt} {sco : Scope} {dv : List V} {fd : FuncData} (F : FunD K x qual pr bd sco dv [] (He.ga K x) fd) (o : FnOk P w K mg base CX k (He.ga K x) fd ps sp) (b : Binds K fd ps []) (g : mg x = some (.ref (He.ga K x))) : Kept P w K mg base CX k x ps sp := ⟨⟨fd, o, b⟩, g, F.kp⟩
def okS : Nat → Node → Prop
  | 0, _ => False
  | f + 1, n => ∀ c ∈ (kids n).drop 1, okS f c
def selE : Nat → Node → Err
  | 0, _ => none
  | f + 1, n => selErrF (selE f) n
def okT : Nat → Node → Prop
  | 0, _ => False
  | f + 1, n => (∀ c, (kids n)[1]? = some c → okS 17 c) ∧ ∀ c ∈ (kids n).drop 2, okT f c
def stpE : Nat → Node → Err
  | 0, _ => none
  | f + 1, n => stepErrF (selE 17) (stpE f) n
theorem all_mk {f : Addr} (X : K.In h) (G : h.Ns mainGlobals mg) (hfa : mg "check" = some (.ref f)) (c : He.SaysT fa fn ts w K) (c2 : exB K = true) :
    ∃ fd : FuncData, (∀ (s : Shared) (us : List Value), us.length = (["program"] : List Str).length → BindsTo s fd ⟨us, []⟩ ((["program"] : List Str).zip us)) ∧ ∀ base : Heap, K.In base → base.Ns mainGlobals mg → FnOk P w K mg base CX0 76 f fd ["program"] (spCheck K (okT 17) (stpE 17)) := by
  have T := txt_of X G c c2
  obtain ⟨fd_sign_of, F_sign_of⟩ := c.d.def_ 0 (d := d_sign_of) rfl
  have b_sign_of : Binds K fd_sign_of ["byte"] [] := FunD.bindsN (ps := ["byte"]) F_sign_of fun _ _ _ _ _ _ us hl => match us, hl with | [_], _ => rfl
  obtain ⟨fd_text_of, F_text_of⟩ := c.d.def_ 1 (d := d_text_of) rfl
  have b_text_of : Binds K fd_text_of ["data"] [] := FunD.bindsN (ps := ["data"]) F_text_of fun _ _ _ _ _ _ us hl => match us, hl with | [_], _ => rfl
  obtain ⟨fd_bytes_of_code_point, F_bytes_of_code_point⟩ := c.d.def_ 2 (d := d_bytes_of_code_point) rfl
  have b_bytes_of_code_point : Binds K fd_bytes_of_code_point ["code"] [] := FunD.bindsN (ps := ["code"]) F_bytes_of_code_point fun _ _ _ _ _ _ us hl => match us, hl with | [_], _ => rfl
  obtain ⟨fd_is_label, F_is_label⟩ := c.d.def_ 3 (d := d_is_label) rfl
  have b_is_label : Binds K fd_is_label ["text"] [] := FunD.bindsN (ps := ["text"]) F_is_label fun _ _ _ _ _ _ us hl => match us, hl with | [_], _ => rfl
  obtain ⟨fd_Expression___init__, F_Expression___init__⟩ := c.d.def_ 32 (d := d_Expression___init__) rfl
  have b_Expression___init__ : Binds K fd_Expression___init__ ["self", "shape", "place"] [] := FunD.bindsN (ps := ["self", "shape", "place"]) F_Expression___init__ fun _ _ _ _ _ _ us hl => match us, hl with | [_, _, _], _ => rfl
  obtain ⟨fd_make_string, F_make_string⟩ := c.d.def_ 4 (d := d_make_string) rfl
  have b_make_string : Binds K fd_make_string ["text", "place"] [] := by
    obtain ⟨ds, hv, hb⟩ := FunD.binds1 (ps := ["text", "place"]) F_make_string 2 1 (by intro e; cases e) rfl fun T kV doc pm an cdv ct us its h1 h2 => match us, h1, its, h2 with | [_, _], _, [_], _ => ⟨_, rfl, rfl⟩
    cases hv
    exact hb
  obtain ⟨fd_make_integer, F_make_integer⟩ := c.d.def_ 5 (d := d_make_integer) rfl
  have b_make_integer : Binds K fd_make_integer ["number", "place"] [] := by
    obtain ⟨ds, hv, hb⟩ := FunD.binds1 (ps := ["number", "place"]) F_make_integer 2 1 (by intro e; cases e) rfl fun T kV doc pm an cdv ct us its h1 h2 => match us, h1, its, h2 with | [_, _], _, [_], _ => ⟨_, rfl, rfl⟩
    cases hv
    exact hb
  obtain ⟨fd_make_symbol, F_make_symbol⟩ := c.d.def_ 6 (d := d_make_symbol) rfl
  have b_make_symbol : Binds K fd_make_symbol ["name", "place"] [] := by
    obtain ⟨ds, hv, hb⟩ := FunD.binds1 (ps := ["name", "place"]) F_make_symbol 2 1 (by intro e; cases e) rfl fun T kV doc pm an cdv ct us its h1 h2 => match us, h1, its, h2 with | [_, _], _, [_], _ => ⟨_, rfl, rfl⟩
    cases hv
    exact hb
  obtain ⟨fd_make_list, F_make_list⟩ := c.d.def_ 7 (d := d_make_list) rfl
  have b_make_list : Binds K fd_make_list ["parts", "place"] [] := by
    obtain ⟨ds, hv, hb⟩ := FunD.binds1 (ps := ["parts", "place"]) F_make_list 2 1 (by intro e; cases e) rfl fun T kV doc pm an cdv ct us its h1 h2 => match us, h1, its, h2 with | [_, _], _, [_], _ => ⟨_, rfl, rfl⟩
    cases hv
    exact hb
  obtain ⟨fd_rule_of, F_rule_of⟩ := c.d.def_ 8 (d := d_rule_of) rfl
  have b_rule_of : Binds K fd_rule_of ["expression"] [] := FunD.bindsN (ps := ["expression"]) F_rule_of fun _ _ _ _ _ _ us hl => match us, hl with | [_], _ => rfl
  obtain ⟨fd_role_of_list, F_role_of_list⟩ := c.d.def_ 9 (d := d_role_of_list) rfl
  have b_role_of_list : Binds K fd_role_of_list ["expression"] [] := FunD.bindsN (ps := ["expression"]) F_role_of_list fun _ _ _ _ _ _ us hl => match us, hl with | [_], _ => rfl
  obtain ⟨fd_has_form, F_has_form⟩ := c.d.def_ 10 (d := d_has_form) rfl
  have b_has_form : Binds K fd_has_form ["expression", "form"] [] := FunD.bindsN (ps := ["expression", "form"]) F_has_form fun _ _ _ _ _ _ us hl => match us, hl with | [_, _], _ => rfl
  obtain ⟨fd_has_even_rows, F_has_even_rows⟩ := c.d.def_ 11 (d := d_has_even_rows) rfl
  have b_has_even_rows : Binds K fd_has_even_rows ["table"] [] := FunD.bindsN (ps := ["table"]) F_has_even_rows fun _ _ _ _ _ _ us hl => match us, hl with | [_], _ => rfl
  obtain ⟨fd_read_expressions, F_read_expressions⟩ := c.d.def_ 12 (d := d_read_expressions) rfl
  have b_read_expressions : Binds K fd_read_expressions ["data"] [] := FunD.bindsN (ps := ["data"]) F_read_expressions fun _ _ _ _ _ _ us hl => match us, hl with | [_], _ => rfl
  obtain ⟨fd_Reader___init__, F_Reader___init__⟩ := c.d.def_ 33 (d := d_Reader___init__) rfl
  have b_Reader___init__ : Binds K fd_Reader___init__ ["self", "data"] [] := FunD.bindsN (ps := ["self", "data"]) F_Reader___init__ fun _ _ _ _ _ _ us hl => match us, hl with | [_, _], _ => rfl
  obtain ⟨fd_Reader_skip_white_space, F_Reader_skip_white_space⟩ := c.d.def_ 34 (d := d_Reader_skip_white_space) rfl
  have b_Reader_skip_white_space : Binds K fd_Reader_skip_white_space ["self"] [] := FunD.bindsN (ps := ["self"]) F_Reader_skip_white_space fun _ _ _ _ _ _ us hl => match us, hl with | [_], _ => rfl
  obtain ⟨fd_Reader_skip_comment, F_Reader_skip_comment⟩ := c.d.def_ 35 (d := d_Reader_skip_comment) rfl
  have b_Reader_skip_comment : Binds K fd_Reader_skip_comment ["self"] [] := FunD.bindsN (ps := ["self"]) F_Reader_skip_comment fun _ _ _ _ _ _ us hl => match us, hl with | [_], _ => rfl
  obtain ⟨fd_Reader_read_simple, F_Reader_read_simple⟩ := c.d.def_ 36 (d := d_Reader_read_simple) rfl
  have b_Reader_read_simple : Binds K fd_Reader_read_simple ["self"] [] := FunD.bindsN (ps := ["self"]) F_Reader_read_simple fun _ _ _ _ _ _ us hl => match us, hl with | [_], _ => rfl
  obtain ⟨fd_Reader_read_integer, F_Reader_read_integer⟩ := c.d.def_ 37 (d := d_Reader_read_integer) rfl
  have b_Reader_read_integer : Binds K fd_Reader_read_integer ["self"] [] := FunD.bindsN (ps := ["self"]) F_Reader_read_integer fun _ _ _ _ _ _ us hl => match us, hl with | [_], _ => rfl
  obtain ⟨fd_Reader_read_symbol, F_Reader_read_symbol⟩ := c.d.def_ 38 (d := d_Reader_read_symbol) rfl
  have b_Reader_read_symbol : Binds K fd_Reader_read_symbol ["self"] [] := FunD.bindsN (ps := ["self"]) F_Reader_read_symbol fun _ _ _ _ _ _ us hl => match us, hl with | [_], _ => rfl
  obtain ⟨fd_Reader_read_string, F_Reader_read_string⟩ := c.d.def_ 39 (d := d_Reader_read_string) rfl
  have b_Reader_read_string : Binds K fd_Reader_read_string ["self"] [] := FunD.bindsN (ps := ["self"]) F_Reader_read_string fun _ _ _ _ _ _ us hl => match us, hl with | [_], _ => rfl
  obtain ⟨fd_Reader_read_character, F_Reader_read_character⟩ := c.d.def_ 40 (d := d_Reader_read_character) rfl
  have b_Reader_read_character : Binds K fd_Reader_read_character ["self"] [] := FunD.bindsN (ps := ["self"]) F_Reader_read_character fun _ _ _ _ _ _ us hl => match us, hl with | [_], _ => rfl
  obtain ⟨fd_Reader_read_escape, F_Reader_read_escape⟩ := c.d.def_ 41 (d := d_Reader_read_escape) rfl
  have b_Reader_read_escape : Binds K fd_Reader_read_escape ["self"] [] := FunD.bindsN (ps := ["self"]) F_Reader_read_escape fun _ _ _ _ _ _ us hl => match us, hl with | [_], _ => rfl
  obtain ⟨fd_Reader_read_code_point, F_Reader_read_code_point⟩ := c.d.def_ 42 (d := d_Reader_read_code_point) rfl
  have b_Reader_read_code_point : Binds K fd_Reader_read_code_point ["self"] [] := FunD.bindsN (ps := ["self"]) F_Reader_read_code_point fun _ _ _ _ _ _ us hl => match us, hl with | [_], _ => rfl
  obtain ⟨fd_is_digit, F_is_digit⟩ := c.d.def_ 13 (d := d_is_digit) rfl
  have b_is_digit : Binds K fd_is_digit ["byte"] [] := FunD.bindsN (ps := ["byte"]) F_is_digit fun _ _ _ _ _ _ us hl => match us, hl with | [_], _ => rfl
  obtain ⟨fd_is_letter, F_is_letter⟩ := c.d.def_ 14 (d := d_is_letter) rfl
  have b_is_letter : Binds K fd_is_letter ["byte"] [] := FunD.bindsN (ps := ["byte"]) F_is_letter fun _ _ _ _ _ _ us hl => match us, hl with | [_], _ => rfl
  obtain ⟨fd_is_symbol_sign, F_is_symbol_sign⟩ := c.d.def_ 15 (d := d_is_symbol_sign) rfl
  have b_is_symbol_sign : Binds K fd_is_symbol_sign ["byte"] [] := FunD.bindsN (ps := ["byte"]) F_is_symbol_sign fun _ _ _ _ _ _ us hl => match us, hl with | [_], _ => rfl
  obtain ⟨fd_hexadecimal_value, F_hexadecimal_value⟩ := c.d.def_ 16 (d := d_hexadecimal_value) rfl
  have b_hexadecimal_value : Binds K fd_hexadecimal_value ["byte"] [] := FunD.bindsN (ps := ["byte"]) F_hexadecimal_value fun _ _ _ _ _ _ us hl => match us, hl with | [_], _ => rfl
  obtain ⟨fd_sequence_length, F_sequence_length⟩ := c.d.def_ 17 (d := d_sequence_length) rfl
  have b_sequence_length : Binds K fd_sequence_length ["data", "at"] [] := FunD.bindsN (ps := ["data", "at"]) F_sequence_length fun _ _ _ _ _ _ us hl => match us, hl with | [_, _], _ => rfl
  obtain ⟨fd_length_from_first, F_length_from_first⟩ := c.d.def_ 18 (d := d_length_from_first) rfl
  have b_length_from_first : Binds K fd_length_from_first ["byte"] [] := FunD.bindsN (ps := ["byte"]) F_length_from_first fun _ _ _ _ _ _ us hl => match us, hl with | [_], _ => rfl
  obtain ⟨fd_second_byte_fits, F_second_byte_fits⟩ := c.d.def_ 19 (d := d_second_byte_fits) rfl
  have b_second_byte_fits : Binds K fd_second_byte_fits ["first", "second"] [] := FunD.bindsN (ps := ["first", "second"]) F_second_byte_fits fun _ _ _ _ _ _ us hl => match us, hl with | [_, _], _ => rfl
  obtain ⟨fd_read_program, F_read_program⟩ := c.d.def_ 20 (d := d_read_program) rfl
  have b_read_program : Binds K fd_read_program ["data"] [] := FunD.bindsN (ps := ["data"]) F_read_program fun _ _ _ _ _ _ us hl => match us, hl with | [_], _ => rfl
  obtain ⟨fd_check_steps, F_check_steps⟩ := c.d.def_ 21 (d := d_check_steps) rfl
  have b_check_steps : Binds K fd_check_steps ["steps"] [] := FunD.bindsN (ps := ["steps"]) F_check_steps fun _ _ _ _ _ _ us hl => match us, hl with | [_], _ => rfl
  obtain ⟨fd_check_step, F_check_step⟩ := c.d.def_ 22 (d := d_check_step) rfl
  have b_check_step : Binds K fd_check_step ["step"] [] := FunD.bindsN (ps := ["step"]) F_check_step fun _ _ _ _ _ _ us hl => match us, hl with | [_], _ => rfl
  obtain ⟨fd_check_repeats, F_check_repeats⟩ := c.d.def_ 23 (d := d_check_repeats) rfl
  have b_check_repeats : Binds K fd_check_repeats ["argument"] [] := FunD.bindsN (ps := ["argument"]) F_check_repeats fun _ _ _ _ _ _ us hl => match us, hl with | [_], _ => rfl
  obtain ⟨fd_check_selector, F_check_selector⟩ := c.d.def_ 24 (d := d_check_selector) rfl
  have b_check_selector : Binds K fd_check_selector ["selector"] [] := FunD.bindsN (ps := ["selector"]) F_check_selector fun _ _ _ _ _ _ us hl => match us, hl with | [_], _ => rfl
  obtain ⟨fd_check_action, F_check_action⟩ := c.d.def_ 25 (d := d_check_action) rfl
  have b_check_action : Binds K fd_check_action ["action"] [] := FunD.bindsN (ps := ["action"]) F_check_action fun _ _ _ _ _ _ us hl => match us, hl with | [_], _ => rfl
  obtain ⟨fd_check_arguments, F_check_arguments⟩ := c.d.def_ 26 (d := d_check_arguments) rfl
  have b_check_arguments : Binds K fd_check_arguments ["expression", "forms"] [] := FunD.bindsN (ps := ["expression", "forms"]) F_check_arguments fun _ _ _ _ _ _ us hl => match us, hl with | [_, _], _ => rfl
  obtain ⟨fd_check_kind, F_check_kind⟩ := c.d.def_ 27 (d := d_check_kind) rfl
  have b_check_kind : Binds K fd_check_kind ["expression", "argument"] [] := FunD.bindsN (ps := ["expression", "argument"]) F_check_kind fun _ _ _ _ _ _ us hl => match us, hl with | [_, _], _ => rfl
  obtain ⟨fd_check_shape, F_check_shape⟩ := c.d.def_ 28 (d := d_check_shape) rfl
  have b_check_shape : Binds K fd_check_shape ["argument", "shape"] [] := FunD.bindsN (ps := ["argument", "shape"]) F_check_shape fun _ _ _ _ _ _ us hl => match us, hl with | [_, _], _ => rfl
  obtain ⟨fd_check_range, F_check_range⟩ := c.d.def_ 29 (d := d_check_range) rfl
  have b_check_range : Binds K fd_check_range ["argument", "form"] [] := FunD.bindsN (ps := ["argument", "form"]) F_check_range fun _ _ _ _ _ _ us hl => match us, hl with | [_, _], _ => rfl
  obtain ⟨fd_check, F_check⟩ := c.d.def_ 30 (d := d_check) rfl
  have b_check : Binds K fd_check ["program"] [] := FunD.bindsN (ps := ["program"]) F_check fun _ _ _ _ _ _ us hl => match us, hl with | [_], _ => rfl
  have e := hfa.symm.trans (He.glo_ok X G (c.d.fact 30 (f := .glo "check") rfl))
  cases e
  refine ⟨fd_check, FunD.bindsA (ps := ["program"]) F_check fun _ _ _ _ _ _ us hl => match us, hl with | [_], _ => rfl, fun base _ _ => ?_⟩
  have c_is_digit := mkKept (P := P) (w := w) (base := base) F_is_digit (ok_is_digit F_is_digit) b_is_digit (He.glo_ok X G (c.d.fact 13 (f := .glo "is_digit") rfl))
  have c_is_letter := mkKept (P := P) (w := w) (base := base) F_is_letter (ok_is_letter F_is_letter) b_is_letter (He.glo_ok X G (c.d.fact 14 (f := .glo "is_letter") rfl))
  have c_is_symbol_sign := mkKept (P := P) (w := w) (base := base) F_is_symbol_sign (ok_is_symbol_sign T c_is_letter c_is_digit F_is_symbol_sign) b_is_symbol_sign (He.glo_ok X G (c.d.fact 15 (f := .glo "is_symbol_sign") rfl))
  have c_hexadecimal_value := mkKept (P := P) (w := w) (base := base) F_hexadecimal_value (ok_hexadecimal_value c_is_digit F_hexadecimal_value) b_hexadecimal_value (He.glo_ok X G (c.d.fact 16 (f := .glo "hexadecimal_value") rfl))
  have c_length_from_first := mkKept (P := P) (w := w) (base := base) F_length_from_first (ok_length_from_first F_length_from_first) b_length_from_first (He.glo_ok X G (c.d.fact 18 (f := .glo "length_from_first") rfl))
  have c_second_byte_fits := mkKept (P := P) (w := w) (base := base) F_second_byte_fits (ok_second_byte_fits F_second_byte_fits) b_second_byte_fits (He.glo_ok X G (c.d.fact 19 (f := .glo "second_byte_fits") rfl))
  have c_sequence_length := mkKept (P := P) (w := w) (base := base) F_sequence_length (ok_sequence_length T c_length_from_first c_second_byte_fits F_sequence_length) b_sequence_length (He.glo_ok X G (c.d.fact 17 (f := .glo "sequence_length") rfl))
  have c_sign_of := mkKept (P := P) (w := w) (base := base) F_sign_of (ok_sign_of T F_sign_of) b_sign_of (He.glo_ok X G (c.d.fact 0 (f := .glo "sign_of") rfl))
  have c_text_of := mkKept (P := P) (w := w) (base := base) F_text_of (ok_text_of c_sign_of F_text_of) b_text_of (He.glo_ok X G (c.d.fact 1 (f := .glo "text_of") rfl))
  have c_bytes_of_code_point := mkKept (P := P) (w := w) (base := base) F_bytes_of_code_point (ok_bytes_of_code_point F_bytes_of_code_point) b_bytes_of_code_point (He.glo_ok X G (c.d.fact 2 (f := .glo "bytes_of_code_point") rfl))
  have c_is_label := mkKept (P := P) (w := w) (base := base) F_is_label (ok_is_label T F_is_label) b_is_label (He.glo_ok X G (c.d.fact 3 (f := .glo "is_label") rfl))
  have c_has_form := mkKept (P := P) (w := w) (base := base) F_has_form (ok_has_form T c_is_label F_has_form) b_has_form (He.glo_ok X G (c.d.fact 10 (f := .glo "has_form") rfl))
  have c_rule_of := mkKept (P := P) (w := w) (base := base) F_rule_of (ok_rule_of T F_rule_of) b_rule_of (He.glo_ok X G (c.d.fact 8 (f := .glo "rule_of") rfl))
  have c_has_even_rows := mkKept (P := P) (w := w) (base := base) F_has_even_rows (ok_has_even_rows T F_has_even_rows) b_has_even_rows (He.glo_ok X G (c.d.fact 11 (f := .glo "has_even_rows") rfl))
  have c_role_of_list := mkKept (P := P) (w := w) (base := base) F_role_of_list (ok_role_of_list T c_rule_of c_has_form c_has_even_rows F_role_of_list) b_role_of_list (He.glo_ok X G (c.d.fact 9 (f := .glo "role_of_list") rfl))
  have c_Expression : KeptC P w K mg base CX0 1 "Expression" ["self", "shape", "place"] (spInitE (He.ga K "Expression")) := ⟨⟨fd_Expression___init__, ok_initE T F_Expression___init__, b_Expression___init__⟩, (He.glo_ok X G (c.d.fact 31 (f := .glo "Expression") rfl)), He.mkr_ok (c.d.fact 65 (f := .mkr "Expression") rfl)⟩
  have c_make_string := mkKept (P := P) (w := w) (base := base) F_make_string (ok_make_string T c_Expression F_make_string) b_make_string (He.glo_ok X G (c.d.fact 4 (f := .glo "make_string") rfl))
  have c_make_integer := mkKept (P := P) (w := w) (base := base) F_make_integer (ok_make_integer T c_Expression F_make_integer) b_make_integer (He.glo_ok X G (c.d.fact 5 (f := .glo "make_integer") rfl))
  have c_make_symbol := mkKept (P := P) (w := w) (base := base) F_make_symbol (ok_make_symbol T c_Expression F_make_symbol) b_make_symbol (He.glo_ok X G (c.d.fact 6 (f := .glo "make_symbol") rfl))
  have c_make_list := mkKept (P := P) (w := w) (base := base) F_make_list (ok_make_list T c_Expression c_role_of_list F_make_list) b_make_list (He.glo_ok X G (c.d.fact 7 (f := .glo "make_list") rfl))
  have c_Reader : KeptC P w K mg base CX0 1 "Reader" ["self", "data"] (spInitR K) := ⟨⟨fd_Reader___init__, ok_initR T F_Reader___init__, b_Reader___init__⟩, (He.glo_ok X G (c.d.fact 32 (f := .glo "Reader") rfl)), He.mkr_ok (c.d.fact 67 (f := .mkr "Reader") rfl)⟩
  have c_Reader_skip_comment : KeptM P w K mg base _ _ "Reader" "skip_comment" ["self"] _ := ⟨⟨fd_Reader_skip_comment, ok_skip_comment T F_Reader_skip_comment, b_Reader_skip_comment⟩, T.clR, He.meth_ok (c.d.fact 81 (f := .meth "Reader" "skip_comment") rfl)⟩
  have c_Reader_skip_white_space : KeptM P w K mg base _ _ "Reader" "skip_white_space" ["self"] _ := ⟨⟨fd_Reader_skip_white_space, ok_skip_white_space T c_Reader_skip_comment F_Reader_skip_white_space, b_Reader_skip_white_space⟩, T.clR, He.meth_ok (c.d.fact 80 (f := .meth "Reader" "skip_white_space") rfl)⟩
  have c_Reader_read_integer : KeptM P w K mg base _ _ "Reader" "read_integer" ["self"] _ := ⟨⟨fd_Reader_read_integer, ok_read_integer T c_is_digit c_make_integer F_Reader_read_integer, b_Reader_read_integer⟩, T.clR, He.meth_ok (c.d.fact 83 (f := .meth "Reader" "read_integer") rfl)⟩
  have c_Reader_read_symbol : KeptM P w K mg base _ _ "Reader" "read_symbol" ["self"] _ := ⟨⟨fd_Reader_read_symbol, ok_read_symbol T c_is_symbol_sign c_text_of c_make_symbol F_Reader_read_symbol, b_Reader_read_symbol⟩, T.clR, He.meth_ok (c.d.fact 84 (f := .meth "Reader" "read_symbol") rfl)⟩
  have c_Reader_read_code_point : KeptM P w K mg base _ _ "Reader" "read_code_point" ["self"] _ := ⟨⟨fd_Reader_read_code_point, ok_read_code_point T c_hexadecimal_value c_bytes_of_code_point c_text_of F_Reader_read_code_point, b_Reader_read_code_point⟩, T.clR, He.meth_ok (c.d.fact 88 (f := .meth "Reader" "read_code_point") rfl)⟩
  have c_Reader_read_escape : KeptM P w K mg base _ _ "Reader" "read_escape" ["self"] _ := ⟨⟨fd_Reader_read_escape, ok_read_escape T c_Reader_read_code_point c_sign_of F_Reader_read_escape, b_Reader_read_escape⟩, T.clR, He.meth_ok (c.d.fact 87 (f := .meth "Reader" "read_escape") rfl)⟩
  have c_Reader_read_character : KeptM P w K mg base _ _ "Reader" "read_character" ["self"] _ := ⟨⟨fd_Reader_read_character, ok_read_character T c_Reader_read_escape c_sign_of c_sequence_length c_text_of F_Reader_read_character, b_Reader_read_character⟩, T.clR, He.meth_ok (c.d.fact 86 (f := .meth "Reader" "read_character") rfl)⟩
  have c_Reader_read_string : KeptM P w K mg base _ _ "Reader" "read_string" ["self"] _ := ⟨⟨fd_Reader_read_string, ok_read_string T c_Reader_read_character c_make_string F_Reader_read_string, b_Reader_read_string⟩, T.clR, He.meth_ok (c.d.fact 85 (f := .meth "Reader" "read_string") rfl)⟩
  have c_Reader_read_simple : KeptM P w K mg base _ _ "Reader" "read_simple" ["self"] _ := ⟨⟨fd_Reader_read_simple, ok_read_simple T c_is_digit c_is_letter c_Reader_read_string c_Reader_read_integer c_Reader_read_symbol F_Reader_read_simple, b_Reader_read_simple⟩, T.clR, He.meth_ok (c.d.fact 82 (f := .meth "Reader" "read_simple") rfl)⟩
  have c_read_expressions := mkKept (P := P) (w := w) (base := base) F_read_expressions (ok_read_expressions T c_Reader c_Reader_skip_white_space c_make_list c_Reader_read_simple F_read_expressions) b_read_expressions (He.glo_ok X G (c.d.fact 12 (f := .glo "read_expressions") rfl))
  have c_check_shape := mkKept (P := P) (w := w) (base := base) F_check_shape (ok_check_shape T F_check_shape) b_check_shape (He.glo_ok X G (c.d.fact 28 (f := .glo "check_shape") rfl))
  have c_check_range := mkKept (P := P) (w := w) (base := base) F_check_range (ok_check_range T c_has_form F_check_range) b_check_range (He.glo_ok X G (c.d.fact 29 (f := .glo "check_range") rfl))
  have c_check_kind := mkKept (P := P) (w := w) (base := base) F_check_kind (ok_check_kind T F_check_kind) b_check_kind (He.glo_ok X G (c.d.fact 27 (f := .glo "check_kind") rfl))
  have c_check_repeats := mkKept (P := P) (w := w) (base := base) F_check_repeats (ok_check_repeats T c_check_shape F_check_repeats) b_check_repeats (He.glo_ok X G (c.d.fact 23 (f := .glo "check_repeats") rfl))
  have sels : ∀ g, Kept P w K mg base (L2.CX P w) (3 + 2 * g) "check_selector" ["selector"] (spOne K (okS g) (selE g)) := by
    intro g
    induction g with
    | zero => exact mkKept F_check_selector (F_check_selector.ok sc_check_selector (fun vs H Q E h => by obtain ⟨a, n, _, _, z, _⟩ := h; exact z.elim) (fun cdv A outer s H vs Q E hr h => by obtain ⟨a, n, _, _, z, _⟩ := h; exact z.elim)) b_check_selector (He.glo_ok X G (c.d.fact 24 (f := .glo "check_selector") rfl))
    | succ g ih => exact mkKept F_check_selector (ok_check_selector T ih (mkKept F_check_arguments (ok_check_arguments T (by omega) ih c_check_kind c_check_shape c_check_range F_check_arguments) b_check_arguments (He.glo_ok X G (c.d.fact 26 (f := .glo "check_arguments") rfl))) F_check_selector) b_check_selector (He.glo_ok X G (c.d.fact 24 (f := .glo "check_selector") rfl))
  have c_arg0 := mkKept (P := P) (w := w) (base := base) F_check_arguments (ok_check_arguments T (Nat.le_refl 3) (ok := fun _ => False) (sel := fun _ => none) (sels 0) c_check_kind c_check_shape c_check_range F_check_arguments) b_check_arguments (He.glo_ok X G (c.d.fact 26 (f := .glo "check_arguments") rfl))
  have c_check_action := mkKept (P := P) (w := w) (base := base) F_check_action (ok_check_action T c_arg0 F_check_action) b_check_action (He.glo_ok X G (c.d.fact 25 (f := .glo "check_action") rfl))
  have stps : ∀ g, Kept P w K mg base (L2.CX P w) (2 * g + 39) "check_step" ["step"] (spOne K (okT g) (stpE g)) := by
    intro g
    induction g with
    | zero => exact mkKept F_check_step (F_check_step.ok sc_check_step (fun vs H Q E h => by obtain ⟨a, n, _, _, z, _⟩ := h; exact z.elim) (fun cdv A outer s H vs Q E hr h => by obtain ⟨a, n, _, _, z, _⟩ := h; exact z.elim)) b_check_step (He.glo_ok X G (c.d.fact 22 (f := .glo "check_step") rfl))
    | succ g ih => exact mkKept F_check_step (ok_check_step T (ks := 37) (kk := 2 * g + 40) (by omega) (Nat.le_refl _) (by omega) c_check_repeats (sels 17) c_check_action (mkKept F_check_steps (ok_check_stepsT T ih F_check_steps) b_check_steps (He.glo_ok X G (c.d.fact 21 (f := .glo "check_steps") rfl))) F_check_step) b_check_step (He.glo_ok X G (c.d.fact 22 (f := .glo "check_step") rfl))
  have c_check_steps := mkKept (P := P) (w := w) (base := base) F_check_steps (ok_check_stepsL T (stps 17) F_check_steps) b_check_steps (He.glo_ok X G (c.d.fact 21 (f := .glo "check_steps") rfl))
  have c_read_program := mkKept (P := P) (w := w) (base := base) F_read_program (ok_read_program T (kk := 74) (kL := 74) (by omega) (by omega) c_read_expressions c_check_steps F_read_program) b_read_program (He.glo_ok X G (c.d.fact 20 (f := .glo "read_program") rfl))
  exact ok_check T c_read_program F_check
end
end Ck
namespace Ck
open PySem PySem.Spec PyProof.Rows L2 RZ
open Kh450 (Node codesOf)
theorem c_any : Kh450.codesOf "any" = [97, 110, 121] := by decide +kernel
theorem c_empty : Kh450.codesOf "empty" = [101, 109, 112, 116, 121] := by decide +kernel
theorem c_first : Kh450.codesOf "first" = [102, 105, 114, 115, 116] := by decide +kernel
theorem c_last : Kh450.codesOf "last" = [108, 97, 115, 116] := by decide +kernel
theorem c_kind : Kh450.codesOf "kind" = [107, 105, 110, 100] := by decide +kernel
theorem c_level : Kh450.codesOf "level" = [108, 101, 118, 101, 108] := by decide +kernel
theorem c_index : Kh450.codesOf "index" = [105, 110, 100, 101, 120] := by decide +kernel
theorem c_label : Kh450.codesOf "label" = [108, 97, 98, 101, 108] := by decide +kernel
theorem c_class : Kh450.codesOf "class" = [99, 108, 97, 115, 115] := by decide +kernel
theorem c_target : Kh450.codesOf "target" = [116, 97, 114, 103, 101, 116] := by decide +kernel
theorem c_text : Kh450.codesOf "text" = [116, 101, 120, 116] := by decide +kernel
theorem c_and : Kh450.codesOf "and" = [97, 110, 100] := by decide +kernel
theorem c_or : Kh450.codesOf "or" = [111, 114] := by decide +kernel
theorem c_not : Kh450.codesOf "not" = [110, 111, 116] := by decide +kernel
theorem c_parent : Kh450.codesOf "parent" = [112, 97, 114, 101, 110, 116] := by decide +kernel
theorem c_ancestor : Kh450.codesOf "ancestor" = [97, 110, 99, 101, 115, 116, 111, 114] := by decide +kernel
theorem c_child : Kh450.codesOf "child" = [99, 104, 105, 108, 100] := by decide +kernel
theorem c_descendant : Kh450.codesOf "descendant" = [100, 101, 115, 99, 101, 110, 100, 97, 110, 116] := by decide +kernel
theorem c_next : Kh450.codesOf "next" = [110, 101, 120, 116] := by decide +kernel
theorem c_previous : Kh450.codesOf "previous" = [112, 114, 101, 118, 105, 111, 117, 115] := by decide +kernel
theorem c_remove : Kh450.codesOf "remove" = [114, 101, 109, 111, 118, 101] := by decide +kernel
theorem c_unwrap : Kh450.codesOf "unwrap" = [117, 110, 119, 114, 97, 112] := by decide +kernel
theorem c_raise : Kh450.codesOf "raise" = [114, 97, 105, 115, 101] := by decide +kernel
theorem c_lower : Kh450.codesOf "lower" = [108, 111, 119, 101, 114] := by decide +kernel
theorem c_upper_case : Kh450.codesOf "upper-case" = [117, 112, 112, 101, 114, 45, 99, 97, 115, 101] := by decide +kernel
theorem c_lower_case : Kh450.codesOf "lower-case" = [108, 111, 119, 101, 114, 45, 99, 97, 115, 101] := by decide +kernel
theorem c_replace : Kh450.codesOf "replace" = [114, 101, 112, 108, 97, 99, 101] := by decide +kernel
theorem c_before : Kh450.codesOf "before" = [98, 101, 102, 111, 114, 101] := by decide +kernel
theorem c_after : Kh450.codesOf "after" = [97, 102, 116, 101, 114] := by decide +kernel
theorem c_set_level : Kh450.codesOf "set-level" = [115, 101, 116, 45, 108, 101, 118, 101, 108] := by decide +kernel
theorem c_set_label : Kh450.codesOf "set-label" = [115, 101, 116, 45, 108, 97, 98, 101, 108] := by decide +kernel
theorem c_add_class : Kh450.codesOf "add-class" = [97, 100, 100, 45, 99, 108, 97, 115, 115] := by decide +kernel
theorem c_remove_class : Kh450.codesOf "remove-class" = [114, 101, 109, 111, 118, 101, 45, 99, 108, 97, 115, 115] := by decide +kernel
theorem c_set_target : Kh450.codesOf "set-target" = [115, 101, 116, 45, 116, 97, 114, 103, 101, 116] := by decide +kernel
theorem c_replace_text : Kh450.codesOf "replace-text" = [114, 101, 112, 108, 97, 99, 101, 45, 116, 101, 120, 116] := by decide +kernel
theorem c_blocks : Kh450.codesOf "blocks" = [98, 108, 111, 99, 107, 115] := by decide +kernel
theorem c_inlines : Kh450.codesOf "inlines" = [105, 110, 108, 105, 110, 101, 115] := by decide +kernel
theorem c_repeat : Kh450.codesOf "repeat" = [114, 101, 112, 101, 97, 116] := by decide +kernel
theorem c_when : Kh450.codesOf "when" = [119, 104, 101, 110] := by decide +kernel
theorem c_para : Kh450.codesOf "para" = [112, 97, 114, 97] := by decide +kernel
theorem c_heading : Kh450.codesOf "heading" = [104, 101, 97, 100, 105, 110, 103] := by decide +kernel
theorem c_code : Kh450.codesOf "code" = [99, 111, 100, 101] := by decide +kernel
theorem c_formula : Kh450.codesOf "formula" = [102, 111, 114, 109, 117, 108, 97] := by decide +kernel
theorem c_rule : Kh450.codesOf "rule" = [114, 117, 108, 101] := by decide +kernel
theorem c_quote : Kh450.codesOf "quote" = [113, 117, 111, 116, 101] := by decide +kernel
theorem c_bullets : Kh450.codesOf "bullets" = [98, 117, 108, 108, 101, 116, 115] := by decide +kernel
theorem c_numbers : Kh450.codesOf "numbers" = [110, 117, 109, 98, 101, 114, 115] := by decide +kernel
theorem c_terms : Kh450.codesOf "terms" = [116, 101, 114, 109, 115] := by decide +kernel
theorem c_table : Kh450.codesOf "table" = [116, 97, 98, 108, 101] := by decide +kernel
theorem c_figure : Kh450.codesOf "figure" = [102, 105, 103, 117, 114, 101] := by decide +kernel
theorem c_group : Kh450.codesOf "group" = [103, 114, 111, 117, 112] := by decide +kernel
theorem c_note : Kh450.codesOf "note" = [110, 111, 116, 101] := by decide +kernel
theorem c_math : Kh450.codesOf "math" = [109, 97, 116, 104] := by decide +kernel
theorem c_break : Kh450.codesOf "break" = [98, 114, 101, 97, 107] := by decide +kernel
theorem c_noteref : Kh450.codesOf "noteref" = [110, 111, 116, 101, 114, 101, 102] := by decide +kernel
theorem c_ref : Kh450.codesOf "ref" = [114, 101, 102] := by decide +kernel
theorem c_cite : Kh450.codesOf "cite" = [99, 105, 116, 101] := by decide +kernel
theorem c_emph : Kh450.codesOf "emph" = [101, 109, 112, 104] := by decide +kernel
theorem c_strong : Kh450.codesOf "strong" = [115, 116, 114, 111, 110, 103] := by decide +kernel
theorem c_strike : Kh450.codesOf "strike" = [115, 116, 114, 105, 107, 101] := by decide +kernel
theorem c_super : Kh450.codesOf "super" = [115, 117, 112, 101, 114] := by decide +kernel
theorem c_sub : Kh450.codesOf "sub" = [115, 117, 98] := by decide +kernel
theorem c_caps : Kh450.codesOf "caps" = [99, 97, 112, 115] := by decide +kernel
theorem c_link : Kh450.codesOf "link" = [108, 105, 110, 107] := by decide +kernel
theorem c_image : Kh450.codesOf "image" = [105, 109, 97, 103, 101] := by decide +kernel
theorem c_span : Kh450.codesOf "span" = [115, 112, 97, 110] := by decide +kernel

/-! ### names -/
def sg (b : Nat) : List Nat := (signOf b).cps.toList
theorem signs_are : ∀ n < 91, signsT.cps[n]! ≠ 126 → signsT.cps[n]! = n + 32 := by decide +kernel
theorem sg_is (b : Nat) : sg b = [b] ∨ ∃ r, sg b = 126 :: r := by
  unfold sg signOf
  by_cases h9 : b = 9
  · rw [if_pos h9, h9]
    exact .inl (by decide +kernel)
  rw [if_neg h9]
  by_cases h10 : b = 10
  · rw [if_pos h10, h10]
    exact .inl (by decide +kernel)
  rw [if_neg h10]
  by_cases h : 32 ≤ b ∧ b ≤ 122 ∧ signsT.cps[b - 32]! ≠ 126
  · rw [if_pos h]
    have e := signs_are (b - 32) (by omega) h.2.2
    rw [e]
    refine .inl ?_
    show [b - 32 + 32] = [b]
    rw [Nat.sub_add_cancel h.1]
  · rw [if_neg h]
    exact .inr ⟨_, rfl⟩
def plain (l : List Nat) : Bool := l.all fun c => decide (sg c = [c]) && !decide (c = 126)
theorem enc_cps (bs : List Nat) : (encB bs).cps.toList = bs.flatMap sg := by
  unfold encB catS
  rw [List.flatMap_map]
  rfl
theorem enc_iff : ∀ (name l : List Nat), plain l = true → (name.flatMap sg = l ↔ name = l)
  | [], l, _ => by
    rw [List.flatMap_nil]
  | b :: r, l, h => by
    rw [List.flatMap_cons]
    rcases sg_is b with e | ⟨t, e⟩
    · rw [e]
      match l, h with
      | [], _ => simp
      | c :: m, h =>
        have h2 : plain m = true := by
          unfold plain at h ⊢
          rw [List.all_cons, Bool.and_eq_true] at h
          exact h.2
        rw [List.singleton_append, List.cons.injEq, List.cons.injEq, enc_iff r m h2]
    · have no : ∀ c ∈ l, sg c = [c] ∧ c ≠ 126 := fun c hc => by
        have := List.all_eq_true.mp h c hc
        simpa using this
      constructor
      · intro q
        rw [e] at q
        exact absurd rfl (no 126 (by rw [← q]; simp)).2
      · intro q
        have hb := no b (by rw [← q]; simp)
        rw [hb.1] at e
        cases e
        exact absurd rfl hb.2
theorem str_ext {a b : Str} (h : a.cps.toList = b.cps.toList) : a = b := by
  obtain ⟨a⟩ := a
  obtain ⟨b⟩ := b
  congr 1
  exact Array.toList_inj.mp h
theorem enc_str (name : List Nat) (z : Str) (h : plain z.cps.toList = true) : encB name = z ↔ name = z.cps.toList := by
  rw [← enc_iff name _ h, ← enc_cps]
  exact ⟨fun q => by rw [q], str_ext⟩
theorem lookup_none {α : Type} {z : Str} : ∀ {tb : List (Str × α)}, (∀ r ∈ tb, r.1 ≠ z) → tb.lookup z = none
  | [], _ => rfl
  | (k, v) :: r, h => by
    have e : (z == k) = false := by simpa using fun q => h (k, v) List.mem_cons_self q.symm
    rw [List.lookup, e]
    exact lookup_none fun x hx => h x (List.mem_cons_of_mem _ hx)
/-! ### labels -/
theorem lab_plain (c : Nat) (h : Kh450.isLabelPart c = true) : sg c = [c] ∧ c ∈ labelT.cps.toList ∧ c < 128 := by
  have lt : c < 128 := by
    unfold Kh450.isLabelPart Kh450.isLower Kh450.isUpper Kh450.isDigit at h
    simp only [Bool.or_eq_true, Bool.and_eq_true, decide_eq_true_eq, beq_iff_eq] at h
    omega
  have all : ∀ n < 128, Kh450.isLabelPart n = true → sg n = [n] ∧ n ∈ labelT.cps.toList := by decide +kernel
  exact ⟨(all c lt h).1, (all c lt h).2, lt⟩
theorem lab_in (c : Nat) (h : c ∈ labelT.cps.toList) : Kh450.isLabelPart c = true := by
  have all : (labelT.cps.toList.all fun c => Kh450.isLabelPart c) = true := by decide +kernel
  exact List.all_eq_true.mp all c h
/-- the signs of a code point -/
def sc (c : Nat) : List Nat := (Kh450.encodeUtf8 c).flatMap sg
theorem sc_lab (c : Nat) (h : Kh450.isLabelPart c = true) : sc c = [c] := by
  obtain ⟨e, _, lt⟩ := lab_plain c h
  unfold sc Kh450.encodeUtf8
  rw [if_pos lt]
  simpa using e
theorem sc_bad (c : Nat) (h : Kh450.isLabelPart c = false) : ∃ x ∈ sc c, x ∉ labelT.cps.toList := by
  have big : ∀ b, 128 ≤ b → ∃ r, sg b = 126 :: r := fun b hb => by
    unfold sg signOf
    rw [if_neg (by omega), if_neg (by omega), if_neg (by omega)]
    exact ⟨_, rfl⟩
  have tl : 126 ∉ labelT.cps.toList := by decide +kernel
  unfold sc Kh450.encodeUtf8
  split
  · rcases sg_is c with e | ⟨r, e⟩
    · refine ⟨c, by simp [e], fun q => ?_⟩
      rw [lab_in c q] at h
      cases h
    · exact ⟨126, by simp [e], tl⟩
  · split
    · obtain ⟨r, e⟩ := big (0xC0 + c / 64) (by omega)
      exact ⟨126, by simp [e], tl⟩
    · split
      · obtain ⟨r, e⟩ := big (0xE0 + c / 4096) (by omega)
        exact ⟨126, by simp [e], tl⟩
      · obtain ⟨r, e⟩ := big (0xF0 + c / 262144) (by omega)
        exact ⟨126, by simp [e], tl⟩
theorem encAll_cps (t : List Nat) : (encB (Kh450.encodeAll t)).cps.toList = t.flatMap sc := by
  rw [enc_cps]
  unfold Kh450.encodeAll
  rw [List.flatMap_assoc]
  rfl
theorem sc_ne (c : Nat) : sc c ≠ [] := by
  cases h : Kh450.isLabelPart c with
  | true => rw [sc_lab c h]; simp
  | false =>
    obtain ⟨x, hx, _⟩ := sc_bad c h
    intro e
    rw [e] at hx
    cases hx
theorem text_nil (t : List Nat) : encB (Kh450.encodeAll t) = "" ↔ t = [] := by
  constructor
  · intro h
    have e := encAll_cps t
    rw [h] at e
    cases t with
    | nil => rfl
    | cons c r =>
      rw [List.flatMap_cons] at e
      have z : (("" : Str)).cps.toList = [] := by decide +kernel
      rw [z] at e
      exact absurd (List.append_eq_nil_iff.mp e.symm).1 (sc_ne c)
  · rintro rfl
    decide +kernel
theorem lab_eq (t : List Nat) : isLab (encB (Kh450.encodeAll t)) = Kh450.isLabel t := by
  unfold isLab Kh450.isLabel
  have len : (encB (Kh450.encodeAll t)).length = (t.flatMap sc).length := by
    rw [← encAll_cps]
    exact Array.length_toList.symm
  rw [len, encAll_cps]
  cases h : t.all Kh450.isLabelPart with
  | true =>
    have e : t.flatMap sc = t := by
      clear len
      induction t with
      | nil => rfl
      | cons c r ih =>
        rw [List.all_cons, Bool.and_eq_true] at h
        rw [List.flatMap_cons, sc_lab c h.1, ih h.2]
        rfl
    rw [e]
    have a : (t.all fun c => decide (c ∈ labelT.cps.toList)) = true := List.all_eq_true.mpr fun c hc => decide_eq_true (lab_plain c (List.all_eq_true.mp h c hc)).2.1
    rw [a, Bool.and_true, Bool.true_and]
    congr 1
    cases t <;> simp
  | false =>
    have a : ((t.flatMap sc).all fun c => decide (c ∈ labelT.cps.toList)) = false := by
      rw [Bool.eq_false_iff]
      intro q
      rw [Bool.eq_false_iff] at h
      refine h (List.all_eq_true.mpr fun c hc => ?_)
      cases g : Kh450.isLabelPart c with
      | true => rfl
      | false =>
        obtain ⟨x, hx, hn⟩ := sc_bad c g
        have := List.all_eq_true.mp q x (List.mem_flatMap.mpr ⟨c, hc, hx⟩)
        exact absurd (of_decide_eq_true this) hn
    rw [a, Bool.and_false, Bool.false_and]
end Ck
namespace Ck
open PySem PySem.Spec PyProof.Rows L2 RZ
open Kh450 (Node codesOf)
/-! ### what is read -/
mutual
def intOk : Node → Bool
  | .integer _ v => decide (v ≤ 999999)
  | .list _ l => intsOk l
  | _ => true
def intsOk : List Node → Bool
  | [] => true
  | n :: r => intOk n && intsOk r
end
theorem intsOk_iff : ∀ l : List Node, intsOk l = true ↔ ∀ n ∈ l, intOk n = true
  | [] => by simp [intsOk]
  | n :: r => by rw [intsOk, Bool.and_eq_true, intsOk_iff r]; simp
theorem depthsN_le {d : Nat} : ∀ {l : List Node}, (∀ n ∈ l, depthN n ≤ d) → depthsN l ≤ d
  | [], _ => by rw [depthsN]; exact Nat.zero_le _
  | n :: r, h => by
    rw [depthsN]
    exact Nat.max_le.mpr ⟨h n List.mem_cons_self, depthsN_le fun x hx => h x (List.mem_cons_of_mem _ hx)⟩
theorem le_depthsN : ∀ {l : List Node} {n : Node}, n ∈ l → depthN n ≤ depthsN l
  | [], _, h => by cases h
  | m :: r, n, h => by
    rw [depthsN]
    rcases List.mem_cons.mp h with e | e
    · rw [e]; exact Nat.le_max_left _ _
    · exact Nat.le_trans (le_depthsN e) (Nat.le_max_right _ _)
theorem bind_ok_of {α β : Type} {r : Kh450.Read α} {f : α → List Nat → Kh450.Read β} {b : β} {s : List Nat} (h : r.bind f = .ok b s) : ∃ a t, r = .ok a t ∧ f a t = .ok b s := by
  cases r with
  | ok a t => exact ⟨a, t, rfl, h⟩
  | error k t => cases h
theorem readList_good {rn : List Nat → Kh450.Read Node} {Pn : Node → Prop} (h : ∀ b n r, rn b = .ok n r → Pn n) : ∀ (f : Nat) (b : List Nat) (ns : List Node) (r : List Nat), Kh450.readList rn f b = .ok ns r → ∀ n ∈ ns, Pn n
  | 0, b, ns, r, e => by cases e
  | f + 1, b, ns, r, e => by
    rw [Kh450.readList] at e
    split at e
    · cases e
    · cases e
      intro n hn
      cases hn
    · obtain ⟨a, t, e1, e2⟩ := bind_ok_of e
      obtain ⟨as, t2, e3, e4⟩ := bind_ok_of e2
      cases e4
      intro n hn
      rcases List.mem_cons.mp hn with q | q
      · rw [q]; exact h _ _ _ e1
      · exact readList_good h f _ _ _ e3 n q
theorem takeWhile_all (p : Nat → Bool) : ∀ l : List Nat, ∀ b ∈ (Kh450.takeWhile p l).1, p b = true
  | [], b, h => by cases h
  | x :: r, b, h => by
    cases e : p x with
    | true =>
      rw [takeWhile_go e] at h
      rcases List.mem_cons.mp h with q | q
      · rw [q]; exact e
      · exact takeWhile_all p r b q
    | false =>
      rw [takeWhile_stop e] at h
      cases h
theorem intVal_snoc (l : List Nat) (d : Nat) : intVal (l ++ [d]) = 10 * intVal l + (d - 48) := by
  unfold intVal
  rw [List.foldl_append]
  rfl
theorem intVal_lt' : ∀ (l : List Nat), (∀ b ∈ l, Kh450.isDigit b = true) → ∀ x k : Nat, x + 1 ≤ 10 ^ k → l.foldl (fun n d => 10 * n + (d - 48)) x + 1 ≤ 10 ^ (k + l.length)
  | [], _, x, k, hx => hx
  | d :: r, h, x, k, hx => by
    have hd := h d List.mem_cons_self
    unfold Kh450.isDigit at hd
    simp only [Bool.and_eq_true, decide_eq_true_eq] at hd
    rw [List.foldl_cons, List.length_cons]
    have := intVal_lt' r (fun b hb => h b (List.mem_cons_of_mem _ hb)) (10 * x + (d - 48)) (k + 1) (by rw [Nat.pow_succ]; omega)
    rw [show k + (r.length + 1) = k + 1 + r.length by omega]
    exact this
theorem readNode_good (total : Nat) : ∀ (d : Nat) (b : List Nat) (n : Node) (r : List Nat), Kh450.readNode total d b = .ok n r → depthN n ≤ d ∧ intOk n = true := by
  have simple : ∀ (d b : Nat) (rest : List Nat) (n : Node) (r : List Nat), b ≠ 40 → Kh450.readNode total d (b :: rest) = .ok n r → depthN n = 0 ∧ intOk n = true := by
    intro d b rest n r hb e
    rw [rn_step total d b rest hb] at e
    split at e
    · obtain ⟨a, t, _, e2⟩ := bind_ok_of e
      cases e2
      exact ⟨rfl, rfl⟩
    · split at e
      · split at e
        · cases e
        · rename_i hc
          cases e
          refine ⟨rfl, ?_⟩
          have lt := intVal_lt' (Kh450.takeWhile Kh450.isDigit (b :: rest)).1 (takeWhile_all _ _) 0 0 (Nat.le_refl _)
          have l6 : (Kh450.takeWhile Kh450.isDigit (b :: rest)).1.length ≤ 6 := by omega
          have le := Nat.pow_le_pow_right (show 0 < 10 by decide) l6
          rw [Nat.zero_add] at lt
          refine decide_eq_true ?_
          show intVal _ ≤ 999999
          unfold intVal
          have e6 : 10 ^ 6 = 1000000 := rfl
          omega
      · split at e
        · cases e
          exact ⟨rfl, rfl⟩
        · cases e
  intro d
  induction d with
  | zero =>
    intro b n r e
    cases b with
    | nil => cases e
    | cons b rest =>
      by_cases hb : b = 40
      · subst hb
        rw [rn_deep] at e
        cases e
      · have := simple 0 b rest n r hb e
        exact ⟨by omega, this.2⟩
  | succ d ih =>
    intro b n r e
    cases b with
    | nil => cases e
    | cons b rest =>
      by_cases hb : b = 40
      · subst hb
        rw [rn_open] at e
        obtain ⟨items, t, e1, e2⟩ := bind_ok_of e
        cases e2
        have g := readList_good (Pn := fun n => depthN n ≤ d ∧ intOk n = true) (fun b n r e => ih b n r e) _ _ _ _ e1
        refine ⟨?_, (intsOk_iff items).mpr fun n hn => (g n hn).2⟩
        show 1 + depthsN items ≤ d + 1
        have := depthsN_le fun n hn => (g n hn).1
        omega
      · have := simple (d + 1) b rest n r hb e
        exact ⟨by omega, this.2⟩
theorem readAll_good {bs : List Nat} {ns : List Node} {r : List Nat} (e : Kh450.readAll bs = .ok ns r) : ∀ n ∈ ns, depthN n ≤ 16 ∧ intOk n = true := by
  have go : ∀ (f : Nat) (b : List Nat) (ns : List Node) (r : List Nat), Kh450.readAllLoop bs.length f b = .ok ns r → ∀ n ∈ ns, depthN n ≤ 16 ∧ intOk n = true := by
    intro f
    induction f with
    | zero => intro b ns r e; cases e
    | succ f ih =>
      intro b ns r e
      rw [Kh450.readAllLoop] at e
      split at e
      · cases e
        intro n hn
        cases hn
      · obtain ⟨a, t, e1, e2⟩ := bind_ok_of e
        obtain ⟨as, t2, e3, e4⟩ := bind_ok_of e2
        cases e4
        intro n hn
        rcases List.mem_cons.mp hn with q | q
        · rw [q]; exact readNode_good _ _ _ _ _ e1
        · exact ih _ _ _ e3 n q
  exact go _ _ _ _ e
/-! ### roles -/
def noRole : List Str := ["label", "identifier", "level", "integer", "string"]
theorem roleL_ne (l : List Node) (rs : List Str) : ∀ z ∈ noRole, z ≠ roleL l rs := by
  have all : (rulesT.all fun r => noRole.all fun z => !decide (z = r.2.1)) = true := by decide +kernel
  have emp : ∀ z ∈ noRole, z ≠ "" := by decide +kernel
  intro z hz
  unfold roleL
  cases e : ruleOf (headL l) l.length with
  | none => exact emp z hz
  | some r =>
    obtain ⟨k, m⟩ : ∃ k, (k, r) ∈ rulesT := by
      unfold ruleOf at e
      split at e
      · obtain ⟨k, m, _⟩ := lookup_mem e
        exact ⟨k, m⟩
      · split at e
        · obtain ⟨k, m, _⟩ := lookup_mem e
          exact ⟨k, m⟩
        · obtain ⟨k, m, _⟩ := lookup_mem e
          exact ⟨k, m⟩
    have q := List.all_eq_true.mp (List.all_eq_true.mp all _ m) z hz
    have q2 : z ≠ r.1 := by simpa using q
    dsimp only
    (repeat' split) <;> first | exact emp z hz | exact q2
theorem roleN_ne (n : Node) : ∀ z ∈ noRole, z ≠ roleN n := by
  intro z hz
  have emp : ∀ z ∈ noRole, z ≠ "" ∧ z ≠ "inline" := by decide +kernel
  cases n with
  | symbol p s => rw [show roleN (.symbol p s) = "" by simp [roleN]]; exact (emp z hz).1
  | integer p s => rw [show roleN (.integer p s) = "" by simp [roleN]]; exact (emp z hz).1
  | string p s => rw [roleN]; exact (emp z hz).2
  | list p l => rw [roleN]; exact roleL_ne l _ z hz
end Ck
namespace Ck
open PySem PySem.Spec PyProof.Rows L2 RZ
open Kh450 (Node codesOf)
def errOf {α : Type} : Kh450.Checked α → Err
  | .error q => some q
  | .ok _ => none
theorem eo_map {α β : Type} (f : α → β) (x : Kh450.Checked α) : errOf (x.map f) = errOf x := by cases x <;> rfl
theorem eo_bind {α β : Type} (f : α → Kh450.Checked β) (x : Kh450.Checked α) (e : Err) (h : ∀ a, errOf (f a) = e) : errOf (x.bind f) = both (errOf x) e := by
  cases x with
  | error q => rfl
  | ok a => exact h a
theorem eo_collect {α β : Type} (f : α → Kh450.Checked β) : ∀ l : List α, errOf (Kh450.collect f l) = firstErr (fun a => errOf (f a)) l
  | [] => rfl
  | x :: r => by
    rw [Kh450.collect]
    refine (eo_bind _ _ (errOf (Kh450.collect f r)) fun a => eo_map _ _).trans ?_
    rw [eo_collect f r]
    rfl
theorem eo_fail {α : Type} (k p : Nat) : errOf (Kh450.fail k p : Kh450.Checked α) = some (k, p) := rfl
theorem fe_congr {α : Type} {f g : α → Err} : ∀ {l : List α}, (∀ a ∈ l, f a = g a) → firstErr f l = firstErr g l
  | [], _ => rfl
  | x :: r, h => by
    show both (f x) (firstErr f r) = both (g x) (firstErr g r)
    rw [h x List.mem_cons_self, fe_congr fun a ha => h a (List.mem_cons_of_mem _ ha)]
/-! ### forms -/
theorem nf : ∀ z ∈ noRole, z ≠ "filled" := by decide +kernel
theorem ro_level (n : Node) : rangeOk n "level" = if shapeN n = "integer" then (if (1 : Int) ≤ numN n then decide ((numN n : Int) ≤ 6) else false) else false := by
  have n2 : ¬ ("level" : Str) = "label" := by decide +kernel
  have n3 : ¬ ("level" : Str) = "identifier" := by decide +kernel
  unfold rangeOk formOk
  rw [if_neg (nf _ (by decide +kernel)), if_neg (roleN_ne n "level" (by decide +kernel)), if_neg n2, if_neg n3, if_pos rfl]
theorem ro_label (n : Node) : rangeOk n "label" = if shapeN n = "string" then isLab (textN n) else false := by
  unfold rangeOk formOk
  rw [if_neg (nf _ (by decide +kernel)), if_neg (roleN_ne n "label" (by decide +kernel)), if_pos rfl]
theorem ro_ident (n : Node) : rangeOk n "identifier" = if shapeN n = "string" then (if textN n = "" then true else isLab (textN n)) else false := by
  have n2 : ¬ ("identifier" : Str) = "label" := by decide +kernel
  unfold rangeOk formOk
  rw [if_neg (nf _ (by decide +kernel)), if_neg (roleN_ne n "identifier" (by decide +kernel)), if_neg n2, if_pos rfl]
theorem ro_other (n : Node) (z : Str) (h : z ∈ (["integer", "string"] : List Str)) : rangeOk n z = decide (shapeN n = z) := by
  have a : ∀ z ∈ (["integer", "string"] : List Str), z ∈ noRole ∧ ¬ z = "label" ∧ ¬ z = "identifier" ∧ ¬ z = "level" ∧ ¬ z = "alignment" ∧ inV (.str z) [.str "string", .str "integer", .str "symbol"] = true := by
    intro z hz
    rcases List.mem_cons.mp hz with q | q
    · subst q; decide +kernel
    · rw [List.mem_singleton] at q
      subst q; decide +kernel
  obtain ⟨a1, a2, a3, a4, a5, a6⟩ := a z h
  unfold rangeOk formOk
  rw [if_neg (nf _ a1), if_neg (roleN_ne n z a1), if_neg a2, if_neg a3, if_neg a4, if_neg a5, if_pos a6]
theorem ro_filled (n : Node) : rangeOk n "filled" = !decide (textN n = "") := if_pos rfl
theorem sh_int (n : Node) : (∃ p v, n = .integer p v) ∨ (∀ e, both (shapeErr n "integer") e = some (8, n.position)) := by
  cases n with
  | integer p v => exact .inl ⟨p, v, rfl⟩
  | symbol p s => exact .inr fun e => by rw [show shapeErr (.symbol p s) "integer" = some (8, p) from if_neg (by show ¬ ("symbol" : Str) = "integer"; decide +kernel)]; rfl
  | string p s => exact .inr fun e => by rw [show shapeErr (.string p s) "integer" = some (8, p) from if_neg (by show ¬ ("string" : Str) = "integer"; decide +kernel)]; rfl
  | list p s => exact .inr fun e => by rw [show shapeErr (.list p s) "integer" = some (8, p) from if_neg (by show ¬ ("list" : Str) = "integer"; decide +kernel)]; rfl
theorem sh_str (n : Node) : (∃ p t, n = .string p t) ∨ (∀ e, both (shapeErr n "string") e = some (8, n.position)) := by
  cases n with
  | string p v => exact .inl ⟨p, v, rfl⟩
  | symbol p s => exact .inr fun e => by rw [show shapeErr (.symbol p s) "string" = some (8, p) from if_neg (by show ¬ ("symbol" : Str) = "string"; decide +kernel)]; rfl
  | integer p s => exact .inr fun e => by rw [show shapeErr (.integer p s) "string" = some (8, p) from if_neg (by show ¬ ("integer" : Str) = "string"; decide +kernel)]; rfl
  | list p s => exact .inr fun e => by rw [show shapeErr (.list p s) "string" = some (8, p) from if_neg (by show ¬ ("list" : Str) = "string"; decide +kernel)]; rfl
theorem num_bad {n : Node} (h : ∀ p v, n ≠ .integer p v) (a b : Nat) : errOf (Kh453.numberIn a b n) = some (8, n.position) := by
  cases n with
  | integer p v => exact absurd rfl (h p v)
  | symbol p s => rfl
  | string p s => rfl
  | list p s => rfl
theorem str_bad {n : Node} (h : ∀ p v, n ≠ .string p v) : Kh450.stringOf n = Kh450.fail 8 n.position := by
  cases n with
  | string p v => exact absurd rfl (h p v)
  | symbol p s => rfl
  | integer p s => rfl
  | list p s => rfl
theorem sInt (p v : Nat) : shapeErr (.integer p v) "integer" = none := if_pos rfl
theorem sStr (p : Nat) (t : List Nat) : shapeErr (.string p t) "string" = none := if_pos rfl
theorem not_int {n : Node} (h : ∀ e, both (shapeErr n "integer") e = some (8, n.position)) : ∀ p v, n ≠ .integer p v := fun p v e => by
  have := h none
  rw [e, sInt] at this
  cases this
theorem not_str {n : Node} (h : ∀ e, both (shapeErr n "string") e = some (8, n.position)) : ∀ p v, n ≠ .string p v := fun p v e => by
  have := h none
  rw [e, sStr] at this
  cases this
theorem form_level (n : Node) : both (shapeErr n "integer") (rangeErr n "level") = errOf (Kh453.numberIn 1 6 n) := by
  rcases sh_int n with ⟨p, v, rfl⟩ | h
  · rw [sInt]
    show rangeErr (.integer p v) "level" = errOf (if 1 ≤ v ∧ v ≤ 6 then _ else _)
    unfold rangeErr
    rw [ro_level, if_pos (show shapeN (Node.integer p v) = "integer" from rfl)]
    show (if (if (1 : Int) ≤ v then decide ((v : Int) ≤ 6) else false) = true then none else some (9, p)) = _
    by_cases c1 : 1 ≤ v
    · rw [if_pos (show (1 : Int) ≤ v by omega)]
      by_cases c2 : v ≤ 6
      · rw [if_pos (decide_eq_true (show (v : Int) ≤ 6 by omega)), if_pos ⟨c1, c2⟩]
        rfl
      · rw [if_neg (by simpa using (show ¬ (v : Int) ≤ 6 by omega)), if_neg (fun q => c2 q.2)]
        rfl
    · rw [if_neg (show ¬ (1 : Int) ≤ v by omega), if_neg (by decide), if_neg (fun q => c1 q.1)]
      rfl
  · rw [h, num_bad (not_int h)]
theorem form_index (n : Node) (g : intOk n = true) : both (shapeErr n "integer") (rangeErr n "integer") = errOf (Kh453.numberIn 0 999999 n) := by
  rcases sh_int n with ⟨p, v, rfl⟩ | h
  · rw [sInt]
    have g2 : v ≤ 999999 := of_decide_eq_true g
    show rangeErr (.integer p v) "integer" = errOf (if 0 ≤ v ∧ v ≤ 999999 then _ else _)
    unfold rangeErr
    rw [ro_other _ _ (by decide +kernel), if_pos (decide_eq_true (show shapeN (Node.integer p v) = "integer" from rfl)), if_pos (show 0 ≤ v ∧ v ≤ 999999 from ⟨Nat.zero_le _, g2⟩)]
    rfl
  · rw [h, num_bad (not_int h)]
theorem form_string (n : Node) : both (shapeErr n "string") (rangeErr n "string") = errOf (Kh450.stringOf n) := by
  rcases sh_str n with ⟨p, t, rfl⟩ | h
  · rw [sStr]
    show rangeErr (.string p t) "string" = none
    unfold rangeErr
    rw [ro_other _ _ (by decide +kernel)]
    rfl
  · rw [h, str_bad (not_str h)]
    rfl
theorem form_label (n : Node) : both (shapeErr n "string") (rangeErr n "label") = errOf (Kh450.labelOf n) := by
  unfold Kh450.labelOf
  rcases sh_str n with ⟨p, t, rfl⟩ | h
  · rw [sStr]
    show rangeErr (.string p t) "label" = errOf (if Kh450.isLabel t = true then Except.ok t else Kh450.fail 9 p)
    unfold rangeErr
    rw [ro_label, if_pos (show shapeN (Node.string p t) = "string" from rfl)]
    show (if isLab (encB (Kh450.encodeAll t)) = true then none else some (9, p)) = _
    rw [lab_eq]
    split <;> rfl
  · rw [h, str_bad (not_str h)]
    rfl
theorem form_ident (n : Node) : both (shapeErr n "string") (rangeErr n "identifier") = errOf (Kh450.identifierOf n) := by
  unfold Kh450.identifierOf
  rcases sh_str n with ⟨p, t, rfl⟩ | h
  · rw [sStr]
    show rangeErr (.string p t) "identifier" = errOf (if (t.isEmpty || Kh450.isLabel t) = true then Except.ok t else Kh450.fail 9 p)
    unfold rangeErr
    rw [ro_ident, if_pos (show shapeN (Node.string p t) = "string" from rfl)]
    show (if (if encB (Kh450.encodeAll t) = "" then true else isLab (encB (Kh450.encodeAll t))) = true then none else some (9, p)) = _
    rw [lab_eq]
    by_cases e : t = []
    · rw [if_pos ((text_nil t).mpr e), if_pos rfl, e]
      rfl
    · rw [if_neg (fun q => e ((text_nil t).mp q))]
      have : t.isEmpty = false := by cases t with | nil => exact absurd rfl e | cons a b => rfl
      rw [this, Bool.false_or]
      split <;> rfl
  · rw [h, str_bad (not_str h)]
    rfl
theorem form_filled (n : Node) : both (shapeErr n "string") (rangeErr n "filled") = errOf ((Kh450.stringOf n).bind fun old => if old.isEmpty then Kh450.fail 9 n.position else Except.ok old) := by
  rcases sh_str n with ⟨p, t, rfl⟩ | h
  · rw [sStr]
    show rangeErr (.string p t) "filled" = errOf (if t.isEmpty = true then Kh450.fail 9 p else Except.ok t)
    unfold rangeErr
    rw [ro_filled]
    show (if (!decide (encB (Kh450.encodeAll t) = "")) = true then none else some (9, p)) = _
    by_cases e : t = []
    · rw [if_neg (by simp [(text_nil t).mpr e]), e]
      rfl
    · rw [if_pos (by simpa using fun q => e ((text_nil t).mp q))]
      have : t.isEmpty = false := by cases t with | nil => exact absurd rfl e | cons a b => rfl
      rw [this]
      rfl
  · rw [h, str_bad (not_str h)]
    rfl
end Ck
namespace Ck
open PySem PySem.Spec PyProof.Rows L2 RZ
open Kh450 (Node codesOf)
section
variable (sel : Node → Err) (p : Nat) (n : Node)
theorem ae_sel : argErr sel p "selector" n = sel n := if_pos rfl
theorem ae_kind : argErr sel p "kind" n = kindErr p n := (if_neg (by decide +kernel)).trans (if_pos rfl)
theorem ae_int (z : Str) (h1 : ¬ z = "selector") (h2 : ¬ z = "kind") (h : z = "level" ∨ z = "integer") : argErr sel p z n = both (shapeErr n "integer") (rangeErr n z) := (if_neg h1).trans ((if_neg h2).trans (if_pos h))
theorem ae_str (z : Str) (h1 : ¬ z = "selector") (h2 : ¬ z = "kind") (h : ¬ (z = "level" ∨ z = "integer")) : argErr sel p z n = both (shapeErr n "string") (rangeErr n z) := (if_neg h1).trans ((if_neg h2).trans (if_neg h))
end
theorem both_none (a : Err) : both a none = a := by cases a <;> rfl
theorem args0 (sel : Node → Err) (p : Nat) (args : List Node) : argsErr sel p [] args = if args.isEmpty then none else some (8, p) := by cases args <;> rfl
theorem args1 (sel : Node → Err) (p : Nat) (z : Str) (args : List Node) : argsErr sel p [z] args = match args with | [a] => argErr sel p z a | _ => some (8, p) := by
  match args with
  | [] => rfl
  | [a] => exact both_none _
  | a :: b :: r => rfl
theorem args2 (sel : Node → Err) (p : Nat) (y z : Str) (args : List Node) : argsErr sel p [y, z] args = match args with | [a, b] => both (argErr sel p y a) (argErr sel p z b) | _ => some (8, p) := by
  match args with
  | [] => rfl
  | [a] => rfl
  | [a, b] =>
    show both (argErr sel p y a) (both (argErr sel p z b) none) = _
    rw [both_none]
  | a :: b :: c :: r => rfl
theorem eo_if {α : Type} (c : Bool) (a : α) (k p : Nat) : errOf (if c = true then (.ok a : Kh450.Checked α) else Kh450.fail k p) = if c = true then none else some (k, p) := by cases c <;> rfl
theorem kinds_in (k : List Nat) : (encB k ∈ kindsT) ↔ Kh453.isIn Kh453.kinds k = true := by
  have pl : (kindsT.all fun z => plain z.cps.toList) = true := by decide +kernel
  have eq : kindsT.map (fun z => z.cps.toList) = Kh453.kinds.map Kh450.codesOf := by decide +kernel
  have h1 : (encB k ∈ kindsT) ↔ k ∈ kindsT.map (fun z => z.cps.toList) := by
    rw [List.mem_map]
    constructor
    · intro h
      exact ⟨encB k, h, ((enc_str k _ (List.all_eq_true.mp pl _ h)).mp rfl).symm⟩
    · rintro ⟨z, hz, e⟩
      have := (enc_str k z (List.all_eq_true.mp pl _ hz)).mpr e.symm
      rw [this]
      exact hz
  rw [h1, eq]
  unfold Kh453.isIn
  rw [List.any_eq_true, List.mem_map]
  constructor
  · rintro ⟨x, hx, e⟩
    exact ⟨x, hx, by rw [e]; exact beq_self_eq_true _⟩
  · rintro ⟨x, hx, e⟩
    exact ⟨x, hx, eq_of_beq e⟩
theorem kind_err (p : Nat) (n : Node) : kindErr p n = match n with | .symbol q k => if Kh453.isIn Kh453.kinds k = true then none else some (9, q) | _ => some (8, p) := by
  unfold kindErr
  cases n with
  | symbol q k =>
    rw [if_pos (show shapeN (Node.symbol q k) = "symbol" from rfl)]
    show (if encB k ∈ kindsT then none else some (9, q)) = (if Kh453.isIn Kh453.kinds k = true then none else some (9, q))
    simp only [kinds_in]
  | integer q k => exact if_neg (by show ¬ ("integer" : Str) = "symbol"; decide +kernel)
  | string q k => exact if_neg (by show ¬ ("string" : Str) = "symbol"; decide +kernel)
  | list q k => exact if_neg (by show ¬ ("list" : Str) = "symbol"; decide +kernel)
theorem sel_no (sel : Node → Err) (n : Node) (h : headN n = "") : selErrF sel n = some (7, n.position) := by
  unfold selErrF
  rw [h, show selectorsT.lookup ("" : Str) = none by decide +kernel]
theorem act_no (n : Node) (h : headN n = "") : actErr n = some (7, n.position) := by
  unfold actErr
  rw [h, show actionsT.lookup ("" : Str) = none by decide +kernel]
theorem sel_c_any (sel : Node → Err) (p q : Nat) (args : List Node) : selErrF sel (.list p (.symbol q [97, 110, 121] :: args)) = argsErr sel p ([] : List Str) args := by
  unfold selErrF
  rw [(show headN (.list p (.symbol q [97, 110, 121] :: args)) = "any" from (enc_str _ _ (by decide +kernel)).mpr (by decide +kernel)), show selectorsT.lookup ("any" : Str) = some ([] : List Str) by decide +kernel]
  exact if_neg (by decide +kernel)
theorem sel_c_empty (sel : Node → Err) (p q : Nat) (args : List Node) : selErrF sel (.list p (.symbol q [101, 109, 112, 116, 121] :: args)) = argsErr sel p ([] : List Str) args := by
  unfold selErrF
  rw [(show headN (.list p (.symbol q [101, 109, 112, 116, 121] :: args)) = "empty" from (enc_str _ _ (by decide +kernel)).mpr (by decide +kernel)), show selectorsT.lookup ("empty" : Str) = some ([] : List Str) by decide +kernel]
  exact if_neg (by decide +kernel)
theorem sel_c_first (sel : Node → Err) (p q : Nat) (args : List Node) : selErrF sel (.list p (.symbol q [102, 105, 114, 115, 116] :: args)) = argsErr sel p ([] : List Str) args := by
  unfold selErrF
  rw [(show headN (.list p (.symbol q [102, 105, 114, 115, 116] :: args)) = "first" from (enc_str _ _ (by decide +kernel)).mpr (by decide +kernel)), show selectorsT.lookup ("first" : Str) = some ([] : List Str) by decide +kernel]
  exact if_neg (by decide +kernel)
theorem sel_c_last (sel : Node → Err) (p q : Nat) (args : List Node) : selErrF sel (.list p (.symbol q [108, 97, 115, 116] :: args)) = argsErr sel p ([] : List Str) args := by
  unfold selErrF
  rw [(show headN (.list p (.symbol q [108, 97, 115, 116] :: args)) = "last" from (enc_str _ _ (by decide +kernel)).mpr (by decide +kernel)), show selectorsT.lookup ("last" : Str) = some ([] : List Str) by decide +kernel]
  exact if_neg (by decide +kernel)
theorem sel_c_kind (sel : Node → Err) (p q : Nat) (args : List Node) : selErrF sel (.list p (.symbol q [107, 105, 110, 100] :: args)) = argsErr sel p (["kind"] : List Str) args := by
  unfold selErrF
  rw [(show headN (.list p (.symbol q [107, 105, 110, 100] :: args)) = "kind" from (enc_str _ _ (by decide +kernel)).mpr (by decide +kernel)), show selectorsT.lookup ("kind" : Str) = some (["kind"] : List Str) by decide +kernel]
  exact if_neg (by decide +kernel)
theorem sel_c_level (sel : Node → Err) (p q : Nat) (args : List Node) : selErrF sel (.list p (.symbol q [108, 101, 118, 101, 108] :: args)) = argsErr sel p (["level", "level"] : List Str) args := by
  unfold selErrF
  rw [(show headN (.list p (.symbol q [108, 101, 118, 101, 108] :: args)) = "level" from (enc_str _ _ (by decide +kernel)).mpr (by decide +kernel)), show selectorsT.lookup ("level" : Str) = some (["level", "level"] : List Str) by decide +kernel]
  exact if_neg (by decide +kernel)
theorem sel_c_index (sel : Node → Err) (p q : Nat) (args : List Node) : selErrF sel (.list p (.symbol q [105, 110, 100, 101, 120] :: args)) = argsErr sel p (["integer"] : List Str) args := by
  unfold selErrF
  rw [(show headN (.list p (.symbol q [105, 110, 100, 101, 120] :: args)) = "index" from (enc_str _ _ (by decide +kernel)).mpr (by decide +kernel)), show selectorsT.lookup ("index" : Str) = some (["integer"] : List Str) by decide +kernel]
  exact if_neg (by decide +kernel)
theorem sel_c_label (sel : Node → Err) (p q : Nat) (args : List Node) : selErrF sel (.list p (.symbol q [108, 97, 98, 101, 108] :: args)) = argsErr sel p (["identifier"] : List Str) args := by
  unfold selErrF
  rw [(show headN (.list p (.symbol q [108, 97, 98, 101, 108] :: args)) = "label" from (enc_str _ _ (by decide +kernel)).mpr (by decide +kernel)), show selectorsT.lookup ("label" : Str) = some (["identifier"] : List Str) by decide +kernel]
  exact if_neg (by decide +kernel)
theorem sel_c_class (sel : Node → Err) (p q : Nat) (args : List Node) : selErrF sel (.list p (.symbol q [99, 108, 97, 115, 115] :: args)) = argsErr sel p (["label"] : List Str) args := by
  unfold selErrF
  rw [(show headN (.list p (.symbol q [99, 108, 97, 115, 115] :: args)) = "class" from (enc_str _ _ (by decide +kernel)).mpr (by decide +kernel)), show selectorsT.lookup ("class" : Str) = some (["label"] : List Str) by decide +kernel]
  exact if_neg (by decide +kernel)
theorem sel_c_target (sel : Node → Err) (p q : Nat) (args : List Node) : selErrF sel (.list p (.symbol q [116, 97, 114, 103, 101, 116] :: args)) = argsErr sel p (["string"] : List Str) args := by
  unfold selErrF
  rw [(show headN (.list p (.symbol q [116, 97, 114, 103, 101, 116] :: args)) = "target" from (enc_str _ _ (by decide +kernel)).mpr (by decide +kernel)), show selectorsT.lookup ("target" : Str) = some (["string"] : List Str) by decide +kernel]
  exact if_neg (by decide +kernel)
theorem sel_c_text (sel : Node → Err) (p q : Nat) (args : List Node) : selErrF sel (.list p (.symbol q [116, 101, 120, 116] :: args)) = argsErr sel p (["string"] : List Str) args := by
  unfold selErrF
  rw [(show headN (.list p (.symbol q [116, 101, 120, 116] :: args)) = "text" from (enc_str _ _ (by decide +kernel)).mpr (by decide +kernel)), show selectorsT.lookup ("text" : Str) = some (["string"] : List Str) by decide +kernel]
  exact if_neg (by decide +kernel)
theorem sel_c_and (sel : Node → Err) (p q : Nat) (args : List Node) : selErrF sel (.list p (.symbol q [97, 110, 100] :: args)) = firstErr sel args := by
  unfold selErrF
  rw [(show headN (.list p (.symbol q [97, 110, 100] :: args)) = "and" from (enc_str _ _ (by decide +kernel)).mpr (by decide +kernel)), show selectorsT.lookup ("and" : Str) = some (["selectors"] : List Str) by decide +kernel]
  exact if_pos rfl
theorem sel_c_or (sel : Node → Err) (p q : Nat) (args : List Node) : selErrF sel (.list p (.symbol q [111, 114] :: args)) = firstErr sel args := by
  unfold selErrF
  rw [(show headN (.list p (.symbol q [111, 114] :: args)) = "or" from (enc_str _ _ (by decide +kernel)).mpr (by decide +kernel)), show selectorsT.lookup ("or" : Str) = some (["selectors"] : List Str) by decide +kernel]
  exact if_pos rfl
theorem sel_c_not (sel : Node → Err) (p q : Nat) (args : List Node) : selErrF sel (.list p (.symbol q [110, 111, 116] :: args)) = argsErr sel p (["selector"] : List Str) args := by
  unfold selErrF
  rw [(show headN (.list p (.symbol q [110, 111, 116] :: args)) = "not" from (enc_str _ _ (by decide +kernel)).mpr (by decide +kernel)), show selectorsT.lookup ("not" : Str) = some (["selector"] : List Str) by decide +kernel]
  exact if_neg (by decide +kernel)
theorem sel_c_parent (sel : Node → Err) (p q : Nat) (args : List Node) : selErrF sel (.list p (.symbol q [112, 97, 114, 101, 110, 116] :: args)) = argsErr sel p (["selector"] : List Str) args := by
  unfold selErrF
  rw [(show headN (.list p (.symbol q [112, 97, 114, 101, 110, 116] :: args)) = "parent" from (enc_str _ _ (by decide +kernel)).mpr (by decide +kernel)), show selectorsT.lookup ("parent" : Str) = some (["selector"] : List Str) by decide +kernel]
  exact if_neg (by decide +kernel)
theorem sel_c_ancestor (sel : Node → Err) (p q : Nat) (args : List Node) : selErrF sel (.list p (.symbol q [97, 110, 99, 101, 115, 116, 111, 114] :: args)) = argsErr sel p (["selector"] : List Str) args := by
  unfold selErrF
  rw [(show headN (.list p (.symbol q [97, 110, 99, 101, 115, 116, 111, 114] :: args)) = "ancestor" from (enc_str _ _ (by decide +kernel)).mpr (by decide +kernel)), show selectorsT.lookup ("ancestor" : Str) = some (["selector"] : List Str) by decide +kernel]
  exact if_neg (by decide +kernel)
theorem sel_c_child (sel : Node → Err) (p q : Nat) (args : List Node) : selErrF sel (.list p (.symbol q [99, 104, 105, 108, 100] :: args)) = argsErr sel p (["selector"] : List Str) args := by
  unfold selErrF
  rw [(show headN (.list p (.symbol q [99, 104, 105, 108, 100] :: args)) = "child" from (enc_str _ _ (by decide +kernel)).mpr (by decide +kernel)), show selectorsT.lookup ("child" : Str) = some (["selector"] : List Str) by decide +kernel]
  exact if_neg (by decide +kernel)
theorem sel_c_descendant (sel : Node → Err) (p q : Nat) (args : List Node) : selErrF sel (.list p (.symbol q [100, 101, 115, 99, 101, 110, 100, 97, 110, 116] :: args)) = argsErr sel p (["selector"] : List Str) args := by
  unfold selErrF
  rw [(show headN (.list p (.symbol q [100, 101, 115, 99, 101, 110, 100, 97, 110, 116] :: args)) = "descendant" from (enc_str _ _ (by decide +kernel)).mpr (by decide +kernel)), show selectorsT.lookup ("descendant" : Str) = some (["selector"] : List Str) by decide +kernel]
  exact if_neg (by decide +kernel)
theorem sel_c_next (sel : Node → Err) (p q : Nat) (args : List Node) : selErrF sel (.list p (.symbol q [110, 101, 120, 116] :: args)) = argsErr sel p (["selector"] : List Str) args := by
  unfold selErrF
  rw [(show headN (.list p (.symbol q [110, 101, 120, 116] :: args)) = "next" from (enc_str _ _ (by decide +kernel)).mpr (by decide +kernel)), show selectorsT.lookup ("next" : Str) = some (["selector"] : List Str) by decide +kernel]
  exact if_neg (by decide +kernel)
theorem sel_c_previous (sel : Node → Err) (p q : Nat) (args : List Node) : selErrF sel (.list p (.symbol q [112, 114, 101, 118, 105, 111, 117, 115] :: args)) = argsErr sel p (["selector"] : List Str) args := by
  unfold selErrF
  rw [(show headN (.list p (.symbol q [112, 114, 101, 118, 105, 111, 117, 115] :: args)) = "previous" from (enc_str _ _ (by decide +kernel)).mpr (by decide +kernel)), show selectorsT.lookup ("previous" : Str) = some (["selector"] : List Str) by decide +kernel]
  exact if_neg (by decide +kernel)
theorem act_c_remove (p q : Nat) (args : List Node) : actErr (.list p (.symbol q [114, 101, 109, 111, 118, 101] :: args)) = argsErr (fun _ => none) p ([] : List Str) args := by
  unfold actErr
  rw [(show headN (.list p (.symbol q [114, 101, 109, 111, 118, 101] :: args)) = "remove" from (enc_str _ _ (by decide +kernel)).mpr (by decide +kernel)), show actionsT.lookup ("remove" : Str) = some ([] : List Str) by decide +kernel]
  exact if_neg (by decide +kernel)
theorem act_c_unwrap (p q : Nat) (args : List Node) : actErr (.list p (.symbol q [117, 110, 119, 114, 97, 112] :: args)) = argsErr (fun _ => none) p ([] : List Str) args := by
  unfold actErr
  rw [(show headN (.list p (.symbol q [117, 110, 119, 114, 97, 112] :: args)) = "unwrap" from (enc_str _ _ (by decide +kernel)).mpr (by decide +kernel)), show actionsT.lookup ("unwrap" : Str) = some ([] : List Str) by decide +kernel]
  exact if_neg (by decide +kernel)
theorem act_c_raise (p q : Nat) (args : List Node) : actErr (.list p (.symbol q [114, 97, 105, 115, 101] :: args)) = argsErr (fun _ => none) p ([] : List Str) args := by
  unfold actErr
  rw [(show headN (.list p (.symbol q [114, 97, 105, 115, 101] :: args)) = "raise" from (enc_str _ _ (by decide +kernel)).mpr (by decide +kernel)), show actionsT.lookup ("raise" : Str) = some ([] : List Str) by decide +kernel]
  exact if_neg (by decide +kernel)
theorem act_c_lower (p q : Nat) (args : List Node) : actErr (.list p (.symbol q [108, 111, 119, 101, 114] :: args)) = argsErr (fun _ => none) p ([] : List Str) args := by
  unfold actErr
  rw [(show headN (.list p (.symbol q [108, 111, 119, 101, 114] :: args)) = "lower" from (enc_str _ _ (by decide +kernel)).mpr (by decide +kernel)), show actionsT.lookup ("lower" : Str) = some ([] : List Str) by decide +kernel]
  exact if_neg (by decide +kernel)
theorem act_c_upper_case (p q : Nat) (args : List Node) : actErr (.list p (.symbol q [117, 112, 112, 101, 114, 45, 99, 97, 115, 101] :: args)) = argsErr (fun _ => none) p ([] : List Str) args := by
  unfold actErr
  rw [(show headN (.list p (.symbol q [117, 112, 112, 101, 114, 45, 99, 97, 115, 101] :: args)) = "upper-case" from (enc_str _ _ (by decide +kernel)).mpr (by decide +kernel)), show actionsT.lookup ("upper-case" : Str) = some ([] : List Str) by decide +kernel]
  exact if_neg (by decide +kernel)
theorem act_c_lower_case (p q : Nat) (args : List Node) : actErr (.list p (.symbol q [108, 111, 119, 101, 114, 45, 99, 97, 115, 101] :: args)) = argsErr (fun _ => none) p ([] : List Str) args := by
  unfold actErr
  rw [(show headN (.list p (.symbol q [108, 111, 119, 101, 114, 45, 99, 97, 115, 101] :: args)) = "lower-case" from (enc_str _ _ (by decide +kernel)).mpr (by decide +kernel)), show actionsT.lookup ("lower-case" : Str) = some ([] : List Str) by decide +kernel]
  exact if_neg (by decide +kernel)
theorem act_c_replace (p q : Nat) (args : List Node) : actErr (.list p (.symbol q [114, 101, 112, 108, 97, 99, 101] :: args)) = none := by
  unfold actErr
  rw [(show headN (.list p (.symbol q [114, 101, 112, 108, 97, 99, 101] :: args)) = "replace" from (enc_str _ _ (by decide +kernel)).mpr (by decide +kernel)), show actionsT.lookup ("replace" : Str) = some (["template"] : List Str) by decide +kernel]
  exact if_pos rfl
theorem act_c_before (p q : Nat) (args : List Node) : actErr (.list p (.symbol q [98, 101, 102, 111, 114, 101] :: args)) = none := by
  unfold actErr
  rw [(show headN (.list p (.symbol q [98, 101, 102, 111, 114, 101] :: args)) = "before" from (enc_str _ _ (by decide +kernel)).mpr (by decide +kernel)), show actionsT.lookup ("before" : Str) = some (["template"] : List Str) by decide +kernel]
  exact if_pos rfl
theorem act_c_after (p q : Nat) (args : List Node) : actErr (.list p (.symbol q [97, 102, 116, 101, 114] :: args)) = none := by
  unfold actErr
  rw [(show headN (.list p (.symbol q [97, 102, 116, 101, 114] :: args)) = "after" from (enc_str _ _ (by decide +kernel)).mpr (by decide +kernel)), show actionsT.lookup ("after" : Str) = some (["template"] : List Str) by decide +kernel]
  exact if_pos rfl
theorem act_c_set_level (p q : Nat) (args : List Node) : actErr (.list p (.symbol q [115, 101, 116, 45, 108, 101, 118, 101, 108] :: args)) = argsErr (fun _ => none) p (["level"] : List Str) args := by
  unfold actErr
  rw [(show headN (.list p (.symbol q [115, 101, 116, 45, 108, 101, 118, 101, 108] :: args)) = "set-level" from (enc_str _ _ (by decide +kernel)).mpr (by decide +kernel)), show actionsT.lookup ("set-level" : Str) = some (["level"] : List Str) by decide +kernel]
  exact if_neg (by decide +kernel)
theorem act_c_set_label (p q : Nat) (args : List Node) : actErr (.list p (.symbol q [115, 101, 116, 45, 108, 97, 98, 101, 108] :: args)) = argsErr (fun _ => none) p (["identifier"] : List Str) args := by
  unfold actErr
  rw [(show headN (.list p (.symbol q [115, 101, 116, 45, 108, 97, 98, 101, 108] :: args)) = "set-label" from (enc_str _ _ (by decide +kernel)).mpr (by decide +kernel)), show actionsT.lookup ("set-label" : Str) = some (["identifier"] : List Str) by decide +kernel]
  exact if_neg (by decide +kernel)
theorem act_c_add_class (p q : Nat) (args : List Node) : actErr (.list p (.symbol q [97, 100, 100, 45, 99, 108, 97, 115, 115] :: args)) = argsErr (fun _ => none) p (["label"] : List Str) args := by
  unfold actErr
  rw [(show headN (.list p (.symbol q [97, 100, 100, 45, 99, 108, 97, 115, 115] :: args)) = "add-class" from (enc_str _ _ (by decide +kernel)).mpr (by decide +kernel)), show actionsT.lookup ("add-class" : Str) = some (["label"] : List Str) by decide +kernel]
  exact if_neg (by decide +kernel)
theorem act_c_remove_class (p q : Nat) (args : List Node) : actErr (.list p (.symbol q [114, 101, 109, 111, 118, 101, 45, 99, 108, 97, 115, 115] :: args)) = argsErr (fun _ => none) p (["label"] : List Str) args := by
  unfold actErr
  rw [(show headN (.list p (.symbol q [114, 101, 109, 111, 118, 101, 45, 99, 108, 97, 115, 115] :: args)) = "remove-class" from (enc_str _ _ (by decide +kernel)).mpr (by decide +kernel)), show actionsT.lookup ("remove-class" : Str) = some (["label"] : List Str) by decide +kernel]
  exact if_neg (by decide +kernel)
theorem act_c_set_target (p q : Nat) (args : List Node) : actErr (.list p (.symbol q [115, 101, 116, 45, 116, 97, 114, 103, 101, 116] :: args)) = argsErr (fun _ => none) p (["string"] : List Str) args := by
  unfold actErr
  rw [(show headN (.list p (.symbol q [115, 101, 116, 45, 116, 97, 114, 103, 101, 116] :: args)) = "set-target" from (enc_str _ _ (by decide +kernel)).mpr (by decide +kernel)), show actionsT.lookup ("set-target" : Str) = some (["string"] : List Str) by decide +kernel]
  exact if_neg (by decide +kernel)
theorem act_c_replace_text (p q : Nat) (args : List Node) : actErr (.list p (.symbol q [114, 101, 112, 108, 97, 99, 101, 45, 116, 101, 120, 116] :: args)) = argsErr (fun _ => none) p (["filled", "string"] : List Str) args := by
  unfold actErr
  rw [(show headN (.list p (.symbol q [114, 101, 112, 108, 97, 99, 101, 45, 116, 101, 120, 116] :: args)) = "replace-text" from (enc_str _ _ (by decide +kernel)).mpr (by decide +kernel)), show actionsT.lookup ("replace-text" : Str) = some (["filled", "string"] : List Str) by decide +kernel]
  exact if_neg (by decide +kernel)
theorem sel_other (sel : Node → Err) (p q : Nat) (name : List Nat) (args : List Node) (h0 : ¬ name = [97, 110, 121]) (h1 : ¬ name = [101, 109, 112, 116, 121]) (h2 : ¬ name = [102, 105, 114, 115, 116]) (h3 : ¬ name = [108, 97, 115, 116]) (h4 : ¬ name = [107, 105, 110, 100]) (h5 : ¬ name = [108, 101, 118, 101, 108]) (h6 : ¬ name = [105, 110, 100, 101, 120]) (h7 : ¬ name = [108, 97, 98, 101, 108]) (h8 : ¬ name = [99, 108, 97, 115, 115]) (h9 : ¬ name = [116, 97, 114, 103, 101, 116]) (h10 : ¬ name = [116, 101, 120, 116]) (h11 : ¬ name = [97, 110, 100]) (h12 : ¬ name = [111, 114]) (h13 : ¬ name = [110, 111, 116]) (h14 : ¬ name = [112, 97, 114, 101, 110, 116]) (h15 : ¬ name = [97, 110, 99, 101, 115, 116, 111, 114]) (h16 : ¬ name = [99, 104, 105, 108, 100]) (h17 : ¬ name = [100, 101, 115, 99, 101, 110, 100, 97, 110, 116]) (h18 : ¬ name = [110, 101, 120, 116]) (h19 : ¬ name = [112, 114, 101, 118, 105, 111, 117, 115]) : selErrF sel (.list p (.symbol q name :: args)) = some (7, p) := by
  unfold selErrF
  rw [show selectorsT.lookup (headN (.list p (.symbol q name :: args))) = none from lookup_none (fun r hr => ?_)]
  · rfl
  have pl : (selectorsT.all fun r => plain r.1.cps.toList && decide (r.1.cps.toList ∈ ([[97, 110, 121], [101, 109, 112, 116, 121], [102, 105, 114, 115, 116], [108, 97, 115, 116], [107, 105, 110, 100], [108, 101, 118, 101, 108], [105, 110, 100, 101, 120], [108, 97, 98, 101, 108], [99, 108, 97, 115, 115], [116, 97, 114, 103, 101, 116], [116, 101, 120, 116], [97, 110, 100], [111, 114], [110, 111, 116], [112, 97, 114, 101, 110, 116], [97, 110, 99, 101, 115, 116, 111, 114], [99, 104, 105, 108, 100], [100, 101, 115, 99, 101, 110, 100, 97, 110, 116], [110, 101, 120, 116], [112, 114, 101, 118, 105, 111, 117, 115]] : List (List Nat)))) = true := by decide +kernel
  have q1 := List.all_eq_true.mp pl r hr
  rw [Bool.and_eq_true, decide_eq_true_eq] at q1
  intro e
  have q2 := (enc_str name r.1 q1.1).mp e.symm
  rw [← q2] at q1
  simp only [List.mem_cons, List.not_mem_nil, or_false] at q1
  rcases q1.2 with e | e | e | e | e | e | e | e | e | e | e | e | e | e | e | e | e | e | e | e
  · exact h0 e
  · exact h1 e
  · exact h2 e
  · exact h3 e
  · exact h4 e
  · exact h5 e
  · exact h6 e
  · exact h7 e
  · exact h8 e
  · exact h9 e
  · exact h10 e
  · exact h11 e
  · exact h12 e
  · exact h13 e
  · exact h14 e
  · exact h15 e
  · exact h16 e
  · exact h17 e
  · exact h18 e
  · exact h19 e
theorem act_other (p q : Nat) (name : List Nat) (args : List Node) (h0 : ¬ name = [114, 101, 109, 111, 118, 101]) (h1 : ¬ name = [117, 110, 119, 114, 97, 112]) (h2 : ¬ name = [114, 97, 105, 115, 101]) (h3 : ¬ name = [108, 111, 119, 101, 114]) (h4 : ¬ name = [117, 112, 112, 101, 114, 45, 99, 97, 115, 101]) (h5 : ¬ name = [108, 111, 119, 101, 114, 45, 99, 97, 115, 101]) (h6 : ¬ name = [114, 101, 112, 108, 97, 99, 101]) (h7 : ¬ name = [98, 101, 102, 111, 114, 101]) (h8 : ¬ name = [97, 102, 116, 101, 114]) (h9 : ¬ name = [115, 101, 116, 45, 108, 101, 118, 101, 108]) (h10 : ¬ name = [115, 101, 116, 45, 108, 97, 98, 101, 108]) (h11 : ¬ name = [97, 100, 100, 45, 99, 108, 97, 115, 115]) (h12 : ¬ name = [114, 101, 109, 111, 118, 101, 45, 99, 108, 97, 115, 115]) (h13 : ¬ name = [115, 101, 116, 45, 116, 97, 114, 103, 101, 116]) (h14 : ¬ name = [114, 101, 112, 108, 97, 99, 101, 45, 116, 101, 120, 116]) : actErr (.list p (.symbol q name :: args)) = some (7, p) := by
  unfold actErr
  rw [show actionsT.lookup (headN (.list p (.symbol q name :: args))) = none from lookup_none (fun r hr => ?_)]
  · rfl
  have pl : (actionsT.all fun r => plain r.1.cps.toList && decide (r.1.cps.toList ∈ ([[114, 101, 109, 111, 118, 101], [117, 110, 119, 114, 97, 112], [114, 97, 105, 115, 101], [108, 111, 119, 101, 114], [117, 112, 112, 101, 114, 45, 99, 97, 115, 101], [108, 111, 119, 101, 114, 45, 99, 97, 115, 101], [114, 101, 112, 108, 97, 99, 101], [98, 101, 102, 111, 114, 101], [97, 102, 116, 101, 114], [115, 101, 116, 45, 108, 101, 118, 101, 108], [115, 101, 116, 45, 108, 97, 98, 101, 108], [97, 100, 100, 45, 99, 108, 97, 115, 115], [114, 101, 109, 111, 118, 101, 45, 99, 108, 97, 115, 115], [115, 101, 116, 45, 116, 97, 114, 103, 101, 116], [114, 101, 112, 108, 97, 99, 101, 45, 116, 101, 120, 116]] : List (List Nat)))) = true := by decide +kernel
  have q1 := List.all_eq_true.mp pl r hr
  rw [Bool.and_eq_true, decide_eq_true_eq] at q1
  intro e
  have q2 := (enc_str name r.1 q1.1).mp e.symm
  rw [← q2] at q1
  simp only [List.mem_cons, List.not_mem_nil, or_false] at q1
  rcases q1.2 with e | e | e | e | e | e | e | e | e | e | e | e | e | e | e
  · exact h0 e
  · exact h1 e
  · exact h2 e
  · exact h3 e
  · exact h4 e
  · exact h5 e
  · exact h6 e
  · exact h7 e
  · exact h8 e
  · exact h9 e
  · exact h10 e
  · exact h11 e
  · exact h12 e
  · exact h13 e
  · exact h14 e
end Ck
namespace Ck
open PySem PySem.Spec PyProof.Rows L2 RZ
open Kh450 (Node codesOf)
theorem sel_named (f p q : Nat) (name : List Nat) (args : List Node) (ih : ∀ a ∈ args, errOf (Kh453.toSelectorLoop f a) = selE f a) (gi : ∀ a ∈ args, intOk a = true) :
    errOf (Kh453.toSelectorLoop (f + 1) (.list p (.symbol q name :: args))) = selErrF (selE f) (.list p (.symbol q name :: args)) := by
  by_cases h0 : name = [97, 110, 121]
  · subst h0
    rw [sel_c_any]
    unfold Kh453.toSelectorLoop
    simp (decide := true) only [c_any, c_empty, c_first, c_last, c_kind, c_level, c_index, c_label, c_class, c_target, c_text, c_and, c_or, c_not, c_parent, c_ancestor, c_child, c_descendant, c_next, c_previous, if_true, if_false]
    rw [args0]
    exact eo_if _ _ _ _
  by_cases h1 : name = [101, 109, 112, 116, 121]
  · subst h1
    rw [sel_c_empty]
    unfold Kh453.toSelectorLoop
    simp (decide := true) only [c_any, c_empty, c_first, c_last, c_kind, c_level, c_index, c_label, c_class, c_target, c_text, c_and, c_or, c_not, c_parent, c_ancestor, c_child, c_descendant, c_next, c_previous, if_true, if_false]
    rw [args0]
    exact eo_if _ _ _ _
  by_cases h2 : name = [102, 105, 114, 115, 116]
  · subst h2
    rw [sel_c_first]
    unfold Kh453.toSelectorLoop
    simp (decide := true) only [c_any, c_empty, c_first, c_last, c_kind, c_level, c_index, c_label, c_class, c_target, c_text, c_and, c_or, c_not, c_parent, c_ancestor, c_child, c_descendant, c_next, c_previous, if_true, if_false]
    rw [args0]
    exact eo_if _ _ _ _
  by_cases h3 : name = [108, 97, 115, 116]
  · subst h3
    rw [sel_c_last]
    unfold Kh453.toSelectorLoop
    simp (decide := true) only [c_any, c_empty, c_first, c_last, c_kind, c_level, c_index, c_label, c_class, c_target, c_text, c_and, c_or, c_not, c_parent, c_ancestor, c_child, c_descendant, c_next, c_previous, if_true, if_false]
    rw [args0]
    exact eo_if _ _ _ _
  by_cases h4 : name = [107, 105, 110, 100]
  · subst h4
    rw [sel_c_kind]
    unfold Kh453.toSelectorLoop
    simp (decide := true) only [c_any, c_empty, c_first, c_last, c_kind, c_level, c_index, c_label, c_class, c_target, c_text, c_and, c_or, c_not, c_parent, c_ancestor, c_child, c_descendant, c_next, c_previous, if_true, if_false]
    rw [args1]
    match args, ih, gi with
    | [], _, _ => rfl
    | [x], _, _ =>
      dsimp only
      rw [ae_kind, kind_err]
      cases x with
      | symbol a b => exact eo_if _ _ _ _
      | integer a b => rfl
      | string a b => rfl
      | list a b => rfl
    | a :: b :: c, _, _ => cases a <;> rfl
  by_cases h5 : name = [108, 101, 118, 101, 108]
  · subst h5
    rw [sel_c_level]
    unfold Kh453.toSelectorLoop
    simp (decide := true) only [c_any, c_empty, c_first, c_last, c_kind, c_level, c_index, c_label, c_class, c_target, c_text, c_and, c_or, c_not, c_parent, c_ancestor, c_child, c_descendant, c_next, c_previous, if_true, if_false]
    rw [args2]
    match args, ih, gi with
    | [], _, _ => rfl
    | [x], _, _ => rfl
    | [x, y], _, _ =>
      dsimp only
      rw [ae_int _ _ _ "level" (by decide +kernel) (by decide +kernel) (.inl rfl), ae_int _ _ _ "level" (by decide +kernel) (by decide +kernel) (.inl rfl), form_level, form_level]
      exact eo_bind _ _ _ fun _ => eo_map _ _
    | a :: b :: c :: d, _, _ => rfl
  by_cases h6 : name = [105, 110, 100, 101, 120]
  · subst h6
    rw [sel_c_index]
    unfold Kh453.toSelectorLoop
    simp (decide := true) only [c_any, c_empty, c_first, c_last, c_kind, c_level, c_index, c_label, c_class, c_target, c_text, c_and, c_or, c_not, c_parent, c_ancestor, c_child, c_descendant, c_next, c_previous, if_true, if_false]
    rw [args1]
    match args, ih, gi with
    | [], _, _ => rfl
    | [x], ih, gi =>
      dsimp only
      rw [ae_int _ _ _ "integer" (by decide +kernel) (by decide +kernel) (.inr rfl), form_index x (gi x (List.mem_singleton.mpr rfl))]
      exact eo_map _ _
    | a :: b :: c, _, _ => rfl
  by_cases h7 : name = [108, 97, 98, 101, 108]
  · subst h7
    rw [sel_c_label]
    unfold Kh453.toSelectorLoop
    simp (decide := true) only [c_any, c_empty, c_first, c_last, c_kind, c_level, c_index, c_label, c_class, c_target, c_text, c_and, c_or, c_not, c_parent, c_ancestor, c_child, c_descendant, c_next, c_previous, if_true, if_false]
    rw [args1]
    match args, ih, gi with
    | [], _, _ => rfl
    | [x], ih, gi =>
      dsimp only
      rw [ae_str _ _ _ "identifier" (by decide +kernel) (by decide +kernel) (by decide +kernel), form_ident]
      exact eo_map _ _
    | a :: b :: c, _, _ => rfl
  by_cases h8 : name = [99, 108, 97, 115, 115]
  · subst h8
    rw [sel_c_class]
    unfold Kh453.toSelectorLoop
    simp (decide := true) only [c_any, c_empty, c_first, c_last, c_kind, c_level, c_index, c_label, c_class, c_target, c_text, c_and, c_or, c_not, c_parent, c_ancestor, c_child, c_descendant, c_next, c_previous, if_true, if_false]
    rw [args1]
    match args, ih, gi with
    | [], _, _ => rfl
    | [x], ih, gi =>
      dsimp only
      rw [ae_str _ _ _ "label" (by decide +kernel) (by decide +kernel) (by decide +kernel), form_label]
      exact eo_map _ _
    | a :: b :: c, _, _ => rfl
  by_cases h9 : name = [116, 97, 114, 103, 101, 116]
  · subst h9
    rw [sel_c_target]
    unfold Kh453.toSelectorLoop
    simp (decide := true) only [c_any, c_empty, c_first, c_last, c_kind, c_level, c_index, c_label, c_class, c_target, c_text, c_and, c_or, c_not, c_parent, c_ancestor, c_child, c_descendant, c_next, c_previous, if_true, if_false]
    rw [args1]
    match args, ih, gi with
    | [], _, _ => rfl
    | [x], ih, gi =>
      dsimp only
      rw [ae_str _ _ _ "string" (by decide +kernel) (by decide +kernel) (by decide +kernel), form_string]
      exact eo_map _ _
    | a :: b :: c, _, _ => rfl
  by_cases h10 : name = [116, 101, 120, 116]
  · subst h10
    rw [sel_c_text]
    unfold Kh453.toSelectorLoop
    simp (decide := true) only [c_any, c_empty, c_first, c_last, c_kind, c_level, c_index, c_label, c_class, c_target, c_text, c_and, c_or, c_not, c_parent, c_ancestor, c_child, c_descendant, c_next, c_previous, if_true, if_false]
    rw [args1]
    match args, ih, gi with
    | [], _, _ => rfl
    | [x], ih, gi =>
      dsimp only
      rw [ae_str _ _ _ "string" (by decide +kernel) (by decide +kernel) (by decide +kernel), form_string]
      exact eo_map _ _
    | a :: b :: c, _, _ => rfl
  by_cases h11 : name = [97, 110, 100]
  · subst h11
    rw [sel_c_and]
    unfold Kh453.toSelectorLoop
    simp (decide := true) only [c_any, c_empty, c_first, c_last, c_kind, c_level, c_index, c_label, c_class, c_target, c_text, c_and, c_or, c_not, c_parent, c_ancestor, c_child, c_descendant, c_next, c_previous, if_true, if_false]
    rw [eo_map, eo_collect]
    exact fe_congr ih
  by_cases h12 : name = [111, 114]
  · subst h12
    rw [sel_c_or]
    unfold Kh453.toSelectorLoop
    simp (decide := true) only [c_any, c_empty, c_first, c_last, c_kind, c_level, c_index, c_label, c_class, c_target, c_text, c_and, c_or, c_not, c_parent, c_ancestor, c_child, c_descendant, c_next, c_previous, if_true, if_false]
    rw [eo_map, eo_collect]
    exact fe_congr ih
  by_cases h13 : name = [110, 111, 116]
  · subst h13
    rw [sel_c_not]
    unfold Kh453.toSelectorLoop
    simp (decide := true) only [c_any, c_empty, c_first, c_last, c_kind, c_level, c_index, c_label, c_class, c_target, c_text, c_and, c_or, c_not, c_parent, c_ancestor, c_child, c_descendant, c_next, c_previous, if_true, if_false]
    rw [args1]
    match args, ih, gi with
    | [], _, _ => rfl
    | [x], ih, gi =>
      dsimp only
      rw [ae_sel, eo_map]
      exact ih x (List.mem_singleton.mpr rfl)
    | a :: b :: c, _, _ => rfl
  by_cases h14 : name = [112, 97, 114, 101, 110, 116]
  · subst h14
    rw [sel_c_parent]
    unfold Kh453.toSelectorLoop
    simp (decide := true) only [c_any, c_empty, c_first, c_last, c_kind, c_level, c_index, c_label, c_class, c_target, c_text, c_and, c_or, c_not, c_parent, c_ancestor, c_child, c_descendant, c_next, c_previous, if_true, if_false]
    rw [args1]
    match args, ih, gi with
    | [], _, _ => rfl
    | [x], ih, gi =>
      dsimp only
      rw [ae_sel, eo_map]
      exact ih x (List.mem_singleton.mpr rfl)
    | a :: b :: c, _, _ => rfl
  by_cases h15 : name = [97, 110, 99, 101, 115, 116, 111, 114]
  · subst h15
    rw [sel_c_ancestor]
    unfold Kh453.toSelectorLoop
    simp (decide := true) only [c_any, c_empty, c_first, c_last, c_kind, c_level, c_index, c_label, c_class, c_target, c_text, c_and, c_or, c_not, c_parent, c_ancestor, c_child, c_descendant, c_next, c_previous, if_true, if_false]
    rw [args1]
    match args, ih, gi with
    | [], _, _ => rfl
    | [x], ih, gi =>
      dsimp only
      rw [ae_sel, eo_map]
      exact ih x (List.mem_singleton.mpr rfl)
    | a :: b :: c, _, _ => rfl
  by_cases h16 : name = [99, 104, 105, 108, 100]
  · subst h16
    rw [sel_c_child]
    unfold Kh453.toSelectorLoop
    simp (decide := true) only [c_any, c_empty, c_first, c_last, c_kind, c_level, c_index, c_label, c_class, c_target, c_text, c_and, c_or, c_not, c_parent, c_ancestor, c_child, c_descendant, c_next, c_previous, if_true, if_false]
    rw [args1]
    match args, ih, gi with
    | [], _, _ => rfl
    | [x], ih, gi =>
      dsimp only
      rw [ae_sel, eo_map]
      exact ih x (List.mem_singleton.mpr rfl)
    | a :: b :: c, _, _ => rfl
  by_cases h17 : name = [100, 101, 115, 99, 101, 110, 100, 97, 110, 116]
  · subst h17
    rw [sel_c_descendant]
    unfold Kh453.toSelectorLoop
    simp (decide := true) only [c_any, c_empty, c_first, c_last, c_kind, c_level, c_index, c_label, c_class, c_target, c_text, c_and, c_or, c_not, c_parent, c_ancestor, c_child, c_descendant, c_next, c_previous, if_true, if_false]
    rw [args1]
    match args, ih, gi with
    | [], _, _ => rfl
    | [x], ih, gi =>
      dsimp only
      rw [ae_sel, eo_map]
      exact ih x (List.mem_singleton.mpr rfl)
    | a :: b :: c, _, _ => rfl
  by_cases h18 : name = [110, 101, 120, 116]
  · subst h18
    rw [sel_c_next]
    unfold Kh453.toSelectorLoop
    simp (decide := true) only [c_any, c_empty, c_first, c_last, c_kind, c_level, c_index, c_label, c_class, c_target, c_text, c_and, c_or, c_not, c_parent, c_ancestor, c_child, c_descendant, c_next, c_previous, if_true, if_false]
    rw [args1]
    match args, ih, gi with
    | [], _, _ => rfl
    | [x], ih, gi =>
      dsimp only
      rw [ae_sel, eo_map]
      exact ih x (List.mem_singleton.mpr rfl)
    | a :: b :: c, _, _ => rfl
  by_cases h19 : name = [112, 114, 101, 118, 105, 111, 117, 115]
  · subst h19
    rw [sel_c_previous]
    unfold Kh453.toSelectorLoop
    simp (decide := true) only [c_any, c_empty, c_first, c_last, c_kind, c_level, c_index, c_label, c_class, c_target, c_text, c_and, c_or, c_not, c_parent, c_ancestor, c_child, c_descendant, c_next, c_previous, if_true, if_false]
    rw [args1]
    match args, ih, gi with
    | [], _, _ => rfl
    | [x], ih, gi =>
      dsimp only
      rw [ae_sel, eo_map]
      exact ih x (List.mem_singleton.mpr rfl)
    | a :: b :: c, _, _ => rfl
  rw [sel_other _ p q name args h0 h1 h2 h3 h4 h5 h6 h7 h8 h9 h10 h11 h12 h13 h14 h15 h16 h17 h18 h19]
  unfold Kh453.toSelectorLoop
  simp only [c_any, c_empty, c_first, c_last, c_kind, c_level, c_index, c_label, c_class, c_target, c_text, c_and, c_or, c_not, c_parent, c_ancestor, c_child, c_descendant, c_next, c_previous, show (name == [97, 110, 121]) = false from by simpa using h0, show (name == [101, 109, 112, 116, 121]) = false from by simpa using h1, show (name == [102, 105, 114, 115, 116]) = false from by simpa using h2, show (name == [108, 97, 115, 116]) = false from by simpa using h3, show (name == [107, 105, 110, 100]) = false from by simpa using h4, show (name == [108, 101, 118, 101, 108]) = false from by simpa using h5, show (name == [105, 110, 100, 101, 120]) = false from by simpa using h6, show (name == [108, 97, 98, 101, 108]) = false from by simpa using h7, show (name == [99, 108, 97, 115, 115]) = false from by simpa using h8, show (name == [116, 97, 114, 103, 101, 116]) = false from by simpa using h9, show (name == [116, 101, 120, 116]) = false from by simpa using h10, show (name == [97, 110, 100]) = false from by simpa using h11, show (name == [111, 114]) = false from by simpa using h12, show (name == [110, 111, 116]) = false from by simpa using h13, show (name == [112, 97, 114, 101, 110, 116]) = false from by simpa using h14, show (name == [97, 110, 99, 101, 115, 116, 111, 114]) = false from by simpa using h15, show (name == [99, 104, 105, 108, 100]) = false from by simpa using h16, show (name == [100, 101, 115, 99, 101, 110, 100, 97, 110, 116]) = false from by simpa using h17, show (name == [110, 101, 120, 116]) = false from by simpa using h18, show (name == [112, 114, 101, 118, 105, 111, 117, 115]) = false from by simpa using h19, Bool.false_eq_true, if_false]
  rfl
theorem act_named (p q : Nat) (name : List Nat) (args : List Node) : errOf (Kh453.toAction (.list p (.symbol q name :: args))) = actErr (.list p (.symbol q name :: args)) := by
  have ih : True := trivial
  have gi : True := trivial
  by_cases h0 : name = [114, 101, 109, 111, 118, 101]
  · subst h0
    rw [act_c_remove]
    unfold Kh453.toAction
    simp (decide := true) only [c_remove, c_unwrap, c_raise, c_lower, c_upper_case, c_lower_case, c_replace, c_before, c_after, c_set_level, c_set_label, c_add_class, c_remove_class, c_set_target, c_replace_text, if_true, if_false]
    rw [args0]
    exact eo_if _ _ _ _
  by_cases h1 : name = [117, 110, 119, 114, 97, 112]
  · subst h1
    rw [act_c_unwrap]
    unfold Kh453.toAction
    simp (decide := true) only [c_remove, c_unwrap, c_raise, c_lower, c_upper_case, c_lower_case, c_replace, c_before, c_after, c_set_level, c_set_label, c_add_class, c_remove_class, c_set_target, c_replace_text, if_true, if_false]
    rw [args0]
    exact eo_if _ _ _ _
  by_cases h2 : name = [114, 97, 105, 115, 101]
  · subst h2
    rw [act_c_raise]
    unfold Kh453.toAction
    simp (decide := true) only [c_remove, c_unwrap, c_raise, c_lower, c_upper_case, c_lower_case, c_replace, c_before, c_after, c_set_level, c_set_label, c_add_class, c_remove_class, c_set_target, c_replace_text, if_true, if_false]
    rw [args0]
    exact eo_if _ _ _ _
  by_cases h3 : name = [108, 111, 119, 101, 114]
  · subst h3
    rw [act_c_lower]
    unfold Kh453.toAction
    simp (decide := true) only [c_remove, c_unwrap, c_raise, c_lower, c_upper_case, c_lower_case, c_replace, c_before, c_after, c_set_level, c_set_label, c_add_class, c_remove_class, c_set_target, c_replace_text, if_true, if_false]
    rw [args0]
    exact eo_if _ _ _ _
  by_cases h4 : name = [117, 112, 112, 101, 114, 45, 99, 97, 115, 101]
  · subst h4
    rw [act_c_upper_case]
    unfold Kh453.toAction
    simp (decide := true) only [c_remove, c_unwrap, c_raise, c_lower, c_upper_case, c_lower_case, c_replace, c_before, c_after, c_set_level, c_set_label, c_add_class, c_remove_class, c_set_target, c_replace_text, if_true, if_false]
    rw [args0]
    exact eo_if _ _ _ _
  by_cases h5 : name = [108, 111, 119, 101, 114, 45, 99, 97, 115, 101]
  · subst h5
    rw [act_c_lower_case]
    unfold Kh453.toAction
    simp (decide := true) only [c_remove, c_unwrap, c_raise, c_lower, c_upper_case, c_lower_case, c_replace, c_before, c_after, c_set_level, c_set_label, c_add_class, c_remove_class, c_set_target, c_replace_text, if_true, if_false]
    rw [args0]
    exact eo_if _ _ _ _
  by_cases h6 : name = [114, 101, 112, 108, 97, 99, 101]
  · subst h6
    rw [act_c_replace]
    unfold Kh453.toAction
    simp (decide := true) only [c_remove, c_unwrap, c_raise, c_lower, c_upper_case, c_lower_case, c_replace, c_before, c_after, c_set_level, c_set_label, c_add_class, c_remove_class, c_set_target, c_replace_text, if_true, if_false]
    rfl
  by_cases h7 : name = [98, 101, 102, 111, 114, 101]
  · subst h7
    rw [act_c_before]
    unfold Kh453.toAction
    simp (decide := true) only [c_remove, c_unwrap, c_raise, c_lower, c_upper_case, c_lower_case, c_replace, c_before, c_after, c_set_level, c_set_label, c_add_class, c_remove_class, c_set_target, c_replace_text, if_true, if_false]
    rfl
  by_cases h8 : name = [97, 102, 116, 101, 114]
  · subst h8
    rw [act_c_after]
    unfold Kh453.toAction
    simp (decide := true) only [c_remove, c_unwrap, c_raise, c_lower, c_upper_case, c_lower_case, c_replace, c_before, c_after, c_set_level, c_set_label, c_add_class, c_remove_class, c_set_target, c_replace_text, if_true, if_false]
    rfl
  by_cases h9 : name = [115, 101, 116, 45, 108, 101, 118, 101, 108]
  · subst h9
    rw [act_c_set_level]
    unfold Kh453.toAction
    simp (decide := true) only [c_remove, c_unwrap, c_raise, c_lower, c_upper_case, c_lower_case, c_replace, c_before, c_after, c_set_level, c_set_label, c_add_class, c_remove_class, c_set_target, c_replace_text, if_true, if_false]
    rw [args1]
    match args, ih, gi with
    | [], _, _ => rfl
    | [x], ih, gi =>
      dsimp only
      rw [ae_int _ _ _ "level" (by decide +kernel) (by decide +kernel) (.inl rfl), form_level]
      exact eo_map _ _
    | a :: b :: c, _, _ => rfl
  by_cases h10 : name = [115, 101, 116, 45, 108, 97, 98, 101, 108]
  · subst h10
    rw [act_c_set_label]
    unfold Kh453.toAction
    simp (decide := true) only [c_remove, c_unwrap, c_raise, c_lower, c_upper_case, c_lower_case, c_replace, c_before, c_after, c_set_level, c_set_label, c_add_class, c_remove_class, c_set_target, c_replace_text, if_true, if_false]
    rw [args1]
    match args, ih, gi with
    | [], _, _ => rfl
    | [x], ih, gi =>
      dsimp only
      rw [ae_str _ _ _ "identifier" (by decide +kernel) (by decide +kernel) (by decide +kernel), form_ident]
      exact eo_map _ _
    | a :: b :: c, _, _ => rfl
  by_cases h11 : name = [97, 100, 100, 45, 99, 108, 97, 115, 115]
  · subst h11
    rw [act_c_add_class]
    unfold Kh453.toAction
    simp (decide := true) only [c_remove, c_unwrap, c_raise, c_lower, c_upper_case, c_lower_case, c_replace, c_before, c_after, c_set_level, c_set_label, c_add_class, c_remove_class, c_set_target, c_replace_text, if_true, if_false]
    rw [args1]
    match args, ih, gi with
    | [], _, _ => rfl
    | [x], ih, gi =>
      dsimp only
      rw [ae_str _ _ _ "label" (by decide +kernel) (by decide +kernel) (by decide +kernel), form_label]
      exact eo_map _ _
    | a :: b :: c, _, _ => rfl
  by_cases h12 : name = [114, 101, 109, 111, 118, 101, 45, 99, 108, 97, 115, 115]
  · subst h12
    rw [act_c_remove_class]
    unfold Kh453.toAction
    simp (decide := true) only [c_remove, c_unwrap, c_raise, c_lower, c_upper_case, c_lower_case, c_replace, c_before, c_after, c_set_level, c_set_label, c_add_class, c_remove_class, c_set_target, c_replace_text, if_true, if_false]
    rw [args1]
    match args, ih, gi with
    | [], _, _ => rfl
    | [x], ih, gi =>
      dsimp only
      rw [ae_str _ _ _ "label" (by decide +kernel) (by decide +kernel) (by decide +kernel), form_label]
      exact eo_map _ _
    | a :: b :: c, _, _ => rfl
  by_cases h13 : name = [115, 101, 116, 45, 116, 97, 114, 103, 101, 116]
  · subst h13
    rw [act_c_set_target]
    unfold Kh453.toAction
    simp (decide := true) only [c_remove, c_unwrap, c_raise, c_lower, c_upper_case, c_lower_case, c_replace, c_before, c_after, c_set_level, c_set_label, c_add_class, c_remove_class, c_set_target, c_replace_text, if_true, if_false]
    rw [args1]
    match args, ih, gi with
    | [], _, _ => rfl
    | [x], ih, gi =>
      dsimp only
      rw [ae_str _ _ _ "string" (by decide +kernel) (by decide +kernel) (by decide +kernel), form_string]
      exact eo_map _ _
    | a :: b :: c, _, _ => rfl
  by_cases h14 : name = [114, 101, 112, 108, 97, 99, 101, 45, 116, 101, 120, 116]
  · subst h14
    rw [act_c_replace_text]
    unfold Kh453.toAction
    simp (decide := true) only [c_remove, c_unwrap, c_raise, c_lower, c_upper_case, c_lower_case, c_replace, c_before, c_after, c_set_level, c_set_label, c_add_class, c_remove_class, c_set_target, c_replace_text, if_true, if_false]
    rw [args2]
    match args, ih, gi with
    | [], _, _ => rfl
    | [x], _, _ => rfl
    | [x, y], _, _ =>
      dsimp only
      rw [ae_str _ _ _ "filled" (by decide +kernel) (by decide +kernel) (by decide +kernel), ae_str _ _ _ "string" (by decide +kernel) (by decide +kernel) (by decide +kernel), form_filled, form_string]
      cases Kh450.stringOf x with
      | error e => rfl
      | ok old =>
        show errOf (if old.isEmpty = true then Kh450.fail 9 x.position else _) = both (errOf (if old.isEmpty = true then Kh450.fail 9 x.position else Except.ok old)) _
        by_cases hc : old.isEmpty = true
        · rw [if_pos hc, if_pos hc]
          rfl
        · rw [if_neg hc, if_neg hc]
          exact eo_map _ _
    | a :: b :: c :: d, _, _ => rfl
  rw [act_other p q name args h0 h1 h2 h3 h4 h5 h6 h7 h8 h9 h10 h11 h12 h13 h14]
  unfold Kh453.toAction
  simp only [c_remove, c_unwrap, c_raise, c_lower, c_upper_case, c_lower_case, c_replace, c_before, c_after, c_set_level, c_set_label, c_add_class, c_remove_class, c_set_target, c_replace_text, show (name == [114, 101, 109, 111, 118, 101]) = false from by simpa using h0, show (name == [117, 110, 119, 114, 97, 112]) = false from by simpa using h1, show (name == [114, 97, 105, 115, 101]) = false from by simpa using h2, show (name == [108, 111, 119, 101, 114]) = false from by simpa using h3, show (name == [117, 112, 112, 101, 114, 45, 99, 97, 115, 101]) = false from by simpa using h4, show (name == [108, 111, 119, 101, 114, 45, 99, 97, 115, 101]) = false from by simpa using h5, show (name == [114, 101, 112, 108, 97, 99, 101]) = false from by simpa using h6, show (name == [98, 101, 102, 111, 114, 101]) = false from by simpa using h7, show (name == [97, 102, 116, 101, 114]) = false from by simpa using h8, show (name == [115, 101, 116, 45, 108, 101, 118, 101, 108]) = false from by simpa using h9, show (name == [115, 101, 116, 45, 108, 97, 98, 101, 108]) = false from by simpa using h10, show (name == [97, 100, 100, 45, 99, 108, 97, 115, 115]) = false from by simpa using h11, show (name == [114, 101, 109, 111, 118, 101, 45, 99, 108, 97, 115, 115]) = false from by simpa using h12, show (name == [115, 101, 116, 45, 116, 97, 114, 103, 101, 116]) = false from by simpa using h13, show (name == [114, 101, 112, 108, 97, 99, 101, 45, 116, 101, 120, 116]) = false from by simpa using h14, Bool.false_eq_true, if_false]
  rfl
theorem sel_eq : ∀ (f : Nat) (n : Node), depthN n < f → intOk n = true → errOf (Kh453.toSelectorLoop f n) = selE f n
  | 0, n, h, _ => absurd h (Nat.not_lt_zero _)
  | f + 1, n, h, g => by
    show _ = selErrF (selE f) n
    cases n with
    | symbol p s => rw [sel_no _ _ rfl]; rfl
    | integer p s => rw [sel_no _ _ rfl]; rfl
    | string p s => rw [sel_no _ _ rfl]; rfl
    | list p l =>
      cases l with
      | nil => rw [sel_no _ _ rfl]; rfl
      | cons x args =>
        cases x with
        | integer q s => rw [sel_no _ _ rfl]; rfl
        | string q s => rw [sel_no _ _ rfl]; rfl
        | list q s => rw [sel_no _ _ rfl]; rfl
        | symbol q name =>
          have d : depthN (.list p (.symbol q name :: args)) = 1 + max 0 (depthsN args) := by rw [depthN, depthsN]; rfl
          have gi : ∀ a ∈ args, intOk a = true := (intsOk_iff args).mp (by
            have : intsOk (.symbol q name :: args) = true := g
            rw [intsOk, Bool.and_eq_true] at this
            exact this.2)
          refine sel_named f p q name args (fun a ha => sel_eq f a ?_ (gi a ha)) gi
          have := le_depthsN ha
          omega
theorem act_eq (n : Node) : errOf (Kh453.toAction n) = actErr n := by
  cases n with
  | symbol p s => rw [act_no _ rfl]; rfl
  | integer p s => rw [act_no _ rfl]; rfl
  | string p s => rw [act_no _ rfl]; rfl
  | list p l =>
    cases l with
    | nil => rw [act_no _ rfl]; rfl
    | cons x args =>
      cases x with
      | integer q s => rw [act_no _ rfl]; rfl
      | string q s => rw [act_no _ rfl]; rfl
      | list q s => rw [act_no _ rfl]; rfl
      | symbol q name => exact act_named p q name args
end Ck
namespace Ck
open PySem PySem.Spec PyProof.Rows L2 RZ
open Kh450 (Node codesOf)
def stepNames : List Str := ["blocks", "inlines", "repeat", "when"]
def stepCodes : List (List Nat) := [[98, 108, 111, 99, 107, 115], [105, 110, 108, 105, 110, 101, 115], [114, 101, 112, 101, 97, 116], [119, 104, 101, 110]]
theorem step_no (sel stp : Node → Err) (n : Node) (h : headN n ∉ stepNames) : stepErrF sel stp n = some (7, n.position) := if_neg h
theorem step_no0 (sel stp : Node → Err) (n : Node) (h : headN n = "") : stepErrF sel stp n = some (7, n.position) := if_neg (by rw [h]; decide +kernel)
theorem step_in (sel stp : Node → Err) (p q : Nat) (name : List Nat) (args : List Node) (z : Str) (hz : z ∈ stepNames) (hh : headN (.list p (.symbol q name :: args)) = z) : stepErrF sel stp (.list p (.symbol q name :: args)) =
    match args with
    | [] => some (8, p)
    | a :: r => both (if z = "repeat" then repErr a else sel a) (if z = "repeat" ∨ z = "when" then firstErr stp r else firstErr actErr r) := by
  unfold stepErrF
  rw [hh]
  refine (if_pos hz).trans ?_
  cases args with
  | nil => rfl
  | cons a r => rfl
theorem rep_eq (n : Node) : repErr n = errOf (Kh453.numberIn 1 50 n) := by
  unfold repErr
  rcases sh_int n with ⟨p, v, rfl⟩ | h
  · rw [sInt]
    show (if 1 ≤ v ∧ v ≤ 50 then none else some (9, p)) = errOf (if 1 ≤ v ∧ v ≤ 50 then _ else _)
    split <;> rfl
  · rw [h, num_bad (not_int h)]
theorem step_eq : ∀ (f : Nat) (n : Node), depthN n ≤ f → f ≤ 16 → intOk n = true → errOf (Kh453.toStepLoop f n) = stpE (f + 1) n := by
  have emp : ("" : Str) ∉ stepNames := by decide +kernel
  intro f
  induction f with
  | zero =>
    intro n h _ _
    show some (7, n.position) = stepErrF _ _ n
    rw [step_no]
    cases n with
    | list p l => exact absurd h (by rw [depthN]; omega)
    | symbol p s => exact emp
    | integer p s => exact emp
    | string p s => exact emp
  | succ f ih =>
    intro n h h16 g
    show _ = stepErrF (selE 17) (stpE (f + 1)) n
    cases n with
    | symbol p s => rw [step_no0 _ _ _ rfl]; rfl
    | integer p s => rw [step_no0 _ _ _ rfl]; rfl
    | string p s => rw [step_no0 _ _ _ rfl]; rfl
    | list p l =>
      cases l with
      | nil => rw [step_no0 _ _ _ rfl]; rfl
      | cons x args =>
        cases x with
        | integer q s => rw [step_no0 _ _ _ rfl]; rfl
        | string q s => rw [step_no0 _ _ _ rfl]; rfl
        | list q s => rw [step_no0 _ _ _ rfl]; rfl
        | symbol q name =>
          have d : depthN (.list p (.symbol q name :: args)) = 1 + max 0 (depthsN args) := by rw [depthN, depthsN]; rfl
          have gi : ∀ a ∈ args, intOk a = true := (intsOk_iff args).mp (by
            have : intsOk (.symbol q name :: args) = true := g
            rw [intsOk, Bool.and_eq_true] at this
            exact this.2)
          have dl : ∀ a ∈ args, depthN a ≤ f := fun a ha => by
            have := le_depthsN ha
            omega
          have sE : ∀ a ∈ args, errOf (Kh453.toSelector a) = selE 17 a := fun a ha => sel_eq 17 a (by have := dl a ha; omega) (gi a ha)
          have cs : ∀ r : List Node, (∀ a ∈ r, a ∈ args) → errOf (Kh450.collect (Kh453.toStepLoop f) r) = firstErr (stpE (f + 1)) r := fun r hr => by
            rw [eo_collect]
            exact fe_congr fun a ha => ih a (dl a (hr a ha)) (by omega) (gi a (hr a ha))
          have ca : ∀ r : List Node, errOf (Kh450.collect Kh453.toAction r) = firstErr actErr r := fun r => by
            rw [eo_collect]
            exact fe_congr fun a _ => act_eq a
          have nm : ∀ z : Str, plain z.cps.toList = true → (headN (.list p (.symbol q name :: args)) = z ↔ name = z.cps.toList) := fun z hz => enc_str name z hz
          by_cases k1 : name = [98, 108, 111, 99, 107, 115]
          · rw [step_in _ _ _ _ _ _ "blocks" (by decide +kernel) ((nm "blocks" (by decide +kernel)).mpr (by rw [k1]; decide +kernel))]
            subst k1
            unfold Kh453.toStepLoop
            cases args with
            | nil =>
              simp (decide := true) only [Kh453.isIn, List.any_cons, List.any_nil, if_true]
              rfl
            | cons a r =>
              simp (decide := true) only [if_true, if_false]
              refine (eo_bind _ _ (errOf (Kh450.collect Kh453.toAction r)) fun _ => eo_map _ _).trans ?_
              rw [ca, sE a List.mem_cons_self]
          by_cases k2 : name = [105, 110, 108, 105, 110, 101, 115]
          · rw [step_in _ _ _ _ _ _ "inlines" (by decide +kernel) ((nm "inlines" (by decide +kernel)).mpr (by rw [k2]; decide +kernel))]
            subst k2
            unfold Kh453.toStepLoop
            cases args with
            | nil =>
              simp (decide := true) only [Kh453.isIn, List.any_cons, List.any_nil, if_true]
              rfl
            | cons a r =>
              simp (decide := true) only [if_true, if_false]
              refine (eo_bind _ _ (errOf (Kh450.collect Kh453.toAction r)) fun _ => eo_map _ _).trans ?_
              rw [ca, sE a List.mem_cons_self]
          by_cases k3 : name = [114, 101, 112, 101, 97, 116]
          · rw [step_in _ _ _ _ _ _ "repeat" (by decide +kernel) ((nm "repeat" (by decide +kernel)).mpr (by rw [k3]; decide +kernel))]
            subst k3
            unfold Kh453.toStepLoop
            cases args with
            | nil =>
              simp (decide := true) only [Kh453.isIn, List.any_cons, List.any_nil, if_true]
              rfl
            | cons a r =>
              simp (decide := true) only [if_true, if_false]
              refine (eo_bind _ _ (errOf (Kh450.collect (Kh453.toStepLoop f) r)) fun _ => eo_map _ _).trans ?_
              rw [cs r fun a ha => List.mem_cons_of_mem _ ha, rep_eq]
          by_cases k4 : name = [119, 104, 101, 110]
          · rw [step_in _ _ _ _ _ _ "when" (by decide +kernel) ((nm "when" (by decide +kernel)).mpr (by rw [k4]; decide +kernel))]
            subst k4
            unfold Kh453.toStepLoop
            cases args with
            | nil =>
              simp (decide := true) only [Kh453.isIn, List.any_cons, List.any_nil, if_true]
              rfl
            | cons a r =>
              simp (decide := true) only [if_true, if_false]
              refine (eo_bind _ _ (errOf (Kh450.collect (Kh453.toStepLoop f) r)) fun _ => eo_map _ _).trans ?_
              rw [cs r fun a ha => List.mem_cons_of_mem _ ha, sE a List.mem_cons_self]
          rw [step_no]
          · unfold Kh453.toStepLoop
            have e1 : (name == [98, 108, 111, 99, 107, 115]) = false := by simpa using k1
            have e2 : (name == [105, 110, 108, 105, 110, 101, 115]) = false := by simpa using k2
            have e3 : (name == [114, 101, 112, 101, 97, 116]) = false := by simpa using k3
            have e4 : (name == [119, 104, 101, 110]) = false := by simpa using k4
            have f1 : ([98, 108, 111, 99, 107, 115] == name) = false := by simpa using fun q => k1 q.symm
            have f2 : ([105, 110, 108, 105, 110, 101, 115] == name) = false := by simpa using fun q => k2 q.symm
            have f3 : ([114, 101, 112, 101, 97, 116] == name) = false := by simpa using fun q => k3 q.symm
            have f4 : ([119, 104, 101, 110] == name) = false := by simpa using fun q => k4 q.symm
            cases args with
            | nil =>
              simp only [Kh453.isIn, List.any_cons, List.any_nil, c_blocks, c_inlines, c_repeat, c_when, f1, f2, f3, f4, Bool.or_false, Bool.false_eq_true, if_false]
              rfl
            | cons a r =>
              simp only [c_blocks, c_inlines, c_repeat, c_when, e1, e2, e3, e4, Bool.false_eq_true, if_false]
              rfl
          · intro hm
            simp only [stepNames, List.mem_cons, List.not_mem_nil, or_false] at hm
            rcases hm with e | e | e | e
            · exact k1 (((nm "blocks" (by decide +kernel)).mp e).trans (by decide +kernel))
            · exact k2 (((nm "inlines" (by decide +kernel)).mp e).trans (by decide +kernel))
            · exact k3 (((nm "repeat" (by decide +kernel)).mp e).trans (by decide +kernel))
            · exact k4 (((nm "when" (by decide +kernel)).mp e).trans (by decide +kernel))
theorem okS_of : ∀ (f : Nat) (n : Node), depthN n < f → okS f n
  | 0, n, h => absurd h (Nat.not_lt_zero _)
  | f + 1, n, h => fun c hc => okS_of f c (by
    cases n with
    | list p l =>
      have := le_depthsN (List.mem_of_mem_drop hc)
      rw [depthN] at h
      have : depthN c ≤ depthsN l := this
      omega
    | symbol p s => cases hc
    | integer p s => cases hc
    | string p s => cases hc)
theorem okT_of : ∀ (f : Nat) (n : Node), depthN n < f → f ≤ 17 → okT f n
  | 0, n, h, _ => absurd h (Nat.not_lt_zero _)
  | f + 1, n, h, h17 => by
    have kid : ∀ c ∈ kids n, depthN c < f := fun c hc => by
      cases n with
      | list p l =>
        have : depthN c ≤ depthsN l := le_depthsN hc
        rw [depthN] at h
        omega
      | symbol p s => cases hc
      | integer p s => cases hc
      | string p s => cases hc
    exact ⟨fun c hc => okS_of 17 c (by have := kid c (List.mem_of_getElem? hc); omega), fun c hc => okT_of f c (kid c (List.mem_of_mem_drop hc)) (by omega)⟩
/-- what check answers is what is due -/
theorem due_eq (ns : List Int) (h : ∀ x ∈ ns, 0 ≤ x ∧ x ≤ 255) : dueC (stpE 17) (ns.map Int.toNat) = (PyKh453.check ns).map V.int := by
  have e0 : PyKh453.check ns = Kh453Neutral.integers (Kh453.answer (.check (ns.map Int.toNat))) := rfl
  rw [e0]
  show _ = (Kh453Neutral.integers (match Kh453.parseProgram (ns.map Int.toNat) with | .error e => { value := e.1, rest := [e.2] } | .ok l => { value := 0, rest := [l.length] })).map V.int
  unfold dueC Kh453.parseProgram Kh453.parseWith
  cases e : Kh450.readAll (ns.map Int.toNat) with
  | error k rest => rfl
  | ok nodes rest =>
    have g := readAll_good e
    dsimp only
    have ce : errOf (Kh450.collect (Kh453.toStepLoop Kh450.maxDepth) nodes) = firstErr (stpE 17) nodes := by
      rw [eo_collect]
      exact fe_congr fun a ha => step_eq 16 a (g a ha).1 (Nat.le_refl _) (g a ha).2
    rw [← ce]
    cases e2 : Kh450.collect (Kh453.toStepLoop Kh450.maxDepth) nodes with
    | error q => rfl
    | ok l =>
      have len : ∀ {α β : Type} (f : α → Kh450.Checked β) (xs : List α) (ys : List β), Kh450.collect f xs = .ok ys → ys.length = xs.length := by
        intro α β f xs
        induction xs with
        | nil => intro ys h; cases h; rfl
        | cons x r ih =>
          intro ys h
          rw [Kh450.collect] at h
          cases e3 : f x with
          | error q => rw [e3] at h; cases h
          | ok y =>
            rw [e3] at h
            have h : (Kh450.collect f r).map (fun ys => y :: ys) = .ok ys := h
            cases e4 : Kh450.collect f r with
            | error q => rw [e4] at h; cases h
            | ok zs =>
              rw [e4] at h
              cases h
              rw [List.length_cons, List.length_cons, ih zs e4]
      show [V.int 0, V.int (nodes.length : Nat)] = [V.int 0, V.int ((l.length : Nat) : Int)]
      rw [len _ _ _ e2]
end Ck
set_option maxHeartbeats 0
open PySem PySem.W PyProof.Rows
theorem Ck.byteN (x : Int) (h : 0 ≤ x ∧ x ≤ 255) : x.toNat < 256 := by omega
theorem Ck.caseS : ∀ (K : PySem.W.Frag) (H : L2.Hp) (xs : List L2.V) (a : Codec.denoteAll PySem.Challenge.rw_treefiltersdesk_s01_check.args), L2.OnlyF H → Codec.withinAll PySem.Challenge.rw_treefiltersdesk_s01_check.args a = true → Codec.app PySem.Challenge.rw_treefiltersdesk_s01_check.args PySem.Challenge.rw_treefiltersdesk_s01_check.asked a = true → L2.DwAll K H xs (Codec.encAll PySem.Challenge.rw_treefiltersdesk_s01_check.args a) →
      Ck.spCheck K (Ck.okT 17) (Ck.stpE 17) xs H (fun v H' => L2.Dw K H' v (PySem.Challenge.rw_treefiltersdesk_s01_check.ret.enc (Codec.app PySem.Challenge.rw_treefiltersdesk_s01_check.args PySem.Challenge.rw_treefiltersdesk_s01_check.f a))) fun _ _ _ => False := by
    intro K H xs a hO hwi hask hx
    cases hx with
    | cons h1 h2 =>
      cases h2
      cases h1 with
      | lst hs ha =>
        have e := L2.ints_dw a.1 _ ha
        subst e
        have w1 : (decide (0 ≤ (a.1 : List Int).length) && decide ((a.1 : List Int).length ≤ 600)) = true ∧ ∀ x ∈ (a.1 : List Int), 0 ≤ x ∧ x ≤ 255 := by
          obtain ⟨z, _⟩ := Bool.and_eq_true_iff.mp (show (Codec.within (.list 0 600 (.int 0 255)) a.1 && Codec.withinAll [] a.2) = true from hwi)
          obtain ⟨z1, z2⟩ := Bool.and_eq_true_iff.mp z
          refine ⟨z1, fun x hx => ?_⟩
          have q := List.all_eq_true.mp z2 x hx
          have q2 : (decide ((0 : Int) ≤ x) && decide (x ≤ 255)) = true := q
          simpa using q2
        obtain ⟨w2, w3⟩ := w1
        have ev : List.map L2.V.int (a.1 : List Int) = Ck.vI ((a.1 : List Int).map Int.toNat) := by
          unfold Ck.vI
          rw [List.map_map]
          refine List.map_congr_left fun x hx => ?_
          show L2.V.int x = L2.V.int ((x.toNat : Nat) : Int)
          rw [Int.toNat_of_nonneg (w3 x hx).1]
        refine ⟨_, (a.1 : List Int).map Int.toNat, rfl, by rw [← ev]; exact hs, fun b hb => ?_, ?_, fun ns rest e n hn => Ck.okT_of 17 n (by have := (Ck.readAll_good e n hn).1; omega) (Nat.le_refl _), fun H' p hp => ?_⟩
        · obtain ⟨x, hx, rfl⟩ := List.mem_map.mp hb
          exact Ck.byteN x (w3 x hx)
        · rw [List.length_map]
          rw [Bool.and_eq_true, decide_eq_true_eq, decide_eq_true_eq] at w2
          exact w2.2
        · rw [Ck.due_eq _ w3] at hp
          exact .lst (L2.SqL.of hp) (L2.dw_ints _)
theorem Ck.says_of {K : PySem.W.Frag} {w : World} (h : He.obsT Ck.fa Ck.fn Ck.ts K = He.valT Ck.fn Ck.ts w) : He.SaysT Ck.fa Ck.fn Ck.ts w K := h
set_option maxHeartbeats 0
open PySem PySem.W PyProof.Rows
theorem PySem.Challenge.cw_treefiltersdesk_s01_check_holds : PySem.Challenge.rw_treefiltersdesk_s01_check.Holds := by
  w_on; k_headS; (case hw => exact ⟨[.list []], by decide +kernel, by decide +kernel⟩)
  k_fillS
  refine L2.walk_specK (r := PySem.Challenge.rw_treefiltersdesk_s01_check) (k := 76) (CX := L2.CX0) (ps := ["program"]) (sp := fun K => Ck.spCheck K (Ck.okT 17) (Ck.stpE 17)) (by decide +kernel) rfl rfl ⟨rfl, by decide, by decide⟩ (fun w h Y => PySem.W.kIn_of Y) ?F ?S (fun _ _ _ _ z => z)
  case F =>
    intro w mg fa h Y KX G hmg
    refine Ck.all_mk KX G hmg ?c1 ?c2
    case c1 => exact Ck.says_of (by kernel_rfl)
    case c2 => kernel_rfl
  case S => exact Ck.caseS
